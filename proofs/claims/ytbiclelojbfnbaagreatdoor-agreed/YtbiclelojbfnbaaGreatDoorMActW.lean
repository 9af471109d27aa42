import Derived.Test.YtbiclelojbfnbaaGreatDoorMWays2
namespace Go.Proofs.YtbiclelojbfnbaaGreatDoor
set_option linter.unusedVariables false
set_option linter.unusedSimpArgs false
set_option maxRecDepth 100000
set_option maxHeartbeats 4000000
open Go.RowKit
attribute [local go_sem ↓] Go.wp_at_zero Go.wp_at_succ
theorem actS_eq (i:Ins) (m:MS) (arg:List UInt8):actS i m arg=(actR m.st i.tag arg i.at_).map (stL m):=by
 unfold actS actR
 split <;> rfl
theorem StPost.cases {r:Except FZ SS} {B sb:Nat} {M:Msg} {w w':World} {e:Ending} (h:StPost r B sb M w e w'):Fr (PSt B) w w'∧((∃ s,r=.ok s∧e=.returned (.tuple #[])∧SAt w' B sb M s)∨∃ f,r=.error f∧ThrewZ f w e w'):=by
 obtain ⟨hf,h⟩:=h
 cases r with
 | ok s=>exact ⟨hf,Or.inl ⟨s,rfl,h⟩⟩
 | error f=>exact ⟨hf,Or.inr ⟨f,rfl,h⟩⟩
theorem act_way (i:Ins) (av bv:Value) (B xb sb:Nat) (M:Msg) (m:MS) (count:Nat) (w:World) (h:MAt w B xb sb M m count) (ho:InsOk w i av bv) :
  Calls Tryz.prog 194 #[.pointer (some ⟨xb,0,none⟩),insV i av bv] w (MPost (doAct i m) B xb sb M count w):=by
 obtain ⟨aa,ac,hav⟩:=ho.a.len
 obtain ⟨ba,bc,hbv⟩:=ho.b.len
 subst hav hbv
 have HM:=hide h
 have HO:=hide ho
 have hxl:xb < w.heap.size:=cell_lt h.now
 have hnow:=(h.box (.cells #[.int .i64 i.op,.int .i64 i.n,.int .i64 i.tag,.bool i.oct,.slice aa i.a.length ac,.slice ba i.b.length bc,.int .i64 i.at_] 62)).now
 have HMD:=hide (h.below (below_box (.cells #[.int .i64 i.op,.int .i64 i.n,.int .i64 i.tag,.bool i.oct,.slice aa i.a.length ac,.slice ba i.b.length bc,.int .i64 i.at_] 62)))
 have HOD:=hide (ho.below (below_box (.cells #[.int .i64 i.op,.int .i64 i.n,.int .i64 i.tag,.bool i.oct,.slice aa i.a.length ac,.slice ba i.b.length bc,.int .i64 i.at_] 62)))
 clear h ho
 unfold insV
 have e1:=intEq i.tag 1
 have e2:=intEq i.tag 2
 have e3:=intEq i.tag 3
 have e4:=intEq i.tag 4
 by_cases t1:i.tag=1
 ·have HR:Hid (doAct i m=(actR m.st i.tag [] i.at_).map (stL m)):=by show _=_;unfold doAct;rw [if_pos t1,actS_eq]
  rw [decide_eq_true t1] at e1
  have HAC:=hide (act_st B sb M m.st i.tag i.at_ [] (w.alloc (.cells #[.int .i64 i.op,.int .i64 i.n,.int .i64 i.tag,.bool i.oct,.slice aa i.a.length ac,.slice ba i.b.length bc,.int .i64 i.at_] 62)).drew HMD.out.sat (by decide))
  clear t1
  go_enter Tryz.func194,Tryz.ntmps194
  go_wp2_with fail
  refine wp_region_held (S:=fun w'=>w'.cell? ⟨xb,0,none⟩=some (.pointer (some ⟨sb,0,none⟩))∧w'.cell? ⟨w.heap.size,2,none⟩=some (.int .i64 i.tag)∧w'.cell? ⟨w.heap.size,6,none⟩=some (.int .i64 i.at_)) (by kernel_rfl) ?_
  have hS:(w.alloc (.cells #[.int .i64 i.op,.int .i64 i.n,.int .i64 i.tag,.bool i.oct,.slice aa i.a.length ac,.slice ba i.b.length bc,.int .i64 i.at_] 62)).drew.cell? ⟨xb,0,none⟩=some (.pointer (some ⟨sb,0,none⟩))∧(w.alloc (.cells #[.int .i64 i.op,.int .i64 i.n,.int .i64 i.tag,.bool i.oct,.slice aa i.a.length ac,.slice ba i.b.length bc,.int .i64 i.at_] 62)).drew.cell? ⟨w.heap.size,2,none⟩=some (.int .i64 i.tag)∧(w.alloc (.cells #[.int .i64 i.op,.int .i64 i.n,.int .i64 i.tag,.bool i.oct,.slice aa i.a.length ac,.slice ba i.b.length bc,.int .i64 i.at_] 62)).drew.cell? ⟨w.heap.size,6,none⟩=some (.int .i64 i.at_):=⟨(box_kept HMD.out (Fr.refl _ _)).1,(box_kept HMD.out (Fr.refl _ _)).2 2,(box_kept HMD.out (Fr.refl _ _)).2 6⟩
  refine wpAnyH_take (i:=0) (v:=.pointer (some ⟨xb,0,none⟩)) rfl (by kernel_rfl) (by kernel_rfl) (by kernel_rfl) (fun _ _ _ h=>h) (Or.inl ⟨by rfl,?_⟩) hS ?_
  ·intro w' hSw;obtain ⟨s1,s2,s3⟩:=hSw;go_simp
  change wpAnyH _ _ _ _ _ _ _ (Act.put _ (some 10) _) _
  simp only [Act.put,List.setIfInBounds_toArray,List.set_cons_zero,List.set_cons_succ]
  refine wpAnyH_take (i:=1) (v:=.pointer (some ⟨xb,0,none⟩)) rfl (by kernel_rfl) (by kernel_rfl) (by kernel_rfl) (fun _ _ _ h=>h) (Or.inl ⟨by rfl,?_⟩) hS ?_
  ·intro w' hSw;obtain ⟨s1,s2,s3⟩:=hSw;go_simp
  change wpAnyH _ _ _ _ _ _ _ (Act.put _ (some 11) _) _
  simp only [Act.put,List.setIfInBounds_toArray,List.set_cons_zero,List.set_cons_succ]
  refine wpAnyH_take (i:=2) (v:=.pointer (some ⟨xb,0,none⟩)) rfl (by kernel_rfl) (by kernel_rfl) (by kernel_rfl) (fun _ _ _ h=>h) (Or.inl ⟨by rfl,?_⟩) hS ?_
  ·intro w' hSw;obtain ⟨s1,s2,s3⟩:=hSw;go_simp
  change wpAnyH _ _ _ _ _ _ _ (Act.put _ (some 12) _) _
  simp only [Act.put,List.setIfInBounds_toArray,List.set_cons_zero,List.set_cons_succ]
  refine wpAnyH_take (i:=3) (v:=.pointer (some ⟨sb,0,none⟩)) rfl (by kernel_rfl) (by kernel_rfl) (by kernel_rfl) (fun _ _ _ h=>h) (Or.inl ⟨by rfl,?_⟩) hS ?_
  ·intro w' hSw;obtain ⟨s1,s2,s3⟩:=hSw;go_simp
  change wpAnyH _ _ _ _ _ _ _ (Act.put _ (some 13) _) _
  simp only [Act.put,List.setIfInBounds_toArray,List.set_cons_zero,List.set_cons_succ]
  refine wpAnyH_take (i:=4) (v:=.pointer (some ⟨w.heap.size,2,none⟩)) rfl (by kernel_rfl) (by kernel_rfl) (by kernel_rfl) (fun _ _ _ h=>h) (Or.inl ⟨by rfl,?_⟩) hS ?_
  ·intro w' hSw;obtain ⟨s1,s2,s3⟩:=hSw;go_simp
  change wpAnyH _ _ _ _ _ _ _ (Act.put _ (some 14) _) _
  simp only [Act.put,List.setIfInBounds_toArray,List.set_cons_zero,List.set_cons_succ]
  refine wpAnyH_take (i:=5) (v:=.int .i64 i.tag) rfl (by kernel_rfl) (by kernel_rfl) (by kernel_rfl) (fun _ _ _ h=>h) (Or.inl ⟨by rfl,?_⟩) hS ?_
  ·intro w' hSw;obtain ⟨s1,s2,s3⟩:=hSw;go_simp
  change wpAnyH _ _ _ _ _ _ _ (Act.put _ (some 15) _) _
  simp only [Act.put,List.setIfInBounds_toArray,List.set_cons_zero,List.set_cons_succ]
  refine wpAnyH_take (i:=6) (v:=.pointer (some ⟨w.heap.size,6,none⟩)) rfl (by kernel_rfl) (by kernel_rfl) (by kernel_rfl) (fun _ _ _ h=>h) (Or.inl ⟨by rfl,?_⟩) hS ?_
  ·intro w' hSw;obtain ⟨s1,s2,s3⟩:=hSw;go_simp
  change wpAnyH _ _ _ _ _ _ _ (Act.put _ (some 16) _) _
  simp only [Act.put,List.setIfInBounds_toArray,List.set_cons_zero,List.set_cons_succ]
  refine wpAnyH_take (i:=7) (v:=.int .i64 i.at_) rfl (by kernel_rfl) (by kernel_rfl) (by kernel_rfl) (fun _ _ _ h=>h) (Or.inl ⟨by rfl,?_⟩) hS ?_
  ·intro w' hSw;obtain ⟨s1,s2,s3⟩:=hSw;go_simp
  change wpAnyH _ _ _ _ _ _ _ (Act.put _ (some 17) _) _
  simp only [Act.put,List.setIfInBounds_toArray,List.set_cons_zero,List.set_cons_succ]
  clear hS
  refine wpAnyH_all (rs:=[8]) (by kernel_rfl) (by decide) (fun j hj=>?_)
  simp only [List.mem_singleton] at hj
  subst hj
  refine wpOp_of rfl (by rfl) ?_
  go_simp
  refine HAC.out.mono ?_
  intro e w2 h2
  rcases h2.cases with ⟨hf,⟨s',hr,rfl,hs⟩ | ⟨f,hr,bb,hz,rfl,hcc⟩⟩
  rotate_left
  ·exact ⟨rfl,by rw [HR.out,hr];exact MPost.from (MPost.err rfl (hf.mono (fun _ _=>PMc.st)) ⟨bb,hz,rfl,hcc⟩) (Fr.of_below (below_box _))⟩
  have HM2:=hide (HMD.out.st' hs hf)
  have HF2:=hide (hf.mono (fun _ _=>PMc.st (xb:=xb)))
  have HRR:=hide hr
  have HK2:=hide (box_kept HM2.out HF2.out)
  clear hs hf h2 hr
  refine ⟨⟨(HK2.out).1,(HK2.out).2 2,(HK2.out).2 6⟩,wpAnyH_done (by kernel_rfl) ?_ _⟩
  try simp only [Act.put,List.setIfInBounds_toArray,List.set_cons_zero,List.set_cons_succ]
  go_wp2
  go_end0
  rw [HR.out,HRR.out]
  exact MPost.from (MPost.ok rfl HF2.out HM2.out) (Fr.of_below (below_box _))
 rw [decide_eq_false t1] at e1
 by_cases t24:2≤i.tag∧i.tag≤4
 rotate_left
 ·have HR:Hid (doAct i m=.error (12,(m.now:Int))):=by show _=_;unfold doAct failL;rw [if_neg t1,if_neg (fun h=>t24 ⟨h.1,h.2.1⟩)]
  rw [decide_eq_false (by omega)] at e2 e3 e4
  clear t1 t24
  go_enter Tryz.func194,Tryz.ntmps194
  go_wp2_with (go_at_call 199;refine (must_no _ _ _ hnow).mono ?_;rintro e w' ⟨⟨bb,hz,rfl,hcc⟩,hb⟩)
  exact ⟨rfl,by rw [HR.out];exact MPost.from (MPost.err rfl (Fr.of_below hb) ⟨bb,hz,rfl,hcc⟩) (fr_box _ _)⟩
 by_cases ha:i.a=[]
 ·have HR:Hid (doAct i m=.error (12,(m.now:Int))):=by show _=_;unfold doAct failL;rw [if_neg t1,if_neg (fun h=>h.2.2 ha)]
  have hz0:¬ (0:Int) < (i.a.length:Int):=by rw [ha];simp
  have hz1:¬ 0 < i.a.length:=by rw [ha];simp
  have hz2:decide (0 < i.a.length)=false:=decide_eq_false hz1
  rcases (by omega:i.tag=2∨i.tag=3∨i.tag=4) with tt | tt | tt
  ·rw [decide_eq_true tt] at e2
   rw [decide_eq_false (by omega)] at e3 e4
   clear t1 t24 tt ha
   go_enter Tryz.func194,Tryz.ntmps194
   go_wp2_with (go_at_call 199;refine (must_no _ _ _ hnow).mono ?_;rintro e w' ⟨⟨bb,hz,rfl,hcc⟩,hb⟩)
   exact ⟨rfl,by rw [HR.out];exact MPost.from (MPost.err rfl (Fr.of_below hb) ⟨bb,hz,rfl,hcc⟩) (fr_box _ _)⟩
  ·rw [decide_eq_true tt] at e3
   rw [decide_eq_false (by omega)] at e2 e4
   clear t1 t24 tt ha
   go_enter Tryz.func194,Tryz.ntmps194
   go_wp2_with (go_at_call 199;refine (must_no _ _ _ hnow).mono ?_;rintro e w' ⟨⟨bb,hz,rfl,hcc⟩,hb⟩)
   exact ⟨rfl,by rw [HR.out];exact MPost.from (MPost.err rfl (Fr.of_below hb) ⟨bb,hz,rfl,hcc⟩) (fr_box _ _)⟩
  ·rw [decide_eq_true tt] at e4
   rw [decide_eq_false (by omega)] at e2 e3
   clear t1 t24 tt ha
   go_enter Tryz.func194,Tryz.ntmps194
   go_wp2_with (go_at_call 199;refine (must_no _ _ _ hnow).mono ?_;rintro e w' ⟨⟨bb,hz,rfl,hcc⟩,hb⟩)
   exact ⟨rfl,by rw [HR.out];exact MPost.from (MPost.err rfl (Fr.of_below hb) ⟨bb,hz,rfl,hcc⟩) (fr_box _ _)⟩
 obtain ⟨x,r,hax⟩:∃ x r,i.a=x :: r:=by cases hh:i.a with | nil=>exact absurd hh ha | cons x r=>exact ⟨x,r,rfl⟩
 have HR:Hid (doAct i m=(actR m.st i.tag x i.at_).map (stL m)):=by show _=_;unfold doAct;rw [if_neg t1,if_pos ⟨t24.1,t24.2,ha⟩,hax,actS_eq];rfl
 have hxl2:=HO.out.al x (by rw [hax];simp)
 have HAC:=hide (act_st B sb M m.st i.tag i.at_ x (w.alloc (.cells #[.int .i64 i.op,.int .i64 i.n,.int .i64 i.tag,.bool i.oct,.slice aa i.a.length ac,.slice ba i.b.length bc,.int .i64 i.at_] 62)).drew HMD.out.sat (by omega))
 obtain ⟨g,hga,hgl,hgc⟩:=HO.out.a.get' 0 (by rw [hax];simp)
 have hgc':w.cell? ⟨g,0,none⟩=some (.string (strA x)):=by rw [hgc];congr 3;simp [hax]
 have hposN:0 < i.a.length:=by rw [hax];simp
 have hpos:(0:Int) < (i.a.length:Int):=by omega
 have hposd:decide (0 < i.a.length)=true:=decide_eq_true hposN
 have HGB:Hid (∀ W,Fr (PMc B xb) (w.alloc (.cells #[.int .i64 i.op,.int .i64 i.n,.int .i64 i.tag,.bool i.oct,.slice aa i.a.length ac,.slice ba i.b.length bc,.int .i64 i.at_] 62)).drew W→W.cell? ⟨g,0,none⟩=some (.string (strA x))):=fun W hf=>by
  have h1:=HOD.out.a.pm hf
  obtain ⟨g',hg',_,hc'⟩:=h1.get' 0 (by rw [hax];simp)
  rw [hga] at hg'
  injection hg' with hg'
  injection hg' with hg'
  subst hg'
  rw [hc'];congr 3;simp [hax]
 have hgne:¬ g=w.heap.size:=by omega
 clear hgc
 subst hga
 rcases (by omega:i.tag=2∨i.tag=3∨i.tag=4) with tt | tt | tt
 ·rw [decide_eq_true tt] at e2
  rw [decide_eq_false (by omega)] at e3 e4
  clear t1 t24 tt hax ha
  go_enter Tryz.func194,Tryz.ntmps194
  go_wp2_with (go_at_call 199;refine (must_true _ _).mono ?_;rintro e w' ⟨rfl,hww⟩;rw [hww];clear hww)
  refine wp_region_held (S:=fun w'=>w'.cell? ⟨xb,0,none⟩=some (.pointer (some ⟨sb,0,none⟩))∧w'.cell? ⟨w.heap.size,2,none⟩=some (.int .i64 i.tag)∧w'.cell? ⟨w.heap.size,4,none⟩=some (.slice (some ⟨g,0,none⟩) i.a.length ac)∧w'.cell? ⟨w.heap.size,6,none⟩=some (.int .i64 i.at_)∧w'.cell? ⟨g,0,none⟩=some (.string (strA x))) (by kernel_rfl) ?_
  have hS:(w.alloc (.cells #[.int .i64 i.op,.int .i64 i.n,.int .i64 i.tag,.bool i.oct,.slice (some ⟨g,0,none⟩) i.a.length ac,.slice ba i.b.length bc,.int .i64 i.at_] 62)).drew.cell? ⟨xb,0,none⟩=some (.pointer (some ⟨sb,0,none⟩))∧(w.alloc (.cells #[.int .i64 i.op,.int .i64 i.n,.int .i64 i.tag,.bool i.oct,.slice (some ⟨g,0,none⟩) i.a.length ac,.slice ba i.b.length bc,.int .i64 i.at_] 62)).drew.cell? ⟨w.heap.size,2,none⟩=some (.int .i64 i.tag)∧(w.alloc (.cells #[.int .i64 i.op,.int .i64 i.n,.int .i64 i.tag,.bool i.oct,.slice (some ⟨g,0,none⟩) i.a.length ac,.slice ba i.b.length bc,.int .i64 i.at_] 62)).drew.cell? ⟨w.heap.size,4,none⟩=some (.slice (some ⟨g,0,none⟩) i.a.length ac)∧(w.alloc (.cells #[.int .i64 i.op,.int .i64 i.n,.int .i64 i.tag,.bool i.oct,.slice (some ⟨g,0,none⟩) i.a.length ac,.slice ba i.b.length bc,.int .i64 i.at_] 62)).drew.cell? ⟨w.heap.size,6,none⟩=some (.int .i64 i.at_)∧(w.alloc (.cells #[.int .i64 i.op,.int .i64 i.n,.int .i64 i.tag,.bool i.oct,.slice (some ⟨g,0,none⟩) i.a.length ac,.slice ba i.b.length bc,.int .i64 i.at_] 62)).drew.cell? ⟨g,0,none⟩=some (.string (strA x)):=⟨(box_kept HMD.out (Fr.refl _ _)).1,(box_kept HMD.out (Fr.refl _ _)).2 2,(box_kept HMD.out (Fr.refl _ _)).2 4,(box_kept HMD.out (Fr.refl _ _)).2 6,HGB.out _ (Fr.refl _ _)⟩
  refine wpAnyH_take (i:=0) (v:=.pointer (some ⟨xb,0,none⟩)) rfl (by kernel_rfl) (by kernel_rfl) (by kernel_rfl) (fun _ _ _ h=>h) (Or.inl ⟨by rfl,?_⟩) hS ?_
  ·intro w' hSw;obtain ⟨s1,s2,s3,s4,s5⟩:=hSw;go_simp
  change wpAnyH _ _ _ _ _ _ _ (Act.put _ (some 29) _) _
  simp only [Act.put,List.setIfInBounds_toArray,List.set_cons_zero,List.set_cons_succ]
  refine wpAnyH_take (i:=1) (v:=.pointer (some ⟨xb,0,none⟩)) rfl (by kernel_rfl) (by kernel_rfl) (by kernel_rfl) (fun _ _ _ h=>h) (Or.inl ⟨by rfl,?_⟩) hS ?_
  ·intro w' hSw;obtain ⟨s1,s2,s3,s4,s5⟩:=hSw;go_simp
  change wpAnyH _ _ _ _ _ _ _ (Act.put _ (some 30) _) _
  simp only [Act.put,List.setIfInBounds_toArray,List.set_cons_zero,List.set_cons_succ]
  refine wpAnyH_take (i:=2) (v:=.pointer (some ⟨xb,0,none⟩)) rfl (by kernel_rfl) (by kernel_rfl) (by kernel_rfl) (fun _ _ _ h=>h) (Or.inl ⟨by rfl,?_⟩) hS ?_
  ·intro w' hSw;obtain ⟨s1,s2,s3,s4,s5⟩:=hSw;go_simp
  change wpAnyH _ _ _ _ _ _ _ (Act.put _ (some 31) _) _
  simp only [Act.put,List.setIfInBounds_toArray,List.set_cons_zero,List.set_cons_succ]
  refine wpAnyH_take (i:=3) (v:=.pointer (some ⟨sb,0,none⟩)) rfl (by kernel_rfl) (by kernel_rfl) (by kernel_rfl) (fun _ _ _ h=>h) (Or.inl ⟨by rfl,?_⟩) hS ?_
  ·intro w' hSw;obtain ⟨s1,s2,s3,s4,s5⟩:=hSw;go_simp
  change wpAnyH _ _ _ _ _ _ _ (Act.put _ (some 32) _) _
  simp only [Act.put,List.setIfInBounds_toArray,List.set_cons_zero,List.set_cons_succ]
  refine wpAnyH_take (i:=4) (v:=.pointer (some ⟨w.heap.size,2,none⟩)) rfl (by kernel_rfl) (by kernel_rfl) (by kernel_rfl) (fun _ _ _ h=>h) (Or.inl ⟨by rfl,?_⟩) hS ?_
  ·intro w' hSw;obtain ⟨s1,s2,s3,s4,s5⟩:=hSw;go_simp
  change wpAnyH _ _ _ _ _ _ _ (Act.put _ (some 33) _) _
  simp only [Act.put,List.setIfInBounds_toArray,List.set_cons_zero,List.set_cons_succ]
  refine wpAnyH_take (i:=5) (v:=.int .i64 i.tag) rfl (by kernel_rfl) (by kernel_rfl) (by kernel_rfl) (fun _ _ _ h=>h) (Or.inl ⟨by rfl,?_⟩) hS ?_
  ·intro w' hSw;obtain ⟨s1,s2,s3,s4,s5⟩:=hSw;go_simp
  change wpAnyH _ _ _ _ _ _ _ (Act.put _ (some 34) _) _
  simp only [Act.put,List.setIfInBounds_toArray,List.set_cons_zero,List.set_cons_succ]
  refine wpAnyH_take (i:=6) (v:=.pointer (some ⟨w.heap.size,4,none⟩)) rfl (by kernel_rfl) (by kernel_rfl) (by kernel_rfl) (fun _ _ _ h=>h) (Or.inl ⟨by rfl,?_⟩) hS ?_
  ·intro w' hSw;obtain ⟨s1,s2,s3,s4,s5⟩:=hSw;go_simp
  change wpAnyH _ _ _ _ _ _ _ (Act.put _ (some 35) _) _
  simp only [Act.put,List.setIfInBounds_toArray,List.set_cons_zero,List.set_cons_succ]
  refine wpAnyH_take (i:=7) (v:=.slice (some ⟨g,0,none⟩) i.a.length ac) rfl (by kernel_rfl) (by kernel_rfl) (by kernel_rfl) (fun _ _ _ h=>h) (Or.inl ⟨by rfl,?_⟩) hS ?_
  ·intro w' hSw;obtain ⟨s1,s2,s3,s4,s5⟩:=hSw;go_simp
  change wpAnyH _ _ _ _ _ _ _ (Act.put _ (some 36) _) _
  simp only [Act.put,List.setIfInBounds_toArray,List.set_cons_zero,List.set_cons_succ]
  refine wpAnyH_take (i:=8) (v:=.pointer (some ⟨g,0,none⟩)) rfl (by kernel_rfl) (by kernel_rfl) (by kernel_rfl) (fun _ _ _ h=>h) (Or.inl ⟨by rfl,?_⟩) hS ?_
  ·intro w' hSw;obtain ⟨s1,s2,s3,s4,s5⟩:=hSw;go_simp
  change wpAnyH _ _ _ _ _ _ _ (Act.put _ (some 37) _) _
  simp only [Act.put,List.setIfInBounds_toArray,List.set_cons_zero,List.set_cons_succ]
  refine wpAnyH_take (i:=9) (v:=.string (strA x)) rfl (by kernel_rfl) (by kernel_rfl) (by kernel_rfl) (fun _ _ _ h=>h) (Or.inl ⟨by rfl,?_⟩) hS ?_
  ·intro w' hSw;obtain ⟨s1,s2,s3,s4,s5⟩:=hSw;go_simp
  change wpAnyH _ _ _ _ _ _ _ (Act.put _ (some 38) _) _
  simp only [Act.put,List.setIfInBounds_toArray,List.set_cons_zero,List.set_cons_succ]
  refine wpAnyH_take (i:=10) (v:=.pointer (some ⟨w.heap.size,6,none⟩)) rfl (by kernel_rfl) (by kernel_rfl) (by kernel_rfl) (fun _ _ _ h=>h) (Or.inl ⟨by rfl,?_⟩) hS ?_
  ·intro w' hSw;obtain ⟨s1,s2,s3,s4,s5⟩:=hSw;go_simp
  change wpAnyH _ _ _ _ _ _ _ (Act.put _ (some 39) _) _
  simp only [Act.put,List.setIfInBounds_toArray,List.set_cons_zero,List.set_cons_succ]
  refine wpAnyH_take (i:=11) (v:=.int .i64 i.at_) rfl (by kernel_rfl) (by kernel_rfl) (by kernel_rfl) (fun _ _ _ h=>h) (Or.inl ⟨by rfl,?_⟩) hS ?_
  ·intro w' hSw;obtain ⟨s1,s2,s3,s4,s5⟩:=hSw;go_simp
  change wpAnyH _ _ _ _ _ _ _ (Act.put _ (some 40) _) _
  simp only [Act.put,List.setIfInBounds_toArray,List.set_cons_zero,List.set_cons_succ]
  clear hS
  refine wpAnyH_all (rs:=[12]) (by kernel_rfl) (by decide) (fun j hj=>?_)
  simp only [List.mem_singleton] at hj
  subst hj
  refine wpOp_of rfl (by rfl) ?_
  go_simp
  refine HAC.out.mono ?_
  intro e w2 h2
  rcases h2.cases with ⟨hf,⟨s',hr,rfl,hs⟩ | ⟨f,hr,bb,hz,rfl,hcc⟩⟩
  rotate_left
  ·exact ⟨rfl,by rw [HR.out,hr];exact MPost.from (MPost.err rfl (hf.mono (fun _ _=>PMc.st)) ⟨bb,hz,rfl,hcc⟩) (Fr.of_below (below_box _))⟩
  have HM2:=hide (HMD.out.st' hs hf)
  have HF2:=hide (hf.mono (fun _ _=>PMc.st (xb:=xb)))
  have HRR:=hide hr
  have HGB2:=hide (HGB.out w2 HF2.out)
  have HK2:=hide (box_kept HM2.out HF2.out)
  clear hs hf h2 hr
  refine ⟨⟨(HK2.out).1,(HK2.out).2 2,(HK2.out).2 4,(HK2.out).2 6,HGB2.out⟩,wpAnyH_done (by kernel_rfl) ?_ _⟩
  try simp only [Act.put,List.setIfInBounds_toArray,List.set_cons_zero,List.set_cons_succ]
  go_wp2
  go_end0
  rw [HR.out,HRR.out]
  exact MPost.from (MPost.ok rfl HF2.out HM2.out) (Fr.of_below (below_box _))
 ·rw [decide_eq_true tt] at e3
  rw [decide_eq_false (by omega)] at e2 e4
  clear t1 t24 tt hax ha
  go_enter Tryz.func194,Tryz.ntmps194
  go_wp2_with (go_at_call 199;refine (must_true _ _).mono ?_;rintro e w' ⟨rfl,hww⟩;rw [hww];clear hww)
  refine wp_region_held (S:=fun w'=>w'.cell? ⟨xb,0,none⟩=some (.pointer (some ⟨sb,0,none⟩))∧w'.cell? ⟨w.heap.size,2,none⟩=some (.int .i64 i.tag)∧w'.cell? ⟨w.heap.size,4,none⟩=some (.slice (some ⟨g,0,none⟩) i.a.length ac)∧w'.cell? ⟨w.heap.size,6,none⟩=some (.int .i64 i.at_)∧w'.cell? ⟨g,0,none⟩=some (.string (strA x))) (by kernel_rfl) ?_
  have hS:(w.alloc (.cells #[.int .i64 i.op,.int .i64 i.n,.int .i64 i.tag,.bool i.oct,.slice (some ⟨g,0,none⟩) i.a.length ac,.slice ba i.b.length bc,.int .i64 i.at_] 62)).drew.cell? ⟨xb,0,none⟩=some (.pointer (some ⟨sb,0,none⟩))∧(w.alloc (.cells #[.int .i64 i.op,.int .i64 i.n,.int .i64 i.tag,.bool i.oct,.slice (some ⟨g,0,none⟩) i.a.length ac,.slice ba i.b.length bc,.int .i64 i.at_] 62)).drew.cell? ⟨w.heap.size,2,none⟩=some (.int .i64 i.tag)∧(w.alloc (.cells #[.int .i64 i.op,.int .i64 i.n,.int .i64 i.tag,.bool i.oct,.slice (some ⟨g,0,none⟩) i.a.length ac,.slice ba i.b.length bc,.int .i64 i.at_] 62)).drew.cell? ⟨w.heap.size,4,none⟩=some (.slice (some ⟨g,0,none⟩) i.a.length ac)∧(w.alloc (.cells #[.int .i64 i.op,.int .i64 i.n,.int .i64 i.tag,.bool i.oct,.slice (some ⟨g,0,none⟩) i.a.length ac,.slice ba i.b.length bc,.int .i64 i.at_] 62)).drew.cell? ⟨w.heap.size,6,none⟩=some (.int .i64 i.at_)∧(w.alloc (.cells #[.int .i64 i.op,.int .i64 i.n,.int .i64 i.tag,.bool i.oct,.slice (some ⟨g,0,none⟩) i.a.length ac,.slice ba i.b.length bc,.int .i64 i.at_] 62)).drew.cell? ⟨g,0,none⟩=some (.string (strA x)):=⟨(box_kept HMD.out (Fr.refl _ _)).1,(box_kept HMD.out (Fr.refl _ _)).2 2,(box_kept HMD.out (Fr.refl _ _)).2 4,(box_kept HMD.out (Fr.refl _ _)).2 6,HGB.out _ (Fr.refl _ _)⟩
  refine wpAnyH_take (i:=0) (v:=.pointer (some ⟨xb,0,none⟩)) rfl (by kernel_rfl) (by kernel_rfl) (by kernel_rfl) (fun _ _ _ h=>h) (Or.inl ⟨by rfl,?_⟩) hS ?_
  ·intro w' hSw;obtain ⟨s1,s2,s3,s4,s5⟩:=hSw;go_simp
  change wpAnyH _ _ _ _ _ _ _ (Act.put _ (some 29) _) _
  simp only [Act.put,List.setIfInBounds_toArray,List.set_cons_zero,List.set_cons_succ]
  refine wpAnyH_take (i:=1) (v:=.pointer (some ⟨xb,0,none⟩)) rfl (by kernel_rfl) (by kernel_rfl) (by kernel_rfl) (fun _ _ _ h=>h) (Or.inl ⟨by rfl,?_⟩) hS ?_
  ·intro w' hSw;obtain ⟨s1,s2,s3,s4,s5⟩:=hSw;go_simp
  change wpAnyH _ _ _ _ _ _ _ (Act.put _ (some 30) _) _
  simp only [Act.put,List.setIfInBounds_toArray,List.set_cons_zero,List.set_cons_succ]
  refine wpAnyH_take (i:=2) (v:=.pointer (some ⟨xb,0,none⟩)) rfl (by kernel_rfl) (by kernel_rfl) (by kernel_rfl) (fun _ _ _ h=>h) (Or.inl ⟨by rfl,?_⟩) hS ?_
  ·intro w' hSw;obtain ⟨s1,s2,s3,s4,s5⟩:=hSw;go_simp
  change wpAnyH _ _ _ _ _ _ _ (Act.put _ (some 31) _) _
  simp only [Act.put,List.setIfInBounds_toArray,List.set_cons_zero,List.set_cons_succ]
  refine wpAnyH_take (i:=3) (v:=.pointer (some ⟨sb,0,none⟩)) rfl (by kernel_rfl) (by kernel_rfl) (by kernel_rfl) (fun _ _ _ h=>h) (Or.inl ⟨by rfl,?_⟩) hS ?_
  ·intro w' hSw;obtain ⟨s1,s2,s3,s4,s5⟩:=hSw;go_simp
  change wpAnyH _ _ _ _ _ _ _ (Act.put _ (some 32) _) _
  simp only [Act.put,List.setIfInBounds_toArray,List.set_cons_zero,List.set_cons_succ]
  refine wpAnyH_take (i:=4) (v:=.pointer (some ⟨w.heap.size,2,none⟩)) rfl (by kernel_rfl) (by kernel_rfl) (by kernel_rfl) (fun _ _ _ h=>h) (Or.inl ⟨by rfl,?_⟩) hS ?_
  ·intro w' hSw;obtain ⟨s1,s2,s3,s4,s5⟩:=hSw;go_simp
  change wpAnyH _ _ _ _ _ _ _ (Act.put _ (some 33) _) _
  simp only [Act.put,List.setIfInBounds_toArray,List.set_cons_zero,List.set_cons_succ]
  refine wpAnyH_take (i:=5) (v:=.int .i64 i.tag) rfl (by kernel_rfl) (by kernel_rfl) (by kernel_rfl) (fun _ _ _ h=>h) (Or.inl ⟨by rfl,?_⟩) hS ?_
  ·intro w' hSw;obtain ⟨s1,s2,s3,s4,s5⟩:=hSw;go_simp
  change wpAnyH _ _ _ _ _ _ _ (Act.put _ (some 34) _) _
  simp only [Act.put,List.setIfInBounds_toArray,List.set_cons_zero,List.set_cons_succ]
  refine wpAnyH_take (i:=6) (v:=.pointer (some ⟨w.heap.size,4,none⟩)) rfl (by kernel_rfl) (by kernel_rfl) (by kernel_rfl) (fun _ _ _ h=>h) (Or.inl ⟨by rfl,?_⟩) hS ?_
  ·intro w' hSw;obtain ⟨s1,s2,s3,s4,s5⟩:=hSw;go_simp
  change wpAnyH _ _ _ _ _ _ _ (Act.put _ (some 35) _) _
  simp only [Act.put,List.setIfInBounds_toArray,List.set_cons_zero,List.set_cons_succ]
  refine wpAnyH_take (i:=7) (v:=.slice (some ⟨g,0,none⟩) i.a.length ac) rfl (by kernel_rfl) (by kernel_rfl) (by kernel_rfl) (fun _ _ _ h=>h) (Or.inl ⟨by rfl,?_⟩) hS ?_
  ·intro w' hSw;obtain ⟨s1,s2,s3,s4,s5⟩:=hSw;go_simp
  change wpAnyH _ _ _ _ _ _ _ (Act.put _ (some 36) _) _
  simp only [Act.put,List.setIfInBounds_toArray,List.set_cons_zero,List.set_cons_succ]
  refine wpAnyH_take (i:=8) (v:=.pointer (some ⟨g,0,none⟩)) rfl (by kernel_rfl) (by kernel_rfl) (by kernel_rfl) (fun _ _ _ h=>h) (Or.inl ⟨by rfl,?_⟩) hS ?_
  ·intro w' hSw;obtain ⟨s1,s2,s3,s4,s5⟩:=hSw;go_simp
  change wpAnyH _ _ _ _ _ _ _ (Act.put _ (some 37) _) _
  simp only [Act.put,List.setIfInBounds_toArray,List.set_cons_zero,List.set_cons_succ]
  refine wpAnyH_take (i:=9) (v:=.string (strA x)) rfl (by kernel_rfl) (by kernel_rfl) (by kernel_rfl) (fun _ _ _ h=>h) (Or.inl ⟨by rfl,?_⟩) hS ?_
  ·intro w' hSw;obtain ⟨s1,s2,s3,s4,s5⟩:=hSw;go_simp
  change wpAnyH _ _ _ _ _ _ _ (Act.put _ (some 38) _) _
  simp only [Act.put,List.setIfInBounds_toArray,List.set_cons_zero,List.set_cons_succ]
  refine wpAnyH_take (i:=10) (v:=.pointer (some ⟨w.heap.size,6,none⟩)) rfl (by kernel_rfl) (by kernel_rfl) (by kernel_rfl) (fun _ _ _ h=>h) (Or.inl ⟨by rfl,?_⟩) hS ?_
  ·intro w' hSw;obtain ⟨s1,s2,s3,s4,s5⟩:=hSw;go_simp
  change wpAnyH _ _ _ _ _ _ _ (Act.put _ (some 39) _) _
  simp only [Act.put,List.setIfInBounds_toArray,List.set_cons_zero,List.set_cons_succ]
  refine wpAnyH_take (i:=11) (v:=.int .i64 i.at_) rfl (by kernel_rfl) (by kernel_rfl) (by kernel_rfl) (fun _ _ _ h=>h) (Or.inl ⟨by rfl,?_⟩) hS ?_
  ·intro w' hSw;obtain ⟨s1,s2,s3,s4,s5⟩:=hSw;go_simp
  change wpAnyH _ _ _ _ _ _ _ (Act.put _ (some 40) _) _
  simp only [Act.put,List.setIfInBounds_toArray,List.set_cons_zero,List.set_cons_succ]
  clear hS
  refine wpAnyH_all (rs:=[12]) (by kernel_rfl) (by decide) (fun j hj=>?_)
  simp only [List.mem_singleton] at hj
  subst hj
  refine wpOp_of rfl (by rfl) ?_
  go_simp
  refine HAC.out.mono ?_
  intro e w2 h2
  rcases h2.cases with ⟨hf,⟨s',hr,rfl,hs⟩ | ⟨f,hr,bb,hz,rfl,hcc⟩⟩
  rotate_left
  ·exact ⟨rfl,by rw [HR.out,hr];exact MPost.from (MPost.err rfl (hf.mono (fun _ _=>PMc.st)) ⟨bb,hz,rfl,hcc⟩) (Fr.of_below (below_box _))⟩
  have HM2:=hide (HMD.out.st' hs hf)
  have HF2:=hide (hf.mono (fun _ _=>PMc.st (xb:=xb)))
  have HRR:=hide hr
  have HGB2:=hide (HGB.out w2 HF2.out)
  have HK2:=hide (box_kept HM2.out HF2.out)
  clear hs hf h2 hr
  refine ⟨⟨(HK2.out).1,(HK2.out).2 2,(HK2.out).2 4,(HK2.out).2 6,HGB2.out⟩,wpAnyH_done (by kernel_rfl) ?_ _⟩
  try simp only [Act.put,List.setIfInBounds_toArray,List.set_cons_zero,List.set_cons_succ]
  go_wp2
  go_end0
  rw [HR.out,HRR.out]
  exact MPost.from (MPost.ok rfl HF2.out HM2.out) (Fr.of_below (below_box _))
 ·rw [decide_eq_true tt] at e4
  rw [decide_eq_false (by omega)] at e2 e3
  clear t1 t24 tt hax ha
  go_enter Tryz.func194,Tryz.ntmps194
  go_wp2_with (go_at_call 199;refine (must_true _ _).mono ?_;rintro e w' ⟨rfl,hww⟩;rw [hww];clear hww)
  refine wp_region_held (S:=fun w'=>w'.cell? ⟨xb,0,none⟩=some (.pointer (some ⟨sb,0,none⟩))∧w'.cell? ⟨w.heap.size,2,none⟩=some (.int .i64 i.tag)∧w'.cell? ⟨w.heap.size,4,none⟩=some (.slice (some ⟨g,0,none⟩) i.a.length ac)∧w'.cell? ⟨w.heap.size,6,none⟩=some (.int .i64 i.at_)∧w'.cell? ⟨g,0,none⟩=some (.string (strA x))) (by kernel_rfl) ?_
  have hS:(w.alloc (.cells #[.int .i64 i.op,.int .i64 i.n,.int .i64 i.tag,.bool i.oct,.slice (some ⟨g,0,none⟩) i.a.length ac,.slice ba i.b.length bc,.int .i64 i.at_] 62)).drew.cell? ⟨xb,0,none⟩=some (.pointer (some ⟨sb,0,none⟩))∧(w.alloc (.cells #[.int .i64 i.op,.int .i64 i.n,.int .i64 i.tag,.bool i.oct,.slice (some ⟨g,0,none⟩) i.a.length ac,.slice ba i.b.length bc,.int .i64 i.at_] 62)).drew.cell? ⟨w.heap.size,2,none⟩=some (.int .i64 i.tag)∧(w.alloc (.cells #[.int .i64 i.op,.int .i64 i.n,.int .i64 i.tag,.bool i.oct,.slice (some ⟨g,0,none⟩) i.a.length ac,.slice ba i.b.length bc,.int .i64 i.at_] 62)).drew.cell? ⟨w.heap.size,4,none⟩=some (.slice (some ⟨g,0,none⟩) i.a.length ac)∧(w.alloc (.cells #[.int .i64 i.op,.int .i64 i.n,.int .i64 i.tag,.bool i.oct,.slice (some ⟨g,0,none⟩) i.a.length ac,.slice ba i.b.length bc,.int .i64 i.at_] 62)).drew.cell? ⟨w.heap.size,6,none⟩=some (.int .i64 i.at_)∧(w.alloc (.cells #[.int .i64 i.op,.int .i64 i.n,.int .i64 i.tag,.bool i.oct,.slice (some ⟨g,0,none⟩) i.a.length ac,.slice ba i.b.length bc,.int .i64 i.at_] 62)).drew.cell? ⟨g,0,none⟩=some (.string (strA x)):=⟨(box_kept HMD.out (Fr.refl _ _)).1,(box_kept HMD.out (Fr.refl _ _)).2 2,(box_kept HMD.out (Fr.refl _ _)).2 4,(box_kept HMD.out (Fr.refl _ _)).2 6,HGB.out _ (Fr.refl _ _)⟩
  refine wpAnyH_take (i:=0) (v:=.pointer (some ⟨xb,0,none⟩)) rfl (by kernel_rfl) (by kernel_rfl) (by kernel_rfl) (fun _ _ _ h=>h) (Or.inl ⟨by rfl,?_⟩) hS ?_
  ·intro w' hSw;obtain ⟨s1,s2,s3,s4,s5⟩:=hSw;go_simp
  change wpAnyH _ _ _ _ _ _ _ (Act.put _ (some 29) _) _
  simp only [Act.put,List.setIfInBounds_toArray,List.set_cons_zero,List.set_cons_succ]
  refine wpAnyH_take (i:=1) (v:=.pointer (some ⟨xb,0,none⟩)) rfl (by kernel_rfl) (by kernel_rfl) (by kernel_rfl) (fun _ _ _ h=>h) (Or.inl ⟨by rfl,?_⟩) hS ?_
  ·intro w' hSw;obtain ⟨s1,s2,s3,s4,s5⟩:=hSw;go_simp
  change wpAnyH _ _ _ _ _ _ _ (Act.put _ (some 30) _) _
  simp only [Act.put,List.setIfInBounds_toArray,List.set_cons_zero,List.set_cons_succ]
  refine wpAnyH_take (i:=2) (v:=.pointer (some ⟨xb,0,none⟩)) rfl (by kernel_rfl) (by kernel_rfl) (by kernel_rfl) (fun _ _ _ h=>h) (Or.inl ⟨by rfl,?_⟩) hS ?_
  ·intro w' hSw;obtain ⟨s1,s2,s3,s4,s5⟩:=hSw;go_simp
  change wpAnyH _ _ _ _ _ _ _ (Act.put _ (some 31) _) _
  simp only [Act.put,List.setIfInBounds_toArray,List.set_cons_zero,List.set_cons_succ]
  refine wpAnyH_take (i:=3) (v:=.pointer (some ⟨sb,0,none⟩)) rfl (by kernel_rfl) (by kernel_rfl) (by kernel_rfl) (fun _ _ _ h=>h) (Or.inl ⟨by rfl,?_⟩) hS ?_
  ·intro w' hSw;obtain ⟨s1,s2,s3,s4,s5⟩:=hSw;go_simp
  change wpAnyH _ _ _ _ _ _ _ (Act.put _ (some 32) _) _
  simp only [Act.put,List.setIfInBounds_toArray,List.set_cons_zero,List.set_cons_succ]
  refine wpAnyH_take (i:=4) (v:=.pointer (some ⟨w.heap.size,2,none⟩)) rfl (by kernel_rfl) (by kernel_rfl) (by kernel_rfl) (fun _ _ _ h=>h) (Or.inl ⟨by rfl,?_⟩) hS ?_
  ·intro w' hSw;obtain ⟨s1,s2,s3,s4,s5⟩:=hSw;go_simp
  change wpAnyH _ _ _ _ _ _ _ (Act.put _ (some 33) _) _
  simp only [Act.put,List.setIfInBounds_toArray,List.set_cons_zero,List.set_cons_succ]
  refine wpAnyH_take (i:=5) (v:=.int .i64 i.tag) rfl (by kernel_rfl) (by kernel_rfl) (by kernel_rfl) (fun _ _ _ h=>h) (Or.inl ⟨by rfl,?_⟩) hS ?_
  ·intro w' hSw;obtain ⟨s1,s2,s3,s4,s5⟩:=hSw;go_simp
  change wpAnyH _ _ _ _ _ _ _ (Act.put _ (some 34) _) _
  simp only [Act.put,List.setIfInBounds_toArray,List.set_cons_zero,List.set_cons_succ]
  refine wpAnyH_take (i:=6) (v:=.pointer (some ⟨w.heap.size,4,none⟩)) rfl (by kernel_rfl) (by kernel_rfl) (by kernel_rfl) (fun _ _ _ h=>h) (Or.inl ⟨by rfl,?_⟩) hS ?_
  ·intro w' hSw;obtain ⟨s1,s2,s3,s4,s5⟩:=hSw;go_simp
  change wpAnyH _ _ _ _ _ _ _ (Act.put _ (some 35) _) _
  simp only [Act.put,List.setIfInBounds_toArray,List.set_cons_zero,List.set_cons_succ]
  refine wpAnyH_take (i:=7) (v:=.slice (some ⟨g,0,none⟩) i.a.length ac) rfl (by kernel_rfl) (by kernel_rfl) (by kernel_rfl) (fun _ _ _ h=>h) (Or.inl ⟨by rfl,?_⟩) hS ?_
  ·intro w' hSw;obtain ⟨s1,s2,s3,s4,s5⟩:=hSw;go_simp
  change wpAnyH _ _ _ _ _ _ _ (Act.put _ (some 36) _) _
  simp only [Act.put,List.setIfInBounds_toArray,List.set_cons_zero,List.set_cons_succ]
  refine wpAnyH_take (i:=8) (v:=.pointer (some ⟨g,0,none⟩)) rfl (by kernel_rfl) (by kernel_rfl) (by kernel_rfl) (fun _ _ _ h=>h) (Or.inl ⟨by rfl,?_⟩) hS ?_
  ·intro w' hSw;obtain ⟨s1,s2,s3,s4,s5⟩:=hSw;go_simp
  change wpAnyH _ _ _ _ _ _ _ (Act.put _ (some 37) _) _
  simp only [Act.put,List.setIfInBounds_toArray,List.set_cons_zero,List.set_cons_succ]
  refine wpAnyH_take (i:=9) (v:=.string (strA x)) rfl (by kernel_rfl) (by kernel_rfl) (by kernel_rfl) (fun _ _ _ h=>h) (Or.inl ⟨by rfl,?_⟩) hS ?_
  ·intro w' hSw;obtain ⟨s1,s2,s3,s4,s5⟩:=hSw;go_simp
  change wpAnyH _ _ _ _ _ _ _ (Act.put _ (some 38) _) _
  simp only [Act.put,List.setIfInBounds_toArray,List.set_cons_zero,List.set_cons_succ]
  refine wpAnyH_take (i:=10) (v:=.pointer (some ⟨w.heap.size,6,none⟩)) rfl (by kernel_rfl) (by kernel_rfl) (by kernel_rfl) (fun _ _ _ h=>h) (Or.inl ⟨by rfl,?_⟩) hS ?_
  ·intro w' hSw;obtain ⟨s1,s2,s3,s4,s5⟩:=hSw;go_simp
  change wpAnyH _ _ _ _ _ _ _ (Act.put _ (some 39) _) _
  simp only [Act.put,List.setIfInBounds_toArray,List.set_cons_zero,List.set_cons_succ]
  refine wpAnyH_take (i:=11) (v:=.int .i64 i.at_) rfl (by kernel_rfl) (by kernel_rfl) (by kernel_rfl) (fun _ _ _ h=>h) (Or.inl ⟨by rfl,?_⟩) hS ?_
  ·intro w' hSw;obtain ⟨s1,s2,s3,s4,s5⟩:=hSw;go_simp
  change wpAnyH _ _ _ _ _ _ _ (Act.put _ (some 40) _) _
  simp only [Act.put,List.setIfInBounds_toArray,List.set_cons_zero,List.set_cons_succ]
  clear hS
  refine wpAnyH_all (rs:=[12]) (by kernel_rfl) (by decide) (fun j hj=>?_)
  simp only [List.mem_singleton] at hj
  subst hj
  refine wpOp_of rfl (by rfl) ?_
  go_simp
  refine HAC.out.mono ?_
  intro e w2 h2
  rcases h2.cases with ⟨hf,⟨s',hr,rfl,hs⟩ | ⟨f,hr,bb,hz,rfl,hcc⟩⟩
  rotate_left
  ·exact ⟨rfl,by rw [HR.out,hr];exact MPost.from (MPost.err rfl (hf.mono (fun _ _=>PMc.st)) ⟨bb,hz,rfl,hcc⟩) (Fr.of_below (below_box _))⟩
  have HM2:=hide (HMD.out.st' hs hf)
  have HF2:=hide (hf.mono (fun _ _=>PMc.st (xb:=xb)))
  have HRR:=hide hr
  have HGB2:=hide (HGB.out w2 HF2.out)
  have HK2:=hide (box_kept HM2.out HF2.out)
  clear hs hf h2 hr
  refine ⟨⟨(HK2.out).1,(HK2.out).2 2,(HK2.out).2 4,(HK2.out).2 6,HGB2.out⟩,wpAnyH_done (by kernel_rfl) ?_ _⟩
  try simp only [Act.put,List.setIfInBounds_toArray,List.set_cons_zero,List.set_cons_succ]
  go_wp2
  go_end0
  rw [HR.out,HRR.out]
  exact MPost.from (MPost.ok rfl HF2.out HM2.out) (Fr.of_below (below_box _))
end Go.Proofs.YtbiclelojbfnbaaGreatDoor
