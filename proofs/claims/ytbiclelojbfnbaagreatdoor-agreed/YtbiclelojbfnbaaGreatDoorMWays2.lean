import Derived.Test.YtbiclelojbfnbaaGreatDoorMAskW
namespace Go.Proofs.YtbiclelojbfnbaaGreatDoor
set_option linter.unusedVariables false
set_option linter.unusedSimpArgs false
set_option maxRecDepth 100000
set_option maxHeartbeats 4000000
open Go.RowKit
attribute [local go_sem ↓] Go.wp_at_zero Go.wp_at_succ
theorem box_kept {B xb sb:Nat} {M:Msg} {m:MS} {count:Nat} {w W:World} {cs:Array Value} (hm:MAt W B xb sb M m count) (hf:Fr (PMc B xb) (w.alloc (.cells cs 62)).drew W):W.cell? ⟨xb,0,none⟩=some (.pointer (some ⟨sb,0,none⟩))∧∀ j,W.cell? ⟨w.heap.size,j,none⟩=cs[j]?:=by
 have h2:=hf.block w.heap.size _ (show (w.alloc (.cells cs 62)).drew.heap[w.heap.size]?=_ from blk_new _ _) (PMc.not (by decide) (by decide) (by decide) (by decide))
 exact ⟨hm.pt,fun j=>blk_cell h2 j⟩
theorem below_box {w:World} (o:Obj):Below w.heap.size w (w.alloc o).drew:=below_drew1 ((Below.refl _ _).alloc (Nat.le_refl _) _)
theorem exists_way (i:Ins) (av bv:Value) (B xb sb:Nat) (M:Msg) (m:MS) (count:Nat) (w:World) (h:MAt w B xb sb M m count) (ho:InsOk w i av bv) :
  Calls Tryz.prog 192 #[.pointer (some ⟨xb,0,none⟩),insV i av bv] w (MPost (putL (existsL M (i.a.map (expL m.st))) m) B xb sb M count w):=by
 obtain ⟨aa,ac,hav⟩:=ho.a.len
 obtain ⟨ba,bc,hbv⟩:=ho.b.len
 subst hav hbv
 have HM:=hide h
 have HO:=hide ho
 have hxl:xb < w.heap.size:=cell_lt h.now
 have hnow:=(h.box (.cells #[.int .i64 i.op,.int .i64 i.n,.int .i64 i.tag,.bool i.oct,.slice aa i.a.length ac,.slice ba i.b.length bc,.int .i64 i.at_] 62)).now
 have HMD:=hide (h.below (below_box (.cells #[.int .i64 i.op,.int .i64 i.n,.int .i64 i.tag,.bool i.oct,.slice aa i.a.length ac,.slice ba i.b.length bc,.int .i64 i.at_] 62)))
 have HOD:=hide (ho.below (below_box (.cells #[.int .i64 i.op,.int .i64 i.n,.int .i64 i.tag,.bool i.oct,.slice aa i.a.length ac,.slice ba i.b.length bc,.int .i64 i.at_] 62)))
 clear h ho
 unfold insV
 have HE:=hide (existsS_any B sb M m.st i.a (.slice aa i.a.length ac) (w.alloc (.cells #[.int .i64 i.op,.int .i64 i.n,.int .i64 i.tag,.bool i.oct,.slice aa i.a.length ac,.slice ba i.b.length bc,.int .i64 i.at_] 62)).drew HMD.out.sat HOD.out.a (fun z hz=>Nat.le_trans (HO.out.al z hz) (by decide)) HO.out.an)
 generalize existsL M (i.a.map (expL m.st))=rb at *
 go_enter Tryz.func192,Tryz.ntmps192
 go_wp2_with fail
 refine wp_region_held (S:=fun w'=>w'.cell? ⟨xb,0,none⟩=some (.pointer (some ⟨sb,0,none⟩))∧w'.cell? ⟨w.heap.size,4,none⟩=some (.slice aa i.a.length ac)) (by kernel_rfl) ?_
 have hS:(w.alloc (.cells #[.int .i64 i.op,.int .i64 i.n,.int .i64 i.tag,.bool i.oct,.slice aa i.a.length ac,.slice ba i.b.length bc,.int .i64 i.at_] 62)).drew.cell? ⟨xb,0,none⟩=some (.pointer (some ⟨sb,0,none⟩))∧(w.alloc (.cells #[.int .i64 i.op,.int .i64 i.n,.int .i64 i.tag,.bool i.oct,.slice aa i.a.length ac,.slice ba i.b.length bc,.int .i64 i.at_] 62)).drew.cell? ⟨w.heap.size,4,none⟩=some (.slice aa i.a.length ac):=⟨(box_kept HMD.out (Fr.refl _ _)).1,(box_kept HMD.out (Fr.refl _ _)).2 4⟩
 refine wpAnyH_take (i:=0) (v:=.pointer (some ⟨xb,0,none⟩)) rfl (by kernel_rfl) (by kernel_rfl) (by kernel_rfl) (fun _ _ _ h=>h) (Or.inl ⟨by rfl,?_⟩) hS ?_
 ·intro w' hSw;obtain ⟨s1,s2⟩:=hSw;go_simp
 change wpAnyH _ _ _ _ _ _ _ (Act.put _ (some 4) _) _
 simp only [Act.put,List.setIfInBounds_toArray,List.set_cons_zero,List.set_cons_succ]
 refine wpAnyH_take (i:=1) (v:=.pointer (some ⟨xb,0,none⟩)) rfl (by kernel_rfl) (by kernel_rfl) (by kernel_rfl) (fun _ _ _ h=>h) (Or.inl ⟨by rfl,?_⟩) hS ?_
 ·intro w' hSw;obtain ⟨s1,s2⟩:=hSw;go_simp
 change wpAnyH _ _ _ _ _ _ _ (Act.put _ (some 5) _) _
 simp only [Act.put,List.setIfInBounds_toArray,List.set_cons_zero,List.set_cons_succ]
 refine wpAnyH_take (i:=2) (v:=.pointer (some ⟨xb,0,none⟩)) rfl (by kernel_rfl) (by kernel_rfl) (by kernel_rfl) (fun _ _ _ h=>h) (Or.inl ⟨by rfl,?_⟩) hS ?_
 ·intro w' hSw;obtain ⟨s1,s2⟩:=hSw;go_simp
 change wpAnyH _ _ _ _ _ _ _ (Act.put _ (some 6) _) _
 simp only [Act.put,List.setIfInBounds_toArray,List.set_cons_zero,List.set_cons_succ]
 refine wpAnyH_take (i:=3) (v:=.pointer (some ⟨xb,0,none⟩)) rfl (by kernel_rfl) (by kernel_rfl) (by kernel_rfl) (fun _ _ _ h=>h) (Or.inl ⟨by rfl,?_⟩) hS ?_
 ·intro w' hSw;obtain ⟨s1,s2⟩:=hSw;go_simp
 change wpAnyH _ _ _ _ _ _ _ (Act.put _ (some 7) _) _
 simp only [Act.put,List.setIfInBounds_toArray,List.set_cons_zero,List.set_cons_succ]
 refine wpAnyH_take (i:=4) (v:=.pointer (some ⟨sb,0,none⟩)) rfl (by kernel_rfl) (by kernel_rfl) (by kernel_rfl) (fun _ _ _ h=>h) (Or.inl ⟨by rfl,?_⟩) hS ?_
 ·intro w' hSw;obtain ⟨s1,s2⟩:=hSw;go_simp
 change wpAnyH _ _ _ _ _ _ _ (Act.put _ (some 8) _) _
 simp only [Act.put,List.setIfInBounds_toArray,List.set_cons_zero,List.set_cons_succ]
 refine wpAnyH_take (i:=5) (v:=.pointer (some ⟨w.heap.size,4,none⟩)) rfl (by kernel_rfl) (by kernel_rfl) (by kernel_rfl) (fun _ _ _ h=>h) (Or.inl ⟨by rfl,?_⟩) hS ?_
 ·intro w' hSw;obtain ⟨s1,s2⟩:=hSw;go_simp
 change wpAnyH _ _ _ _ _ _ _ (Act.put _ (some 9) _) _
 simp only [Act.put,List.setIfInBounds_toArray,List.set_cons_zero,List.set_cons_succ]
 refine wpAnyH_take (i:=6) (v:=.slice aa i.a.length ac) rfl (by kernel_rfl) (by kernel_rfl) (by kernel_rfl) (fun _ _ _ h=>h) (Or.inl ⟨by rfl,?_⟩) hS ?_
 ·intro w' hSw;obtain ⟨s1,s2⟩:=hSw;go_simp
 change wpAnyH _ _ _ _ _ _ _ (Act.put _ (some 10) _) _
 simp only [Act.put,List.setIfInBounds_toArray,List.set_cons_zero,List.set_cons_succ]
 clear hS
 refine wpAnyH_all (rs:=[7]) (by kernel_rfl) (by decide) (fun j hj=>?_)
 simp only [List.mem_singleton] at hj
 subst hj
 refine wpOp_of rfl (by rfl) ?_
 go_simp
 refine HE.out.mono ?_
 rintro e w2 ⟨rfl,hb2⟩
 have HM2:=hide (HMD.out.below hb2)
 have HF2:Hid (Fr (PMc B xb) (w.alloc (.cells #[.int .i64 i.op,.int .i64 i.n,.int .i64 i.tag,.bool i.oct,.slice aa i.a.length ac,.slice ba i.b.length bc,.int .i64 i.at_] 62)).drew w2):=Fr.of_below hb2
 clear hb2
 refine ⟨⟨(box_kept HM2.out HF2.out).1,(box_kept HM2.out HF2.out).2 4⟩,?_⟩
 try simp only [Act.put,List.setIfInBounds_toArray,List.set_cons_zero,List.set_cons_succ]
 refine wpAnyH_all (rs:=[8]) (by kernel_rfl) (by decide) (fun j hj=>?_)
 simp only [List.mem_singleton] at hj
 subst hj
 refine wpOp_of rfl (by rfl) ?_
 go_simp
 refine (put_any rb B xb sb M m count w2 HM2.out).mono ?_
 intro e w3 h3
 rcases h3.cases with ⟨hf,⟨m',hr,rfl,hm⟩ | ⟨f,hr,bb,hz,rfl,hcc⟩⟩
 rotate_left
 ·exact ⟨rfl,MPost.from h3 ((Fr.of_below (below_box _)).trans HF2.out)⟩
 have H3:=hide h3
 have HK3:=hide (box_kept hm (HF2.out.trans hf))
 clear hm hf h3
 refine ⟨⟨(HK3.out).1,(HK3.out).2 4⟩,wpAnyH_done (by kernel_rfl) ?_ _⟩
 try simp only [Act.put,List.setIfInBounds_toArray,List.set_cons_zero,List.set_cons_succ]
 go_wp2
 go_end0
 exact MPost.from H3.out ((Fr.of_below (below_box _)).trans HF2.out)
theorem size_way (i:Ins) (av bv:Value) (B xb sb:Nat) (M:Msg) (m:MS) (count:Nat) (w:World) (h:MAt w B xb sb M m count) (ho:InsOk w i av bv) :
  Calls Tryz.prog 193 #[.pointer (some ⟨xb,0,none⟩),insV i av bv] w (MPost (doSize M i m) B xb sb M count w):=by
 obtain ⟨aa,ac,hav⟩:=ho.a.len
 obtain ⟨ba,bc,hbv⟩:=ho.b.len
 subst hav hbv
 have HM:=hide h
 have HO:=hide ho
 have hxl:xb < w.heap.size:=cell_lt h.now
 have hnow:=(h.box (.cells #[.int .i64 i.op,.int .i64 i.n,.int .i64 i.tag,.bool i.oct,.slice aa i.a.length ac,.slice ba i.b.length bc,.int .i64 i.at_] 62)).now
 have HMD:=hide (h.below (below_box (.cells #[.int .i64 i.op,.int .i64 i.n,.int .i64 i.tag,.bool i.oct,.slice aa i.a.length ac,.slice ba i.b.length bc,.int .i64 i.at_] 62)))
 have HOD:=hide (ho.below (below_box (.cells #[.int .i64 i.op,.int .i64 i.n,.int .i64 i.tag,.bool i.oct,.slice aa i.a.length ac,.slice ba i.b.length bc,.int .i64 i.at_] 62)))
 clear h ho
 unfold insV
 have e1:=intEq i.tag 1
 have e2:=intEq i.tag 2
 by_cases ht:i.tag=1∨i.tag=2
 rotate_left
 ·have HR:Hid (doSize M i m=.error (12,(m.now:Int))):=by show _=_;unfold doSize failL;rw [if_neg ht]
  rw [decide_eq_false (by omega)] at e1 e2
  clear ht
  go_enter Tryz.func193,Tryz.ntmps193
  go_wp2_with (go_at_call 199;refine (must_no _ _ _ hnow).mono ?_;rintro e w' ⟨⟨bb,hz,rfl,hcc⟩,hb⟩)
  exact ⟨rfl,by rw [HR.out];exact MPost.from (MPost.err rfl (Fr.of_below hb) ⟨bb,hz,rfl,hcc⟩) (fr_box _ _)⟩
 have HR:Hid (doSize M i m=putL (sizeB M i.tag i.n) m):=by show _=_;unfold doSize;rw [if_pos ht]
 have hpk:(decide (i.tag=1) || decide (i.tag=2))=true:=by simpa using ht
 have HZ:=hide (size_st B sb M m.st i.tag i.n (w.alloc (.cells #[.int .i64 i.op,.int .i64 i.n,.int .i64 i.tag,.bool i.oct,.slice aa i.a.length ac,.slice ba i.b.length bc,.int .i64 i.at_] 62)).drew HMD.out.sat)
 generalize sizeB M i.tag i.n=rb at *
 clear ht
 generalize decide (i.tag=1)=b1 at *
 generalize decide (i.tag=2)=b2 at *
 cases b1
 ·cases b2
  ·cases hpk
  go_enter Tryz.func193,Tryz.ntmps193
  go_wp2_with (go_at_call 199;refine (must_true _ _).mono ?_;rintro e w' ⟨rfl,hww⟩;rw [hww];clear hww)
  refine wp_region_held (S:=fun w'=>w'.cell? ⟨xb,0,none⟩=some (.pointer (some ⟨sb,0,none⟩))∧w'.cell? ⟨w.heap.size,2,none⟩=some (.int .i64 i.tag)∧w'.cell? ⟨w.heap.size,1,none⟩=some (.int .i64 i.n)) (by kernel_rfl) ?_
  have hS:(w.alloc (.cells #[.int .i64 i.op,.int .i64 i.n,.int .i64 i.tag,.bool i.oct,.slice aa i.a.length ac,.slice ba i.b.length bc,.int .i64 i.at_] 62)).drew.cell? ⟨xb,0,none⟩=some (.pointer (some ⟨sb,0,none⟩))∧(w.alloc (.cells #[.int .i64 i.op,.int .i64 i.n,.int .i64 i.tag,.bool i.oct,.slice aa i.a.length ac,.slice ba i.b.length bc,.int .i64 i.at_] 62)).drew.cell? ⟨w.heap.size,2,none⟩=some (.int .i64 i.tag)∧(w.alloc (.cells #[.int .i64 i.op,.int .i64 i.n,.int .i64 i.tag,.bool i.oct,.slice aa i.a.length ac,.slice ba i.b.length bc,.int .i64 i.at_] 62)).drew.cell? ⟨w.heap.size,1,none⟩=some (.int .i64 i.n):=⟨(box_kept HMD.out (Fr.refl _ _)).1,(box_kept HMD.out (Fr.refl _ _)).2 2,(box_kept HMD.out (Fr.refl _ _)).2 1⟩
  refine wpAnyH_take (i:=0) (v:=.pointer (some ⟨xb,0,none⟩)) rfl (by kernel_rfl) (by kernel_rfl) (by kernel_rfl) (fun _ _ _ h=>h) (Or.inl ⟨by rfl,?_⟩) hS ?_
  ·intro w' hSw;obtain ⟨s1,s2,s3⟩:=hSw;go_simp
  change wpAnyH _ _ _ _ _ _ _ (Act.put _ (some 14) _) _
  simp only [Act.put,List.setIfInBounds_toArray,List.set_cons_zero,List.set_cons_succ]
  refine wpAnyH_take (i:=1) (v:=.pointer (some ⟨xb,0,none⟩)) rfl (by kernel_rfl) (by kernel_rfl) (by kernel_rfl) (fun _ _ _ h=>h) (Or.inl ⟨by rfl,?_⟩) hS ?_
  ·intro w' hSw;obtain ⟨s1,s2,s3⟩:=hSw;go_simp
  change wpAnyH _ _ _ _ _ _ _ (Act.put _ (some 15) _) _
  simp only [Act.put,List.setIfInBounds_toArray,List.set_cons_zero,List.set_cons_succ]
  refine wpAnyH_take (i:=2) (v:=.pointer (some ⟨xb,0,none⟩)) rfl (by kernel_rfl) (by kernel_rfl) (by kernel_rfl) (fun _ _ _ h=>h) (Or.inl ⟨by rfl,?_⟩) hS ?_
  ·intro w' hSw;obtain ⟨s1,s2,s3⟩:=hSw;go_simp
  change wpAnyH _ _ _ _ _ _ _ (Act.put _ (some 16) _) _
  simp only [Act.put,List.setIfInBounds_toArray,List.set_cons_zero,List.set_cons_succ]
  refine wpAnyH_take (i:=3) (v:=.pointer (some ⟨xb,0,none⟩)) rfl (by kernel_rfl) (by kernel_rfl) (by kernel_rfl) (fun _ _ _ h=>h) (Or.inl ⟨by rfl,?_⟩) hS ?_
  ·intro w' hSw;obtain ⟨s1,s2,s3⟩:=hSw;go_simp
  change wpAnyH _ _ _ _ _ _ _ (Act.put _ (some 17) _) _
  simp only [Act.put,List.setIfInBounds_toArray,List.set_cons_zero,List.set_cons_succ]
  refine wpAnyH_take (i:=4) (v:=.pointer (some ⟨sb,0,none⟩)) rfl (by kernel_rfl) (by kernel_rfl) (by kernel_rfl) (fun _ _ _ h=>h) (Or.inl ⟨by rfl,?_⟩) hS ?_
  ·intro w' hSw;obtain ⟨s1,s2,s3⟩:=hSw;go_simp
  change wpAnyH _ _ _ _ _ _ _ (Act.put _ (some 18) _) _
  simp only [Act.put,List.setIfInBounds_toArray,List.set_cons_zero,List.set_cons_succ]
  refine wpAnyH_take (i:=5) (v:=.pointer (some ⟨w.heap.size,2,none⟩)) rfl (by kernel_rfl) (by kernel_rfl) (by kernel_rfl) (fun _ _ _ h=>h) (Or.inl ⟨by rfl,?_⟩) hS ?_
  ·intro w' hSw;obtain ⟨s1,s2,s3⟩:=hSw;go_simp
  change wpAnyH _ _ _ _ _ _ _ (Act.put _ (some 19) _) _
  simp only [Act.put,List.setIfInBounds_toArray,List.set_cons_zero,List.set_cons_succ]
  refine wpAnyH_take (i:=6) (v:=.int .i64 i.tag) rfl (by kernel_rfl) (by kernel_rfl) (by kernel_rfl) (fun _ _ _ h=>h) (Or.inl ⟨by rfl,?_⟩) hS ?_
  ·intro w' hSw;obtain ⟨s1,s2,s3⟩:=hSw;go_simp
  change wpAnyH _ _ _ _ _ _ _ (Act.put _ (some 20) _) _
  simp only [Act.put,List.setIfInBounds_toArray,List.set_cons_zero,List.set_cons_succ]
  refine wpAnyH_take (i:=7) (v:=.pointer (some ⟨w.heap.size,1,none⟩)) rfl (by kernel_rfl) (by kernel_rfl) (by kernel_rfl) (fun _ _ _ h=>h) (Or.inl ⟨by rfl,?_⟩) hS ?_
  ·intro w' hSw;obtain ⟨s1,s2,s3⟩:=hSw;go_simp
  change wpAnyH _ _ _ _ _ _ _ (Act.put _ (some 21) _) _
  simp only [Act.put,List.setIfInBounds_toArray,List.set_cons_zero,List.set_cons_succ]
  refine wpAnyH_take (i:=8) (v:=.int .i64 i.n) rfl (by kernel_rfl) (by kernel_rfl) (by kernel_rfl) (fun _ _ _ h=>h) (Or.inl ⟨by rfl,?_⟩) hS ?_
  ·intro w' hSw;obtain ⟨s1,s2,s3⟩:=hSw;go_simp
  change wpAnyH _ _ _ _ _ _ _ (Act.put _ (some 22) _) _
  simp only [Act.put,List.setIfInBounds_toArray,List.set_cons_zero,List.set_cons_succ]
  clear hS
  refine wpAnyH_all (rs:=[9]) (by kernel_rfl) (by decide) (fun j hj=>?_)
  simp only [List.mem_singleton] at hj
  subst hj
  refine wpOp_of rfl (by rfl) ?_
  go_simp
  refine HZ.out.mono ?_
  rintro e w2 ⟨rfl,rfl⟩
  refine ⟨⟨(box_kept HMD.out (Fr.refl _ _)).1,(box_kept HMD.out (Fr.refl _ _)).2 2,(box_kept HMD.out (Fr.refl _ _)).2 1⟩,?_⟩
  try simp only [Act.put,List.setIfInBounds_toArray,List.set_cons_zero,List.set_cons_succ]
  refine wpAnyH_all (rs:=[10]) (by kernel_rfl) (by decide) (fun j hj=>?_)
  simp only [List.mem_singleton] at hj
  subst hj
  refine wpOp_of rfl (by rfl) ?_
  go_simp
  refine (put_any rb B xb sb M m count _ HMD.out).mono ?_
  intro e w3 h3
  rcases h3.cases with ⟨hf,⟨m',hr,rfl,hm⟩ | ⟨f,hr,bb,hz,rfl,hcc⟩⟩
  rotate_left
  ·exact ⟨rfl,by rw [HR.out];exact MPost.from h3 (Fr.of_below (below_box _))⟩
  have H3:=hide h3
  have HK3:=hide (box_kept hm hf)
  clear hm hf h3
  refine ⟨⟨(HK3.out).1,(HK3.out).2 2,(HK3.out).2 1⟩,wpAnyH_done (by kernel_rfl) ?_ _⟩
  try simp only [Act.put,List.setIfInBounds_toArray,List.set_cons_zero,List.set_cons_succ]
  go_wp2
  go_end0
  rw [HR.out]
  exact MPost.from H3.out (Fr.of_below (below_box _))
 ·go_enter Tryz.func193,Tryz.ntmps193
  go_wp2_with (go_at_call 199;refine (must_true _ _).mono ?_;rintro e w' ⟨rfl,hww⟩;rw [hww];clear hww)
  refine wp_region_held (S:=fun w'=>w'.cell? ⟨xb,0,none⟩=some (.pointer (some ⟨sb,0,none⟩))∧w'.cell? ⟨w.heap.size,2,none⟩=some (.int .i64 i.tag)∧w'.cell? ⟨w.heap.size,1,none⟩=some (.int .i64 i.n)) (by kernel_rfl) ?_
  have hS:(w.alloc (.cells #[.int .i64 i.op,.int .i64 i.n,.int .i64 i.tag,.bool i.oct,.slice aa i.a.length ac,.slice ba i.b.length bc,.int .i64 i.at_] 62)).drew.cell? ⟨xb,0,none⟩=some (.pointer (some ⟨sb,0,none⟩))∧(w.alloc (.cells #[.int .i64 i.op,.int .i64 i.n,.int .i64 i.tag,.bool i.oct,.slice aa i.a.length ac,.slice ba i.b.length bc,.int .i64 i.at_] 62)).drew.cell? ⟨w.heap.size,2,none⟩=some (.int .i64 i.tag)∧(w.alloc (.cells #[.int .i64 i.op,.int .i64 i.n,.int .i64 i.tag,.bool i.oct,.slice aa i.a.length ac,.slice ba i.b.length bc,.int .i64 i.at_] 62)).drew.cell? ⟨w.heap.size,1,none⟩=some (.int .i64 i.n):=⟨(box_kept HMD.out (Fr.refl _ _)).1,(box_kept HMD.out (Fr.refl _ _)).2 2,(box_kept HMD.out (Fr.refl _ _)).2 1⟩
  refine wpAnyH_take (i:=0) (v:=.pointer (some ⟨xb,0,none⟩)) rfl (by kernel_rfl) (by kernel_rfl) (by kernel_rfl) (fun _ _ _ h=>h) (Or.inl ⟨by rfl,?_⟩) hS ?_
  ·intro w' hSw;obtain ⟨s1,s2,s3⟩:=hSw;go_simp
  change wpAnyH _ _ _ _ _ _ _ (Act.put _ (some 14) _) _
  simp only [Act.put,List.setIfInBounds_toArray,List.set_cons_zero,List.set_cons_succ]
  refine wpAnyH_take (i:=1) (v:=.pointer (some ⟨xb,0,none⟩)) rfl (by kernel_rfl) (by kernel_rfl) (by kernel_rfl) (fun _ _ _ h=>h) (Or.inl ⟨by rfl,?_⟩) hS ?_
  ·intro w' hSw;obtain ⟨s1,s2,s3⟩:=hSw;go_simp
  change wpAnyH _ _ _ _ _ _ _ (Act.put _ (some 15) _) _
  simp only [Act.put,List.setIfInBounds_toArray,List.set_cons_zero,List.set_cons_succ]
  refine wpAnyH_take (i:=2) (v:=.pointer (some ⟨xb,0,none⟩)) rfl (by kernel_rfl) (by kernel_rfl) (by kernel_rfl) (fun _ _ _ h=>h) (Or.inl ⟨by rfl,?_⟩) hS ?_
  ·intro w' hSw;obtain ⟨s1,s2,s3⟩:=hSw;go_simp
  change wpAnyH _ _ _ _ _ _ _ (Act.put _ (some 16) _) _
  simp only [Act.put,List.setIfInBounds_toArray,List.set_cons_zero,List.set_cons_succ]
  refine wpAnyH_take (i:=3) (v:=.pointer (some ⟨xb,0,none⟩)) rfl (by kernel_rfl) (by kernel_rfl) (by kernel_rfl) (fun _ _ _ h=>h) (Or.inl ⟨by rfl,?_⟩) hS ?_
  ·intro w' hSw;obtain ⟨s1,s2,s3⟩:=hSw;go_simp
  change wpAnyH _ _ _ _ _ _ _ (Act.put _ (some 17) _) _
  simp only [Act.put,List.setIfInBounds_toArray,List.set_cons_zero,List.set_cons_succ]
  refine wpAnyH_take (i:=4) (v:=.pointer (some ⟨sb,0,none⟩)) rfl (by kernel_rfl) (by kernel_rfl) (by kernel_rfl) (fun _ _ _ h=>h) (Or.inl ⟨by rfl,?_⟩) hS ?_
  ·intro w' hSw;obtain ⟨s1,s2,s3⟩:=hSw;go_simp
  change wpAnyH _ _ _ _ _ _ _ (Act.put _ (some 18) _) _
  simp only [Act.put,List.setIfInBounds_toArray,List.set_cons_zero,List.set_cons_succ]
  refine wpAnyH_take (i:=5) (v:=.pointer (some ⟨w.heap.size,2,none⟩)) rfl (by kernel_rfl) (by kernel_rfl) (by kernel_rfl) (fun _ _ _ h=>h) (Or.inl ⟨by rfl,?_⟩) hS ?_
  ·intro w' hSw;obtain ⟨s1,s2,s3⟩:=hSw;go_simp
  change wpAnyH _ _ _ _ _ _ _ (Act.put _ (some 19) _) _
  simp only [Act.put,List.setIfInBounds_toArray,List.set_cons_zero,List.set_cons_succ]
  refine wpAnyH_take (i:=6) (v:=.int .i64 i.tag) rfl (by kernel_rfl) (by kernel_rfl) (by kernel_rfl) (fun _ _ _ h=>h) (Or.inl ⟨by rfl,?_⟩) hS ?_
  ·intro w' hSw;obtain ⟨s1,s2,s3⟩:=hSw;go_simp
  change wpAnyH _ _ _ _ _ _ _ (Act.put _ (some 20) _) _
  simp only [Act.put,List.setIfInBounds_toArray,List.set_cons_zero,List.set_cons_succ]
  refine wpAnyH_take (i:=7) (v:=.pointer (some ⟨w.heap.size,1,none⟩)) rfl (by kernel_rfl) (by kernel_rfl) (by kernel_rfl) (fun _ _ _ h=>h) (Or.inl ⟨by rfl,?_⟩) hS ?_
  ·intro w' hSw;obtain ⟨s1,s2,s3⟩:=hSw;go_simp
  change wpAnyH _ _ _ _ _ _ _ (Act.put _ (some 21) _) _
  simp only [Act.put,List.setIfInBounds_toArray,List.set_cons_zero,List.set_cons_succ]
  refine wpAnyH_take (i:=8) (v:=.int .i64 i.n) rfl (by kernel_rfl) (by kernel_rfl) (by kernel_rfl) (fun _ _ _ h=>h) (Or.inl ⟨by rfl,?_⟩) hS ?_
  ·intro w' hSw;obtain ⟨s1,s2,s3⟩:=hSw;go_simp
  change wpAnyH _ _ _ _ _ _ _ (Act.put _ (some 22) _) _
  simp only [Act.put,List.setIfInBounds_toArray,List.set_cons_zero,List.set_cons_succ]
  clear hS
  refine wpAnyH_all (rs:=[9]) (by kernel_rfl) (by decide) (fun j hj=>?_)
  simp only [List.mem_singleton] at hj
  subst hj
  refine wpOp_of rfl (by rfl) ?_
  go_simp
  refine HZ.out.mono ?_
  rintro e w2 ⟨rfl,rfl⟩
  refine ⟨⟨(box_kept HMD.out (Fr.refl _ _)).1,(box_kept HMD.out (Fr.refl _ _)).2 2,(box_kept HMD.out (Fr.refl _ _)).2 1⟩,?_⟩
  try simp only [Act.put,List.setIfInBounds_toArray,List.set_cons_zero,List.set_cons_succ]
  refine wpAnyH_all (rs:=[10]) (by kernel_rfl) (by decide) (fun j hj=>?_)
  simp only [List.mem_singleton] at hj
  subst hj
  refine wpOp_of rfl (by rfl) ?_
  go_simp
  refine (put_any rb B xb sb M m count _ HMD.out).mono ?_
  intro e w3 h3
  rcases h3.cases with ⟨hf,⟨m',hr,rfl,hm⟩ | ⟨f,hr,bb,hz,rfl,hcc⟩⟩
  rotate_left
  ·exact ⟨rfl,by rw [HR.out];exact MPost.from h3 (Fr.of_below (below_box _))⟩
  have H3:=hide h3
  have HK3:=hide (box_kept hm hf)
  clear hm hf h3
  refine ⟨⟨(HK3.out).1,(HK3.out).2 2,(HK3.out).2 1⟩,wpAnyH_done (by kernel_rfl) ?_ _⟩
  try simp only [Act.put,List.setIfInBounds_toArray,List.set_cons_zero,List.set_cons_succ]
  go_wp2
  go_end0
  rw [HR.out]
  exact MPost.from H3.out (Fr.of_below (below_box _))
theorem discard_way (i:Ins) (av bv:Value) (B xb sb:Nat) (M:Msg) (m:MS) (count:Nat) (w:World) (h:MAt w B xb sb M m count) (ho:InsOk w i av bv) :
  Calls Tryz.prog 196 #[.pointer (some ⟨xb,0,none⟩),insV i av bv] w (MPost (.ok (stL m (discL m.st))) B xb sb M count w):=by
 obtain ⟨aa,ac,hav⟩:=ho.a.len
 obtain ⟨ba,bc,hbv⟩:=ho.b.len
 subst hav hbv
 have HM:=hide h
 have HO:=hide ho
 have hxl:xb < w.heap.size:=cell_lt h.now
 have hnow:=(h.box (.cells #[.int .i64 i.op,.int .i64 i.n,.int .i64 i.tag,.bool i.oct,.slice aa i.a.length ac,.slice ba i.b.length bc,.int .i64 i.at_] 62)).now
 have HMD:=hide (h.below (below_box (.cells #[.int .i64 i.op,.int .i64 i.n,.int .i64 i.tag,.bool i.oct,.slice aa i.a.length ac,.slice ba i.b.length bc,.int .i64 i.at_] 62)))
 have HOD:=hide (ho.below (below_box (.cells #[.int .i64 i.op,.int .i64 i.n,.int .i64 i.tag,.bool i.oct,.slice aa i.a.length ac,.slice ba i.b.length bc,.int .i64 i.at_] 62)))
 clear h ho
 unfold insV
 have x0:=(HM.out.box (.cells #[.int .i64 i.op,.int .i64 i.n,.int .i64 i.tag,.bool i.oct,.slice aa i.a.length ac,.slice ba i.b.length bc,.int .i64 i.at_] 62)).pt
 go_enter Tryz.func196,Tryz.ntmps196
 go_wp2_with fail
 refine (discard_st B sb M m.st _ (HM.out.box _).sat).mono ?_
 rintro e w2 ⟨hf2,rfl,hs2⟩
 have HF2:=hide hf2
 have HM2:=hide ((HM.out.box _).st' hs2 hf2)
 clear hf2 hs2
 go_wp2
 go_end0
 exact MPost.ok rfl ((fr_box _ _).trans (HF2.out.mono (fun _ _=>PMc.st))) HM2.out
theorem stop_way (i:Ins) (av bv:Value) (B xb sb:Nat) (M:Msg) (m:MS) (count:Nat) (w:World) (h:MAt w B xb sb M m count) (ho:InsOk w i av bv) :
  Calls Tryz.prog 198 #[.pointer (some ⟨xb,0,none⟩),insV i av bv] w (MPost (.ok (goL m count)) B xb sb M count w):=by
 obtain ⟨aa,ac,hav⟩:=ho.a.len
 obtain ⟨ba,bc,hbv⟩:=ho.b.len
 subst hav hbv
 have HM:=hide h
 have HO:=hide ho
 have hxl:xb < w.heap.size:=cell_lt h.now
 have hnow:=(h.box (.cells #[.int .i64 i.op,.int .i64 i.n,.int .i64 i.tag,.bool i.oct,.slice aa i.a.length ac,.slice ba i.b.length bc,.int .i64 i.at_] 62)).now
 have HMD:=hide (h.below (below_box (.cells #[.int .i64 i.op,.int .i64 i.n,.int .i64 i.tag,.bool i.oct,.slice aa i.a.length ac,.slice ba i.b.length bc,.int .i64 i.at_] 62)))
 have HOD:=hide (ho.below (below_box (.cells #[.int .i64 i.op,.int .i64 i.n,.int .i64 i.tag,.bool i.oct,.slice aa i.a.length ac,.slice ba i.b.length bc,.int .i64 i.at_] 62)))
 clear h ho
 unfold insV
 obtain ⟨kv,hMI⟩:=HM.out
 have c3:=blk_cell hMI.blk 3
 have c4:=blk_cell hMI.blk 4
 have f3:=blk_frozen hMI.blk
 unfold mcCells at c3 c4
 have HG:=hide (hMI.go count (Nat.le_refl _))
 clear hMI
 go_enter Tryz.func198,Tryz.ntmps198
 go_wp2
 go_end0
 exact MPost.ok rfl (HG.out.2.alloc _) (HG.out.1.box _)
end Go.Proofs.YtbiclelojbfnbaaGreatDoor
