import Derived.Test.YtbiclelojbfnbaaGreatDoorZMAskW
import Derived.Test.YtbiclelojbfnbaaGreatDoorZTake
namespace Go.Proofs.YtbiclelojbfnbaaGreatDoor
set_option linter.unusedVariables false
set_option linter.unusedSimpArgs false
set_option maxRecDepth 100000
set_option maxHeartbeats 4000000
section
open Go.RowKit
attribute [local go_sem ↓] Go.wp_at_zero Go.wp_at_succ
theorem QaC {B xb sb:Nat} {M:Msg} {m:MS} {count:Nat} {w W:World} {cs:Array Value} (hm:MAt W B xb sb M m count) (hf:Fr (PMc B xb) (w.alloc (.cells cs 62)).drew W):W.cell? ⟨xb,0,none⟩=some (.pointer (some ⟨sb,0,none⟩))∧∀ j,W.cell? ⟨w.heap.size,j,none⟩=cs[j]?:=by
 have h2:=hf.block w.heap.size _ (show (w.alloc (.cells cs 62)).drew.heap[w.heap.size]?=_ from Qay _ _) (PMc.not (by decide) (by decide) (by decide) (by decide))
 exact ⟨hm.pt,fun j=>Qaa h2 j⟩
theorem Qao {w:World} (o:Obj):Below w.heap.size w (w.alloc o).drew:=Qaz ((Below.refl _ _).alloc (Nat.le_refl _) _)
theorem QpV (i:Ins) (av bv:Value) (B xb sb:Nat) (M:Msg) (m:MS) (count:Nat) (w:World) (h:MAt w B xb sb M m count) (ho:Qcg w i av bv) :
 Calls Tryz.prog 192 #[.pointer (some ⟨xb,0,none⟩),Qdt i av bv] w (QaP (Qlm (existsL M (i.a.map (expL m.st))) m) B xb sb M count w):=by
 obtain ⟨aa,ac,hav⟩:=ho.a.len
 obtain ⟨ba,bc,hbv⟩:=ho.b.len
 subst hav hbv
 have HM:=Qab h
 have HO:=Qab ho
 have hxl:xb < w.heap.size:=Qax h.now
 have hnow:=(h.box (.cells #[.int .i64 i.op,.int .i64 i.n,.int .i64 i.tag,.bool i.oct,.slice aa i.a.length ac,.slice ba i.b.length bc,.int .i64 i.at_] 62)).now
 have HMD:=Qab (h.below (Qao (.cells #[.int .i64 i.op,.int .i64 i.n,.int .i64 i.tag,.bool i.oct,.slice aa i.a.length ac,.slice ba i.b.length bc,.int .i64 i.at_] 62)))
 have HOD:=Qab (ho.below (Qao (.cells #[.int .i64 i.op,.int .i64 i.n,.int .i64 i.tag,.bool i.oct,.slice aa i.a.length ac,.slice ba i.b.length bc,.int .i64 i.at_] 62)))
 clear h ho
 unfold Qdt
 have HE:=Qab (QoE B sb M m.st i.a (.slice aa i.a.length ac) (w.alloc (.cells #[.int .i64 i.op,.int .i64 i.n,.int .i64 i.tag,.bool i.oct,.slice aa i.a.length ac,.slice ba i.b.length bc,.int .i64 i.at_] 62)).drew HMD.out.sat HOD.out.a (fun z hz=>Nat.le_trans (HO.out.al z hz) (by decide)) HO.out.an)
 generalize existsL M (i.a.map (expL m.st))=rb at *
 go_enter Tryz.func192,Tryz.ntmps192
 go_wp2_with fail
 refine wp_region_held (S:=fun w'=>w'.cell? ⟨xb,0,none⟩=some (.pointer (some ⟨sb,0,none⟩))∧w'.cell? ⟨w.heap.size,4,none⟩=some (.slice aa i.a.length ac)) (by kernel_rfl) ?_
 have hS:(w.alloc (.cells #[.int .i64 i.op,.int .i64 i.n,.int .i64 i.tag,.bool i.oct,.slice aa i.a.length ac,.slice ba i.b.length bc,.int .i64 i.at_] 62)).drew.cell? ⟨xb,0,none⟩=some (.pointer (some ⟨sb,0,none⟩))∧(w.alloc (.cells #[.int .i64 i.op,.int .i64 i.n,.int .i64 i.tag,.bool i.oct,.slice aa i.a.length ac,.slice ba i.b.length bc,.int .i64 i.at_] 62)).drew.cell? ⟨w.heap.size,4,none⟩=some (.slice aa i.a.length ac):=⟨(QaC HMD.out (Fr.refl _ _)).1,(QaC HMD.out (Fr.refl _ _)).2 4⟩
 refine QaE 0 4 (.pointer (some ⟨xb,0,none⟩)) rfl hS (fun w' ⟨s1,s2⟩=>by go_simp) ?_
 simp only [pt,List.set_cons_zero,List.set_cons_succ]
 refine QaE 1 5 (.pointer (some ⟨xb,0,none⟩)) rfl hS (fun w' ⟨s1,s2⟩=>by go_simp) ?_
 simp only [pt,List.set_cons_zero,List.set_cons_succ]
 refine QaE 2 6 (.pointer (some ⟨xb,0,none⟩)) rfl hS (fun w' ⟨s1,s2⟩=>by go_simp) ?_
 simp only [pt,List.set_cons_zero,List.set_cons_succ]
 refine QaE 3 7 (.pointer (some ⟨xb,0,none⟩)) rfl hS (fun w' ⟨s1,s2⟩=>by go_simp) ?_
 simp only [pt,List.set_cons_zero,List.set_cons_succ]
 refine QaE 4 8 (.pointer (some ⟨sb,0,none⟩)) rfl hS (fun w' ⟨s1,s2⟩=>by go_simp) ?_
 simp only [pt,List.set_cons_zero,List.set_cons_succ]
 refine QaE 5 9 (.pointer (some ⟨w.heap.size,4,none⟩)) rfl hS (fun w' ⟨s1,s2⟩=>by go_simp) ?_
 simp only [pt,List.set_cons_zero,List.set_cons_succ]
 refine QaE 6 10 (.slice aa i.a.length ac) rfl hS (fun w' ⟨s1,s2⟩=>by go_simp) ?_
 simp only [pt,List.set_cons_zero,List.set_cons_succ]
 clear hS
 refine wpAnyH_all (rs:=[7]) (by kernel_rfl) (by decide) (fun j hj=>?_)
 simp only [List.mem_singleton] at hj
 subst hj
 refine QaO rfl (by rfl) ?_
 go_simp
 refine HE.out.mono ?_
 rintro e w2 ⟨rfl,hb2⟩
 have HM2:=Qab (HMD.out.below hb2)
 have HF2:Hid (Fr (PMc B xb) (w.alloc (.cells #[.int .i64 i.op,.int .i64 i.n,.int .i64 i.tag,.bool i.oct,.slice aa i.a.length ac,.slice ba i.b.length bc,.int .i64 i.at_] 62)).drew w2):=Fr.of_below hb2
 clear hb2
 refine ⟨⟨(QaC HM2.out HF2.out).1,(QaC HM2.out HF2.out).2 4⟩,?_⟩
 try simp only [Act.put,List.setIfInBounds_toArray,List.set_cons_zero,List.set_cons_succ]
 refine wpAnyH_all (rs:=[8]) (by kernel_rfl) (by decide) (fun j hj=>?_)
 simp only [List.mem_singleton] at hj
 subst hj
 refine QaO rfl (by rfl) ?_
 go_simp
 refine (QfQ rb B xb sb M m count w2 HM2.out).mono ?_
 intro e w3 h3
 rcases h3.cases with ⟨hf,⟨m',hr,rfl,hm⟩ | ⟨f,hr,bb,hz,rfl,hcc⟩⟩
 rotate_left
 ·exact ⟨rfl,QaP.from h3 ((Fr.of_below (Qao _)).trans HF2.out)⟩
 have H3:=Qab h3
 have HK3:=Qab (QaC hm (HF2.out.trans hf))
 clear hm hf h3
 refine ⟨⟨(HK3.out).1,(HK3.out).2 4⟩,wpAnyH_done (by kernel_rfl) ?_ _⟩
 try simp only [Act.put,List.setIfInBounds_toArray,List.set_cons_zero,List.set_cons_succ]
 go_wp2
 go_end0
 exact QaP.from H3.out ((Fr.of_below (Qao _)).trans HF2.out)
theorem QtC (i:Ins) (av bv:Value) (B xb sb:Nat) (M:Msg) (m:MS) (count:Nat) (w:World) (h:MAt w B xb sb M m count) (ho:Qcg w i av bv) :
 Calls Tryz.prog 193 #[.pointer (some ⟨xb,0,none⟩),Qdt i av bv] w (QaP (QgD M i m) B xb sb M count w):=by
 obtain ⟨aa,ac,hav⟩:=ho.a.len
 obtain ⟨ba,bc,hbv⟩:=ho.b.len
 subst hav hbv
 have HM:=Qab h
 have HO:=Qab ho
 have hxl:xb < w.heap.size:=Qax h.now
 have hnow:=(h.box (.cells #[.int .i64 i.op,.int .i64 i.n,.int .i64 i.tag,.bool i.oct,.slice aa i.a.length ac,.slice ba i.b.length bc,.int .i64 i.at_] 62)).now
 have HMD:=Qab (h.below (Qao (.cells #[.int .i64 i.op,.int .i64 i.n,.int .i64 i.tag,.bool i.oct,.slice aa i.a.length ac,.slice ba i.b.length bc,.int .i64 i.at_] 62)))
 have HOD:=Qab (ho.below (Qao (.cells #[.int .i64 i.op,.int .i64 i.n,.int .i64 i.tag,.bool i.oct,.slice aa i.a.length ac,.slice ba i.b.length bc,.int .i64 i.at_] 62)))
 clear h ho
 unfold Qdt
 have e1:=QeU i.tag 1
 have e2:=QeU i.tag 2
 by_cases ht:i.tag=1∨i.tag=2
 rotate_left
 ·have HR:Hid (QgD M i m=.error (12,(m.now:Int))):=by show _=_;unfold QgD Qc2;rw [if_neg ht]
  rw [decide_eq_false (by omega)] at e1 e2
  clear ht
  go_enter Tryz.func193,Tryz.ntmps193
  go_wp2_with (go_at_call 199;refine (QcD _ _ _ hnow).mono ?_;rintro e w' ⟨⟨bb,hz,rfl,hcc⟩,hb⟩)
  exact ⟨rfl,by rw [HR.out];exact QaP.from (QaP.err rfl (Fr.of_below hb) ⟨bb,hz,rfl,hcc⟩) (Qc7 _ _)⟩
 have HR:Hid (QgD M i m=Qlm (sizeB M i.tag i.n) m):=by show _=_;unfold QgD;rw [if_pos ht]
 have hpk:(decide (i.tag=1) || decide (i.tag=2))=true:=by simpa using ht
 have HZ:=Qab (Qt8 B sb M m.st i.tag i.n (w.alloc (.cells #[.int .i64 i.op,.int .i64 i.n,.int .i64 i.tag,.bool i.oct,.slice aa i.a.length ac,.slice ba i.b.length bc,.int .i64 i.at_] 62)).drew HMD.out.sat)
 generalize sizeB M i.tag i.n=rb at *
 clear ht
 generalize decide (i.tag=1)=b1 at *
 generalize decide (i.tag=2)=b2 at *
 cases b1
 ·cases b2
  ·cases hpk
  go_enter Tryz.func193,Tryz.ntmps193
  go_wp2_with (go_at_call 199;refine (QbO _ _).mono ?_;rintro e w' ⟨rfl,hww⟩;rw [hww];clear hww)
  refine wp_region_held (S:=fun w'=>w'.cell? ⟨xb,0,none⟩=some (.pointer (some ⟨sb,0,none⟩))∧w'.cell? ⟨w.heap.size,2,none⟩=some (.int .i64 i.tag)∧w'.cell? ⟨w.heap.size,1,none⟩=some (.int .i64 i.n)) (by kernel_rfl) ?_
  have hS:(w.alloc (.cells #[.int .i64 i.op,.int .i64 i.n,.int .i64 i.tag,.bool i.oct,.slice aa i.a.length ac,.slice ba i.b.length bc,.int .i64 i.at_] 62)).drew.cell? ⟨xb,0,none⟩=some (.pointer (some ⟨sb,0,none⟩))∧(w.alloc (.cells #[.int .i64 i.op,.int .i64 i.n,.int .i64 i.tag,.bool i.oct,.slice aa i.a.length ac,.slice ba i.b.length bc,.int .i64 i.at_] 62)).drew.cell? ⟨w.heap.size,2,none⟩=some (.int .i64 i.tag)∧(w.alloc (.cells #[.int .i64 i.op,.int .i64 i.n,.int .i64 i.tag,.bool i.oct,.slice aa i.a.length ac,.slice ba i.b.length bc,.int .i64 i.at_] 62)).drew.cell? ⟨w.heap.size,1,none⟩=some (.int .i64 i.n):=⟨(QaC HMD.out (Fr.refl _ _)).1,(QaC HMD.out (Fr.refl _ _)).2 2,(QaC HMD.out (Fr.refl _ _)).2 1⟩
  refine QaE 0 14 (.pointer (some ⟨xb,0,none⟩)) rfl hS (fun w' ⟨s1,s2,s3⟩=>by go_simp) ?_
  simp only [pt,List.set_cons_zero,List.set_cons_succ]
  refine QaE 1 15 (.pointer (some ⟨xb,0,none⟩)) rfl hS (fun w' ⟨s1,s2,s3⟩=>by go_simp) ?_
  simp only [pt,List.set_cons_zero,List.set_cons_succ]
  refine QaE 2 16 (.pointer (some ⟨xb,0,none⟩)) rfl hS (fun w' ⟨s1,s2,s3⟩=>by go_simp) ?_
  simp only [pt,List.set_cons_zero,List.set_cons_succ]
  refine QaE 3 17 (.pointer (some ⟨xb,0,none⟩)) rfl hS (fun w' ⟨s1,s2,s3⟩=>by go_simp) ?_
  simp only [pt,List.set_cons_zero,List.set_cons_succ]
  refine QaE 4 18 (.pointer (some ⟨sb,0,none⟩)) rfl hS (fun w' ⟨s1,s2,s3⟩=>by go_simp) ?_
  simp only [pt,List.set_cons_zero,List.set_cons_succ]
  refine QaE 5 19 (.pointer (some ⟨w.heap.size,2,none⟩)) rfl hS (fun w' ⟨s1,s2,s3⟩=>by go_simp) ?_
  simp only [pt,List.set_cons_zero,List.set_cons_succ]
  refine QaE 6 20 (.int .i64 i.tag) rfl hS (fun w' ⟨s1,s2,s3⟩=>by go_simp) ?_
  simp only [pt,List.set_cons_zero,List.set_cons_succ]
  refine QaE 7 21 (.pointer (some ⟨w.heap.size,1,none⟩)) rfl hS (fun w' ⟨s1,s2,s3⟩=>by go_simp) ?_
  simp only [pt,List.set_cons_zero,List.set_cons_succ]
  refine QaE 8 22 (.int .i64 i.n) rfl hS (fun w' ⟨s1,s2,s3⟩=>by go_simp) ?_
  simp only [pt,List.set_cons_zero,List.set_cons_succ]
  clear hS
  refine wpAnyH_all (rs:=[9]) (by kernel_rfl) (by decide) (fun j hj=>?_)
  simp only [List.mem_singleton] at hj
  subst hj
  refine QaO rfl (by rfl) ?_
  go_simp
  refine HZ.out.mono ?_
  rintro e w2 ⟨rfl,rfl⟩
  refine ⟨⟨(QaC HMD.out (Fr.refl _ _)).1,(QaC HMD.out (Fr.refl _ _)).2 2,(QaC HMD.out (Fr.refl _ _)).2 1⟩,?_⟩
  try simp only [Act.put,List.setIfInBounds_toArray,List.set_cons_zero,List.set_cons_succ]
  refine wpAnyH_all (rs:=[10]) (by kernel_rfl) (by decide) (fun j hj=>?_)
  simp only [List.mem_singleton] at hj
  subst hj
  refine QaO rfl (by rfl) ?_
  go_simp
  refine (QfQ rb B xb sb M m count _ HMD.out).mono ?_
  intro e w3 h3
  rcases h3.cases with ⟨hf,⟨m',hr,rfl,hm⟩ | ⟨f,hr,bb,hz,rfl,hcc⟩⟩
  rotate_left
  ·exact ⟨rfl,by rw [HR.out];exact QaP.from h3 (Fr.of_below (Qao _))⟩
  have H3:=Qab h3
  have HK3:=Qab (QaC hm hf)
  clear hm hf h3
  refine ⟨⟨(HK3.out).1,(HK3.out).2 2,(HK3.out).2 1⟩,wpAnyH_done (by kernel_rfl) ?_ _⟩
  try simp only [Act.put,List.setIfInBounds_toArray,List.set_cons_zero,List.set_cons_succ]
  go_wp2
  go_end0
  rw [HR.out]
  exact QaP.from H3.out (Fr.of_below (Qao _))
 ·go_enter Tryz.func193,Tryz.ntmps193
  go_wp2_with (go_at_call 199;refine (QbO _ _).mono ?_;rintro e w' ⟨rfl,hww⟩;rw [hww];clear hww)
  refine wp_region_held (S:=fun w'=>w'.cell? ⟨xb,0,none⟩=some (.pointer (some ⟨sb,0,none⟩))∧w'.cell? ⟨w.heap.size,2,none⟩=some (.int .i64 i.tag)∧w'.cell? ⟨w.heap.size,1,none⟩=some (.int .i64 i.n)) (by kernel_rfl) ?_
  have hS:(w.alloc (.cells #[.int .i64 i.op,.int .i64 i.n,.int .i64 i.tag,.bool i.oct,.slice aa i.a.length ac,.slice ba i.b.length bc,.int .i64 i.at_] 62)).drew.cell? ⟨xb,0,none⟩=some (.pointer (some ⟨sb,0,none⟩))∧(w.alloc (.cells #[.int .i64 i.op,.int .i64 i.n,.int .i64 i.tag,.bool i.oct,.slice aa i.a.length ac,.slice ba i.b.length bc,.int .i64 i.at_] 62)).drew.cell? ⟨w.heap.size,2,none⟩=some (.int .i64 i.tag)∧(w.alloc (.cells #[.int .i64 i.op,.int .i64 i.n,.int .i64 i.tag,.bool i.oct,.slice aa i.a.length ac,.slice ba i.b.length bc,.int .i64 i.at_] 62)).drew.cell? ⟨w.heap.size,1,none⟩=some (.int .i64 i.n):=⟨(QaC HMD.out (Fr.refl _ _)).1,(QaC HMD.out (Fr.refl _ _)).2 2,(QaC HMD.out (Fr.refl _ _)).2 1⟩
  refine QaE 0 14 (.pointer (some ⟨xb,0,none⟩)) rfl hS (fun w' ⟨s1,s2,s3⟩=>by go_simp) ?_
  simp only [pt,List.set_cons_zero,List.set_cons_succ]
  refine QaE 1 15 (.pointer (some ⟨xb,0,none⟩)) rfl hS (fun w' ⟨s1,s2,s3⟩=>by go_simp) ?_
  simp only [pt,List.set_cons_zero,List.set_cons_succ]
  refine QaE 2 16 (.pointer (some ⟨xb,0,none⟩)) rfl hS (fun w' ⟨s1,s2,s3⟩=>by go_simp) ?_
  simp only [pt,List.set_cons_zero,List.set_cons_succ]
  refine QaE 3 17 (.pointer (some ⟨xb,0,none⟩)) rfl hS (fun w' ⟨s1,s2,s3⟩=>by go_simp) ?_
  simp only [pt,List.set_cons_zero,List.set_cons_succ]
  refine QaE 4 18 (.pointer (some ⟨sb,0,none⟩)) rfl hS (fun w' ⟨s1,s2,s3⟩=>by go_simp) ?_
  simp only [pt,List.set_cons_zero,List.set_cons_succ]
  refine QaE 5 19 (.pointer (some ⟨w.heap.size,2,none⟩)) rfl hS (fun w' ⟨s1,s2,s3⟩=>by go_simp) ?_
  simp only [pt,List.set_cons_zero,List.set_cons_succ]
  refine QaE 6 20 (.int .i64 i.tag) rfl hS (fun w' ⟨s1,s2,s3⟩=>by go_simp) ?_
  simp only [pt,List.set_cons_zero,List.set_cons_succ]
  refine QaE 7 21 (.pointer (some ⟨w.heap.size,1,none⟩)) rfl hS (fun w' ⟨s1,s2,s3⟩=>by go_simp) ?_
  simp only [pt,List.set_cons_zero,List.set_cons_succ]
  refine QaE 8 22 (.int .i64 i.n) rfl hS (fun w' ⟨s1,s2,s3⟩=>by go_simp) ?_
  simp only [pt,List.set_cons_zero,List.set_cons_succ]
  clear hS
  refine wpAnyH_all (rs:=[9]) (by kernel_rfl) (by decide) (fun j hj=>?_)
  simp only [List.mem_singleton] at hj
  subst hj
  refine QaO rfl (by rfl) ?_
  go_simp
  refine HZ.out.mono ?_
  rintro e w2 ⟨rfl,rfl⟩
  refine ⟨⟨(QaC HMD.out (Fr.refl _ _)).1,(QaC HMD.out (Fr.refl _ _)).2 2,(QaC HMD.out (Fr.refl _ _)).2 1⟩,?_⟩
  try simp only [Act.put,List.setIfInBounds_toArray,List.set_cons_zero,List.set_cons_succ]
  refine wpAnyH_all (rs:=[10]) (by kernel_rfl) (by decide) (fun j hj=>?_)
  simp only [List.mem_singleton] at hj
  subst hj
  refine QaO rfl (by rfl) ?_
  go_simp
  refine (QfQ rb B xb sb M m count _ HMD.out).mono ?_
  intro e w3 h3
  rcases h3.cases with ⟨hf,⟨m',hr,rfl,hm⟩ | ⟨f,hr,bb,hz,rfl,hcc⟩⟩
  rotate_left
  ·exact ⟨rfl,by rw [HR.out];exact QaP.from h3 (Fr.of_below (Qao _))⟩
  have H3:=Qab h3
  have HK3:=Qab (QaC hm hf)
  clear hm hf h3
  refine ⟨⟨(HK3.out).1,(HK3.out).2 2,(HK3.out).2 1⟩,wpAnyH_done (by kernel_rfl) ?_ _⟩
  try simp only [Act.put,List.setIfInBounds_toArray,List.set_cons_zero,List.set_cons_succ]
  go_wp2
  go_end0
  rw [HR.out]
  exact QaP.from H3.out (Fr.of_below (Qao _))
theorem Qn8 (i:Ins) (av bv:Value) (B xb sb:Nat) (M:Msg) (m:MS) (count:Nat) (w:World) (h:MAt w B xb sb M m count) (ho:Qcg w i av bv) :
 Calls Tryz.prog 196 #[.pointer (some ⟨xb,0,none⟩),Qdt i av bv] w (QaP (.ok (stL m (QsV m.st))) B xb sb M count w):=by
 obtain ⟨aa,ac,hav⟩:=ho.a.len
 obtain ⟨ba,bc,hbv⟩:=ho.b.len
 subst hav hbv
 have HM:=Qab h
 have HO:=Qab ho
 have hxl:xb < w.heap.size:=Qax h.now
 have hnow:=(h.box (.cells #[.int .i64 i.op,.int .i64 i.n,.int .i64 i.tag,.bool i.oct,.slice aa i.a.length ac,.slice ba i.b.length bc,.int .i64 i.at_] 62)).now
 have HMD:=Qab (h.below (Qao (.cells #[.int .i64 i.op,.int .i64 i.n,.int .i64 i.tag,.bool i.oct,.slice aa i.a.length ac,.slice ba i.b.length bc,.int .i64 i.at_] 62)))
 have HOD:=Qab (ho.below (Qao (.cells #[.int .i64 i.op,.int .i64 i.n,.int .i64 i.tag,.bool i.oct,.slice aa i.a.length ac,.slice ba i.b.length bc,.int .i64 i.at_] 62)))
 clear h ho
 unfold Qdt
 have x0:=(HM.out.box (.cells #[.int .i64 i.op,.int .i64 i.n,.int .i64 i.tag,.bool i.oct,.slice aa i.a.length ac,.slice ba i.b.length bc,.int .i64 i.at_] 62)).pt
 go_enter Tryz.func196,Tryz.ntmps196
 go_wp2_with fail
 refine (QqZ B sb M m.st _ (HM.out.box _).sat).mono ?_
 rintro e w2 ⟨hf2,rfl,hs2⟩
 have HF2:=Qab hf2
 have HM2:=Qab ((HM.out.box _).st' hs2 hf2)
 clear hf2 hs2
 go_wp2
 go_end0
 exact QaP.ok rfl ((Qc7 _ _).trans (HF2.out.mono (fun _ _=>PMc.st))) HM2.out
theorem Qs5 (i:Ins) (av bv:Value) (B xb sb:Nat) (M:Msg) (m:MS) (count:Nat) (w:World) (h:MAt w B xb sb M m count) (ho:Qcg w i av bv) :
 Calls Tryz.prog 198 #[.pointer (some ⟨xb,0,none⟩),Qdt i av bv] w (QaP (.ok (goL m count)) B xb sb M count w):=by
 obtain ⟨aa,ac,hav⟩:=ho.a.len
 obtain ⟨ba,bc,hbv⟩:=ho.b.len
 subst hav hbv
 have HM:=Qab h
 have HO:=Qab ho
 have hxl:xb < w.heap.size:=Qax h.now
 have hnow:=(h.box (.cells #[.int .i64 i.op,.int .i64 i.n,.int .i64 i.tag,.bool i.oct,.slice aa i.a.length ac,.slice ba i.b.length bc,.int .i64 i.at_] 62)).now
 have HMD:=Qab (h.below (Qao (.cells #[.int .i64 i.op,.int .i64 i.n,.int .i64 i.tag,.bool i.oct,.slice aa i.a.length ac,.slice ba i.b.length bc,.int .i64 i.at_] 62)))
 have HOD:=Qab (ho.below (Qao (.cells #[.int .i64 i.op,.int .i64 i.n,.int .i64 i.tag,.bool i.oct,.slice aa i.a.length ac,.slice ba i.b.length bc,.int .i64 i.at_] 62)))
 clear h ho
 unfold Qdt
 obtain ⟨kv,hMI⟩:=HM.out
 have c3:=Qaa hMI.blk 3
 have c4:=Qaa hMI.blk 4
 have f3:=Qap hMI.blk
 unfold QeE at c3 c4
 have HG:=Qab (hMI.go count (Nat.le_refl _))
 clear hMI
 go_enter Tryz.func198,Tryz.ntmps198
 go_wp2
 go_end0
 exact QaP.ok rfl (HG.out.2.alloc _) (HG.out.1.box _)
end
section
open Go.RowKit
attribute [local go_sem ↓] Go.wp_at_zero Go.wp_at_succ
theorem Qq9 (i:Ins) (m:MS) (arg:List UInt8):Qtp i m arg=(Qu3 m.st i.tag arg i.at_).map (stL m):=by
 unfold Qtp Qu3
 split <;> rfl
theorem Qm9.cases {r:Except FZ SS} {B sb:Nat} {M:Msg} {w w':World} {e:Ending} (h:Qm9 r B sb M w e w'):Fr (PSt B) w w'∧((∃ s,r=.ok s∧e=.returned (.tuple #[])∧SAt w' B sb M s)∨∃ f,r=.error f∧Qd9 f w e w'):=by
 obtain ⟨hf,h⟩:=h
 cases r with
 | ok s=>exact ⟨hf,Or.inl ⟨s,rfl,h⟩⟩
 | error f=>exact ⟨hf,Or.inr ⟨f,rfl,h⟩⟩
theorem Qua (i:Ins) (av bv:Value) (B xb sb:Nat) (M:Msg) (m:MS) (count:Nat) (w:World) (h:MAt w B xb sb M m count) (ho:Qcg w i av bv) :
 Calls Tryz.prog 194 #[.pointer (some ⟨xb,0,none⟩),Qdt i av bv] w (QaP (QfU i m) B xb sb M count w):=by
 obtain ⟨aa,ac,hav⟩:=ho.a.len
 obtain ⟨ba,bc,hbv⟩:=ho.b.len
 subst hav hbv
 have HM:=Qab h
 have HO:=Qab ho
 have hxl:xb < w.heap.size:=Qax h.now
 have hnow:=(h.box (.cells #[.int .i64 i.op,.int .i64 i.n,.int .i64 i.tag,.bool i.oct,.slice aa i.a.length ac,.slice ba i.b.length bc,.int .i64 i.at_] 62)).now
 have HMD:=Qab (h.below (Qao (.cells #[.int .i64 i.op,.int .i64 i.n,.int .i64 i.tag,.bool i.oct,.slice aa i.a.length ac,.slice ba i.b.length bc,.int .i64 i.at_] 62)))
 have HOD:=Qab (ho.below (Qao (.cells #[.int .i64 i.op,.int .i64 i.n,.int .i64 i.tag,.bool i.oct,.slice aa i.a.length ac,.slice ba i.b.length bc,.int .i64 i.at_] 62)))
 clear h ho
 unfold Qdt
 have e1:=QeU i.tag 1
 have e2:=QeU i.tag 2
 have e3:=QeU i.tag 3
 have e4:=QeU i.tag 4
 by_cases t1:i.tag=1
 ·have HR:Hid (QfU i m=(Qu3 m.st i.tag [] i.at_).map (stL m)):=by show _=_;unfold QfU;rw [if_pos t1,Qq9]
  rw [decide_eq_true t1] at e1
  have HAC:=Qab (QtN B sb M m.st i.tag i.at_ [] (w.alloc (.cells #[.int .i64 i.op,.int .i64 i.n,.int .i64 i.tag,.bool i.oct,.slice aa i.a.length ac,.slice ba i.b.length bc,.int .i64 i.at_] 62)).drew HMD.out.sat (by decide))
  clear t1
  go_enter Tryz.func194,Tryz.ntmps194
  go_wp2_with fail
  refine wp_region_held (S:=fun w'=>w'.cell? ⟨xb,0,none⟩=some (.pointer (some ⟨sb,0,none⟩))∧w'.cell? ⟨w.heap.size,2,none⟩=some (.int .i64 i.tag)∧w'.cell? ⟨w.heap.size,6,none⟩=some (.int .i64 i.at_)) (by kernel_rfl) ?_
  have hS:(w.alloc (.cells #[.int .i64 i.op,.int .i64 i.n,.int .i64 i.tag,.bool i.oct,.slice aa i.a.length ac,.slice ba i.b.length bc,.int .i64 i.at_] 62)).drew.cell? ⟨xb,0,none⟩=some (.pointer (some ⟨sb,0,none⟩))∧(w.alloc (.cells #[.int .i64 i.op,.int .i64 i.n,.int .i64 i.tag,.bool i.oct,.slice aa i.a.length ac,.slice ba i.b.length bc,.int .i64 i.at_] 62)).drew.cell? ⟨w.heap.size,2,none⟩=some (.int .i64 i.tag)∧(w.alloc (.cells #[.int .i64 i.op,.int .i64 i.n,.int .i64 i.tag,.bool i.oct,.slice aa i.a.length ac,.slice ba i.b.length bc,.int .i64 i.at_] 62)).drew.cell? ⟨w.heap.size,6,none⟩=some (.int .i64 i.at_):=⟨(QaC HMD.out (Fr.refl _ _)).1,(QaC HMD.out (Fr.refl _ _)).2 2,(QaC HMD.out (Fr.refl _ _)).2 6⟩
  refine QaE 0 10 (.pointer (some ⟨xb,0,none⟩)) rfl hS (fun w' ⟨s1,s2,s3⟩=>by go_simp) ?_
  simp only [pt,List.set_cons_zero,List.set_cons_succ]
  refine QaE 1 11 (.pointer (some ⟨xb,0,none⟩)) rfl hS (fun w' ⟨s1,s2,s3⟩=>by go_simp) ?_
  simp only [pt,List.set_cons_zero,List.set_cons_succ]
  refine QaE 2 12 (.pointer (some ⟨xb,0,none⟩)) rfl hS (fun w' ⟨s1,s2,s3⟩=>by go_simp) ?_
  simp only [pt,List.set_cons_zero,List.set_cons_succ]
  refine QaE 3 13 (.pointer (some ⟨sb,0,none⟩)) rfl hS (fun w' ⟨s1,s2,s3⟩=>by go_simp) ?_
  simp only [pt,List.set_cons_zero,List.set_cons_succ]
  refine QaE 4 14 (.pointer (some ⟨w.heap.size,2,none⟩)) rfl hS (fun w' ⟨s1,s2,s3⟩=>by go_simp) ?_
  simp only [pt,List.set_cons_zero,List.set_cons_succ]
  refine QaE 5 15 (.int .i64 i.tag) rfl hS (fun w' ⟨s1,s2,s3⟩=>by go_simp) ?_
  simp only [pt,List.set_cons_zero,List.set_cons_succ]
  refine QaE 6 16 (.pointer (some ⟨w.heap.size,6,none⟩)) rfl hS (fun w' ⟨s1,s2,s3⟩=>by go_simp) ?_
  simp only [pt,List.set_cons_zero,List.set_cons_succ]
  refine QaE 7 17 (.int .i64 i.at_) rfl hS (fun w' ⟨s1,s2,s3⟩=>by go_simp) ?_
  simp only [pt,List.set_cons_zero,List.set_cons_succ]
  clear hS
  refine wpAnyH_all (rs:=[8]) (by kernel_rfl) (by decide) (fun j hj=>?_)
  simp only [List.mem_singleton] at hj
  subst hj
  refine QaO rfl (by rfl) ?_
  go_simp
  refine HAC.out.mono ?_
  intro e w2 h2
  rcases h2.cases with ⟨hf,⟨s',hr,rfl,hs⟩ | ⟨f,hr,bb,hz,rfl,hcc⟩⟩
  rotate_left
  ·exact ⟨rfl,by rw [HR.out,hr];exact QaP.from (QaP.err rfl (hf.mono (fun _ _=>PMc.st)) ⟨bb,hz,rfl,hcc⟩) (Fr.of_below (Qao _))⟩
  have HM2:=Qab (HMD.out.st' hs hf)
  have HF2:=Qab (hf.mono (fun _ _=>PMc.st (xb:=xb)))
  have HRR:=Qab hr
  have HK2:=Qab (QaC HM2.out HF2.out)
  clear hs hf h2 hr
  refine ⟨⟨(HK2.out).1,(HK2.out).2 2,(HK2.out).2 6⟩,wpAnyH_done (by kernel_rfl) ?_ _⟩
  try simp only [Act.put,List.setIfInBounds_toArray,List.set_cons_zero,List.set_cons_succ]
  go_wp2
  go_end0
  rw [HR.out,HRR.out]
  exact QaP.from (QaP.ok rfl HF2.out HM2.out) (Fr.of_below (Qao _))
 rw [decide_eq_false t1] at e1
 by_cases t24:2≤i.tag∧i.tag≤4
 rotate_left
 ·have HR:Hid (QfU i m=.error (12,(m.now:Int))):=by show _=_;unfold QfU Qc2;rw [if_neg t1,if_neg (fun h=>t24 ⟨h.1,h.2.1⟩)]
  rw [decide_eq_false (by omega)] at e2 e3 e4
  clear t1 t24
  go_enter Tryz.func194,Tryz.ntmps194
  go_wp2_with (go_at_call 199;refine (QcD _ _ _ hnow).mono ?_;rintro e w' ⟨⟨bb,hz,rfl,hcc⟩,hb⟩)
  exact ⟨rfl,by rw [HR.out];exact QaP.from (QaP.err rfl (Fr.of_below hb) ⟨bb,hz,rfl,hcc⟩) (Qc7 _ _)⟩
 by_cases ha:i.a=[]
 ·have HR:Hid (QfU i m=.error (12,(m.now:Int))):=by show _=_;unfold QfU Qc2;rw [if_neg t1,if_neg (fun h=>h.2.2 ha)]
  have hz0:¬ (0:Int) < (i.a.length:Int):=by rw [ha];simp
  have hz1:¬ 0 < i.a.length:=by rw [ha];simp
  have hz2:decide (0 < i.a.length)=false:=decide_eq_false hz1
  rcases (by omega:i.tag=2∨i.tag=3∨i.tag=4) with tt | tt | tt
  ·rw [decide_eq_true tt] at e2
   rw [decide_eq_false (by omega)] at e3 e4
   clear t1 t24 tt ha
   go_enter Tryz.func194,Tryz.ntmps194
   go_wp2_with (go_at_call 199;refine (QcD _ _ _ hnow).mono ?_;rintro e w' ⟨⟨bb,hz,rfl,hcc⟩,hb⟩)
   exact ⟨rfl,by rw [HR.out];exact QaP.from (QaP.err rfl (Fr.of_below hb) ⟨bb,hz,rfl,hcc⟩) (Qc7 _ _)⟩
  ·rw [decide_eq_true tt] at e3
   rw [decide_eq_false (by omega)] at e2 e4
   clear t1 t24 tt ha
   go_enter Tryz.func194,Tryz.ntmps194
   go_wp2_with (go_at_call 199;refine (QcD _ _ _ hnow).mono ?_;rintro e w' ⟨⟨bb,hz,rfl,hcc⟩,hb⟩)
   exact ⟨rfl,by rw [HR.out];exact QaP.from (QaP.err rfl (Fr.of_below hb) ⟨bb,hz,rfl,hcc⟩) (Qc7 _ _)⟩
  ·rw [decide_eq_true tt] at e4
   rw [decide_eq_false (by omega)] at e2 e3
   clear t1 t24 tt ha
   go_enter Tryz.func194,Tryz.ntmps194
   go_wp2_with (go_at_call 199;refine (QcD _ _ _ hnow).mono ?_;rintro e w' ⟨⟨bb,hz,rfl,hcc⟩,hb⟩)
   exact ⟨rfl,by rw [HR.out];exact QaP.from (QaP.err rfl (Fr.of_below hb) ⟨bb,hz,rfl,hcc⟩) (Qc7 _ _)⟩
 obtain ⟨x,r,hax⟩:∃ x r,i.a=x :: r:=by cases hh:i.a with | nil=>exact absurd hh ha | cons x r=>exact ⟨x,r,rfl⟩
 have HR:Hid (QfU i m=(Qu3 m.st i.tag x i.at_).map (stL m)):=by show _=_;unfold QfU;rw [if_neg t1,if_pos ⟨t24.1,t24.2,ha⟩,hax,Qq9];rfl
 have hxl2:=HO.out.al x (by rw [hax];simp)
 have HAC:=Qab (QtN B sb M m.st i.tag i.at_ x (w.alloc (.cells #[.int .i64 i.op,.int .i64 i.n,.int .i64 i.tag,.bool i.oct,.slice aa i.a.length ac,.slice ba i.b.length bc,.int .i64 i.at_] 62)).drew HMD.out.sat (by omega))
 obtain ⟨g,hga,hgl,hgc⟩:=HO.out.a.get' 0 (by rw [hax];simp)
 have hgc':w.cell? ⟨g,0,none⟩=some (.string (Qad x)):=by rw [hgc];congr 3;simp [hax]
 have hposN:0 < i.a.length:=by rw [hax];simp
 have hpos:(0:Int) < (i.a.length:Int):=by omega
 have hposd:decide (0 < i.a.length)=true:=decide_eq_true hposN
 have HGB:Hid (∀ W,Fr (PMc B xb) (w.alloc (.cells #[.int .i64 i.op,.int .i64 i.n,.int .i64 i.tag,.bool i.oct,.slice aa i.a.length ac,.slice ba i.b.length bc,.int .i64 i.at_] 62)).drew W→W.cell? ⟨g,0,none⟩=some (.string (Qad x))):=fun W hf=>by
  have h1:=HOD.out.a.pm hf
  obtain ⟨g',hg',_,hc'⟩:=h1.get' 0 (by rw [hax];simp)
  rw [hga] at hg'
  injection hg' with hg'
  injection hg' with hg'
  subst hg'
  rw [hc'];congr 3;simp [hax]
 have hgne:¬ g=w.heap.size:=by omega
 clear hgc
 subst hga
 rcases (by omega:i.tag=2∨i.tag=3∨i.tag=4) with tt | tt | tt
 ·rw [decide_eq_true tt] at e2
  rw [decide_eq_false (by omega)] at e3 e4
  clear t1 t24 tt hax ha
  go_enter Tryz.func194,Tryz.ntmps194
  go_wp2_with (go_at_call 199;refine (QbO _ _).mono ?_;rintro e w' ⟨rfl,hww⟩;rw [hww];clear hww)
  refine wp_region_held (S:=fun w'=>w'.cell? ⟨xb,0,none⟩=some (.pointer (some ⟨sb,0,none⟩))∧w'.cell? ⟨w.heap.size,2,none⟩=some (.int .i64 i.tag)∧w'.cell? ⟨w.heap.size,4,none⟩=some (.slice (some ⟨g,0,none⟩) i.a.length ac)∧w'.cell? ⟨w.heap.size,6,none⟩=some (.int .i64 i.at_)∧w'.cell? ⟨g,0,none⟩=some (.string (Qad x))) (by kernel_rfl) ?_
  have hS:(w.alloc (.cells #[.int .i64 i.op,.int .i64 i.n,.int .i64 i.tag,.bool i.oct,.slice (some ⟨g,0,none⟩) i.a.length ac,.slice ba i.b.length bc,.int .i64 i.at_] 62)).drew.cell? ⟨xb,0,none⟩=some (.pointer (some ⟨sb,0,none⟩))∧(w.alloc (.cells #[.int .i64 i.op,.int .i64 i.n,.int .i64 i.tag,.bool i.oct,.slice (some ⟨g,0,none⟩) i.a.length ac,.slice ba i.b.length bc,.int .i64 i.at_] 62)).drew.cell? ⟨w.heap.size,2,none⟩=some (.int .i64 i.tag)∧(w.alloc (.cells #[.int .i64 i.op,.int .i64 i.n,.int .i64 i.tag,.bool i.oct,.slice (some ⟨g,0,none⟩) i.a.length ac,.slice ba i.b.length bc,.int .i64 i.at_] 62)).drew.cell? ⟨w.heap.size,4,none⟩=some (.slice (some ⟨g,0,none⟩) i.a.length ac)∧(w.alloc (.cells #[.int .i64 i.op,.int .i64 i.n,.int .i64 i.tag,.bool i.oct,.slice (some ⟨g,0,none⟩) i.a.length ac,.slice ba i.b.length bc,.int .i64 i.at_] 62)).drew.cell? ⟨w.heap.size,6,none⟩=some (.int .i64 i.at_)∧(w.alloc (.cells #[.int .i64 i.op,.int .i64 i.n,.int .i64 i.tag,.bool i.oct,.slice (some ⟨g,0,none⟩) i.a.length ac,.slice ba i.b.length bc,.int .i64 i.at_] 62)).drew.cell? ⟨g,0,none⟩=some (.string (Qad x)):=⟨(QaC HMD.out (Fr.refl _ _)).1,(QaC HMD.out (Fr.refl _ _)).2 2,(QaC HMD.out (Fr.refl _ _)).2 4,(QaC HMD.out (Fr.refl _ _)).2 6,HGB.out _ (Fr.refl _ _)⟩
  refine QaE 0 29 (.pointer (some ⟨xb,0,none⟩)) rfl hS (fun w' ⟨s1,s2,s3,s4,s5⟩=>by go_simp) ?_
  simp only [pt,List.set_cons_zero,List.set_cons_succ]
  refine QaE 1 30 (.pointer (some ⟨xb,0,none⟩)) rfl hS (fun w' ⟨s1,s2,s3,s4,s5⟩=>by go_simp) ?_
  simp only [pt,List.set_cons_zero,List.set_cons_succ]
  refine QaE 2 31 (.pointer (some ⟨xb,0,none⟩)) rfl hS (fun w' ⟨s1,s2,s3,s4,s5⟩=>by go_simp) ?_
  simp only [pt,List.set_cons_zero,List.set_cons_succ]
  refine QaE 3 32 (.pointer (some ⟨sb,0,none⟩)) rfl hS (fun w' ⟨s1,s2,s3,s4,s5⟩=>by go_simp) ?_
  simp only [pt,List.set_cons_zero,List.set_cons_succ]
  refine QaE 4 33 (.pointer (some ⟨w.heap.size,2,none⟩)) rfl hS (fun w' ⟨s1,s2,s3,s4,s5⟩=>by go_simp) ?_
  simp only [pt,List.set_cons_zero,List.set_cons_succ]
  refine QaE 5 34 (.int .i64 i.tag) rfl hS (fun w' ⟨s1,s2,s3,s4,s5⟩=>by go_simp) ?_
  simp only [pt,List.set_cons_zero,List.set_cons_succ]
  refine QaE 6 35 (.pointer (some ⟨w.heap.size,4,none⟩)) rfl hS (fun w' ⟨s1,s2,s3,s4,s5⟩=>by go_simp) ?_
  simp only [pt,List.set_cons_zero,List.set_cons_succ]
  refine QaE 7 36 (.slice (some ⟨g,0,none⟩) i.a.length ac) rfl hS (fun w' ⟨s1,s2,s3,s4,s5⟩=>by go_simp) ?_
  simp only [pt,List.set_cons_zero,List.set_cons_succ]
  refine QaE 8 37 (.pointer (some ⟨g,0,none⟩)) rfl hS (fun w' ⟨s1,s2,s3,s4,s5⟩=>by go_simp) ?_
  simp only [pt,List.set_cons_zero,List.set_cons_succ]
  refine QaE 9 38 (.string (Qad x)) rfl hS (fun w' ⟨s1,s2,s3,s4,s5⟩=>by go_simp) ?_
  simp only [pt,List.set_cons_zero,List.set_cons_succ]
  refine QaE 10 39 (.pointer (some ⟨w.heap.size,6,none⟩)) rfl hS (fun w' ⟨s1,s2,s3,s4,s5⟩=>by go_simp) ?_
  simp only [pt,List.set_cons_zero,List.set_cons_succ]
  refine QaE 11 40 (.int .i64 i.at_) rfl hS (fun w' ⟨s1,s2,s3,s4,s5⟩=>by go_simp) ?_
  simp only [pt,List.set_cons_zero,List.set_cons_succ]
  clear hS
  refine wpAnyH_all (rs:=[12]) (by kernel_rfl) (by decide) (fun j hj=>?_)
  simp only [List.mem_singleton] at hj
  subst hj
  refine QaO rfl (by rfl) ?_
  go_simp
  refine HAC.out.mono ?_
  intro e w2 h2
  rcases h2.cases with ⟨hf,⟨s',hr,rfl,hs⟩ | ⟨f,hr,bb,hz,rfl,hcc⟩⟩
  rotate_left
  ·exact ⟨rfl,by rw [HR.out,hr];exact QaP.from (QaP.err rfl (hf.mono (fun _ _=>PMc.st)) ⟨bb,hz,rfl,hcc⟩) (Fr.of_below (Qao _))⟩
  have HM2:=Qab (HMD.out.st' hs hf)
  have HF2:=Qab (hf.mono (fun _ _=>PMc.st (xb:=xb)))
  have HRR:=Qab hr
  have HGB2:=Qab (HGB.out w2 HF2.out)
  have HK2:=Qab (QaC HM2.out HF2.out)
  clear hs hf h2 hr
  refine ⟨⟨(HK2.out).1,(HK2.out).2 2,(HK2.out).2 4,(HK2.out).2 6,HGB2.out⟩,wpAnyH_done (by kernel_rfl) ?_ _⟩
  try simp only [Act.put,List.setIfInBounds_toArray,List.set_cons_zero,List.set_cons_succ]
  go_wp2
  go_end0
  rw [HR.out,HRR.out]
  exact QaP.from (QaP.ok rfl HF2.out HM2.out) (Fr.of_below (Qao _))
 ·rw [decide_eq_true tt] at e3
  rw [decide_eq_false (by omega)] at e2 e4
  clear t1 t24 tt hax ha
  go_enter Tryz.func194,Tryz.ntmps194
  go_wp2_with (go_at_call 199;refine (QbO _ _).mono ?_;rintro e w' ⟨rfl,hww⟩;rw [hww];clear hww)
  refine wp_region_held (S:=fun w'=>w'.cell? ⟨xb,0,none⟩=some (.pointer (some ⟨sb,0,none⟩))∧w'.cell? ⟨w.heap.size,2,none⟩=some (.int .i64 i.tag)∧w'.cell? ⟨w.heap.size,4,none⟩=some (.slice (some ⟨g,0,none⟩) i.a.length ac)∧w'.cell? ⟨w.heap.size,6,none⟩=some (.int .i64 i.at_)∧w'.cell? ⟨g,0,none⟩=some (.string (Qad x))) (by kernel_rfl) ?_
  have hS:(w.alloc (.cells #[.int .i64 i.op,.int .i64 i.n,.int .i64 i.tag,.bool i.oct,.slice (some ⟨g,0,none⟩) i.a.length ac,.slice ba i.b.length bc,.int .i64 i.at_] 62)).drew.cell? ⟨xb,0,none⟩=some (.pointer (some ⟨sb,0,none⟩))∧(w.alloc (.cells #[.int .i64 i.op,.int .i64 i.n,.int .i64 i.tag,.bool i.oct,.slice (some ⟨g,0,none⟩) i.a.length ac,.slice ba i.b.length bc,.int .i64 i.at_] 62)).drew.cell? ⟨w.heap.size,2,none⟩=some (.int .i64 i.tag)∧(w.alloc (.cells #[.int .i64 i.op,.int .i64 i.n,.int .i64 i.tag,.bool i.oct,.slice (some ⟨g,0,none⟩) i.a.length ac,.slice ba i.b.length bc,.int .i64 i.at_] 62)).drew.cell? ⟨w.heap.size,4,none⟩=some (.slice (some ⟨g,0,none⟩) i.a.length ac)∧(w.alloc (.cells #[.int .i64 i.op,.int .i64 i.n,.int .i64 i.tag,.bool i.oct,.slice (some ⟨g,0,none⟩) i.a.length ac,.slice ba i.b.length bc,.int .i64 i.at_] 62)).drew.cell? ⟨w.heap.size,6,none⟩=some (.int .i64 i.at_)∧(w.alloc (.cells #[.int .i64 i.op,.int .i64 i.n,.int .i64 i.tag,.bool i.oct,.slice (some ⟨g,0,none⟩) i.a.length ac,.slice ba i.b.length bc,.int .i64 i.at_] 62)).drew.cell? ⟨g,0,none⟩=some (.string (Qad x)):=⟨(QaC HMD.out (Fr.refl _ _)).1,(QaC HMD.out (Fr.refl _ _)).2 2,(QaC HMD.out (Fr.refl _ _)).2 4,(QaC HMD.out (Fr.refl _ _)).2 6,HGB.out _ (Fr.refl _ _)⟩
  refine QaE 0 29 (.pointer (some ⟨xb,0,none⟩)) rfl hS (fun w' ⟨s1,s2,s3,s4,s5⟩=>by go_simp) ?_
  simp only [pt,List.set_cons_zero,List.set_cons_succ]
  refine QaE 1 30 (.pointer (some ⟨xb,0,none⟩)) rfl hS (fun w' ⟨s1,s2,s3,s4,s5⟩=>by go_simp) ?_
  simp only [pt,List.set_cons_zero,List.set_cons_succ]
  refine QaE 2 31 (.pointer (some ⟨xb,0,none⟩)) rfl hS (fun w' ⟨s1,s2,s3,s4,s5⟩=>by go_simp) ?_
  simp only [pt,List.set_cons_zero,List.set_cons_succ]
  refine QaE 3 32 (.pointer (some ⟨sb,0,none⟩)) rfl hS (fun w' ⟨s1,s2,s3,s4,s5⟩=>by go_simp) ?_
  simp only [pt,List.set_cons_zero,List.set_cons_succ]
  refine QaE 4 33 (.pointer (some ⟨w.heap.size,2,none⟩)) rfl hS (fun w' ⟨s1,s2,s3,s4,s5⟩=>by go_simp) ?_
  simp only [pt,List.set_cons_zero,List.set_cons_succ]
  refine QaE 5 34 (.int .i64 i.tag) rfl hS (fun w' ⟨s1,s2,s3,s4,s5⟩=>by go_simp) ?_
  simp only [pt,List.set_cons_zero,List.set_cons_succ]
  refine QaE 6 35 (.pointer (some ⟨w.heap.size,4,none⟩)) rfl hS (fun w' ⟨s1,s2,s3,s4,s5⟩=>by go_simp) ?_
  simp only [pt,List.set_cons_zero,List.set_cons_succ]
  refine QaE 7 36 (.slice (some ⟨g,0,none⟩) i.a.length ac) rfl hS (fun w' ⟨s1,s2,s3,s4,s5⟩=>by go_simp) ?_
  simp only [pt,List.set_cons_zero,List.set_cons_succ]
  refine QaE 8 37 (.pointer (some ⟨g,0,none⟩)) rfl hS (fun w' ⟨s1,s2,s3,s4,s5⟩=>by go_simp) ?_
  simp only [pt,List.set_cons_zero,List.set_cons_succ]
  refine QaE 9 38 (.string (Qad x)) rfl hS (fun w' ⟨s1,s2,s3,s4,s5⟩=>by go_simp) ?_
  simp only [pt,List.set_cons_zero,List.set_cons_succ]
  refine QaE 10 39 (.pointer (some ⟨w.heap.size,6,none⟩)) rfl hS (fun w' ⟨s1,s2,s3,s4,s5⟩=>by go_simp) ?_
  simp only [pt,List.set_cons_zero,List.set_cons_succ]
  refine QaE 11 40 (.int .i64 i.at_) rfl hS (fun w' ⟨s1,s2,s3,s4,s5⟩=>by go_simp) ?_
  simp only [pt,List.set_cons_zero,List.set_cons_succ]
  clear hS
  refine wpAnyH_all (rs:=[12]) (by kernel_rfl) (by decide) (fun j hj=>?_)
  simp only [List.mem_singleton] at hj
  subst hj
  refine QaO rfl (by rfl) ?_
  go_simp
  refine HAC.out.mono ?_
  intro e w2 h2
  rcases h2.cases with ⟨hf,⟨s',hr,rfl,hs⟩ | ⟨f,hr,bb,hz,rfl,hcc⟩⟩
  rotate_left
  ·exact ⟨rfl,by rw [HR.out,hr];exact QaP.from (QaP.err rfl (hf.mono (fun _ _=>PMc.st)) ⟨bb,hz,rfl,hcc⟩) (Fr.of_below (Qao _))⟩
  have HM2:=Qab (HMD.out.st' hs hf)
  have HF2:=Qab (hf.mono (fun _ _=>PMc.st (xb:=xb)))
  have HRR:=Qab hr
  have HGB2:=Qab (HGB.out w2 HF2.out)
  have HK2:=Qab (QaC HM2.out HF2.out)
  clear hs hf h2 hr
  refine ⟨⟨(HK2.out).1,(HK2.out).2 2,(HK2.out).2 4,(HK2.out).2 6,HGB2.out⟩,wpAnyH_done (by kernel_rfl) ?_ _⟩
  try simp only [Act.put,List.setIfInBounds_toArray,List.set_cons_zero,List.set_cons_succ]
  go_wp2
  go_end0
  rw [HR.out,HRR.out]
  exact QaP.from (QaP.ok rfl HF2.out HM2.out) (Fr.of_below (Qao _))
 ·rw [decide_eq_true tt] at e4
  rw [decide_eq_false (by omega)] at e2 e3
  clear t1 t24 tt hax ha
  go_enter Tryz.func194,Tryz.ntmps194
  go_wp2_with (go_at_call 199;refine (QbO _ _).mono ?_;rintro e w' ⟨rfl,hww⟩;rw [hww];clear hww)
  refine wp_region_held (S:=fun w'=>w'.cell? ⟨xb,0,none⟩=some (.pointer (some ⟨sb,0,none⟩))∧w'.cell? ⟨w.heap.size,2,none⟩=some (.int .i64 i.tag)∧w'.cell? ⟨w.heap.size,4,none⟩=some (.slice (some ⟨g,0,none⟩) i.a.length ac)∧w'.cell? ⟨w.heap.size,6,none⟩=some (.int .i64 i.at_)∧w'.cell? ⟨g,0,none⟩=some (.string (Qad x))) (by kernel_rfl) ?_
  have hS:(w.alloc (.cells #[.int .i64 i.op,.int .i64 i.n,.int .i64 i.tag,.bool i.oct,.slice (some ⟨g,0,none⟩) i.a.length ac,.slice ba i.b.length bc,.int .i64 i.at_] 62)).drew.cell? ⟨xb,0,none⟩=some (.pointer (some ⟨sb,0,none⟩))∧(w.alloc (.cells #[.int .i64 i.op,.int .i64 i.n,.int .i64 i.tag,.bool i.oct,.slice (some ⟨g,0,none⟩) i.a.length ac,.slice ba i.b.length bc,.int .i64 i.at_] 62)).drew.cell? ⟨w.heap.size,2,none⟩=some (.int .i64 i.tag)∧(w.alloc (.cells #[.int .i64 i.op,.int .i64 i.n,.int .i64 i.tag,.bool i.oct,.slice (some ⟨g,0,none⟩) i.a.length ac,.slice ba i.b.length bc,.int .i64 i.at_] 62)).drew.cell? ⟨w.heap.size,4,none⟩=some (.slice (some ⟨g,0,none⟩) i.a.length ac)∧(w.alloc (.cells #[.int .i64 i.op,.int .i64 i.n,.int .i64 i.tag,.bool i.oct,.slice (some ⟨g,0,none⟩) i.a.length ac,.slice ba i.b.length bc,.int .i64 i.at_] 62)).drew.cell? ⟨w.heap.size,6,none⟩=some (.int .i64 i.at_)∧(w.alloc (.cells #[.int .i64 i.op,.int .i64 i.n,.int .i64 i.tag,.bool i.oct,.slice (some ⟨g,0,none⟩) i.a.length ac,.slice ba i.b.length bc,.int .i64 i.at_] 62)).drew.cell? ⟨g,0,none⟩=some (.string (Qad x)):=⟨(QaC HMD.out (Fr.refl _ _)).1,(QaC HMD.out (Fr.refl _ _)).2 2,(QaC HMD.out (Fr.refl _ _)).2 4,(QaC HMD.out (Fr.refl _ _)).2 6,HGB.out _ (Fr.refl _ _)⟩
  refine QaE 0 29 (.pointer (some ⟨xb,0,none⟩)) rfl hS (fun w' ⟨s1,s2,s3,s4,s5⟩=>by go_simp) ?_
  simp only [pt,List.set_cons_zero,List.set_cons_succ]
  refine QaE 1 30 (.pointer (some ⟨xb,0,none⟩)) rfl hS (fun w' ⟨s1,s2,s3,s4,s5⟩=>by go_simp) ?_
  simp only [pt,List.set_cons_zero,List.set_cons_succ]
  refine QaE 2 31 (.pointer (some ⟨xb,0,none⟩)) rfl hS (fun w' ⟨s1,s2,s3,s4,s5⟩=>by go_simp) ?_
  simp only [pt,List.set_cons_zero,List.set_cons_succ]
  refine QaE 3 32 (.pointer (some ⟨sb,0,none⟩)) rfl hS (fun w' ⟨s1,s2,s3,s4,s5⟩=>by go_simp) ?_
  simp only [pt,List.set_cons_zero,List.set_cons_succ]
  refine QaE 4 33 (.pointer (some ⟨w.heap.size,2,none⟩)) rfl hS (fun w' ⟨s1,s2,s3,s4,s5⟩=>by go_simp) ?_
  simp only [pt,List.set_cons_zero,List.set_cons_succ]
  refine QaE 5 34 (.int .i64 i.tag) rfl hS (fun w' ⟨s1,s2,s3,s4,s5⟩=>by go_simp) ?_
  simp only [pt,List.set_cons_zero,List.set_cons_succ]
  refine QaE 6 35 (.pointer (some ⟨w.heap.size,4,none⟩)) rfl hS (fun w' ⟨s1,s2,s3,s4,s5⟩=>by go_simp) ?_
  simp only [pt,List.set_cons_zero,List.set_cons_succ]
  refine QaE 7 36 (.slice (some ⟨g,0,none⟩) i.a.length ac) rfl hS (fun w' ⟨s1,s2,s3,s4,s5⟩=>by go_simp) ?_
  simp only [pt,List.set_cons_zero,List.set_cons_succ]
  refine QaE 8 37 (.pointer (some ⟨g,0,none⟩)) rfl hS (fun w' ⟨s1,s2,s3,s4,s5⟩=>by go_simp) ?_
  simp only [pt,List.set_cons_zero,List.set_cons_succ]
  refine QaE 9 38 (.string (Qad x)) rfl hS (fun w' ⟨s1,s2,s3,s4,s5⟩=>by go_simp) ?_
  simp only [pt,List.set_cons_zero,List.set_cons_succ]
  refine QaE 10 39 (.pointer (some ⟨w.heap.size,6,none⟩)) rfl hS (fun w' ⟨s1,s2,s3,s4,s5⟩=>by go_simp) ?_
  simp only [pt,List.set_cons_zero,List.set_cons_succ]
  refine QaE 11 40 (.int .i64 i.at_) rfl hS (fun w' ⟨s1,s2,s3,s4,s5⟩=>by go_simp) ?_
  simp only [pt,List.set_cons_zero,List.set_cons_succ]
  clear hS
  refine wpAnyH_all (rs:=[12]) (by kernel_rfl) (by decide) (fun j hj=>?_)
  simp only [List.mem_singleton] at hj
  subst hj
  refine QaO rfl (by rfl) ?_
  go_simp
  refine HAC.out.mono ?_
  intro e w2 h2
  rcases h2.cases with ⟨hf,⟨s',hr,rfl,hs⟩ | ⟨f,hr,bb,hz,rfl,hcc⟩⟩
  rotate_left
  ·exact ⟨rfl,by rw [HR.out,hr];exact QaP.from (QaP.err rfl (hf.mono (fun _ _=>PMc.st)) ⟨bb,hz,rfl,hcc⟩) (Fr.of_below (Qao _))⟩
  have HM2:=Qab (HMD.out.st' hs hf)
  have HF2:=Qab (hf.mono (fun _ _=>PMc.st (xb:=xb)))
  have HRR:=Qab hr
  have HGB2:=Qab (HGB.out w2 HF2.out)
  have HK2:=Qab (QaC HM2.out HF2.out)
  clear hs hf h2 hr
  refine ⟨⟨(HK2.out).1,(HK2.out).2 2,(HK2.out).2 4,(HK2.out).2 6,HGB2.out⟩,wpAnyH_done (by kernel_rfl) ?_ _⟩
  try simp only [Act.put,List.setIfInBounds_toArray,List.set_cons_zero,List.set_cons_succ]
  go_wp2
  go_end0
  rw [HR.out,HRR.out]
  exact QaP.from (QaP.ok rfl HF2.out HM2.out) (Fr.of_below (Qao _))
end
section
open Go.RowKit
attribute [local go_sem ↓] Go.wp_at_zero Go.wp_at_succ
theorem Qut (i:Ins) (av bv:Value) (B xb sb:Nat) (M:Msg) (m:MS) (count:Nat) (w:World) (h:MAt w B xb sb M m count) (ho:Qcg w i av bv) (ht:Tab w) :
 Calls Tryz.prog 195 #[.pointer (some ⟨xb,0,none⟩),Qdt i av bv] w (QaP (Qle i m) B xb sb M count w):=by
 obtain ⟨aa,ac,hav⟩:=ho.a.len
 obtain ⟨ba,bc,hbv⟩:=ho.b.len
 subst hav hbv
 have HM:=Qab h
 have HO:=Qab ho
 have hxl:xb < w.heap.size:=Qax h.now
 have hnow:=(h.box (.cells #[.int .i64 i.op,.int .i64 i.n,.int .i64 i.tag,.bool i.oct,.slice aa i.a.length ac,.slice ba i.b.length bc,.int .i64 i.at_] 62)).now
 have HMD:=Qab (h.below (Qao (.cells #[.int .i64 i.op,.int .i64 i.n,.int .i64 i.tag,.bool i.oct,.slice aa i.a.length ac,.slice ba i.b.length bc,.int .i64 i.at_] 62)))
 have HOD:=Qab (ho.below (Qao (.cells #[.int .i64 i.op,.int .i64 i.n,.int .i64 i.tag,.bool i.oct,.slice aa i.a.length ac,.slice ba i.b.length bc,.int .i64 i.at_] 62)))
 clear h ho
 unfold Qdt
 have hTD:Tab (w.alloc (.cells #[.int .i64 i.op,.int .i64 i.n,.int .i64 i.tag,.bool i.oct,.slice aa i.a.length ac,.slice ba i.b.length bc,.int .i64 i.at_] 62)).drew:=ht.below (Qao _)
 have HTD:=Qab hTD
 clear ht hTD
 by_cases hc:0≤i.tag∧i.tag≤3∧i.a≠[]∧i.b≠[]
 rotate_left
 ·have HR:Hid (Qle i m=.error (12,(m.now:Int))):=by show _=_;unfold Qle Qc2;rw [if_neg hc]
  have hpk:(decide (0≤i.tag) && decide (i.tag≤3) && decide (0 < i.a.length) && decide (0 < i.b.length))=false:=by
   rw [Bool.eq_false_iff]
   intro h
   simp only [Bool.and_eq_true,decide_eq_true_eq] at h
   exact hc ⟨h.1.1.1,h.1.1.2,List.length_pos_iff.1 h.1.2,List.length_pos_iff.1 h.2⟩
  clear hc
  by_cases h1:0≤i.tag
  ·have d1:=decide_eq_true h1
   by_cases h2:i.tag≤3
   ·have d2:=decide_eq_true h2
    by_cases h3:0 < i.a.length
    ·have d3:=decide_eq_true h3
     have h3':(0:Int) < (i.a.length:Int):=by omega
     have d4:decide (0 < i.b.length)=false:=by rw [d1,d2,d3] at hpk;simpa using hpk
     have h4:¬ (0:Int) < (i.b.length:Int):=by have:=of_decide_eq_false d4;omega
     clear hpk
     go_enter Tryz.func195,Tryz.ntmps195
     go_wp2_with (go_at_call 199;refine (QcD _ _ _ hnow).mono ?_;rintro e w' ⟨⟨bb,hz,rfl,hcc⟩,hb⟩)
     exact ⟨rfl,by rw [HR.out];exact QaP.from (QaP.err rfl (Fr.of_below hb) ⟨bb,hz,rfl,hcc⟩) (Qc7 _ _)⟩
    ·have d3:=decide_eq_false h3
     have h3':¬ (0:Int) < (i.a.length:Int):=by omega
     clear hpk
     go_enter Tryz.func195,Tryz.ntmps195
     go_wp2_with (go_at_call 199;refine (QcD _ _ _ hnow).mono ?_;rintro e w' ⟨⟨bb,hz,rfl,hcc⟩,hb⟩)
     exact ⟨rfl,by rw [HR.out];exact QaP.from (QaP.err rfl (Fr.of_below hb) ⟨bb,hz,rfl,hcc⟩) (Qc7 _ _)⟩
   ·have d2:=decide_eq_false h2
    clear hpk
    go_enter Tryz.func195,Tryz.ntmps195
    go_wp2_with (go_at_call 199;refine (QcD _ _ _ hnow).mono ?_;rintro e w' ⟨⟨bb,hz,rfl,hcc⟩,hb⟩)
    exact ⟨rfl,by rw [HR.out];exact QaP.from (QaP.err rfl (Fr.of_below hb) ⟨bb,hz,rfl,hcc⟩) (Qc7 _ _)⟩
  ·have d1:=decide_eq_false h1
   clear hpk
   go_enter Tryz.func195,Tryz.ntmps195
   go_wp2_with (go_at_call 199;refine (QcD _ _ _ hnow).mono ?_;rintro e w' ⟨⟨bb,hz,rfl,hcc⟩,hb⟩)
   exact ⟨rfl,by rw [HR.out];exact QaP.from (QaP.err rfl (Fr.of_below hb) ⟨bb,hz,rfl,hcc⟩) (Qc7 _ _)⟩
 obtain ⟨h1,h2,ha,hb⟩:=hc
 obtain ⟨x,r,hax⟩:∃ x r,i.a=x :: r:=by cases hh:i.a with | nil=>exact absurd hh ha | cons x r=>exact ⟨x,r,rfl⟩
 obtain ⟨y,q,hby⟩:∃ y q,i.b=y :: q:=by cases hh:i.b with | nil=>exact absurd hh hb | cons x r=>exact ⟨x,r,rfl⟩
 have HR:Hid (Qle i m=.ok (stL m (Qvu m.st x i.tag y))):=by show _=_;unfold Qle;rw [if_pos ⟨h1,h2,ha,hb⟩,hax,hby];rfl
 have hyl2:=HO.out.bl y (by rw [hby];simp)
 have HAC:=Qab (Qvm B sb M m.st x i.tag y (w.alloc (.cells #[.int .i64 i.op,.int .i64 i.n,.int .i64 i.tag,.bool i.oct,.slice aa i.a.length ac,.slice ba i.b.length bc,.int .i64 i.at_] 62)).drew HMD.out.sat HTD.out (by omega))
 obtain ⟨g,hga,hgl,hgc⟩:=HO.out.a.get' 0 (by rw [hax];simp)
 obtain ⟨k,hkb,hkl,hkc⟩:=HO.out.b.get' 0 (by rw [hby];simp)
 have hgc':w.cell? ⟨g,0,none⟩=some (.string (Qad x)):=by rw [hgc];congr 3;simp [hax]
 have hkc':w.cell? ⟨k,0,none⟩=some (.string (Qad y)):=by rw [hkc];congr 3;simp [hby]
 have hpN:0 < i.a.length:=by rw [hax];simp
 have hqN:0 < i.b.length:=by rw [hby];simp
 have hp':(0:Int) < (i.a.length:Int):=by omega
 have hq':(0:Int) < (i.b.length:Int):=by omega
 have d1:=decide_eq_true h1
 have d2:=decide_eq_true h2
 have d3:=decide_eq_true hpN
 have d4:=decide_eq_true hqN
 have HGB:Hid (∀ W,Fr (PMc B xb) (w.alloc (.cells #[.int .i64 i.op,.int .i64 i.n,.int .i64 i.tag,.bool i.oct,.slice aa i.a.length ac,.slice ba i.b.length bc,.int .i64 i.at_] 62)).drew W→W.cell? ⟨g,0,none⟩=some (.string (Qad x))∧W.cell? ⟨k,0,none⟩=some (.string (Qad y))):=fun W hf=>by
  have e1:=HOD.out.a.pm hf
  have e2:=HOD.out.b.pm hf
  obtain ⟨g',hg',_,hc'⟩:=e1.get' 0 (by rw [hax];simp)
  obtain ⟨k',hk',_,hd'⟩:=e2.get' 0 (by rw [hby];simp)
  rw [hga] at hg'
  rw [hkb] at hk'
  injection hg' with hg'
  injection hg' with hg'
  injection hk' with hk'
  injection hk' with hk'
  subst hg' hk'
  refine ⟨?_,?_⟩
  ·rw [hc'];congr 3;simp [hax]
  ·rw [hd'];congr 3;simp [hby]
 have hgne:¬ g=w.heap.size:=by omega
 have hkne:¬ k=w.heap.size:=by omega
 clear hgc hkc
 subst hga hkb
 clear hax hby ha hb
 go_enter Tryz.func195,Tryz.ntmps195
 go_wp2_with (go_at_call 199;refine (QbO _ _).mono ?_;rintro e w' ⟨rfl,hww⟩;rw [hww];clear hww)
 refine wp_region_held (S:=fun w'=>w'.cell? ⟨xb,0,none⟩=some (.pointer (some ⟨sb,0,none⟩))∧w'.cell? ⟨w.heap.size,2,none⟩=some (.int .i64 i.tag)∧w'.cell? ⟨w.heap.size,4,none⟩=some (.slice (some ⟨g,0,none⟩) i.a.length ac)∧w'.cell? ⟨w.heap.size,5,none⟩=some (.slice (some ⟨k,0,none⟩) i.b.length bc)∧w'.cell? ⟨g,0,none⟩=some (.string (Qad x))∧w'.cell? ⟨k,0,none⟩=some (.string (Qad y))) (by kernel_rfl) ?_
 have hS:(w.alloc (.cells #[.int .i64 i.op,.int .i64 i.n,.int .i64 i.tag,.bool i.oct,.slice (some ⟨g,0,none⟩) i.a.length ac,.slice (some ⟨k,0,none⟩) i.b.length bc,.int .i64 i.at_] 62)).drew.cell? ⟨xb,0,none⟩=some (.pointer (some ⟨sb,0,none⟩))∧(w.alloc (.cells #[.int .i64 i.op,.int .i64 i.n,.int .i64 i.tag,.bool i.oct,.slice (some ⟨g,0,none⟩) i.a.length ac,.slice (some ⟨k,0,none⟩) i.b.length bc,.int .i64 i.at_] 62)).drew.cell? ⟨w.heap.size,2,none⟩=some (.int .i64 i.tag)∧(w.alloc (.cells #[.int .i64 i.op,.int .i64 i.n,.int .i64 i.tag,.bool i.oct,.slice (some ⟨g,0,none⟩) i.a.length ac,.slice (some ⟨k,0,none⟩) i.b.length bc,.int .i64 i.at_] 62)).drew.cell? ⟨w.heap.size,4,none⟩=some (.slice (some ⟨g,0,none⟩) i.a.length ac)∧(w.alloc (.cells #[.int .i64 i.op,.int .i64 i.n,.int .i64 i.tag,.bool i.oct,.slice (some ⟨g,0,none⟩) i.a.length ac,.slice (some ⟨k,0,none⟩) i.b.length bc,.int .i64 i.at_] 62)).drew.cell? ⟨w.heap.size,5,none⟩=some (.slice (some ⟨k,0,none⟩) i.b.length bc)∧(w.alloc (.cells #[.int .i64 i.op,.int .i64 i.n,.int .i64 i.tag,.bool i.oct,.slice (some ⟨g,0,none⟩) i.a.length ac,.slice (some ⟨k,0,none⟩) i.b.length bc,.int .i64 i.at_] 62)).drew.cell? ⟨g,0,none⟩=some (.string (Qad x))∧(w.alloc (.cells #[.int .i64 i.op,.int .i64 i.n,.int .i64 i.tag,.bool i.oct,.slice (some ⟨g,0,none⟩) i.a.length ac,.slice (some ⟨k,0,none⟩) i.b.length bc,.int .i64 i.at_] 62)).drew.cell? ⟨k,0,none⟩=some (.string (Qad y)):=⟨(QaC HMD.out (Fr.refl _ _)).1,(QaC HMD.out (Fr.refl _ _)).2 2,(QaC HMD.out (Fr.refl _ _)).2 4,(QaC HMD.out (Fr.refl _ _)).2 5,HGB.out _ (Fr.refl _ _)⟩
 refine QaE 0 26 (.pointer (some ⟨xb,0,none⟩)) rfl hS (fun w' ⟨s1,s2,s3,s4,s5,s6⟩=>by go_simp) ?_
 simp only [pt,List.set_cons_zero,List.set_cons_succ]
 refine QaE 1 27 (.pointer (some ⟨xb,0,none⟩)) rfl hS (fun w' ⟨s1,s2,s3,s4,s5,s6⟩=>by go_simp) ?_
 simp only [pt,List.set_cons_zero,List.set_cons_succ]
 refine QaE 2 28 (.pointer (some ⟨xb,0,none⟩)) rfl hS (fun w' ⟨s1,s2,s3,s4,s5,s6⟩=>by go_simp) ?_
 simp only [pt,List.set_cons_zero,List.set_cons_succ]
 refine QaE 3 29 (.pointer (some ⟨sb,0,none⟩)) rfl hS (fun w' ⟨s1,s2,s3,s4,s5,s6⟩=>by go_simp) ?_
 simp only [pt,List.set_cons_zero,List.set_cons_succ]
 refine QaE 4 30 (.pointer (some ⟨w.heap.size,4,none⟩)) rfl hS (fun w' ⟨s1,s2,s3,s4,s5,s6⟩=>by go_simp) ?_
 simp only [pt,List.set_cons_zero,List.set_cons_succ]
 refine QaE 5 31 (.slice (some ⟨g,0,none⟩) i.a.length ac) rfl hS (fun w' ⟨s1,s2,s3,s4,s5,s6⟩=>by go_simp) ?_
 simp only [pt,List.set_cons_zero,List.set_cons_succ]
 refine QaE 6 32 (.pointer (some ⟨g,0,none⟩)) rfl hS (fun w' ⟨s1,s2,s3,s4,s5,s6⟩=>by go_simp) ?_
 simp only [pt,List.set_cons_zero,List.set_cons_succ]
 refine QaE 7 33 (.string (Qad x)) rfl hS (fun w' ⟨s1,s2,s3,s4,s5,s6⟩=>by go_simp) ?_
 simp only [pt,List.set_cons_zero,List.set_cons_succ]
 refine QaE 8 34 (.pointer (some ⟨w.heap.size,2,none⟩)) rfl hS (fun w' ⟨s1,s2,s3,s4,s5,s6⟩=>by go_simp) ?_
 simp only [pt,List.set_cons_zero,List.set_cons_succ]
 refine QaE 9 35 (.int .i64 i.tag) rfl hS (fun w' ⟨s1,s2,s3,s4,s5,s6⟩=>by go_simp) ?_
 simp only [pt,List.set_cons_zero,List.set_cons_succ]
 refine QaE 10 36 (.pointer (some ⟨w.heap.size,5,none⟩)) rfl hS (fun w' ⟨s1,s2,s3,s4,s5,s6⟩=>by go_simp) ?_
 simp only [pt,List.set_cons_zero,List.set_cons_succ]
 refine QaE 11 37 (.slice (some ⟨k,0,none⟩) i.b.length bc) rfl hS (fun w' ⟨s1,s2,s3,s4,s5,s6⟩=>by go_simp) ?_
 simp only [pt,List.set_cons_zero,List.set_cons_succ]
 refine QaE 12 38 (.pointer (some ⟨k,0,none⟩)) rfl hS (fun w' ⟨s1,s2,s3,s4,s5,s6⟩=>by go_simp) ?_
 simp only [pt,List.set_cons_zero,List.set_cons_succ]
 refine QaE 13 39 (.string (Qad y)) rfl hS (fun w' ⟨s1,s2,s3,s4,s5,s6⟩=>by go_simp) ?_
 simp only [pt,List.set_cons_zero,List.set_cons_succ]
 clear hS
 refine wpAnyH_all (rs:=[14]) (by kernel_rfl) (by decide) (fun j hj=>?_)
 simp only [List.mem_singleton] at hj
 subst hj
 refine QaO rfl (by rfl) ?_
 go_simp
 refine HAC.out.mono ?_
 rintro e w2 ⟨hf,rfl,hs⟩
 have HM2:=Qab (HMD.out.st' hs hf)
 have HF2:=Qab (hf.mono (fun _ _=>PMc.st (xb:=xb)))
 have HGB2:=Qab (HGB.out w2 HF2.out)
 have HK2:=Qab (QaC HM2.out HF2.out)
 clear hs hf
 refine ⟨⟨(HK2.out).1,(HK2.out).2 2,(HK2.out).2 4,(HK2.out).2 5,HGB2.out⟩,wpAnyH_done (by kernel_rfl) ?_ _⟩
 try simp only [Act.put,List.setIfInBounds_toArray,List.set_cons_zero,List.set_cons_succ]
 go_wp2
 go_end0
 exact QaP.from (QaP.ok HR.out HF2.out HM2.out) (Fr.of_below (Qao _))
end
section
open Go.RowKit
attribute [local go_sem ↓] Go.wp_at_zero Go.wp_at_succ
theorem QrM (b:Bool) (w:World):Calls Tryz.prog 187 #[.bool b] w fun e w'=>e=.returned (.func (.func 268) #[] #[.pointer (some ⟨w.heap.size,0,none⟩)])∧w'=w.alloc (.cells #[.bool b] 4):=by
 have hmf:∀ (fn:Fn) (first cap:Array Value) (w:World),(Instr.makeFunc fn first cap).run Tryz.prog w=.ok (.func fn first cap) w:=fun _ _ _ _=>rfl
 go_enter Tryz.func187,Tryz.ntmps187
 go_wp2
 go_ret
 exact ⟨rfl,rfl⟩
theorem QrH (F:Nat) (w:World):Calls Tryz.prog 188 #[.func (.func F) #[] #[]] w fun e w'=>e=.returned (.func (.func 269) #[] #[.pointer (some ⟨w.heap.size,0,none⟩)])∧w'=w.alloc (.cells #[.func (.func F) #[] #[]] 329):=by
 have hmf:∀ (fn:Fn) (first cap:Array Value) (w:World),(Instr.makeFunc fn first cap).run Tryz.prog w=.ok (.func fn first cap) w:=fun _ _ _ _=>rfl
 go_enter Tryz.func188,Tryz.ntmps188
 go_wp2
 go_ret
 exact ⟨rfl,rfl⟩
def fnV (F:Nat):Value:=.func (.func F) #[] #[]
def clV (F p:Nat):Value:=.func (.func F) #[] #[.pointer (some ⟨p,0,none⟩)]
def Qul (n:Nat):Array Value:=
 #[.nilFunc,fnV 184,fnV 185,fnV 186,clV 268 n,clV 268 (n+1),clV 269 (n+2),clV 269 (n+3),clV 269 (n+4),
  fnV 192,fnV 193,fnV 194,fnV 195,fnV 196,fnV 198]
structure QeJ (w:World) (n:Nat):Prop where
 p0:w.heap[n]?=some (.cells #[.bool true] 4)
 p1:w.heap[n+1]?=some (.cells #[.bool false] 4)
 p2:w.heap[n+2]?=some (.cells #[fnV 189] 329)
 p3:w.heap[n+3]?=some (.cells #[fnV 190] 329)
 p4:w.heap[n+4]?=some (.cells #[fnV 191] 329)
 tb:w.heap[n+5]?=some (.cells (Qul n) 326)
theorem QeJ.fr {w w':World} {B xb:Nat} (h:QeJ w (xb+1)) (hf:Fr (PMc B xb) w w'):QeJ w' (xb+1):=by
 have hb:∀ (k:Nat) (b:Bool),k < xb+7→¬ PMc B xb k (.cells #[.bool b] 4):=fun k b hk hh=>by
  have:=hh.2
  unfold kO stO at this
  simp at this
  omega
 exact ⟨hf.block _ _ h.p0 (hb _ _ (by omega)),hf.block _ _ h.p1 (hb _ _ (by omega)),hf.block _ _ h.p2 (PMc.not (by decide) (by decide) (by decide) (by decide)),hf.block _ _ h.p3 (PMc.not (by decide) (by decide) (by decide) (by decide)),hf.block _ _ h.p4 (PMc.not (by decide) (by decide) (by decide) (by decide)),hf.block _ _ h.tb (PMc.not (by decide) (by decide) (by decide) (by decide))⟩
theorem QeJ.below {w w':World} {n:Nat} (h:QeJ w n) (hb:Below w.heap.size w w'):QeJ w' n:=
 ⟨Qal h.p0 hb,Qal h.p1 hb,Qal h.p2 hb,Qal h.p3 hb,Qal h.p4 hb,Qal h.tb hb⟩
theorem Qsv (w:World):Calls Tryz.prog 120 #[] w fun e w'=>e=.returned (.slice (some ⟨w.heap.size+5,0,none⟩) 15 15)∧QeJ w' w.heap.size∧Below w.heap.size w w'∧w'.heap.size=w.heap.size+6:=by
 go_enter Tryz.func120,Tryz.ntmps120
 go_wp2_with (first | (go_at_call 187;refine (QrM _ _).mono ?_;rintro e w' ⟨rfl,rfl⟩) | (go_at_call 188;refine (QrH _ _).mono ?_;rintro e w' ⟨rfl,rfl⟩))
 go_ret
 refine ⟨by simp,?_,?_,by simp⟩
 ·exact ⟨Qac (Qac (Qac (Qac (Qac (Qay _ _))))),Qac (Qac (Qac (Qac (QaD (by simp))))),Qac (Qac (Qac (QaD (by simp)))),Qac (Qac (QaD (by simp))),Qac (QaD (by simp)),QaD (by simp)⟩
 ·exact (((((((Below.refl _ _).alloc (Nat.le_refl _) _).alloc (by simp) _).alloc (by simp;omega) _).alloc (by simp;omega) _).alloc (by simp;omega) _).alloc (by simp;omega) _)
def Qf0 (M:Msg) (hv:Value):Value:=.agg #[.string (Qad M.fr),.string (Qad M.to),.int .i64 M.size,hv]
theorem Qt7 (v:Bool) (M:Msg) (hv:Value) (w:World) (hh:Qji w hv M.hdrs) (hb:SBd M (ss0 v)) (h1:1 < w.heap.size) (hm:∃ m,w.cell? ⟨1,0,none⟩=some (.int .i64 m)) :
 Calls Tryz.prog 119 #[.bool v,Qf0 M hv] w fun e w'=>∃ sb,e=.returned (.pointer (some ⟨sb,0,none⟩))∧SAt w' w.heap.size sb M (ss0 v)∧Below w.heap.size w w':=by
 obtain ⟨ha,hc,rfl⟩:=hh.len
 have HH:=Qab hh
 have hmm:∀ (w:World),(Instr.makeMap 319 none).run Tryz.prog w=.ok (.map (some w.heap.size)) (w.alloc (Obj.map #[] 0)):=fun _=>rfl
 clear hh
 unfold Qf0
 go_enter Tryz.func119,Tryz.ntmps119
 go_wp2
 go_ret
 have hB:Below w.heap.size w (((w.alloc (.cells #[.string (Qad M.fr),.string (Qad M.to),.int .i64 M.size,.slice ha M.hdrs.length hc] 48)).alloc (Obj.map #[] 0)).alloc (.cells (Qli M (.slice ha M.hdrs.length hc) v (w.heap.size+1) (.slice none 0 0) (.slice none 0 0) false) 323)):=(((Below.refl _ _).alloc (Nat.le_refl _) _).alloc (by simp) _).alloc (by simp;omega) _
 obtain ⟨m,hm⟩:=hm
 refine ⟨w.heap.size+1+1,rfl,⟨.slice ha M.hdrs.length hc,w.heap.size+1,.slice none 0 0,.slice none 0 0,by omega,by omega,h1,⟨m,?_⟩,?_,?_,⟨#[],0,?_,QsC.empty⟩,Or.inl ⟨rfl,rfl⟩,World.ownsRow_nil _ _ _ _,fun _=>rfl,hb⟩,hB⟩
 ·exact (hB.cell (p:=⟨1,0,none⟩) h1).trans hm
 ·exact QaD (by simp)
 ·exact HH.out.fr (P:=fun _ _=>False) (Fr.of_below hB) (fun _ _ h=>h)
 ·exact Qac (QaD (by simp))
end
end Go.Proofs.YtbiclelojbfnbaaGreatDoor
