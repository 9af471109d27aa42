import Derived.Test.YtbiclelojbfnbabGreatDoorZArm
namespace Go.Proofs.YtbiclelojbfnbabGreatDoor
set_option linter.unusedVariables false
set_option linter.unusedSimpArgs false
set_option maxRecDepth 100000
set_option maxHeartbeats 4000000
open Go.RowKit
attribute [local go_sem ↓] Go.wp_at_zero Go.wp_at_succ
abbrev Qqa:Obj:=.cells #[.string ⟨#[]⟩,.int .i64 0,.int .i64 0,.string ⟨#[]⟩,.string ⟨#[]⟩] 269
def Quc (l:List UInt8) (s:PS):Except Flt ((Nat×List UInt8×List UInt8)×PS):=
 QaQ (mayL l [Qdi,Qdg,Qcn] s) fun tag s1=>QaQ (stringL l (fun x=>if isNameL x then 0 else 7) s1) fun v s2=>
  QaQ (stringL l (fun _=>0) s2) fun x s3=>semi l s3 (tag,smallL v,x)
theorem QtI (hw:List UInt8) (hp:Nat) (d:Int) (b:Nat) (t:ByteArray) (s:PS) (rv:Value) (mc mt:Nat) (w:World) (h:RC w b t s rv mc mt) :
 Calls Tryz.prog 105 #[.pointer (some ⟨b,0,none⟩),Qco hw hp,.int .i64 d] w (Qao (Quc t.data.toList s) b t rv mc mt w (fun x w' v=>v=.iface 269 (.agg #[.string (Qag hw),.int .i64 hp,.int .i64 x.1,.string (Qag x.2.1),.string (Qag x.2.2)]))):=by
 have H:=Qaa h
 have hlt:=h.at_.lt
 have hn0:¬ w.heap.size=b:=by omega
 have hn1:¬ w.heap.size+1=b:=by omega
 have hn2:¬ w.heap.size+1+1=b:=by omega
 clear h
 unfold Qco
 go_enter Tryz.func105,Tryz.ntmps105
 go_upto_region 1 with fail
 go_cut [7] (fun v wc=>∃ (T:Nat) (y:Nat×PS),v=.pointer (some ⟨T,0,none⟩)∧mayL t.data.toList [Qdi,Qdg,Qcn] s=.ok y∧RC wc b t y.2 rv mc mt∧Mod b w wc∧w.heap.size≤T∧wc.heap[T]?=some (.cells #[.string (Qag hw),.int .i64 hp,.int .i64 y.1,.string ⟨#[]⟩,.string ⟨#[]⟩] 269))
 case first=>
  go_region_with (first | (go_at_call 162;refine (QkV _).mono ?_;rintro e w' ⟨rfl,rfl⟩;skip) | (go_at_call 161;refine (Qgw b _ 3 3 [Qdi,Qdg,Qcn] t s rv mc mt _ (by first | exact ((H.out.alloc _).alloc _).drew | exact (((H.out.alloc _).alloc _).alloc _).drew) (by first | exact (Qb7 _ _ (by simp)).drew | exact ((Qb7 _ _ (by simp)).alloc _).drew) rfl (by decide)).mono ?_;intro e w1 h1;rcases h1.cases with ⟨y,v,hy,rfl,hv,hc,hm⟩ | ⟨f,hf,⟨bb,hz,rfl,hcc⟩,hm⟩;rotate_left;exact ⟨rfl,Qao.err (Qae hf) (by first | exact (((Mod.refl b w).alloc _).alloc _).trans (QaR hm) | exact ((((Mod.refl b w).alloc _).alloc _).alloc _).trans (QaR hm)) ⟨bb,by simp at hz;omega,rfl,hcc⟩⟩;unfold Qi7 at hv;subst hv;have hhb:=QaP (g:=w.heap.size) (o:=.cells #[.string (Qag hw),.int .i64 hp] 200) (by first | exact Qad (QaB _ _) | exact Qad (Qad (QaB _ _))) (QaR hm) hn0;have hh0:w1.cell? ⟨w.heap.size,0,none⟩=some (.string (Qag hw)):=Qab hhb 0;have hh1:w1.cell? ⟨w.heap.size,1,none⟩=some (.int .i64 hp):=Qab hhb 1;clear hhb;(first | (have tb:=QaP (g:=w.heap.size+1) (o:=Qqa) (Qad (Qaw (by simp))) (QaR hm) hn1;have t0:w1.cell? ⟨w.heap.size+1,0,none⟩=some (.string ⟨#[]⟩):=Qab tb 0;have t1:w1.cell? ⟨w.heap.size+1,1,none⟩=some (.int .i64 0):=Qab tb 1;have t2:w1.cell? ⟨w.heap.size+1,2,none⟩=some (.int .i64 0):=Qab tb 2;have t3:w1.cell? ⟨w.heap.size+1,3,none⟩=some (.string ⟨#[]⟩):=Qab tb 3;have t4:w1.cell? ⟨w.heap.size+1,4,none⟩=some (.string ⟨#[]⟩):=Qab tb 4;have tf:=Qam tb;have TB:=Qaa tb;clear tb) | (have tb:=QaP (g:=w.heap.size+1+1) (o:=Qqa) (Qaw (by simp)) (QaR hm) hn2;have t0:w1.cell? ⟨w.heap.size+1+1,0,none⟩=some (.string ⟨#[]⟩):=Qab tb 0;have t1:w1.cell? ⟨w.heap.size+1+1,1,none⟩=some (.int .i64 0):=Qab tb 1;have t2:w1.cell? ⟨w.heap.size+1+1,2,none⟩=some (.int .i64 0):=Qab tb 2;have t3:w1.cell? ⟨w.heap.size+1+1,3,none⟩=some (.string ⟨#[]⟩):=Qab tb 3;have t4:w1.cell? ⟨w.heap.size+1+1,4,none⟩=some (.string ⟨#[]⟩):=Qab tb 4;have tf:=Qam tb;have TB:=Qaa tb;clear tb) | skip);have hzz:=hm.size;simp at hzz;have hz9:w.heap.size < w1.heap.size:=(by omega);have hh0a:∀ o,(w1.alloc o).cell? ⟨w.heap.size,0,none⟩=some (.string (Qag hw)):=(fun o=>by rw [World.cell?_alloc_past _ _ _ hz9];exact hh0);have hh1a:∀ o,(w1.alloc o).cell? ⟨w.heap.size,1,none⟩=some (.int .i64 hp):=(fun o=>by rw [World.cell?_alloc_past _ _ _ hz9];exact hh1);have HY:=Qaa hy;have HC:=Qaa hc;have HMM:Hid (Mod b w w1):=(by first | exact (((Mod.refl b w).alloc _).alloc _).trans (QaR hm) | exact ((((Mod.refl b w).alloc _).alloc _).alloc _).trans (QaR hm));clear h1 hy hc hm;skip))
  all_goals (go_wp2_with fail;go_meet)
  all_goals first
   | (have hTB:=TB;exact ⟨_,y,rfl,HY.out,((((HC.out.setNew (by omega) _ _).setNew (by omega) _ _).setNew (by omega) _ _).setNew (by omega) _ _).setNew (by omega) _ _,((((HMM.out.setNew (by omega) _ _).setNew (by omega) _ _).setNew (by omega) _ _).setNew (by omega) _ _).setNew (by omega) _ _,by omega,Qah _ _ _ _ _ _ (Qah _ _ _ _ _ _ (Qah _ _ _ _ _ _ (Qah _ _ _ _ _ _ (Qah _ _ _ _ _ _ TB.out))))⟩)
   | exact ⟨w1.heap.size,y,rfl,HY.out,HC.out.alloc _,HMM.out.alloc _,by omega,QaB _ _⟩
 case rest=>
  obtain ⟨T,y,rfl,hy,hc,hm,hT,hb⟩:=hcut
  have hlt2:=QaM hb
  have hbT:b < T:=by omega
  have HY:=Qaa hy
  have HC:=Qaa hc
  have HM:=Qaa hm
  have HB:=Qaa hb
  clear hy hc hm hb
  go_wp2_with fail
  refine (QlA b t y.2 rv mc mt _ HC.out).mono ?_
  intro e w1 h1
  rcases h1.cases with ⟨y1,v1,hy1,rfl,hv1,hc1,hm1⟩ | ⟨f,hf,⟨bb,hz,rfl,hcc⟩,hm1⟩
  rotate_left
  ·exact ⟨rfl,Qao.err ((Qac HY.out).trans (Qae hf)) (HM.out.trans hm1) ⟨bb,Nat.le_trans HM.out.size hz,rfl,hcc⟩⟩
  unfold Qp1 at hv1
  subst hv1
  have HY1:=Qaa hy1
  have HC1:=Qaa hc1
  have HM1:=Qaa (HM.out.trans hm1)
  have HB1:=Qaa (QaP HB.out hm1 (by omega))
  have hx1:y1.1.length≤600:=by
   have h1:=(QdV (l:=t.data.toList) (by simpa using HC.out.le) hy1).2
   have h2:=HC.out.sz.1
   rw [h1];exact h2
  clear h1 hy1 hc1 hm1
  go_wp2_with fail
  refine (QeJ (Qag y1.1) _ (by rw [QaD];omega)).mono ?_
  rintro e w2 ⟨rfl,hbl⟩
  have hb2:=QaP HB1.out (Mod.of_below (b:=b) hbl) (by omega)
  have t3:w2.cell? ⟨T,3,none⟩=some (.string ⟨#[]⟩):=Qab hb2 3
  have tf:=Qam hb2
  have HC2:=Qaa (HC1.out.below hbl)
  have HM2:=Qaa (HM1.out.trans (Mod.of_below (b:=b) hbl))
  have HB2:=Qaa hb2
  clear hb2 hbl
  go_wp2_with fail
  refine (Qdv b t y1.2 rv mc mt _ (HC2.out.setNew hbT _ _)).mono ?_
  intro e w3 h3
  rcases h3.cases with ⟨y3,v3,hy3,rfl,hv3,hc3,hm3⟩ | ⟨f,hf,⟨bb,hz,rfl,hcc⟩,hm3⟩
  rotate_left
  ·exact ⟨rfl,Qao.err ((Qac HY.out).trans ((Qac HY1.out).trans (Qae hf))) ((HM2.out.setNew hT _ _).trans hm3) ⟨bb,Nat.le_trans (HM2.out.setNew hT _ _).size hz,rfl,hcc⟩⟩
  unfold Qp1 at hv3
  subst hv3
  have hb3:=QaP (Qah _ T 3 (.string ⟨(smallL y1.1).toArray⟩) _ _ HB2.out) hm3 (by omega)
  have t4:w3.cell? ⟨T,4,none⟩=some (.string ⟨#[]⟩):=Qab hb3 4
  have tf3:=Qam hb3
  have HY3:=Qaa hy3
  have HC3:=Qaa hc3
  have HM3:=Qaa ((HM2.out.setNew hT 3 (.string ⟨(smallL y1.1).toArray⟩)).trans hm3)
  have HB3:=Qaa hb3
  clear hb3 h3 hy3 hc3 hm3 t3 tf
  go_wp2_with fail
  have HB4:=Qaa (Qah _ T 4 (.string (Qag y3.1)) _ _ HB3.out)
  have HC4:=Qaa (HC3.out.setNew hbT 4 (.string (Qag y3.1)))
  have HM4:=Qaa (HM3.out.setNew hT 4 (.string (Qag y3.1)))
  have HP:=Qaa (QcO b w3.heap.size 1 1 [[59]] t y3.2 rv mc mt _ (HC4.out.alloc (.cells (QaV [[59]]).toArray 9)) (Qb7 _ _ (by simp [World.setCell])) rfl (by decide))
  refine HP.out.mono ?_
  intro e w5 h5
  rcases h5.cases with ⟨y5,v5,hy5,rfl,hv5,hc5,hm5⟩ | ⟨f,hf,⟨bb,hz,rfl,hcc⟩,hm5⟩
  rotate_left
  ·exact ⟨rfl,Qao.err ((Qac HY.out).trans ((Qac HY1.out).trans ((Qac HY3.out).trans (Qae hf)))) ((HM4.out.alloc _).trans hm5) ⟨bb,Nat.le_trans (HM4.out.alloc _).size hz,rfl,hcc⟩⟩
  unfold Qi7 at hv5
  subst hv5
  have hb5:=QaP (Qad HB4.out) hm5 (by omega)
  have q0:w5.cell? ⟨T,0,none⟩=some (.string (Qag hw)):=Qab hb5 0
  have q1:w5.cell? ⟨T,1,none⟩=some (.int .i64 hp):=Qab hb5 1
  have q2:w5.cell? ⟨T,2,none⟩=some (.int .i64 y.1):=Qab hb5 2
  have q3:w5.cell? ⟨T,3,none⟩=some (.string (Qag (smallL y1.1))):=Qab hb5 3
  have q4:w5.cell? ⟨T,4,none⟩=some (.string (Qag y3.1)):=Qab hb5 4
  have HY5:=Qaa hy5
  have HC5:=Qaa hc5
  have HM5:=Qaa ((HM4.out.alloc (.cells (QaV [[59]]).toArray 9)).trans hm5)
  clear h5 hy5 hc5 hm5 hb5 HP t4 tf3
  go_wp2
  go_ret
  exact Qao.ok ((Qac HY.out).trans ((Qac HY1.out).trans ((Qac HY3.out).trans (Qac HY5.out)))) HM5.out rfl HC5.out
end Go.Proofs.YtbiclelojbfnbabGreatDoor
