import Derived.Test.YtbiclelojbfnbaaGreatDoorZBlock
namespace Go.Proofs.YtbiclelojbfnbaaGreatDoor
set_option linter.unusedVariables false
set_option linter.unusedSimpArgs false
set_option maxRecDepth 100000
set_option maxHeartbeats 4000000
section
open Go.RowKit
def QvG {α β:Type} (X:Nat→Prop) (P1:(Nat→Prop)→β→World→Value→Prop) (P2:(Nat→Prop)→α→World→Value→Prop) (a:β×List α) (w:World) (v:Value):Prop:=
 ∃ u bv,v=.agg #[u,bv]∧P1 X a.1 w u∧blX X P2 a.2 w bv
theorem Qm3 {b B:Nat} (h:b < B):¬ fromB B b:=by unfold fromB;omega
theorem Qrq {α β:Type} (tst:PS→Except Flt (β×PS)) (P1:(Nat→Prop)→β→World→Value→Prop) (sub:PS→Except Flt (α×PS)) (P2:(Nat→Prop)→α→World→Value→Prop) (d:Int) (b F:Nat) (t:ByteArray) (s:PS) (rv:Value) (mc mt:Nat) (w:World) (h:RC w b t s rv mc mt) (hF:2*t.size+1 < F) (hd0:0≤d) (hd1:d≤100) (hP1:TreeP P1) (hP2:TreeP P2) (hS:SubMu t.size sub) (ho1:QeM 252 w b t rv mc mt (d+1) tst P1) (ho2:QeM 174 w b t rv mc mt (d+1) sub P2) :
 Calls Tryz.prog 249 #[.pointer (some ⟨b,0,none⟩),.int .i64 d] w (Qau (armL t.data.toList F tst sub s) b t rv mc mt w (QvG (fromB w.heap.size) P1 P2)):=by
 have H:=Qab h
 have HO1:=Qab ho1
 have HO2:=Qab ho2
 have HP1:=Qab hP1
 have HP2:=Qab hP2
 have HSM:=Qab hS
 have hlt:=h.at_.lt
 clear h ho1 ho2 hP1 hP2 hS
 go_enter Tryz.func249,Tryz.ntmps249
 go_wp2_with fail
 have HM0:=Qab ((Mod.refl b w).alloc (.cells #[.nilIface,.slice none 0 0] 369))
 refine (HO1.out _ s HM0.out (H.out.alloc _)).mono ?_
 intro e w1 h1
 rcases h1.cases with ⟨y,v,hy,rfl,hv,hc,hm⟩ | ⟨f,hf,⟨bb,hz,rfl,hcc⟩,hm⟩
 rotate_left
 ·exact ⟨rfl,Qau.err (Qaf hf) (HM0.out.trans hm) ⟨bb,by simp at hz;omega,rfl,hcc⟩⟩
 have HV:=Qab hv
 obtain ⟨ty,x,rfl⟩:=HP1.out.form _ _ _ _ hv
 have HY:=Qab hy
 have HC:=Qab hc
 have HM1:=Qab (HM0.out.trans hm)
 have HR1:=Qab (QaS (Qay w (.cells #[.nilIface,.slice none 0 0] 369)) hm (by omega))
 have hz1:w.heap.size < w1.heap.size:=QaH HR1.out
 clear h1 hy hc hm hv
 go_wp2_with fail
 refine (Qlq sub P2 (d+1) b F t y.2 rv mc mt _ HC.out hF HP2.out HSM.out (HO2.out.mod HM1.out)).mono ?_
 intro e w2 h2
 rcases h2.cases with ⟨z,v2,hy2,rfl,hv2,hc2,hm2⟩ | ⟨f,hf,⟨bb,hz,rfl,hcc⟩,hm2⟩
 rotate_left
 ·exact ⟨rfl,Qau.err ((Qae HY.out).trans (Qaf hf)) (HM1.out.trans hm2) ⟨bb,Nat.le_trans HM1.out.size hz,rfl,hcc⟩⟩
 have HV2:=Qab hv2
 obtain ⟨ba,bn,bc,rfl⟩:=hv2.form
 have HV1:=Qab (HP1.out.keep _ _ _ _ _ HV.out (hm2.abvX (Qm3 (by simp;omega))))
 have HY2:=Qab hy2
 have HC2:=Qab hc2
 have HM2:=Qab (HM1.out.trans hm2)
 have HR2:=Qab (QaS HR1.out hm2 (by omega))
 have r0:w2.cell? ⟨w.heap.size,0,none⟩=some .nilIface:=Qaa HR2.out 0
 have r1:w2.cell? ⟨w.heap.size,1,none⟩=some (.slice none 0 0):=Qaa HR2.out 1
 have rf:=Qap HR2.out
 clear h2 hy2 hc2 hm2 hv2
 go_wp2
 have hq1:¬ fromB (w.heap.size+1) w.heap.size:=by unfold fromB;omega
 have hq2:¬ fromB w1.heap.size w.heap.size:=by unfold fromB;omega
 have HV1':=HV1.out
 rw [show (w.alloc (.cells #[.nilIface,.slice none 0 0] 369)).heap.size=w.heap.size+1 from by simp] at HV1'
 refine bodyPost_ret (v:=.agg #[.iface ty x,.slice ba bn bc]) (by simp [results,Tryz.results249,go_sem,r0,r1]) rfl (Qau.ok ((Qae HY.out).trans (Qae HY2.out)) ((HM2.out.setNew (Nat.le_refl _) _ _).setNew (Nat.le_refl _) _ _) ⟨_,_,rfl,?_,?_⟩ ((HC2.out.setNew hlt _ _).setNew hlt _ _))
 ·exact HP1.out.weak _ _ _ _ _ (HP1.out.keep _ _ _ _ _ (HP1.out.keep _ _ _ _ _ HV1' (AbvX.set hq1 _ _)) (AbvX.set hq1 _ _)) (fun k hk _=>by unfold fromB at *;omega)
 ·exact blX.weak HP2.out ((HV2.out.keep HP2.out (AbvX.set hq2 _ _)).keep HP2.out (AbvX.set hq2 _ _)) (fun k hk _=>by unfold fromB at *;omega)
end
section
open Go.RowKit
attribute [local go_sem ↓] Go.wp_at_zero Go.wp_at_succ
abbrev QrF:Obj:=.cells #[.string ⟨#[]⟩,.int .i64 0,.int .i64 0,.string ⟨#[]⟩,.string ⟨#[]⟩] 313
def Qu9 (l:List UInt8) (s:PS):Except Flt ((Nat×List UInt8×List UInt8)×PS):=
 QaT (mayL l [Qbn,Qbm,Qa1] s) fun tag s1=>QaT (stringL l (fun x=>if isNameL x then 0 else 7) s1) fun v s2=>
  QaT (stringL l (fun _=>0) s2) fun x s3=>semi l s3 (tag,smallL v,x)
theorem Quq (hw:List UInt8) (hp:Nat) (d:Int) (b:Nat) (t:ByteArray) (s:PS) (rv:Value) (mc mt:Nat) (w:World) (h:RC w b t s rv mc mt) :
 Calls Tryz.prog 156 #[.pointer (some ⟨b,0,none⟩),QcJ hw hp,.int .i64 d] w (Qau (Qu9 t.data.toList s) b t rv mc mt w (fun x w' v=>v=.iface 313 (.agg #[.string (Qad hw),.int .i64 hp,.int .i64 x.1,.string (Qad x.2.1),.string (Qad x.2.2)]))):=by
 have H:=Qab h
 have hlt:=h.at_.lt
 have hn0:¬ w.heap.size=b:=by omega
 have hn1:¬ w.heap.size+1=b:=by omega
 have hn2:¬ w.heap.size+1+1=b:=by omega
 clear h
 unfold QcJ
 go_enter Tryz.func156,Tryz.ntmps156
 go_upto_region 1 with fail
 go_cut [7] (fun v wc=>∃ (T:Nat) (y:Nat×PS),v=.pointer (some ⟨T,0,none⟩)∧mayL t.data.toList [Qbn,Qbm,Qa1] s=.ok y∧RC wc b t y.2 rv mc mt∧Mod b w wc∧w.heap.size≤T∧wc.heap[T]?=some (.cells #[.string (Qad hw),.int .i64 hp,.int .i64 y.1,.string ⟨#[]⟩,.string ⟨#[]⟩] 313))
 case first=>
  go_region_with (first | (go_at_call 183;refine (Qhu _).mono ?_;rintro e w' ⟨rfl,rfl⟩;skip) | (go_at_call 246;refine (Qhc b _ 3 3 [Qbn,Qbm,Qa1] t s rv mc mt _ (by first | exact ((H.out.alloc _).alloc _).drew | exact (((H.out.alloc _).alloc _).alloc _).drew) (by first | exact (QbK _ _ (by simp)).drew | exact ((QbK _ _ (by simp)).alloc _).drew) rfl (by decide)).mono ?_;intro e w1 h1;rcases h1.cases with ⟨y,v,hy,rfl,hv,hc,hm⟩ | ⟨f,hf,⟨bb,hz,rfl,hcc⟩,hm⟩;rotate_left;exact ⟨rfl,Qau.err (Qaf hf) (by first | exact (((Mod.refl b w).alloc _).alloc _).trans (QaV hm) | exact ((((Mod.refl b w).alloc _).alloc _).alloc _).trans (QaV hm)) ⟨bb,by simp at hz;omega,rfl,hcc⟩⟩;unfold QjS at hv;subst hv;have hhb:=QaS (g:=w.heap.size) (o:=.cells #[.string (Qad hw),.int .i64 hp] 266) (by first | exact Qac (Qay _ _) | exact Qac (Qac (Qay _ _))) (QaV hm) hn0;have hh0:w1.cell? ⟨w.heap.size,0,none⟩=some (.string (Qad hw)):=Qaa hhb 0;have hh1:w1.cell? ⟨w.heap.size,1,none⟩=some (.int .i64 hp):=Qaa hhb 1;clear hhb;(first | (have tb:=QaS (g:=w.heap.size+1) (o:=QrF) (Qac (QaD (by simp))) (QaV hm) hn1;have t0:w1.cell? ⟨w.heap.size+1,0,none⟩=some (.string ⟨#[]⟩):=Qaa tb 0;have t1:w1.cell? ⟨w.heap.size+1,1,none⟩=some (.int .i64 0):=Qaa tb 1;have t2:w1.cell? ⟨w.heap.size+1,2,none⟩=some (.int .i64 0):=Qaa tb 2;have t3:w1.cell? ⟨w.heap.size+1,3,none⟩=some (.string ⟨#[]⟩):=Qaa tb 3;have t4:w1.cell? ⟨w.heap.size+1,4,none⟩=some (.string ⟨#[]⟩):=Qaa tb 4;have tf:=Qap tb;have TB:=Qab tb;clear tb) | (have tb:=QaS (g:=w.heap.size+1+1) (o:=QrF) (QaD (by simp)) (QaV hm) hn2;have t0:w1.cell? ⟨w.heap.size+1+1,0,none⟩=some (.string ⟨#[]⟩):=Qaa tb 0;have t1:w1.cell? ⟨w.heap.size+1+1,1,none⟩=some (.int .i64 0):=Qaa tb 1;have t2:w1.cell? ⟨w.heap.size+1+1,2,none⟩=some (.int .i64 0):=Qaa tb 2;have t3:w1.cell? ⟨w.heap.size+1+1,3,none⟩=some (.string ⟨#[]⟩):=Qaa tb 3;have t4:w1.cell? ⟨w.heap.size+1+1,4,none⟩=some (.string ⟨#[]⟩):=Qaa tb 4;have tf:=Qap tb;have TB:=Qab tb;clear tb) | skip);have hzz:=hm.size;simp at hzz;have hz9:w.heap.size < w1.heap.size:=(by omega);have hh0a:∀ o,(w1.alloc o).cell? ⟨w.heap.size,0,none⟩=some (.string (Qad hw)):=(fun o=>by rw [World.cell?_alloc_past _ _ _ hz9];exact hh0);have hh1a:∀ o,(w1.alloc o).cell? ⟨w.heap.size,1,none⟩=some (.int .i64 hp):=(fun o=>by rw [World.cell?_alloc_past _ _ _ hz9];exact hh1);have HY:=Qab hy;have HC:=Qab hc;have HMM:Hid (Mod b w w1):=(by first | exact (((Mod.refl b w).alloc _).alloc _).trans (QaV hm) | exact ((((Mod.refl b w).alloc _).alloc _).alloc _).trans (QaV hm));clear h1 hy hc hm;skip))
  all_goals (go_wp2_with fail;go_meet)
  all_goals first
   | (have hTB:=TB;exact ⟨_,y,rfl,HY.out,((((HC.out.setNew (by omega) _ _).setNew (by omega) _ _).setNew (by omega) _ _).setNew (by omega) _ _).setNew (by omega) _ _,((((HMM.out.setNew (by omega) _ _).setNew (by omega) _ _).setNew (by omega) _ _).setNew (by omega) _ _).setNew (by omega) _ _,by omega,Qah _ _ _ _ _ _ (Qah _ _ _ _ _ _ (Qah _ _ _ _ _ _ (Qah _ _ _ _ _ _ (Qah _ _ _ _ _ _ TB.out))))⟩)
   | exact ⟨w1.heap.size,y,rfl,HY.out,HC.out.alloc _,HMM.out.alloc _,by omega,Qay _ _⟩
 case rest=>
  obtain ⟨T,y,rfl,hy,hc,hm,hT,hb⟩:=hcut
  have hlt2:=QaH hb
  have hbT:b < T:=by omega
  have HY:=Qab hy
  have HC:=Qab hc
  have HM:=Qab hm
  have HB:=Qab hb
  clear hy hc hm hb
  go_wp2_with fail
  refine (QlA b t y.2 rv mc mt _ HC.out).mono ?_
  intro e w1 h1
  rcases h1.cases with ⟨y1,v1,hy1,rfl,hv1,hc1,hm1⟩ | ⟨f,hf,⟨bb,hz,rfl,hcc⟩,hm1⟩
  rotate_left
  ·exact ⟨rfl,Qau.err ((Qae HY.out).trans (Qaf hf)) (HM.out.trans hm1) ⟨bb,Nat.le_trans HM.out.size hz,rfl,hcc⟩⟩
  unfold Qq4 at hv1
  subst hv1
  have HY1:=Qab hy1
  have HC1:=Qab hc1
  have HM1:=Qab (HM.out.trans hm1)
  have HB1:=Qab (QaS HB.out hm1 (by omega))
  have hx1:y1.1.length≤600:=by
   have h1:=(Qee (l:=t.data.toList) (by simpa using HC.out.le) hy1).2
   have h2:=HC.out.sz.1
   rw [h1];exact h2
  clear h1 hy1 hc1 hm1
  go_wp2_with fail
  refine (Qe8 (Qad y1.1) _ (by rw [Qat];omega)).mono ?_
  rintro e w2 ⟨rfl,hbl⟩
  have hb2:=QaS HB1.out (Mod.of_below (b:=b) hbl) (by omega)
  have t3:w2.cell? ⟨T,3,none⟩=some (.string ⟨#[]⟩):=Qaa hb2 3
  have tf:=Qap hb2
  have HC2:=Qab (HC1.out.below hbl)
  have HM2:=Qab (HM1.out.trans (Mod.of_below (b:=b) hbl))
  have HB2:=Qab hb2
  clear hb2 hbl
  go_wp2_with fail
  refine (QdM b t y1.2 rv mc mt _ (HC2.out.setNew hbT _ _)).mono ?_
  intro e w3 h3
  rcases h3.cases with ⟨y3,v3,hy3,rfl,hv3,hc3,hm3⟩ | ⟨f,hf,⟨bb,hz,rfl,hcc⟩,hm3⟩
  rotate_left
  ·exact ⟨rfl,Qau.err ((Qae HY.out).trans ((Qae HY1.out).trans (Qaf hf))) ((HM2.out.setNew hT _ _).trans hm3) ⟨bb,Nat.le_trans (HM2.out.setNew hT _ _).size hz,rfl,hcc⟩⟩
  unfold Qq4 at hv3
  subst hv3
  have hb3:=QaS (Qah _ T 3 (.string ⟨(smallL y1.1).toArray⟩) _ _ HB2.out) hm3 (by omega)
  have t4:w3.cell? ⟨T,4,none⟩=some (.string ⟨#[]⟩):=Qaa hb3 4
  have tf3:=Qap hb3
  have HY3:=Qab hy3
  have HC3:=Qab hc3
  have HM3:=Qab ((HM2.out.setNew hT 3 (.string ⟨(smallL y1.1).toArray⟩)).trans hm3)
  have HB3:=Qab hb3
  clear hb3 h3 hy3 hc3 hm3 t3 tf
  go_wp2_with fail
  have HB4:=Qab (Qah _ T 4 (.string (Qad y3.1)) _ _ HB3.out)
  have HC4:=Qab (HC3.out.setNew hbT 4 (.string (Qad y3.1)))
  have HM4:=Qab (HM3.out.setNew hT 4 (.string (Qad y3.1)))
  have HP:=Qab (QcX b w3.heap.size 1 1 [[59]] t y3.2 rv mc mt _ (HC4.out.alloc (.cells (QaN [[59]]).toArray 9)) (QbK _ _ (by simp [World.setCell])) rfl (by decide))
  refine HP.out.mono ?_
  intro e w5 h5
  rcases h5.cases with ⟨y5,v5,hy5,rfl,hv5,hc5,hm5⟩ | ⟨f,hf,⟨bb,hz,rfl,hcc⟩,hm5⟩
  rotate_left
  ·exact ⟨rfl,Qau.err ((Qae HY.out).trans ((Qae HY1.out).trans ((Qae HY3.out).trans (Qaf hf)))) ((HM4.out.alloc _).trans hm5) ⟨bb,Nat.le_trans (HM4.out.alloc _).size hz,rfl,hcc⟩⟩
  unfold QjS at hv5
  subst hv5
  have hb5:=QaS (Qac HB4.out) hm5 (by omega)
  have q0:w5.cell? ⟨T,0,none⟩=some (.string (Qad hw)):=Qaa hb5 0
  have q1:w5.cell? ⟨T,1,none⟩=some (.int .i64 hp):=Qaa hb5 1
  have q2:w5.cell? ⟨T,2,none⟩=some (.int .i64 y.1):=Qaa hb5 2
  have q3:w5.cell? ⟨T,3,none⟩=some (.string (Qad (smallL y1.1))):=Qaa hb5 3
  have q4:w5.cell? ⟨T,4,none⟩=some (.string (Qad y3.1)):=Qaa hb5 4
  have HY5:=Qab hy5
  have HC5:=Qab hc5
  have HM5:=Qab ((HM4.out.alloc (.cells (QaN [[59]]).toArray 9)).trans hm5)
  clear h5 hy5 hc5 hm5 hb5 HP t4 tf3
  go_wp2
  go_ret
  exact Qau.ok ((Qae HY.out).trans ((Qae HY1.out).trans ((Qae HY3.out).trans (Qae HY5.out)))) HM5.out rfl HC5.out
end
section
open Go.RowKit
def Qk3 (w:World) (b:Nat) (rv:Value) (req:List (List UInt8)):Prop:=
 (rv=.slice none 0 0∧req=[])∨∃ g c,rv=.slice (some ⟨g,0,none⟩) req.length c∧g≠b∧TxtAt w g req∧req≠[]∧req.length≤1000
theorem Qk3.mod {w w':World} {b:Nat} {rv:Value} {req:List (List UInt8)} (h:Qk3 w b rv req) (hm:Mod b w w'):Qk3 w' b rv req:=by
 rcases h with h | ⟨g,c,h1,h2,h3,h4,h5⟩
 ·exact Or.inl h
 ·exact Or.inr ⟨g,c,h1,h2,fun j hj=>QbX (h3 j hj) hm h2,h4,h5⟩
theorem Qhi (w:World) (b:Nat) (rv:Value) (req:List (List UInt8)) (x:List UInt8) (h:Qk3 w b rv req) :
 Calls Tryz.prog 79 #[rv,.string (Qad x)] w fun e w'=>e=.returned (.bool (decide (0 < whichL req x)))∧w'=w:=by
 rcases h with ⟨rfl,rfl⟩ | ⟨g,c,rfl,h2,h3,h4,h5⟩
 ·exact Tryz.slices_Contains_string_empty none 0 (Qad x) w
 ·exact QhD g _ c req x w h3 rfl h5
theorem Qib {req:List (List UInt8)} {sp:List UInt8} (h:sp=QaK∨sp=Qbb∨sp=QaM):QcE req sp=decide (0 < whichL req sp):=by unfold QcE;rw [if_pos h]
theorem QlZ {req:List (List UInt8)} {sp:List UInt8} (h:¬ (sp=QaK∨sp=Qbb∨sp=QaM)) (h2:sp=Qgh∨sp=Qby):QcE req sp=decide (0 < whichL req QbB):=by unfold QcE;rw [if_neg h,if_pos h2]
theorem QnR {req:List (List UInt8)} {sp:List UInt8} (h:¬ (sp=QaK∨sp=Qbb∨sp=QaM)) (h2:¬ (sp=Qgh∨sp=Qby)):QcE req sp=true:=by unfold QcE;rw [if_neg h,if_neg h2]
theorem QdH (sp:List UInt8) (req:List (List UInt8)) (b:Nat) (t:ByteArray) (s:PS) (rv:Value) (mc mt:Nat) (w:World) (h:RC w b t s rv mc mt) (hr:Qk3 w b rv req) :
 Calls Tryz.prog 316 #[.pointer (some ⟨b,0,none⟩),.string (Qad sp)] w fun e w'=>e=.returned (.bool (QcE req sp))∧w'=w:=by
 have h7:w.cell? ⟨b,7,none⟩=some rv:=h.at_.cell 7
 have HC:=Qab (fun x=>Qhi w b rv req x hr)
 obtain ⟨ra,rn,rc,hrv⟩:∃ a n c,rv=.slice a n c:=by
  rcases hr with ⟨h,_⟩ | ⟨g,c,h,_⟩
  ·exact ⟨_,_,_,h⟩
  ·exact ⟨_,_,_,h⟩
 subst hrv
 clear h hr
 have e1:((Qad sp).toList == [102,105,108,101,105,110,116,111])=decide (sp=QaK):=Qdc sp QaK
 have e2:((Qad sp).toList == [114,101,106,101,99,116])=decide (sp=Qbb):=Qdc sp Qbb
 have e3:((Qad sp).toList == [101,110,118,101,108,111,112,101])=decide (sp=QaM):=Qdc sp QaM
 have e4:((Qad sp).toList == [115,101,116])=decide (sp=Qgh):=Qdc sp Qgh
 have e5:((Qad sp).toList == [115,116,114,105,110,103])=decide (sp=Qby):=Qdc sp Qby
 by_cases a1:sp=QaK
 ·have HE:=Qab (Qib (req:=req) (Or.inl a1))
  rw [decide_eq_true a1] at e1
  clear e2 e3 e4 e5
  clear a1
  go_enter Tryz.func316,Tryz.ntmps316
  go_wp2_with (go_at_call 79;refine (HC.out sp).mono ?_;rintro e w' ⟨rfl,rfl⟩)
  go_ret
  exact ⟨QaW (by rw [HE.out]),rfl⟩
 by_cases a2:sp=Qbb
 ·have HE:=Qab (Qib (req:=req) (Or.inr (Or.inl a2)))
  rw [decide_eq_false a1] at e1
  rw [decide_eq_true a2] at e2
  clear e3 e4 e5
  clear a2 a1
  go_enter Tryz.func316,Tryz.ntmps316
  go_wp2_with (go_at_call 79;refine (HC.out sp).mono ?_;rintro e w' ⟨rfl,rfl⟩)
  go_ret
  exact ⟨QaW (by rw [HE.out]),rfl⟩
 by_cases a3:sp=QaM
 ·have HE:=Qab (Qib (req:=req) (Or.inr (Or.inr a3)))
  rw [decide_eq_false a1] at e1
  rw [decide_eq_false a2] at e2
  rw [decide_eq_true a3] at e3
  clear e4 e5
  clear a3 a1 a2
  go_enter Tryz.func316,Tryz.ntmps316
  go_wp2_with (go_at_call 79;refine (HC.out sp).mono ?_;rintro e w' ⟨rfl,rfl⟩)
  go_ret
  exact ⟨QaW (by rw [HE.out]),rfl⟩
 have hN:¬ (sp=QaK∨sp=Qbb∨sp=QaM):=by
  rintro (h | h | h)
  ·exact a1 h
  ·exact a2 h
  ·exact a3 h
 by_cases a4:sp=Qgh
 ·have HE:=Qab (QlZ (req:=req) hN (Or.inl a4))
  clear hN
  rw [decide_eq_false a1] at e1
  rw [decide_eq_false a2] at e2
  rw [decide_eq_false a3] at e3
  rw [decide_eq_true a4] at e4
  clear e5
  clear a4 a1 a2 a3
  go_enter Tryz.func316,Tryz.ntmps316
  go_wp2_with (go_at_call 79;refine (HC.out QbB).mono ?_;rintro e w' ⟨rfl,rfl⟩)
  go_ret
  exact ⟨QaW (by rw [HE.out]),rfl⟩
 by_cases a5:sp=Qby
 ·have HE:=Qab (QlZ (req:=req) hN (Or.inr a5))
  clear hN
  rw [decide_eq_false a1] at e1
  rw [decide_eq_false a2] at e2
  rw [decide_eq_false a3] at e3
  rw [decide_eq_false a4] at e4
  rw [decide_eq_true a5] at e5
  clear a5 a1 a2 a3 a4
  go_enter Tryz.func316,Tryz.ntmps316
  go_wp2_with (go_at_call 79;refine (HC.out QbB).mono ?_;rintro e w' ⟨rfl,rfl⟩)
  go_ret
  exact ⟨QaW (by rw [HE.out]),rfl⟩
 have HE:=Qab (QnR (req:=req) hN (by rintro (h | h) <;> contradiction))
 clear hN
 rw [decide_eq_false a1] at e1
 rw [decide_eq_false a2] at e2
 rw [decide_eq_false a3] at e3
 rw [decide_eq_false a4] at e4
 rw [decide_eq_false a5] at e5
 clear a1 a2 a3 a4 a5
 go_enter Tryz.func316,Tryz.ntmps316
 go_wp2_with (go_at_call 79;refine (HC.out sp).mono ?_;rintro e w' ⟨rfl,rfl⟩)
 go_ret
 exact ⟨QaW (by rw [HE.out]),rfl⟩
end
section
open Go.RowKit
attribute [local go_sem ↓] Go.wp_at_zero Go.wp_at_succ
def slX (X:Nat→Prop) (xs:List (List UInt8)) (w:World) (v:Value):Prop:=
 ∃ g c,v=.slice (some ⟨g,0,none⟩) xs.length c∧X g∧TxtAt w g xs∧xs≠[]
theorem slB.toX {B:Nat} {xs:List (List UInt8)} {w:World} {v:Value} (h:slB B xs w v):slX (fromB B) xs w v:=h
theorem slX.keep {X:Nat→Prop} {xs:List (List UInt8)} {w w':World} {v:Value} (h:slX X xs w v) (hk:AbvX X w w'):slX X xs w' v:=by
 obtain ⟨g,c,hv,hg,ht,hx⟩:=h
 refine ⟨g,c,hv,hg,fun j hj=>?_,hx⟩
 have:=ht j hj
 rw [World.cell?_of_block (w:=w) (a:=⟨g,j,none⟩) (hk g hg (Qax this))]
 exact this
theorem slX.weak {X Y:Nat→Prop} {xs:List (List UInt8)} {w:World} {v:Value} (h:slX X xs w v) (hB:∀ k,X k→k < w.heap.size→Y k):slX Y xs w v:=by
 obtain ⟨g,c,hv,hg,ht,hx⟩:=h
 exact ⟨g,c,hv,hB g hg (Qax (ht 0 (List.length_pos_iff.2 hx))),ht,hx⟩
def mtX (X:Nat→Prop) (hw:List UInt8) (x:QcT) (w:World) (v:Value):Prop:=
 ∃ fv kv,v=.agg #[.string (Qad hw),.int .i64 x.pos,.int .i64 x.tag,.bool x.octet,fv,kv]∧slX X x.fr w fv∧slX X x.keys w kv
def Qd6 {α:Type} (X:Nat→Prop) (P:(Nat→Prop)→α→World→Value→Prop) (x:QcT×List α) (w:World) (v:Value):Prop:=
 match x.1.kind with
 | 0=>x.2=[]∧v=.iface 373 (.agg #[.string (Qad Qe5),.int .i64 x.1.pos,.bool true])
 | 1=>x.2=[]∧v=.iface 373 (.agg #[.string (Qad Qdf),.int .i64 x.1.pos,.bool false])
 | 2=>∃ a u,x.2=[a]∧v=.iface 376 (.agg #[.string (Qad kNot),.int .i64 x.1.pos,u])∧P X a w u
 | 3=>∃ u,v=.iface 274 (.agg #[.string (Qad Qcy),.int .i64 x.1.pos,u])∧trX X P x.2 w u∧x.2≠[]
 | 4=>∃ u,v=.iface 275 (.agg #[.string (Qad QcA),.int .i64 x.1.pos,u])∧trX X P x.2 w u∧x.2≠[]
 | 5=>x.2=[]∧∃ u,v=.iface 281 u∧mtX X QbT x.1 w u
 | 6=>x.2=[]∧∃ u,v=.iface 284 u∧mtX X QaM x.1 w u
 | 7=>x.2=[]∧∃ u,v=.iface 285 u∧mtX X Qby x.1 w u
 | 8=>x.2=[]∧∃ u,v=.iface 380 (.agg #[.string (Qad QbG),.int .i64 x.1.pos,u])∧slX X x.1.fr w u
 | _=>x.2=[]∧v=.iface 382 (.agg #[.string (Qad QdC),.int .i64 x.1.pos,.int .i64 x.1.tag,.int .i64 x.1.num])
def TestV:(n:Nat)→(Nat→Prop)→Qbx n→World→Value→Prop
 | 0,_,_,_,_=>False
 | n+1,X,x,w,v=>Qd6 X (TestV n) x w v
theorem Qq1 {α:Type} {X:Nat→Prop} {P:(Nat→Prop)→α→World→Value→Prop} {x:QcT×List α} {w:World} {v:Value} (h:Qd6 X P x w v):∃ ty y,v=.iface ty y:=by
 unfold Qd6 at h
 split at h
 ·exact ⟨_,_,h.2⟩
 ·exact ⟨_,_,h.2⟩
 ·obtain ⟨a,u,_,h,_⟩:=h;exact ⟨_,_,h⟩
 ·obtain ⟨u,h,_⟩:=h;exact ⟨_,_,h⟩
 ·obtain ⟨u,h,_⟩:=h;exact ⟨_,_,h⟩
 ·obtain ⟨_,u,h,_⟩:=h;exact ⟨_,_,h⟩
 ·obtain ⟨_,u,h,_⟩:=h;exact ⟨_,_,h⟩
 ·obtain ⟨_,u,h,_⟩:=h;exact ⟨_,_,h⟩
 ·obtain ⟨_,u,h,_⟩:=h;exact ⟨_,_,h⟩
 ·exact ⟨_,_,h.2⟩
theorem mtX.keep {X:Nat→Prop} {hw:List UInt8} {x:QcT} {w w':World} {v:Value} (h:mtX X hw x w v) (hk:AbvX X w w'):mtX X hw x w' v:=by
 obtain ⟨fv,kv,h1,h2,h3⟩:=h;exact ⟨fv,kv,h1,h2.keep hk,h3.keep hk⟩
theorem mtX.weak {X Y:Nat→Prop} {hw:List UInt8} {x:QcT} {w:World} {v:Value} (h:mtX X hw x w v) (hB:∀ k,X k→k < w.heap.size→Y k):mtX Y hw x w v:=by
 obtain ⟨fv,kv,h1,h2,h3⟩:=h;exact ⟨fv,kv,h1,h2.weak hB,h3.weak hB⟩
theorem QqC {α:Type} {X:Nat→Prop} {P:(Nat→Prop)→α→World→Value→Prop} (hP:TreeP P) {x:QcT×List α} {w w':World} {v:Value} (h:Qd6 X P x w v) (hk:AbvX X w w'):Qd6 X P x w' v:=by
 unfold Qd6 at h ⊢
 split at h
 ·exact h
 ·exact h
 ·obtain ⟨a,u,h1,h2,h3⟩:=h;exact ⟨a,u,h1,h2,hP.keep _ _ _ _ _ h3 hk⟩
 ·obtain ⟨u,h1,h2,h3⟩:=h;exact ⟨u,h1,h2.keep hP hk,h3⟩
 ·obtain ⟨u,h1,h2,h3⟩:=h;exact ⟨u,h1,h2.keep hP hk,h3⟩
 ·obtain ⟨h0,u,h1,h2⟩:=h;exact ⟨h0,u,h1,h2.keep hk⟩
 ·obtain ⟨h0,u,h1,h2⟩:=h;exact ⟨h0,u,h1,h2.keep hk⟩
 ·obtain ⟨h0,u,h1,h2⟩:=h;exact ⟨h0,u,h1,h2.keep hk⟩
 ·obtain ⟨h0,u,h1,h2⟩:=h;exact ⟨h0,u,h1,h2.keep hk⟩
 ·exact h
theorem Qpu {α:Type} {X Y:Nat→Prop} {P:(Nat→Prop)→α→World→Value→Prop} (hP:TreeP P) {x:QcT×List α} {w:World} {v:Value} (h:Qd6 X P x w v) (hB:∀ k,X k→k < w.heap.size→Y k):Qd6 Y P x w v:=by
 unfold Qd6 at h ⊢
 split at h
 ·exact h
 ·exact h
 ·obtain ⟨a,u,h1,h2,h3⟩:=h;exact ⟨a,u,h1,h2,hP.weak _ _ _ _ _ h3 hB⟩
 ·obtain ⟨u,h1,h2,h3⟩:=h;exact ⟨u,h1,trX.weak hP h3 h2 hB,h3⟩
 ·obtain ⟨u,h1,h2,h3⟩:=h;exact ⟨u,h1,trX.weak hP h3 h2 hB,h3⟩
 ·obtain ⟨h0,u,h1,h2⟩:=h;exact ⟨h0,u,h1,h2.weak hB⟩
 ·obtain ⟨h0,u,h1,h2⟩:=h;exact ⟨h0,u,h1,h2.weak hB⟩
 ·obtain ⟨h0,u,h1,h2⟩:=h;exact ⟨h0,u,h1,h2.weak hB⟩
 ·obtain ⟨h0,u,h1,h2⟩:=h;exact ⟨h0,u,h1,h2.weak hB⟩
 ·exact h
theorem Qbl:∀ n,TreeP (TestV n)
 | 0=>⟨fun _ _ _ _ h=>h.elim,fun _ _ _ _ _ h=>h.elim,fun _ _ _ _ _ h=>h.elim⟩
 | n+1=>⟨fun _ _ _ _ h=>Qq1 h,fun _ _ _ _ _ h hk=>QqC (Qbl n) h hk,fun _ _ _ _ _ h hB=>Qpu (Qbl n) h hB⟩
def Qss (w:World) (T:TypeId) (m:Nat) (f:List UInt8→Option Value):Prop:=
 ∀ (W:World) (x:List UInt8),W.heap[m]?=w.heap[m]?→(Instr.lookup T (.map (some m)) (.string (Qad x)) true).run Tryz.prog W=.ok (.tuple #[(f x).getD .nilFunc,.bool (f x).isSome]) W
def testFn (b pr pt pf:Nat) (x:List UInt8):Option Value:=
 match whichL testNames x with
 | 1=>some (.func (.func 251) #[] #[.pointer (some ⟨pt,0,none⟩)])
 | 2=>some (.func (.func 251) #[] #[.pointer (some ⟨pf,0,none⟩)])
 | 3=>some (.func (.func 159) #[.pointer (some ⟨b,0,none⟩)] #[])
 | 4=>some (.func (.func 160) #[] #[.pointer (some ⟨pr,0,none⟩)])
 | 5=>some (.func (.func 162) #[] #[.pointer (some ⟨pr,0,none⟩)])
 | 6=>some (.func (.func 163) #[] #[.pointer (some ⟨pr,0,none⟩)])
 | 7=>some (.func (.func 166) #[] #[.pointer (some ⟨pr,0,none⟩)])
 | 8=>some (.func (.func 169) #[] #[.pointer (some ⟨pr,0,none⟩)])
 | 9=>some (.func (.func 170) #[.pointer (some ⟨b,0,none⟩)] #[])
 | 10=>some (.func (.func 171) #[.pointer (some ⟨b,0,none⟩)] #[])
 | _=>none
structure Qn2 (w:World) (b mt pr pt pf:Nat):Prop where
 look:Qss w 258 mt (testFn b pr pt pf)
 hpr:Qmt w pr b
 hpt:w.cell? ⟨pt,0,none⟩=some (.bool true)
 hpf:w.cell? ⟨pf,0,none⟩=some (.bool false)
 ptb:pt≠b
 pfb:pf≠b
 mtb:mt≠b
 mtl:mt < w.heap.size
theorem Qn2.mod {w w':World} {b mt pr pt pf:Nat} (h:Qn2 w b mt pr pt pf) (hm:Mod b w w'):Qn2 w' b mt pr pt pf:=
 ⟨fun W x e=>h.look W x (e.trans (hm.block mt h.mtl h.mtb)),h.hpr.mod hm,QbX h.hpt hm h.ptb,QbX h.hpf hm h.pfb,h.ptb,h.pfb,h.mtb,Nat.lt_of_lt_of_le h.mtl hm.size⟩
theorem Qiy {b pr pt pf:Nat} {x:List UInt8} (h:whichL testNames x=0):testFn b pr pt pf x=none:=by unfold testFn;rw [h];rfl
theorem Qjm (d:Int) (b:Nat) (t:ByteArray) (s:PS) (rv:Value) (mc mt pr pt pf:Nat) (w:World) (h:RC w b t s rv mc mt) (ht:Qn2 w b mt pr pt pf) (hd:d≤6) (h0:whichL testNames s.1.spelt=0) :
 Calls Tryz.prog 306 #[.pointer (some ⟨b,0,none⟩),.map (some mt),.int .i64 d] w fun e w'=>Qc6 ⟨4,s.1.pos⟩ w e w'∧Mod b w w':=by
 have h1:w.cell? ⟨b,1,none⟩=some (.int .i64 s.1.kind):=h.at_.cell 1
 have h3:w.cell? ⟨b,3,none⟩=some (.string (Qad s.1.spelt)):=h.at_.cell 3
 have hlk:=ht.look w s.1.spelt rfl
 rw [Qiy h0] at hlk
 have H:=Qab h
 clear h ht h0
 simp only [Option.getD_none,Option.isSome_none] at hlk
 by_cases hk:s.1.kind=1
 ·have hk':((s.1.kind:Int) != 1)=false:=by simp;omega
  clear hk
  go_enter Tryz.func306,Tryz.ntmps306
  go_wp2_with fail
  refine (QaI b _ _ _ rfl).mono ?_
  rintro e w' ⟨rfl,hww⟩
  subst hww
  go_wp2_with fail
  refine (Qbr b 4 _ _ t s.1 s.2 rv mc mt _ H.out.at_ rfl rfl).mono ?_
  rintro e w1 ⟨⟨bb,hz,rfl,hcc⟩,hm⟩
  exact ⟨rfl,⟨bb,hz,rfl,hcc⟩,Mod.of_below hm⟩
 ·have hk':((s.1.kind:Int) != 1)=true:=by simp;omega
  clear hk
  go_enter Tryz.func306,Tryz.ntmps306
  go_wp2_with fail
  refine (QaI b _ _ _ rfl).mono ?_
  rintro e w' ⟨rfl,hww⟩
  subst hww
  go_wp2_with fail
  refine (Qbr b 4 _ _ t s.1 s.2 rv mc mt _ H.out.at_ rfl rfl).mono ?_
  rintro e w1 ⟨⟨bb,hz,rfl,hcc⟩,hm⟩
  exact ⟨rfl,⟨bb,hz,rfl,hcc⟩,Mod.of_below hm⟩
end
end Go.Proofs.YtbiclelojbfnbaaGreatDoor
