import Derived.Test.YtbiclelojbfnbaaGreatDoorZBlock
import Derived.Test.YtbiclelojbfnbaaGreatDoorZCLand
import Derived.Test.YtbiclelojbfnbaaGreatDoorShelf
namespace Go.Proofs.YtbiclelojbfnbaaGreatDoor
set_option linter.unusedVariables false
set_option linter.unusedSimpArgs false
set_option maxRecDepth 100000
set_option maxHeartbeats 4000000
section
open Go.RowKit
def armV {α β:Type} (X:Nat→Prop) (P1:(Nat→Prop)→β→World→Value→Prop) (P2:(Nat→Prop)→α→World→Value→Prop) (a:β×List α) (w:World) (v:Value):Prop:=
 ∃ u bv,v=.agg #[u,bv]∧P1 X a.1 w u∧blX X P2 a.2 w bv
theorem fromB_not {b B:Nat} (h:b < B):¬ fromB B b:=by unfold fromB;omega
theorem arm_any {α β:Type} (tst:PS→Except Flt (β×PS)) (P1:(Nat→Prop)→β→World→Value→Prop) (sub:PS→Except Flt (α×PS)) (P2:(Nat→Prop)→α→World→Value→Prop) (d:Int) (b F:Nat) (t:ByteArray) (s:PS) (rv:Value) (mc mt:Nat) (w:World) (h:RC w b t s rv mc mt) (hF:2*t.size+1 < F) (hd0:0≤d) (hd1:d≤100) (hP1:TreeP P1) (hP2:TreeP P2) (hS:SubMu t.size sub) (ho1:SubOk 252 w b t rv mc mt (d+1) tst P1) (ho2:SubOk 174 w b t rv mc mt (d+1) sub P2) :
  Calls Tryz.prog 249 #[.pointer (some ⟨b,0,none⟩),.int .i64 d] w (RPost (armL t.data.toList F tst sub s) b t rv mc mt w (armV (fromB w.heap.size) P1 P2)):=by
 have H:=hide h
 have HO1:=hide ho1
 have HO2:=hide ho2
 have HP1:=hide hP1
 have HP2:=hide hP2
 have HSM:=hide hS
 have hlt:=h.at_.lt
 clear h ho1 ho2 hP1 hP2 hS
 go_enter Tryz.func249,Tryz.ntmps249
 go_wp2_with fail
 have HM0:=hide ((Mod.refl b w).alloc (.cells #[.nilIface,.slice none 0 0] 369))
 refine (HO1.out _ s HM0.out (H.out.alloc _)).mono ?_
 intro e w1 h1
 rcases h1.cases with ⟨y,v,hy,rfl,hv,hc,hm⟩ | ⟨f,hf,⟨bb,hz,rfl,hcc⟩,hm⟩
 rotate_left
 ·exact ⟨rfl,RPost.err (thenL_err hf) (HM0.out.trans hm) ⟨bb,by simp at hz;omega,rfl,hcc⟩⟩
 have HV:=hide hv
 obtain ⟨ty,x,rfl⟩:=HP1.out.form _ _ _ _ hv
 have HY:=hide hy
 have HC:=hide hc
 have HM1:=hide (HM0.out.trans hm)
 have HR1:=hide (blk_mod (blk_new w (.cells #[.nilIface,.slice none 0 0] 369)) hm (by omega))
 have hz1:w.heap.size < w1.heap.size:=blk_lt HR1.out
 clear h1 hy hc hm hv
 go_wp2_with fail
 refine (block_any sub P2 (d+1) b F t y.2 rv mc mt _ HC.out hF HP2.out HSM.out (HO2.out.mod HM1.out)).mono ?_
 intro e w2 h2
 rcases h2.cases with ⟨z,v2,hy2,rfl,hv2,hc2,hm2⟩ | ⟨f,hf,⟨bb,hz,rfl,hcc⟩,hm2⟩
 rotate_left
 ·exact ⟨rfl,RPost.err ((thenL_ok HY.out).trans (thenL_err hf)) (HM1.out.trans hm2) ⟨bb,Nat.le_trans HM1.out.size hz,rfl,hcc⟩⟩
 have HV2:=hide hv2
 obtain ⟨ba,bn,bc,rfl⟩:=hv2.form
 have HV1:=hide (HP1.out.keep _ _ _ _ _ HV.out (hm2.abvX (fromB_not (by simp;omega))))
 have HY2:=hide hy2
 have HC2:=hide hc2
 have HM2:=hide (HM1.out.trans hm2)
 have HR2:=hide (blk_mod HR1.out hm2 (by omega))
 have r0:w2.cell? ⟨w.heap.size,0,none⟩=some .nilIface:=blk_cell HR2.out 0
 have r1:w2.cell? ⟨w.heap.size,1,none⟩=some (.slice none 0 0):=blk_cell HR2.out 1
 have rf:=blk_frozen HR2.out
 clear h2 hy2 hc2 hm2 hv2
 go_wp2
 have hq1:¬ fromB (w.heap.size+1) w.heap.size:=by unfold fromB;omega
 have hq2:¬ fromB w1.heap.size w.heap.size:=by unfold fromB;omega
 have HV1':=HV1.out
 rw [show (w.alloc (.cells #[.nilIface,.slice none 0 0] 369)).heap.size=w.heap.size+1 from by simp] at HV1'
 refine bodyPost_ret (v:=.agg #[.iface ty x,.slice ba bn bc]) (by simp [results,Tryz.results249,go_sem,r0,r1]) rfl (RPost.ok ((thenL_ok HY.out).trans (thenL_ok HY2.out)) ((HM2.out.setNew (Nat.le_refl _) _ _).setNew (Nat.le_refl _) _ _) ⟨_,_,rfl,?_,?_⟩ ((HC2.out.setNew hlt _ _).setNew hlt _ _))
 ·exact HP1.out.weak _ _ _ _ _ (HP1.out.keep _ _ _ _ _ (HP1.out.keep _ _ _ _ _ HV1' (AbvX.set hq1 _ _)) (AbvX.set hq1 _ _)) (fun k hk _=>by unfold fromB at *;omega)
 ·exact blX.weak HP2.out ((HV2.out.keep HP2.out (AbvX.set hq2 _ _)).keep HP2.out (AbvX.set hq2 _ _)) (fun k hk _=>by unfold fromB at *;omega)
end
section
open Go.RowKit
attribute [local go_sem ↓] Go.wp_at_zero Go.wp_at_succ
abbrev zeroSet:Obj:=.cells #[.string ⟨#[]⟩,.int .i64 0,.int .i64 0,.string ⟨#[]⟩,.string ⟨#[]⟩] 313
def setL (l:List UInt8) (s:PS):Except Flt ((Nat×List UInt8×List UInt8)×PS):=
 thenL (mayL l [tLower,tUpper,tLength] s) fun tag s1=>thenL (stringL l (fun x=>if isNameL x then 0 else 7) s1) fun v s2=>
  thenL (stringL l (fun _=>0) s2) fun x s3=>semi l s3 (tag,smallL v,x)
theorem set_any (hw:List UInt8) (hp:Nat) (d:Int) (b:Nat) (t:ByteArray) (s:PS) (rv:Value) (mc mt:Nat) (w:World) (h:RC w b t s rv mc mt) :
  Calls Tryz.prog 156 #[.pointer (some ⟨b,0,none⟩),headV hw hp,.int .i64 d] w (RPost (setL t.data.toList s) b t rv mc mt w (fun x w' v=>v=.iface 313 (.agg #[.string (strA hw),.int .i64 hp,.int .i64 x.1,.string (strA x.2.1),.string (strA x.2.2)]))):=by
 have H:=hide h
 have hlt:=h.at_.lt
 have hn0:¬ w.heap.size=b:=by omega
 have hn1:¬ w.heap.size+1=b:=by omega
 have hn2:¬ w.heap.size+1+1=b:=by omega
 clear h
 unfold headV
 go_enter Tryz.func156,Tryz.ntmps156
 go_upto_region 1 with fail
 go_cut [7] (fun v wc=>∃ (T:Nat) (y:Nat×PS),v=.pointer (some ⟨T,0,none⟩)∧mayL t.data.toList [tLower,tUpper,tLength] s=.ok y∧RC wc b t y.2 rv mc mt∧Mod b w wc∧w.heap.size≤T∧wc.heap[T]?=some (.cells #[.string (strA hw),.int .i64 hp,.int .i64 y.1,.string ⟨#[]⟩,.string ⟨#[]⟩] 313))
 case first=>
  go_region_with (first | (go_at_call 183;refine (turnTags_any _).mono ?_;rintro e w' ⟨rfl,rfl⟩;skip) | (go_at_call 246;refine (may_any b _ 3 3 [tLower,tUpper,tLength] t s rv mc mt _ (by first | exact ((H.out.alloc _).alloc _).drew | exact (((H.out.alloc _).alloc _).alloc _).drew) (by first | exact (txt_newAt _ _ (by simp)).drew | exact ((txt_newAt _ _ (by simp)).alloc _).drew) rfl (by decide)).mono ?_;intro e w1 h1;rcases h1.cases with ⟨y,v,hy,rfl,hv,hc,hm⟩ | ⟨f,hf,⟨bb,hz,rfl,hcc⟩,hm⟩;rotate_left;exact ⟨rfl,RPost.err (thenL_err hf) (by first | exact (((Mod.refl b w).alloc _).alloc _).trans (mod_drew hm) | exact ((((Mod.refl b w).alloc _).alloc _).alloc _).trans (mod_drew hm)) ⟨bb,by simp at hz;omega,rfl,hcc⟩⟩;unfold numV at hv;subst hv;have hhb:=blk_mod (g:=w.heap.size) (o:=.cells #[.string (strA hw),.int .i64 hp] 266) (by first | exact blk_alloc (blk_new _ _) | exact blk_alloc (blk_alloc (blk_new _ _))) (mod_drew hm) hn0;have hh0:w1.cell? ⟨w.heap.size,0,none⟩=some (.string (strA hw)):=blk_cell hhb 0;have hh1:w1.cell? ⟨w.heap.size,1,none⟩=some (.int .i64 hp):=blk_cell hhb 1;clear hhb;(first | (have tb:=blk_mod (g:=w.heap.size+1) (o:=zeroSet) (blk_alloc (blk_newAt (by simp))) (mod_drew hm) hn1;have t0:w1.cell? ⟨w.heap.size+1,0,none⟩=some (.string ⟨#[]⟩):=blk_cell tb 0;have t1:w1.cell? ⟨w.heap.size+1,1,none⟩=some (.int .i64 0):=blk_cell tb 1;have t2:w1.cell? ⟨w.heap.size+1,2,none⟩=some (.int .i64 0):=blk_cell tb 2;have t3:w1.cell? ⟨w.heap.size+1,3,none⟩=some (.string ⟨#[]⟩):=blk_cell tb 3;have t4:w1.cell? ⟨w.heap.size+1,4,none⟩=some (.string ⟨#[]⟩):=blk_cell tb 4;have tf:=blk_frozen tb;have TB:=hide tb;clear tb) | (have tb:=blk_mod (g:=w.heap.size+1+1) (o:=zeroSet) (blk_newAt (by simp)) (mod_drew hm) hn2;have t0:w1.cell? ⟨w.heap.size+1+1,0,none⟩=some (.string ⟨#[]⟩):=blk_cell tb 0;have t1:w1.cell? ⟨w.heap.size+1+1,1,none⟩=some (.int .i64 0):=blk_cell tb 1;have t2:w1.cell? ⟨w.heap.size+1+1,2,none⟩=some (.int .i64 0):=blk_cell tb 2;have t3:w1.cell? ⟨w.heap.size+1+1,3,none⟩=some (.string ⟨#[]⟩):=blk_cell tb 3;have t4:w1.cell? ⟨w.heap.size+1+1,4,none⟩=some (.string ⟨#[]⟩):=blk_cell tb 4;have tf:=blk_frozen tb;have TB:=hide tb;clear tb) | skip);have hzz:=hm.size;simp at hzz;have hz9:w.heap.size < w1.heap.size:=(by omega);have hh0a:∀ o,(w1.alloc o).cell? ⟨w.heap.size,0,none⟩=some (.string (strA hw)):=(fun o=>by rw [World.cell?_alloc_past _ _ _ hz9];exact hh0);have hh1a:∀ o,(w1.alloc o).cell? ⟨w.heap.size,1,none⟩=some (.int .i64 hp):=(fun o=>by rw [World.cell?_alloc_past _ _ _ hz9];exact hh1);have HY:=hide hy;have HC:=hide hc;have HMM:Hid (Mod b w w1):=(by first | exact (((Mod.refl b w).alloc _).alloc _).trans (mod_drew hm) | exact ((((Mod.refl b w).alloc _).alloc _).alloc _).trans (mod_drew hm));clear h1 hy hc hm;skip))
  all_goals (go_wp2_with fail;go_meet)
  all_goals first
   | (have hTB:=TB;exact ⟨_,y,rfl,HY.out,((((HC.out.setNew (by omega) _ _).setNew (by omega) _ _).setNew (by omega) _ _).setNew (by omega) _ _).setNew (by omega) _ _,((((HMM.out.setNew (by omega) _ _).setNew (by omega) _ _).setNew (by omega) _ _).setNew (by omega) _ _).setNew (by omega) _ _,by omega,heap_setCell_at _ _ _ _ _ _ (heap_setCell_at _ _ _ _ _ _ (heap_setCell_at _ _ _ _ _ _ (heap_setCell_at _ _ _ _ _ _ (heap_setCell_at _ _ _ _ _ _ TB.out))))⟩)
   | exact ⟨w1.heap.size,y,rfl,HY.out,HC.out.alloc _,HMM.out.alloc _,by omega,blk_new _ _⟩
 case rest=>
  obtain ⟨T,y,rfl,hy,hc,hm,hT,hb⟩:=hcut
  have hlt2:=blk_lt hb
  have hbT:b < T:=by omega
  have HY:=hide hy
  have HC:=hide hc
  have HM:=hide hm
  have HB:=hide hb
  clear hy hc hm hb
  go_wp2_with fail
  refine (string_aName b t y.2 rv mc mt _ HC.out).mono ?_
  intro e w1 h1
  rcases h1.cases with ⟨y1,v1,hy1,rfl,hv1,hc1,hm1⟩ | ⟨f,hf,⟨bb,hz,rfl,hcc⟩,hm1⟩
  rotate_left
  ·exact ⟨rfl,RPost.err ((thenL_ok HY.out).trans (thenL_err hf)) (HM.out.trans hm1) ⟨bb,Nat.le_trans HM.out.size hz,rfl,hcc⟩⟩
  unfold strV at hv1
  subst hv1
  have HY1:=hide hy1
  have HC1:=hide hc1
  have HM1:=hide (HM.out.trans hm1)
  have HB1:=hide (blk_mod HB.out hm1 (by omega))
  have hx1:y1.1.length≤600:=by
   have h1:=(stringL_mu (l:=t.data.toList) (by simpa using HC.out.le) hy1).2
   have h2:=HC.out.sz.1
   rw [h1];exact h2
  clear h1 hy1 hc1 hm1
  go_wp2_with fail
  refine (small_any (strA y1.1) _ (by rw [strA_size];omega)).mono ?_
  rintro e w2 ⟨rfl,hbl⟩
  have hb2:=blk_mod HB1.out (Mod.of_below (b:=b) hbl) (by omega)
  have t3:w2.cell? ⟨T,3,none⟩=some (.string ⟨#[]⟩):=blk_cell hb2 3
  have tf:=blk_frozen hb2
  have HC2:=hide (HC1.out.below hbl)
  have HM2:=hide (HM1.out.trans (Mod.of_below (b:=b) hbl))
  have HB2:=hide hb2
  clear hb2 hbl
  go_wp2_with fail
  refine (string_anything b t y1.2 rv mc mt _ (HC2.out.setNew hbT _ _)).mono ?_
  intro e w3 h3
  rcases h3.cases with ⟨y3,v3,hy3,rfl,hv3,hc3,hm3⟩ | ⟨f,hf,⟨bb,hz,rfl,hcc⟩,hm3⟩
  rotate_left
  ·exact ⟨rfl,RPost.err ((thenL_ok HY.out).trans ((thenL_ok HY1.out).trans (thenL_err hf))) ((HM2.out.setNew hT _ _).trans hm3) ⟨bb,Nat.le_trans (HM2.out.setNew hT _ _).size hz,rfl,hcc⟩⟩
  unfold strV at hv3
  subst hv3
  have hb3:=blk_mod (heap_setCell_at _ T 3 (.string ⟨(smallL y1.1).toArray⟩) _ _ HB2.out) hm3 (by omega)
  have t4:w3.cell? ⟨T,4,none⟩=some (.string ⟨#[]⟩):=blk_cell hb3 4
  have tf3:=blk_frozen hb3
  have HY3:=hide hy3
  have HC3:=hide hc3
  have HM3:=hide ((HM2.out.setNew hT 3 (.string ⟨(smallL y1.1).toArray⟩)).trans hm3)
  have HB3:=hide hb3
  clear hb3 h3 hy3 hc3 hm3 t3 tf
  go_wp2_with fail
  have HB4:=hide (heap_setCell_at _ T 4 (.string (strA y3.1)) _ _ HB3.out)
  have HC4:=hide (HC3.out.setNew hbT 4 (.string (strA y3.1)))
  have HM4:=hide (HM3.out.setNew hT 4 (.string (strA y3.1)))
  have HP:=hide (pass_any b w3.heap.size 1 1 [[59]] t y3.2 rv mc mt _ (HC4.out.alloc (.cells (tcells [[59]]).toArray 9)) (txt_newAt _ _ (by simp [World.setCell])) rfl (by decide))
  refine HP.out.mono ?_
  intro e w5 h5
  rcases h5.cases with ⟨y5,v5,hy5,rfl,hv5,hc5,hm5⟩ | ⟨f,hf,⟨bb,hz,rfl,hcc⟩,hm5⟩
  rotate_left
  ·exact ⟨rfl,RPost.err ((thenL_ok HY.out).trans ((thenL_ok HY1.out).trans ((thenL_ok HY3.out).trans (thenL_err hf)))) ((HM4.out.alloc _).trans hm5) ⟨bb,Nat.le_trans (HM4.out.alloc _).size hz,rfl,hcc⟩⟩
  unfold numV at hv5
  subst hv5
  have hb5:=blk_mod (blk_alloc HB4.out) hm5 (by omega)
  have q0:w5.cell? ⟨T,0,none⟩=some (.string (strA hw)):=blk_cell hb5 0
  have q1:w5.cell? ⟨T,1,none⟩=some (.int .i64 hp):=blk_cell hb5 1
  have q2:w5.cell? ⟨T,2,none⟩=some (.int .i64 y.1):=blk_cell hb5 2
  have q3:w5.cell? ⟨T,3,none⟩=some (.string (strA (smallL y1.1))):=blk_cell hb5 3
  have q4:w5.cell? ⟨T,4,none⟩=some (.string (strA y3.1)):=blk_cell hb5 4
  have HY5:=hide hy5
  have HC5:=hide hc5
  have HM5:=hide ((HM4.out.alloc (.cells (tcells [[59]]).toArray 9)).trans hm5)
  clear h5 hy5 hc5 hm5 hb5 HP t4 tf3
  go_wp2
  go_ret
  exact RPost.ok ((thenL_ok HY.out).trans ((thenL_ok HY1.out).trans ((thenL_ok HY3.out).trans (thenL_ok HY5.out)))) HM5.out rfl HC5.out
end
section
open Go.RowKit
def ReqV (w:World) (b:Nat) (rv:Value) (req:List (List UInt8)):Prop:=
 (rv=.slice none 0 0∧req=[])∨∃ g c,rv=.slice (some ⟨g,0,none⟩) req.length c∧g≠b∧TxtAt w g req∧req≠[]∧req.length≤1000
theorem ReqV.mod {w w':World} {b:Nat} {rv:Value} {req:List (List UInt8)} (h:ReqV w b rv req) (hm:Mod b w w'):ReqV w' b rv req:=by
 rcases h with h | ⟨g,c,h1,h2,h3,h4,h5⟩
 ·exact Or.inl h
 ·exact Or.inr ⟨g,c,h1,h2,fun j hj=>cell_mod (h3 j hj) hm h2,h4,h5⟩
theorem contains_req (w:World) (b:Nat) (rv:Value) (req:List (List UInt8)) (x:List UInt8) (h:ReqV w b rv req) :
  Calls Tryz.prog 79 #[rv,.string (strA x)] w fun e w'=>e=.returned (.bool (decide (0 < whichL req x)))∧w'=w:=by
 rcases h with ⟨rfl,rfl⟩ | ⟨g,c,rfl,h2,h3,h4,h5⟩
 ·exact Tryz.slices_Contains_string_empty none 0 (strA x) w
 ·exact contains_any g _ c req x w h3 rfl h5
theorem useOk_one {req:List (List UInt8)} {sp:List UInt8} (h:sp=kFileinto∨sp=kReject∨sp=kEnvelope):useOk req sp=decide (0 < whichL req sp):=by unfold useOk;rw [if_pos h]
theorem useOk_two {req:List (List UInt8)} {sp:List UInt8} (h:¬ (sp=kFileinto∨sp=kReject∨sp=kEnvelope)) (h2:sp=kSet∨sp=kString):useOk req sp=decide (0 < whichL req kVariables):=by unfold useOk;rw [if_neg h,if_pos h2]
theorem useOk_three {req:List (List UInt8)} {sp:List UInt8} (h:¬ (sp=kFileinto∨sp=kReject∨sp=kEnvelope)) (h2:¬ (sp=kSet∨sp=kString)):useOk req sp=true:=by unfold useOk;rw [if_neg h,if_neg h2]
theorem mayUse_any (sp:List UInt8) (req:List (List UInt8)) (b:Nat) (t:ByteArray) (s:PS) (rv:Value) (mc mt:Nat) (w:World) (h:RC w b t s rv mc mt) (hr:ReqV w b rv req) :
  Calls Tryz.prog 316 #[.pointer (some ⟨b,0,none⟩),.string (strA sp)] w fun e w'=>e=.returned (.bool (useOk req sp))∧w'=w:=by
 have h7:w.cell? ⟨b,7,none⟩=some rv:=h.at_.cell 7
 have HC:=hide (fun x=>contains_req w b rv req x hr)
 obtain ⟨ra,rn,rc,hrv⟩:∃ a n c,rv=.slice a n c:=by
  rcases hr with ⟨h,_⟩ | ⟨g,c,h,_⟩
  ·exact ⟨_,_,_,h⟩
  ·exact ⟨_,_,_,h⟩
 subst hrv
 clear h hr
 have e1:((strA sp).toList == [102,105,108,101,105,110,116,111])=decide (sp=kFileinto):=strA_beq sp kFileinto
 have e2:((strA sp).toList == [114,101,106,101,99,116])=decide (sp=kReject):=strA_beq sp kReject
 have e3:((strA sp).toList == [101,110,118,101,108,111,112,101])=decide (sp=kEnvelope):=strA_beq sp kEnvelope
 have e4:((strA sp).toList == [115,101,116])=decide (sp=kSet):=strA_beq sp kSet
 have e5:((strA sp).toList == [115,116,114,105,110,103])=decide (sp=kString):=strA_beq sp kString
 by_cases a1:sp=kFileinto
 ·have HE:=hide (useOk_one (req:=req) (Or.inl a1))
  rw [decide_eq_true a1] at e1
  clear e2 e3 e4 e5
  clear a1
  go_enter Tryz.func316,Tryz.ntmps316
  go_wp2_with (go_at_call 79;refine (HC.out sp).mono ?_;rintro e w' ⟨rfl,rfl⟩)
  go_ret
  exact ⟨ret_bool (by rw [HE.out]),rfl⟩
 by_cases a2:sp=kReject
 ·have HE:=hide (useOk_one (req:=req) (Or.inr (Or.inl a2)))
  rw [decide_eq_false a1] at e1
  rw [decide_eq_true a2] at e2
  clear e3 e4 e5
  clear a2 a1
  go_enter Tryz.func316,Tryz.ntmps316
  go_wp2_with (go_at_call 79;refine (HC.out sp).mono ?_;rintro e w' ⟨rfl,rfl⟩)
  go_ret
  exact ⟨ret_bool (by rw [HE.out]),rfl⟩
 by_cases a3:sp=kEnvelope
 ·have HE:=hide (useOk_one (req:=req) (Or.inr (Or.inr a3)))
  rw [decide_eq_false a1] at e1
  rw [decide_eq_false a2] at e2
  rw [decide_eq_true a3] at e3
  clear e4 e5
  clear a3 a1 a2
  go_enter Tryz.func316,Tryz.ntmps316
  go_wp2_with (go_at_call 79;refine (HC.out sp).mono ?_;rintro e w' ⟨rfl,rfl⟩)
  go_ret
  exact ⟨ret_bool (by rw [HE.out]),rfl⟩
 have hN:¬ (sp=kFileinto∨sp=kReject∨sp=kEnvelope):=by
  rintro (h | h | h)
  ·exact a1 h
  ·exact a2 h
  ·exact a3 h
 by_cases a4:sp=kSet
 ·have HE:=hide (useOk_two (req:=req) hN (Or.inl a4))
  clear hN
  rw [decide_eq_false a1] at e1
  rw [decide_eq_false a2] at e2
  rw [decide_eq_false a3] at e3
  rw [decide_eq_true a4] at e4
  clear e5
  clear a4 a1 a2 a3
  go_enter Tryz.func316,Tryz.ntmps316
  go_wp2_with (go_at_call 79;refine (HC.out kVariables).mono ?_;rintro e w' ⟨rfl,rfl⟩)
  go_ret
  exact ⟨ret_bool (by rw [HE.out]),rfl⟩
 by_cases a5:sp=kString
 ·have HE:=hide (useOk_two (req:=req) hN (Or.inr a5))
  clear hN
  rw [decide_eq_false a1] at e1
  rw [decide_eq_false a2] at e2
  rw [decide_eq_false a3] at e3
  rw [decide_eq_false a4] at e4
  rw [decide_eq_true a5] at e5
  clear a5 a1 a2 a3 a4
  go_enter Tryz.func316,Tryz.ntmps316
  go_wp2_with (go_at_call 79;refine (HC.out kVariables).mono ?_;rintro e w' ⟨rfl,rfl⟩)
  go_ret
  exact ⟨ret_bool (by rw [HE.out]),rfl⟩
 have HE:=hide (useOk_three (req:=req) hN (by rintro (h | h) <;> contradiction))
 clear hN
 rw [decide_eq_false a1] at e1
 rw [decide_eq_false a2] at e2
 rw [decide_eq_false a3] at e3
 rw [decide_eq_false a4] at e4
 rw [decide_eq_false a5] at e5
 clear a1 a2 a3 a4 a5
 go_enter Tryz.func316,Tryz.ntmps316
 go_wp2_with (go_at_call 79;refine (HC.out sp).mono ?_;rintro e w' ⟨rfl,rfl⟩)
 go_ret
 exact ⟨ret_bool (by rw [HE.out]),rfl⟩
end
section
open Go.RowKit
attribute [local go_sem ↓] Go.wp_at_zero Go.wp_at_succ
def slX (X:Nat→Prop) (xs:List (List UInt8)) (w:World) (v:Value):Prop:=
 ∃ g c,v=.slice (some ⟨g,0,none⟩) xs.length c∧X g∧TxtAt w g xs∧xs≠[]
theorem slB.toX {B:Nat} {xs:List (List UInt8)} {w:World} {v:Value} (h:slB B xs w v):slX (fromB B) xs w v:=h
theorem slX.keep {X:Nat→Prop} {xs:List (List UInt8)} {w w':World} {v:Value} (h:slX X xs w v) (hk:AbvX X w w'):slX X xs w' v:=by
 obtain ⟨g,c,hv,hg,ht,hx⟩:=h
 refine ⟨g,c,hv,hg,fun j hj=>?_,hx⟩
 have:=ht j hj
 rw [World.cell?_of_block (w:=w) (a:=⟨g,j,none⟩) (hk g hg (cell_lt this))]
 exact this
theorem slX.weak {X Y:Nat→Prop} {xs:List (List UInt8)} {w:World} {v:Value} (h:slX X xs w v) (hB:∀ k,X k→k < w.heap.size→Y k):slX Y xs w v:=by
 obtain ⟨g,c,hv,hg,ht,hx⟩:=h
 exact ⟨g,c,hv,hB g hg (cell_lt (ht 0 (List.length_pos_iff.2 hx))),ht,hx⟩
def mtX (X:Nat→Prop) (hw:List UInt8) (x:TLab) (w:World) (v:Value):Prop:=
 ∃ fv kv,v=.agg #[.string (strA hw),.int .i64 x.pos,.int .i64 x.tag,.bool x.octet,fv,kv]∧slX X x.fr w fv∧slX X x.keys w kv
def tnode {α:Type} (X:Nat→Prop) (P:(Nat→Prop)→α→World→Value→Prop) (x:TLab×List α) (w:World) (v:Value):Prop:=
 match x.1.kind with
 | 0=>x.2=[]∧v=.iface 373 (.agg #[.string (strA kTrue),.int .i64 x.1.pos,.bool true])
 | 1=>x.2=[]∧v=.iface 373 (.agg #[.string (strA kFalse),.int .i64 x.1.pos,.bool false])
 | 2=>∃ a u,x.2=[a]∧v=.iface 376 (.agg #[.string (strA kNot),.int .i64 x.1.pos,u])∧P X a w u
 | 3=>∃ u,v=.iface 274 (.agg #[.string (strA kAllof),.int .i64 x.1.pos,u])∧trX X P x.2 w u∧x.2≠[]
 | 4=>∃ u,v=.iface 275 (.agg #[.string (strA kAnyof),.int .i64 x.1.pos,u])∧trX X P x.2 w u∧x.2≠[]
 | 5=>x.2=[]∧∃ u,v=.iface 281 u∧mtX X kHeader x.1 w u
 | 6=>x.2=[]∧∃ u,v=.iface 284 u∧mtX X kEnvelope x.1 w u
 | 7=>x.2=[]∧∃ u,v=.iface 285 u∧mtX X kString x.1 w u
 | 8=>x.2=[]∧∃ u,v=.iface 380 (.agg #[.string (strA kExists),.int .i64 x.1.pos,u])∧slX X x.1.fr w u
 | _=>x.2=[]∧v=.iface 382 (.agg #[.string (strA kSize),.int .i64 x.1.pos,.int .i64 x.1.tag,.int .i64 x.1.num])
def TestV:(n:Nat)→(Nat→Prop)→TestT n→World→Value→Prop
 | 0,_,_,_,_=>False
 | n+1,X,x,w,v=>tnode X (TestV n) x w v
theorem tnode_form {α:Type} {X:Nat→Prop} {P:(Nat→Prop)→α→World→Value→Prop} {x:TLab×List α} {w:World} {v:Value} (h:tnode X P x w v):∃ ty y,v=.iface ty y:=by
 unfold tnode at h
 split at h
 ·exact ⟨_,_,h.2⟩
 ·exact ⟨_,_,h.2⟩
 ·obtain ⟨a,u,_,h,_⟩:=h;exact ⟨_,_,h⟩
 ·obtain ⟨u,h,_⟩:=h;exact ⟨_,_,h⟩
 ·obtain ⟨u,h,_⟩:=h;exact ⟨_,_,h⟩
 ·obtain ⟨_,u,h,_⟩:=h;exact ⟨_,_,h⟩
 ·obtain ⟨_,u,h,_⟩:=h;exact ⟨_,_,h⟩
 ·obtain ⟨_,u,h,_⟩:=h;exact ⟨_,_,h⟩
 ·obtain ⟨_,u,h,_⟩:=h;exact ⟨_,_,h⟩
 ·exact ⟨_,_,h.2⟩
theorem mtX.keep {X:Nat→Prop} {hw:List UInt8} {x:TLab} {w w':World} {v:Value} (h:mtX X hw x w v) (hk:AbvX X w w'):mtX X hw x w' v:=by
 obtain ⟨fv,kv,h1,h2,h3⟩:=h;exact ⟨fv,kv,h1,h2.keep hk,h3.keep hk⟩
theorem mtX.weak {X Y:Nat→Prop} {hw:List UInt8} {x:TLab} {w:World} {v:Value} (h:mtX X hw x w v) (hB:∀ k,X k→k < w.heap.size→Y k):mtX Y hw x w v:=by
 obtain ⟨fv,kv,h1,h2,h3⟩:=h;exact ⟨fv,kv,h1,h2.weak hB,h3.weak hB⟩
theorem tnode_keep {α:Type} {X:Nat→Prop} {P:(Nat→Prop)→α→World→Value→Prop} (hP:TreeP P) {x:TLab×List α} {w w':World} {v:Value} (h:tnode X P x w v) (hk:AbvX X w w'):tnode X P x w' v:=by
 unfold tnode at h ⊢
 split at h
 ·exact h
 ·exact h
 ·obtain ⟨a,u,h1,h2,h3⟩:=h;exact ⟨a,u,h1,h2,hP.keep _ _ _ _ _ h3 hk⟩
 ·obtain ⟨u,h1,h2,h3⟩:=h;exact ⟨u,h1,h2.keep hP hk,h3⟩
 ·obtain ⟨u,h1,h2,h3⟩:=h;exact ⟨u,h1,h2.keep hP hk,h3⟩
 ·obtain ⟨h0,u,h1,h2⟩:=h;exact ⟨h0,u,h1,h2.keep hk⟩
 ·obtain ⟨h0,u,h1,h2⟩:=h;exact ⟨h0,u,h1,h2.keep hk⟩
 ·obtain ⟨h0,u,h1,h2⟩:=h;exact ⟨h0,u,h1,h2.keep hk⟩
 ·obtain ⟨h0,u,h1,h2⟩:=h;exact ⟨h0,u,h1,h2.keep hk⟩
 ·exact h
theorem tnode_weak {α:Type} {X Y:Nat→Prop} {P:(Nat→Prop)→α→World→Value→Prop} (hP:TreeP P) {x:TLab×List α} {w:World} {v:Value} (h:tnode X P x w v) (hB:∀ k,X k→k < w.heap.size→Y k):tnode Y P x w v:=by
 unfold tnode at h ⊢
 split at h
 ·exact h
 ·exact h
 ·obtain ⟨a,u,h1,h2,h3⟩:=h;exact ⟨a,u,h1,h2,hP.weak _ _ _ _ _ h3 hB⟩
 ·obtain ⟨u,h1,h2,h3⟩:=h;exact ⟨u,h1,trX.weak hP h3 h2 hB,h3⟩
 ·obtain ⟨u,h1,h2,h3⟩:=h;exact ⟨u,h1,trX.weak hP h3 h2 hB,h3⟩
 ·obtain ⟨h0,u,h1,h2⟩:=h;exact ⟨h0,u,h1,h2.weak hB⟩
 ·obtain ⟨h0,u,h1,h2⟩:=h;exact ⟨h0,u,h1,h2.weak hB⟩
 ·obtain ⟨h0,u,h1,h2⟩:=h;exact ⟨h0,u,h1,h2.weak hB⟩
 ·obtain ⟨h0,u,h1,h2⟩:=h;exact ⟨h0,u,h1,h2.weak hB⟩
 ·exact h
theorem testV_tree:∀ n,TreeP (TestV n)
 | 0=>⟨fun _ _ _ _ h=>h.elim,fun _ _ _ _ _ h=>h.elim,fun _ _ _ _ _ h=>h.elim⟩
 | n+1=>⟨fun _ _ _ _ h=>tnode_form h,fun _ _ _ _ _ h hk=>tnode_keep (testV_tree n) h hk,fun _ _ _ _ _ h hB=>tnode_weak (testV_tree n) h hB⟩
def LookOk (w:World) (T:TypeId) (m:Nat) (f:List UInt8→Option Value):Prop:=
 ∀ (W:World) (x:List UInt8),W.heap[m]?=w.heap[m]?→(Instr.lookup T (.map (some m)) (.string (strA x)) true).run Tryz.prog W=.ok (.tuple #[(f x).getD .nilFunc,.bool (f x).isSome]) W
def testFn (b pr pt pf:Nat) (x:List UInt8):Option Value:=
 match whichL testNames x with
 | 1=>some (.func (.func 251) #[] #[.pointer (some ⟨pt,0,none⟩)])
 | 2=>some (.func (.func 251) #[] #[.pointer (some ⟨pf,0,none⟩)])
 | 3=>some (.func (.func 159) #[.pointer (some ⟨b,0,none⟩)] #[])
 | 4=>some (.func (.func 160) #[] #[.pointer (some ⟨pr,0,none⟩)])
 | 5=>some (.func (.func 162) #[] #[.pointer (some ⟨pr,0,none⟩)])
 | 6=>some (.func (.func 163) #[] #[.pointer (some ⟨pr,0,none⟩)])
 | 7=>some (.func (.func 166) #[] #[.pointer (some ⟨pr,0,none⟩)])
 | 8=>some (.func (.func 169) #[] #[.pointer (some ⟨pr,0,none⟩)])
 | 9=>some (.func (.func 170) #[.pointer (some ⟨b,0,none⟩)] #[])
 | 10=>some (.func (.func 171) #[.pointer (some ⟨b,0,none⟩)] #[])
 | _=>none
structure TMap (w:World) (b mt pr pt pf:Nat):Prop where
 look:LookOk w 258 mt (testFn b pr pt pf)
 hpr:PrAt w pr b
 hpt:w.cell? ⟨pt,0,none⟩=some (.bool true)
 hpf:w.cell? ⟨pf,0,none⟩=some (.bool false)
 ptb:pt≠b
 pfb:pf≠b
 mtb:mt≠b
 mtl:mt < w.heap.size
theorem TMap.mod {w w':World} {b mt pr pt pf:Nat} (h:TMap w b mt pr pt pf) (hm:Mod b w w'):TMap w' b mt pr pt pf:=
 ⟨fun W x e=>h.look W x (e.trans (hm.block mt h.mtl h.mtb)),h.hpr.mod hm,cell_mod h.hpt hm h.ptb,cell_mod h.hpf hm h.pfb,h.ptb,h.pfb,h.mtb,Nat.lt_of_lt_of_le h.mtl hm.size⟩
theorem testFn_none {b pr pt pf:Nat} {x:List UInt8} (h:whichL testNames x=0):testFn b pr pt pf x=none:=by unfold testFn;rw [h];rfl
theorem beginT_unknown (d:Int) (b:Nat) (t:ByteArray) (s:PS) (rv:Value) (mc mt pr pt pf:Nat) (w:World) (h:RC w b t s rv mc mt) (ht:TMap w b mt pr pt pf) (hd:d≤6) (h0:whichL testNames s.1.spelt=0) :
  Calls Tryz.prog 306 #[.pointer (some ⟨b,0,none⟩),.map (some mt),.int .i64 d] w fun e w'=>Threw ⟨4,s.1.pos⟩ w e w'∧Mod b w w':=by
 have h1:w.cell? ⟨b,1,none⟩=some (.int .i64 s.1.kind):=h.at_.cell 1
 have h3:w.cell? ⟨b,3,none⟩=some (.string (strA s.1.spelt)):=h.at_.cell 3
 have hlk:=ht.look w s.1.spelt rfl
 rw [testFn_none h0] at hlk
 have H:=hide h
 clear h ht h0
 simp only [Option.getD_none,Option.isSome_none] at hlk
 by_cases hk:s.1.kind=1
 ·have hk':((s.1.kind:Int) != 1)=false:=by simp;omega
  clear hk
  go_enter Tryz.func306,Tryz.ntmps306
  go_wp2_with fail
  refine (demand_yes b _ _ _ rfl).mono ?_
  rintro e w' ⟨rfl,hww⟩
  subst hww
  go_wp2_with fail
  refine (demand_no b 4 _ _ t s.1 s.2 rv mc mt _ H.out.at_ rfl rfl).mono ?_
  rintro e w1 ⟨⟨bb,hz,rfl,hcc⟩,hm⟩
  exact ⟨rfl,⟨bb,hz,rfl,hcc⟩,Mod.of_below hm⟩
 ·have hk':((s.1.kind:Int) != 1)=true:=by simp;omega
  clear hk
  go_enter Tryz.func306,Tryz.ntmps306
  go_wp2_with fail
  refine (demand_yes b _ _ _ rfl).mono ?_
  rintro e w' ⟨rfl,hww⟩
  subst hww
  go_wp2_with fail
  refine (demand_no b 4 _ _ t s.1 s.2 rv mc mt _ H.out.at_ rfl rfl).mono ?_
  rintro e w1 ⟨⟨bb,hz,rfl,hcc⟩,hm⟩
  exact ⟨rfl,⟨bb,hz,rfl,hcc⟩,Mod.of_below hm⟩
end
section
open Go.RowKit
attribute [local go_sem ↓] Go.wp_at_zero Go.wp_at_succ
theorem push_any (h:Bool) (w:World):Calls Tryz.prog 334 #[.bool h] w fun e w'=>e=.returned (insV (pushI h) (.slice none 0 0) (.slice none 0 0))∧Below w.heap.size w w':=by
 have hB0:∀ o,Below w.heap.size w (w.alloc o):=fun o=>(Below.refl _ _).alloc (Nat.le_refl _) o
 have HB0:=hide hB0
 clear hB0
 cases h
 ·go_enter Tryz.func334,Tryz.ntmps334
  go_wp2
  refine bodyPost_ret (v:=insV (pushI false) (.slice none 0 0) (.slice none 0 0)) (by simp [results,Tryz.results334,go_sem,insV,pushI]) rfl ?_
  exact ⟨rfl,HB0.out _⟩
 ·go_enter Tryz.func334,Tryz.ntmps334
  go_wp2
  refine bodyPost_ret (v:=insV (pushI true) (.slice none 0 0) (.slice none 0 0)) (by simp [results,Tryz.results334,go_sem,insV,pushI]) rfl ?_
  exact ⟨rfl,HB0.out _⟩
theorem addC_one (B cb:Nat) (cs:List Ins) (i:Ins) (av bv:Value) (W:World) (h:CC W B cb cs) (hok:InsOk W i av bv) (hlen:cs.length+1≤1000000) :
  Calls Tryz.prog 201 #[.pointer (some ⟨cb,0,none⟩),.slice (some ⟨W.heap.size,0,none⟩) 1 1] (W.alloc (.cells #[.int .i64 i.op,.int .i64 i.n,.int .i64 i.tag,.bool i.oct,av,bv,.int .i64 i.at_] 62)) fun e w'=>e=.returned (.int .i64 (cs.length:Int))∧CC w' B cb (cs++[i])∧Fr (PCo B) W w':=by
 have hB:∀ o,Below W.heap.size W (W.alloc o):=fun o=>(Below.refl _ _).alloc (Nat.le_refl _) o
 refine (addC_any B cb W.heap.size 1 cs [(i,av,bv)] _ (h.alloc _) (blk_new _ _) (fun p hp=>?_) (by simp) hlen).mono ?_
 ·rw [List.mem_singleton.1 hp]
  exact hok.below (hB _)
 ·rintro e w' ⟨rfl,h1,h2⟩
  refine ⟨?_,h1,((Fr.refl _ W).alloc _).trans h2⟩
  show Ending.returned (.int .i64 ((cs.length+1 - 1:Nat):Int))=_
  rw [Nat.add_sub_cancel]
theorem addC_two (B cb:Nat) (cs:List Ins) (i j:Ins) (av bv au bu:Value) (W:World) (h:CC W B cb cs) (hok:InsOk W i av bv) (hok':InsOk W j au bu) (hlen:cs.length+2≤1000000) :
  Calls Tryz.prog 201 #[.pointer (some ⟨cb,0,none⟩),.slice (some ⟨W.heap.size,0,none⟩) 2 2] (W.alloc (.cells #[.int .i64 i.op,.int .i64 i.n,.int .i64 i.tag,.bool i.oct,av,bv,.int .i64 i.at_,.int .i64 j.op,.int .i64 j.n,.int .i64 j.tag,.bool j.oct,au,bu,.int .i64 j.at_] 62)) fun e w'=>e=.returned (.int .i64 ((cs.length+1:Nat):Int))∧CC w' B cb (cs++[i,j])∧Fr (PCo B) W w':=by
 have hB:∀ o,Below W.heap.size W (W.alloc o):=fun o=>(Below.refl _ _).alloc (Nat.le_refl _) o
 refine (addC_any B cb W.heap.size 2 cs [(i,av,bv),(j,au,bu)] _ (h.alloc _) (blk_new _ _) (fun p hp=>?_) (by simp) hlen).mono ?_
 ·simp at hp
  rcases hp with rfl | rfl
  ·exact hok.below (hB _)
  ·exact hok'.below (hB _)
 ·rintro e w' ⟨rfl,h1,h2⟩
  exact ⟨rfl,h1,((Fr.refl _ W).alloc _).trans h2⟩
theorem insOk_nil (W:World) (i:Ins) (ha:i.a=[]) (hb:i.b=[]) (h1:-9223372036854775808≤i.n) (h2:i.n≤9223372036854775807):InsOk W i (.slice none 0 0) (.slice none 0 0):=
 ⟨Or.inl ⟨rfl,ha⟩,Or.inl ⟨rfl,hb⟩,by rw [ha];simp,by rw [hb];simp,by rw [ha];simp,by rw [hb];simp,h1,h2⟩
theorem landC_one (B cb:Nat) (j:Nat) (cs:List Ins) (W:World) (h:CC W B cb cs) (hj:j < cs.length) (hlen:cs.length≤1000000) :
  Calls Tryz.prog 280 #[.pointer (some ⟨cb,0,none⟩),.slice (some ⟨W.heap.size,0,none⟩) 1 1] (W.alloc (.cells #[.int .i64 (j:Int)] 3)) fun e w'=>e=.returned (.tuple #[])∧CC w' B cb (landL [j] cs)∧Fr (PCo B) W w':=by
 refine (landC_any B cb W.heap.size 1 [j] #[.int .i64 (j:Int)] cs _ (h.alloc _) (fun k hk=>by rw [List.mem_singleton.1 hk];exact hj) (blk_new _ _) (fun k hk=>?_) hlen (by simp)).mono ?_
 ·have:k=0:=by simp at hk;exact hk
  subst this;rfl
 ·rintro e w' ⟨rfl,h1,h2⟩
  exact ⟨rfl,h1,((Fr.refl _ W).alloc _).trans h2⟩
end
section
open Go.RowKit
attribute [local go_sem ↓] Go.wp_at_zero Go.wp_at_succ
theorem cloneStr_any (X:Nat→Prop) (xs:List (List UInt8)) (v:Value) (w:World) (h:slX X xs w v) (hl:xs.length≤1000000) :
  Calls Tryz.prog 337 #[v] w fun e w'=>∃ a k,e=.returned (.slice a xs.length k)∧SlT w' (.slice a xs.length k) xs∧Below w.heap.size w w':=by
 obtain ⟨g,c,rfl,_,ht,hne⟩:=h
 refine (Tryz.slices_Clone_string g 0 xs.length c (xs.map strA) w (by simp) (by omega) (fun j hj=>?_)).mono ?_
 ·rw [List.length_map] at hj
  rw [Nat.zero_add,ht j hj,List.getD_eq_getElem?_getD,List.getD_eq_getElem?_getD,List.getElem?_map,List.getElem?_eq_getElem hj]
  rfl
 ·rintro e w' ⟨v',rfl,ho,hn,hb⟩
  have e1:((xs.map strA).take xs.length).map Value.string=tcells xs:=by
   rw [List.take_of_length_le (by simp),List.map_map];rfl
  rw [e1] at ho
  obtain ⟨a,k,hv⟩:=owns_len ho
  subst hv
  exact ⟨a,k,rfl,SlT.of_owns ho rfl,hb⟩
end
end Go.Proofs.YtbiclelojbfnbaaGreatDoor
