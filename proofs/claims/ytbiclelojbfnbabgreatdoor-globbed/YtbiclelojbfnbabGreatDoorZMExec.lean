import Derived.Defers
import Derived.Recover
import Derived.Test.YtbiclelojbfnbabGreatDoorZMActW
import Derived.Test.YtbiclelojbfnbabGreatDoorZMDoG
import Derived.Test.YtbiclelojbfnbabGreatDoorZMJump
import Derived.Test.YtbiclelojbfnbabGreatDoorZMPut
namespace Go.Proofs.YtbiclelojbfnbabGreatDoor
set_option linter.unusedVariables false
set_option linter.unusedSimpArgs false
set_option maxRecDepth 100000
set_option maxHeartbeats 4000000
section
open Go.RowKit
theorem Qho (W:World) (v:Value) (xT:TypeId):(Instr.typeAssert (.iface 76 v) xT 76 true).run Tryz.prog W=.ok (.tuple #[v,.bool true]) W:=by kernel_rfl
theorem QiY (w:World):Calls Tryz.prog 58 #[.nilIface] w fun e w'=>e=.returned (.pointer none)∧w'=w:=by
 go_enter Tryz.func58,Tryz.ntmps58
 go_wp2
 go_ret
 exact ⟨rfl,rfl⟩
theorem QgM (a:Addr) (w:World):Calls Tryz.prog 58 #[.iface 76 (.pointer (some a))] w fun e w'=>e=.returned (.pointer (some a))∧w'=w:=by
 go_enter Tryz.func58,Tryz.ntmps58
 have hta:=Qho w (.pointer (some a))
 go_wp2
 go_ret
 exact ⟨rfl,rfl⟩
theorem Qpy (p q:Addr) (w:World) :
 CallsD Tryz.prog 57 #[.pointer (some p),.pointer (some q)] .returning w fun e u' w'=>e=.returned (.tuple #[])∧u'=.returning∧w'=w:=by
 refine callsD_of_wpS Tryz.func57 rfl fun c₀ cs hu=>?_
 apply wpS_seq
 apply wpS_region
 simp [wpOpsS,go_sem,recoverD,hu,Tryz.ntmps57,Exit.thenS]
 refine (QiY w).mono ?_
 rintro e w' ⟨rfl,rfl⟩
 apply wpS_seq
 apply wpS_region
 simp [wpOpsS,go_sem,Exit.thenS]
 refine wpS_cond (t:=false) (by simp [Act.eval,Array.replicate]) ?_
 simp only [Bool.false_eq_true,if_false]
 refine wpS_of_wp (wp_skip ?_)
 cases c₀
 simp_all [bodyPostS,results,Tryz.results57]
theorem Qhx (P Q:Nat) (x1 x2 x3:Value) (a:Addr) (older:List PanicEntry) (w:World) (hc1:w.cell? ⟨P,0,none⟩=some x1) (hc2:w.cell? ⟨P,1,none⟩=some x2) (hc3:w.cell? ⟨Q,0,none⟩=some x3) (hz1:∀ j,w.frozen? ⟨P,j,none⟩=false) (hz2:∀ j,w.frozen? ⟨Q,j,none⟩=false) (hPQ:P≠Q) :
 CallsD Tryz.prog 57 #[.pointer (some ⟨P,0,none⟩),.pointer (some ⟨Q,0,none⟩)] (.panicking ({ v:=.iface 76 (.pointer (some a)),recovered:=false } :: older)) w fun e u' w'=>
  e=.returned (.tuple #[])∧u'=.panicking ({ v:=.iface 76 (.pointer (some a)),recovered:=true } :: older)∧w'=((w.setCell ⟨P,0,none⟩ (.slice none 0 0)).setCell ⟨P,1,none⟩ (.slice none 0 0)).setCell ⟨Q,0,none⟩ (.iface 76 (.pointer (some a))):=by
 refine callsD_of_wpS Tryz.func57 rfl fun c₀ cs hu=>?_
 apply wpS_seq
 apply wpS_region
 simp [wpOpsS,go_sem,recoverD,hu,Tryz.ntmps57,Exit.thenS]
 refine (QgM a w).mono ?_
 rintro e w' ⟨rfl,rfl⟩
 apply wpS_seq
 apply wpS_region
 simp [wpOpsS,go_sem,Exit.thenS]
 refine wpS_cond (t:=true) (by simp [Act.eval,Array.replicate]) ?_
 simp only [if_true]
 apply wpS_region
 simp [wpOpsS,go_sem,hc1,hc2,hc3,hz1,hz2,bodyPostS,results,Tryz.results57]
end
section
open Go.RowKit
attribute [local go_sem ↓] Go.wp_at_zero Go.wp_at_succ
def QtT (r:Except Flt (List (List UInt8)×List (QcX 7))) (w:World) (e:Ending) (w':World):Prop:=
 Below w.heap.size w w'∧((∃ y tv,r=.ok y∧e=.returned (.tuple #[tv,.nilIface])∧Qt8 (fromB w.heap.size) y w' tv)∨(∃ f bb,r=.error f∧e=.returned (.tuple #[.agg #[.slice none 0 0,.slice none 0 0],.iface 76 (.pointer (some ⟨bb,0,none⟩))])∧w.heap.size≤bb∧w'.heap[bb]?=some (.cells #[.int .i64 f.err,.int .i64 f.pos] 81)))
theorem QmM (t:ByteArray) (w:World) (ht:t.size≤600) (hm1:∃ m,w.cell? ⟨1,0,none⟩=some (.int .i64 m)) :
 Calls Tryz.prog 36 #[.string t] w (QtT (parseL t.data.toList) w):=by
 have hmf:∀ (fn:Fn) (first cap:Array Value) (w:World),(Instr.makeFunc fn first cap).run Tryz.prog w=.ok (.func fn first cap) w:=fun _ _ _ _=>rfl
 have ht':¬ (600:Int) < (t.size:Int):=by omega
 go_enter_defers Tryz.func36,Tryz.ntmps36
 go_wp2_with fail
 obtain ⟨V,hV⟩:∃ V,V=(w.alloc (.cells #[.slice none 0 0,.slice none 0 0] 92)).alloc (.cells #[.nilIface] 61):=⟨_,rfl⟩
 have hzV:V.heap.size=w.heap.size+1+1:=by rw [hV];simp
 have hVP:V.heap[w.heap.size]?=some (.cells #[.slice none 0 0,.slice none 0 0] 92):=by rw [hV];exact Qad (QaB _ _)
 have hVQ:V.heap[w.heap.size+1]?=some (.cells #[.nilIface] 61):=by rw [hV];exact Qaw (by simp)
 have hVB:Below w.heap.size w V:=by rw [hV];exact ((Below.refl _ _).alloc (Nat.le_refl _) _).alloc (by simp) _
 have hV1:∃ m,V.cell? ⟨1,0,none⟩=some (.int .i64 m):=by
  obtain ⟨m,hm⟩:=hm1
  exact ⟨m,by rw [hVB.cell (p:=⟨1,0,none⟩) (Qay hm)];exact hm⟩
 rw [← hV]
 clear hV
 refine (Qj7 t V ht hV1).mono ?_
 rintro e w1 ⟨mc,mt,pr,pt,pf,p1,k1,p2,k2,p3,k3,rfl,hrc,htm,hcm,hbl⟩
 rw [hzV] at hrc htm hcm hbl
 have HVB:=Qaa hVB
 have HRC:=Qaa hrc
 have HTM:=Qaa htm
 have HCM:=Qaa hcm
 have hP1:w1.heap[w.heap.size]?=some (.cells #[.slice none 0 0,.slice none 0 0] 92):=by rw [hbl.block _ (by omega)];exact hVP
 have hQ1:w1.heap[w.heap.size+1]?=some (.cells #[.nilIface] 61):=by rw [hbl.block _ (by omega)];exact hVQ
 have HBL:=Qaa hbl
 have HP1:=Qaa hP1
 have HQ1:=Qaa hQ1
 have hz1:=hbl.size
 clear hVB hVP hVQ hV1 hm1 hrc htm hcm hbl hP1 hQ1
 go_wp2_with fail
 refine (QpV (w.heap.size+1+1) t mc mt pr pt pf p1 k1 p2 k2 p3 k3 w1 HRC.out HTM.out HCM.out).mono ?_
 rintro e w2 ⟨hm2,⟨y,v,hy,rfl,hv⟩ | ⟨f,hf,⟨bb,hz,rfl,hcc⟩⟩⟩
 ·obtain ⟨rv,lv,rfl,hrq,hbl⟩:=hv
  have HRQ:=Qaa hrq
  have HBX:=Qaa hbl
  obtain ⟨ra,rn,rc,rfl⟩:=hrq.form
  obtain ⟨la,ln,lc,rfl⟩:=hbl.form
  have hP2:=QaP HP1.out hm2 (by omega)
  have hQ2:=QaP HQ1.out hm2 (by omega)
  have c0:w2.cell? ⟨w.heap.size,0,none⟩=some (.slice none 0 0):=Qab hP2 0
  have c1:w2.cell? ⟨w.heap.size,1,none⟩=some (.slice none 0 0):=Qab hP2 1
  have c2:w2.cell? ⟨w.heap.size+1,0,none⟩=some .nilIface:=Qab hQ2 0
  have z1:=Qam hP2
  have z2:=Qam hQ2
  have HM2:=Qaa hm2
  have HY:=Qaa hy
  clear hm2 hy hrq hbl hP2 hQ2
  go_wp2
  have hB2:Below w.heap.size w w2:=⟨HM2.out.os.trans (HBL.out.os.trans HVB.out.os),HM2.out.tape.trans (HBL.out.tape.trans HVB.out.tape),HM2.out.output.trans (HBL.out.output.trans HVB.out.output),Nat.le_trans HVB.out.size (Nat.le_trans HBL.out.size HM2.out.size),fun k hk=>by rw [HM2.out.block k (by omega) (by omega),HBL.out.block k (by omega),HVB.out.block k hk]⟩
  have hq0:¬ fromB w1.heap.size w.heap.size:=by unfold fromB;omega
  have hq1:¬ fromB w1.heap.size (w.heap.size+1):=by unfold fromB;omega
  have HFIN:Hid (QtT (parseL t.data.toList) w (.returned (.tuple #[.agg #[.slice ra rn rc,.slice la ln lc],.nilIface])) (((w2.setCell ⟨w.heap.size,0,none⟩ (.slice ra rn rc)).setCell ⟨w.heap.size,1,none⟩ (.slice la ln lc)).setCell ⟨w.heap.size+1,0,none⟩ .nilIface)):=⟨((hB2.setCell (Nat.le_refl _) _).setCell (Nat.le_refl _) _).setCell (by show w.heap.size≤w.heap.size+1;omega) _,Or.inl ⟨y,_,HY.out,rfl,⟨_,_,rfl,(((HRQ.out.keep (AbvX.set hq0 _ _)).keep (AbvX.set hq0 _ _)).keep (AbvX.set hq1 _ _)).weak (fun k hk _=>by unfold fromB at *;omega),blX.weak (Qa3 7) (((HBX.out.keep (Qa3 7) (AbvX.set hq0 _ _)).keep (Qa3 7) (AbvX.set hq0 _ _)).keep (Qa3 7) (AbvX.set hq1 _ _)) (fun k hk _=>by unfold fromB at *;omega)⟩⟩⟩
  refine leaves_cons (f:=57) (args:=#[.pointer (some ⟨w.heap.size,0,none⟩),.pointer (some ⟨w.heap.size+1,0,none⟩)]) (by simp) (by simp [go_sem]) ?_
  refine (Qpy ⟨w.heap.size,0,none⟩ ⟨w.heap.size+1,0,none⟩ _).mono ?_
  rintro e u' w'' ⟨rfl,rfl,rfl⟩
  simp [Leaves,settle,results,Tryz.results36,go_sem,c0,c1,c2]
  exact HFIN.out
 ·have hP2:=QaP HP1.out hm2 (by omega)
  have hQ2:=QaP HQ1.out hm2 (by omega)
  have c0:w2.cell? ⟨w.heap.size,0,none⟩=some (.slice none 0 0):=Qab hP2 0
  have c1:w2.cell? ⟨w.heap.size,1,none⟩=some (.slice none 0 0):=Qab hP2 1
  have c2:w2.cell? ⟨w.heap.size+1,0,none⟩=some .nilIface:=Qab hQ2 0
  have z1:=Qam hP2
  have z2:=Qam hQ2
  have hB2:Below w.heap.size w w2:=⟨hm2.os.trans (HBL.out.os.trans HVB.out.os),hm2.tape.trans (HBL.out.tape.trans HVB.out.tape),hm2.output.trans (HBL.out.output.trans HVB.out.output),Nat.le_trans HVB.out.size (Nat.le_trans HBL.out.size hm2.size),fun k hk=>by rw [hm2.block k (by omega) (by omega),HBL.out.block k (by omega),HVB.out.block k hk]⟩
  have HFIN:Hid (QtT (parseL t.data.toList) w (.returned (.tuple #[.agg #[.slice none 0 0,.slice none 0 0],.iface 76 (.pointer (some ⟨bb,0,none⟩))])) (((w2.setCell ⟨w.heap.size,0,none⟩ (.slice none 0 0)).setCell ⟨w.heap.size,1,none⟩ (.slice none 0 0)).setCell ⟨w.heap.size+1,0,none⟩ (.iface 76 (.pointer (some ⟨bb,0,none⟩))))):=⟨((hB2.setCell (Nat.le_refl _) _).setCell (Nat.le_refl _) _).setCell (by show w.heap.size≤w.heap.size+1;omega) _,Or.inr ⟨f,bb,hf,rfl,by omega,by
   rw [Below.heap_setCell _ _ _ _ (show bb≠w.heap.size+1 by omega),Below.heap_setCell _ _ _ _ (show bb≠w.heap.size by omega),Below.heap_setCell _ _ _ _ (show bb≠w.heap.size by omega)]
   exact hcc⟩⟩
  refine leaves_cons (f:=57) (args:=#[.pointer (some ⟨w.heap.size,0,none⟩),.pointer (some ⟨w.heap.size+1,0,none⟩)]) (by simp) (by simp [go_sem]) ?_
  refine (Qhx w.heap.size (w.heap.size+1) _ _ _ ⟨bb,0,none⟩ [] _ c0 c1 c2 z1 z2 (by omega)).mono ?_
  rintro e u' w'' ⟨rfl,rfl,rfl⟩
  simp [Leaves,settle,results,Tryz.results36,go_sem,c0,c1,c2]
  exact HFIN.out
end
section
open Go.RowKit
attribute [local go_sem ↓] Go.wp_at_zero Go.wp_at_succ
theorem QpX (t:ByteArray) (w:World) (ht:600 < t.size) :
 Calls Tryz.prog 36 #[.string t] w fun e w'=>e=.returned (.tuple #[.agg #[.slice none 0 0,.slice none 0 0],.iface 30 (.int .i64 1)])∧Below w.heap.size w w':=by
 have hmf:∀ (fn:Fn) (first cap:Array Value) (w:World),(Instr.makeFunc fn first cap).run Tryz.prog w=.ok (.func fn first cap) w:=fun _ _ _ _=>rfl
 have ht':(600:Int) < (t.size:Int):=by omega
 go_enter_defers Tryz.func36,Tryz.ntmps36
 go_wp2
 have hB:Below w.heap.size w ((w.alloc (.cells #[.slice none 0 0,.slice none 0 0] 92)).alloc (.cells #[.iface 30 (.int .i64 1)] 61)):=((Below.refl _ _).alloc (Nat.le_refl _) _).alloc (by simp) _
 have HB:=Qaa hB
 clear hB
 simp [bodyPostD,Leaves,settle,results,Tryz.results36,go_sem]
 exact HB.out
def Quk (r:Except Flt (List (List UInt8)×List (QcX 7))) (w:World) (e:Ending) (w':World):Prop:=
 Below w.heap.size w w'∧((∃ y g rv lv,r=.ok y∧e=.returned (.tuple #[.pointer (some ⟨g,0,none⟩),.nilIface])∧w.heap.size≤g∧w'.heap[g]?=some (.cells #[rv,lv] 96)∧Qkw (fromB w.heap.size) y.1 w' rv∧blX (fromB w.heap.size) (Qio 7) y.2 w' lv)∨(∃ f bb,r=.error f∧e=.returned (.tuple #[.pointer none,.iface 76 (.pointer (some ⟨bb,0,none⟩))])∧w.heap.size≤bb∧w'.heap[bb]?=some (.cells #[.int .i64 f.err,.int .i64 f.pos] 81)))
theorem Qlx (t:ByteArray) (w:World) (ht:t.size≤600) (hm1:∃ m,w.cell? ⟨1,0,none⟩=some (.int .i64 m)) :
 Calls Tryz.prog 23 #[.string t] w (Quk (parseL t.data.toList) w):=by
 go_enter Tryz.func23,Tryz.ntmps23
 go_wp2_with fail
 refine (QmM t w ht hm1).mono ?_
 rintro e w1 ⟨hbl,⟨y,tv,hy,rfl,hv⟩ | ⟨f,bb,hf,rfl,hz,hcc⟩⟩
 ·obtain ⟨rv,lv,rfl,hrq,hbx⟩:=hv
  have HB:=Qaa hbl
  have HY:=Qaa hy
  have HRQ:=Qaa hrq
  have HBX:=Qaa hbx
  obtain ⟨ra,rn,rc,rfl⟩:=hrq.form
  obtain ⟨la,ln,lc,rfl⟩:=hbx.form
  have hz:=hbl.size
  clear hbl hy hrq hbx
  go_wp2
  refine bodyPost_ret (v:=.tuple #[.pointer (some ⟨w1.heap.size+1,0,none⟩),.nilIface]) (by simp [results,Tryz.results23,go_sem]) rfl ?_
  have hal:∀ X,AbvX X w1 ((w1.alloc (.cells #[.slice ra rn rc,.slice la ln lc] 92)).alloc (.cells #[.slice ra rn rc,.slice la ln lc] 96)):=fun X k _ hk=>by
   rw [Below.heap_alloc _ _ _ (by simp;omega),Below.heap_alloc _ _ _ hk]
  exact ⟨(HB.out.alloc hz _).alloc (by simp;omega) _,Or.inl ⟨y,_,_,_,HY.out,rfl,by omega,Qaw (by simp),HRQ.out.keep (hal _),HBX.out.keep (Qa3 7) (hal _)⟩⟩
 ·have HB:=Qaa hbl
  have HF:=Qaa hf
  have HC:=Qaa hcc
  have hz2:=hbl.size
  clear hbl hf hcc
  go_wp2
  refine bodyPost_ret (v:=.tuple #[.pointer none,.iface 76 (.pointer (some ⟨bb,0,none⟩))]) (by simp [results,Tryz.results23,go_sem]) rfl ?_
  exact ⟨HB.out.alloc hz2 _,Or.inr ⟨f,bb,HF.out,rfl,hz,Qad HC.out⟩⟩
end
section
open Go.RowKit
attribute [local go_sem ↓] Go.wp_at_zero Go.wp_at_succ
theorem Qmy (B sb:Nat) (M:Msg) (s:SS) (w:World) (h:SAt w B sb M s) :
 Calls Tryz.prog 68 #[.pointer (some ⟨sb,0,none⟩)] w fun e w'=>∃ v,e=.returned v∧ActsV w' w.heap.size v (Qul s)∧Below w.heap.size w w':=by
 have HS:=Qaa (h.below (Qar (Below.refl _ _)))
 obtain ⟨hv,mb,tv,mv,hSI⟩:=h
 have c8:w.cell? ⟨sb,8,none⟩=some (.bool s.disc):=hSI.cell 8
 have hsl:=hSI.lt
 clear hSI
 go_enter Tryz.func68,Tryz.ntmps68
 go_wp2_with fail
 go_region_held3 (fun w'=>w'.cell? ⟨sb,8,none⟩=some (.bool s.disc)) (first | go_keep | exact d8) (first | (go_at_call 140;refine (Qsy B sb M s s.disc w.drew HS.out rfl).mono ?_;rintro e w1 ⟨v,rfl,hv1,hb1⟩;have hb2:=QaS hb1;have d8:w1.cell? ⟨sb,8,none⟩=some (.bool s.disc):=(hb2.cell (p:=⟨sb,8,none⟩) hsl).trans c8;obtain ⟨a5,k5,hv5⟩:=QaN hv1.1;subst hv5;have HV:=Qaa hv1;have HB:=Qaa hb2;clear hv1 hb1 hb2;skip))
 all_goals go_wp2
 all_goals go_ret
 all_goals exact ⟨_,rfl,HV.out,HB.out⟩
theorem Qm5 (p q:Addr) (w:World) :
 CallsD Tryz.prog 62 #[.pointer (some p),.pointer (some q)] .returning w fun e u' w'=>e=.returned (.tuple #[])∧u'=.returning∧w'=w:=by
 refine callsD_of_wpS Tryz.func62 rfl fun c₀ cs hu=>?_
 apply wpS_seq
 apply wpS_region
 simp [wpOpsS,go_sem,recoverD,hu,Tryz.ntmps62,Exit.thenS]
 refine (QiY w).mono ?_
 rintro e w' ⟨rfl,rfl⟩
 apply wpS_seq
 apply wpS_region
 simp [wpOpsS,go_sem,Exit.thenS]
 refine wpS_cond (t:=false) (by simp [Act.eval,Array.replicate]) ?_
 simp only [Bool.false_eq_true,if_false]
 refine wpS_of_wp (wp_skip ?_)
 cases c₀
 simp_all [bodyPostS,results,Tryz.results62]
theorem Qet (P Q:Nat) (x1 x3:Value) (a:Addr) (older:List PanicEntry) (w:World) (hc1:w.cell? ⟨P,0,none⟩=some x1) (hc3:w.cell? ⟨Q,0,none⟩=some x3) (hz1:∀ j,w.frozen? ⟨P,j,none⟩=false) (hz2:∀ j,w.frozen? ⟨Q,j,none⟩=false) (hPQ:P≠Q) :
 CallsD Tryz.prog 62 #[.pointer (some ⟨P,0,none⟩),.pointer (some ⟨Q,0,none⟩)] (.panicking ({ v:=.iface 76 (.pointer (some a)),recovered:=false } :: older)) w fun e u' w'=>
  e=.returned (.tuple #[])∧u'=.panicking ({ v:=.iface 76 (.pointer (some a)),recovered:=true } :: older)∧∃ v w1,ActsV w1 w.heap.size v [(1,[])]∧Below w.heap.size w w1∧w'=(w1.setCell ⟨P,0,none⟩ v).setCell ⟨Q,0,none⟩ (.iface 76 (.pointer (some a))):=by
 refine callsD_of_wpS Tryz.func62 rfl fun c₀ cs hu=>?_
 apply wpS_seq
 apply wpS_region
 simp [wpOpsS,go_sem,recoverD,hu,Tryz.ntmps62,Exit.thenS]
 refine (QgM a w).mono ?_
 rintro e w' ⟨rfl,rfl⟩
 apply wpS_seq
 apply wpS_region
 simp [wpOpsS,go_sem,Exit.thenS]
 refine wpS_cond (t:=true) (by simp [Act.eval,Array.replicate]) ?_
 simp only [if_true]
 apply wpS_region
 simp [wpOpsS,go_sem,Exit.thenS]
 refine (Qn3 _).mono ?_
 rintro e w1 ⟨v,rfl,hv1,hb1⟩
 obtain ⟨a5,k5,hv5⟩:=QaN hv1.1
 subst hv5
 have d1:w1.cell? ⟨P,0,none⟩=some x1:=(hb1.cell (p:=⟨P,0,none⟩) (Qay hc1)).trans hc1
 have d3:w1.cell? ⟨Q,0,none⟩=some x3:=(hb1.cell (p:=⟨Q,0,none⟩) (Qay hc3)).trans hc3
 have z1:∀ j,w1.frozen? ⟨P,j,none⟩=false:=fun j=>(hb1.frozen (p:=⟨P,j,none⟩) (show P < _ from Qay (a:=⟨P,0,none⟩) hc1)).trans (hz1 j)
 have z2:∀ j,w1.frozen? ⟨Q,j,none⟩=false:=fun j=>(hb1.frozen (p:=⟨Q,j,none⟩) (show Q < _ from Qay (a:=⟨Q,0,none⟩) hc3)).trans (hz2 j)
 have hQP:Q≠P:=Ne.symm hPQ
 simp [wpOpsS,go_sem,d1,d3,z1,z2,hPQ,hQP,bodyPostS,results,Tryz.results62]
 exact ⟨_,w1,hv1,hb1,rfl⟩
end
section
open Go.RowKit
attribute [local go_sem ↓] Go.wp_at_zero Go.wp_at_succ
theorem Qt9 (i:Ins) (av bv:Value) (B xb sb:Nat) (M:Msg) (m:MS) (count:Nat) (w:World) (h:MAt w B xb sb M m count) (ho:Qb2 w i av bv) (hw:Qev w (xb+1)) (hop:i.op < 1∨14 < i.op) :
 Calls Tryz.prog 67 #[.pointer (some ⟨xb,0,none⟩),.slice (some ⟨xb+6,0,none⟩) 15 15,Qdk i av bv] w (QaI (.error (12,(m.now:Int))) B xb sb M count w):=by
 obtain ⟨aa,ac,hav⟩:=ho.a.len
 obtain ⟨ba,bc,hbv⟩:=ho.b.len
 subst hav hbv
 obtain ⟨op,n,tag,oct,a,b,at_⟩:=i
 have hnow:=(h.box (.cells #[.int .i64 op,.int .i64 n,.int .i64 tag,.bool oct,.slice aa a.length ac,.slice ba b.length bc,.int .i64 at_] 147)).now
 have hxl:xb < w.heap.size:=Qay h.now
 have c6:w.cell? ⟨xb+6,0,none⟩=some .nilFunc:=Qab hw.tb 0
 have hx6:¬ xb+6=w.heap.size:=by have:=QaM hw.tb;omega
 have hx6l:xb+6 < w.heap.size:=QaM hw.tb
 have hn:=QtY
 dsimp only at hop
 clear h ho hw
 unfold Qdk
 dsimp only
 have FIN:Hid (∀ (e:Ending) (w':World),QdT (12,(m.now:Int)) (w.alloc (.cells #[.int .i64 op,.int .i64 n,.int .i64 tag,.bool oct,.slice aa a.length ac,.slice ba b.length bc,.int .i64 at_] 147)) e w'→Below (w.alloc (.cells #[.int .i64 op,.int .i64 n,.int .i64 tag,.bool oct,.slice aa a.length ac,.slice ba b.length bc,.int .i64 at_] 147)).heap.size (w.alloc (.cells #[.int .i64 op,.int .i64 n,.int .i64 tag,.bool oct,.slice aa a.length ac,.slice ba b.length bc,.int .i64 at_] 147)) w'→QaI (.error (12,(m.now:Int))) B xb sb M count w e w'):=fun e w' h1 h2=>QaI.from (QaI.err rfl (Fr.of_below h2) h1) (QcT _ _)
 rcases (by omega:op < 0∨op=0∨14 < op) with hop | hop | hop
 ·have d1:decide (0≤op)=false:=decide_eq_false (by omega)
  have d1':¬ 0≤op:=by omega
  go_enter Tryz.func67,Tryz.ntmps67
  go_wp2_with (go_at_call 139;refine (Qcm _ _ _ hnow).mono ?_;rintro e w' ⟨⟨bb,hz,rfl,hcc⟩,hb⟩)
  exact ⟨rfl,FIN.out _ _ ⟨bb,hz,rfl,hcc⟩ hb⟩
 ·subst hop
  go_enter Tryz.func67,Tryz.ntmps67
  go_wp2_with (go_at_call 139;refine (Qcm _ _ _ hnow).mono ?_;rintro e w' ⟨⟨bb,hz,rfl,hcc⟩,hb⟩)
  exact ⟨rfl,FIN.out _ _ ⟨bb,hz,rfl,hcc⟩ hb⟩
 ·have d1:decide (0≤op)=true:=decide_eq_true (by omega)
  have d1':0≤op:=by omega
  have d2:decide (op < 15)=false:=decide_eq_false (by omega)
  have d2':¬ op < 15:=by omega
  go_enter Tryz.func67,Tryz.ntmps67
  go_wp2_with (go_at_call 139;refine (Qcm _ _ _ hnow).mono ?_;rintro e w' ⟨⟨bb,hz,rfl,hcc⟩,hb⟩)
  exact ⟨rfl,FIN.out _ _ ⟨bb,hz,rfl,hcc⟩ hb⟩
theorem Qt5 (i:Ins) (av bv:Value) (B xb sb:Nat) (M:Msg) (m:MS) (count:Nat) (w:World) (h:MAt w B xb sb M m count) (ho:Qb2 w i av bv) (hw:Qev w (xb+1)) (ht:Tab w) :
 Calls Tryz.prog 67 #[.pointer (some ⟨xb,0,none⟩),.slice (some ⟨xb+6,0,none⟩) 15 15,Qdk i av bv] w (QaI (stepL M count i m) B xb sb M count w):=by
 by_cases hop:i.op < 1∨14 < i.op
 ·have hr:stepL M count i m=.error (12,(m.now:Int)):=by
   unfold stepL QcN
   rw [if_neg (by omega),if_neg (by omega),if_neg (by omega),if_neg (by omega),if_neg (by omega),if_neg (by omega),if_neg (by omega),if_neg (by omega),if_neg (by omega),if_neg (by omega),if_neg (by omega),if_neg (by omega),if_neg (by omega),if_neg (by omega)]
  rw [hr]
  exact Qt9 i av bv B xb sb M m count w h ho hw hop
 obtain ⟨op,n,tag,oct,a,b,at_⟩:=i
 dsimp only at hop
 obtain ⟨aa,ac,hav⟩:=ho.a.len
 obtain ⟨ba,bc,hbv⟩:=ho.b.len
 subst hav hbv
 rcases (by omega:op=1∨op=2∨op=3∨op=4∨op=5∨op=6∨op=7∨op=8∨op=9∨op=10∨op=11∨op=12∨op=13∨op=14) with rfl | rfl | rfl | rfl | rfl | rfl | rfl | rfl | rfl | rfl | rfl | rfl | rfl | rfl
 ·exact Qjz 1 124 (QfJ ⟨1,n,tag,oct,a,b,at_⟩ m) n tag oct a b at_ aa ba ac bc B xb sb M m count w (fun _ _=>by kernel_rfl) (by decide) (by decide) h hw rfl (QsM ⟨1,n,tag,oct,a,b,at_⟩ _ _ B xb sb M m count _ (h.below (Qal _)) (ho.below (Qal _)) )
 ·exact Qjz 2 125 (QlO m) n tag oct a b at_ aa ba ac bc B xb sb M m count w (fun _ _=>by kernel_rfl) (by decide) (by decide) h hw rfl (Qsc ⟨2,n,tag,oct,a,b,at_⟩ _ _ B xb sb M m count _ (h.below (Qal _)) (ho.below (Qal _)) )
 ·exact Qjz 3 126 (QfT count ⟨3,n,tag,oct,a,b,at_⟩ m) n tag oct a b at_ aa ba ac bc B xb sb M m count w (fun _ _=>by kernel_rfl) (by decide) (by decide) h hw rfl (Qr8 ⟨3,n,tag,oct,a,b,at_⟩ _ _ B xb sb M m count _ (h.below (Qal _)) (ho.below (Qal _)) )
 ·exact Qp6 4 181 (xb+1) (doCond true count ⟨4,n,tag,oct,a,b,at_⟩ m) n tag oct a b at_ aa ba ac bc B xb sb M m count w (fun _ _=>by kernel_rfl) (by decide) (by decide) h hw rfl (Qi4 true (xb+1) ⟨4,n,tag,oct,a,b,at_⟩ _ _ B xb sb M m count _ (h.below (Qal _)) (ho.below (Qal _)) (hw.below (Qal _)).p0 (by omega))
 ·exact Qp6 5 181 (xb+1+1) (doCond false count ⟨5,n,tag,oct,a,b,at_⟩ m) n tag oct a b at_ aa ba ac bc B xb sb M m count w (fun _ _=>by kernel_rfl) (by decide) (by decide) h hw rfl (Qi4 false (xb+1+1) ⟨5,n,tag,oct,a,b,at_⟩ _ _ B xb sb M m count _ (h.below (Qal _)) (ho.below (Qal _)) (hw.below (Qal _)).p1 (by omega))
 ·exact Qp6 6 182 (xb+1+2) (doAsk (fieldsL M (a.map (expL m.st))) ⟨6,n,tag,oct,a,b,at_⟩ m) n tag oct a b at_ aa ba ac bc B xb sb M m count w (fun _ _=>by kernel_rfl) (by decide) (by decide) h hw rfl (QpJ (xb+1+2) ⟨6,n,tag,oct,a,b,at_⟩ _ _ B xb sb M m count _ (h.below (Qal _)) (ho.below (Qal _)) (hw.below (Qal _)).p2)
 ·exact Qp6 7 182 (xb+1+3) (doAsk (QhE M a) ⟨7,n,tag,oct,a,b,at_⟩ m) n tag oct a b at_ aa ba ac bc B xb sb M m count w (fun _ _=>by kernel_rfl) (by decide) (by decide) h hw rfl (QlK (xb+1+3) ⟨7,n,tag,oct,a,b,at_⟩ _ _ B xb sb M m count _ (h.below (Qal _)) (ho.below (Qal _)) (hw.below (Qal _)).p3)
 ·exact Qp6 8 182 (xb+1+4) (doAsk (a.map (expL m.st)) ⟨8,n,tag,oct,a,b,at_⟩ m) n tag oct a b at_ aa ba ac bc B xb sb M m count w (fun _ _=>by kernel_rfl) (by decide) (by decide) h hw rfl (Qnh (xb+1+4) ⟨8,n,tag,oct,a,b,at_⟩ _ _ B xb sb M m count _ (h.below (Qal _)) (ho.below (Qal _)) (hw.below (Qal _)).p4)
 ·exact Qjz 9 132 (Qkv (existsL M (a.map (expL m.st))) m) n tag oct a b at_ aa ba ac bc B xb sb M m count w (fun _ _=>by kernel_rfl) (by decide) (by decide) h hw rfl (Qpm ⟨9,n,tag,oct,a,b,at_⟩ _ _ B xb sb M m count _ (h.below (Qal _)) (ho.below (Qal _)) )
 ·exact Qjz 10 133 (QfK M ⟨10,n,tag,oct,a,b,at_⟩ m) n tag oct a b at_ aa ba ac bc B xb sb M m count w (fun _ _=>by kernel_rfl) (by decide) (by decide) h hw rfl (Qsv ⟨10,n,tag,oct,a,b,at_⟩ _ _ B xb sb M m count _ (h.below (Qal _)) (ho.below (Qal _)) )
 ·exact Qjz 11 134 (Qfx ⟨11,n,tag,oct,a,b,at_⟩ m) n tag oct a b at_ aa ba ac bc B xb sb M m count w (fun _ _=>by kernel_rfl) (by decide) (by decide) h hw rfl (Qtf ⟨11,n,tag,oct,a,b,at_⟩ _ _ B xb sb M m count _ (h.below (Qal _)) (ho.below (Qal _)) )
 ·exact Qjz 12 135 (Qki ⟨12,n,tag,oct,a,b,at_⟩ m) n tag oct a b at_ aa ba ac bc B xb sb M m count w (fun _ _=>by kernel_rfl) (by decide) (by decide) h hw rfl (Qtn ⟨12,n,tag,oct,a,b,at_⟩ _ _ B xb sb M m count _ (h.below (Qal _)) (ho.below (Qal _)) (ht.below (Qal _)))
 ·exact Qjz 13 136 (.ok (stL m (Qr4 m.st))) n tag oct a b at_ aa ba ac bc B xb sb M m count w (fun _ _=>by kernel_rfl) (by decide) (by decide) h hw rfl (Qm9 ⟨13,n,tag,oct,a,b,at_⟩ _ _ B xb sb M m count _ (h.below (Qal _)) (ho.below (Qal _)) )
 ·exact Qjz 14 138 (.ok (goL m count)) n tag oct a b at_ aa ba ac bc B xb sb M m count w (fun _ _=>by kernel_rfl) (by decide) (by decide) h hw rfl (Qr0 ⟨14,n,tag,oct,a,b,at_⟩ _ _ B xb sb M m count _ (h.below (Qal _)) (ho.below (Qal _)) )
end
section
open Go.RowKit
attribute [local go_sem ↓] Go.wp_at_zero Go.wp_at_succ
def Qua (w:World) (cs:Array Value) (j:Nat) (i:Ins):Prop:=
 ∃ av bv,cs[j*7]?=some (.int .i64 i.op)∧cs[j*7+1]?=some (.int .i64 i.n)∧cs[j*7+2]?=some (.int .i64 i.tag)∧cs[j*7+3]?=some (.bool i.oct)∧cs[j*7+4]?=some av∧cs[j*7+5]?=some bv∧cs[j*7+6]?=some (.int .i64 i.at_)∧Qb2 w i av bv
def QeB (w:World) (cv:Value) (code:List Ins):Prop:=
 (cv=.slice none 0 0∧code=[])∨∃ g c cs,cv=.slice (some ⟨g,0,none⟩) code.length c∧w.heap[g]?=some (.cells cs 147)∧∀ j (hj:j < code.length),Qua w cs j code[j]
theorem QeB.fr {P:Nat→Obj→Prop} {w w':World} {cv:Value} {code:List Ins} (h:QeB w cv code) (hf:Fr P w w') (h1:∀ k cs,¬ P k (.cells cs 147)) (h2:∀ k cs,¬ P k (.cells cs 9)):QeB w' cv code:=by
 rcases h with h | ⟨g,c,cs,hv,hb,hc⟩
 ·exact Or.inl h
 ·refine Or.inr ⟨g,c,cs,hv,hf.block _ _ hb (h1 _ _),fun j hj=>?_⟩
  obtain ⟨av,bv,a1,a2,a3,a4,a5,a6,a7,ho⟩:=hc j hj
  exact ⟨av,bv,a1,a2,a3,a4,a5,a6,a7,ho.fr hf h2⟩
theorem QeB.pm {B xb:Nat} {w w':World} {cv:Value} {code:List Ins} (h:QeB w cv code) (hf:Fr (PMc B xb) w w'):QeB w' cv code:=h.fr hf (fun _ _=>PMc.not (by decide) (by decide) (by decide) (by decide)) (fun _ _=>PMc.not (by decide) (by decide) (by decide) (by decide))
theorem QeB.below {w w':World} {cv:Value} {code:List Ins} (h:QeB w cv code) (hb:Below w.heap.size w w'):QeB w' cv code:=h.fr (P:=fun _ _=>False) (Fr.of_below hb) (fun _ _ h=>h) (fun _ _ h=>h)
theorem QeB.len {w:World} {cv:Value} {code:List Ins} (h:QeB w cv code):∃ a c,cv=.slice a code.length c:=by
 rcases h with ⟨h,rfl⟩ | ⟨g,c,cs,h,_⟩
 ·exact ⟨none,0,h⟩
 ·exact ⟨_,_,h⟩
theorem QeB.get' {w:World} {la:Option Addr} {n lc:Nat} {code:List Ins} (h:QeB w (.slice la n lc) code) (j:Nat) (hj:j < code.length):∃ g cs,la=some ⟨g,0,none⟩∧w.heap[g]?=some (.cells cs 147)∧Qua w cs j code[j]:=by
 rcases h with ⟨_,rfl⟩ | ⟨g,c,cs,hv,hb,hc⟩
 ·exact absurd hj (Nat.not_lt_zero _)
 ·injection hv with h1 h2 h3
  exact ⟨g,cs,h1,hb,hc j hj⟩
def Qo0 (r:List (Int×List UInt8)×Nat×Option FZ) (w:World) (e:Ending) (w':World):Prop:=
 Below w.heap.size w w'∧((∃ lv,r.2.2=none∧e=.returned (.tuple #[lv,.int .i64 (r.2.1:Int),.nilIface])∧ActsV w' w.heap.size lv r.1)∨
  (∃ lv f bb,r.2.2=some f∧e=.returned (.tuple #[lv,.int .i64 (r.2.1:Int),.iface 76 (.pointer (some ⟨bb,0,none⟩))])∧ActsV w' w.heap.size lv r.1∧w.heap.size≤bb∧w'.heap[bb]?=some (.cells #[.int .i64 f.1,.int .i64 f.2] 81)))
theorem ActsV.set {w:World} {B:Nat} {v:Value} {l:List (Int×List UInt8)} (h:ActsV w B v l) {b:Nat} (hb:b < B) (j:Nat) (x:Value):ActsV (w.setCell ⟨b,j,none⟩ x) B v l:=
 ⟨Qbt h.1 (fun e=>by have:=(h.1.lt _ e).1;omega) j x,h.2⟩
theorem ActsV.lo {w:World} {B B':Nat} {v:Value} {l:List (Int×List UInt8)} (h:ActsV w B v l) (hb:B'≤B):ActsV w B' v l:=⟨Qig h.1 hb,h.2⟩
theorem Qjo {w V w1:World} {lv:Value} {f:FZ} {bb P:Nat} {l:List (Int×List UInt8)} (hVB:Below w.heap.size w V) (hP:w.heap.size≤P) (hPV:P+1 < V.heap.size) (hv1:ActsV w1 V.heap.size lv l) (hb1:Below V.heap.size V w1) (hbb:w.heap.size≤bb) (hbP:bb≠P) (hbQ:bb≠P+1) (hF:V.heap[bb]?=some (.cells #[.int .i64 f.1,.int .i64 f.2] 81)) (x0 x1:Value) (c0:V.cell? ⟨P,0,none⟩=some x0) (c1:V.cell? ⟨P+1,0,none⟩=some x1) :
 ∃ W,W=(w1.setCell ⟨P,0,none⟩ lv).setCell ⟨P+1,0,none⟩ (.iface 76 (.pointer (some ⟨bb,0,none⟩)))∧W.cell? ⟨P,0,none⟩=some lv∧W.cell? ⟨P+1,0,none⟩=some (.iface 76 (.pointer (some ⟨bb,0,none⟩)))∧Below w.heap.size w W∧ActsV W w.heap.size lv l∧W.heap[bb]?=some (.cells #[.int .i64 f.1,.int .i64 f.2] 81):=by
 have hz:=hVB.size
 have d0:w1.cell? ⟨P,0,none⟩=some x0:=(hb1.cell (p:=⟨P,0,none⟩) (show P < _ by omega)).trans c0
 have d1:w1.cell? ⟨P+1,0,none⟩=some x1:=(hb1.cell (p:=⟨P+1,0,none⟩) hPV).trans c1
 have hB1:Below w.heap.size w w1:=hVB.trans (hb1.mono hz)
 refine ⟨_,rfl,?_,?_,(hB1.setCell hP _).setCell (show w.heap.size≤P+1 by omega) _,((hv1.set (by omega) _ _).set hPV _ _).lo hz,?_⟩
 ·rw [World.cell?_setCell_other _ _ _ _ (by simp),World.cell?_setCell_same _ _ _ d0]
 ·have d1':(w1.setCell ⟨P,0,none⟩ lv).cell? ⟨P+1,0,none⟩=some x1:=by rw [World.cell?_setCell_other _ _ _ _ (by simp)];exact d1
  exact World.cell?_setCell_same _ _ _ d1'
 ·rw [Below.heap_setCell _ _ _ _ hbQ,Below.heap_setCell _ _ _ _ hbP,hb1.block bb (QaM hF)]
  exact hF
theorem QpO {v:Bool} {code:List Ins} {M:Msg} (h:400 < code.length):execL v code M=([(1,[])],0,some (12,400)):=by unfold execL;rw [if_pos h]
theorem Qsq {v:Bool} {code:List Ins} {M:Msg} {m:MS} {d:Nat} (h:¬ 400 < code.length) (hl:loopL M code code.length (ms0 v) 0=(.ok m,d)):execL v code M=(Qul m.st,d,none):=by unfold execL;rw [if_neg h,hl]
theorem Qqk {v:Bool} {code:List Ins} {M:Msg} {f:FZ} {d:Nat} (h:¬ 400 < code.length) (hl:loopL M code code.length (ms0 v) 0=(.error f,d)):execL v code M=([(1,[])],d,some f):=by unfold execL;rw [if_neg h,hl]
theorem Qry (v:Bool) (cv hv:Value) (code:List Ins) (M:Msg) (w:World) (hc:QeB w cv code) (hh:Qik w hv M.hdrs) (hb:SBd M (ss0 v)) (h1:1 < w.heap.size) (hm:∃ m,w.cell? ⟨1,0,none⟩=some (.int .i64 m)) (ht:Tab w) (hn:code.length≤1000000) (hlong:400 < code.length) :
 Calls Tryz.prog 39 #[.bool v,cv,Qhe M hv] w (Qo0 (execL v code M) w):=by
 have hmf:∀ (fn:Fn) (first cap:Array Value) (w:World),(Instr.makeFunc fn first cap).run Tryz.prog w=.ok (.func fn first cap) w:=fun _ _ _ _=>rfl
 obtain ⟨ca,cc,hcv⟩:=hc.len
 subst hcv
 obtain ⟨ha,hac,hhv⟩:=hh.len
 subst hhv
 unfold Qhe
 have hlong':(400:Int) < (code.length:Int):=by omega
 have HR:=Qaa (QpO (v:=v) (M:=M) hlong)
 clear hc hh hb ht hm
 go_enter_defers Tryz.func39,Tryz.ntmps39
 go_wp2_with (go_at_call 64;refine (Qau _ _ _).mono ?_;rintro e w3 ⟨rfl,rfl⟩)
 obtain ⟨V,hV⟩:∃ V,V=(((w.alloc (.cells #[.string (Qag M.fr),.string (Qag M.to),.int .i64 M.size,.slice ha M.hdrs.length hac] 28)).alloc (.cells #[.slice none 0 0] 29)).alloc (.cells #[.nilIface] 61)).alloc (.cells #[.int .i64 12,.int .i64 400] 81):=⟨_,rfl⟩
 have hzV:V.heap.size=w.heap.size+4:=by rw [hV];simp
 have hP:V.heap[w.heap.size+1]?=some (.cells #[.slice none 0 0] 29):=by rw [hV];exact Qad (Qad (Qaw (by simp)))
 have hQ:V.heap[w.heap.size+1+1]?=some (.cells #[.nilIface] 61):=by rw [hV];exact Qad (Qaw (by simp))
 have hF:V.heap[w.heap.size+1+1+1]?=some (.cells #[.int .i64 12,.int .i64 400] 81):=by rw [hV];exact Qaw (by simp)
 have hVB:Below w.heap.size w V:=by rw [hV];exact ((((Below.refl _ _).alloc (Nat.le_refl _) _).alloc (by simp) _).alloc (by simp;omega) _).alloc (by simp;omega) _
 rw [← hV]
 clear hV
 have c0:V.cell? ⟨w.heap.size+1,0,none⟩=some (.slice none 0 0):=Qab hP 0
 have c2:V.cell? ⟨w.heap.size+1+1,0,none⟩=some .nilIface:=Qab hQ 0
 have z1:=Qam hP
 have z2:=Qam hQ
 refine leaves_cons (f:=62) (args:=#[.pointer (some ⟨w.heap.size+1,0,none⟩),.pointer (some ⟨w.heap.size+1+1,0,none⟩)]) (by simp) (by simp [go_sem]) ?_
 refine (Qet (w.heap.size+1) (w.heap.size+1+1) _ _ ⟨w.heap.size+1+1+1,0,none⟩ [] _ c0 c2 z1 z2 (by omega)).mono ?_
 rintro e u' w'' ⟨rfl,rfl,lv,w1,hv1,hb1,rfl⟩
 obtain ⟨W,hW,e0,e1,hB,hA,hFF⟩:=Qjo (f:=(12,400)) (bb:=w.heap.size+1+1+1) (P:=w.heap.size+1) hVB (by omega) (by omega) hv1 hb1 (by omega) (by omega) (by omega) hF _ _ c0 c2
 rw [← hW]
 have HFIN:Hid (Qo0 (execL v code M) w (.returned (.tuple #[lv,.int .i64 0,.iface 76 (.pointer (some ⟨w.heap.size+1+1+1,0,none⟩))])) W):=by
  rw [HR.out]
  exact ⟨hB,Or.inr ⟨lv,(12,400),_,rfl,rfl,hA,by omega,hFF⟩⟩
 obtain ⟨la,lk,hlv⟩:=QaN hA.1
 subst hlv
 simp [Leaves,settle,results,Tryz.results39,go_sem,e0,e1]
 exact HFIN.out
end
end Go.Proofs.YtbiclelojbfnbabGreatDoor
