import Derived.Defers
import Derived.Recover
import Derived.Test.YtbiclelojbfnbaaGreatDoorZReaderD
import Derived.Test.YtbiclelojbfnbaaGreatDoorZTold4
namespace Go.Proofs.YtbiclelojbfnbaaGreatDoor
set_option linter.unusedVariables false
set_option linter.unusedSimpArgs false
set_option maxRecDepth 100000
set_option maxHeartbeats 4000000
section
open Go.RowKit
theorem Qh7 (W:World) (v:Value) (xT:TypeId):(Instr.typeAssert (.iface 140 v) xT 140 true).run Tryz.prog W=.ok (.tuple #[v,.bool true]) W:=by kernel_rfl
theorem Qj3 (w:World):Calls Tryz.prog 103 #[.nilIface] w fun e w'=>e=.returned (.pointer none)∧w'=w:=by
 go_enter Tryz.func103,Tryz.ntmps103
 go_wp2
 go_ret
 exact ⟨rfl,rfl⟩
theorem Qhr (a:Addr) (w:World):Calls Tryz.prog 103 #[.iface 140 (.pointer (some a))] w fun e w'=>e=.returned (.pointer (some a))∧w'=w:=by
 go_enter Tryz.func103,Tryz.ntmps103
 have hta:=Qh7 w (.pointer (some a))
 go_wp2
 go_ret
 exact ⟨rfl,rfl⟩
theorem Qp4 (p q:Addr) (w:World) :
 CallsD Tryz.prog 102 #[.pointer (some p),.pointer (some q)] .returning w fun e u' w'=>e=.returned (.tuple #[])∧u'=.returning∧w'=w:=by
 refine callsD_of_wpS Tryz.func102 rfl fun c₀ cs hu=>?_
 apply wpS_seq
 apply wpS_region
 simp [wpOpsS,go_sem,recoverD,hu,Tryz.ntmps102,Exit.thenS]
 refine (Qj3 w).mono ?_
 rintro e w' ⟨rfl,rfl⟩
 apply wpS_seq
 apply wpS_region
 simp [wpOpsS,go_sem,Exit.thenS]
 refine wpS_cond (t:=false) (by simp [Act.eval,Array.replicate]) ?_
 simp only [Bool.false_eq_true,if_false]
 refine wpS_of_wp (wp_skip ?_)
 cases c₀
 simp_all [bodyPostS,results,Tryz.results102]
theorem Qh9 (P Q:Nat) (x1 x2 x3:Value) (a:Addr) (older:List PanicEntry) (w:World) (hc1:w.cell? ⟨P,0,none⟩=some x1) (hc2:w.cell? ⟨P,1,none⟩=some x2) (hc3:w.cell? ⟨Q,0,none⟩=some x3) (hz1:∀ j,w.frozen? ⟨P,j,none⟩=false) (hz2:∀ j,w.frozen? ⟨Q,j,none⟩=false) (hPQ:P≠Q) :
 CallsD Tryz.prog 102 #[.pointer (some ⟨P,0,none⟩),.pointer (some ⟨Q,0,none⟩)] (.panicking ({ v:=.iface 140 (.pointer (some a)),recovered:=false } :: older)) w fun e u' w'=>
  e=.returned (.tuple #[])∧u'=.panicking ({ v:=.iface 140 (.pointer (some a)),recovered:=true } :: older)∧w'=((w.setCell ⟨P,0,none⟩ (.slice none 0 0)).setCell ⟨P,1,none⟩ (.slice none 0 0)).setCell ⟨Q,0,none⟩ (.iface 140 (.pointer (some a))):=by
 refine callsD_of_wpS Tryz.func102 rfl fun c₀ cs hu=>?_
 apply wpS_seq
 apply wpS_region
 simp [wpOpsS,go_sem,recoverD,hu,Tryz.ntmps102,Exit.thenS]
 refine (Qhr a w).mono ?_
 rintro e w' ⟨rfl,rfl⟩
 apply wpS_seq
 apply wpS_region
 simp [wpOpsS,go_sem,Exit.thenS]
 refine wpS_cond (t:=true) (by simp [Act.eval,Array.replicate]) ?_
 simp only [if_true]
 apply wpS_region
 simp [wpOpsS,go_sem,hc1,hc2,hc3,hz1,hz2,bodyPostS,results,Tryz.results102]
end
section
open Go.RowKit
attribute [local go_sem ↓] Go.wp_at_zero Go.wp_at_succ
def Qun (r:Except Flt (List (List UInt8)×List (Qcd 7))) (w:World) (e:Ending) (w':World):Prop:=
 Below w.heap.size w w'∧((∃ y tv,r=.ok y∧e=.returned (.tuple #[tv,.nilIface])∧Qvb (fromB w.heap.size) y w' tv)∨(∃ f bb,r=.error f∧e=.returned (.tuple #[.agg #[.slice none 0 0,.slice none 0 0],.iface 140 (.pointer (some ⟨bb,0,none⟩))])∧w.heap.size≤bb∧w'.heap[bb]?=some (.cells #[.int .i64 f.err,.int .i64 f.pos] 145)))
theorem QnW (t:ByteArray) (w:World) (ht:t.size≤600) (hm1:∃ m,w.cell? ⟨1,0,none⟩=some (.int .i64 m)) :
 Calls Tryz.prog 74 #[.string t] w (Qun (parseL t.data.toList) w):=by
 have hmf:∀ (fn:Fn) (first cap:Array Value) (w:World),(Instr.makeFunc fn first cap).run Tryz.prog w=.ok (.func fn first cap) w:=fun _ _ _ _=>rfl
 have ht':¬ (600:Int) < (t.size:Int):=by omega
 go_enter_defers Tryz.func74,Tryz.ntmps74
 go_wp2_with fail
 obtain ⟨V,hV⟩:∃ V,V=(w.alloc (.cells #[.slice none 0 0,.slice none 0 0] 97)).alloc (.cells #[.nilIface] 90):=⟨_,rfl⟩
 have hzV:V.heap.size=w.heap.size+1+1:=by rw [hV];simp
 have hVP:V.heap[w.heap.size]?=some (.cells #[.slice none 0 0,.slice none 0 0] 97):=by rw [hV];exact Qac (Qay _ _)
 have hVQ:V.heap[w.heap.size+1]?=some (.cells #[.nilIface] 90):=by rw [hV];exact QaD (by simp)
 have hVB:Below w.heap.size w V:=by rw [hV];exact ((Below.refl _ _).alloc (Nat.le_refl _) _).alloc (by simp) _
 have hV1:∃ m,V.cell? ⟨1,0,none⟩=some (.int .i64 m):=by
  obtain ⟨m,hm⟩:=hm1
  exact ⟨m,by rw [hVB.cell (p:=⟨1,0,none⟩) (Qax hm)];exact hm⟩
 rw [← hV]
 clear hV
 refine (Qkk t V ht hV1).mono ?_
 rintro e w1 ⟨mc,mt,pr,pt,pf,p1,k1,p2,k2,p3,k3,rfl,hrc,htm,hcm,hbl⟩
 rw [hzV] at hrc htm hcm hbl
 have HVB:=Qab hVB
 have HRC:=Qab hrc
 have HTM:=Qab htm
 have HCM:=Qab hcm
 have hP1:w1.heap[w.heap.size]?=some (.cells #[.slice none 0 0,.slice none 0 0] 97):=by rw [hbl.block _ (by omega)];exact hVP
 have hQ1:w1.heap[w.heap.size+1]?=some (.cells #[.nilIface] 90):=by rw [hbl.block _ (by omega)];exact hVQ
 have HBL:=Qab hbl
 have HP1:=Qab hP1
 have HQ1:=Qab hQ1
 have hz1:=hbl.size
 clear hVB hVP hVQ hV1 hm1 hrc htm hcm hbl hP1 hQ1
 go_wp2_with fail
 refine (QpR (w.heap.size+1+1) t mc mt pr pt pf p1 k1 p2 k2 p3 k3 w1 HRC.out HTM.out HCM.out).mono ?_
 rintro e w2 ⟨hm2,⟨y,v,hy,rfl,hv⟩ | ⟨f,hf,⟨bb,hz,rfl,hcc⟩⟩⟩
 ·obtain ⟨rv,lv,rfl,hrq,hbl⟩:=hv
  have HRQ:=Qab hrq
  have HBX:=Qab hbl
  obtain ⟨ra,rn,rc,rfl⟩:=hrq.form
  obtain ⟨la,ln,lc,rfl⟩:=hbl.form
  have hP2:=QaS HP1.out hm2 (by omega)
  have hQ2:=QaS HQ1.out hm2 (by omega)
  have c0:w2.cell? ⟨w.heap.size,0,none⟩=some (.slice none 0 0):=Qaa hP2 0
  have c1:w2.cell? ⟨w.heap.size,1,none⟩=some (.slice none 0 0):=Qaa hP2 1
  have c2:w2.cell? ⟨w.heap.size+1,0,none⟩=some .nilIface:=Qaa hQ2 0
  have z1:=Qap hP2
  have z2:=Qap hQ2
  have HM2:=Qab hm2
  have HY:=Qab hy
  clear hm2 hy hrq hbl hP2 hQ2
  go_wp2
  have hB2:Below w.heap.size w w2:=⟨HM2.out.os.trans (HBL.out.os.trans HVB.out.os),HM2.out.tape.trans (HBL.out.tape.trans HVB.out.tape),HM2.out.output.trans (HBL.out.output.trans HVB.out.output),Nat.le_trans HVB.out.size (Nat.le_trans HBL.out.size HM2.out.size),fun k hk=>by rw [HM2.out.block k (by omega) (by omega),HBL.out.block k (by omega),HVB.out.block k hk]⟩
  have hq0:¬ fromB w1.heap.size w.heap.size:=by unfold fromB;omega
  have hq1:¬ fromB w1.heap.size (w.heap.size+1):=by unfold fromB;omega
  have HFIN:Hid (Qun (parseL t.data.toList) w (.returned (.tuple #[.agg #[.slice ra rn rc,.slice la ln lc],.nilIface])) (((w2.setCell ⟨w.heap.size,0,none⟩ (.slice ra rn rc)).setCell ⟨w.heap.size,1,none⟩ (.slice la ln lc)).setCell ⟨w.heap.size+1,0,none⟩ .nilIface)):=⟨((hB2.setCell (Nat.le_refl _) _).setCell (Nat.le_refl _) _).setCell (by show w.heap.size≤w.heap.size+1;omega) _,Or.inl ⟨y,_,HY.out,rfl,⟨_,_,rfl,(((HRQ.out.keep (AbvX.set hq0 _ _)).keep (AbvX.set hq0 _ _)).keep (AbvX.set hq1 _ _)).weak (fun k hk _=>by unfold fromB at *;omega),blX.weak (QaY 7) (((HBX.out.keep (QaY 7) (AbvX.set hq0 _ _)).keep (QaY 7) (AbvX.set hq0 _ _)).keep (QaY 7) (AbvX.set hq1 _ _)) (fun k hk _=>by unfold fromB at *;omega)⟩⟩⟩
  refine leaves_cons (f:=102) (args:=#[.pointer (some ⟨w.heap.size,0,none⟩),.pointer (some ⟨w.heap.size+1,0,none⟩)]) (by simp) (by simp [go_sem]) ?_
  refine (Qp4 ⟨w.heap.size,0,none⟩ ⟨w.heap.size+1,0,none⟩ _).mono ?_
  rintro e u' w'' ⟨rfl,rfl,rfl⟩
  simp [Leaves,settle,results,Tryz.results74,go_sem,c0,c1,c2]
  exact HFIN.out
 ·have hP2:=QaS HP1.out hm2 (by omega)
  have hQ2:=QaS HQ1.out hm2 (by omega)
  have c0:w2.cell? ⟨w.heap.size,0,none⟩=some (.slice none 0 0):=Qaa hP2 0
  have c1:w2.cell? ⟨w.heap.size,1,none⟩=some (.slice none 0 0):=Qaa hP2 1
  have c2:w2.cell? ⟨w.heap.size+1,0,none⟩=some .nilIface:=Qaa hQ2 0
  have z1:=Qap hP2
  have z2:=Qap hQ2
  have hB2:Below w.heap.size w w2:=⟨hm2.os.trans (HBL.out.os.trans HVB.out.os),hm2.tape.trans (HBL.out.tape.trans HVB.out.tape),hm2.output.trans (HBL.out.output.trans HVB.out.output),Nat.le_trans HVB.out.size (Nat.le_trans HBL.out.size hm2.size),fun k hk=>by rw [hm2.block k (by omega) (by omega),HBL.out.block k (by omega),HVB.out.block k hk]⟩
  have HFIN:Hid (Qun (parseL t.data.toList) w (.returned (.tuple #[.agg #[.slice none 0 0,.slice none 0 0],.iface 140 (.pointer (some ⟨bb,0,none⟩))])) (((w2.setCell ⟨w.heap.size,0,none⟩ (.slice none 0 0)).setCell ⟨w.heap.size,1,none⟩ (.slice none 0 0)).setCell ⟨w.heap.size+1,0,none⟩ (.iface 140 (.pointer (some ⟨bb,0,none⟩))))):=⟨((hB2.setCell (Nat.le_refl _) _).setCell (Nat.le_refl _) _).setCell (by show w.heap.size≤w.heap.size+1;omega) _,Or.inr ⟨f,bb,hf,rfl,by omega,by
   rw [Below.heap_setCell _ _ _ _ (show bb≠w.heap.size+1 by omega),Below.heap_setCell _ _ _ _ (show bb≠w.heap.size by omega),Below.heap_setCell _ _ _ _ (show bb≠w.heap.size by omega)]
   exact hcc⟩⟩
  refine leaves_cons (f:=102) (args:=#[.pointer (some ⟨w.heap.size,0,none⟩),.pointer (some ⟨w.heap.size+1,0,none⟩)]) (by simp) (by simp [go_sem]) ?_
  refine (Qh9 w.heap.size (w.heap.size+1) _ _ _ ⟨bb,0,none⟩ [] _ c0 c1 c2 z1 z2 (by omega)).mono ?_
  rintro e u' w'' ⟨rfl,rfl,rfl⟩
  simp [Leaves,settle,results,Tryz.results74,go_sem,c0,c1,c2]
  exact HFIN.out
end
section
open Go.RowKit
attribute [local go_sem ↓] Go.wp_at_zero Go.wp_at_succ
theorem QqV (t:ByteArray) (w:World) (ht:600 < t.size) :
 Calls Tryz.prog 74 #[.string t] w fun e w'=>e=.returned (.tuple #[.agg #[.slice none 0 0,.slice none 0 0],.iface 39 (.int .i64 1)])∧Below w.heap.size w w':=by
 have hmf:∀ (fn:Fn) (first cap:Array Value) (w:World),(Instr.makeFunc fn first cap).run Tryz.prog w=.ok (.func fn first cap) w:=fun _ _ _ _=>rfl
 have ht':(600:Int) < (t.size:Int):=by omega
 go_enter_defers Tryz.func74,Tryz.ntmps74
 go_wp2
 have hB:Below w.heap.size w ((w.alloc (.cells #[.slice none 0 0,.slice none 0 0] 97)).alloc (.cells #[.iface 39 (.int .i64 1)] 90)):=((Below.refl _ _).alloc (Nat.le_refl _) _).alloc (by simp) _
 have HB:=Qab hB
 clear hB
 simp [bodyPostD,Leaves,settle,results,Tryz.results74,go_sem]
 exact HB.out
def Qvj (r:Except Flt (List (List UInt8)×List (Qcd 7))) (w:World) (e:Ending) (w':World):Prop:=
 Below w.heap.size w w'∧((∃ y g rv lv,r=.ok y∧e=.returned (.tuple #[.pointer (some ⟨g,0,none⟩),.nilIface])∧w.heap.size≤g∧w'.heap[g]?=some (.cells #[rv,lv] 139)∧QjJ (fromB w.heap.size) y.1 w' rv∧blX (fromB w.heap.size) (Qg0 7) y.2 w' lv)∨(∃ f bb,r=.error f∧e=.returned (.tuple #[.pointer none,.iface 140 (.pointer (some ⟨bb,0,none⟩))])∧w.heap.size≤bb∧w'.heap[bb]?=some (.cells #[.int .i64 f.err,.int .i64 f.pos] 145)))
theorem QlG (t:ByteArray) (w:World) (ht:t.size≤600) (hm1:∃ m,w.cell? ⟨1,0,none⟩=some (.int .i64 m)) :
 Calls Tryz.prog 43 #[.string t] w (Qvj (parseL t.data.toList) w):=by
 go_enter Tryz.func43,Tryz.ntmps43
 go_wp2_with fail
 refine (QnW t w ht hm1).mono ?_
 rintro e w1 ⟨hbl,⟨y,tv,hy,rfl,hv⟩ | ⟨f,bb,hf,rfl,hz,hcc⟩⟩
 ·obtain ⟨rv,lv,rfl,hrq,hbx⟩:=hv
  have HB:=Qab hbl
  have HY:=Qab hy
  have HRQ:=Qab hrq
  have HBX:=Qab hbx
  obtain ⟨ra,rn,rc,rfl⟩:=hrq.form
  obtain ⟨la,ln,lc,rfl⟩:=hbx.form
  have hz:=hbl.size
  clear hbl hy hrq hbx
  go_wp2
  refine bodyPost_ret (v:=.tuple #[.pointer (some ⟨w1.heap.size+1,0,none⟩),.nilIface]) (by simp [results,Tryz.results43,go_sem]) rfl ?_
  have hal:∀ X,AbvX X w1 ((w1.alloc (.cells #[.slice ra rn rc,.slice la ln lc] 97)).alloc (.cells #[.slice ra rn rc,.slice la ln lc] 139)):=fun X k _ hk=>by
   rw [Below.heap_alloc _ _ _ (by simp;omega),Below.heap_alloc _ _ _ hk]
  exact ⟨(HB.out.alloc hz _).alloc (by simp;omega) _,Or.inl ⟨y,_,_,_,HY.out,rfl,by omega,QaD (by simp),HRQ.out.keep (hal _),HBX.out.keep (QaY 7) (hal _)⟩⟩
 ·have HB:=Qab hbl
  have HF:=Qab hf
  have HC:=Qab hcc
  have hz2:=hbl.size
  clear hbl hf hcc
  go_wp2
  refine bodyPost_ret (v:=.tuple #[.pointer none,.iface 140 (.pointer (some ⟨bb,0,none⟩))]) (by simp [results,Tryz.results43,go_sem]) rfl ?_
  exact ⟨HB.out.alloc hz2 _,Or.inr ⟨f,bb,HF.out,rfl,hz,Qac HC.out⟩⟩
end
section
open Go.RowKit
attribute [local go_sem ↓] Go.wp_at_zero Go.wp_at_succ
theorem Qnn (t:ByteArray) (w:World) (ht:600 < t.size) :
 Calls Tryz.prog 43 #[.string t] w fun e w'=>e=.returned (.tuple #[.pointer none,.iface 39 (.int .i64 1)])∧Below w.heap.size w w':=by
 go_enter Tryz.func43,Tryz.ntmps43
 go_wp2_with fail
 refine (QqV t w ht).mono ?_
 rintro e w1 ⟨rfl,hbl⟩
 have HB:=Qab hbl
 have hz2:=hbl.size
 clear hbl
 go_wp2
 refine bodyPost_ret (v:=.tuple #[.pointer none,.iface 39 (.int .i64 1)]) (by simp [results,Tryz.results43,go_sem]) rfl ?_
 exact ⟨rfl,HB.out.alloc hz2 _⟩
def PP (t:ByteArray) (w:World) (e:Ending) (w':World):Prop:=
 Below w.heap.size w w'∧((600 < t.size∧e=.returned (.tuple #[.pointer none,.int .i64 1,.int .i64 (-1)]))∨
  (t.size≤600∧∃ y g rv lv,parseL t.data.toList=.ok y∧e=.returned (.tuple #[.pointer (some ⟨g,0,none⟩),.int .i64 0,.int .i64 (-1)])∧w.heap.size≤g∧w'.heap[g]?=some (.cells #[rv,lv] 139)∧QjJ (fromB w.heap.size) y.1 w' rv∧blX (fromB w.heap.size) (Qg0 7) y.2 w' lv)∨
  (t.size≤600∧∃ f,parseL t.data.toList=.error f∧e=.returned (.tuple #[.pointer none,.int .i64 f.err,.int .i64 f.pos])))
theorem Qfo (t:ByteArray) (w:World) (hm1:∃ m,w.cell? ⟨1,0,none⟩=some (.int .i64 m)) (hg:Qjd w) :
 Calls Tryz.prog 21 #[.string t] w (PP t w):=by
 have HG:=Qab hg
 clear hg
 rcases Nat.lt_or_ge 600 t.size with ht | ht
 ·go_enter Tryz.func21,Tryz.ntmps21
  go_wp2_with fail
  refine (Qnn t w ht).mono ?_
  rintro e w1 ⟨rfl,hB⟩
  have HB:=Qab hB
  have hs:=hB.size
  clear hB
  go_wp2_with fail
  refine (QqQ 1 w1 (HG.out.below HB.out)).mono ?_
  rintro e w2 ⟨rfl,hB2⟩
  have HB2:=Qab (HB.out.trans (hB2.mono hs))
  clear hB2
  go_wp2
  refine bodyPost_ret (v:=.tuple #[.pointer none,.int .i64 1,.int .i64 (-1)]) (by simp [results,Tryz.results21,go_sem]) rfl ?_
  exact ⟨HB2.out,Or.inl ⟨ht,rfl⟩⟩
 ·go_enter Tryz.func21,Tryz.ntmps21
  go_wp2_with fail
  refine (QlG t w ht hm1).mono ?_
  rintro e w1 ⟨hB,⟨y,g,rv,lv,hy,rfl,hz,hc,hr,hb⟩ | ⟨f,bb,hf,rfl,hz,hcc⟩⟩
  ·have HB:=Qab hB
   have hs:=hB.size
   have HY:=Qab hy
   have HC:=Qab hc
   have HR:=Qab hr
   have HBL:=Qab hb
   clear hB hy hc hr hb
   go_wp2_with fail
   refine (Qpn w1).mono ?_
   rintro e w2 ⟨rfl,hB2⟩
   have HB2:=Qab (HB.out.trans (hB2.mono hs))
   have HC2:=Qab (World.cell?_of_block (w:=w1) (w':=w2) (a:=⟨g,0,none⟩) (hB2.block g (QaH HC.out)))
   have HK:=Qab (hB2.block g (QaH HC.out))
   have HR2:=Qab (HR.out.keep (fun k _ hk=>hB2.block k hk))
   have HBL2:=Qab (HBL.out.keep (QaY 7) (fun k _ hk=>hB2.block k hk))
   clear hB2
   go_wp2
   refine bodyPost_ret (v:=.tuple #[.pointer (some ⟨g,0,none⟩),.int .i64 0,.int .i64 (-1)]) (by simp [results,Tryz.results21,go_sem]) rfl ?_
   exact ⟨HB2.out,Or.inr (Or.inl ⟨ht,y,g,rv,lv,HY.out,rfl,hz,by rw [HK.out];exact HC.out,HR2.out,HBL2.out⟩)⟩
  ·have HB:=Qab hB
   have hs:=hB.size
   have HF:=Qab hf
   have c0:w1.cell? ⟨bb,0,none⟩=some (.int .i64 f.err):=Qaa hcc 0
   have c1:w1.cell? ⟨bb,1,none⟩=some (.int .i64 f.pos):=Qaa hcc 1
   have HC0:=Qab c0
   have HC1:=Qab c1
   clear hB hf hcc c0 c1
   go_wp2_with fail
   refine (QjP bb f.err f.pos w1 (HG.out.below HB.out) HC0.out HC1.out).mono ?_
   rintro e w2 ⟨rfl,hB2⟩
   have HB2:=Qab (HB.out.trans (hB2.mono hs))
   clear hB2
   go_wp2
   refine bodyPost_ret (v:=.tuple #[.pointer none,.int .i64 f.err,.int .i64 f.pos]) (by simp [results,Tryz.results21,go_sem]) rfl ?_
   exact ⟨HB2.out,Or.inr (Or.inr ⟨ht,f,HF.out,rfl⟩)⟩
end
end Go.Proofs.YtbiclelojbfnbaaGreatDoor
