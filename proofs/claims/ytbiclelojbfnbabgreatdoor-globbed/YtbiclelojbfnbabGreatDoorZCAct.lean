import Derived.Test.YtbiclelojbfnbabGreatDoorZCIns
import Derived.Test.YtbiclelojbfnbabGreatDoorSet
import Derived.Test.YtbiclelojbfnbabGreatDoorShelf
namespace Go.Proofs.YtbiclelojbfnbabGreatDoor
set_option linter.unusedVariables false
set_option linter.unusedSimpArgs false
set_option maxRecDepth 100000
set_option maxHeartbeats 4000000
section
open Go.RowKit
def Qjq (w:World) (b:Nat) (rv:Value) (req:List (List UInt8)):Prop:=
 (rv=.slice none 0 0∧req=[])∨∃ g c,rv=.slice (some ⟨g,0,none⟩) req.length c∧g≠b∧Qc6 w g req∧req≠[]∧req.length≤1000
theorem Qjq.mod {w w':World} {b:Nat} {rv:Value} {req:List (List UInt8)} (h:Qjq w b rv req) (hm:Mod b w w'):Qjq w' b rv req:=by
 rcases h with h | ⟨g,c,h1,h2,h3,h4,h5⟩
 ·exact Or.inl h
 ·exact Or.inr ⟨g,c,h1,h2,fun j hj=>QbK (h3 j hj) hm h2,h4,h5⟩
theorem QgV (w:World) (b:Nat) (rv:Value) (req:List (List UInt8)) (x:List UInt8) (h:Qjq w b rv req) :
 Calls Tryz.prog 37 #[rv,.string (Qag x)] w fun e w'=>e=.returned (.bool (decide (0 < whichL req x)))∧w'=w:=by
 rcases h with ⟨rfl,rfl⟩ | ⟨g,c,rfl,h2,h3,h4,h5⟩
 ·exact Tryz.slices_Contains_string_empty none 0 (Qag x) w
 ·exact QgI g _ c req x w h3 rfl h5
theorem Qih {req:List (List UInt8)} {sp:List UInt8} (h:sp=QaK∨sp=QaZ∨sp=QaH):Qcl req sp=decide (0 < whichL req sp):=by unfold Qcl;rw [if_pos h]
theorem QlN {req:List (List UInt8)} {sp:List UInt8} (h:¬ (sp=QaK∨sp=QaZ∨sp=QaH)) (h2:sp=Qg1∨sp=Qbu):Qcl req sp=decide (0 < whichL req Qbc):=by unfold Qcl;rw [if_neg h,if_pos h2]
theorem QnD {req:List (List UInt8)} {sp:List UInt8} (h:¬ (sp=QaK∨sp=QaZ∨sp=QaH)) (h2:¬ (sp=Qg1∨sp=Qbu)):Qcl req sp=true:=by unfold Qcl;rw [if_neg h,if_neg h2]
theorem Qdt (sp:List UInt8) (req:List (List UInt8)) (b:Nat) (t:ByteArray) (s:PS) (rv:Value) (mc mt:Nat) (w:World) (h:RC w b t s rv mc mt) (hr:Qjq w b rv req) :
 Calls Tryz.prog 217 #[.pointer (some ⟨b,0,none⟩),.string (Qag sp)] w fun e w'=>e=.returned (.bool (Qcl req sp))∧w'=w:=by
 have h7:w.cell? ⟨b,7,none⟩=some rv:=h.at_.cell 7
 have HC:=Qaa (fun x=>QgV w b rv req x hr)
 obtain ⟨ra,rn,rc,hrv⟩:∃ a n c,rv=.slice a n c:=by
  rcases hr with ⟨h,_⟩ | ⟨g,c,h,_⟩
  ·exact ⟨_,_,_,h⟩
  ·exact ⟨_,_,_,h⟩
 subst hrv
 clear h hr
 have e1:((Qag sp).toList == [102,105,108,101,105,110,116,111])=decide (sp=QaK):=Qc1 sp QaK
 have e2:((Qag sp).toList == [114,101,106,101,99,116])=decide (sp=QaZ):=Qc1 sp QaZ
 have e3:((Qag sp).toList == [101,110,118,101,108,111,112,101])=decide (sp=QaH):=Qc1 sp QaH
 have e4:((Qag sp).toList == [115,101,116])=decide (sp=Qg1):=Qc1 sp Qg1
 have e5:((Qag sp).toList == [115,116,114,105,110,103])=decide (sp=Qbu):=Qc1 sp Qbu
 by_cases a1:sp=QaK
 ·have HE:=Qaa (Qih (req:=req) (Or.inl a1))
  rw [decide_eq_true a1] at e1
  clear e2 e3 e4 e5
  clear a1
  go_enter Tryz.func217,Tryz.ntmps217
  go_wp2_with (go_at_call 37;refine (HC.out sp).mono ?_;rintro e w' ⟨rfl,rfl⟩)
  go_ret
  exact ⟨QaU (by rw [HE.out]),rfl⟩
 by_cases a2:sp=QaZ
 ·have HE:=Qaa (Qih (req:=req) (Or.inr (Or.inl a2)))
  rw [decide_eq_false a1] at e1
  rw [decide_eq_true a2] at e2
  clear e3 e4 e5
  clear a2 a1
  go_enter Tryz.func217,Tryz.ntmps217
  go_wp2_with (go_at_call 37;refine (HC.out sp).mono ?_;rintro e w' ⟨rfl,rfl⟩)
  go_ret
  exact ⟨QaU (by rw [HE.out]),rfl⟩
 by_cases a3:sp=QaH
 ·have HE:=Qaa (Qih (req:=req) (Or.inr (Or.inr a3)))
  rw [decide_eq_false a1] at e1
  rw [decide_eq_false a2] at e2
  rw [decide_eq_true a3] at e3
  clear e4 e5
  clear a3 a1 a2
  go_enter Tryz.func217,Tryz.ntmps217
  go_wp2_with (go_at_call 37;refine (HC.out sp).mono ?_;rintro e w' ⟨rfl,rfl⟩)
  go_ret
  exact ⟨QaU (by rw [HE.out]),rfl⟩
 have hN:¬ (sp=QaK∨sp=QaZ∨sp=QaH):=by
  rintro (h | h | h)
  ·exact a1 h
  ·exact a2 h
  ·exact a3 h
 by_cases a4:sp=Qg1
 ·have HE:=Qaa (QlN (req:=req) hN (Or.inl a4))
  clear hN
  rw [decide_eq_false a1] at e1
  rw [decide_eq_false a2] at e2
  rw [decide_eq_false a3] at e3
  rw [decide_eq_true a4] at e4
  clear e5
  clear a4 a1 a2 a3
  go_enter Tryz.func217,Tryz.ntmps217
  go_wp2_with (go_at_call 37;refine (HC.out Qbc).mono ?_;rintro e w' ⟨rfl,rfl⟩)
  go_ret
  exact ⟨QaU (by rw [HE.out]),rfl⟩
 by_cases a5:sp=Qbu
 ·have HE:=Qaa (QlN (req:=req) hN (Or.inr a5))
  clear hN
  rw [decide_eq_false a1] at e1
  rw [decide_eq_false a2] at e2
  rw [decide_eq_false a3] at e3
  rw [decide_eq_false a4] at e4
  rw [decide_eq_true a5] at e5
  clear a5 a1 a2 a3 a4
  go_enter Tryz.func217,Tryz.ntmps217
  go_wp2_with (go_at_call 37;refine (HC.out Qbc).mono ?_;rintro e w' ⟨rfl,rfl⟩)
  go_ret
  exact ⟨QaU (by rw [HE.out]),rfl⟩
 have HE:=Qaa (QnD (req:=req) hN (by rintro (h | h) <;> contradiction))
 clear hN
 rw [decide_eq_false a1] at e1
 rw [decide_eq_false a2] at e2
 rw [decide_eq_false a3] at e3
 rw [decide_eq_false a4] at e4
 rw [decide_eq_false a5] at e5
 clear a1 a2 a3 a4 a5
 go_enter Tryz.func217,Tryz.ntmps217
 go_wp2_with (go_at_call 37;refine (HC.out sp).mono ?_;rintro e w' ⟨rfl,rfl⟩)
 go_ret
 exact ⟨QaU (by rw [HE.out]),rfl⟩
end
section
open Go.RowKit
attribute [local go_sem ↓] Go.wp_at_zero Go.wp_at_succ
def slX (X:Nat→Prop) (xs:List (List UInt8)) (w:World) (v:Value):Prop:=
 ∃ g c,v=.slice (some ⟨g,0,none⟩) xs.length c∧X g∧Qc6 w g xs∧xs≠[]
theorem slB.toX {B:Nat} {xs:List (List UInt8)} {w:World} {v:Value} (h:slB B xs w v):slX (fromB B) xs w v:=h
theorem slX.keep {X:Nat→Prop} {xs:List (List UInt8)} {w w':World} {v:Value} (h:slX X xs w v) (hk:AbvX X w w'):slX X xs w' v:=by
 obtain ⟨g,c,hv,hg,ht,hx⟩:=h
 refine ⟨g,c,hv,hg,fun j hj=>?_,hx⟩
 have:=ht j hj
 rw [World.cell?_of_block (w:=w) (a:=⟨g,j,none⟩) (hk g hg (Qay this))]
 exact this
theorem slX.weak {X Y:Nat→Prop} {xs:List (List UInt8)} {w:World} {v:Value} (h:slX X xs w v) (hB:∀ k,X k→k < w.heap.size→Y k):slX Y xs w v:=by
 obtain ⟨g,c,hv,hg,ht,hx⟩:=h
 exact ⟨g,c,hv,hB g hg (Qay (ht 0 (List.length_pos_iff.2 hx))),ht,hx⟩
def mtX (X:Nat→Prop) (hw:List UInt8) (x:QdG) (w:World) (v:Value):Prop:=
 ∃ fv kv,v=.agg #[.string (Qag hw),.int .i64 x.pos,.int .i64 x.tag,.bool x.octet,fv,kv]∧slX X x.fr w fv∧slX X x.keys w kv
def Qeh {α:Type} (X:Nat→Prop) (P:(Nat→Prop)→α→World→Value→Prop) (x:QdG×List α) (w:World) (v:Value):Prop:=
 match x.1.kind with
 | 0=>x.2=[]∧v=.iface 278 (.agg #[.string (Qag Qfk),.int .i64 x.1.pos,.bool true])
 | 1=>x.2=[]∧v=.iface 278 (.agg #[.string (Qag QdA),.int .i64 x.1.pos,.bool false])
 | 2=>∃ a u,x.2=[a]∧v=.iface 281 (.agg #[.string (Qag kNot),.int .i64 x.1.pos,u])∧P X a w u
 | 3=>∃ u,v=.iface 208 (.agg #[.string (Qag QcG),.int .i64 x.1.pos,u])∧trX X P x.2 w u∧x.2≠[]
 | 4=>∃ u,v=.iface 209 (.agg #[.string (Qag QcF),.int .i64 x.1.pos,u])∧trX X P x.2 w u∧x.2≠[]
 | 5=>x.2=[]∧∃ u,v=.iface 215 u∧mtX X QbA x.1 w u
 | 6=>x.2=[]∧∃ u,v=.iface 218 u∧mtX X QaH x.1 w u
 | 7=>x.2=[]∧∃ u,v=.iface 219 u∧mtX X Qbu x.1 w u
 | 8=>x.2=[]∧∃ u,v=.iface 285 (.agg #[.string (Qag QbJ),.int .i64 x.1.pos,u])∧slX X x.1.fr w u
 | _=>x.2=[]∧v=.iface 287 (.agg #[.string (Qag Qd4),.int .i64 x.1.pos,.int .i64 x.1.tag,.int .i64 x.1.num])
def TestV:(n:Nat)→(Nat→Prop)→Qcy n→World→Value→Prop
 | 0,_,_,_,_=>False
 | n+1,X,x,w,v=>Qeh X (TestV n) x w v
theorem QoM {α:Type} {X:Nat→Prop} {P:(Nat→Prop)→α→World→Value→Prop} {x:QdG×List α} {w:World} {v:Value} (h:Qeh X P x w v):∃ ty y,v=.iface ty y:=by
 unfold Qeh at h
 split at h
 ·exact ⟨_,_,h.2⟩
 ·exact ⟨_,_,h.2⟩
 ·obtain ⟨a,u,_,h,_⟩:=h;exact ⟨_,_,h⟩
 ·obtain ⟨u,h,_⟩:=h;exact ⟨_,_,h⟩
 ·obtain ⟨u,h,_⟩:=h;exact ⟨_,_,h⟩
 ·obtain ⟨_,u,h,_⟩:=h;exact ⟨_,_,h⟩
 ·obtain ⟨_,u,h,_⟩:=h;exact ⟨_,_,h⟩
 ·obtain ⟨_,u,h,_⟩:=h;exact ⟨_,_,h⟩
 ·obtain ⟨_,u,h,_⟩:=h;exact ⟨_,_,h⟩
 ·exact ⟨_,_,h.2⟩
theorem mtX.keep {X:Nat→Prop} {hw:List UInt8} {x:QdG} {w w':World} {v:Value} (h:mtX X hw x w v) (hk:AbvX X w w'):mtX X hw x w' v:=by
 obtain ⟨fv,kv,h1,h2,h3⟩:=h;exact ⟨fv,kv,h1,h2.keep hk,h3.keep hk⟩
theorem mtX.weak {X Y:Nat→Prop} {hw:List UInt8} {x:QdG} {w:World} {v:Value} (h:mtX X hw x w v) (hB:∀ k,X k→k < w.heap.size→Y k):mtX Y hw x w v:=by
 obtain ⟨fv,kv,h1,h2,h3⟩:=h;exact ⟨fv,kv,h1,h2.weak hB,h3.weak hB⟩
theorem Qpa {α:Type} {X:Nat→Prop} {P:(Nat→Prop)→α→World→Value→Prop} (hP:TreeP P) {x:QdG×List α} {w w':World} {v:Value} (h:Qeh X P x w v) (hk:AbvX X w w'):Qeh X P x w' v:=by
 unfold Qeh at h ⊢
 split at h
 ·exact h
 ·exact h
 ·obtain ⟨a,u,h1,h2,h3⟩:=h;exact ⟨a,u,h1,h2,hP.keep _ _ _ _ _ h3 hk⟩
 ·obtain ⟨u,h1,h2,h3⟩:=h;exact ⟨u,h1,h2.keep hP hk,h3⟩
 ·obtain ⟨u,h1,h2,h3⟩:=h;exact ⟨u,h1,h2.keep hP hk,h3⟩
 ·obtain ⟨h0,u,h1,h2⟩:=h;exact ⟨h0,u,h1,h2.keep hk⟩
 ·obtain ⟨h0,u,h1,h2⟩:=h;exact ⟨h0,u,h1,h2.keep hk⟩
 ·obtain ⟨h0,u,h1,h2⟩:=h;exact ⟨h0,u,h1,h2.keep hk⟩
 ·obtain ⟨h0,u,h1,h2⟩:=h;exact ⟨h0,u,h1,h2.keep hk⟩
 ·exact h
theorem QpB {α:Type} {X Y:Nat→Prop} {P:(Nat→Prop)→α→World→Value→Prop} (hP:TreeP P) {x:QdG×List α} {w:World} {v:Value} (h:Qeh X P x w v) (hB:∀ k,X k→k < w.heap.size→Y k):Qeh Y P x w v:=by
 unfold Qeh at h ⊢
 split at h
 ·exact h
 ·exact h
 ·obtain ⟨a,u,h1,h2,h3⟩:=h;exact ⟨a,u,h1,h2,hP.weak _ _ _ _ _ h3 hB⟩
 ·obtain ⟨u,h1,h2,h3⟩:=h;exact ⟨u,h1,trX.weak hP h3 h2 hB,h3⟩
 ·obtain ⟨u,h1,h2,h3⟩:=h;exact ⟨u,h1,trX.weak hP h3 h2 hB,h3⟩
 ·obtain ⟨h0,u,h1,h2⟩:=h;exact ⟨h0,u,h1,h2.weak hB⟩
 ·obtain ⟨h0,u,h1,h2⟩:=h;exact ⟨h0,u,h1,h2.weak hB⟩
 ·obtain ⟨h0,u,h1,h2⟩:=h;exact ⟨h0,u,h1,h2.weak hB⟩
 ·obtain ⟨h0,u,h1,h2⟩:=h;exact ⟨h0,u,h1,h2.weak hB⟩
 ·exact h
theorem Qbq:∀ n,TreeP (TestV n)
 | 0=>⟨fun _ _ _ _ h=>h.elim,fun _ _ _ _ _ h=>h.elim,fun _ _ _ _ _ h=>h.elim⟩
 | n+1=>⟨fun _ _ _ _ h=>QoM h,fun _ _ _ _ _ h hk=>Qpa (Qbq n) h hk,fun _ _ _ _ _ h hB=>QpB (Qbq n) h hB⟩
def QqJ (w:World) (T:TypeId) (m:Nat) (f:List UInt8→Option Value):Prop:=
 ∀ (W:World) (x:List UInt8),W.heap[m]?=w.heap[m]?→(Instr.lookup T (.map (some m)) (.string (Qag x)) true).run Tryz.prog W=.ok (.tuple #[(f x).getD .nilFunc,.bool (f x).isSome]) W
def testFn (b pr pt pf:Nat) (x:List UInt8):Option Value:=
 match whichL testNames x with
 | 1=>some (.func (.func 167) #[] #[.pointer (some ⟨pt,0,none⟩)])
 | 2=>some (.func (.func 167) #[] #[.pointer (some ⟨pf,0,none⟩)])
 | 3=>some (.func (.func 108) #[.pointer (some ⟨b,0,none⟩)] #[])
 | 4=>some (.func (.func 109) #[] #[.pointer (some ⟨pr,0,none⟩)])
 | 5=>some (.func (.func 111) #[] #[.pointer (some ⟨pr,0,none⟩)])
 | 6=>some (.func (.func 112) #[] #[.pointer (some ⟨pr,0,none⟩)])
 | 7=>some (.func (.func 115) #[] #[.pointer (some ⟨pr,0,none⟩)])
 | 8=>some (.func (.func 118) #[] #[.pointer (some ⟨pr,0,none⟩)])
 | 9=>some (.func (.func 119) #[.pointer (some ⟨b,0,none⟩)] #[])
 | 10=>some (.func (.func 120) #[.pointer (some ⟨b,0,none⟩)] #[])
 | _=>none
structure QmA (w:World) (b mt pr pt pf:Nat):Prop where
 look:QqJ w 192 mt (testFn b pr pt pf)
 hpr:Qla w pr b
 hpt:w.cell? ⟨pt,0,none⟩=some (.bool true)
 hpf:w.cell? ⟨pf,0,none⟩=some (.bool false)
 ptb:pt≠b
 pfb:pf≠b
 mtb:mt≠b
 mtl:mt < w.heap.size
theorem QmA.mod {w w':World} {b mt pr pt pf:Nat} (h:QmA w b mt pr pt pf) (hm:Mod b w w'):QmA w' b mt pr pt pf:=
 ⟨fun W x e=>h.look W x (e.trans (hm.block mt h.mtl h.mtb)),h.hpr.mod hm,QbK h.hpt hm h.ptb,QbK h.hpf hm h.pfb,h.ptb,h.pfb,h.mtb,Nat.lt_of_lt_of_le h.mtl hm.size⟩
theorem Qh3 {b pr pt pf:Nat} {x:List UInt8} (h:whichL testNames x=0):testFn b pr pt pf x=none:=by unfold testFn;rw [h];rfl
theorem Qit (d:Int) (b:Nat) (t:ByteArray) (s:PS) (rv:Value) (mc mt pr pt pf:Nat) (w:World) (h:RC w b t s rv mc mt) (ht:QmA w b mt pr pt pf) (hd:d≤6) (h0:whichL testNames s.1.spelt=0) :
 Calls Tryz.prog 207 #[.pointer (some ⟨b,0,none⟩),.map (some mt),.int .i64 d] w fun e w'=>QcR ⟨4,s.1.pos⟩ w e w'∧Mod b w w':=by
 have h1:w.cell? ⟨b,1,none⟩=some (.int .i64 s.1.kind):=h.at_.cell 1
 have h3:w.cell? ⟨b,3,none⟩=some (.string (Qag s.1.spelt)):=h.at_.cell 3
 have hlk:=ht.look w s.1.spelt rfl
 rw [Qh3 h0] at hlk
 have H:=Qaa h
 clear h ht h0
 simp only [Option.getD_none,Option.isSome_none] at hlk
 by_cases hk:s.1.kind=1
 ·have hk':((s.1.kind:Int) != 1)=false:=by simp;omega
  clear hk
  go_enter Tryz.func207,Tryz.ntmps207
  go_wp2_with fail
  refine (QaF b _ _ _ rfl).mono ?_
  rintro e w' ⟨rfl,hww⟩
  subst hww
  go_wp2_with fail
  refine (Qbe b 4 _ _ t s.1 s.2 rv mc mt _ H.out.at_ rfl rfl).mono ?_
  rintro e w1 ⟨⟨bb,hz,rfl,hcc⟩,hm⟩
  exact ⟨rfl,⟨bb,hz,rfl,hcc⟩,Mod.of_below hm⟩
 ·have hk':((s.1.kind:Int) != 1)=true:=by simp;omega
  clear hk
  go_enter Tryz.func207,Tryz.ntmps207
  go_wp2_with fail
  refine (QaF b _ _ _ rfl).mono ?_
  rintro e w' ⟨rfl,hww⟩
  subst hww
  go_wp2_with fail
  refine (Qbe b 4 _ _ t s.1 s.2 rv mc mt _ H.out.at_ rfl rfl).mono ?_
  rintro e w1 ⟨⟨bb,hz,rfl,hcc⟩,hm⟩
  exact ⟨rfl,⟨bb,hz,rfl,hcc⟩,Mod.of_below hm⟩
end
section
open Go.RowKit
def Qfn {α β:Type} (X:Nat→Prop) (P1:(Nat→Prop)→β→World→Value→Prop) (P2:(Nat→Prop)→α→World→Value→Prop) (xs:List (β×List α)) (w:World) (v:Value):Prop:=
 ∃ g c,v=.slice (some ⟨g,0,none⟩) xs.length c∧X g∧∀ j (hj:j < xs.length),∃ u bv,w.cell? ⟨g,2*j,none⟩=some u∧w.cell? ⟨g,2*j+1,none⟩=some bv∧P1 X xs[j].1 w u∧blX X P2 xs[j].2 w bv
theorem Qfn.keep {α β:Type} {X:Nat→Prop} {P1:(Nat→Prop)→β→World→Value→Prop} {P2:(Nat→Prop)→α→World→Value→Prop} (h1:TreeP P1) (h2:TreeP P2) {xs:List (β×List α)} {w w':World} {v:Value} (h:Qfn X P1 P2 xs w v) (hm:AbvX X w w'):Qfn X P1 P2 xs w' v:=by
 obtain ⟨g,c,hv,hg,hx⟩:=h
 refine ⟨g,c,hv,hg,fun j hj=>?_⟩
 obtain ⟨u,bv,hu,hb,hp,hq⟩:=hx j hj
 refine ⟨u,bv,?_,?_,h1.keep _ _ _ _ _ hp hm,hq.keep h2 hm⟩
 ·rw [World.cell?_of_block (w:=w) (a:=⟨g,2*j,none⟩) (hm g hg (Qay hu))]
  exact hu
 ·rw [World.cell?_of_block (w:=w) (a:=⟨g,2*j+1,none⟩) (hm g hg (Qay hb))]
  exact hb
theorem Qfn.weak {α β:Type} {X Y:Nat→Prop} {P1:(Nat→Prop)→β→World→Value→Prop} {P2:(Nat→Prop)→α→World→Value→Prop} (h1:TreeP P1) (h2:TreeP P2) {xs:List (β×List α)} {w:World} {v:Value} (hne:xs≠[]) (h:Qfn X P1 P2 xs w v) (hB:∀ k,X k→k < w.heap.size→Y k):Qfn Y P1 P2 xs w v:=by
 obtain ⟨g,c,hv,hg,hx⟩:=h
 refine ⟨g,c,hv,?_,fun j hj=>?_⟩
 ·obtain ⟨u,bv,hu,_⟩:=hx 0 (List.length_pos_iff.2 hne)
  exact hB g hg (Qay hu)
 ·obtain ⟨u,bv,hu,hb,hp,hq⟩:=hx j hj
  exact ⟨u,bv,hu,hb,h1.weak _ _ _ _ _ hp hB,hq.weak h2 hB⟩
def Qt3 (hw:List UInt8) (p k:Nat) (x:List UInt8):Value:=.iface 262 (.agg #[.string (Qag hw),.int .i64 p,.int .i64 k,.string (Qag x)])
def QhA {α β:Type} (X:Nat→Prop) (P1:(Nat→Prop)→β→World→Value→Prop) (P2:(Nat→Prop)→α→World→Value→Prop) (x:QgD×List (β×List α)×List α) (w:World) (v:Value):Prop:=
 match x.1.kind with
 | 0=>v=Qt3 QfD x.1.pos 1 []
 | 1=>v=.iface 264 (.agg #[.string (Qag Qb1),.int .i64 x.1.pos])
 | 2=>v=.iface 265 (.agg #[.string (Qag Qfl),.int .i64 x.1.pos])
 | 3=>v=Qt3 QaK x.1.pos 2 x.1.arg
 | 4=>v=Qt3 Qbl x.1.pos 3 x.1.arg
 | 5=>v=Qt3 QaZ x.1.pos 4 x.1.arg
 | 6=>v=.iface 269 (.agg #[.string (Qag Qg1),.int .i64 x.1.pos,.int .i64 x.1.tag,.string (Qag x.1.var),.string (Qag x.1.arg)])
 | _=>∃ av ev,v=.iface 275 (.agg #[.string (Qag kIf),.int .i64 x.1.pos,av,.bool x.1.els,ev])∧Qfn X P1 P2 x.2.1 w av∧x.2.1≠[]∧blX X P2 x.2.2 w ev
def Qio:(n:Nat)→(Nat→Prop)→QcX n→World→Value→Prop
 | 0,_,_,_,_=>False
 | n+1,X,x,w,v=>QhA X (TestV n) (Qio n) x w v
theorem QoO {α β:Type} {X:Nat→Prop} {P1:(Nat→Prop)→β→World→Value→Prop} {P2:(Nat→Prop)→α→World→Value→Prop} {x:QgD×List (β×List α)×List α} {w:World} {v:Value} (h:QhA X P1 P2 x w v):∃ ty y,v=.iface ty y:=by
 unfold QhA Qt3 at h
 split at h
 ·exact ⟨_,_,h⟩
 ·exact ⟨_,_,h⟩
 ·exact ⟨_,_,h⟩
 ·exact ⟨_,_,h⟩
 ·exact ⟨_,_,h⟩
 ·exact ⟨_,_,h⟩
 ·exact ⟨_,_,h⟩
 ·obtain ⟨av,ev,h,_⟩:=h;exact ⟨_,_,h⟩
theorem Qpf {α β:Type} {X:Nat→Prop} {P1:(Nat→Prop)→β→World→Value→Prop} {P2:(Nat→Prop)→α→World→Value→Prop} (h1:TreeP P1) (h2:TreeP P2) {x:QgD×List (β×List α)×List α} {w w':World} {v:Value} (h:QhA X P1 P2 x w v) (hk:AbvX X w w'):QhA X P1 P2 x w' v:=by
 unfold QhA at h ⊢
 split at h
 ·exact h
 ·exact h
 ·exact h
 ·exact h
 ·exact h
 ·exact h
 ·exact h
 ·obtain ⟨av,ev,h,ha,hn,hb⟩:=h;exact ⟨av,ev,h,ha.keep h1 h2 hk,hn,hb.keep h2 hk⟩
theorem QpH {α β:Type} {X Y:Nat→Prop} {P1:(Nat→Prop)→β→World→Value→Prop} {P2:(Nat→Prop)→α→World→Value→Prop} (h1:TreeP P1) (h2:TreeP P2) {x:QgD×List (β×List α)×List α} {w:World} {v:Value} (h:QhA X P1 P2 x w v) (hB:∀ k,X k→k < w.heap.size→Y k):QhA Y P1 P2 x w v:=by
 unfold QhA at h ⊢
 split at h
 ·exact h
 ·exact h
 ·exact h
 ·exact h
 ·exact h
 ·exact h
 ·exact h
 ·obtain ⟨av,ev,h,ha,hn,hb⟩:=h;exact ⟨av,ev,h,Qfn.weak h1 h2 hn ha hB,hn,hb.weak h2 hB⟩
theorem Qa3:∀ n,TreeP (Qio n)
 | 0=>⟨fun _ _ _ _ h=>h.elim,fun _ _ _ _ _ h=>h.elim,fun _ _ _ _ _ h=>h.elim⟩
 | n+1=>⟨fun _ _ _ _ h=>QoO h,fun _ _ _ _ _ h hk=>Qpf (Qbq n) (Qa3 n) h hk,fun _ _ _ _ _ h hB=>QpH (Qbq n) (Qa3 n) h hB⟩
end
section
open Go.RowKit
theorem Qij {α β:Type} {l:List UInt8} {F:Nat} {tst:PS→Except Flt (β×PS)} {sub:PS→Except Flt (α×PS)} {f:Nat} {acc:List (β×List α)} {s:PS} {e:Flt} (h:mayL l [Qdh] s=.error e):armsMore l F tst sub (f+1) acc s=.error e:=by rw [armsMore];exact Qae h
theorem QdF {α β:Type} {l:List UInt8} {F:Nat} {tst:PS→Except Flt (β×PS)} {sub:PS→Except Flt (α×PS)} {f:Nat} {acc:List (β×List α)} {s:PS} {y:Nat×PS} (h:mayL l [Qdh] s=.ok y) (h1:y.1=0):armsMore l F tst sub (f+1) acc s=.ok (acc,y.2):=by rw [armsMore,Qac h,if_pos h1]
theorem QhZ {α β:Type} {l:List UInt8} {F:Nat} {tst:PS→Except Flt (β×PS)} {sub:PS→Except Flt (α×PS)} {f:Nat} {acc:List (β×List α)} {s:PS} {y:Nat×PS} {e:Flt} (h:mayL l [Qdh] s=.ok y) (h1:¬ y.1=0) (h2:armL l F tst sub y.2=.error e):armsMore l F tst sub (f+1) acc s=.error e:=by rw [armsMore,Qac h,if_neg h1];exact Qae h2
theorem Qms {α β:Type} {l:List UInt8} {F:Nat} {tst:PS→Except Flt (β×PS)} {sub:PS→Except Flt (α×PS)} {f:Nat} {acc:List (β×List α)} {s:PS} {y:Nat×PS} {z:(β×List α)×PS} (h:mayL l [Qdh] s=.ok y) (h1:¬ y.1=0) (h2:armL l F tst sub y.2=.ok z):armsMore l F tst sub (f+1) acc s=armsMore l F tst sub f (acc++[z.1]) z.2:=by rw [armsMore,Qac h,if_neg h1];exact Qac h2
def Qey {α:Type} (P:α→Value→Value→Prop):List α→List Value→Prop
 | [],[]=>True
 | a :: xs,u :: v :: vs=>P a u v∧Qey P xs vs
 | _,_=>False
theorem Qey.imp {α:Type} {P Q:α→Value→Value→Prop} (h:∀ a u v,P a u v→Q a u v):∀ {xs:List α} {vs:List Value},Qey P xs vs→Qey Q xs vs
 | [],[],_=>trivial
 | a :: xs,u :: v :: vs,hr=>⟨h _ _ _ hr.1,Qey.imp h hr.2⟩
 | [],_ :: _,hr=>hr.elim
 | _ :: _,[],hr=>hr.elim
 | _ :: _,[_],hr=>hr.elim
theorem Qey.snoc {α:Type} {P:α→Value→Value→Prop} {a:α} {u v:Value} (h:P a u v):∀ {xs:List α} {vs:List Value},Qey P xs vs→Qey P (xs++[a]) (vs++[u,v])
 | [],[],_=>⟨h,trivial⟩
 | a' :: xs,u' :: v' :: vs,hr=>⟨hr.1,Qey.snoc h hr.2⟩
 | [],_ :: _,hr=>hr.elim
 | _ :: _,[],hr=>hr.elim
 | _ :: _,[_],hr=>hr.elim
theorem Qey.at {α:Type} {P:α→Value→Value→Prop}:∀ {xs:List α} {vs:List Value},Qey P xs vs→∀ j (hj:j < xs.length),∃ u v,vs[2*j]?=some u∧vs[2*j+1]?=some v∧P xs[j] u v
 | [],[],_,j,hj=>absurd hj (Nat.not_lt_zero _)
 | a :: xs,u :: v :: vs,h,0,_=>⟨u,v,rfl,rfl,h.1⟩
 | a :: xs,u :: v :: vs,h,j+1,hj=>by
  obtain ⟨u',v',h1,h2,h3⟩:=Qey.at h.2 j (by simpa using hj)
  refine ⟨u',v',?_,?_,by simpa using h3⟩
  ·rw [show 2*(j+1)=2*j+1+1 from by omega];simpa using h1
  ·rw [show 2*(j+1)+1=2*j+1+1+1 from by omega];simpa using h2
 | [],_ :: _,h,_,_=>h.elim
 | _ :: _,[],h,_,_=>h.elim
 | _ :: _,[_],h,_,_=>h.elim
def QcW {α β:Type} (P1:(Nat→Prop)→β→World→Value→Prop) (P2:(Nat→Prop)→α→World→Value→Prop) (base T:Nat) (w:World) (v:Value) (a:β×List α) (u bv:Value):Prop:=
 ∃ X,P1 X a.1 w u∧blX X P2 a.2 w bv∧(∀ k,X k→base≤k∧k < w.heap.size)∧(∀ g,v.ownBlock=some g→¬ X g)∧¬ X T
theorem QcW.mod {α β:Type} {P1:(Nat→Prop)→β→World→Value→Prop} {P2:(Nat→Prop)→α→World→Value→Prop} (hP1:TreeP P1) (hP2:TreeP P2) {base T b:Nat} {w w':World} {v:Value} {a:β×List α} {u bv:Value} (h:QcW P1 P2 base T w v a u bv) (hm:Mod b w w') (hb:b < base):QcW P1 P2 base T w' v a u bv:=by
 obtain ⟨X,h1,h1',h2,h3,h4⟩:=h
 have hA:AbvX X w w':=hm.abvX (fun e=>by have:=(h2 b e).1;omega)
 exact ⟨X,hP1.keep _ _ _ _ _ h1 hA,h1'.keep hP2 hA,fun k hk=>⟨(h2 k hk).1,Nat.lt_of_lt_of_le (h2 k hk).2 hm.size⟩,h3,h4⟩
theorem QcW.set {α β:Type} {P1:(Nat→Prop)→β→World→Value→Prop} {P2:(Nat→Prop)→α→World→Value→Prop} (hP1:TreeP P1) (hP2:TreeP P2) {base T:Nat} {w:World} {v:Value} {a:β×List α} {u bv:Value} (h:QcW P1 P2 base T w v a u bv) (o:Nat) (x:Value):QcW P1 P2 base T (w.setCell ⟨T,o,none⟩ x) v a u bv:=by
 obtain ⟨X,h1,h1',h2,h3,h4⟩:=h
 have hA:AbvX X w (w.setCell ⟨T,o,none⟩ x):=AbvX.set h4 _ _
 exact ⟨X,hP1.keep _ _ _ _ _ h1 hA,h1'.keep hP2 hA,fun k hk=>⟨(h2 k hk).1,by simpa [World.setCell] using (h2 k hk).2⟩,h3,h4⟩
theorem QcW.new {α β:Type} {P1:(Nat→Prop)→β→World→Value→Prop} {P2:(Nat→Prop)→α→World→Value→Prop} (hP1:TreeP P1) (hP2:TreeP P2) {base T B:Nat} {w:World} {v:Value} {a:β×List α} {u bv:Value} (h:P1 (fromB B) a.1 w u) (h':blX (fromB B) P2 a.2 w bv) (hB:base≤B) (hv:∀ g,v.ownBlock=some g→g < B) (hT:T < B):QcW P1 P2 base T w v a u bv:=
 ⟨fun k=>B≤k∧k < w.heap.size,hP1.weak _ _ _ _ _ h (fun k hk hz=>⟨hk,hz⟩),h'.weak hP2 (fun k hk hz=>⟨hk,hz⟩),fun k hk=>⟨Nat.le_trans hB hk.1,hk.2⟩,fun g hg hX=>by have:=hv g hg;omega,fun hX=>by omega⟩
theorem QcW.grown {α β:Type} {P1:(Nat→Prop)→β→World→Value→Prop} {P2:(Nat→Prop)→α→World→Value→Prop} (hP1:TreeP P1) (hP2:TreeP P2) {base T:Nat} {w w':World} {v v':Value} {a:β×List α} {u bv:Value} {o:Obj} (h:QcW P1 P2 base T w v a u bv) (hg:(w.alloc o).grownBy w' v.ownBlock) (hv:v'.ownBlock=v.ownBlock∨v'.ownBlock=some (w.heap.size+1)):QcW P1 P2 base T w' v' a u bv:=by
 obtain ⟨X,h1,h1',h2,h3,h4⟩:=h
 have hA:AbvX X w w':=fun k hk hz=>by
  rw [hg.block k (by simp;omega) (fun e=>h3 k e.symm hk)]
  exact Below.heap_alloc _ _ _ hz
 refine ⟨X,hP1.keep _ _ _ _ _ h1 hA,h1'.keep hP2 hA,fun k hk=>⟨(h2 k hk).1,?_⟩,fun g hgb hX=>?_,h4⟩
 ·have:=(h2 k hk).2;have:=hg.size;simp at this;omega
 ·rcases hv with hv | hv
  ·exact h3 g (hv ▸ hgb) hX
  ·rw [hv] at hgb
   have:=(h2 g hX).2
   simp at hgb
   omega
theorem Qfn.of_owns {α β:Type} {P1:(Nat→Prop)→β→World→Value→Prop} {P2:(Nat→Prop)→α→World→Value→Prop} (hP1:TreeP P1) (hP2:TreeP P2) {w:World} {base T n:Nat} {e:TypeId} {v:Value} {xs:List (β×List α)} {vs:List Value} (h:w.ownsRow base e 2 v n vs) (hn:n=xs.length) (hx:xs≠[]) (hvT:∀ g,v.ownBlock=some g→g≠T) (hr:Qey (fun a u bv=>QcW P1 P2 base T w v a u bv) xs vs):Qfn (fun k=>base≤k∧k≠T) P1 P2 xs w v:=by
 subst hn
 have hc:=fun g (hg:v.ownBlock=some g)=>h.cells hg
 obtain ⟨h1,h2⟩:=h
 rcases h2 with ⟨_,h3⟩ | ⟨g,cap,cur,hv,hg,r⟩
 ·exact absurd (List.eq_nil_of_length_eq_zero h3) hx
 ·refine ⟨g,cap,hv,⟨hg,hvT g (by rw [hv];rfl)⟩,fun j hj=>?_⟩
  obtain ⟨u,bv,hu,hb,X,hp,hq,hX,_,hXT⟩:=hr.at j hj
  have k1:=hc g (by rw [hv];rfl) _ u hu
  have k2:=hc g (by rw [hv];rfl) _ bv hb
  rw [QcM] at k1 k2
  have hk:∀ k,X k→k < w.heap.size→base≤k∧k≠T:=fun k hk _=>⟨(hX k hk).1,fun e=>hXT (e ▸ hk)⟩
  exact ⟨u,bv,k1,k2,hP1.weak _ _ _ _ _ hp hk,hq.weak hP2 hk⟩
end
section
open Go.RowKit
attribute [local go_sem ↓] Go.wp_at_zero Go.wp_at_succ
theorem QeG (X:Nat→Prop) (xs:List (List UInt8)) (v:Value) (w:World) (h:slX X xs w v) (hl:xs.length≤1000000) :
 Calls Tryz.prog 277 #[v] w fun e w'=>∃ a k,e=.returned (.slice a xs.length k)∧SlT w' (.slice a xs.length k) xs∧Below w.heap.size w w':=by
 obtain ⟨g,c,rfl,_,ht,hne⟩:=h
 refine (Tryz.slices_Clone_string g 0 xs.length c (xs.map Qag) w (by simp) (by omega) (fun j hj=>?_)).mono ?_
 ·rw [List.length_map] at hj
  rw [Nat.zero_add,ht j hj,List.getD_eq_getElem?_getD,List.getD_eq_getElem?_getD,List.getElem?_map,List.getElem?_eq_getElem hj]
  rfl
 ·rintro e w' ⟨v',rfl,ho,hn,hb⟩
  have e1:((xs.map Qag).take xs.length).map Value.string=QaV xs:=by
   rw [List.take_of_length_le (by simp),List.map_map];rfl
  rw [e1] at ho
  obtain ⟨a,k,hv⟩:=QaN ho
  subst hv
  exact ⟨a,k,rfl,SlT.of_owns ho rfl,hb⟩
end
section
open Go.RowKit
def setIns (w:World) (b:Nat) (i:Ins) (av bv:Value):World:=
 ((((((w.setCell ⟨b,0,none⟩ (.int .i64 i.op)).setCell ⟨b,1,none⟩ (.int .i64 i.n)).setCell ⟨b,2,none⟩ (.int .i64 i.tag)).setCell ⟨b,3,none⟩ (.bool i.oct)).setCell ⟨b,4,none⟩ av).setCell ⟨b,5,none⟩ bv).setCell ⟨b,6,none⟩ (.int .i64 i.at_)
theorem QmG (w:World) (b:Nat) (i:Ins) (av bv c0 c1 c2 c3 c4 c5 c6:Value) (h:w.heap[b]?=some (.cells #[c0,c1,c2,c3,c4,c5,c6] 147)):(setIns w b i av bv).heap[b]?=some (.cells (Qkj i av bv) 147)∧Fr (fun k o=>k=b∧coO o=true) w (setIns w b i av bv):=by
 have hstep:∀ (W:World) (cs:Array Value) (k:Nat) (v:Value),W.heap[b]?=some (.cells cs 147)→(W.setCell ⟨b,k,none⟩ v).heap[b]?=some (.cells (cs.setIfInBounds k v) 147)∧Fr (fun k o=>k=b∧coO o=true) W (W.setCell ⟨b,k,none⟩ v):=fun W cs k v h=>⟨Qah W b k v cs _ h,(Fr.refl _ W).set h ⟨rfl,rfl⟩ k v⟩
 unfold setIns
 obtain ⟨g0,f0⟩:=hstep w _ 0 (.int .i64 i.op) h
 replace g0:(w.setCell ⟨b,0,none⟩ (.int .i64 i.op)).heap[b]?=some (.cells #[.int .i64 i.op,c1,c2,c3,c4,c5,c6] 147):=g0
 generalize w.setCell ⟨b,0,none⟩ (.int .i64 i.op)=w0 at *
 obtain ⟨g1,f1⟩:=hstep w0 _ 1 (.int .i64 i.n) g0
 replace g1:(w0.setCell ⟨b,1,none⟩ (.int .i64 i.n)).heap[b]?=some (.cells #[.int .i64 i.op,.int .i64 i.n,c2,c3,c4,c5,c6] 147):=g1
 generalize w0.setCell ⟨b,1,none⟩ (.int .i64 i.n)=w1 at *
 obtain ⟨g2,f2⟩:=hstep w1 _ 2 (.int .i64 i.tag) g1
 replace g2:(w1.setCell ⟨b,2,none⟩ (.int .i64 i.tag)).heap[b]?=some (.cells #[.int .i64 i.op,.int .i64 i.n,.int .i64 i.tag,c3,c4,c5,c6] 147):=g2
 generalize w1.setCell ⟨b,2,none⟩ (.int .i64 i.tag)=w2 at *
 obtain ⟨g3,f3⟩:=hstep w2 _ 3 (.bool i.oct) g2
 replace g3:(w2.setCell ⟨b,3,none⟩ (.bool i.oct)).heap[b]?=some (.cells #[.int .i64 i.op,.int .i64 i.n,.int .i64 i.tag,.bool i.oct,c4,c5,c6] 147):=g3
 generalize w2.setCell ⟨b,3,none⟩ (.bool i.oct)=w3 at *
 obtain ⟨g4,f4⟩:=hstep w3 _ 4 (av) g3
 replace g4:(w3.setCell ⟨b,4,none⟩ (av)).heap[b]?=some (.cells #[.int .i64 i.op,.int .i64 i.n,.int .i64 i.tag,.bool i.oct,av,c5,c6] 147):=g4
 generalize w3.setCell ⟨b,4,none⟩ (av)=w4 at *
 obtain ⟨g5,f5⟩:=hstep w4 _ 5 (bv) g4
 replace g5:(w4.setCell ⟨b,5,none⟩ (bv)).heap[b]?=some (.cells #[.int .i64 i.op,.int .i64 i.n,.int .i64 i.tag,.bool i.oct,av,bv,c6] 147):=g5
 generalize w4.setCell ⟨b,5,none⟩ (bv)=w5 at *
 obtain ⟨g6,f6⟩:=hstep w5 _ 6 (.int .i64 i.at_) g5
 replace g6:(w5.setCell ⟨b,6,none⟩ (.int .i64 i.at_)).heap[b]?=some (.cells #[.int .i64 i.op,.int .i64 i.n,.int .i64 i.tag,.bool i.oct,av,bv,.int .i64 i.at_] 147):=g6
 generalize w5.setCell ⟨b,6,none⟩ (.int .i64 i.at_)=w6 at *
 exact ⟨g6,f0.trans (f1.trans (f2.trans (f3.trans (f4.trans (f5.trans f6)))))⟩
theorem QeR (op:Int) (X:Nat→Prop) (hw:List UInt8) (x:QdG) (fv kv:Value) (w:World) (hf:slX X x.fr w fv) (hk:slX X x.keys w kv) (hlf:x.fr.length≤1000000) (hlk:x.keys.length≤1000000) :
 Calls Tryz.prog 276 #[.int .i64 op,.agg #[.string (Qag hw),.int .i64 x.pos,.int .i64 x.tag,.bool x.octet,fv,kv]] w fun e w'=>∃ a1 k1 a2 k2,e=.returned (Qdk (Qcu op x) (.slice a1 x.fr.length k1) (.slice a2 x.keys.length k2))∧SlT w' (.slice a1 x.fr.length k1) x.fr∧SlT w' (.slice a2 x.keys.length k2) x.keys∧Below w.heap.size w w':=by
 have HF:=Qaa hf
 have HK:=Qaa hk
 obtain ⟨gf,cf,rfl,hx1⟩:=hf
 obtain ⟨gk,ck,rfl,hx2⟩:=hk
 clear hx1 hx2
 go_enter Tryz.func276,Tryz.ntmps276
 go_wp2_with fail
 obtain ⟨W,hW⟩:∃ W,W=(w.alloc (.cells #[.string (Qag hw),.int .i64 x.pos,.int .i64 x.tag,.bool x.octet,.slice (some ⟨gf,0,none⟩) x.fr.length cf,.slice (some ⟨gk,0,none⟩) x.keys.length ck] 211)).alloc (.cells #[.int .i64 0,.int .i64 0,.int .i64 0,.bool false,.slice none 0 0,.slice none 0 0,.int .i64 0] 147):=⟨_,rfl⟩
 rw [← hW]
 have hWB:Below w.heap.size w W:=by rw [hW];exact ((Below.refl _ _).alloc (Nat.le_refl _) _).alloc (by simp) _
 have hWb:W.heap[w.heap.size]?=some (.cells #[.string (Qag hw),.int .i64 x.pos,.int .i64 x.tag,.bool x.octet,.slice (some ⟨gf,0,none⟩) x.fr.length cf,.slice (some ⟨gk,0,none⟩) x.keys.length ck] 211):=by rw [hW];exact Qad (QaB _ _)
 have hWr:W.heap[w.heap.size+1]?=some (.cells #[.int .i64 0,.int .i64 0,.int .i64 0,.bool false,.slice none 0 0,.slice none 0 0,.int .i64 0] 147):=by rw [hW];exact Qaw (by simp)
 clear hW
 have c2:W.cell? ⟨w.heap.size,2,none⟩=some (.int .i64 x.tag):=Qab hWb 2
 have c3:W.cell? ⟨w.heap.size,3,none⟩=some (.bool x.octet):=Qab hWb 3
 have c4:W.cell? ⟨w.heap.size,4,none⟩=some (.slice (some ⟨gf,0,none⟩) x.fr.length cf):=Qab hWb 4
 have c5:W.cell? ⟨w.heap.size,5,none⟩=some (.slice (some ⟨gk,0,none⟩) x.keys.length ck):=Qab hWb 5
 have HFW:=Qaa (HF.out.keep (w':=W) (fun k _ hk=>hWB.block k hk))
 have HKW:=Qaa (HK.out.keep (w':=W) (fun k _ hk=>hWB.block k hk))
 have HWB:=Qaa hWB
 have HWb:=Qaa hWb
 have HWr:=Qaa hWr
 have hWs:=hWB.size
 have hWl:=QaM hWr
 clear hWB hWb hWr
 go_region_held3 (fun w'=>w'.cell? ⟨w.heap.size,2,none⟩=some (.int .i64 x.tag)∧w'.cell? ⟨w.heap.size,3,none⟩=some (.bool x.octet)∧w'.cell? ⟨w.heap.size,4,none⟩=some (.slice (some ⟨gf,0,none⟩) x.fr.length cf)∧w'.cell? ⟨w.heap.size,5,none⟩=some (.slice (some ⟨gk,0,none⟩) x.keys.length ck)) (first | go_keep | exact ⟨Qab HW2.out 2,Qab HW2.out 3,Qab HW2.out 4,Qab HW2.out 5⟩) (first
  | (have gg:=HB1;go_at_call 277;refine (QeG X x.keys _ _ HKW1.out hlk).mono ?_;rintro e w2 ⟨a2,k2,rfl,hs2,hB2⟩;have HB2:=Qaa (HB1.out.trans (hB2.mono h1s));have HW2:=Qaa (Qaq HW1.out hB2);have HR2:=Qaa (Qaq HR1.out hB2);have HS2:=Qaa hs2;have HS12:=Qaa (HS1.out.below hB2);have e2:w2.cell? ⟨w.heap.size,2,none⟩=some (.int .i64 x.tag):=Qab HW2.out 2;have e3:w2.cell? ⟨w.heap.size,3,none⟩=some (.bool x.octet):=Qab HW2.out 3;have e4:w2.cell? ⟨w.heap.size,4,none⟩=some (.slice (some ⟨gf,0,none⟩) x.fr.length cf):=Qab HW2.out 4;have e5:w2.cell? ⟨w.heap.size,5,none⟩=some (.slice (some ⟨gk,0,none⟩) x.keys.length ck):=Qab HW2.out 5;have z0:w2.cell? ⟨w.heap.size+1,0,none⟩=some (.int .i64 0):=Qab HR2.out 0;have z1:w2.cell? ⟨w.heap.size+1,1,none⟩=some (.int .i64 0):=Qab HR2.out 1;have z2:w2.cell? ⟨w.heap.size+1,2,none⟩=some (.int .i64 0):=Qab HR2.out 2;have z3:w2.cell? ⟨w.heap.size+1,3,none⟩=some (.bool false):=Qab HR2.out 3;have z4:w2.cell? ⟨w.heap.size+1,4,none⟩=some (.slice none 0 0):=Qab HR2.out 4;have z5:w2.cell? ⟨w.heap.size+1,5,none⟩=some (.slice none 0 0):=Qab HR2.out 5;have z6:w2.cell? ⟨w.heap.size+1,6,none⟩=some (.int .i64 0):=Qab HR2.out 6;have ef:=Qam HR2.out;clear hB2 hs2;skip)
  | (go_at_call 277;refine (QeG X x.fr _ _ (HFW.out.keep (w':=W.drew) (fun _ _ _=>rfl)) hlf).mono ?_;rintro e w1 ⟨a1,k1,rfl,hs1,hB1⟩;have HB1:=Qaa (HWB.out.drew.trans (hB1.mono hWs));have HW1:=Qaa (Qaq (w:=W.drew) HWb.out hB1);have HR1:=Qaa (Qaq (w:=W.drew) HWr.out hB1);have HS1:=Qaa hs1;have d2:w1.cell? ⟨w.heap.size,2,none⟩=some (.int .i64 x.tag):=Qab HW1.out 2;have d3:w1.cell? ⟨w.heap.size,3,none⟩=some (.bool x.octet):=Qab HW1.out 3;have d4:w1.cell? ⟨w.heap.size,4,none⟩=some (.slice (some ⟨gf,0,none⟩) x.fr.length cf):=Qab HW1.out 4;have d5:w1.cell? ⟨w.heap.size,5,none⟩=some (.slice (some ⟨gk,0,none⟩) x.keys.length ck):=Qab HW1.out 5;have h1s:=HB1.out.size;have HKW1:=Qaa (HKW.out.keep (w':=w1) (fun k _ hk=>hB1.block k hk));clear hB1 hs1;skip))
 all_goals (
  clear ef z0 z1 z2 z3 z4 z5 z6
  change Exit.then _ _ Exit.normal _ (setIns w2 (w.heap.size+1) (Qcu op x) (.slice a1 x.fr.length k1) (.slice a2 x.keys.length k2))
  obtain ⟨hUb,hUf⟩:=QmG w2 (w.heap.size+1) (Qcu op x) (.slice a1 x.fr.length k1) (.slice a2 x.keys.length k2) _ _ _ _ _ _ _ HR2.out
  generalize setIns w2 (w.heap.size+1) (Qcu op x) (.slice a1 x.fr.length k1) (.slice a2 x.keys.length k2)=U at *
  have HUB:Hid (Below w.heap.size w U):=HB2.out.trans (hUf.below (fun k o e=>by rw [e.1];omega) HB2.out.size)
  have HU1:=Qaa (SlT.fr HS12.out hUf (fun k cs e=>Bool.noConfusion e.2))
  have HU2:=Qaa (SlT.fr HS2.out hUf (fun k cs e=>Bool.noConfusion e.2))
  have y0:U.cell? ⟨w.heap.size+1,0,none⟩=some (.int .i64 op):=Qab hUb 0
  have y1:U.cell? ⟨w.heap.size+1,1,none⟩=some (.int .i64 0):=Qab hUb 1
  have y2:U.cell? ⟨w.heap.size+1,2,none⟩=some (.int .i64 x.tag):=Qab hUb 2
  have y3:U.cell? ⟨w.heap.size+1,3,none⟩=some (.bool x.octet):=Qab hUb 3
  have y4:U.cell? ⟨w.heap.size+1,4,none⟩=some (.slice a1 x.fr.length k1):=Qab hUb 4
  have y5:U.cell? ⟨w.heap.size+1,5,none⟩=some (.slice a2 x.keys.length k2):=Qab hUb 5
  have y6:U.cell? ⟨w.heap.size+1,6,none⟩=some (.int .i64 0):=Qab hUb 6
  clear hUb hUf
  go_wp2
  refine bodyPost_ret (v:=Qdk (Qcu op x) (.slice a1 x.fr.length k1) (.slice a2 x.keys.length k2)) (by simp [results,Tryz.results276,go_sem,Qdk,Qcu,y0,y1,y2,y3,y4,y5,y6]) rfl ?_
  exact ⟨a1,k1,a2,k2,rfl,HU1.out,HU2.out,HUB.out⟩)
end
section
open Go.RowKit
attribute [local go_sem ↓] Go.wp_at_zero Go.wp_at_succ
theorem Qnj (hw:List UInt8) (p:Nat) (arg:List UInt8) (w:World) :
 Calls Tryz.prog 232 #[.agg #[.string (Qag hw),.int .i64 p,.int .i64 1,.string (Qag arg)]] w fun e w'=>e=.returned (Qdk (Qim 1 p []) (.slice none 0 0) (.slice none 0 0))∧Below w.heap.size w w':=by
 go_enter Tryz.func232,Tryz.ntmps232
 go_wp2
 refine bodyPost_ret (v:=Qdk (Qim 1 p []) (.slice none 0 0) (.slice none 0 0)) (by simp [results,Tryz.results232,go_sem,Qdk,Qim]) rfl ?_
 exact ⟨rfl,(((Below.refl _ _).alloc (Nat.le_refl _) _).alloc (by simp) _).alloc (by simp;omega) _⟩
theorem QkE (hw:List UInt8) (p:Nat) (k:Nat) (arg:List UInt8) (w:World) (hk:k≠1) :
 Calls Tryz.prog 232 #[.agg #[.string (Qag hw),.int .i64 p,.int .i64 k,.string (Qag arg)]] w fun e w'=>∃ g,e=.returned (Qdk (Qim k p [arg]) (.slice (some ⟨g,0,none⟩) 1 1) (.slice none 0 0))∧SlT w' (.slice (some ⟨g,0,none⟩) 1 1) [arg]∧Below w.heap.size w w':=by
 have hk':((k:Int) != 1)=true:=by simp;omega
 go_enter Tryz.func232,Tryz.ntmps232
 go_wp2
 refine bodyPost_ret (v:=Qdk (Qim k p [arg]) (.slice (some ⟨w.heap.size+1+1+1,0,none⟩) 1 1) (.slice none 0 0)) (by simp [results,Tryz.results232,go_sem,Qdk,Qim]) rfl ?_
 refine ⟨w.heap.size+1+1+1,rfl,Or.inr ⟨w.heap.size+1+1+1,1,rfl,#[.string (Qag arg)],Qaw (by simp),fun j hj=>?_⟩,((((Below.refl _ _).alloc (Nat.le_refl _) _).alloc (by simp) _).alloc (by simp;omega) _).alloc (by simp;omega) _⟩
 have:j=0:=by simp at hj;exact hj
 subst this;rfl
end
end Go.Proofs.YtbiclelojbfnbabGreatDoor
