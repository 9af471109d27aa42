import Derived.Test.YtgnkjijocdmniaaGreatDoorZGroup
import Derived.Test.YtgnkjijocdmniaaGreatDoorZPlainQ3
import Derived.Test.YtgnkjijocdmniaaGreatDoorZQFits
import Derived.Test.YtgnkjijocdmniaaGreatDoorSet
namespace Go.Proofs.YtgnkjijocdmniaaGreatDoor
set_option linter.unusedVariables false
set_option linter.unusedSimpArgs false
set_option maxRecDepth 100000
set_option maxHeartbeats 4000000
section
open Go.RowKit
def ReqV (w:World) (b:Nat) (rv:Value) (req:List (List UInt8)):Prop:=
 (rv=.slice none 0 0∧req=[])∨∃ g c,rv=.slice (some ⟨g,0,none⟩) req.length c∧g≠b∧TxtAt w g req∧req≠[]∧req.length≤1000
theorem ReqV.mod {w w':World} {b:Nat} {rv:Value} {req:List (List UInt8)} (h:ReqV w b rv req) (hm:Mod b w w'):ReqV w' b rv req:=by
 rcases h with h | ⟨g,c,h1,h2,h3,h4,h5⟩
 ·exact Or.inl h
 ·exact Or.inr ⟨g,c,h1,h2,fun j hj=>cell_mod (h3 j hj) hm h2,h4,h5⟩
theorem contains_req (w:World) (b:Nat) (rv:Value) (req:List (List UInt8)) (x:List UInt8) (h:ReqV w b rv req) :
 Calls Tryz.prog 64 #[rv,.string (strA x)] w fun e w'=>e=.returned (.bool (decide (0 < whichL req x)))∧w'=w:=by
 rcases h with ⟨rfl,rfl⟩ | ⟨g,c,rfl,h2,h3,h4,h5⟩
 ·exact Tryz.slices_Contains_string_empty none 0 (strA x) w
 ·exact contains_any g _ c req x w h3 rfl h5
theorem useOk_one {req:List (List UInt8)} {sp:List UInt8} (h:sp=kFileinto∨sp=kReject∨sp=kEnvelope):useOk req sp=decide (0 < whichL req sp):=by unfold useOk;rw [if_pos h]
theorem useOk_two {req:List (List UInt8)} {sp:List UInt8} (h:¬ (sp=kFileinto∨sp=kReject∨sp=kEnvelope)) (h2:sp=kSet∨sp=kString):useOk req sp=decide (0 < whichL req kVariables):=by unfold useOk;rw [if_neg h,if_pos h2]
theorem useOk_three {req:List (List UInt8)} {sp:List UInt8} (h:¬ (sp=kFileinto∨sp=kReject∨sp=kEnvelope)) (h2:¬ (sp=kSet∨sp=kString)):useOk req sp=true:=by unfold useOk;rw [if_neg h,if_neg h2]
theorem mayUse_any (sp:List UInt8) (req:List (List UInt8)) (b:Nat) (t:ByteArray) (s:PS) (rv:Value) (mc mt:Nat) (w:World) (h:RC w b t s rv mc mt) (hr:ReqV w b rv req) :
 Calls Tryz.prog 235 #[.pointer (some ⟨b,0,none⟩),.string (strA sp)] w fun e w'=>e=.returned (.bool (useOk req sp))∧w'=w:=by
 have h7:w.cell? ⟨b,7,none⟩=some rv:=h.at_.cell 7
 have HC:=hide (fun x=>contains_req w b rv req x hr)
 obtain ⟨ra,rn,rc,hrv⟩:∃ a n c,rv=.slice a n c:=by
  rcases hr with ⟨h,_⟩ | ⟨g,c,h,_⟩
  ·exact ⟨_,_,_,h⟩
  ·exact ⟨_,_,_,h⟩
 subst hrv
 clear h hr
 have e1:((strA sp).toList == [102,105,108,101,105,110,116,111])=decide (sp=kFileinto):=strA_beq sp kFileinto
 have e2:((strA sp).toList == [114,101,106,101,99,116])=decide (sp=kReject):=strA_beq sp kReject
 have e3:((strA sp).toList == [101,110,118,101,108,111,112,101])=decide (sp=kEnvelope):=strA_beq sp kEnvelope
 have e4:((strA sp).toList == [115,101,116])=decide (sp=kSet):=strA_beq sp kSet
 have e5:((strA sp).toList == [115,116,114,105,110,103])=decide (sp=kString):=strA_beq sp kString
 by_cases a1:sp=kFileinto
 ·have HE:=hide (useOk_one (req:=req) (Or.inl a1))
  rw [decide_eq_true a1] at e1
  clear e2 e3 e4 e5
  clear a1
  go_enter Tryz.func235,Tryz.ntmps235
  go_wp2_with (go_at_call 64;refine (HC.out sp).mono ?_;rintro e w' ⟨rfl,rfl⟩)
  go_ret
  exact ⟨ret_bool (by rw [HE.out]),rfl⟩
 by_cases a2:sp=kReject
 ·have HE:=hide (useOk_one (req:=req) (Or.inr (Or.inl a2)))
  rw [decide_eq_false a1] at e1
  rw [decide_eq_true a2] at e2
  clear e3 e4 e5
  clear a2 a1
  go_enter Tryz.func235,Tryz.ntmps235
  go_wp2_with (go_at_call 64;refine (HC.out sp).mono ?_;rintro e w' ⟨rfl,rfl⟩)
  go_ret
  exact ⟨ret_bool (by rw [HE.out]),rfl⟩
 by_cases a3:sp=kEnvelope
 ·have HE:=hide (useOk_one (req:=req) (Or.inr (Or.inr a3)))
  rw [decide_eq_false a1] at e1
  rw [decide_eq_false a2] at e2
  rw [decide_eq_true a3] at e3
  clear e4 e5
  clear a3 a1 a2
  go_enter Tryz.func235,Tryz.ntmps235
  go_wp2_with (go_at_call 64;refine (HC.out sp).mono ?_;rintro e w' ⟨rfl,rfl⟩)
  go_ret
  exact ⟨ret_bool (by rw [HE.out]),rfl⟩
 have hN:¬ (sp=kFileinto∨sp=kReject∨sp=kEnvelope):=by
  rintro (h | h | h)
  ·exact a1 h
  ·exact a2 h
  ·exact a3 h
 by_cases a4:sp=kSet
 ·have HE:=hide (useOk_two (req:=req) hN (Or.inl a4))
  clear hN
  rw [decide_eq_false a1] at e1
  rw [decide_eq_false a2] at e2
  rw [decide_eq_false a3] at e3
  rw [decide_eq_true a4] at e4
  clear e5
  clear a4 a1 a2 a3
  go_enter Tryz.func235,Tryz.ntmps235
  go_wp2_with (go_at_call 64;refine (HC.out kVariables).mono ?_;rintro e w' ⟨rfl,rfl⟩)
  go_ret
  exact ⟨ret_bool (by rw [HE.out]),rfl⟩
 by_cases a5:sp=kString
 ·have HE:=hide (useOk_two (req:=req) hN (Or.inr a5))
  clear hN
  rw [decide_eq_false a1] at e1
  rw [decide_eq_false a2] at e2
  rw [decide_eq_false a3] at e3
  rw [decide_eq_false a4] at e4
  rw [decide_eq_true a5] at e5
  clear a5 a1 a2 a3 a4
  go_enter Tryz.func235,Tryz.ntmps235
  go_wp2_with (go_at_call 64;refine (HC.out kVariables).mono ?_;rintro e w' ⟨rfl,rfl⟩)
  go_ret
  exact ⟨ret_bool (by rw [HE.out]),rfl⟩
 have HE:=hide (useOk_three (req:=req) hN (by rintro (h | h) <;> contradiction))
 clear hN
 rw [decide_eq_false a1] at e1
 rw [decide_eq_false a2] at e2
 rw [decide_eq_false a3] at e3
 rw [decide_eq_false a4] at e4
 rw [decide_eq_false a5] at e5
 clear a1 a2 a3 a4 a5
 go_enter Tryz.func235,Tryz.ntmps235
 go_wp2_with (go_at_call 64;refine (HC.out sp).mono ?_;rintro e w' ⟨rfl,rfl⟩)
 go_ret
 exact ⟨ret_bool (by rw [HE.out]),rfl⟩
end
section
open Go.RowKit
attribute [local go_sem ↓] Go.wp_at_zero Go.wp_at_succ
def slX (X:Nat→Prop) (xs:List (List UInt8)) (w:World) (v:Value):Prop:=
 ∃ g c,v=.slice (some ⟨g,0,none⟩) xs.length c∧X g∧TxtAt w g xs∧xs≠[]
theorem slB.toX {B:Nat} {xs:List (List UInt8)} {w:World} {v:Value} (h:slB B xs w v):slX (fromB B) xs w v:=h
theorem slX.keep {X:Nat→Prop} {xs:List (List UInt8)} {w w':World} {v:Value} (h:slX X xs w v) (hk:AbvX X w w'):slX X xs w' v:=by
 obtain ⟨g,c,hv,hg,ht,hx⟩:=h
 refine ⟨g,c,hv,hg,fun j hj=>?_,hx⟩
 have:=ht j hj
 rw [World.cell?_of_block (w:=w) (a:=⟨g,j,none⟩) (hk g hg (cell_lt this))]
 exact this
theorem slX.weak {X Y:Nat→Prop} {xs:List (List UInt8)} {w:World} {v:Value} (h:slX X xs w v) (hB:∀ k,X k→k < w.heap.size→Y k):slX Y xs w v:=by
 obtain ⟨g,c,hv,hg,ht,hx⟩:=h
 exact ⟨g,c,hv,hB g hg (cell_lt (ht 0 (List.length_pos_iff.2 hx))),ht,hx⟩
def mtX (X:Nat→Prop) (hw:List UInt8) (x:TLab) (w:World) (v:Value):Prop:=
 ∃ fv kv,v=.agg #[.string (strA hw),.int .i64 x.pos,.int .i64 x.tag,.bool x.octet,fv,kv]∧slX X x.fr w fv∧slX X x.keys w kv
def tnode {α:Type} (X:Nat→Prop) (P:(Nat→Prop)→α→World→Value→Prop) (x:TLab×List α) (w:World) (v:Value):Prop:=
 match x.1.kind with
 | 0=>x.2=[]∧v=.iface 302 (.agg #[.string (strA kTrue),.int .i64 x.1.pos,.bool true])
 | 1=>x.2=[]∧v=.iface 302 (.agg #[.string (strA kFalse),.int .i64 x.1.pos,.bool false])
 | 2=>∃ a u,x.2=[a]∧v=.iface 305 (.agg #[.string (strA kNot),.int .i64 x.1.pos,u])∧P X a w u
 | 3=>∃ u,v=.iface 224 (.agg #[.string (strA kAllof),.int .i64 x.1.pos,u])∧trX X P x.2 w u∧x.2≠[]
 | 4=>∃ u,v=.iface 225 (.agg #[.string (strA kAnyof),.int .i64 x.1.pos,u])∧trX X P x.2 w u∧x.2≠[]
 | 5=>x.2=[]∧∃ u,v=.iface 231 u∧mtX X kHeader x.1 w u
 | 6=>x.2=[]∧∃ u,v=.iface 234 u∧mtX X kEnvelope x.1 w u
 | 7=>x.2=[]∧∃ u,v=.iface 235 u∧mtX X kString x.1 w u
 | 8=>x.2=[]∧∃ u,v=.iface 309 (.agg #[.string (strA kExists),.int .i64 x.1.pos,u])∧slX X x.1.fr w u
 | _=>x.2=[]∧v=.iface 311 (.agg #[.string (strA kSize),.int .i64 x.1.pos,.int .i64 x.1.tag,.int .i64 x.1.num])
def TestV:(n:Nat)→(Nat→Prop)→TestT n→World→Value→Prop
 | 0,_,_,_,_=>False
 | n+1,X,x,w,v=>tnode X (TestV n) x w v
theorem tnode_form {α:Type} {X:Nat→Prop} {P:(Nat→Prop)→α→World→Value→Prop} {x:TLab×List α} {w:World} {v:Value} (h:tnode X P x w v):∃ ty y,v=.iface ty y:=by
 unfold tnode at h
 split at h
 ·exact ⟨_,_,h.2⟩
 ·exact ⟨_,_,h.2⟩
 ·obtain ⟨a,u,_,h,_⟩:=h;exact ⟨_,_,h⟩
 ·obtain ⟨u,h,_⟩:=h;exact ⟨_,_,h⟩
 ·obtain ⟨u,h,_⟩:=h;exact ⟨_,_,h⟩
 ·obtain ⟨_,u,h,_⟩:=h;exact ⟨_,_,h⟩
 ·obtain ⟨_,u,h,_⟩:=h;exact ⟨_,_,h⟩
 ·obtain ⟨_,u,h,_⟩:=h;exact ⟨_,_,h⟩
 ·obtain ⟨_,u,h,_⟩:=h;exact ⟨_,_,h⟩
 ·exact ⟨_,_,h.2⟩
theorem mtX.keep {X:Nat→Prop} {hw:List UInt8} {x:TLab} {w w':World} {v:Value} (h:mtX X hw x w v) (hk:AbvX X w w'):mtX X hw x w' v:=by
 obtain ⟨fv,kv,h1,h2,h3⟩:=h;exact ⟨fv,kv,h1,h2.keep hk,h3.keep hk⟩
theorem mtX.weak {X Y:Nat→Prop} {hw:List UInt8} {x:TLab} {w:World} {v:Value} (h:mtX X hw x w v) (hB:∀ k,X k→k < w.heap.size→Y k):mtX Y hw x w v:=by
 obtain ⟨fv,kv,h1,h2,h3⟩:=h;exact ⟨fv,kv,h1,h2.weak hB,h3.weak hB⟩
theorem tnode_keep {α:Type} {X:Nat→Prop} {P:(Nat→Prop)→α→World→Value→Prop} (hP:TreeP P) {x:TLab×List α} {w w':World} {v:Value} (h:tnode X P x w v) (hk:AbvX X w w'):tnode X P x w' v:=by
 unfold tnode at h ⊢
 split at h
 ·exact h
 ·exact h
 ·obtain ⟨a,u,h1,h2,h3⟩:=h;exact ⟨a,u,h1,h2,hP.keep _ _ _ _ _ h3 hk⟩
 ·obtain ⟨u,h1,h2,h3⟩:=h;exact ⟨u,h1,h2.keep hP hk,h3⟩
 ·obtain ⟨u,h1,h2,h3⟩:=h;exact ⟨u,h1,h2.keep hP hk,h3⟩
 ·obtain ⟨h0,u,h1,h2⟩:=h;exact ⟨h0,u,h1,h2.keep hk⟩
 ·obtain ⟨h0,u,h1,h2⟩:=h;exact ⟨h0,u,h1,h2.keep hk⟩
 ·obtain ⟨h0,u,h1,h2⟩:=h;exact ⟨h0,u,h1,h2.keep hk⟩
 ·obtain ⟨h0,u,h1,h2⟩:=h;exact ⟨h0,u,h1,h2.keep hk⟩
 ·exact h
theorem tnode_weak {α:Type} {X Y:Nat→Prop} {P:(Nat→Prop)→α→World→Value→Prop} (hP:TreeP P) {x:TLab×List α} {w:World} {v:Value} (h:tnode X P x w v) (hB:∀ k,X k→k < w.heap.size→Y k):tnode Y P x w v:=by
 unfold tnode at h ⊢
 split at h
 ·exact h
 ·exact h
 ·obtain ⟨a,u,h1,h2,h3⟩:=h;exact ⟨a,u,h1,h2,hP.weak _ _ _ _ _ h3 hB⟩
 ·obtain ⟨u,h1,h2,h3⟩:=h;exact ⟨u,h1,trX.weak hP h3 h2 hB,h3⟩
 ·obtain ⟨u,h1,h2,h3⟩:=h;exact ⟨u,h1,trX.weak hP h3 h2 hB,h3⟩
 ·obtain ⟨h0,u,h1,h2⟩:=h;exact ⟨h0,u,h1,h2.weak hB⟩
 ·obtain ⟨h0,u,h1,h2⟩:=h;exact ⟨h0,u,h1,h2.weak hB⟩
 ·obtain ⟨h0,u,h1,h2⟩:=h;exact ⟨h0,u,h1,h2.weak hB⟩
 ·obtain ⟨h0,u,h1,h2⟩:=h;exact ⟨h0,u,h1,h2.weak hB⟩
 ·exact h
theorem testV_tree:∀ n,TreeP (TestV n)
 | 0=>⟨fun _ _ _ _ h=>h.elim,fun _ _ _ _ _ h=>h.elim,fun _ _ _ _ _ h=>h.elim⟩
 | n+1=>⟨fun _ _ _ _ h=>tnode_form h,fun _ _ _ _ _ h hk=>tnode_keep (testV_tree n) h hk,fun _ _ _ _ _ h hB=>tnode_weak (testV_tree n) h hB⟩
def LookOk (w:World) (T:TypeId) (m:Nat) (f:List UInt8→Option Value):Prop:=
 ∀ (W:World) (x:List UInt8),W.heap[m]?=w.heap[m]?→(Instr.lookup T (.map (some m)) (.string (strA x)) true).run Tryz.prog W=.ok (.tuple #[(f x).getD .nilFunc,.bool (f x).isSome]) W
def testFn (b pr pt pf:Nat) (x:List UInt8):Option Value:=
 match whichL testNames x with
 | 1=>some (.func (.func 185) #[] #[.pointer (some ⟨pt,0,none⟩)])
 | 2=>some (.func (.func 185) #[] #[.pointer (some ⟨pf,0,none⟩)])
 | 3=>some (.func (.func 128) #[.pointer (some ⟨b,0,none⟩)] #[])
 | 4=>some (.func (.func 129) #[] #[.pointer (some ⟨pr,0,none⟩)])
 | 5=>some (.func (.func 131) #[] #[.pointer (some ⟨pr,0,none⟩)])
 | 6=>some (.func (.func 132) #[] #[.pointer (some ⟨pr,0,none⟩)])
 | 7=>some (.func (.func 135) #[] #[.pointer (some ⟨pr,0,none⟩)])
 | 8=>some (.func (.func 138) #[] #[.pointer (some ⟨pr,0,none⟩)])
 | 9=>some (.func (.func 139) #[.pointer (some ⟨b,0,none⟩)] #[])
 | 10=>some (.func (.func 140) #[.pointer (some ⟨b,0,none⟩)] #[])
 | _=>none
structure TMap (w:World) (b mt pr pt pf:Nat):Prop where
 look:LookOk w 208 mt (testFn b pr pt pf)
 hpr:PrAt w pr b
 hpt:w.cell? ⟨pt,0,none⟩=some (.bool true)
 hpf:w.cell? ⟨pf,0,none⟩=some (.bool false)
 ptb:pt≠b
 pfb:pf≠b
 mtb:mt≠b
 mtl:mt < w.heap.size
theorem TMap.mod {w w':World} {b mt pr pt pf:Nat} (h:TMap w b mt pr pt pf) (hm:Mod b w w'):TMap w' b mt pr pt pf:=
 ⟨fun W x e=>h.look W x (e.trans (hm.block mt h.mtl h.mtb)),h.hpr.mod hm,cell_mod h.hpt hm h.ptb,cell_mod h.hpf hm h.pfb,h.ptb,h.pfb,h.mtb,Nat.lt_of_lt_of_le h.mtl hm.size⟩
theorem testFn_none {b pr pt pf:Nat} {x:List UInt8} (h:whichL testNames x=0):testFn b pr pt pf x=none:=by unfold testFn;rw [h];rfl
theorem beginT_unknown (d:Int) (b:Nat) (t:ByteArray) (s:PS) (rv:Value) (mc mt pr pt pf:Nat) (w:World) (h:RC w b t s rv mc mt) (ht:TMap w b mt pr pt pf) (hd:d≤6) (h0:whichL testNames s.1.spelt=0) :
 Calls Tryz.prog 222 #[.pointer (some ⟨b,0,none⟩),.map (some mt),.int .i64 d] w fun e w'=>Threw ⟨4,s.1.pos⟩ w e w'∧Mod b w w':=by
 have h1:w.cell? ⟨b,1,none⟩=some (.int .i64 s.1.kind):=h.at_.cell 1
 have h3:w.cell? ⟨b,3,none⟩=some (.string (strA s.1.spelt)):=h.at_.cell 3
 have hlk:=ht.look w s.1.spelt rfl
 rw [testFn_none h0] at hlk
 have H:=hide h
 clear h ht h0
 simp only [Option.getD_none,Option.isSome_none] at hlk
 by_cases hk:s.1.kind=1
 ·have hk':((s.1.kind:Int) != 1)=false:=by simp;omega
  clear hk
  go_enter Tryz.func222,Tryz.ntmps222
  go_wp2_with fail
  refine (demand_yes b _ _ _ rfl).mono ?_
  rintro e w' ⟨rfl,hww⟩
  subst hww
  go_wp2_with fail
  refine (demand_no b 4 _ _ t s.1 s.2 rv mc mt _ H.out.at_ rfl rfl).mono ?_
  rintro e w1 ⟨⟨bb,hz,rfl,hcc⟩,hm⟩
  exact ⟨rfl,⟨bb,hz,rfl,hcc⟩,Mod.of_below hm⟩
 ·have hk':((s.1.kind:Int) != 1)=true:=by simp;omega
  clear hk
  go_enter Tryz.func222,Tryz.ntmps222
  go_wp2_with fail
  refine (demand_yes b _ _ _ rfl).mono ?_
  rintro e w' ⟨rfl,hww⟩
  subst hww
  go_wp2_with fail
  refine (demand_no b 4 _ _ t s.1 s.2 rv mc mt _ H.out.at_ rfl rfl).mono ?_
  rintro e w1 ⟨⟨bb,hz,rfl,hcc⟩,hm⟩
  exact ⟨rfl,⟨bb,hz,rfl,hcc⟩,Mod.of_below hm⟩
end
section
open Go.RowKit
def armsX {α β:Type} (X:Nat→Prop) (P1:(Nat→Prop)→β→World→Value→Prop) (P2:(Nat→Prop)→α→World→Value→Prop) (xs:List (β×List α)) (w:World) (v:Value):Prop:=
 ∃ g c,v=.slice (some ⟨g,0,none⟩) xs.length c∧X g∧∀ j (hj:j < xs.length),∃ u bv,w.cell? ⟨g,2*j,none⟩=some u∧w.cell? ⟨g,2*j+1,none⟩=some bv∧P1 X xs[j].1 w u∧blX X P2 xs[j].2 w bv
theorem armsX.keep {α β:Type} {X:Nat→Prop} {P1:(Nat→Prop)→β→World→Value→Prop} {P2:(Nat→Prop)→α→World→Value→Prop} (h1:TreeP P1) (h2:TreeP P2) {xs:List (β×List α)} {w w':World} {v:Value} (h:armsX X P1 P2 xs w v) (hm:AbvX X w w'):armsX X P1 P2 xs w' v:=by
 obtain ⟨g,c,hv,hg,hx⟩:=h
 refine ⟨g,c,hv,hg,fun j hj=>?_⟩
 obtain ⟨u,bv,hu,hb,hp,hq⟩:=hx j hj
 refine ⟨u,bv,?_,?_,h1.keep _ _ _ _ _ hp hm,hq.keep h2 hm⟩
 ·rw [World.cell?_of_block (w:=w) (a:=⟨g,2*j,none⟩) (hm g hg (cell_lt hu))]
  exact hu
 ·rw [World.cell?_of_block (w:=w) (a:=⟨g,2*j+1,none⟩) (hm g hg (cell_lt hb))]
  exact hb
theorem armsX.weak {α β:Type} {X Y:Nat→Prop} {P1:(Nat→Prop)→β→World→Value→Prop} {P2:(Nat→Prop)→α→World→Value→Prop} (h1:TreeP P1) (h2:TreeP P2) {xs:List (β×List α)} {w:World} {v:Value} (hne:xs≠[]) (h:armsX X P1 P2 xs w v) (hB:∀ k,X k→k < w.heap.size→Y k):armsX Y P1 P2 xs w v:=by
 obtain ⟨g,c,hv,hg,hx⟩:=h
 refine ⟨g,c,hv,?_,fun j hj=>?_⟩
 ·obtain ⟨u,bv,hu,_⟩:=hx 0 (List.length_pos_iff.2 hne)
  exact hB g hg (cell_lt hu)
 ·obtain ⟨u,bv,hu,hb,hp,hq⟩:=hx j hj
  exact ⟨u,bv,hu,hb,h1.weak _ _ _ _ _ hp hB,hq.weak h2 hB⟩
def actV (hw:List UInt8) (p k:Nat) (x:List UInt8):Value:=.iface 269 (.agg #[.string (strA hw),.int .i64 p,.int .i64 k,.string (strA x)])
def cnode {α β:Type} (X:Nat→Prop) (P1:(Nat→Prop)→β→World→Value→Prop) (P2:(Nat→Prop)→α→World→Value→Prop) (x:CLab×List (β×List α)×List α) (w:World) (v:Value):Prop:=
 match x.1.kind with
 | 0=>v=actV kKeep x.1.pos 1 []
 | 1=>v=.iface 294 (.agg #[.string (strA kDiscard),.int .i64 x.1.pos])
 | 2=>v=.iface 295 (.agg #[.string (strA kStop),.int .i64 x.1.pos])
 | 3=>v=actV kFileinto x.1.pos 2 x.1.arg
 | 4=>v=actV kRedirect x.1.pos 3 x.1.arg
 | 5=>v=actV kReject x.1.pos 4 x.1.arg
 | 6=>v=.iface 264 (.agg #[.string (strA kSet),.int .i64 x.1.pos,.int .i64 x.1.tag,.string (strA x.1.var),.string (strA x.1.arg)])
 | _=>∃ av ev,v=.iface 261 (.agg #[.string (strA kIf),.int .i64 x.1.pos,av,.bool x.1.els,ev])∧armsX X P1 P2 x.2.1 w av∧x.2.1≠[]∧blX X P2 x.2.2 w ev
def CmdV:(n:Nat)→(Nat→Prop)→CmdT n→World→Value→Prop
 | 0,_,_,_,_=>False
 | n+1,X,x,w,v=>cnode X (TestV n) (CmdV n) x w v
theorem cnode_form {α β:Type} {X:Nat→Prop} {P1:(Nat→Prop)→β→World→Value→Prop} {P2:(Nat→Prop)→α→World→Value→Prop} {x:CLab×List (β×List α)×List α} {w:World} {v:Value} (h:cnode X P1 P2 x w v):∃ ty y,v=.iface ty y:=by
 unfold cnode actV at h
 split at h
 ·exact ⟨_,_,h⟩
 ·exact ⟨_,_,h⟩
 ·exact ⟨_,_,h⟩
 ·exact ⟨_,_,h⟩
 ·exact ⟨_,_,h⟩
 ·exact ⟨_,_,h⟩
 ·exact ⟨_,_,h⟩
 ·obtain ⟨av,ev,h,_⟩:=h;exact ⟨_,_,h⟩
theorem cnode_keep {α β:Type} {X:Nat→Prop} {P1:(Nat→Prop)→β→World→Value→Prop} {P2:(Nat→Prop)→α→World→Value→Prop} (h1:TreeP P1) (h2:TreeP P2) {x:CLab×List (β×List α)×List α} {w w':World} {v:Value} (h:cnode X P1 P2 x w v) (hk:AbvX X w w'):cnode X P1 P2 x w' v:=by
 unfold cnode at h ⊢
 split at h
 ·exact h
 ·exact h
 ·exact h
 ·exact h
 ·exact h
 ·exact h
 ·exact h
 ·obtain ⟨av,ev,h,ha,hn,hb⟩:=h;exact ⟨av,ev,h,ha.keep h1 h2 hk,hn,hb.keep h2 hk⟩
theorem cnode_weak {α β:Type} {X Y:Nat→Prop} {P1:(Nat→Prop)→β→World→Value→Prop} {P2:(Nat→Prop)→α→World→Value→Prop} (h1:TreeP P1) (h2:TreeP P2) {x:CLab×List (β×List α)×List α} {w:World} {v:Value} (h:cnode X P1 P2 x w v) (hB:∀ k,X k→k < w.heap.size→Y k):cnode Y P1 P2 x w v:=by
 unfold cnode at h ⊢
 split at h
 ·exact h
 ·exact h
 ·exact h
 ·exact h
 ·exact h
 ·exact h
 ·exact h
 ·obtain ⟨av,ev,h,ha,hn,hb⟩:=h;exact ⟨av,ev,h,armsX.weak h1 h2 hn ha hB,hn,hb.weak h2 hB⟩
theorem cmdV_tree:∀ n,TreeP (CmdV n)
 | 0=>⟨fun _ _ _ _ h=>h.elim,fun _ _ _ _ _ h=>h.elim,fun _ _ _ _ _ h=>h.elim⟩
 | n+1=>⟨fun _ _ _ _ h=>cnode_form h,fun _ _ _ _ _ h hk=>cnode_keep (testV_tree n) (cmdV_tree n) h hk,fun _ _ _ _ _ h hB=>cnode_weak (testV_tree n) (cmdV_tree n) h hB⟩
end
section
open Go.RowKit
theorem armsMore_mayErr {α β:Type} {l:List UInt8} {F:Nat} {tst:PS→Except Flt (β×PS)} {sub:PS→Except Flt (α×PS)} {f:Nat} {acc:List (β×List α)} {s:PS} {e:Flt} (h:mayL l [kElsif] s=.error e):armsMore l F tst sub (f+1) acc s=.error e:=by rw [armsMore];exact thenL_err h
theorem armsMore_end {α β:Type} {l:List UInt8} {F:Nat} {tst:PS→Except Flt (β×PS)} {sub:PS→Except Flt (α×PS)} {f:Nat} {acc:List (β×List α)} {s:PS} {y:Nat×PS} (h:mayL l [kElsif] s=.ok y) (h1:y.1=0):armsMore l F tst sub (f+1) acc s=.ok (acc,y.2):=by rw [armsMore,thenL_ok h,if_pos h1]
theorem armsMore_armErr {α β:Type} {l:List UInt8} {F:Nat} {tst:PS→Except Flt (β×PS)} {sub:PS→Except Flt (α×PS)} {f:Nat} {acc:List (β×List α)} {s:PS} {y:Nat×PS} {e:Flt} (h:mayL l [kElsif] s=.ok y) (h1:¬ y.1=0) (h2:armL l F tst sub y.2=.error e):armsMore l F tst sub (f+1) acc s=.error e:=by rw [armsMore,thenL_ok h,if_neg h1];exact thenL_err h2
theorem armsMore_go {α β:Type} {l:List UInt8} {F:Nat} {tst:PS→Except Flt (β×PS)} {sub:PS→Except Flt (α×PS)} {f:Nat} {acc:List (β×List α)} {s:PS} {y:Nat×PS} {z:(β×List α)×PS} (h:mayL l [kElsif] s=.ok y) (h1:¬ y.1=0) (h2:armL l F tst sub y.2=.ok z):armsMore l F tst sub (f+1) acc s=armsMore l F tst sub f (acc++[z.1]) z.2:=by rw [armsMore,thenL_ok h,if_neg h1];exact thenL_ok h2
def Row2P {α:Type} (P:α→Value→Value→Prop):List α→List Value→Prop
 | [],[]=>True
 | a :: xs,u :: v :: vs=>P a u v∧Row2P P xs vs
 | _,_=>False
theorem Row2P.imp {α:Type} {P Q:α→Value→Value→Prop} (h:∀ a u v,P a u v→Q a u v):∀ {xs:List α} {vs:List Value},Row2P P xs vs→Row2P Q xs vs
 | [],[],_=>trivial
 | a :: xs,u :: v :: vs,hr=>⟨h _ _ _ hr.1,Row2P.imp h hr.2⟩
 | [],_ :: _,hr=>hr.elim
 | _ :: _,[],hr=>hr.elim
 | _ :: _,[_],hr=>hr.elim
theorem Row2P.snoc {α:Type} {P:α→Value→Value→Prop} {a:α} {u v:Value} (h:P a u v):∀ {xs:List α} {vs:List Value},Row2P P xs vs→Row2P P (xs++[a]) (vs++[u,v])
 | [],[],_=>⟨h,trivial⟩
 | a' :: xs,u' :: v' :: vs,hr=>⟨hr.1,Row2P.snoc h hr.2⟩
 | [],_ :: _,hr=>hr.elim
 | _ :: _,[],hr=>hr.elim
 | _ :: _,[_],hr=>hr.elim
theorem Row2P.at {α:Type} {P:α→Value→Value→Prop}:∀ {xs:List α} {vs:List Value},Row2P P xs vs→∀ j (hj:j < xs.length),∃ u v,vs[2*j]?=some u∧vs[2*j+1]?=some v∧P xs[j] u v
 | [],[],_,j,hj=>absurd hj (Nat.not_lt_zero _)
 | a :: xs,u :: v :: vs,h,0,_=>⟨u,v,rfl,rfl,h.1⟩
 | a :: xs,u :: v :: vs,h,j+1,hj=>by
  obtain ⟨u',v',h1,h2,h3⟩:=Row2P.at h.2 j (by simpa using hj)
  refine ⟨u',v',?_,?_,by simpa using h3⟩
  ·rw [show 2*(j+1)=2*j+1+1 from by omega];simpa using h1
  ·rw [show 2*(j+1)+1=2*j+1+1+1 from by omega];simpa using h2
 | [],_ :: _,h,_,_=>h.elim
 | _ :: _,[],h,_,_=>h.elim
 | _ :: _,[_],h,_,_=>h.elim
def GathA {α β:Type} (P1:(Nat→Prop)→β→World→Value→Prop) (P2:(Nat→Prop)→α→World→Value→Prop) (base T:Nat) (w:World) (v:Value) (a:β×List α) (u bv:Value):Prop:=
 ∃ X,P1 X a.1 w u∧blX X P2 a.2 w bv∧(∀ k,X k→base≤k∧k < w.heap.size)∧(∀ g,v.ownBlock=some g→¬ X g)∧¬ X T
theorem GathA.mod {α β:Type} {P1:(Nat→Prop)→β→World→Value→Prop} {P2:(Nat→Prop)→α→World→Value→Prop} (hP1:TreeP P1) (hP2:TreeP P2) {base T b:Nat} {w w':World} {v:Value} {a:β×List α} {u bv:Value} (h:GathA P1 P2 base T w v a u bv) (hm:Mod b w w') (hb:b < base):GathA P1 P2 base T w' v a u bv:=by
 obtain ⟨X,h1,h1',h2,h3,h4⟩:=h
 have hA:AbvX X w w':=hm.abvX (fun e=>by have:=(h2 b e).1;omega)
 exact ⟨X,hP1.keep _ _ _ _ _ h1 hA,h1'.keep hP2 hA,fun k hk=>⟨(h2 k hk).1,Nat.lt_of_lt_of_le (h2 k hk).2 hm.size⟩,h3,h4⟩
theorem GathA.set {α β:Type} {P1:(Nat→Prop)→β→World→Value→Prop} {P2:(Nat→Prop)→α→World→Value→Prop} (hP1:TreeP P1) (hP2:TreeP P2) {base T:Nat} {w:World} {v:Value} {a:β×List α} {u bv:Value} (h:GathA P1 P2 base T w v a u bv) (o:Nat) (x:Value):GathA P1 P2 base T (w.setCell ⟨T,o,none⟩ x) v a u bv:=by
 obtain ⟨X,h1,h1',h2,h3,h4⟩:=h
 have hA:AbvX X w (w.setCell ⟨T,o,none⟩ x):=AbvX.set h4 _ _
 exact ⟨X,hP1.keep _ _ _ _ _ h1 hA,h1'.keep hP2 hA,fun k hk=>⟨(h2 k hk).1,by simpa [World.setCell] using (h2 k hk).2⟩,h3,h4⟩
theorem GathA.new {α β:Type} {P1:(Nat→Prop)→β→World→Value→Prop} {P2:(Nat→Prop)→α→World→Value→Prop} (hP1:TreeP P1) (hP2:TreeP P2) {base T B:Nat} {w:World} {v:Value} {a:β×List α} {u bv:Value} (h:P1 (fromB B) a.1 w u) (h':blX (fromB B) P2 a.2 w bv) (hB:base≤B) (hv:∀ g,v.ownBlock=some g→g < B) (hT:T < B):GathA P1 P2 base T w v a u bv:=
 ⟨fun k=>B≤k∧k < w.heap.size,hP1.weak _ _ _ _ _ h (fun k hk hz=>⟨hk,hz⟩),h'.weak hP2 (fun k hk hz=>⟨hk,hz⟩),fun k hk=>⟨Nat.le_trans hB hk.1,hk.2⟩,fun g hg hX=>by have:=hv g hg;omega,fun hX=>by omega⟩
theorem GathA.grown {α β:Type} {P1:(Nat→Prop)→β→World→Value→Prop} {P2:(Nat→Prop)→α→World→Value→Prop} (hP1:TreeP P1) (hP2:TreeP P2) {base T:Nat} {w w':World} {v v':Value} {a:β×List α} {u bv:Value} {o:Obj} (h:GathA P1 P2 base T w v a u bv) (hg:(w.alloc o).grownBy w' v.ownBlock) (hv:v'.ownBlock=v.ownBlock∨v'.ownBlock=some (w.heap.size+1)):GathA P1 P2 base T w' v' a u bv:=by
 obtain ⟨X,h1,h1',h2,h3,h4⟩:=h
 have hA:AbvX X w w':=fun k hk hz=>by
  rw [hg.block k (by simp;omega) (fun e=>h3 k e.symm hk)]
  exact Below.heap_alloc _ _ _ hz
 refine ⟨X,hP1.keep _ _ _ _ _ h1 hA,h1'.keep hP2 hA,fun k hk=>⟨(h2 k hk).1,?_⟩,fun g hgb hX=>?_,h4⟩
 ·have:=(h2 k hk).2;have:=hg.size;simp at this;omega
 ·rcases hv with hv | hv
  ·exact h3 g (hv ▸ hgb) hX
  ·rw [hv] at hgb
   have:=(h2 g hX).2
   simp at hgb
   omega
theorem armsX.of_owns {α β:Type} {P1:(Nat→Prop)→β→World→Value→Prop} {P2:(Nat→Prop)→α→World→Value→Prop} (hP1:TreeP P1) (hP2:TreeP P2) {w:World} {base T n:Nat} {e:TypeId} {v:Value} {xs:List (β×List α)} {vs:List Value} (h:w.ownsRow base e 2 v n vs) (hn:n=xs.length) (hx:xs≠[]) (hvT:∀ g,v.ownBlock=some g→g≠T) (hr:Row2P (fun a u bv=>GathA P1 P2 base T w v a u bv) xs vs):armsX (fun k=>base≤k∧k≠T) P1 P2 xs w v:=by
 subst hn
 have hc:=fun g (hg:v.ownBlock=some g)=>h.cells hg
 obtain ⟨h1,h2⟩:=h
 rcases h2 with ⟨_,h3⟩ | ⟨g,cap,cur,hv,hg,r⟩
 ·exact absurd (List.eq_nil_of_length_eq_zero h3) hx
 ·refine ⟨g,cap,hv,⟨hg,hvT g (by rw [hv];rfl)⟩,fun j hj=>?_⟩
  obtain ⟨u,bv,hu,hb,X,hp,hq,hX,_,hXT⟩:=hr.at j hj
  have k1:=hc g (by rw [hv];rfl) _ u hu
  have k2:=hc g (by rw [hv];rfl) _ bv hb
  rw [addr_add0] at k1 k2
  have hk:∀ k,X k→k < w.heap.size→base≤k∧k≠T:=fun k hk _=>⟨(hX k hk).1,fun e=>hXT (e ▸ hk)⟩
  exact ⟨u,bv,k1,k2,hP1.weak _ _ _ _ _ hp hk,hq.weak hP2 hk⟩
end
section
open Go.RowKit
attribute [local go_sem ↓] Go.wp_at_zero Go.wp_at_succ
def bindS {α:Type} (st:Except Flt PS) (k:PS→Except Flt α):Except Flt α:=
 match st with
 | .ok s=>k s
 | .error f=>.error f
def QPost {α:Type} (r:Except Flt (α×PS)) (tb:Nat) (l:List UInt8) (w:World) (val:α→World→Value→Prop) (any:World→Value→Prop) (e:Ending) (w':World):Prop:=
 Mod tb w w'∧∃ v,e=.returned v∧any w' v∧
 match r with
 | .ok y=>val y.1 w' v∧TGood w' tb l y.2
 | .error f=>TBad w' tb l f
def stOf {α:Type} (r:Except Flt (α×PS)):Except Flt PS:=
 match r with
 | .ok y=>.ok y.2
 | .error f=>.error f
theorem QPost.st {α:Type} {r:Except Flt (α×PS)} {tb:Nat} {l:List UInt8} {w:World} {val:α→World→Value→Prop} {any:World→Value→Prop} {e:Ending} {w':World} (h:QPost r tb l w val any e w'):Mod tb w w'∧TSt w' tb l (stOf r)∧∃ v,e=.returned v∧any w' v∧∀ y,r=.ok y→val y.1 w' v:=by
 obtain ⟨hm,v,he,ha,h⟩:=h
 cases r with
 | ok y=>exact ⟨hm,h.2,v,he,ha,fun z hz=>by cases hz;exact h.1⟩
 | error f=>exact ⟨hm,h,v,he,ha,fun z hz=>by cases hz⟩
theorem QPost.mk {α:Type} {r:Except Flt (α×PS)} {tb:Nat} {l:List UInt8} {w:World} {val:α→World→Value→Prop} {any:World→Value→Prop} {v:Value} {w':World} (hm:Mod tb w w') (ht:TSt w' tb l (stOf r)) (ha:any w' v) (hv:∀ y,r=.ok y→val y.1 w' v):QPost r tb l w val any (.returned v) w':=by
 refine ⟨hm,v,rfl,ha,?_⟩
 cases r with
 | ok y=>exact ⟨hv y rfl,ht⟩
 | error f=>exact ht
def strQ (x:List UInt8) (_:World) (v:Value):Prop:=v=.string (strA x)
def anyStr (_:World) (v:Value):Prop:=∃ x:List UInt8,v=.string (strA x)∧x.length≤600
theorem one_ok {l:List UInt8} {what:Nat} {s:PS} (hk:s.1.kind=5) (hf:fitsL what s.1.said=0):stOf (stringL l (fitsL what) s)=nextL l s.2∧∀ y,stringL l (fitsL what) s=.ok y→y.1=s.1.said:=by
 unfold stringL
 rw [if_pos hk,if_pos hf]
 cases hn:nextL l s.2 with
 | error f=>exact ⟨rfl,fun y e=>by cases e⟩
 | ok s'=>exact ⟨rfl,fun y e=>by cases e;rfl⟩
theorem one_fit {l:List UInt8} {what:Nat} {s:PS} (hk:s.1.kind=5) (hf:¬ fitsL what s.1.said=0):stringL l (fitsL what) s=.error ⟨fitsL what s.1.said,s.1.pos⟩:=by
 unfold stringL
 rw [if_pos hk,if_neg hf]
theorem one_no {l:List UInt8} {what:Nat} {s:PS} (hk:¬ s.1.kind=5):stringL l (fitsL what) s=.error ⟨4,s.1.pos⟩:=by
 unfold stringL
 rw [if_neg hk]
theorem word34 {w:World} {tb:Nat} {l:List UInt8} {st:Except Flt PS} (h:TSt w tb l st) (hk:(wordS l st).1=34):∃ s,st=.ok s∧s.1.kind=5∧sQ s.1=s.1.said∧TGood w tb l s:=by
 cases st with
 | error f=>exact absurd hk (by show ¬ (0:Nat)=34;decide)
 | ok s=>
  have h5:s.1.kind=5:=(kQ_str h.wd).1 hk
  exact ⟨s,rfl,h5,by unfold sQ;rw [h5];rfl,h⟩
theorem word_no34 {w:World} {tb:Nat} {l:List UInt8} {st:Except Flt PS} {what:Nat} (h:TSt w tb l st) (hk:¬ (wordS l st).1=34):stOf (bindS st (stringL l (fitsL what)))=failS st ⟨4,(wordS l st).2.2.2⟩∧∀ y,¬ bindS st (stringL l (fitsL what))=.ok y:=by
 cases st with
 | error f=>exact ⟨rfl,fun y e=>by cases e⟩
 | ok s=>
  have h5:¬ s.1.kind=5:=fun e=>hk ((kQ_str h.wd).2 e)
  have e:bindS (.ok s) (stringL l (fitsL what))=.error ⟨4,s.1.pos⟩:=one_no h5
  rw [e]
  exact ⟨rfl,fun y e=>by cases e⟩
theorem wordS_len {w:World} {tb:Nat} {l:List UInt8} {st:Except Flt PS} (h:TSt w tb l st) (hl:l.length≤600):(wordS l st).2.1.length≤600:=by
 cases st with
 | error f=>exact Nat.zero_le _
 | ok s=>
  show (sQ s.1).length≤600
  exact Nat.le_trans (sQ_len h.sp h.sz.1) hl
theorem qm_below {b:Nat} {u v w:World} (h:Below u.heap.size u v) (hm:Mod b v w):Mod b u w:=(Mod.of_below h).trans hm
theorem qone_any (rb tb:Nat) (nv:Value) (l:List UInt8) (what:Nat) (st:Except Flt PS) (w:World) (hr:RdQ w rb tb nv) (hn:rb≠tb) (h:TSt w tb l st) (hl:l.length≤600) (hw:what≤4) :
 Calls Tryz.prog 114 #[.pointer (some ⟨rb,0,none⟩),.int .i64 what] w (QPost (bindS st (stringL l (fitsL what))) tb l w strQ anyStr):=by
 have r0:w.cell? ⟨rb,0,none⟩=some (.pointer (some ⟨tb,0,none⟩)):=blk_cell hr 0
 obtain ⟨_,c4,c5,c6,c7⟩:=h.cells
 have H:=hide h
 have HR:=hide hr
 have hrl:=blk_lt hr
 have htl:=h.lt
 have HSL:=hide (wordS_len h hl)
 obtain ⟨W0,hW0⟩:∃ W0,W0=w.alloc (.cells #[.int .u8 (wordS l st).1,.string (strA (wordS l st).2.1),.int .i64 (wordS l st).2.2.1,.int .i64 (wordS l st).2.2.2] 136):=⟨_,rfl⟩
 have HWW:=hide hW0
 have HB0:Hid (Below w.heap.size w W0):=by show Below _ _ _;rw [hW0];exact (Below.refl _ _).alloc (Nat.le_refl _) _
 have HK0:Hid (W0.heap[w.heap.size]?=some (.cells #[.int .u8 (wordS l st).1,.string (strA (wordS l st).2.1),.int .i64 (wordS l st).2.2.1,.int .i64 (wordS l st).2.2.2] 136)):=by show _=_;rw [hW0];exact blk_new _ _
 have h0s:=HB0.out.size
 clear h hr hW0
 by_cases hk:(wordS l st).1=34
 ·obtain ⟨s,hst,h5,hsq,hg⟩:=word34 H.out hk
  have e2:(wordS l st).2.1=s.1.said:=by rw [hst];exact hsq
  have e4:(wordS l st).2.2.2=s.1.pos:=by rw [hst];rfl
  have HFT:=hide (fun W=>qfits_any what (wordS l st).2.1 W hw (by have:=HSL.out;omega))
  have hkb:(((wordS l st).1:Int) == 34)=true:=by simp;omega
  have HK:=hide hk
  by_cases hf:fitsL what s.1.said=0
  ·have HF0:Hid (fitsL what (wordS l st).2.1=0):=by show _=_;rw [e2];exact hf
   have HOK:Hid (stOf (bindS st (stringL l (fitsL what)))=signS l 34 st∧∀ y,bindS st (stringL l (fitsL what))=.ok y→y.1=(wordS l st).2.1):=by
    obtain ⟨o1,o2⟩:=one_ok (l:=l) h5 hf
    have e:signS l 34 st=nextL l s.2:=by unfold signS;rw [if_pos hk,hst];rfl
    rw [e,e2]
    rw [hst]
    exact ⟨o1,o2⟩
   clear hf hg hsq hst h5 e2 e4 hk
   go_enter Tryz.func114,Tryz.ntmps114
   go_wp2_with fail
   rw [← HWW.out]
   refine (HFT.out W0).mono ?_
   rintro e w1 ⟨rfl,hb1⟩
   rw [HF0.out]
   have HB1:=hide (HB0.out.trans (hb1.mono h0s))
   have HK1:=hide (blk_below HK0.out hb1)
   have HS1:=hide (qsign_any rb tb nv l 34 st w1 (blk_below HR.out HB1.out) (H.out.below HB1.out) hl)
   have h1l:=blk_lt HK1.out
   clear hb1
   go_wp2_with fail
   refine HS1.out.mono ?_
   rintro e w2 h2
   obtain ⟨rfl,hm2,ht2⟩:=h2
   have HM2:=hide (qm_below HB1.out hm2)
   have HT2:=hide ht2
   have d1:w2.cell? ⟨w.heap.size,1,none⟩=some (.string (strA (wordS l st).2.1)):=blk_cell (blk_mod HK1.out hm2 (by omega)) 1
   clear hm2 ht2
   go_wp2
   go_ret
   exact QPost.mk HM2.out (by rw [HOK.out.1];exact HT2.out) ⟨_,rfl,HSL.out⟩ (fun y hy=>by rw [← HOK.out.2 y hy];rfl)
  ·have HF0:Hid (fitsL what (wordS l st).2.1=fitsL what s.1.said):=by show _=_;rw [e2]
   have hfb:(((fitsL what s.1.said:Nat):Int) != 0)=true:=by simp;omega
   have HER:Hid (bindS st (stringL l (fitsL what))=.error ⟨fitsL what s.1.said,(wordS l st).2.2.2⟩):=by
    show _=_
    rw [e4,hst]
    exact one_fit h5 hf
   have HFS:Hid (failS st ⟨fitsL what s.1.said,(wordS l st).2.2.2⟩=.error ⟨fitsL what s.1.said,(wordS l st).2.2.2⟩):=by show _=_;rw [hst];rfl
   have HNZ:=hide hf
   clear hf hg hsq hst h5 e2 e4 hk
   go_enter Tryz.func114,Tryz.ntmps114
   go_wp2_with fail
   rw [← HWW.out]
   refine (HFT.out W0).mono ?_
   rintro e w1 ⟨rfl,hb1⟩
   rw [HF0.out]
   have HB1:=hide (HB0.out.trans (hb1.mono h0s))
   have HK1:=hide (blk_below HK0.out hb1)
   have HS1:=hide (qfail_st tb l st ⟨fitsL what s.1.said,(wordS l st).2.2.2⟩ w1.drew ((H.out.below HB1.out).block rfl) hl HNZ.out)
   have q0:w1.cell? ⟨rb,0,none⟩=some (.pointer (some ⟨tb,0,none⟩)):=blk_cell (blk_below HR.out HB1.out) 0
   have q7:w1.cell? ⟨w.heap.size,3,none⟩=some (.int .i64 (wordS l st).2.2.2):=blk_cell HK1.out 3
   clear hb1
   go_wp2_with fail
   go_region_with (first | (go_at_call 70;refine HS1.out.mono ?_;rintro e w2 h2;obtain ⟨rfl,hm2,ht2⟩:=h2;have HM2:=hide (qm_below HB1.out (mod_drew hm2));have HT2:=hide ht2;clear hm2 ht2;skip))
   all_goals go_wp2
   all_goals go_ret
   all_goals exact QPost.mk (v:=.string (strA [])) HM2.out (by rw [HER.out];rw [HFS.out] at HT2;exact HT2.out) ⟨_,rfl,Nat.zero_le _⟩ (fun y hy=>by rw [HER.out] at hy;cases hy)
 ·have HNO:=hide (word_no34 (what:=what) H.out hk)
  have hkb:(((wordS l st).1:Int) == 34)=false:=by simp;omega
  have HSG:Hid (signS l 34 st=failS st ⟨4,(wordS l st).2.2.2⟩):=if_neg hk
  have HS1:=hide (qsign_any rb tb nv l 34 st W0 (blk_below HR.out HB0.out) (H.out.below HB0.out) hl)
  have h1l:=blk_lt HK0.out
  clear hk
  go_enter Tryz.func114,Tryz.ntmps114
  go_wp2_with fail
  rw [← HWW.out]
  refine HS1.out.mono ?_
  rintro e w2 h2
  obtain ⟨rfl,hm2,ht2⟩:=h2
  have HM2:=hide (qm_below HB0.out hm2)
  have HT2:=hide ht2
  have d1:w2.cell? ⟨w.heap.size,1,none⟩=some (.string (strA (wordS l st).2.1)):=blk_cell (blk_mod HK0.out hm2 (by omega)) 1
  clear hm2 ht2
  go_wp2
  go_ret
  exact QPost.mk HM2.out (by rw [HNO.out.1,← HSG.out];exact HT2.out) ⟨_,rfl,HSL.out⟩ (fun y hy=>absurd hy (HNO.out.2 y))
end
section
open Go.RowKit
attribute [local go_sem ↓] Go.wp_at_zero Go.wp_at_succ
def muS (l:List UInt8) (st:Except Flt PS):Nat:=
 match st with
 | .ok s=>mu l.length s+1
 | .error _=>0
structure SlN (B:Nat) (xs:List (List UInt8)) (w:World) (v:Value):Prop where
 s:slB B xs w v
 n:xs.length≤1301
theorem SlN.form {B:Nat} {xs:List (List UInt8)} {w:World} {v:Value} (h:SlN B xs w v):∃ g n c,v=.slice (some ⟨g,0,none⟩) n c:=h.s.form
def anyStrs (B:Nat) (w:World) (v:Value):Prop:=∃ xs,SlN B xs w v
structure StrI (R:Except Flt (List (List UInt8)×PS)) (l:List UInt8) (chk:List UInt8→Nat) (st:Except Flt PS) (acc:List (List UInt8)):Prop where
 r:∃ f,(∀ s,st=.ok s→mu l.length s < f)∧R=bindS st (restL l chk f acc)
 n:acc.length+muS l st≤1300
theorem mu_bound {w:World} {tb:Nat} {l:List UInt8} {s:PS} (h:TGood w tb l s) (hl:l.length≤600):mu l.length s≤2*l.length+1:=by
 have:=h.le
 unfold mu
 split <;> omega
theorem one_list {l:List UInt8} {chk:List UInt8→Nat} {st:Except Flt PS}:stOf (bindS st (fun s=>thenL (stringL l chk s) fun x s1=>.ok ([x],s1)))=stOf (bindS st (stringL l chk))∧∀ y,bindS st (fun s=>thenL (stringL l chk s) fun x s1=>.ok ([x],s1))=.ok y→∃ z,bindS st (stringL l chk)=.ok z∧y=([z.1],z.2):=by
 cases st with
 | error f=>exact ⟨rfl,fun y e=>by cases e⟩
 | ok s=>
  simp only [bindS]
  cases stringL l chk s with
  | error f=>exact ⟨rfl,fun y e=>by cases e⟩
  | ok z=>exact ⟨rfl,fun y e=>⟨z,rfl,by cases e;rfl⟩⟩
theorem strQ_inj {x z:List UInt8} {w:World} (h:strQ z w (.string (strA x))):x=z:=strA_inj (Value.string.inj h)
theorem muS_le {w:World} {tb:Nat} {l:List UInt8} {st:Except Flt PS} (h:TSt w tb l st) (hl:l.length≤600):muS l st≤1202:=by
 cases st with
 | ok s=>show mu l.length s+1≤1202;have:=mu_bound h hl;omega
 | error f=>exact Nat.zero_le _
theorem muS_next {w:World} {tb:Nat} {l:List UInt8} {s:PS} (h:TGood w tb l s) (hk:¬ s.1.kind=0):muS l (nextL l s.2) < muS l (.ok s):=by
 cases hn:nextL l s.2 with
 | error f=>exact Nat.succ_pos _
 | ok y=>show mu l.length y+1 < mu l.length s+1;have:=nextL_mu h.le hk hn;omega
theorem str_step {w w1:World} {tb:Nat} {R:Except Flt (List (List UInt8)×PS)} {l:List UInt8} {what:Nat} {st:Except Flt PS} {acc:List (List UInt8)} (h:StrI R l (fitsL what) st acc) (ht:TSt w tb l st) (h1:TSt w1 tb l (stOf (bindS st (stringL l (fitsL what))))) :
 ((wordS l (stOf (bindS st (stringL l (fitsL what))))).1=44→errS (stOf (bindS st (stringL l (fitsL what))))=0∧muS l (nextS l (stOf (bindS st (stringL l (fitsL what))))) < muS l st∧∃ z,bindS st (stringL l (fitsL what))=.ok z∧StrI R l (fitsL what) (nextS l (stOf (bindS st (stringL l (fitsL what))))) (acc++[z.1]))∧
 (¬ (wordS l (stOf (bindS st (stringL l (fitsL what))))).1=44→stOf R=signS l 93 (stOf (bindS st (stringL l (fitsL what))))∧∀ y,R=.ok y→∃ z,bindS st (stringL l (fitsL what))=.ok z∧y.1=acc++[z.1]):=by
 obtain ⟨⟨f,hf,hR⟩,hn⟩:=h
 cases st with
 | error g=>
  have hR':R=.error g:=hR
  subst hR'
  refine ⟨fun h=>absurd h (by show ¬ (0:Nat)=44;decide),fun _=>⟨rfl,fun y e=>by cases e⟩⟩
 | ok s=>
  have hfs:=hf s rfl
  obtain ⟨f,rfl⟩:∃ g,f=g+1:=⟨f - 1,by omega⟩
  simp only [bindS] at h1 hR ⊢
  cases hs:stringL l (fitsL what) s with
  | error g=>
   have hR':R=.error g:=by rw [hR];unfold restL;rw [hs];rfl
   subst hR'
   refine ⟨fun h=>absurd h (by show ¬ (0:Nat)=44;decide),fun _=>⟨rfl,fun y e=>by cases e⟩⟩
  | ok z=>
   rw [hs] at h1
   have hg:TGood w1 tb l z.2:=h1
   have hR':R=moreL l (fitsL what) (f+1) (acc++[z.1]) z.2:=by rw [hR];unfold restL;rw [hs];rfl
   have hmu:=(stringL_mu ht.le hs).1
   refine ⟨fun h44=>?_,fun h44=>?_⟩
   ·have hk:kQ z.2.1=44:=h44
    have h0:¬ z.2.1.kind=0:=fun e0=>by
     have:kQ z.2.1=0:=(kQ_end hg.wd).2 e0
     omega
    have hm:=muS_next hg h0
    have hm':muS l (nextL l z.2.2) < mu l.length z.2+1:=hm
    have hms:muS l (.ok s)=mu l.length s+1:=rfl
    refine ⟨rfl,?_,z,rfl,⟨f,fun s1 h1=>?_,?_⟩,?_⟩
    ·show muS l (nextL l z.2.2) < _
     omega
    ·have h2:nextL l z.2.2=.ok s1:=h1
     have:=nextL_mu hg.le h0 h2
     omega
    ·rw [hR',more_comma hg.wd hk]
     show _=bindS (nextL l z.2.2) _
     cases nextL l z.2.2 <;> rfl
    ·show (acc++[z.1]).length+muS l (nextL l z.2.2)≤1300
     rw [List.length_append,List.length_singleton]
     omega
   ·have hk:¬ kQ z.2.1=44:=h44
    by_cases h93:kQ z.2.1=93
    ·have e:signS l 93 (stOf (.ok z))=nextL l z.2.2:=if_pos h93
     rw [e,hR',more_close hg.wd h93]
     cases nextL l z.2.2 with
     | error g=>exact ⟨rfl,fun y e=>by cases e⟩
     | ok s1=>exact ⟨rfl,fun y e=>⟨z,rfl,by cases e;rfl⟩⟩
    ·have e:signS l 93 (stOf (.ok z))=.error ⟨4,z.2.1.pos⟩:=if_neg h93
     rw [e,hR',more_bad hg.wd hk h93]
     exact ⟨rfl,fun y e=>by cases e⟩
theorem qstrings_any (rb tb:Nat) (nv:Value) (l:List UInt8) (what F:Nat) (st:Except Flt PS) (w:World) (hr:RdQ w rb tb nv) (hn:rb≠tb) (h:TSt w tb l st) (hl:l.length≤600) (hw:what≤4) (hF:2*l.length+2≤F) :
 Calls Tryz.prog 67 #[.pointer (some ⟨rb,0,none⟩),.int .i64 what] w (QPost (bindS st (stringsL l (fitsL what) F)) tb l w (slB w.heap.size) (anyStrs w.heap.size)):=by
 have r0:w.cell? ⟨rb,0,none⟩=some (.pointer (some ⟨tb,0,none⟩)):=blk_cell hr 0
 obtain ⟨_,c4,_,_,_⟩:=h.cells
 have H:=hide h
 have HR:=hide hr
 have hrl:=blk_lt hr
 have htl:=h.lt
 clear h hr
 by_cases hk:(wordS l st).1=91
 rotate_left
 ·have hkb:(((wordS l st).1:Int) != 91)=true:=by simp;omega
  have HO:=hide (qone_any rb tb nv l what st w HR.out hn H.out hl hw)
  have HX:Hid (bindS st (stringsL l (fitsL what) F)=bindS st (fun s=>thenL (stringL l (fitsL what) s) fun x s1=>.ok ([x],s1))):=by
   show _=_
   cases st with
   | error f=>rfl
   | ok s=>exact strings_one H.out.wd hk
  clear hk
  go_enter Tryz.func67,Tryz.ntmps67
  go_wp2_with fail
  refine HO.out.mono ?_
  rintro e w1 h1
  obtain ⟨hm1,ht1,v,rfl,⟨x,rfl,hxl⟩,hv1⟩:=h1.st
  have HM1:=hide hm1
  have HT1:=hide ht1
  have HV1:=hide hv1
  have h1s:=hm1.size
  clear h1 hm1 ht1 hv1
  go_wp2
  go_ret
  refine QPost.mk (HM1.out.alloc _) ?_ ⟨[x],⟨w1.heap.size,1,rfl,h1s,txt_alloc w1 [x] _ _ rfl,by simp⟩,by simp⟩ (fun y hy=>?_)
  ·rw [HX.out,one_list.1]
   exact HT1.out.below ((Below.refl _ _).alloc (Nat.le_refl _) _)
  ·rw [HX.out] at hy
   obtain ⟨z,hz,rfl⟩:=one_list.2 y hy
   have:=strQ_inj (HV1.out z hz)
   subst this
   exact ⟨w1.heap.size,1,rfl,h1s,txt_alloc w1 [z.1] _ _ rfl,by simp⟩
 ·have hkb:(((wordS l st).1:Int) != 91)=false:=by simp;omega
  have HNX:=hide (qnext_st tb l st w H.out hl)
  have HX:Hid (StrI (bindS st (stringsL l (fitsL what) F)) l (fitsL what) (nextS l st) []):=by
   cases st with
   | error f=>exact absurd hk (by show ¬ (0:Nat)=91;decide)
   | ok s=>
    have e:=strings_many (l:=l) (chk:=fitsL what) (F:=F) H.out.wd hk
    refine ⟨⟨F,fun s1 h1=>?_,?_⟩,?_⟩
    ·have h2:nextL l s.2=.ok s1:=h1
     have:=nextL_le l s.2 H.out.le s1 h2
     unfold mu
     split <;> omega
    ·show stringsL l (fitsL what) F s=bindS (nextL l s.2) _
     rw [e]
     cases nextL l s.2 <;> rfl
    ·have h0:¬ s.1.kind=0:=fun e0=>by
      have:kQ s.1=0:=(kQ_end H.out.wd).2 e0
      have h91:kQ s.1=91:=hk
      omega
     have:=muS_next H.out h0
     have h2:muS l (.ok s)≤1202:=muS_le (w:=w) (tb:=tb) H.out hl
     show 0+muS l (nextL l s.2)≤1300
     omega
  clear hk
  obtain ⟨R,hR⟩:∃ R,bindS st (stringsL l (fitsL what) F)=R:=⟨_,rfl⟩
  rw [hR] at HX ⊢
  clear hR
  obtain ⟨i0,hi,hz0,hz1,hz2⟩:=info_parts Tryz.infoStr
  go_enter Tryz.func67,Tryz.ntmps67
  go_upto_block 0 with (go_at_call 66;refine HNX.out.mono ?_;rintro e w1 ⟨rfl,hm1,ht1⟩;have HM1:=hide hm1;have HT1:=hide ht1;have h1s:=hm1.size;clear hm1 ht1)
  go_cut [6] (fun lv wx=>∃ (st1:Except Flt PS) (acc:List (List UInt8)),wx.ownsRow w.heap.size 9 1 lv acc.length (tcells acc)∧acc≠[]∧acc.length≤1301∧TSt wx tb l st1∧Mod tb w wx∧stOf R=signS l 93 st1∧∀ y,R=.ok y→y.1=acc)
  case first=>
   go_wp2_with fail
   go_loopg [6,7] (muS l (nextS l st)) (fun k lv _ wr=>∃ (st':Except Flt PS) (acc:List (List UInt8)),k=muS l st'∧wr.ownsRow w.heap.size 9 1 lv acc.length (tcells acc)∧TSt wr tb l st'∧Mod tb w wr∧StrI R l (fitsL what) st' acc)
   case atStart=>exact ⟨nextS l st,[],rfl,World.ownsRow_nil _ _ _ _,HT1.out,HM1.out,HX.out⟩
   case round=>
    obtain ⟨st',acc,rfl,hown,htr,hmr,hx⟩:=hrel
    have HTR:=hide htr
    have HMR:=hide hmr
    have HXR:=hide hx
    have HRR:=hide (HR.out.mod hmr hn)
    have HOW:=hide hown
    have hwr:=hmr.size
    have han:=hx.n
    have hr0:wr.cell? ⟨rb,0,none⟩=some (.pointer (some ⟨tb,0,none⟩)):=blk_cell HRR.out 0
    have HO:=hide (qone_any rb tb nv l what st' wr HRR.out hn htr hl hw)
    clear htr hmr hx hown HX HM1 HT1 HNX H c4 r0
    go_wp2_with fail
    refine HO.out.mono ?_
    rintro e w2 h2
    obtain ⟨hm2,ht2,v,rfl,⟨x,rfl,hxl⟩,hv2⟩:=h2.st
    have HS:=hide (str_step HXR.out HTR.out ht2)
    have HM2:=hide (HMR.out.trans hm2)
    have HT2:=hide ht2
    have HV2:=hide hv2
    have hown2:=ownsRow_mod HOW.out hm2 htl
    have hw2:w.heap.size≤w2.heap.size:=HM2.out.size
    clear h2 hm2 ht2 hv2
    go_wp2_with (at_builtin;refine wpList_append_own _ rfl _ _ 61 rfl w.heap.size 9 i0 (.string ⟨#[]⟩) 1 16 Tryz.underlying61 hi hz0 hz1 hz2 rfl (by decide) _ _ _ rfl (hown2.alloc _) ⟨w2.heap.size,0,none⟩ 1 1 [.string (strA x)] rfl rfl ?c1 ?c2 ?c3 ?c4 ?c5 ?_)
    case c1=>
     intro j u hj
     match j,hj with
     | 0,hj=>simp at hj;subst hj;simp [Addr.add]
    case c2=>intro u hu;simp at hu;subst hu;rfl
    case c3=>unfold maxLen;omega
    case c4=>omega
    case c5=>simp;omega
    ·intro v' w5 hown5 hgrow _
     have hrow:∀ k,(u6).ownBlock=some k→w.heap.size≤k:=fun k hk=>(hown2.lt k hk).1
     have HM5:=hide ((HM2.out.alloc (Obj.cells #[.string (strA x)] 9)).grown hgrow hrow)
     have HT5:=hide ((HT2.out.below ((Below.refl _ _).alloc (Nat.le_refl _) (Obj.cells #[.string (strA x)] 9))).block (hgrow.block tb (by simp;omega) (fun e=>by have:=hrow tb e.symm;omega)))
     rw [tcells_snoc] at hown5
     have HO5:=hide hown5
     have HR5:=hide (HR.out.mod HM5.out hn)
     clear hown5 hgrow hown2 hrow HM2 HT2 HOW HO HRR hr0 HXR HTR HMR
     obtain ⟨st1,h1⟩:∃ st1,stOf (bindS st' (stringL l (fitsL what)))=st1:=⟨_,rfl⟩
     rw [h1] at HS HT5
     obtain ⟨c2,c4,_,_,_⟩:=HT5.out.cells
     have hr5:w5.cell? ⟨rb,0,none⟩=some (.pointer (some ⟨tb,0,none⟩)):=blk_cell HR5.out 0
     by_cases hk:(wordS l st1).1=44
     ·obtain ⟨he,hmu,z,hz,hx⟩:=HS.out.1 hk
      have hkb:(((wordS l st1).1:Int) != 44)=false:=by simp;omega
      have heb:((errS st1:Int) != 0)=false:=by simp;omega
      have hzx:=strQ_inj (HV2.out z hz)
      subst hzx
      have HX:=hide hx
      clear hx HS hz HV2 h1
      go_wp2_with fail
      refine (qnext_st tb l st1 _ (HT5.out.block rfl) hl).mono ?_
      rintro e w6 ⟨rfl,hm6,ht6⟩
      have HM6:=hide (HM5.out.trans hm6)
      have HT6:=hide ht6
      have HO6:=hide (ownsRow_mod HO5.out hm6 htl)
      clear hm6 ht6
      go_wp2
      go_roundg (muS l (nextS l st1))
      case measure=>exact hmu
      case rel=>exact ⟨nextS l st1,acc++[z.1],rfl,by simpa using HO6.out,HT6.out,HM6.out,HX.out⟩
     ·obtain ⟨hR,hy⟩:=HS.out.2 hk
      have hkb:(((wordS l st1).1:Int) != 44)=true:=by simp;omega
      have HY:=hide hy
      clear hy HS h1
      go_wp2
      go_meet
      refine ⟨st1,acc++[x],by simpa using HO5.out,by simp,by simp;omega,HT5.out.block rfl,HM5.out,hR,fun y e=>?_⟩
      obtain ⟨z,hz,h⟩:=HY.out y e
      rw [h,strQ_inj (HV2.out z hz)]
  case rest=>
   obtain ⟨st1,acc,hown,hne,hal,ht,hm,hR,hy⟩:=hcut
   have HS:=hide (qsign_any rb tb nv l 93 st1 wc (HR.out.mod hm hn) ht hl)
   have HOW:=hide hown
   have HM:=hide hm
   have HY:=hide hy
   clear ht hm hown hy
   go_wp2_with fail
   refine HS.out.mono ?_
   rintro e w2 ⟨rfl,hm2,ht2⟩
   have HM2:=hide (HM.out.trans hm2)
   have HT2:=hide ht2
   have HO2:=hide (slB.of_owns (ownsRow_mod HOW.out hm2 htl) rfl hne)
   clear hm2 ht2
   go_wp2
   go_ret
   refine QPost.mk HM2.out (by rw [hR];exact HT2.out) ⟨acc,HO2.out,hal⟩ (fun y e=>?_)
   rw [HY.out y e]
   exact HO2.out
end
section
open Go.RowKit
attribute [local go_sem ↓] Go.wp_at_zero Go.wp_at_succ
def qLower:List UInt8:=[108,111,119,101,114]
def qUpper:List UInt8:=[117,112,112,101,114]
def qLength:List UInt8:=[108,101,110,103,116,104]
theorem qturn_any (x:List UInt8) (w:World) :
 Calls Tryz.prog 172 #[.string (strA x)] w fun e w'=>e=.returned (.int .i64 (whichL [qLower,qUpper,qLength] x))∧w'=w:=by
 have h1:((strA x).toList == [108,111,119,101,114])=decide (qLower=x):=by rw [ByteArray.toList_eq];show (x == qLower)=_;rw [Bool.eq_iff_iff];simp;exact eq_comm
 have h2:((strA x).toList == [117,112,112,101,114])=decide (qUpper=x):=by rw [ByteArray.toList_eq];show (x == qUpper)=_;rw [Bool.eq_iff_iff];simp;exact eq_comm
 have h3:((strA x).toList == [108,101,110,103,116,104])=decide (qLength=x):=by rw [ByteArray.toList_eq];show (x == qLength)=_;rw [Bool.eq_iff_iff];simp;exact eq_comm
 obtain ⟨R,hR⟩:∃ R,whichL [qLower,qUpper,qLength] x=R:=⟨_,rfl⟩
 rw [hR]
 unfold whichL whichL whichL whichL at hR
 by_cases e1:qLower=x
 ·rw [if_pos e1] at hR
  rw [decide_eq_true e1] at h1
  subst hR
  clear e1 h2 h3
  go_enter Tryz.func172,Tryz.ntmps172
  go_wp2
  go_ret
  exact ⟨rfl,rfl⟩
 rw [if_neg e1] at hR
 rw [decide_eq_false e1] at h1
 by_cases e2:qUpper=x
 ·rw [if_pos e2] at hR
  rw [decide_eq_true e2] at h2
  subst hR
  clear e1 e2 h3
  go_enter Tryz.func172,Tryz.ntmps172
  go_wp2
  go_ret
  exact ⟨rfl,rfl⟩
 rw [if_neg e2] at hR
 rw [decide_eq_false e2] at h2
 by_cases e3:qLength=x
 ·rw [if_pos e3] at hR
  rw [decide_eq_true e3] at h3
  subst hR
  clear e1 e2 e3
  go_enter Tryz.func172,Tryz.ntmps172
  go_wp2
  go_ret
  exact ⟨rfl,rfl⟩
 rw [if_neg e3] at hR
 rw [decide_eq_false e3] at h3
 subst hR
 clear e1 e2 e3
 go_enter Tryz.func172,Tryz.ntmps172
 go_wp2
 go_ret
 exact ⟨rfl,rfl⟩
def usesS (l:List UInt8) (rq:List (List UInt8)) (x:List UInt8) (st:Except Flt PS):Except Flt PS:=if 0 < whichL rq x then st else failS st ⟨6,(wordS l st).2.2.2⟩
theorem quses_any (rb tb:Nat) (nv:Value) (rq:List (List UInt8)) (l x:List UInt8) (st:Except Flt PS) (w:World) (hr:RdQ w rb tb nv) (hq:TxL w nv rq) (hz:rq.length≤140737488355328) (h:TSt w tb l st) (hl:l.length≤600) :
 Calls Tryz.prog 171 #[.pointer (some ⟨rb,0,none⟩),.string (strA x)] w (NextQ (usesS l rq x st) tb l w):=by
 have r0:w.cell? ⟨rb,0,none⟩=some (.pointer (some ⟨tb,0,none⟩)):=blk_cell hr 0
 have r1:w.cell? ⟨rb,1,none⟩=some nv:=blk_cell hr 1
 obtain ⟨_,c4,_,_,c7⟩:=h.cells
 have H:=hide h
 have HA:=hide (qamong_any nv rq x w hq hz)
 have HF:=hide (qfail_st tb l st ⟨6,(wordS l st).2.2.2⟩ w.drew (h.block rfl) hl (Nat.succ_ne_zero 5))
 clear h hr hq
 by_cases he:0 < whichL rq x
 ·have HX:Hid (usesS l rq x st=st):=if_pos he
  rw [decide_eq_true he] at HA
  rw [HX.out]
  clear he
  go_enter Tryz.func171,Tryz.ntmps171
  go_wp2_with fail
  refine HA.out.mono ?_
  rintro e w1 ⟨rfl,rfl⟩
  go_wp2
  go_end0
  exact ⟨rfl,Mod.refl _ _,H.out⟩
 ·have HX:Hid (usesS l rq x st=failS st ⟨6,(wordS l st).2.2.2⟩):=if_neg he
  rw [decide_eq_false he] at HA
  rw [HX.out]
  clear he
  go_enter Tryz.func171,Tryz.ntmps171
  go_wp2_with fail
  refine HA.out.mono ?_
  rintro e w1 ⟨rfl,rfl⟩
  go_wp2_with fail
  go_region_with (first | (go_at_call 70;refine HF.out.mono ?_;rintro e w1 h1;obtain ⟨rfl,hm1,ht1⟩:=h1;have HM1:=hide hm1;have HT1:=hide ht1;clear hm1 ht1;skip))
  all_goals go_wp2
  all_goals go_end0
  all_goals exact ⟨rfl,⟨HM1.out.os,HM1.out.tape,HM1.out.output,HM1.out.size,HM1.out.block⟩,HT1.out⟩
end
section
open Go.RowKit
structure TreeQ {α:Type} (P:(Nat→Prop)→α→World→Value→Prop):Prop where
 keep:∀ X a w w' v,P X a w v→AbvX X w w'→P X a w' v
 weak:∀ X Y a w v,P X a w v→(∀ k,X k→k < w.heap.size→Y k)→P Y a w v
def trY {α:Type} (P:(Nat→Prop)→α→World→Value→Prop) (X:Nat→Prop) (xs:List α) (w:World) (v:Value):Prop:=
 (xs=[]∧v=.slice none 0 0)∨(xs≠[]∧trX X P xs w v)
def slY (X:Nat→Prop) (xs:List (List UInt8)) (w:World) (v:Value):Prop:=
 (xs=[]∧v=.slice none 0 0)∨slX X xs w v
theorem slY.keep {X:Nat→Prop} {xs:List (List UInt8)} {w w':World} {v:Value} (h:slY X xs w v) (hk:AbvX X w w'):slY X xs w' v:=by
 rcases h with h | h
 ·exact Or.inl h
 ·exact Or.inr (h.keep hk)
theorem slY.weak {X Y:Nat→Prop} {xs:List (List UInt8)} {w:World} {v:Value} (h:slY X xs w v) (hB:∀ k,X k→k < w.heap.size→Y k):slY Y xs w v:=by
 rcases h with h | h
 ·exact Or.inl h
 ·exact Or.inr (h.weak hB)
theorem trX.keepQ {α:Type} {X:Nat→Prop} {P:(Nat→Prop)→α→World→Value→Prop} (hP:TreeQ P) {xs:List α} {w w':World} {v:Value} (h:trX X P xs w v) (hm:AbvX X w w'):trX X P xs w' v:=by
 obtain ⟨g,c,hv,hg,hx⟩:=h
 refine ⟨g,c,hv,hg,fun j hj=>?_⟩
 obtain ⟨u,hu,hp⟩:=hx j hj
 refine ⟨u,?_,hP.keep _ _ _ _ _ hp hm⟩
 rw [World.cell?_of_block (w:=w) (a:=⟨g,j,none⟩) (hm g hg (cell_lt hu))]
 exact hu
theorem trX.weakQ {α:Type} {X Y:Nat→Prop} {P:(Nat→Prop)→α→World→Value→Prop} (hP:TreeQ P) {xs:List α} {w:World} {v:Value} (hne:xs≠[]) (h:trX X P xs w v) (hB:∀ k,X k→k < w.heap.size→Y k):trX Y P xs w v:=by
 obtain ⟨g,c,hv,hg,hx⟩:=h
 refine ⟨g,c,hv,?_,fun j hj=>?_⟩
 ·obtain ⟨u,hu,_⟩:=hx 0 (List.length_pos_iff.2 hne)
  exact hB g hg (cell_lt hu)
 ·obtain ⟨u,hu,hp⟩:=hx j hj
  exact ⟨u,hu,hP.weak _ _ _ _ _ hp hB⟩
theorem trY_tree {α:Type} {P:(Nat→Prop)→α→World→Value→Prop} (hP:TreeQ P):TreeQ (trY P):=by
 refine ⟨fun X a w w' v h hk=>?_,fun X Y a w v h hB=>?_⟩
 ·rcases h with h | ⟨hn,h⟩
  ·exact Or.inl h
  ·exact Or.inr ⟨hn,h.keepQ hP hk⟩
 ·rcases h with h | ⟨hn,h⟩
  ·exact Or.inl h
  ·exact Or.inr ⟨hn,trX.weakQ hP hn h hB⟩
theorem GathQ.mod {α:Type} {P:(Nat→Prop)→α→World→Value→Prop} (hP:TreeQ P) {base b:Nat} {w w':World} {v:Value} {a:α} {u:Value} (h:Gath P base w v a u) (hm:Mod b w w') (hb:b < base):Gath P base w' v a u:=by
 obtain ⟨X,h1,h2,h3⟩:=h
 exact ⟨X,hP.keep _ _ _ _ _ h1 (hm.abvX (fun e=>by have:=(h2 b e).1;omega)),fun k hk=>⟨(h2 k hk).1,Nat.lt_of_lt_of_le (h2 k hk).2 hm.size⟩,h3⟩
theorem GathQ.grown {α:Type} {P:(Nat→Prop)→α→World→Value→Prop} (hP:TreeQ P) {base:Nat} {w w':World} {v v':Value} {a:α} {u:Value} {o:Obj} (h:Gath P base w v a u) (hg:(w.alloc o).grownBy w' v.ownBlock) (hv:v'.ownBlock=v.ownBlock∨v'.ownBlock=some (w.heap.size+1)):Gath P base w' v' a u:=by
 obtain ⟨X,h1,h2,h3⟩:=h
 have hA:AbvX X w w':=fun k hk hz=>by
  rw [hg.block k (by simp;omega) (fun e=>h3 k e.symm hk)]
  exact Below.heap_alloc _ _ _ hz
 refine ⟨X,hP.keep _ _ _ _ _ h1 hA,fun k hk=>⟨(h2 k hk).1,?_⟩,fun g hgb hX=>?_⟩
 ·have:=(h2 k hk).2;have:=hg.size;simp at this;omega
 ·rcases hv with hv | hv
  ·exact h3 g (hv ▸ hgb) hX
  ·rw [hv] at hgb
   have:=(h2 g hX).2
   simp at hgb
   omega
theorem GathQ.set {α:Type} {P:(Nat→Prop)→α→World→Value→Prop} (hP:TreeQ P) {base g:Nat} {w:World} {v:Value} {a:α} {u:Value} (h:Gath P base w v a u) (hb:g < base) (o:Nat) (x:Value):Gath P base (w.setCell ⟨g,o,none⟩ x) v a u:=by
 obtain ⟨X,h1,h2,h3⟩:=h
 exact ⟨X,hP.keep _ _ _ _ _ h1 (AbvX.set (fun e=>by have:=(h2 g e).1;omega) o x),fun k hk=>⟨(h2 k hk).1,by rw [World.size_setCell];exact (h2 k hk).2⟩,h3⟩
theorem GathQ.new {α:Type} {P:(Nat→Prop)→α→World→Value→Prop} (hP:TreeQ P) {base B:Nat} {w:World} {v:Value} {a:α} {u:Value} (h:P (fromB B) a w u) (hB:base≤B) (hv:∀ g,v.ownBlock=some g→g < B):Gath P base w v a u:=
 ⟨fun k=>B≤k∧k < w.heap.size,hP.weak _ _ _ _ _ h (fun k hk hz=>⟨hk,hz⟩),fun k hk=>⟨Nat.le_trans hB hk.1,hk.2⟩,fun g hg hX=>by have:=hv g hg;omega⟩
theorem trX.of_ownsQ {α:Type} {P:(Nat→Prop)→α→World→Value→Prop} (hP:TreeQ P) {w:World} {base n:Nat} {e:TypeId} {v:Value} {xs:List α} {vs:List Value} (h:w.ownsRow base e 1 v n vs) (hn:n=xs.length) (hx:xs≠[]) (hr:RowP (fun a u=>Gath P base w v a u) xs vs):trX (fromB base) P xs w v:=by
 subst hn
 have hc:=fun g (hg:v.ownBlock=some g)=>h.cells hg
 obtain ⟨h1,h2⟩:=h
 rcases h2 with ⟨_,h3⟩ | ⟨g,cap,cur,hv,hg,r⟩
 ·exact absurd (List.eq_nil_of_length_eq_zero h3) hx
 ·refine ⟨g,cap,hv,hg,fun j hj=>?_⟩
  obtain ⟨u,hu,X,hp,hX,_⟩:=hr.at j hj
  have:=hc g (by rw [hv];rfl) j u hu
  rw [addr_add0] at this
  exact ⟨u,this,hP.weak _ _ _ _ _ hp (fun k hk _=>(hX k hk).1)⟩
def rtn {α:Type} (P:(Nat→Prop)→α→World→Value→Prop) (X:Nat→Prop) (x:TLab×List α) (w:World) (v:Value):Prop:=
 ∃ g tv fv kv,v=.pointer (some ⟨g,0,none⟩)∧X g∧w.heap[g]?=some (.cells #[.string (strA (testNames.getD x.1.kind [])),tv,fv,kv,.int .i64 x.1.tag,.bool x.1.octet,.int .i64 x.1.num] 200)∧trY P X x.2 w tv∧slY X x.1.fr w fv∧slY X x.1.keys w kv
theorem rtn_tree {α:Type} {P:(Nat→Prop)→α→World→Value→Prop} (hP:TreeQ P):TreeQ (rtn P):=by
 refine ⟨fun X a w w' v h hk=>?_,fun X Y a w v h hB=>?_⟩
 ·obtain ⟨g,tv,fv,kv,hv,hg,hc,h1,h2,h3⟩:=h
  exact ⟨g,tv,fv,kv,hv,hg,by rw [hk g hg (blk_lt hc)];exact hc,(trY_tree hP).keep _ _ _ _ _ h1 hk,h2.keep hk,h3.keep hk⟩
 ·obtain ⟨g,tv,fv,kv,hv,hg,hc,h1,h2,h3⟩:=h
  exact ⟨g,tv,fv,kv,hv,hB g hg (blk_lt hc),hc,(trY_tree hP).weak _ _ _ _ _ h1 hB,h2.weak hB,h3.weak hB⟩
def RTest:(n:Nat)→(Nat→Prop)→TestT n→World→Value→Prop
 | 0,_,_,_,_=>False
 | n+1,X,x,w,v=>rtn (RTest n) X x w v
theorem rtest_tree:∀ n,TreeQ (RTest n)
 | 0=>⟨fun _ _ _ _ _ h=>h.elim,fun _ _ _ _ _ h=>h.elim⟩
 | n+1=>rtn_tree (rtest_tree n)
def argsL (x:CLab):List (List UInt8):=if x.kind=6 then [x.var,x.arg] else if x.kind=3∨x.kind=4∨x.kind=5 then [x.arg] else []
def blocksL {α β:Type} (x:CLab×List (β×List α)×List α):List (List α):=x.2.1.map Prod.snd++(if x.1.els then [x.2.2] else [])
def rcn {α β:Type} (P1:(Nat→Prop)→β→World→Value→Prop) (P2:(Nat→Prop)→α→World→Value→Prop) (X:Nat→Prop) (x:CLab×List (β×List α)×List α) (w:World) (v:Value):Prop:=
 ∃ g av tv bv,v=.pointer (some ⟨g,0,none⟩)∧X g∧w.heap[g]?=some (.cells #[.string (strA (cmdNames.getD x.1.kind [])),av,.int .i64 x.1.tag,tv,bv,.int .i64 x.1.pos] 155)∧slY X (argsL x.1) w av∧trY P1 X (x.2.1.map Prod.fst) w tv∧trY (trY P2) X (blocksL x) w bv
theorem rcn_tree {α β:Type} {P1:(Nat→Prop)→β→World→Value→Prop} {P2:(Nat→Prop)→α→World→Value→Prop} (h1:TreeQ P1) (h2:TreeQ P2):TreeQ (rcn P1 P2):=by
 refine ⟨fun X a w w' v h hk=>?_,fun X Y a w v h hB=>?_⟩
 ·obtain ⟨g,av,tv,bv,hv,hg,hc,ha,ht,hb⟩:=h
  exact ⟨g,av,tv,bv,hv,hg,by rw [hk g hg (blk_lt hc)];exact hc,ha.keep hk,(trY_tree h1).keep _ _ _ _ _ ht hk,(trY_tree (trY_tree h2)).keep _ _ _ _ _ hb hk⟩
 ·obtain ⟨g,av,tv,bv,hv,hg,hc,ha,ht,hb⟩:=h
  exact ⟨g,av,tv,bv,hv,hB g hg (blk_lt hc),hc,ha.weak hB,(trY_tree h1).weak _ _ _ _ _ ht hB,(trY_tree (trY_tree h2)).weak _ _ _ _ _ hb hB⟩
def RCmd:(n:Nat)→(Nat→Prop)→CmdT n→World→Value→Prop
 | 0,_,_,_,_=>False
 | n+1,X,x,w,v=>rcn (RTest n) (RCmd n) X x w v
theorem rcmd_tree:∀ n,TreeQ (RCmd n)
 | 0=>⟨fun _ _ _ _ _ h=>h.elim,fun _ _ _ _ _ h=>h.elim⟩
 | n+1=>rcn_tree (rtest_tree n) (rcmd_tree n)
end
section
open Go.RowKit
theorem which_tag:∀ (zs:List (List UInt8)) (y:List UInt8),whichL (zs.map (List.cons 58)) (58 :: y)=whichL zs y
 | [],_=>rfl
 | z :: r,y=>by
  have ih:=which_tag r y
  simp only [List.map_cons,whichL,ih,List.cons.injEq,true_and]
theorem which_tag0 {x:Wd} (h:WdQ x) (hk:¬ x.kind=2) (zs:List (List UInt8)) (hz:∀ z∈zs,z≠[]):whichL (zs.map (List.cons 58)) x.spelt=0:=by
 apply Nat.eq_zero_of_not_pos
 intro hp
 have hm:=(whichL_pos_iff _ _).1 hp
 obtain ⟨z,hzm,he⟩:=List.mem_map.1 hm
 exact hk ((spelt_tag h (hz z hzm)).1 he.symm).1
theorem tag_spelt {x:Wd} (h:WdQ x) (hk:x.kind=2):x.spelt=58 :: sQ x:=by
 rcases h with h | h | h | h | h | h
 ·omega
 ·omega
 ·obtain ⟨_,⟨c,r,e,_⟩,_⟩:=h
  unfold sQ
  rw [hk,e]
  rfl
 ·omega
 ·omega
 ·omega
def qIs:List UInt8:=[105,115]
def qContains:List UInt8:=[99,111,110,116,97,105,110,115]
def qMatches:List UInt8:=[109,97,116,99,104,101,115]
def qComparator:List UInt8:=[99,111,109,112,97,114,97,116,111,114]
def qOver:List UInt8:=[111,118,101,114]
def qUnder:List UInt8:=[117,110,100,101,114]
theorem tags3:[tIs,tContains,tMatches]=[qIs,qContains,qMatches].map (List.cons 58):=rfl
theorem tags1:[tComparator]=[qComparator].map (List.cons 58):=rfl
theorem tagsT:[tLower,tUpper,tLength]=[qLower,qUpper,qLength].map (List.cons 58):=rfl
theorem tagsS:[tOver,tUnder]=[qOver,qUnder].map (List.cons 58):=rfl
theorem ne3:∀ z∈[qIs,qContains,qMatches],z≠[]:=by decide
theorem ne1:∀ z∈[qComparator],z≠[]:=by decide
theorem neT:∀ z∈[qLower,qUpper,qLength],z≠[]:=by decide
theorem neS:∀ z∈[qOver,qUnder],z≠[]:=by decide
theorem fits2:fitsL 2=fun x=>if 0 < whichL [cOctet,cCasemap] x then 0 else 7:=rfl
structure OptI (R:Except Flt ((Nat×Bool)×PS)) (l:List UInt8) (st:Except Flt PS) (tag:Nat) (oct cmp:Bool):Prop where
 r:∃ f,(∀ s,st=.ok s→mu l.length s < f)∧R=bindS st (optL l f tag oct cmp)
 t:tag≤3
theorem opt_end {w:World} {tb:Nat} {R:Except Flt ((Nat×Bool)×PS)} {l:List UInt8} {st:Except Flt PS} {tag:Nat} {oct cmp:Bool} (h:OptI R l st tag oct cmp) (ht:TSt w tb l st) (hk:¬ (wordS l st).1=58):R=bindS st fun s=>.ok ((max tag 1,oct),s):=by
 obtain ⟨⟨f,hf,hR⟩,_⟩:=h
 rw [hR]
 cases st with
 | error g=>rfl
 | ok s=>
  have hfs:=hf s rfl
  obtain ⟨f,rfl⟩:∃ g,f=g+1:=⟨f - 1,by omega⟩
  have h2:¬ s.1.kind=2:=fun e=>hk ((kQ_tag ht.wd).2 e)
  simp only [bindS]
  rw [optL,tags3,which_tag0 ht.wd h2 _ ne3,if_pos rfl,tags1,which_tag0 ht.wd h2 _ ne1,if_pos rfl]
theorem opt_tag {w:World} {tb:Nat} {R:Except Flt ((Nat×Bool)×PS)} {l:List UInt8} {st:Except Flt PS} {tag:Nat} {oct cmp:Bool} (h:OptI R l st tag oct cmp) (ht:TSt w tb l st) (hk:(wordS l st).1=58) :
 ∃ s f,st=.ok s∧errS st=0∧mu l.length s < f+1∧s.1.kind=2∧(wordS l st).2.1=sQ s.1∧(wordS l st).2.2.2=s.1.pos∧
  R=if whichL [qIs,qContains,qMatches] (sQ s.1)=0 then
   if whichL [qComparator] (sQ s.1)=0 then .ok ((max tag 1,oct),s)
   else if cmp then .error ⟨7,s.1.pos⟩
   else nextThen l s fun s1=>thenL (stringL l (fitsL 2) s1) fun x s2=>optL l f tag (decide (x=cOctet)) true s2
  else if tag=0 then nextThen l s fun s1=>optL l f (whichL [qIs,qContains,qMatches] (sQ s.1)) oct cmp s1
  else .error ⟨7,s.1.pos⟩:=by
 obtain ⟨⟨f,hf,hR⟩,_⟩:=h
 cases st with
 | error g=>exact absurd hk (by show ¬ (0:Nat)=58;decide)
 | ok s=>
  have hfs:=hf s rfl
  obtain ⟨f,rfl⟩:∃ g,f=g+1:=⟨f - 1,by omega⟩
  have h2:s.1.kind=2:=(kQ_tag ht.wd).1 hk
  refine ⟨s,f,rfl,rfl,hfs,h2,rfl,rfl,?_⟩
  rw [hR]
  simp only [bindS]
  rw [optL,tag_spelt ht.wd h2,tags3,which_tag,tags1,which_tag,fits2]
theorem opt_is {w w1:World} {tb:Nat} {R:Except Flt ((Nat×Bool)×PS)} {l:List UInt8} {st:Except Flt PS} {tag:Nat} {oct cmp:Bool} (h:OptI R l st tag oct cmp) (ht:TSt w tb l st) (hk:(wordS l st).1=58) (hw:¬ whichL [qIs,qContains,qMatches] (wordS l st).2.1=0) :
 (¬ tag=0→R=.error ⟨7,(wordS l st).2.2.2⟩)∧(tag=0→muS l (nextS l st) < muS l st∧OptI R l (nextS l st) (whichL [qIs,qContains,qMatches] (wordS l st).2.1) oct cmp):=by
 obtain ⟨s,f,rfl,_,hf,h2,e1,e2,hR⟩:=opt_tag h ht hk
 rw [e1] at hw ⊢
 rw [e2]
 rw [if_neg hw] at hR
 have h0:¬ s.1.kind=0:=by omega
 refine ⟨fun h0=>by rw [hR,if_neg h0],fun ht0=>⟨muS_next ht h0,⟨f,fun s1 hs=>?_,?_⟩,?_⟩⟩
 ·have h3:nextL l s.2=.ok s1:=hs
  have:=nextL_mu (show TGood w tb l s from ht).le h0 h3
  omega
 ·rw [hR,if_pos ht0]
  show nextThen l s _=bindS (nextL l s.2) _
  unfold nextThen
  cases nextL l s.2 <;> rfl
 ·exact whichL_le [qIs,qContains,qMatches] _
end
section
open Go.RowKit
attribute [local go_sem ↓] Go.wp_at_zero Go.wp_at_succ
theorem opt_cmp {w:World} {tb:Nat} {R:Except Flt ((Nat×Bool)×PS)} {l:List UInt8} {st:Except Flt PS} {tag:Nat} {oct cmp:Bool} (h:OptI R l st tag oct cmp) (ht:TSt w tb l st) (hk:(wordS l st).1=58) (hw:whichL [qIs,qContains,qMatches] (wordS l st).2.1=0) (hc:(wordS l st).2.1=qComparator) :
 (cmp=true→R=.error ⟨7,(wordS l st).2.2.2⟩)∧(cmp=false→muS l (stOf (bindS (nextS l st) (stringL l (fitsL 2)))) < muS l st∧∀ x,(∀ z,bindS (nextS l st) (stringL l (fitsL 2))=.ok z→z.1=x)→OptI R l (stOf (bindS (nextS l st) (stringL l (fitsL 2)))) tag (decide (x=cOctet)) true):=by
 have h3:=h.t
 obtain ⟨s,f,rfl,_,hf,h2,e1,e2,hR⟩:=opt_tag h ht hk
 have hg:TGood w tb l s:=ht
 rw [e1] at hw hc
 rw [e2]
 rw [if_pos hw,if_neg (by rw [hc];decide)] at hR
 have h0:¬ s.1.kind=0:=by omega
 refine ⟨fun hx=>by rw [hR,if_pos hx],fun hx=>?_⟩
 rw [hx] at hR
 rw [if_neg (by decide)] at hR
 unfold nextThen at hR
 show muS l (stOf (bindS (nextL l s.2) _)) < _∧∀ x,(∀ z,bindS (nextL l s.2) _=.ok z→_)→OptI R l (stOf (bindS (nextL l s.2) _)) _ _ _
 cases hn:nextL l s.2 with
 | error g=>
  rw [hn] at hR
  exact ⟨Nat.succ_pos _,fun x _=>⟨⟨0,(fun s1 e=>by cases e),hR⟩,h3⟩⟩
 | ok s1=>
  rw [hn] at hR
  have hm1:=nextL_mu hg.le h0 hn
  have hl1:=nextL_le l s.2 hg.le s1 hn
  simp only [bindS] at hR ⊢
  cases hs:stringL l (fitsL 2) s1 with
  | error g=>
   rw [hs] at hR
   exact ⟨Nat.succ_pos _,fun x _=>⟨⟨0,(fun s1 e=>by cases e),hR⟩,h3⟩⟩
  | ok z=>
   rw [hs] at hR
   have hm2:=(stringL_mu hl1.2.1 hs).1
   refine ⟨by show mu l.length z.2+1 < mu l.length s+1;omega,fun x hx=>⟨⟨f,fun s2 e=>?_,?_⟩,h3⟩⟩
   ·have e':z.2=s2:=Except.ok.inj e
    rw [← e']
    omega
   ·rw [hR,← hx z rfl];rfl
def matchM (l:List UInt8) (F:Nat) (chk:List UInt8→Nat) (k pos:Nat) (R:Except Flt ((Nat×Bool)×PS)):Except Flt (TLab×PS):=
 thenL R fun o s1=>thenL (stringsL l chk F s1) fun fr s2=>thenL (stringsL l (fun _=>0) F s2) fun ks s3=>.ok (⟨k,pos,o.1,o.2,fr,ks,0⟩,s3)
theorem match_is (l:List UInt8) (F:Nat) (chk:List UInt8→Nat) (k pos:Nat) (st:Except Flt PS):bindS st (matchL l F chk k pos)=matchM l F chk k pos (bindS st (optL l F 0 false false)):=by
 cases st <;> rfl
theorem fits0:fitsL 0=fun _=>0:=rfl
theorem match_bad {w:World} {tb:Nat} {R:Except Flt ((Nat×Bool)×PS)} {l:List UInt8} {F k pos:Nat} {chk:List UInt8→Nat} {st:Except Flt PS} {tag:Nat} {oct cmp:Bool} (h:OptI R l st tag oct cmp) (ht:TSt w tb l st) (hk:(wordS l st).1=58) (hw:whichL [qIs,qContains,qMatches] (wordS l st).2.1=0) (hc:¬ (wordS l st).2.1=qComparator) :
 matchM l F chk k pos R=.error ⟨4,(wordS l st).2.2.2⟩:=by
 obtain ⟨s,f,rfl,_,hf,h2,e1,e2,hR⟩:=opt_tag h ht hk
 have hg:TGood w tb l s:=ht
 rw [e1] at hw hc
 rw [e2]
 rw [if_pos hw,if_pos (by rw [which1,if_neg (fun e=>hc e.symm)])] at hR
 subst hR
 unfold matchM
 simp only [thenL]
 have hk':kQ s.1=58:=hk
 rw [strings_one hg.wd (by omega)]
 unfold stringL
 rw [if_neg (by omega)]
 rfl
theorem match_end {l:List UInt8} {F k pos what:Nat} {st:Except Flt PS} {R:Except Flt ((Nat×Bool)×PS)} {t:Nat} {o:Bool} (hR:R=bindS st fun s=>.ok ((t,o),s)) :
 stOf (matchM l F (fitsL what) k pos R)=stOf (bindS (stOf (bindS st (stringsL l (fitsL what) F))) (stringsL l (fitsL 0) F))∧∀ y,matchM l F (fitsL what) k pos R=.ok y→∃ a b,bindS st (stringsL l (fitsL what) F)=.ok a∧bindS (stOf (bindS st (stringsL l (fitsL what) F))) (stringsL l (fitsL 0) F)=.ok b∧y.1=⟨k,pos,t,o,a.1,b.1,0⟩:=by
 subst hR
 unfold matchM
 rw [fits0]
 cases st with
 | error g=>exact ⟨rfl,fun y e=>by cases e⟩
 | ok s=>
  simp only [bindS,thenL]
  cases h1:stringsL l (fitsL what) F s with
  | error g=>exact ⟨rfl,fun y e=>by cases e⟩
  | ok a=>
   simp only [stOf]
   cases h2:stringsL l (fun _=>0) F a.2 with
   | error g=>exact ⟨rfl,fun y e=>by cases e⟩
   | ok b=>exact ⟨rfl,fun y e=>⟨a,b,rfl,rfl,by cases e;rfl⟩⟩
end
end Go.Proofs.YtgnkjijocdmniaaGreatDoor
