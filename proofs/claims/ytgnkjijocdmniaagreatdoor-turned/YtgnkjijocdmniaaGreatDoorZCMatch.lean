import Derived.Laws.OwnMore
import Derived.BigRegion
import Derived.Test.YtgnkjijocdmniaaGreatDoorSet
namespace Go.Proofs.YtgnkjijocdmniaaGreatDoor
set_option linter.unusedVariables false
set_option linter.unusedSimpArgs false
set_option maxRecDepth 100000
set_option maxHeartbeats 4000000
open Go.Proofs.Tryz
section
open Go.RowKit
def QmC (w:World) (b:Nat) (rv:Value) (req:List (L8)):Prop:=
 (rv=.slice none 0 0∧req=[])∨∃ g c,rv=.slice (some ⟨g,0,none⟩) req.length c∧g≠b∧TxtAt w g req∧req≠[]∧req.length≤1000
theorem QmC.mod{w w':World}{b:Nat}{rv:Value}{req:List (L8)}(h:QmC w b rv req)(hm:Mod b w w'):QmC w' b rv req:=by
 rcases h with h | ⟨g,c,h1,h2,h3,h4,h5⟩
 ·exact Or.inl h
 ·exact Or.inr ⟨g,c,h1,h2,fun j hj=>Qb3 (h3 j hj) hm h2,h4,h5⟩
theorem Qii(w:World)(b:Nat)(rv:Value)(req:List (L8))(x:L8)(h:QmC w b rv req) :
 Calls Tryz.prog 64 #[rv,.string (Qaf x)] w fun e w'=>e=.returned (.bool (decide (0<wL req x)))/\w'=w:=by
 rcases h with⟨rfl,rfl⟩ | ⟨g,c,rfl,h2,h3,h4,h5⟩
 ·exact Tryz.slices_Contains_string_empty none 0 (Qaf x) w
 ·exact Qil g _ c req x w h3 rfl h5
theorem Qjy{req:List (L8)}{sp:L8}(h:sp=QaO\/sp=Qbc\/sp=QaL):Qb6 req sp=decide (0<wL req sp):=by unfold Qb6;rw[if_pos h]
theorem Qok{req:List (L8)}{sp:L8}(h:¬(sp=QaO\/sp=Qbc\/sp=QaL))(h2:sp=QhB\/sp=Qbx):Qb6 req sp=decide (0<wL req Qbw):=by unfold Qb6;rw[if_neg h,if_pos h2]
theorem Qpg{req:List (L8)}{sp:L8}(h:¬(sp=QaO\/sp=Qbc\/sp=QaL))(h2:¬(sp=QhB\/sp=Qbx)):Qb6 req sp=true:=by unfold Qb6;rw[if_neg h,if_neg h2]
theorem QdP(sp:L8)(req:List (L8))(b:Nat)(t:ByteArray)(s:PS)(rv:Value)(mc mt:Nat)(w:World)(h:RC w b t s rv mc mt)(hr:QmC w b rv req) :
 Calls Tryz.prog 235 #[.pointer (some ⟨b,0,none⟩),.string (Qaf sp)] w fun e w'=>e=.returned (.bool (Qb6 req sp))/\w'=w:=by
 have h7:w.cell? ⟨b,7,none⟩=some rv:=h.at_.cell 7;have HC:=Qab (fun x=>Qii w b rv req x hr)
 obtain⟨ra,rn,rc,aa⟩:∃ a n c,rv=.slice a n c:=by
  rcases hr with⟨h,_⟩ | ⟨g,c,h,_⟩
  ·exact⟨_,_,_,h⟩
  ·exact⟨_,_,_,h⟩
 subst aa;clear h hr;have e1:((Qaf sp).toList==[102,105,108,101,105,110,116,111])=decide (sp=QaO):=Qdl sp QaO;have e2:((Qaf sp).toList==[114,101,106,101,99,116])=decide (sp=Qbc):=Qdl sp Qbc;have e3:((Qaf sp).toList==[101,110,118,101,108,111,112,101])=decide (sp=QaL):=Qdl sp QaL;have e4:((Qaf sp).toList==[115,101,116])=decide (sp=QhB):=Qdl sp QhB;have e5:((Qaf sp).toList==[115,116,114,105,110,103])=decide (sp=Qbx):=Qdl sp Qbx;by_cases a1:sp=QaO
 ·have HE:=Qab (Qjy (req:=req) (Or.inl a1));rw[decide_eq_true a1]at e1;clear e2 e3 e4 e5;clear a1;go_enter func235,ntmps235;go_wp2_with (go_at_call 64;refine(HC.o sp).mono ?_;rintro e w' ⟨rfl,rfl⟩);go_ret;exact⟨QaZ (by rw[HE.o]),rfl⟩
 by_cases a2:sp=Qbc
 ·have HE:=Qab (Qjy (req:=req) (Or.inr (Or.inl a2)));rw[decide_eq_false a1]at e1;rw[decide_eq_true a2]at e2;clear e3 e4 e5;clear a2 a1;go_enter func235,ntmps235;go_wp2_with (go_at_call 64;refine(HC.o sp).mono ?_;rintro e w' ⟨rfl,rfl⟩);go_ret;exact⟨QaZ (by rw[HE.o]),rfl⟩
 by_cases a3:sp=QaL
 ·have HE:=Qab (Qjy (req:=req) (Or.inr (Or.inr a3)));rw[decide_eq_false a1]at e1;rw[decide_eq_false a2]at e2;rw[decide_eq_true a3]at e3;clear e4 e5;clear a3 a1 a2;go_enter func235,ntmps235;go_wp2_with (go_at_call 64;refine(HC.o sp).mono ?_;rintro e w' ⟨rfl,rfl⟩);go_ret;exact⟨QaZ (by rw[HE.o]),rfl⟩
 have hN:¬(sp=QaO\/sp=Qbc\/sp=QaL):=by
  rintro(h|h|h)
  ·exact a1 h
  ·exact a2 h
  ·exact a3 h
 by_cases a4:sp=QhB
 ·have HE:=Qab (Qok (req:=req) hN (Or.inl a4));clear hN;rw[decide_eq_false a1]at e1;rw[decide_eq_false a2]at e2;rw[decide_eq_false a3]at e3;rw[decide_eq_true a4]at e4;clear e5;clear a4 a1 a2 a3;go_enter func235,ntmps235;go_wp2_with (go_at_call 64;refine(HC.o Qbw).mono ?_;rintro e w' ⟨rfl,rfl⟩);go_ret;exact⟨QaZ (by rw[HE.o]),rfl⟩
 by_cases a5:sp=Qbx
 ·have HE:=Qab (Qok (req:=req) hN (Or.inr a5));clear hN;rw[decide_eq_false a1]at e1;rw[decide_eq_false a2]at e2;rw[decide_eq_false a3]at e3;rw[decide_eq_false a4]at e4;rw[decide_eq_true a5]at e5;clear a5 a1 a2 a3 a4;go_enter func235,ntmps235;go_wp2_with (go_at_call 64;refine(HC.o Qbw).mono ?_;rintro e w' ⟨rfl,rfl⟩);go_ret;exact⟨QaZ (by rw[HE.o]),rfl⟩
 have HE:=Qab (Qpg (req:=req) hN (by rintro(h|h)<;>contradiction));clear hN;rw[decide_eq_false a1]at e1;rw[decide_eq_false a2]at e2;rw[decide_eq_false a3]at e3;rw[decide_eq_false a4]at e4;rw[decide_eq_false a5]at e5;clear a1 a2 a3 a4 a5;go_enter func235,ntmps235;go_wp2_with (go_at_call 64;refine(HC.o sp).mono ?_;rintro e w' ⟨rfl,rfl⟩);go_ret;exact⟨QaZ (by rw[HE.o]),rfl⟩
end
section
open Go.RowKit
attribute [local go_sem ↓] Go.wp_at_zero Go.wp_at_succ
def slX (X:Nat→Prop) (xs:List (L8)) (w:World) (v:Value):Prop:=
 ∃ g c,v=.slice (some ⟨g,0,none⟩) xs.length c∧X g∧TxtAt w g xs∧xs≠[]
theorem slB.toX{B:Nat}{xs:List (L8)}{w:World}{v:Value}(h:slB B xs w v):slX (fromB B) xs w v:=h
theorem slX.keep{X:Nat->Prop}{xs:List (L8)}{w w':World}{v:Value}(h:slX X xs w v)(hk:AbvX X w w'):slX X xs w' v:=by
 obtain⟨g,c,hv,hg,ht,hx⟩:=h;refine⟨g,c,hv,hg,fun j hj=>?_,hx⟩;have:=ht j hj;rw[World.cell?_of_block (w:=w) (a:=⟨g,j,none⟩) (hk g hg (Qau this))];exact this
theorem slX.weak{X Y:Nat->Prop}{xs:List (L8)}{w:World}{v:Value}(h:slX X xs w v)(hB:∀ k,X k->k<w.heap.size->Y k):slX Y xs w v:=by
 obtain⟨g,c,hv,hg,ht,hx⟩:=h;exact⟨g,c,hv,hB g hg (Qau (ht 0 (List.length_pos_iff.2 hx))),ht,hx⟩
def mtX (X:Nat→Prop) (hw:L8) (x:Qcv) (w:World) (v:Value):Prop:=
 ∃ fv kv,v=.agg #[.string (Qaf hw),.int .i64 x.pos,.int .i64 x.tag,.bool x.octet,fv,kv]∧slX X x.fr w fv∧slX X x.keys w kv
def Qei {α:Type} (X:Nat→Prop) (P:(Nat→Prop)→α→World→Value→Prop) (x:Qcv×List α) (w:World) (v:Value):Prop:=
 match x.1.kind with
 | 0=>x.2=[]∧v=.iface 302 (.agg #[.string (Qaf QfB),.int .i64 x.1.pos,.bool true])
 | 1=>x.2=[]∧v=.iface 302 (.agg #[.string (Qaf QcD),.int .i64 x.1.pos,.bool false])
 | 2=>∃ a u,x.2=[a]∧v=.iface 305 (.agg #[.string (Qaf kNot),.int .i64 x.1.pos,u])∧P X a w u
 | 3=>∃ u,v=.iface 224 (.agg #[.string (Qaf QbW),.int .i64 x.1.pos,u])∧trX X P x.2 w u∧x.2≠[]
 | 4=>∃ u,v=.iface 225 (.agg #[.string (Qaf QbV),.int .i64 x.1.pos,u])∧trX X P x.2 w u∧x.2≠[]
 | 5=>x.2=[]∧∃ u,v=.iface 231 u∧mtX X QbX x.1 w u
 | 6=>x.2=[]∧∃ u,v=.iface 234 u∧mtX X QaL x.1 w u
 | 7=>x.2=[]∧∃ u,v=.iface 235 u∧mtX X Qbx x.1 w u
 | 8=>x.2=[]∧∃ u,v=.iface 309 (.agg #[.string (Qaf QbK),.int .i64 x.1.pos,u])∧slX X x.1.fr w u
 | _=>x.2=[]∧v=.iface 311 (.agg #[.string (Qaf Qd5),.int .i64 x.1.pos,.int .i64 x.1.tag,.int .i64 x.1.num])
def TestV:(n:Nat)→(Nat→Prop)→Qa6 n→World→Value→Prop
 | 0,_,_,_,_=>False
 | n+1,X,x,w,v=>Qei X (TestV n) x w v
theorem QsD{α:Type}{X:Nat->Prop}{P:(Nat->Prop)->α->World->Value->Prop}{x:Qcv×List α}{w:World}{v:Value}(h:Qei X P x w v):∃ ty y,v=.iface ty y:=by
 unfold Qei at h
 split at h
 ·exact⟨_,_,h.2⟩
 ·exact⟨_,_,h.2⟩
 ·obtain⟨a,u,_,h,_⟩:=h;exact⟨_,_,h⟩
 ·obtain⟨u,h,_⟩:=h;exact⟨_,_,h⟩
 ·obtain⟨u,h,_⟩:=h;exact⟨_,_,h⟩
 ·obtain⟨_,u,h,_⟩:=h;exact⟨_,_,h⟩
 ·obtain⟨_,u,h,_⟩:=h;exact⟨_,_,h⟩
 ·obtain⟨_,u,h,_⟩:=h;exact⟨_,_,h⟩
 ·obtain⟨_,u,h,_⟩:=h;exact⟨_,_,h⟩
 ·exact⟨_,_,h.2⟩
theorem mtX.keep{X:Nat->Prop}{hw:L8}{x:Qcv}{w w':World}{v:Value}(h:mtX X hw x w v)(hk:AbvX X w w'):mtX X hw x w' v:=by
 obtain⟨fv,kv,h1,h2,h3⟩:=h;exact⟨fv,kv,h1,h2.keep hk,h3.keep hk⟩
theorem mtX.weak{X Y:Nat->Prop}{hw:L8}{x:Qcv}{w:World}{v:Value}(h:mtX X hw x w v)(hB:∀ k,X k->k<w.heap.size->Y k):mtX Y hw x w v:=by
 obtain⟨fv,kv,h1,h2,h3⟩:=h;exact⟨fv,kv,h1,h2.weak hB,h3.weak hB⟩
theorem QrW{α:Type}{X:Nat->Prop}{P:(Nat->Prop)->α->World->Value->Prop}(hP:TreeP P){x:Qcv×List α}{w w':World}{v:Value}(h:Qei X P x w v)(hk:AbvX X w w'):Qei X P x w' v:=by
 unfold Qei at h ⊢
 split at h
 ·exact h
 ·exact h
 ·obtain⟨a,u,h1,h2,h3⟩:=h;exact⟨a,u,h1,h2,hP.keep _ _ _ _ _ h3 hk⟩
 ·obtain⟨u,h1,h2,h3⟩:=h;exact⟨u,h1,h2.keep hP hk,h3⟩
 ·obtain⟨u,h1,h2,h3⟩:=h;exact⟨u,h1,h2.keep hP hk,h3⟩
 ·obtain⟨h0,u,h1,h2⟩:=h;exact⟨h0,u,h1,h2.keep hk⟩
 ·obtain⟨h0,u,h1,h2⟩:=h;exact⟨h0,u,h1,h2.keep hk⟩
 ·obtain⟨h0,u,h1,h2⟩:=h;exact⟨h0,u,h1,h2.keep hk⟩
 ·obtain⟨h0,u,h1,h2⟩:=h;exact⟨h0,u,h1,h2.keep hk⟩
 ·exact h
theorem QsL{α:Type}{X Y:Nat->Prop}{P:(Nat->Prop)->α->World->Value->Prop}(hP:TreeP P){x:Qcv×List α}{w:World}{v:Value}(h:Qei X P x w v)(hB:∀ k,X k->k<w.heap.size->Y k):Qei Y P x w v:=by
 unfold Qei at h ⊢
 split at h
 ·exact h
 ·exact h
 ·obtain⟨a,u,h1,h2,h3⟩:=h;exact⟨a,u,h1,h2,hP.weak _ _ _ _ _ h3 hB⟩
 ·obtain⟨u,h1,h2,h3⟩:=h;exact⟨u,h1,trX.weak hP h3 h2 hB,h3⟩
 ·obtain⟨u,h1,h2,h3⟩:=h;exact⟨u,h1,trX.weak hP h3 h2 hB,h3⟩
 ·obtain⟨h0,u,h1,h2⟩:=h;exact⟨h0,u,h1,h2.weak hB⟩
 ·obtain⟨h0,u,h1,h2⟩:=h;exact⟨h0,u,h1,h2.weak hB⟩
 ·obtain⟨h0,u,h1,h2⟩:=h;exact⟨h0,u,h1,h2.weak hB⟩
 ·obtain⟨h0,u,h1,h2⟩:=h;exact⟨h0,u,h1,h2.weak hB⟩
 ·exact h
theorem Qbf:∀ n,TreeP (TestV n)
 |0=>⟨fun _ _ _ _ h=>h.elim,fun _ _ _ _ _ h=>h.elim,fun _ _ _ _ _ h=>h.elim⟩
 |n+1=>⟨fun _ _ _ _ h=>QsD h,fun _ _ _ _ _ h hk=>QrW (Qbf n) h hk,fun _ _ _ _ _ h hB=>QsL (Qbf n) h hB⟩
def Qum (w:World) (T:TypeId) (m:Nat) (f:L8→Option Value):Prop:=
 ∀ (W:World) (x:L8),W.heap[m]?=w.heap[m]?→(Instr.lookup T (.map (some m)) (.string (Qaf x)) true).run Tryz.prog W=.ok (.tuple #[(f x).getD .nilFunc,.bool (f x).isSome]) W
def testFn (b pr pt pf:Nat) (x:L8):Option Value:=
 match wL tNs x with
 | 1=>some (.func (.func 185) #[] #[.pointer (some ⟨pt,0,none⟩)])
 | 2=>some (.func (.func 185) #[] #[.pointer (some ⟨pf,0,none⟩)])
 | 3=>some (.func (.func 128) #[.pointer (some ⟨b,0,none⟩)] #[])
 | 4=>some (.func (.func 129) #[] #[.pointer (some ⟨pr,0,none⟩)])
 | 5=>some (.func (.func 131) #[] #[.pointer (some ⟨pr,0,none⟩)])
 | 6=>some (.func (.func 132) #[] #[.pointer (some ⟨pr,0,none⟩)])
 | 7=>some (.func (.func 135) #[] #[.pointer (some ⟨pr,0,none⟩)])
 | 8=>some (.func (.func 138) #[] #[.pointer (some ⟨pr,0,none⟩)])
 | 9=>some (.func (.func 139) #[.pointer (some ⟨b,0,none⟩)] #[])
 | 10=>some (.func (.func 140) #[.pointer (some ⟨b,0,none⟩)] #[])
 | _=>none
structure Qo5 (w:World) (b mt pr pt pf:Nat):Prop where
 look:Qum w 208 mt (testFn b pr pt pf)
 hpr:Qm4 w pr b
 hpt:w.cell? ⟨pt,0,none⟩=some (.bool true)
 hpf:w.cell? ⟨pf,0,none⟩=some (.bool false)
 ptb:pt≠b
 pfb:pf≠b
 mtb:mt≠b
 mtl:mt < w.heap.size
theorem Qo5.mod{w w':World}{b mt pr pt pf:Nat}(h:Qo5 w b mt pr pt pf)(hm:Mod b w w'):Qo5 w' b mt pr pt pf:=
 ⟨fun W x e=>h.look W x (e.trans (hm.block mt h.mtl h.mtb)),h.hpr.mod hm,Qb3 h.hpt hm h.ptb,Qb3 h.hpf hm h.pfb,h.ptb,h.pfb,h.mtb,Nat.lt_of_lt_of_le h.mtl hm.size⟩
theorem QjA{b pr pt pf:Nat}{x:L8}(h:wL tNs x=0):testFn b pr pt pf x=none:=by unfold testFn;rw[h];rfl
theorem QkM(d:Int)(b:Nat)(t:ByteArray)(s:PS)(rv:Value)(mc mt pr pt pf:Nat)(w:World)(h:RC w b t s rv mc mt)(ht:Qo5 w b mt pr pt pf)(hd:d<=6)(h0:wL tNs s.1.spelt=0) :
 Calls Tryz.prog 222 #[.pointer (some ⟨b,0,none⟩),.map (some mt),.int .i64 d] w fun e w'=>Qc8 ⟨4,s.1.pos⟩ w e w'/\Mod b w w':=by
 have h1:w.cell? ⟨b,1,none⟩=some (.int .i64 s.1.kind):=h.at_.cell 1;have h3:w.cell? ⟨b,3,none⟩=some (.string (Qaf s.1.spelt)):=h.at_.cell 3;have ac:=ht.look w s.1.spelt rfl;rw[QjA h0]at ac;have H:=Qab h;clear h ht h0;simp only[Option.getD_none,Option.isSome_none]at ac;by_cases hk:s.1.kind=1
 ·have ad:((s.1.kind:Int) != 1)=false:=by simp;omega
  clear hk;go_enter func222,ntmps222;go_wp2_with fail;refine(QaF b _ _ _ rfl).mono ?_;rintro e w' ⟨rfl,ab⟩;subst ab;go_wp2_with fail;refine(Qbm b 4 _ _ t s.1 s.2 rv mc mt _ H.o.at_ rfl rfl).mono ?_;rintro e w1 ⟨⟨bb,hz,rfl,aa⟩,hm⟩;exact⟨rfl,⟨bb,hz,rfl,aa⟩,Mod.of_below hm⟩
 ·have ad:((s.1.kind:Int) != 1)=true:=by simp;omega
  clear hk;go_enter func222,ntmps222;go_wp2_with fail;refine(QaF b _ _ _ rfl).mono ?_;rintro e w' ⟨rfl,ab⟩;subst ab;go_wp2_with fail;refine(Qbm b 4 _ _ t s.1 s.2 rv mc mt _ H.o.at_ rfl rfl).mono ?_;rintro e w1 ⟨⟨bb,hz,rfl,aa⟩,hm⟩;exact⟨rfl,⟨bb,hz,rfl,aa⟩,Mod.of_below hm⟩
end
section
open Go.RowKit
def QgP {α β:Type} (X:Nat→Prop) (P1:(Nat→Prop)→β→World→Value→Prop) (P2:(Nat→Prop)→α→World→Value→Prop) (xs:List (β×List α)) (w:World) (v:Value):Prop:=
 ∃ g c,v=.slice (some ⟨g,0,none⟩) xs.length c∧X g∧∀ j (hj:j < xs.length),∃ u bv,w.cell? ⟨g,2*j,none⟩=some u∧w.cell? ⟨g,2*j+1,none⟩=some bv∧P1 X xs[j].1 w u∧blX X P2 xs[j].2 w bv
theorem QgP.keep{α β:Type}{X:Nat->Prop}{P1:(Nat->Prop)->β->World->Value->Prop}{P2:(Nat->Prop)->α->World->Value->Prop}(h1:TreeP P1)(h2:TreeP P2){xs:List (β×List α)}{w w':World}{v:Value}(h:QgP X P1 P2 xs w v)(hm:AbvX X w w'):QgP X P1 P2 xs w' v:=by
 obtain⟨g,c,hv,hg,hx⟩:=h;refine⟨g,c,hv,hg,fun j hj=>?_⟩;obtain⟨u,bv,hu,hb,hp,hq⟩:=hx j hj;refine⟨u,bv,?_,?_,h1.keep _ _ _ _ _ hp hm,hq.keep h2 hm⟩
 ·rw[World.cell?_of_block (w:=w) (a:=⟨g,2*j,none⟩) (hm g hg (Qau hu))];exact hu
 ·rw[World.cell?_of_block (w:=w) (a:=⟨g,2*j+1,none⟩) (hm g hg (Qau hb))];exact hb
theorem QgP.weak{α β:Type}{X Y:Nat->Prop}{P1:(Nat->Prop)->β->World->Value->Prop}{P2:(Nat->Prop)->α->World->Value->Prop}(h1:TreeP P1)(h2:TreeP P2){xs:List (β×List α)}{w:World}{v:Value}(aa:xs≠[])(h:QgP X P1 P2 xs w v)(hB:∀ k,X k->k<w.heap.size->Y k):QgP Y P1 P2 xs w v:=by
 obtain⟨g,c,hv,hg,hx⟩:=h;refine⟨g,c,hv,?_,fun j hj=>?_⟩
 ·obtain⟨u,bv,hu,_⟩:=hx 0 (List.length_pos_iff.2 aa);exact hB g hg (Qau hu)
 ·obtain⟨u,bv,hu,hb,hp,hq⟩:=hx j hj;exact⟨u,bv,hu,hb,h1.weak _ _ _ _ _ hp hB,hq.weak h2 hB⟩
def QxJ (hw:L8) (p k:Nat) (x:L8):Value:=.iface 269 (.agg #[.string (Qaf hw),.int .i64 p,.int .i64 k,.string (Qaf x)])
def QhV {α β:Type} (X:Nat→Prop) (P1:(Nat→Prop)→β→World→Value→Prop) (P2:(Nat→Prop)→α→World→Value→Prop) (x:Qgt×List (β×List α)×List α) (w:World) (v:Value):Prop:=
 match x.1.kind with
 | 0=>v=QxJ Qfk x.1.pos 1 []
 | 1=>v=.iface 294 (.agg #[.string (Qaf Qb0),.int .i64 x.1.pos])
 | 2=>v=.iface 295 (.agg #[.string (Qaf Qd6),.int .i64 x.1.pos])
 | 3=>v=QxJ QaO x.1.pos 2 x.1.arg
 | 4=>v=QxJ Qbl x.1.pos 3 x.1.arg
 | 5=>v=QxJ Qbc x.1.pos 4 x.1.arg
 | 6=>v=.iface 264 (.agg #[.string (Qaf QhB),.int .i64 x.1.pos,.int .i64 x.1.tag,.string (Qaf x.1.var),.string (Qaf x.1.arg)])
 | _=>∃ av ev,v=.iface 261 (.agg #[.string (Qaf kIf),.int .i64 x.1.pos,av,.bool x.1.els,ev])∧QgP X P1 P2 x.2.1 w av∧x.2.1≠[]∧blX X P2 x.2.2 w ev
def QhW:(n:Nat)→(Nat→Prop)→Qbo n→World→Value→Prop
 | 0,_,_,_,_=>False
 | n+1,X,x,w,v=>QhV X (TestV n) (QhW n) x w v
theorem Qta{α β:Type}{X:Nat->Prop}{P1:(Nat->Prop)->β->World->Value->Prop}{P2:(Nat->Prop)->α->World->Value->Prop}{x:Qgt×List (β×List α)×List α}{w:World}{v:Value}(h:QhV X P1 P2 x w v):∃ ty y,v=.iface ty y:=by
 unfold QhV QxJ at h
 split at h
 ·exact⟨_,_,h⟩
 ·exact⟨_,_,h⟩
 ·exact⟨_,_,h⟩
 ·exact⟨_,_,h⟩
 ·exact⟨_,_,h⟩
 ·exact⟨_,_,h⟩
 ·exact⟨_,_,h⟩
 ·obtain⟨av,ev,h,_⟩:=h;exact⟨_,_,h⟩
theorem Qsr{α β:Type}{X:Nat->Prop}{P1:(Nat->Prop)->β->World->Value->Prop}{P2:(Nat->Prop)->α->World->Value->Prop}(h1:TreeP P1)(h2:TreeP P2){x:Qgt×List (β×List α)×List α}{w w':World}{v:Value}(h:QhV X P1 P2 x w v)(hk:AbvX X w w'):QhV X P1 P2 x w' v:=by
 unfold QhV at h ⊢
 split at h
 ·exact h
 ·exact h
 ·exact h
 ·exact h
 ·exact h
 ·exact h
 ·exact h
 ·obtain⟨av,ev,h,ha,hn,hb⟩:=h;exact⟨av,ev,h,ha.keep h1 h2 hk,hn,hb.keep h2 hk⟩
theorem Qr2{α β:Type}{X Y:Nat->Prop}{P1:(Nat->Prop)->β->World->Value->Prop}{P2:(Nat->Prop)->α->World->Value->Prop}(h1:TreeP P1)(h2:TreeP P2){x:Qgt×List (β×List α)×List α}{w:World}{v:Value}(h:QhV X P1 P2 x w v)(hB:∀ k,X k->k<w.heap.size->Y k):QhV Y P1 P2 x w v:=by
 unfold QhV at h ⊢
 split at h
 ·exact h
 ·exact h
 ·exact h
 ·exact h
 ·exact h
 ·exact h
 ·exact h
 ·obtain⟨av,ev,h,ha,hn,hb⟩:=h;exact⟨av,ev,h,QgP.weak h1 h2 hn ha hB,hn,hb.weak h2 hB⟩
theorem QaX:∀ n,TreeP (QhW n)
 |0=>⟨fun _ _ _ _ h=>h.elim,fun _ _ _ _ _ h=>h.elim,fun _ _ _ _ _ h=>h.elim⟩
 |n+1=>⟨fun _ _ _ _ h=>Qta h,fun _ _ _ _ _ h hk=>Qsr (Qbf n) (QaX n) h hk,fun _ _ _ _ _ h hB=>Qr2 (Qbf n) (QaX n) h hB⟩
theorem QjL{α β:Type}{l:L8}{F:Nat}{ab:PS->Except Flt (β×PS)}{sub:PS->Except Flt (α×PS)}{f:Nat}{aa:List (β×List α)}{s:PS}{e:Flt}(h:mayL l [QbM] s=.error e):aMr l F ab sub (f+1) aa s=.error e:=by rw[aMr];exact Qad h
theorem Qeb{α β:Type}{l:L8}{F:Nat}{ab:PS->Except Flt (β×PS)}{sub:PS->Except Flt (α×PS)}{f:Nat}{aa:List (β×List α)}{s:PS}{y:Nat×PS}(h:mayL l [QbM] s=.ok y)(h1:y.1=0):aMr l F ab sub (f+1) aa s=.ok (aa,y.2):=by rw[aMr,Qac h,if_pos h1]
theorem QjC{α β:Type}{l:L8}{F:Nat}{aa:PS->Except Flt (β×PS)}{sub:PS->Except Flt (α×PS)}{f:Nat}{ab:List (β×List α)}{s:PS}{y:Nat×PS}{e:Flt}(h:mayL l [QbM] s=.ok y)(h1:¬ y.1=0)(h2:armL l F aa sub y.2=.error e):aMr l F aa sub (f+1) ab s=.error e:=by rw[aMr,Qac h,if_neg h1];exact Qad h2
theorem QpE{α β:Type}{l:L8}{F:Nat}{aa:PS->Except Flt (β×PS)}{sub:PS->Except Flt (α×PS)}{f:Nat}{ab:List (β×List α)}{s:PS}{y:Nat×PS}{z:(β×List α)×PS}(h:mayL l [QbM] s=.ok y)(h1:¬ y.1=0)(h2:armL l F aa sub y.2=.ok z):aMr l F aa sub (f+1) ab s=aMr l F aa sub f (ab++[z.1]) z.2:=by rw[aMr,Qac h,if_neg h1];exact Qac h2
def Qff {α:Type} (P:α→Value→Value→Prop):List α→List Value→Prop
 | [],[]=>True
 | a :: xs,u :: v :: vs=>P a u v∧Qff P xs vs
 | _,_=>False
theorem Qff.imp{α:Type}{P Q:α->Value->Value->Prop}(h:∀ a u v,P a u v->Q a u v):∀ {xs:List α} {vs:List Value},Qff P xs vs->Qff Q xs vs
 | [],[],_=>trivial
 |a::xs,u::v::vs,hr=>⟨h _ _ _ hr.1,Qff.imp h hr.2⟩
 | [],_::_,hr=>hr.elim
 |_::_,[],hr=>hr.elim
 |_::_,[_],hr=>hr.elim
theorem Qff.snoc{α:Type}{P:α->Value->Value->Prop}{a:α}{u v:Value}(h:P a u v):∀ {xs:List α} {vs:List Value},Qff P xs vs->Qff P (xs++[a]) (vs++[u,v])
 | [],[],_=>⟨h,trivial⟩
 |a'::xs,u'::v'::vs,hr=>⟨hr.1,Qff.snoc h hr.2⟩
 | [],_::_,hr=>hr.elim
 |_::_,[],hr=>hr.elim
 |_::_,[_],hr=>hr.elim
theorem Qff.at{α:Type}{P:α->Value->Value->Prop}:∀ {xs:List α} {vs:List Value},Qff P xs vs->∀ j (hj:j<xs.length),∃ u v,vs[2*j]?=some u/\vs[2*j+1]?=some v/\P xs[j] u v
 | [],[],_,j,hj=>absurd hj (Nat.not_lt_zero _)
 |a::xs,u::v::vs,h,0,_=>⟨u,v,rfl,rfl,h.1⟩
 |a::xs,u::v::vs,h,j+1,hj=>by
  obtain⟨u',v',h1,h2,h3⟩:=Qff.at h.2 j (by simpa using hj);refine⟨u',v',?_,?_,by simpa using h3⟩
  ·rw[show 2*(j+1)=2*j+1+1 from by omega];simpa using h1
  ·rw[show 2*(j+1)+1=2*j+1+1+1 from by omega];simpa using h2
 | [],_::_,h,_,_=>h.elim
 |_::_,[],h,_,_=>h.elim
 |_::_,[_],h,_,_=>h.elim
def Qdj {α β:Type} (P1:(Nat→Prop)→β→World→Value→Prop) (P2:(Nat→Prop)→α→World→Value→Prop) (base T:Nat) (w:World) (v:Value) (a:β×List α) (u bv:Value):Prop:=
 ∃ X,P1 X a.1 w u∧blX X P2 a.2 w bv∧(∀ k,X k→base≤k∧k < w.heap.size)∧(∀ g,v.ownBlock=some g→¬ X g)∧¬ X T
theorem Qdj.mod{α β:Type}{P1:(Nat->Prop)->β->World->Value->Prop}{P2:(Nat->Prop)->α->World->Value->Prop}(ab:TreeP P1)(ac:TreeP P2){base T b:Nat}{w w':World}{v:Value}{a:β×List α}{u bv:Value}(h:Qdj P1 P2 base T w v a u bv)(hm:Mod b w w')(hb:b<base):Qdj P1 P2 base T w' v a u bv:=by
 obtain⟨X,h1,aa,h2,h3,h4⟩:=h;have hA:AbvX X w w':=hm.abvX (fun e=>by have:=(h2 b e).1;omega);exact⟨X,ab.keep _ _ _ _ _ h1 hA,aa.keep ac hA,fun k hk=>⟨(h2 k hk).1,Nat.lt_of_lt_of_le (h2 k hk).2 hm.size⟩,h3,h4⟩
theorem Qdj.set{α β:Type}{P1:(Nat->Prop)->β->World->Value->Prop}{P2:(Nat->Prop)->α->World->Value->Prop}(ab:TreeP P1)(ac:TreeP P2){base T:Nat}{w:World}{v:Value}{a:β×List α}{u bv:Value}(h:Qdj P1 P2 base T w v a u bv)(o:Nat)(x:Value):Qdj P1 P2 base T (w.setCell ⟨T,o,none⟩ x) v a u bv:=by
 obtain⟨X,h1,aa,h2,h3,h4⟩:=h;have hA:AbvX X w (w.setCell ⟨T,o,none⟩ x):=AbvX.set h4 _ _;exact⟨X,ab.keep _ _ _ _ _ h1 hA,aa.keep ac hA,fun k hk=>⟨(h2 k hk).1,by simpa[World.setCell]using(h2 k hk).2⟩,h3,h4⟩
theorem Qdj.new{α β:Type}{P1:(Nat->Prop)->β->World->Value->Prop}{P2:(Nat->Prop)->α->World->Value->Prop}(aa:TreeP P1)(ab:TreeP P2){base T B:Nat}{w:World}{v:Value}{a:β×List α}{u bv:Value}(h:P1 (fromB B) a.1 w u)(h':blX (fromB B) P2 a.2 w bv)(hB:base<=B)(hv:∀ g,v.ownBlock=some g->g<B)(hT:T<B):Qdj P1 P2 base T w v a u bv:=
 ⟨fun k=>B<=k/\k<w.heap.size,aa.weak _ _ _ _ _ h (fun k hk hz=>⟨hk,hz⟩),h'.weak ab (fun k hk hz=>⟨hk,hz⟩),fun k hk=>⟨Nat.le_trans hB hk.1,hk.2⟩,fun g hg hX=>by have:=hv g hg;omega,fun hX=>by omega⟩
theorem Qdj.grown{α β:Type}{P1:(Nat->Prop)->β->World->Value->Prop}{P2:(Nat->Prop)->α->World->Value->Prop}(ab:TreeP P1)(ac:TreeP P2){base T:Nat}{w w':World}{v v':Value}{a:β×List α}{u bv:Value}{o:Obj}(h:Qdj P1 P2 base T w v a u bv)(hg:(w.alloc o).grownBy w' v.ownBlock)(hv:v'.ownBlock=v.ownBlock\/v'.ownBlock=some (w.heap.size+1)):Qdj P1 P2 base T w' v' a u bv:=by
 obtain⟨X,h1,aa,h2,h3,h4⟩:=h
 have hA:AbvX X w w':=fun k hk hz=>by
  rw[hg.block k (by simp;omega) (fun e=>h3 k e.symm hk)];exact Below.heap_alloc _ _ _ hz
 refine⟨X,ab.keep _ _ _ _ _ h1 hA,aa.keep ac hA,fun k hk=>⟨(h2 k hk).1,?_⟩,fun g hgb hX=>?_,h4⟩
 ·have:=(h2 k hk).2;have:=hg.size;simp at this;omega
 ·rcases hv with hv|hv
  ·exact h3 g (hv ▸ hgb) hX
  ·rw[hv]at hgb;have:=(h2 g hX).2;simp at hgb;omega
theorem QgP.of_owns{α β:Type}{P1:(Nat->Prop)->β->World->Value->Prop}{P2:(Nat->Prop)->α->World->Value->Prop}(ab:TreeP P1)(ac:TreeP P2){w:World}{base T n:Nat}{e:TypeId}{v:Value}{xs:List (β×List α)}{vs:List Value}(h:w.ownsRow base e 2 v n vs)(hn:n=xs.length)(hx:xs≠[])(ae:∀ g,v.ownBlock=some g->g≠T)(hr:Qff (fun a u bv=>Qdj P1 P2 base T w v a u bv) xs vs):QgP (fun k=>base<=k/\k≠T) P1 P2 xs w v:=by
 subst hn;have hc:=fun g (hg:v.ownBlock=some g)=>h.cells hg
 obtain⟨h1,h2⟩:=h;rcases h2 with⟨_,h3⟩ | ⟨g,aa,cur,hv,hg,r⟩
 ·exact absurd (List.eq_nil_of_length_eq_zero h3) hx
 ·refine⟨g,aa,hv,⟨hg,ae g (by rw[hv];rfl)⟩,fun j hj=>?_⟩;obtain⟨u,bv,hu,hb,X,hp,hq,hX,_,ad⟩:=hr.at j hj;have k1:=hc g (by rw[hv];rfl) _ u hu;have k2:=hc g (by rw[hv];rfl) _ bv hb;rw[Qcs]at k1 k2;have hk:∀ k,X k->k<w.heap.size->base<=k/\k≠T:=fun k hk _=>⟨(hX k hk).1,fun e=>ad (e ▸ hk)⟩
  exact⟨u,bv,k1,k2,ab.weak _ _ _ _ _ hp hk,hq.weak ac hk⟩
end
section
open Go.RowKit
attribute [local go_sem ↓] Go.wp_at_zero Go.wp_at_succ
abbrev IV:=Ins×Value×Value
def Qh8 (p:IV):List Value:=[.int .i64 p.1.op,.int .i64 p.1.n,.int .i64 p.1.tag,.bool p.1.oct,p.2.1,p.2.2,.int .i64 p.1.at_]
def QcK (ps:List IV):List Value:=ps.flatMap Qh8
theorem Qd1(p:IV)(ps:List IV):QcK (p::ps)=Qh8 p++QcK ps:=by simp[QcK]
theorem QmY(ps qs:List IV):QcK (ps++qs)=QcK ps++QcK qs:=by simp[QcK]
theorem QgU:∀ ps:List IV,(QcK ps).length=ps.length*7
 | []=>rfl
 |p::r=>by rw[Qd1,List.length_append,QgU r,List.length_cons];simp only[Qh8,List.length_cons,List.length_nil];omega
theorem Qj5:∀(ps:List IV) (j:Nat) (hj:j<ps.length) (k:Nat),k<7->(QcK ps)[j*7+k]?=(Qh8 ps[j])[k]?
 | [],j,hj,_,_=>absurd hj (Nat.not_lt_zero _)
 |p::r,0,_,k,hk=>by
  rw[Qd1,Nat.zero_mul,Nat.zero_add];show(Qh8 p++QcK r)[k]?=(Qh8 p)[k]?
  rw[List.getElem?_append_left (by simpa[Qh8]using hk)]
 |p::r,j+1,hj,k,hk=>by
  have ih:=Qj5 r j (by simpa using hj) k hk;have hl:(Qh8 p).length=7:=rfl;have e:(Qh8 p).length<=(j+1)*7+k:=by rw[hl];omega
  have e2:(j+1)*7+k - 7=j*7+k:=by omega
  rw[Qd1,List.getElem?_append_right e,hl,e2,ih];rfl
theorem Qlf:∀(ps:List IV) (j:Nat) (n:Int),(QcK ps).set (j*7+1) (.int .i64 n)=QcK (ps.modify j fun p=>(Qgg n p.1,p.2))
 | [],j,n=>by cases j<;>rfl
 |p::r,0,n=>rfl
 |p::r,j+1,n=>by
  have ih:=Qlf r j n;have hl:(Qh8 p).length=7:=rfl;have e:(Qh8 p).length<=(j+1)*7+1:=by rw[hl];omega
  have e2:(j+1)*7+1 - 7=j*7+1:=by omega
  show(QcK (p::r)).set ((j+1)*7+1) (.int .i64 n)=QcK (p::r.modify j _)
  rw[Qd1,Qd1,List.set_append_right _ _ e,hl,e2,ih]
def coO:Obj→Bool
 | .cells _ t _=>t == 202 || t == 63
 | _=>false
def PCo (B k:Nat) (o:Obj):Prop:=B≤k∧coO o=true
theorem PCo.not{B k:Nat}{cs:Array Value}{t:TypeId}{f:Nat×Nat}(h1:t≠202)(h2:t≠63):¬ PCo B k (.cells cs t f):=fun h=>by
 have:=h.2;unfold coO at this;simp at this;rcases this with h|h
 ·exact h1 h
 ·exact h2 h
theorem PCo.str{B:Nat}(k:Nat)(cs:Array Value):¬ PCo B k (.cells cs 9):=PCo.not (by decide) (by decide)
structure CI (w:World) (B cb:Nat) (cv:Value) (ps:List IV):Prop where
 bc:B≤cb
 blk:w.heap[cb]?=some (.cells #[cv] 202)
 row:w.ownsRow B 63 7 cv ps.length (QcK ps)
 ok:∀ p∈ps,Qck w p.1 p.2.1 p.2.2
 nil:ps=[]→cv=.slice none 0 0
def CC (w:World) (B cb:Nat) (cs:List Ins):Prop:=∃ cv ps,ps.map Prod.fst=cs∧CI w B cb cv ps
theorem CC.lt{w:World}{B cb:Nat}{cs:List Ins}(h:CC w B cb cs):B<=cb/\cb<w.heap.size:=by
 obtain⟨cv,ps,_,h⟩:=h;exact⟨h.bc,QaI h.blk⟩
theorem CI.fr{P:Nat->Obj->Prop}{w w':World}{B cb:Nat}{cv:Value}{ps:List IV}(h:CI w B cb cv ps)(hf:Fr P w w')(h1:∀ k cs,¬ P k (.cells cs 202))(h2:∀ k cs,¬ P k (.cells cs 63))(h3:∀ k cs,¬ P k (.cells cs 9)):CI w' B cb cv ps:=
 ⟨h.bc,hf.block _ _ h.blk (h1 _ _),QbL h.row hf h2,fun p hp=>(h.ok p hp).fr hf h3,h.nil⟩
theorem CI.below{w w':World}{B cb:Nat}{cv:Value}{ps:List IV}(h:CI w B cb cv ps)(hb:Below w.heap.size w w'):CI w' B cb cv ps:=h.fr (P:=fun _ _=>False) (Fr.of_below hb) (fun _ _ h=>h) (fun _ _ h=>h) (fun _ _ h=>h)
theorem CI.drew{w:World}{B cb:Nat}{cv:Value}{ps:List IV}(h:CI w B cb cv ps):CI w.drew B cb cv ps:=h.fr (P:=fun _ _=>False) (Fr.refl _ w).drew (fun _ _ h=>h) (fun _ _ h=>h) (fun _ _ h=>h)
theorem CC.below{w w':World}{B cb:Nat}{cs:List Ins}(h:CC w B cb cs)(hb:Below w.heap.size w w'):CC w' B cb cs:=by
 obtain⟨cv,ps,e,h⟩:=h;exact⟨cv,ps,e,h.below hb⟩
theorem CC.alloc{w:World}{B cb:Nat}{cs:List Ins}(h:CC w B cb cs)(o:Obj):CC (w.alloc o) B cb cs:=h.below ((Below.refl _ _).alloc (Nat.le_refl _) _)
theorem Fr.co{B cb:Nat}{w w':World}{cs:List Ins}(h:Fr (PCo B) w w')(hc:CC w B cb cs):Below B w w':=h.below (fun _ _ h=>h.1) (Nat.le_of_lt (Nat.lt_of_le_of_lt hc.lt.1 hc.lt.2))
theorem CI.regrow{w w5:World}{B cb:Nat}{cv:Value}{ps qs:List IV}(h:CI w B cb cv ps)(hf:Fr (fun k _=>cv.ownBlock=some k) w w5)(v':Value)(ho:w5.ownsRow B 63 7 v' (ps++qs).length (QcK (ps++qs)))(hq:∀ p∈qs,Qck w p.1 p.2.1 p.2.2)(ae:qs≠[]) :
 CI (w5.setCell ⟨cb,0,none⟩ v') B cb v' (ps++qs)/\Fr (PCo B) w (w5.setCell ⟨cb,0,none⟩ v'):=by
 have ad:∀(k:Nat) (o:Obj),w.heap[k]?=some o->(∀ cs,o≠.cells cs 63)->w5.heap[k]?=some o:=fun k o hk ho=>by
  refine hf.block k o hk (fun e=>?_);obtain⟨_,cs,aa⟩:=Qcg h.row k o e hk;exact ho cs aa
 have ab:=ad cb _ h.blk (fun cs e=>by injection e with e1 e2;exact absurd e2 (by decide))
 have ac:Fr (PCo B) w (w5.setCell ⟨cb,0,none⟩ v'):=by
  refine(Fr.mono ⟨hf.os,hf.tape,hf.output,hf.size,fun k o hk hn=>?_⟩ (fun k o h=>h)).set ab ⟨h.bc,rfl⟩ 0 v'
  exact hf.block k o hk (fun e=>hn (by
   obtain⟨hb,cs,aa⟩:=Qcg h.row k o e hk;subst aa
   exact ⟨hb,rfl⟩))
 have af:v'.ownBlock≠some cb:=fun e=>by
  obtain⟨_,cs,aa⟩:=Qcg ho cb _ e ab;injection aa with e1 e2
  exact absurd e2 (by decide)
 refine⟨⟨h.bc,Qah _ _ _ _ _ _ ab,Qdg ho af _ _,fun p hp=>?_,fun e=>absurd (List.append_eq_nil_iff.1 e).2 ae⟩,ac⟩;rcases List.mem_append.1 hp with hp|hp
 ·exact(h.ok p hp).fr ac PCo.str
 ·exact(hq p hp).fr ac PCo.str
def Qdy (B cb:Nat) (cs:List Ins) (w:World) (e:Ending) (w':World):Prop:=e=.returned (.tuple #[])∧CC w' B cb cs∧Fr (PCo B) w w'
theorem Tryz.infoIns:(Tryz.prog.info? 63).map (fun i=>(i.zero,i.size,i.bytes))=some (some (.agg #[.int .i64 0,.int .i64 0,.int .i64 0,.bool false,.slice none 0 0,.slice none 0 0,.int .i64 0]),7,88):=by kernel_rfl
theorem Qck.slA{w:World}{i:Ins}{av bv:Value}(h:Qck w i av bv):(∃ a n c,av=.slice a n c)/\(∃ a n c,bv=.slice a n c):=by
 obtain⟨a,c,h1⟩:=h.a.len;obtain⟨b,d,h2⟩:=h.b.len;exact⟨⟨a,_,c,h1⟩,⟨b,_,d,h2⟩⟩
theorem QsV{w:World}{qs:List IV}(h:∀ p∈qs,Qck w p.1 p.2.1 p.2.2):∀ u∈QcK qs,u.oneCell'=true:=by
 intro u hu;obtain⟨p,hp,hu⟩:=List.mem_flatMap.1 hu;obtain⟨⟨a,n,c,h1⟩,⟨b,m,d,h2⟩⟩:=(h p hp).slA;unfold Qh8 at hu;rw[h1,h2]at hu;simp at hu;rcases hu with rfl|rfl|rfl|rfl|rfl|rfl|rfl<;>rfl
theorem Qra(B cb g c:Nat)(cs:List Ins)(qs:List IV)(w:World)(h:CC w B cb cs)(hg:w.heap[g]?=some (.cells (QcK qs).toArray 63))(ai:∀ p∈qs,Qck w p.1 p.2.1 p.2.2)(ao:qs≠[])(ac:cs.length+qs.length<=1000000) :
 Calls Tryz.prog 216 #[.pointer (some ⟨cb,0,none⟩),.slice (some ⟨g,0,none⟩) qs.length c] w fun e w'=>e=.returned (.int .i64 (((cs.length+qs.length - 1:Nat)):Int))/\CC w' B cb (cs++qs.map Prod.fst)/\Fr (PCo B) w w':=by
 obtain⟨cv,ps,rfl,aa⟩:=h;rw[List.length_map]at ac ⊢;have ae:=Qab aa;have c0:w.cell? ⟨cb,0,none⟩=some cv:=Qaa aa.blk 0;obtain⟨ka,kc,ax⟩:=QaD aa.row;subst ax;have au:=QaI aa.blk;have hgl:=QaI hg;obtain⟨i0,hi,az,aA,aB⟩:=info_parts Tryz.infoIns;have aj:=List.length_pos_iff.2 ao
 have ad:(Value.slice ka ps.length kc).ownBlock≠some cb:=fun e=>by
  obtain⟨_,cs,av⟩:=Qcg aa.row cb _ e aa.blk;injection av with e1 e2
  exact absurd e2 (by decide)
 have ab:=Qab ad
 have HC:Hid (∀ j u,(QcK qs)[j]?=some u->w.cell? ((⟨g,0,none⟩:Addr).add j)=some u):=fun j u hj=>by
  rw[Qcs,Qaa hg,List.getElem?_toArray];exact hj
 have ag:=Qab (QsV ai);have ar:=Qab ai;obtain⟨n,hn⟩:∃ n,qs.length=n+1:=⟨qs.length - 1,by omega⟩;have ak:=Qab (QgU qs);rw[hn]at ak ac ⊢;have HN:=Qab hn;clear aa ad hg ai hn aj;go_enter func216,ntmps216;go_wp2_with (first|(at_builtin;refine wpList_append_own _ rfl _ _ 45 rfl B 63 i0 _ 7 88 underlying45 hi az aA aB rfl (by decide) _ _ _ rfl ae.o.row ⟨g,0,none⟩ (n+1) c (QcK qs) rfl ak.o HC.o ag.o (by unfold maxLen;omega) (by omega) (by have:=ae.o.bc;omega) ?_;intro v5 w5 ah af _;obtain⟨a5,k5,ay⟩:=QaD ah;subst ay;have aq:=Qab ah;have ap:=Qab af;have d1:w5.cell? ⟨cb,0,none⟩=some (.slice ka ps.length kc):=af.cell (a:=⟨cb,0,none⟩) c0 (fun e=>ab.o e.symm);have hft:∀ j,w5.frozen? ⟨cb,j,none⟩=false:=fun j=>(World.frozen?_of_block (a:=⟨cb,j,none⟩) (w:=w) (af.block cb au (fun e=>ab.o e.symm))).trans (Qao ae.o.blk j);clear ah af));go_ret;have aw:Fr (fun k _=>(Value.slice ka ps.length kc).ownBlock=some k) w w5:=(Fr.refl _ w).grown ap.o (fun k o e ho=>e);have:=ae.o.regrow (qs:=qs) aw (.slice a5 (ps.length+(n+1)) k5) (by rw[List.length_append,HN.o,QmY];exact aq.o) ar.o ao;exact⟨Qct (by omega),⟨_,ps++qs,by rw[List.map_append],this.1⟩,this.2⟩
theorem QsS(ps:List IV)(j:Nat)(n:Int):(ps.modify j fun p=>(Qgg n p.1,p.2)).map Prod.fst=(ps.map Prod.fst).modify j (Qgg n):=by
 induction ps generalizing j with
 |nil=>cases j<;>rfl
 |cons p r ih=>
  cases j with
  |zero=>rfl
  |succ j=>show p.1::(r.modify j _).map Prod.fst=p.1::(r.map Prod.fst).modify j (Qgg n);rw[ih]
theorem mem_modify_iv{ps:List IV}{j:Nat}{n:Int}{q:IV}(h:q∈ps.modify j fun p=>(Qgg n p.1,p.2)):q∈ps\/∃ p∈ps,q=(Qgg n p.1,p.2):=by
 induction ps generalizing j with
 |nil=>cases j<;>cases h
 |cons p r ih=>
  cases j with
  |zero=>
   rcases List.mem_cons.1 h with h|h
   ·exact Or.inr ⟨p,by simp,h⟩
   ·exact Or.inl (by simp[h])
  |succ j=>
   rcases List.mem_cons.1 h with h|h
   ·exact Or.inl (by simp[h])
   ·rcases ih h with h | ⟨p',hp,h⟩
    ·exact Or.inl (by simp[h])
    ·exact Or.inr ⟨p',by simp[hp],h⟩
theorem CI.land{w:World}{B cb g c:Nat}{ps:List IV}(h:CI w B cb (.slice (some ⟨g,0,none⟩) ps.length c) ps)(j:Nat)(hj:j<ps.length)(n:Int)(h1:-9223372036854775808<=n)(h2:n<=9223372036854775807) :
 CI (w.setCell ⟨g,j*7+1,none⟩ (.int .i64 n)) B cb (.slice (some ⟨g,0,none⟩) ps.length c) (ps.modify j fun p=>(Qgg n p.1,p.2))/\Fr (PCo B) w (w.setCell ⟨g,j*7+1,none⟩ (.int .i64 n)):=by
 obtain⟨ab,hs2⟩:=h.row.stored (j*7+1) (.int .i64 n)
 have hf:Fr (PCo B) w (w.setCell ⟨g,j*7+1,none⟩ (.int .i64 n)):=(Fr.refl _ w).grown hs2 (fun k o e ho=>by
  injection e with e
  subst e;obtain⟨hb,cs,aa⟩:=Qcg h.row g o rfl ho;subst aa
  exact ⟨hb,rfl⟩)
 have ac:cb≠g:=fun e=>by
  subst e;obtain⟨_,cs,aa⟩:=Qcg h.row cb _ rfl h.blk;injection aa with e1 e2
  exact absurd e2 (by decide)
 refine⟨⟨h.bc,by rw[Below.heap_setCell _ _ _ _ ac];exact h.blk,?_,fun q hq=>?_,fun e=>?_⟩,hf⟩
 ·rw[Qlf]at ab;rw[List.length_modify];exact ab
 ·rcases mem_modify_iv hq with hq | ⟨p,hp,rfl⟩
  ·exact(h.ok q hq).fr hf PCo.str
  ·have:=(h.ok p hp).fr hf PCo.str;exact⟨this.a,this.b,this.al,this.bl,this.an,this.bn,h1,h2⟩
 ·have:=congrArg List.length e;rw[List.length_modify]at this;simp at this;subst this;exact absurd hj (Nat.not_lt_zero _)
theorem Qsa(js:List Nat)(j:Nat)(cs:List Ins):landL (js++[j]) cs=(landL js cs).modify j (Qgg ((cs.length:Int) - ((j:Int)+1))):=by
 unfold landL;rw[List.foldl_append];show(List.foldl _ cs js).modify j (Qgg (((List.foldl _ cs js).length:Int) - _))=_
 have:=Qbq js cs;unfold landL at this;rw[this]
theorem Qkw(B cb gj c:Nat)(js:List Nat)(af:Array Value)(cs:List Ins)(w:World)(h:CC w B cb cs)(hj:∀ j∈js,j<cs.length)(hc:w.heap[gj]?=some (.cells af 3))(hk:∀ k,k<js.length->af[k]?=some (.int .i64 ((js.getD k 0:Nat):Int)))(hlen:cs.length<=1000000)(hjl:js.length<=1000000) :
 Calls Tryz.prog 256 #[.pointer (some ⟨cb,0,none⟩),.slice (some ⟨gj,0,none⟩) js.length c] w (Qdy B cb (landL js cs) w):=by
 have H:=Qab h;have HJ:=Qab hj;have HC:=Qab hc;have HK:=Qab hk;have hgl:=QaI hc;clear h hj hc hk;go_enter func256,ntmps256;go_wp2_with fail
 go_loopw [5,8] (fun _ i wr=>∃(k:Nat),k<=js.length/\i=.int .i64 (k:Int)/\CC wr B cb (landL (js.take k) cs)/\Fr (PCo B) w wr) (fun _ i _=>js.length - (intOf i).toNat)
 case atStart=>exact⟨0,Nat.zero_le _,by go_num,H.o,Fr.refl _ _⟩
 case round=>
  obtain⟨k,hk,rfl,ab,hF⟩:=hrel;by_cases hlt:k<js.length
  ·have hkc:wr.cell? ⟨gj,k,none⟩=some (.int .i64 ((js.getD k 0:Nat):Int)):=by
    rw[Qaa (hF.block _ _ HC.o (PCo.not (by decide) (by decide)))];exact HK.o k hlt
   have hjk:js.getD k 0<cs.length:=HJ.o _ (by rw[List.getD_eq_getElem?_getD,List.getElem?_eq_getElem hlt];exact List.getElem_mem hlt)
   have HS:Hid (landL (js.take (k+1)) cs=(landL (js.take k) cs).modify (js.getD k 0) (Qgg ((cs.length:Int) - ((js.getD k 0:Nat)+1:Int)))):=by
    show landL (js.take (k+1)) cs=_
    rw[List.take_add_one,List.getElem?_eq_getElem hlt];show landL (js.take k++[js[k]]) cs=_
    rw[Qsa,List.getD_eq_getElem?_getD,List.getElem?_eq_getElem hlt];rfl
   generalize js.getD k 0=j at *;obtain⟨cv,ps,ad,ac⟩:=ab
   have ae:ps.length=cs.length:=by
    have:=congrArg List.length ad;rw[List.length_map,Qbq]at this;exact this
   have aa:=ac.row;rw[ae]at aa;obtain⟨g,kc,aj,hbg,hgl',hcells⟩:=Qc6 aa (by omega);subst aj;have c0:wr.cell? ⟨cb,0,none⟩=some (.slice (some ⟨g,0,none⟩) cs.length kc):=Qaa ac.blk 0
   obtain⟨u1,hu1⟩:∃ u,wr.cell? ⟨g,j*7+1,none⟩=some u:=by
    refine⟨_,hcells (j*7+1) _ (by rw[Qj5 ps j (by omega) 1 (by omega)];rfl)⟩
   have hfz:wr.frozen? ⟨g,j*7+1,none⟩=false:=aa.frozenAt _;have hL:=ac;rw[<-ae]at hL;have HL:=Qab (hL.land j (by omega) ((cs.length:Int) - ((j:Int)+1)) (by omega) (by omega));have ah:=Qab ad;have HF:=Qab hF;have hj0:(0:Int)<=(j:Int):=by omega
   have hj1:(j:Int)<(cs.length:Int):=by omega
   clear ac hL aa hcells ad hF;go_wp2_with fail;go_region;go_wp2;go_roundw
   case rel=>
    refine⟨k+1,by omega,by go_num,⟨_,_,?_,HL.o.1.drew⟩,(HF.o.trans HL.o.2).drew⟩;rw[QsS,ah.o,HS.o]
   case measure=>simp[intOf];omega
  ·have ai:k=js.length:=by omega
   subst ai;rw[List.take_length]at ab;have ag:=Qab ab;have HF:=Qab hF;clear ab hF;go_wp2;go_end0;exact⟨rfl,ag.o,HF.o⟩
theorem Qmn(h:Bool)(w:World):Calls Tryz.prog 273 #[.bool h] w fun e w'=>e=.returned (QdI (pushI h) (.slice none 0 0) (.slice none 0 0))/\Below w.heap.size w w':=by
 have ab:∀ o,Below w.heap.size w (w.alloc o):=fun o=>(Below.refl _ _).alloc (Nat.le_refl _) o
 have aa:=Qab ab;clear ab;cases h
 ·go_enter func273,ntmps273;go_wp2;refine bodyPost_ret (v:=QdI (pushI false) (.slice none 0 0) (.slice none 0 0)) (by simp[results,results273,go_sem,QdI,pushI]) rfl ?_;exact⟨rfl,aa.o _⟩
 ·go_enter func273,ntmps273;go_wp2;refine bodyPost_ret (v:=QdI (pushI true) (.slice none 0 0) (.slice none 0 0)) (by simp[results,results273,go_sem,QdI,pushI]) rfl ?_;exact⟨rfl,aa.o _⟩
theorem QcB(B cb:Nat)(cs:List Ins)(i:Ins)(av bv:Value)(W:World)(h:CC W B cb cs)(ab:Qck W i av bv)(aa:cs.length+1<=1000000) :
 Calls Tryz.prog 216 #[.pointer (some ⟨cb,0,none⟩),.slice (some ⟨W.heap.size,0,none⟩) 1 1] (W.alloc (.cells #[.int .i64 i.op,.int .i64 i.n,.int .i64 i.tag,.bool i.oct,av,bv,.int .i64 i.at_] 63)) fun e w'=>e=.returned (.int .i64 (cs.length:Int))/\CC w' B cb (cs++[i])/\Fr (PCo B) W w':=by
 have hB:∀ o,Below W.heap.size W (W.alloc o):=fun o=>(Below.refl _ _).alloc (Nat.le_refl _) o
 refine(Qra B cb W.heap.size 1 cs [(i,av,bv)] _ (h.alloc _) (Qat _ _) (fun p hp=>?_) (by simp) aa).mono ?_
 ·rw[List.mem_singleton.1 hp];exact ab.below (hB _)
 ·rintro e w' ⟨rfl,h1,h2⟩;refine⟨?_,h1,((Fr.refl _ W).alloc _).trans h2⟩;show Ending.returned (.int .i64 ((cs.length+1 - 1:Nat):Int))=_
  rw[Nat.add_sub_cancel]
theorem Qv9(B cb:Nat)(cs:List Ins)(i j:Ins)(av bv au bu:Value)(W:World)(h:CC W B cb cs)(ac:Qck W i av bv)(ab:Qck W j au bu)(aa:cs.length+2<=1000000) :
 Calls Tryz.prog 216 #[.pointer (some ⟨cb,0,none⟩),.slice (some ⟨W.heap.size,0,none⟩) 2 2] (W.alloc (.cells #[.int .i64 i.op,.int .i64 i.n,.int .i64 i.tag,.bool i.oct,av,bv,.int .i64 i.at_,.int .i64 j.op,.int .i64 j.n,.int .i64 j.tag,.bool j.oct,au,bu,.int .i64 j.at_] 63)) fun e w'=>e=.returned (.int .i64 ((cs.length+1:Nat):Int))/\CC w' B cb (cs++[i,j])/\Fr (PCo B) W w':=by
 have hB:∀ o,Below W.heap.size W (W.alloc o):=fun o=>(Below.refl _ _).alloc (Nat.le_refl _) o
 refine(Qra B cb W.heap.size 2 cs [(i,av,bv),(j,au,bu)] _ (h.alloc _) (Qat _ _) (fun p hp=>?_) (by simp) aa).mono ?_
 ·simp at hp;rcases hp with rfl|rfl
  ·exact ac.below (hB _)
  ·exact ab.below (hB _)
 ·rintro e w' ⟨rfl,h1,h2⟩;exact⟨rfl,h1,((Fr.refl _ W).alloc _).trans h2⟩
theorem Qdo(W:World)(i:Ins)(ha:i.a=[])(hb:i.b=[])(h1:-9223372036854775808<=i.n)(h2:i.n<=9223372036854775807):Qck W i (.slice none 0 0) (.slice none 0 0):=
 ⟨Or.inl ⟨rfl,ha⟩,Or.inl ⟨rfl,hb⟩,by rw[ha];simp,by rw[hb];simp,by rw[ha];simp,by rw[hb];simp,h1,h2⟩
theorem Qn3(B cb:Nat)(j:Nat)(cs:List Ins)(W:World)(h:CC W B cb cs)(hj:j<cs.length)(aa:cs.length<=1000000) :
 Calls Tryz.prog 256 #[.pointer (some ⟨cb,0,none⟩),.slice (some ⟨W.heap.size,0,none⟩) 1 1] (W.alloc (.cells #[.int .i64 (j:Int)] 3)) fun e w'=>e=.returned (.tuple #[])/\CC w' B cb (landL [j] cs)/\Fr (PCo B) W w':=by
 refine(Qkw B cb W.heap.size 1 [j] #[.int .i64 (j:Int)] cs _ (h.alloc _) (fun k hk=>by rw[List.mem_singleton.1 hk];exact hj) (Qat _ _) (fun k hk=>?_) aa (by simp)).mono ?_
 ·have:k=0:=by simp at hk;exact hk
  subst this;rfl
 ·rintro e w' ⟨rfl,h1,h2⟩;exact⟨rfl,h1,((Fr.refl _ W).alloc _).trans h2⟩
theorem QfS(X:Nat->Prop)(xs:List (L8))(v:Value)(w:World)(h:slX X xs w v)(hl:xs.length<=1000000) :
 Calls Tryz.prog 276 #[v] w fun e w'=>∃ a k,e=.returned (.slice a xs.length k)/\SlT w' (.slice a xs.length k) xs/\Below w.heap.size w w':=by
 obtain⟨g,c,rfl,_,ht,hne⟩:=h;refine(Tryz.slices_Clone_string g 0 xs.length c (xs.map Qaf) w (by simp) (by omega) (fun j hj=>?_)).mono ?_
 ·rw[List.length_map]at hj;rw[Nat.zero_add,ht j hj,List.getD_eq_getElem?_getD,List.getD_eq_getElem?_getD,List.getElem?_map,List.getElem?_eq_getElem hj];rfl
 ·rintro e w' ⟨v',rfl,ho,hn,hb⟩
  have e1:((xs.map Qaf).take xs.length).map Value.string=QaN xs:=by
   rw[List.take_of_length_le (by simp),List.map_map];rfl
  rw[e1]at ho;obtain⟨a,k,hv⟩:=QaD ho;subst hv;exact⟨a,k,rfl,SlT.of_owns ho rfl,hb⟩
end
end Go.Proofs.YtgnkjijocdmniaaGreatDoor
