import Derived.Test.YtbiclelojbfnbaaGreatDoorZCMatch
namespace Go.Proofs.YtbiclelojbfnbaaGreatDoor
set_option linter.unusedVariables false
set_option linter.unusedSimpArgs false
set_option maxRecDepth 100000
set_option maxHeartbeats 4000000
section
open Go.RowKit
def armsX {α β:Type} (X:Nat→Prop) (P1:(Nat→Prop)→β→World→Value→Prop) (P2:(Nat→Prop)→α→World→Value→Prop) (xs:List (β×List α)) (w:World) (v:Value):Prop:=
 ∃ g c,v=.slice (some ⟨g,0,none⟩) xs.length c∧X g∧∀ j (hj:j < xs.length),∃ u bv,w.cell? ⟨g,2*j,none⟩=some u∧w.cell? ⟨g,2*j+1,none⟩=some bv∧P1 X xs[j].1 w u∧blX X P2 xs[j].2 w bv
theorem armsX.keep {α β:Type} {X:Nat→Prop} {P1:(Nat→Prop)→β→World→Value→Prop} {P2:(Nat→Prop)→α→World→Value→Prop} (h1:TreeP P1) (h2:TreeP P2) {xs:List (β×List α)} {w w':World} {v:Value} (h:armsX X P1 P2 xs w v) (hm:AbvX X w w'):armsX X P1 P2 xs w' v:=by
 obtain ⟨g,c,hv,hg,hx⟩:=h
 refine ⟨g,c,hv,hg,fun j hj=>?_⟩
 obtain ⟨u,bv,hu,hb,hp,hq⟩:=hx j hj
 refine ⟨u,bv,?_,?_,h1.keep _ _ _ _ _ hp hm,hq.keep h2 hm⟩
 ·rw [World.cell?_of_block (w:=w) (a:=⟨g,2*j,none⟩) (hm g hg (cell_lt hu))]
  exact hu
 ·rw [World.cell?_of_block (w:=w) (a:=⟨g,2*j+1,none⟩) (hm g hg (cell_lt hb))]
  exact hb
theorem armsX.weak {α β:Type} {X Y:Nat→Prop} {P1:(Nat→Prop)→β→World→Value→Prop} {P2:(Nat→Prop)→α→World→Value→Prop} (h1:TreeP P1) (h2:TreeP P2) {xs:List (β×List α)} {w:World} {v:Value} (hne:xs≠[]) (h:armsX X P1 P2 xs w v) (hB:∀ k,X k→k < w.heap.size→Y k):armsX Y P1 P2 xs w v:=by
 obtain ⟨g,c,hv,hg,hx⟩:=h
 refine ⟨g,c,hv,?_,fun j hj=>?_⟩
 ·obtain ⟨u,bv,hu,_⟩:=hx 0 (List.length_pos_iff.2 hne)
  exact hB g hg (cell_lt hu)
 ·obtain ⟨u,bv,hu,hb,hp,hq⟩:=hx j hj
  exact ⟨u,bv,hu,hb,h1.weak _ _ _ _ _ hp hB,hq.weak h2 hB⟩
def actV (hw:List UInt8) (p k:Nat) (x:List UInt8):Value:=.iface 318 (.agg #[.string (strA hw),.int .i64 p,.int .i64 k,.string (strA x)])
def cnode {α β:Type} (X:Nat→Prop) (P1:(Nat→Prop)→β→World→Value→Prop) (P2:(Nat→Prop)→α→World→Value→Prop) (x:CLab×List (β×List α)×List α) (w:World) (v:Value):Prop:=
 match x.1.kind with
 | 0=>v=actV kKeep x.1.pos 1 []
 | 1=>v=.iface 336 (.agg #[.string (strA kDiscard),.int .i64 x.1.pos])
 | 2=>v=.iface 337 (.agg #[.string (strA kStop),.int .i64 x.1.pos])
 | 3=>v=actV kFileinto x.1.pos 2 x.1.arg
 | 4=>v=actV kRedirect x.1.pos 3 x.1.arg
 | 5=>v=actV kReject x.1.pos 4 x.1.arg
 | 6=>v=.iface 313 (.agg #[.string (strA kSet),.int .i64 x.1.pos,.int .i64 x.1.tag,.string (strA x.1.var),.string (strA x.1.arg)])
 | _=>∃ av ev,v=.iface 310 (.agg #[.string (strA kIf),.int .i64 x.1.pos,av,.bool x.1.els,ev])∧armsX X P1 P2 x.2.1 w av∧x.2.1≠[]∧blX X P2 x.2.2 w ev
def CmdV:(n:Nat)→(Nat→Prop)→CmdT n→World→Value→Prop
 | 0,_,_,_,_=>False
 | n+1,X,x,w,v=>cnode X (TestV n) (CmdV n) x w v
theorem cnode_form {α β:Type} {X:Nat→Prop} {P1:(Nat→Prop)→β→World→Value→Prop} {P2:(Nat→Prop)→α→World→Value→Prop} {x:CLab×List (β×List α)×List α} {w:World} {v:Value} (h:cnode X P1 P2 x w v):∃ ty y,v=.iface ty y:=by
 unfold cnode actV at h
 split at h
 ·exact ⟨_,_,h⟩
 ·exact ⟨_,_,h⟩
 ·exact ⟨_,_,h⟩
 ·exact ⟨_,_,h⟩
 ·exact ⟨_,_,h⟩
 ·exact ⟨_,_,h⟩
 ·exact ⟨_,_,h⟩
 ·obtain ⟨av,ev,h,_⟩:=h;exact ⟨_,_,h⟩
theorem cnode_keep {α β:Type} {X:Nat→Prop} {P1:(Nat→Prop)→β→World→Value→Prop} {P2:(Nat→Prop)→α→World→Value→Prop} (h1:TreeP P1) (h2:TreeP P2) {x:CLab×List (β×List α)×List α} {w w':World} {v:Value} (h:cnode X P1 P2 x w v) (hk:AbvX X w w'):cnode X P1 P2 x w' v:=by
 unfold cnode at h ⊢
 split at h
 ·exact h
 ·exact h
 ·exact h
 ·exact h
 ·exact h
 ·exact h
 ·exact h
 ·obtain ⟨av,ev,h,ha,hn,hb⟩:=h;exact ⟨av,ev,h,ha.keep h1 h2 hk,hn,hb.keep h2 hk⟩
theorem cnode_weak {α β:Type} {X Y:Nat→Prop} {P1:(Nat→Prop)→β→World→Value→Prop} {P2:(Nat→Prop)→α→World→Value→Prop} (h1:TreeP P1) (h2:TreeP P2) {x:CLab×List (β×List α)×List α} {w:World} {v:Value} (h:cnode X P1 P2 x w v) (hB:∀ k,X k→k < w.heap.size→Y k):cnode Y P1 P2 x w v:=by
 unfold cnode at h ⊢
 split at h
 ·exact h
 ·exact h
 ·exact h
 ·exact h
 ·exact h
 ·exact h
 ·exact h
 ·obtain ⟨av,ev,h,ha,hn,hb⟩:=h;exact ⟨av,ev,h,armsX.weak h1 h2 hn ha hB,hn,hb.weak h2 hB⟩
theorem cmdV_tree:∀ n,TreeP (CmdV n)
 | 0=>⟨fun _ _ _ _ h=>h.elim,fun _ _ _ _ _ h=>h.elim,fun _ _ _ _ _ h=>h.elim⟩
 | n+1=>⟨fun _ _ _ _ h=>cnode_form h,fun _ _ _ _ _ h hk=>cnode_keep (testV_tree n) (cmdV_tree n) h hk,fun _ _ _ _ _ h hB=>cnode_weak (testV_tree n) (cmdV_tree n) h hB⟩
end
section
open Go.RowKit
theorem armsMore_mayErr {α β:Type} {l:List UInt8} {F:Nat} {tst:PS→Except Flt (β×PS)} {sub:PS→Except Flt (α×PS)} {f:Nat} {acc:List (β×List α)} {s:PS} {e:Flt} (h:mayL l [kElsif] s=.error e):armsMore l F tst sub (f+1) acc s=.error e:=by rw [armsMore];exact thenL_err h
theorem armsMore_end {α β:Type} {l:List UInt8} {F:Nat} {tst:PS→Except Flt (β×PS)} {sub:PS→Except Flt (α×PS)} {f:Nat} {acc:List (β×List α)} {s:PS} {y:Nat×PS} (h:mayL l [kElsif] s=.ok y) (h1:y.1=0):armsMore l F tst sub (f+1) acc s=.ok (acc,y.2):=by rw [armsMore,thenL_ok h,if_pos h1]
theorem armsMore_armErr {α β:Type} {l:List UInt8} {F:Nat} {tst:PS→Except Flt (β×PS)} {sub:PS→Except Flt (α×PS)} {f:Nat} {acc:List (β×List α)} {s:PS} {y:Nat×PS} {e:Flt} (h:mayL l [kElsif] s=.ok y) (h1:¬ y.1=0) (h2:armL l F tst sub y.2=.error e):armsMore l F tst sub (f+1) acc s=.error e:=by rw [armsMore,thenL_ok h,if_neg h1];exact thenL_err h2
theorem armsMore_go {α β:Type} {l:List UInt8} {F:Nat} {tst:PS→Except Flt (β×PS)} {sub:PS→Except Flt (α×PS)} {f:Nat} {acc:List (β×List α)} {s:PS} {y:Nat×PS} {z:(β×List α)×PS} (h:mayL l [kElsif] s=.ok y) (h1:¬ y.1=0) (h2:armL l F tst sub y.2=.ok z):armsMore l F tst sub (f+1) acc s=armsMore l F tst sub f (acc++[z.1]) z.2:=by rw [armsMore,thenL_ok h,if_neg h1];exact thenL_ok h2
def Row2P {α:Type} (P:α→Value→Value→Prop):List α→List Value→Prop
 | [],[]=>True
 | a :: xs,u :: v :: vs=>P a u v∧Row2P P xs vs
 | _,_=>False
theorem Row2P.imp {α:Type} {P Q:α→Value→Value→Prop} (h:∀ a u v,P a u v→Q a u v):∀ {xs:List α} {vs:List Value},Row2P P xs vs→Row2P Q xs vs
 | [],[],_=>trivial
 | a :: xs,u :: v :: vs,hr=>⟨h _ _ _ hr.1,Row2P.imp h hr.2⟩
 | [],_ :: _,hr=>hr.elim
 | _ :: _,[],hr=>hr.elim
 | _ :: _,[_],hr=>hr.elim
theorem Row2P.snoc {α:Type} {P:α→Value→Value→Prop} {a:α} {u v:Value} (h:P a u v):∀ {xs:List α} {vs:List Value},Row2P P xs vs→Row2P P (xs++[a]) (vs++[u,v])
 | [],[],_=>⟨h,trivial⟩
 | a' :: xs,u' :: v' :: vs,hr=>⟨hr.1,Row2P.snoc h hr.2⟩
 | [],_ :: _,hr=>hr.elim
 | _ :: _,[],hr=>hr.elim
 | _ :: _,[_],hr=>hr.elim
theorem Row2P.at {α:Type} {P:α→Value→Value→Prop}:∀ {xs:List α} {vs:List Value},Row2P P xs vs→∀ j (hj:j < xs.length),∃ u v,vs[2*j]?=some u∧vs[2*j+1]?=some v∧P xs[j] u v
 | [],[],_,j,hj=>absurd hj (Nat.not_lt_zero _)
 | a :: xs,u :: v :: vs,h,0,_=>⟨u,v,rfl,rfl,h.1⟩
 | a :: xs,u :: v :: vs,h,j+1,hj=>by
  obtain ⟨u',v',h1,h2,h3⟩:=Row2P.at h.2 j (by simpa using hj)
  refine ⟨u',v',?_,?_,by simpa using h3⟩
  ·rw [show 2*(j+1)=2*j+1+1 from by omega];simpa using h1
  ·rw [show 2*(j+1)+1=2*j+1+1+1 from by omega];simpa using h2
 | [],_ :: _,h,_,_=>h.elim
 | _ :: _,[],h,_,_=>h.elim
 | _ :: _,[_],h,_,_=>h.elim
def GathA {α β:Type} (P1:(Nat→Prop)→β→World→Value→Prop) (P2:(Nat→Prop)→α→World→Value→Prop) (base T:Nat) (w:World) (v:Value) (a:β×List α) (u bv:Value):Prop:=
 ∃ X,P1 X a.1 w u∧blX X P2 a.2 w bv∧(∀ k,X k→base≤k∧k < w.heap.size)∧(∀ g,v.ownBlock=some g→¬ X g)∧¬ X T
theorem GathA.mod {α β:Type} {P1:(Nat→Prop)→β→World→Value→Prop} {P2:(Nat→Prop)→α→World→Value→Prop} (hP1:TreeP P1) (hP2:TreeP P2) {base T b:Nat} {w w':World} {v:Value} {a:β×List α} {u bv:Value} (h:GathA P1 P2 base T w v a u bv) (hm:Mod b w w') (hb:b < base):GathA P1 P2 base T w' v a u bv:=by
 obtain ⟨X,h1,h1',h2,h3,h4⟩:=h
 have hA:AbvX X w w':=hm.abvX (fun e=>by have:=(h2 b e).1;omega)
 exact ⟨X,hP1.keep _ _ _ _ _ h1 hA,h1'.keep hP2 hA,fun k hk=>⟨(h2 k hk).1,Nat.lt_of_lt_of_le (h2 k hk).2 hm.size⟩,h3,h4⟩
theorem GathA.set {α β:Type} {P1:(Nat→Prop)→β→World→Value→Prop} {P2:(Nat→Prop)→α→World→Value→Prop} (hP1:TreeP P1) (hP2:TreeP P2) {base T:Nat} {w:World} {v:Value} {a:β×List α} {u bv:Value} (h:GathA P1 P2 base T w v a u bv) (o:Nat) (x:Value):GathA P1 P2 base T (w.setCell ⟨T,o,none⟩ x) v a u bv:=by
 obtain ⟨X,h1,h1',h2,h3,h4⟩:=h
 have hA:AbvX X w (w.setCell ⟨T,o,none⟩ x):=AbvX.set h4 _ _
 exact ⟨X,hP1.keep _ _ _ _ _ h1 hA,h1'.keep hP2 hA,fun k hk=>⟨(h2 k hk).1,by simpa [World.setCell] using (h2 k hk).2⟩,h3,h4⟩
theorem GathA.new {α β:Type} {P1:(Nat→Prop)→β→World→Value→Prop} {P2:(Nat→Prop)→α→World→Value→Prop} (hP1:TreeP P1) (hP2:TreeP P2) {base T B:Nat} {w:World} {v:Value} {a:β×List α} {u bv:Value} (h:P1 (fromB B) a.1 w u) (h':blX (fromB B) P2 a.2 w bv) (hB:base≤B) (hv:∀ g,v.ownBlock=some g→g < B) (hT:T < B):GathA P1 P2 base T w v a u bv:=
 ⟨fun k=>B≤k∧k < w.heap.size,hP1.weak _ _ _ _ _ h (fun k hk hz=>⟨hk,hz⟩),h'.weak hP2 (fun k hk hz=>⟨hk,hz⟩),fun k hk=>⟨Nat.le_trans hB hk.1,hk.2⟩,fun g hg hX=>by have:=hv g hg;omega,fun hX=>by omega⟩
theorem GathA.grown {α β:Type} {P1:(Nat→Prop)→β→World→Value→Prop} {P2:(Nat→Prop)→α→World→Value→Prop} (hP1:TreeP P1) (hP2:TreeP P2) {base T:Nat} {w w':World} {v v':Value} {a:β×List α} {u bv:Value} {o:Obj} (h:GathA P1 P2 base T w v a u bv) (hg:(w.alloc o).grownBy w' v.ownBlock) (hv:v'.ownBlock=v.ownBlock∨v'.ownBlock=some (w.heap.size+1)):GathA P1 P2 base T w' v' a u bv:=by
 obtain ⟨X,h1,h1',h2,h3,h4⟩:=h
 have hA:AbvX X w w':=fun k hk hz=>by
  rw [hg.block k (by simp;omega) (fun e=>h3 k e.symm hk)]
  exact Below.heap_alloc _ _ _ hz
 refine ⟨X,hP1.keep _ _ _ _ _ h1 hA,h1'.keep hP2 hA,fun k hk=>⟨(h2 k hk).1,?_⟩,fun g hgb hX=>?_,h4⟩
 ·have:=(h2 k hk).2;have:=hg.size;simp at this;omega
 ·rcases hv with hv | hv
  ·exact h3 g (hv ▸ hgb) hX
  ·rw [hv] at hgb
   have:=(h2 g hX).2
   simp at hgb
   omega
theorem armsX.of_owns {α β:Type} {P1:(Nat→Prop)→β→World→Value→Prop} {P2:(Nat→Prop)→α→World→Value→Prop} (hP1:TreeP P1) (hP2:TreeP P2) {w:World} {base T n:Nat} {e:TypeId} {v:Value} {xs:List (β×List α)} {vs:List Value} (h:w.ownsRow base e 2 v n vs) (hn:n=xs.length) (hx:xs≠[]) (hvT:∀ g,v.ownBlock=some g→g≠T) (hr:Row2P (fun a u bv=>GathA P1 P2 base T w v a u bv) xs vs):armsX (fun k=>base≤k∧k≠T) P1 P2 xs w v:=by
 subst hn
 have hc:=fun g (hg:v.ownBlock=some g)=>h.cells hg
 obtain ⟨h1,h2⟩:=h
 rcases h2 with ⟨_,h3⟩ | ⟨g,cap,cur,hv,hg,r⟩
 ·exact absurd (List.eq_nil_of_length_eq_zero h3) hx
 ·refine ⟨g,cap,hv,⟨hg,hvT g (by rw [hv];rfl)⟩,fun j hj=>?_⟩
  obtain ⟨u,bv,hu,hb,X,hp,hq,hX,_,hXT⟩:=hr.at j hj
  have k1:=hc g (by rw [hv];rfl) _ u hu
  have k2:=hc g (by rw [hv];rfl) _ bv hb
  rw [addr_add0] at k1 k2
  have hk:∀ k,X k→k < w.heap.size→base≤k∧k≠T:=fun k hk _=>⟨(hX k hk).1,fun e=>hXT (e ▸ hk)⟩
  exact ⟨u,bv,k1,k2,hP1.weak _ _ _ _ _ hp hk,hq.weak hP2 hk⟩
end
section
open Go.RowKit
def setIns (w:World) (b:Nat) (i:Ins) (av bv:Value):World:=
 ((((((w.setCell ⟨b,0,none⟩ (.int .i64 i.op)).setCell ⟨b,1,none⟩ (.int .i64 i.n)).setCell ⟨b,2,none⟩ (.int .i64 i.tag)).setCell ⟨b,3,none⟩ (.bool i.oct)).setCell ⟨b,4,none⟩ av).setCell ⟨b,5,none⟩ bv).setCell ⟨b,6,none⟩ (.int .i64 i.at_)
theorem setIns_spec (w:World) (b:Nat) (i:Ins) (av bv c0 c1 c2 c3 c4 c5 c6:Value) (h:w.heap[b]?=some (.cells #[c0,c1,c2,c3,c4,c5,c6] 62)):(setIns w b i av bv).heap[b]?=some (.cells (insCells i av bv) 62)∧Fr (fun k o=>k=b∧coO o=true) w (setIns w b i av bv):=by
 have hstep:∀ (W:World) (cs:Array Value) (k:Nat) (v:Value),W.heap[b]?=some (.cells cs 62)→(W.setCell ⟨b,k,none⟩ v).heap[b]?=some (.cells (cs.setIfInBounds k v) 62)∧Fr (fun k o=>k=b∧coO o=true) W (W.setCell ⟨b,k,none⟩ v):=fun W cs k v h=>⟨heap_setCell_at W b k v cs _ h,(Fr.refl _ W).set h ⟨rfl,rfl⟩ k v⟩
 unfold setIns
 obtain ⟨g0,f0⟩:=hstep w _ 0 (.int .i64 i.op) h
 replace g0:(w.setCell ⟨b,0,none⟩ (.int .i64 i.op)).heap[b]?=some (.cells #[.int .i64 i.op,c1,c2,c3,c4,c5,c6] 62):=g0
 generalize w.setCell ⟨b,0,none⟩ (.int .i64 i.op)=w0 at *
 obtain ⟨g1,f1⟩:=hstep w0 _ 1 (.int .i64 i.n) g0
 replace g1:(w0.setCell ⟨b,1,none⟩ (.int .i64 i.n)).heap[b]?=some (.cells #[.int .i64 i.op,.int .i64 i.n,c2,c3,c4,c5,c6] 62):=g1
 generalize w0.setCell ⟨b,1,none⟩ (.int .i64 i.n)=w1 at *
 obtain ⟨g2,f2⟩:=hstep w1 _ 2 (.int .i64 i.tag) g1
 replace g2:(w1.setCell ⟨b,2,none⟩ (.int .i64 i.tag)).heap[b]?=some (.cells #[.int .i64 i.op,.int .i64 i.n,.int .i64 i.tag,c3,c4,c5,c6] 62):=g2
 generalize w1.setCell ⟨b,2,none⟩ (.int .i64 i.tag)=w2 at *
 obtain ⟨g3,f3⟩:=hstep w2 _ 3 (.bool i.oct) g2
 replace g3:(w2.setCell ⟨b,3,none⟩ (.bool i.oct)).heap[b]?=some (.cells #[.int .i64 i.op,.int .i64 i.n,.int .i64 i.tag,.bool i.oct,c4,c5,c6] 62):=g3
 generalize w2.setCell ⟨b,3,none⟩ (.bool i.oct)=w3 at *
 obtain ⟨g4,f4⟩:=hstep w3 _ 4 (av) g3
 replace g4:(w3.setCell ⟨b,4,none⟩ (av)).heap[b]?=some (.cells #[.int .i64 i.op,.int .i64 i.n,.int .i64 i.tag,.bool i.oct,av,c5,c6] 62):=g4
 generalize w3.setCell ⟨b,4,none⟩ (av)=w4 at *
 obtain ⟨g5,f5⟩:=hstep w4 _ 5 (bv) g4
 replace g5:(w4.setCell ⟨b,5,none⟩ (bv)).heap[b]?=some (.cells #[.int .i64 i.op,.int .i64 i.n,.int .i64 i.tag,.bool i.oct,av,bv,c6] 62):=g5
 generalize w4.setCell ⟨b,5,none⟩ (bv)=w5 at *
 obtain ⟨g6,f6⟩:=hstep w5 _ 6 (.int .i64 i.at_) g5
 replace g6:(w5.setCell ⟨b,6,none⟩ (.int .i64 i.at_)).heap[b]?=some (.cells #[.int .i64 i.op,.int .i64 i.n,.int .i64 i.tag,.bool i.oct,av,bv,.int .i64 i.at_] 62):=g6
 generalize w5.setCell ⟨b,6,none⟩ (.int .i64 i.at_)=w6 at *
 exact ⟨g6,f0.trans (f1.trans (f2.trans (f3.trans (f4.trans (f5.trans f6)))))⟩
theorem matching_any (op:Int) (X:Nat→Prop) (hw:List UInt8) (x:TLab) (fv kv:Value) (w:World) (hf:slX X x.fr w fv) (hk:slX X x.keys w kv) (hlf:x.fr.length≤1000000) (hlk:x.keys.length≤1000000) :
  Calls Tryz.prog 336 #[.int .i64 op,.agg #[.string (strA hw),.int .i64 x.pos,.int .i64 x.tag,.bool x.octet,fv,kv]] w fun e w'=>∃ a1 k1 a2 k2,e=.returned (insV (matchI op x) (.slice a1 x.fr.length k1) (.slice a2 x.keys.length k2))∧SlT w' (.slice a1 x.fr.length k1) x.fr∧SlT w' (.slice a2 x.keys.length k2) x.keys∧Below w.heap.size w w':=by
 have HF:=hide hf
 have HK:=hide hk
 obtain ⟨gf,cf,rfl,hx1⟩:=hf
 obtain ⟨gk,ck,rfl,hx2⟩:=hk
 clear hx1 hx2
 go_enter Tryz.func336,Tryz.ntmps336
 go_wp2_with fail
 obtain ⟨W,hW⟩:∃ W,W=(w.alloc (.cells #[.string (strA hw),.int .i64 x.pos,.int .i64 x.tag,.bool x.octet,.slice (some ⟨gf,0,none⟩) x.fr.length cf,.slice (some ⟨gk,0,none⟩) x.keys.length ck] 277)).alloc (.cells #[.int .i64 0,.int .i64 0,.int .i64 0,.bool false,.slice none 0 0,.slice none 0 0,.int .i64 0] 62):=⟨_,rfl⟩
 rw [← hW]
 have hWB:Below w.heap.size w W:=by rw [hW];exact ((Below.refl _ _).alloc (Nat.le_refl _) _).alloc (by simp) _
 have hWb:W.heap[w.heap.size]?=some (.cells #[.string (strA hw),.int .i64 x.pos,.int .i64 x.tag,.bool x.octet,.slice (some ⟨gf,0,none⟩) x.fr.length cf,.slice (some ⟨gk,0,none⟩) x.keys.length ck] 277):=by rw [hW];exact blk_alloc (blk_new _ _)
 have hWr:W.heap[w.heap.size+1]?=some (.cells #[.int .i64 0,.int .i64 0,.int .i64 0,.bool false,.slice none 0 0,.slice none 0 0,.int .i64 0] 62):=by rw [hW];exact blk_newAt (by simp)
 clear hW
 have c2:W.cell? ⟨w.heap.size,2,none⟩=some (.int .i64 x.tag):=blk_cell hWb 2
 have c3:W.cell? ⟨w.heap.size,3,none⟩=some (.bool x.octet):=blk_cell hWb 3
 have c4:W.cell? ⟨w.heap.size,4,none⟩=some (.slice (some ⟨gf,0,none⟩) x.fr.length cf):=blk_cell hWb 4
 have c5:W.cell? ⟨w.heap.size,5,none⟩=some (.slice (some ⟨gk,0,none⟩) x.keys.length ck):=blk_cell hWb 5
 have HFW:=hide (HF.out.keep (w':=W) (fun k _ hk=>hWB.block k hk))
 have HKW:=hide (HK.out.keep (w':=W) (fun k _ hk=>hWB.block k hk))
 have HWB:=hide hWB
 have HWb:=hide hWb
 have HWr:=hide hWr
 have hWs:=hWB.size
 have hWl:=blk_lt hWr
 clear hWB hWb hWr
 go_region_held3 (fun w'=>w'.cell? ⟨w.heap.size,2,none⟩=some (.int .i64 x.tag)∧w'.cell? ⟨w.heap.size,3,none⟩=some (.bool x.octet)∧w'.cell? ⟨w.heap.size,4,none⟩=some (.slice (some ⟨gf,0,none⟩) x.fr.length cf)∧w'.cell? ⟨w.heap.size,5,none⟩=some (.slice (some ⟨gk,0,none⟩) x.keys.length ck)) (first | go_keep | exact ⟨blk_cell HW2.out 2,blk_cell HW2.out 3,blk_cell HW2.out 4,blk_cell HW2.out 5⟩) (first
  | (have gg:=HB1;go_at_call 337;refine (cloneStr_any X x.keys _ _ HKW1.out hlk).mono ?_;rintro e w2 ⟨a2,k2,rfl,hs2,hB2⟩;have HB2:=hide (HB1.out.trans (hB2.mono h1s));have HW2:=hide (blk_below HW1.out hB2);have HR2:=hide (blk_below HR1.out hB2);have HS2:=hide hs2;have HS12:=hide (HS1.out.below hB2);have e2:w2.cell? ⟨w.heap.size,2,none⟩=some (.int .i64 x.tag):=blk_cell HW2.out 2;have e3:w2.cell? ⟨w.heap.size,3,none⟩=some (.bool x.octet):=blk_cell HW2.out 3;have e4:w2.cell? ⟨w.heap.size,4,none⟩=some (.slice (some ⟨gf,0,none⟩) x.fr.length cf):=blk_cell HW2.out 4;have e5:w2.cell? ⟨w.heap.size,5,none⟩=some (.slice (some ⟨gk,0,none⟩) x.keys.length ck):=blk_cell HW2.out 5;have z0:w2.cell? ⟨w.heap.size+1,0,none⟩=some (.int .i64 0):=blk_cell HR2.out 0;have z1:w2.cell? ⟨w.heap.size+1,1,none⟩=some (.int .i64 0):=blk_cell HR2.out 1;have z2:w2.cell? ⟨w.heap.size+1,2,none⟩=some (.int .i64 0):=blk_cell HR2.out 2;have z3:w2.cell? ⟨w.heap.size+1,3,none⟩=some (.bool false):=blk_cell HR2.out 3;have z4:w2.cell? ⟨w.heap.size+1,4,none⟩=some (.slice none 0 0):=blk_cell HR2.out 4;have z5:w2.cell? ⟨w.heap.size+1,5,none⟩=some (.slice none 0 0):=blk_cell HR2.out 5;have z6:w2.cell? ⟨w.heap.size+1,6,none⟩=some (.int .i64 0):=blk_cell HR2.out 6;have ef:=blk_frozen HR2.out;clear hB2 hs2;skip)
  | (go_at_call 337;refine (cloneStr_any X x.fr _ _ (HFW.out.keep (w':=W.drew) (fun _ _ _=>rfl)) hlf).mono ?_;rintro e w1 ⟨a1,k1,rfl,hs1,hB1⟩;have HB1:=hide (HWB.out.drew.trans (hB1.mono hWs));have HW1:=hide (blk_below (w:=W.drew) HWb.out hB1);have HR1:=hide (blk_below (w:=W.drew) HWr.out hB1);have HS1:=hide hs1;have d2:w1.cell? ⟨w.heap.size,2,none⟩=some (.int .i64 x.tag):=blk_cell HW1.out 2;have d3:w1.cell? ⟨w.heap.size,3,none⟩=some (.bool x.octet):=blk_cell HW1.out 3;have d4:w1.cell? ⟨w.heap.size,4,none⟩=some (.slice (some ⟨gf,0,none⟩) x.fr.length cf):=blk_cell HW1.out 4;have d5:w1.cell? ⟨w.heap.size,5,none⟩=some (.slice (some ⟨gk,0,none⟩) x.keys.length ck):=blk_cell HW1.out 5;have h1s:=HB1.out.size;have HKW1:=hide (HKW.out.keep (w':=w1) (fun k _ hk=>hB1.block k hk));clear hB1 hs1;skip))
 all_goals (
  clear ef z0 z1 z2 z3 z4 z5 z6
  change Exit.then _ _ Exit.normal _ (setIns w2 (w.heap.size+1) (matchI op x) (.slice a1 x.fr.length k1) (.slice a2 x.keys.length k2))
  obtain ⟨hUb,hUf⟩:=setIns_spec w2 (w.heap.size+1) (matchI op x) (.slice a1 x.fr.length k1) (.slice a2 x.keys.length k2) _ _ _ _ _ _ _ HR2.out
  generalize setIns w2 (w.heap.size+1) (matchI op x) (.slice a1 x.fr.length k1) (.slice a2 x.keys.length k2)=U at *
  have HUB:Hid (Below w.heap.size w U):=HB2.out.trans (hUf.below (fun k o e=>by rw [e.1];omega) HB2.out.size)
  have HU1:=hide (SlT.fr HS12.out hUf (fun k cs e=>Bool.noConfusion e.2))
  have HU2:=hide (SlT.fr HS2.out hUf (fun k cs e=>Bool.noConfusion e.2))
  have y0:U.cell? ⟨w.heap.size+1,0,none⟩=some (.int .i64 op):=blk_cell hUb 0
  have y1:U.cell? ⟨w.heap.size+1,1,none⟩=some (.int .i64 0):=blk_cell hUb 1
  have y2:U.cell? ⟨w.heap.size+1,2,none⟩=some (.int .i64 x.tag):=blk_cell hUb 2
  have y3:U.cell? ⟨w.heap.size+1,3,none⟩=some (.bool x.octet):=blk_cell hUb 3
  have y4:U.cell? ⟨w.heap.size+1,4,none⟩=some (.slice a1 x.fr.length k1):=blk_cell hUb 4
  have y5:U.cell? ⟨w.heap.size+1,5,none⟩=some (.slice a2 x.keys.length k2):=blk_cell hUb 5
  have y6:U.cell? ⟨w.heap.size+1,6,none⟩=some (.int .i64 0):=blk_cell hUb 6
  clear hUb hUf
  go_wp2
  refine bodyPost_ret (v:=insV (matchI op x) (.slice a1 x.fr.length k1) (.slice a2 x.keys.length k2)) (by simp [results,Tryz.results336,go_sem,insV,matchI,y0,y1,y2,y3,y4,y5,y6]) rfl ?_
  exact ⟨a1,k1,a2,k2,rfl,HU1.out,HU2.out,HUB.out⟩)
end
section
open Go.RowKit
attribute [local go_sem ↓] Go.wp_at_zero Go.wp_at_succ
theorem action_keep (hw:List UInt8) (p:Nat) (arg:List UInt8) (w:World) :
  Calls Tryz.prog 202 #[.agg #[.string (strA hw),.int .i64 p,.int .i64 1,.string (strA arg)]] w fun e w'=>e=.returned (insV (actI 1 p []) (.slice none 0 0) (.slice none 0 0))∧Below w.heap.size w w':=by
 go_enter Tryz.func202,Tryz.ntmps202
 go_wp2
 refine bodyPost_ret (v:=insV (actI 1 p []) (.slice none 0 0) (.slice none 0 0)) (by simp [results,Tryz.results202,go_sem,insV,actI]) rfl ?_
 exact ⟨rfl,(((Below.refl _ _).alloc (Nat.le_refl _) _).alloc (by simp) _).alloc (by simp;omega) _⟩
theorem action_other (hw:List UInt8) (p:Nat) (k:Nat) (arg:List UInt8) (w:World) (hk:k≠1) :
  Calls Tryz.prog 202 #[.agg #[.string (strA hw),.int .i64 p,.int .i64 k,.string (strA arg)]] w fun e w'=>∃ g,e=.returned (insV (actI k p [arg]) (.slice (some ⟨g,0,none⟩) 1 1) (.slice none 0 0))∧SlT w' (.slice (some ⟨g,0,none⟩) 1 1) [arg]∧Below w.heap.size w w':=by
 have hk':((k:Int) != 1)=true:=by simp;omega
 go_enter Tryz.func202,Tryz.ntmps202
 go_wp2
 refine bodyPost_ret (v:=insV (actI k p [arg]) (.slice (some ⟨w.heap.size+1+1+1,0,none⟩) 1 1) (.slice none 0 0)) (by simp [results,Tryz.results202,go_sem,insV,actI]) rfl ?_
 refine ⟨w.heap.size+1+1+1,rfl,Or.inr ⟨w.heap.size+1+1+1,1,rfl,#[.string (strA arg)],blk_newAt (by simp),fun j hj=>?_⟩,((((Below.refl _ _).alloc (Nat.le_refl _) _).alloc (by simp) _).alloc (by simp;omega) _).alloc (by simp;omega) _⟩
 have:j=0:=by simp at hj;exact hj
 subst this;rfl
end
end Go.Proofs.YtbiclelojbfnbaaGreatDoor
