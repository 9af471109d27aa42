import Derived.Deep.AppendLies
import Derived.Test.YtbiclelojbfnbaaGreatDoorZBeginT
import Derived.Test.YtbiclelojbfnbaaGreatDoorZPlainSpace2
import Derived.Test.YtbiclelojbfnbaaGreatDoorZTestAll
namespace Go.Proofs.YtbiclelojbfnbaaGreatDoor
set_option linter.unusedVariables false
set_option linter.unusedSimpArgs false
set_option maxRecDepth 100000
set_option maxHeartbeats 4000000
section
open Go.RowKit
def QfX {α β:Type} (X:Nat→Prop) (P1:(Nat→Prop)→β→World→Value→Prop) (P2:(Nat→Prop)→α→World→Value→Prop) (xs:List (β×List α)) (w:World) (v:Value):Prop:=
 ∃ g c,v=.slice (some ⟨g,0,none⟩) xs.length c∧X g∧∀ j (hj:j < xs.length),∃ u bv,w.cell? ⟨g,2*j,none⟩=some u∧w.cell? ⟨g,2*j+1,none⟩=some bv∧P1 X xs[j].1 w u∧blX X P2 xs[j].2 w bv
theorem QfX.keep {α β:Type} {X:Nat→Prop} {P1:(Nat→Prop)→β→World→Value→Prop} {P2:(Nat→Prop)→α→World→Value→Prop} (h1:TreeP P1) (h2:TreeP P2) {xs:List (β×List α)} {w w':World} {v:Value} (h:QfX X P1 P2 xs w v) (hm:AbvX X w w'):QfX X P1 P2 xs w' v:=by
 obtain ⟨g,c,hv,hg,hx⟩:=h
 refine ⟨g,c,hv,hg,fun j hj=>?_⟩
 obtain ⟨u,bv,hu,hb,hp,hq⟩:=hx j hj
 refine ⟨u,bv,?_,?_,h1.keep _ _ _ _ _ hp hm,hq.keep h2 hm⟩
 ·rw [World.cell?_of_block (w:=w) (a:=⟨g,2*j,none⟩) (hm g hg (Qax hu))]
  exact hu
 ·rw [World.cell?_of_block (w:=w) (a:=⟨g,2*j+1,none⟩) (hm g hg (Qax hb))]
  exact hb
theorem QfX.weak {α β:Type} {X Y:Nat→Prop} {P1:(Nat→Prop)→β→World→Value→Prop} {P2:(Nat→Prop)→α→World→Value→Prop} (h1:TreeP P1) (h2:TreeP P2) {xs:List (β×List α)} {w:World} {v:Value} (hne:xs≠[]) (h:QfX X P1 P2 xs w v) (hB:∀ k,X k→k < w.heap.size→Y k):QfX Y P1 P2 xs w v:=by
 obtain ⟨g,c,hv,hg,hx⟩:=h
 refine ⟨g,c,hv,?_,fun j hj=>?_⟩
 ·obtain ⟨u,bv,hu,_⟩:=hx 0 (List.length_pos_iff.2 hne)
  exact hB g hg (Qax hu)
 ·obtain ⟨u,bv,hu,hb,hp,hq⟩:=hx j hj
  exact ⟨u,bv,hu,hb,h1.weak _ _ _ _ _ hp hB,hq.weak h2 hB⟩
def QuZ (hw:List UInt8) (p k:Nat) (x:List UInt8):Value:=.iface 318 (.agg #[.string (Qad hw),.int .i64 p,.int .i64 k,.string (Qad x)])
def Qhe {α β:Type} (X:Nat→Prop) (P1:(Nat→Prop)→β→World→Value→Prop) (P2:(Nat→Prop)→α→World→Value→Prop) (x:QfA×List (β×List α)×List α) (w:World) (v:Value):Prop:=
 match x.1.kind with
 | 0=>v=QuZ Qfa x.1.pos 1 []
 | 1=>v=.iface 336 (.agg #[.string (Qad QbV),.int .i64 x.1.pos])
 | 2=>v=.iface 337 (.agg #[.string (Qad Qe3),.int .i64 x.1.pos])
 | 3=>v=QuZ QaK x.1.pos 2 x.1.arg
 | 4=>v=QuZ Qbk x.1.pos 3 x.1.arg
 | 5=>v=QuZ Qbb x.1.pos 4 x.1.arg
 | 6=>v=.iface 313 (.agg #[.string (Qad Qgh),.int .i64 x.1.pos,.int .i64 x.1.tag,.string (Qad x.1.var),.string (Qad x.1.arg)])
 | _=>∃ av ev,v=.iface 310 (.agg #[.string (Qad kIf),.int .i64 x.1.pos,av,.bool x.1.els,ev])∧QfX X P1 P2 x.2.1 w av∧x.2.1≠[]∧blX X P2 x.2.2 w ev
def Qg0:(n:Nat)→(Nat→Prop)→Qcd n→World→Value→Prop
 | 0,_,_,_,_=>False
 | n+1,X,x,w,v=>Qhe X (TestV n) (Qg0 n) x w v
theorem Qqn {α β:Type} {X:Nat→Prop} {P1:(Nat→Prop)→β→World→Value→Prop} {P2:(Nat→Prop)→α→World→Value→Prop} {x:QfA×List (β×List α)×List α} {w:World} {v:Value} (h:Qhe X P1 P2 x w v):∃ ty y,v=.iface ty y:=by
 unfold Qhe QuZ at h
 split at h
 ·exact ⟨_,_,h⟩
 ·exact ⟨_,_,h⟩
 ·exact ⟨_,_,h⟩
 ·exact ⟨_,_,h⟩
 ·exact ⟨_,_,h⟩
 ·exact ⟨_,_,h⟩
 ·exact ⟨_,_,h⟩
 ·obtain ⟨av,ev,h,_⟩:=h;exact ⟨_,_,h⟩
theorem Qpr {α β:Type} {X:Nat→Prop} {P1:(Nat→Prop)→β→World→Value→Prop} {P2:(Nat→Prop)→α→World→Value→Prop} (h1:TreeP P1) (h2:TreeP P2) {x:QfA×List (β×List α)×List α} {w w':World} {v:Value} (h:Qhe X P1 P2 x w v) (hk:AbvX X w w'):Qhe X P1 P2 x w' v:=by
 unfold Qhe at h ⊢
 split at h
 ·exact h
 ·exact h
 ·exact h
 ·exact h
 ·exact h
 ·exact h
 ·exact h
 ·obtain ⟨av,ev,h,ha,hn,hb⟩:=h;exact ⟨av,ev,h,ha.keep h1 h2 hk,hn,hb.keep h2 hk⟩
theorem QpQ {α β:Type} {X Y:Nat→Prop} {P1:(Nat→Prop)→β→World→Value→Prop} {P2:(Nat→Prop)→α→World→Value→Prop} (h1:TreeP P1) (h2:TreeP P2) {x:QfA×List (β×List α)×List α} {w:World} {v:Value} (h:Qhe X P1 P2 x w v) (hB:∀ k,X k→k < w.heap.size→Y k):Qhe Y P1 P2 x w v:=by
 unfold Qhe at h ⊢
 split at h
 ·exact h
 ·exact h
 ·exact h
 ·exact h
 ·exact h
 ·exact h
 ·exact h
 ·obtain ⟨av,ev,h,ha,hn,hb⟩:=h;exact ⟨av,ev,h,QfX.weak h1 h2 hn ha hB,hn,hb.weak h2 hB⟩
theorem QaY:∀ n,TreeP (Qg0 n)
 | 0=>⟨fun _ _ _ _ h=>h.elim,fun _ _ _ _ _ h=>h.elim,fun _ _ _ _ _ h=>h.elim⟩
 | n+1=>⟨fun _ _ _ _ h=>Qqn h,fun _ _ _ _ _ h hk=>Qpr (Qbl n) (QaY n) h hk,fun _ _ _ _ _ h hB=>QpQ (Qbl n) (QaY n) h hB⟩
end
section
open Go.RowKit
theorem QiV {α β:Type} {l:List UInt8} {F:Nat} {tst:PS→Except Flt (β×PS)} {sub:PS→Except Flt (α×PS)} {f:Nat} {acc:List (β×List α)} {s:PS} {e:Flt} (h:mayL l [Qb7] s=.error e):armsMore l F tst sub (f+1) acc s=.error e:=by rw [armsMore];exact Qaf h
theorem Qd0 {α β:Type} {l:List UInt8} {F:Nat} {tst:PS→Except Flt (β×PS)} {sub:PS→Except Flt (α×PS)} {f:Nat} {acc:List (β×List α)} {s:PS} {y:Nat×PS} (h:mayL l [Qb7] s=.ok y) (h1:y.1=0):armsMore l F tst sub (f+1) acc s=.ok (acc,y.2):=by rw [armsMore,Qae h,if_pos h1]
theorem QiH {α β:Type} {l:List UInt8} {F:Nat} {tst:PS→Except Flt (β×PS)} {sub:PS→Except Flt (α×PS)} {f:Nat} {acc:List (β×List α)} {s:PS} {y:Nat×PS} {e:Flt} (h:mayL l [Qb7] s=.ok y) (h1:¬ y.1=0) (h2:armL l F tst sub y.2=.error e):armsMore l F tst sub (f+1) acc s=.error e:=by rw [armsMore,Qae h,if_neg h1];exact Qaf h2
theorem Qnv {α β:Type} {l:List UInt8} {F:Nat} {tst:PS→Except Flt (β×PS)} {sub:PS→Except Flt (α×PS)} {f:Nat} {acc:List (β×List α)} {s:PS} {y:Nat×PS} {z:(β×List α)×PS} (h:mayL l [Qb7] s=.ok y) (h1:¬ y.1=0) (h2:armL l F tst sub y.2=.ok z):armsMore l F tst sub (f+1) acc s=armsMore l F tst sub f (acc++[z.1]) z.2:=by rw [armsMore,Qae h,if_neg h1];exact Qae h2
def QeO {α:Type} (P:α→Value→Value→Prop):List α→List Value→Prop
 | [],[]=>True
 | a :: xs,u :: v :: vs=>P a u v∧QeO P xs vs
 | _,_=>False
theorem QeO.imp {α:Type} {P Q:α→Value→Value→Prop} (h:∀ a u v,P a u v→Q a u v):∀ {xs:List α} {vs:List Value},QeO P xs vs→QeO Q xs vs
 | [],[],_=>trivial
 | a :: xs,u :: v :: vs,hr=>⟨h _ _ _ hr.1,QeO.imp h hr.2⟩
 | [],_ :: _,hr=>hr.elim
 | _ :: _,[],hr=>hr.elim
 | _ :: _,[_],hr=>hr.elim
theorem QeO.snoc {α:Type} {P:α→Value→Value→Prop} {a:α} {u v:Value} (h:P a u v):∀ {xs:List α} {vs:List Value},QeO P xs vs→QeO P (xs++[a]) (vs++[u,v])
 | [],[],_=>⟨h,trivial⟩
 | a' :: xs,u' :: v' :: vs,hr=>⟨hr.1,QeO.snoc h hr.2⟩
 | [],_ :: _,hr=>hr.elim
 | _ :: _,[],hr=>hr.elim
 | _ :: _,[_],hr=>hr.elim
theorem QeO.at {α:Type} {P:α→Value→Value→Prop}:∀ {xs:List α} {vs:List Value},QeO P xs vs→∀ j (hj:j < xs.length),∃ u v,vs[2*j]?=some u∧vs[2*j+1]?=some v∧P xs[j] u v
 | [],[],_,j,hj=>absurd hj (Nat.not_lt_zero _)
 | a :: xs,u :: v :: vs,h,0,_=>⟨u,v,rfl,rfl,h.1⟩
 | a :: xs,u :: v :: vs,h,j+1,hj=>by
  obtain ⟨u',v',h1,h2,h3⟩:=QeO.at h.2 j (by simpa using hj)
  refine ⟨u',v',?_,?_,by simpa using h3⟩
  ·rw [show 2*(j+1)=2*j+1+1 from by omega];simpa using h1
  ·rw [show 2*(j+1)+1=2*j+1+1+1 from by omega];simpa using h2
 | [],_ :: _,h,_,_=>h.elim
 | _ :: _,[],h,_,_=>h.elim
 | _ :: _,[_],h,_,_=>h.elim
def Qc9 {α β:Type} (P1:(Nat→Prop)→β→World→Value→Prop) (P2:(Nat→Prop)→α→World→Value→Prop) (base T:Nat) (w:World) (v:Value) (a:β×List α) (u bv:Value):Prop:=
 ∃ X,P1 X a.1 w u∧blX X P2 a.2 w bv∧(∀ k,X k→base≤k∧k < w.heap.size)∧(∀ g,v.ownBlock=some g→¬ X g)∧¬ X T
theorem Qc9.mod {α β:Type} {P1:(Nat→Prop)→β→World→Value→Prop} {P2:(Nat→Prop)→α→World→Value→Prop} (hP1:TreeP P1) (hP2:TreeP P2) {base T b:Nat} {w w':World} {v:Value} {a:β×List α} {u bv:Value} (h:Qc9 P1 P2 base T w v a u bv) (hm:Mod b w w') (hb:b < base):Qc9 P1 P2 base T w' v a u bv:=by
 obtain ⟨X,h1,h1',h2,h3,h4⟩:=h
 have hA:AbvX X w w':=hm.abvX (fun e=>by have:=(h2 b e).1;omega)
 exact ⟨X,hP1.keep _ _ _ _ _ h1 hA,h1'.keep hP2 hA,fun k hk=>⟨(h2 k hk).1,Nat.lt_of_lt_of_le (h2 k hk).2 hm.size⟩,h3,h4⟩
theorem Qc9.set {α β:Type} {P1:(Nat→Prop)→β→World→Value→Prop} {P2:(Nat→Prop)→α→World→Value→Prop} (hP1:TreeP P1) (hP2:TreeP P2) {base T:Nat} {w:World} {v:Value} {a:β×List α} {u bv:Value} (h:Qc9 P1 P2 base T w v a u bv) (o:Nat) (x:Value):Qc9 P1 P2 base T (w.setCell ⟨T,o,none⟩ x) v a u bv:=by
 obtain ⟨X,h1,h1',h2,h3,h4⟩:=h
 have hA:AbvX X w (w.setCell ⟨T,o,none⟩ x):=AbvX.set h4 _ _
 exact ⟨X,hP1.keep _ _ _ _ _ h1 hA,h1'.keep hP2 hA,fun k hk=>⟨(h2 k hk).1,by simpa [World.setCell] using (h2 k hk).2⟩,h3,h4⟩
theorem Qc9.new {α β:Type} {P1:(Nat→Prop)→β→World→Value→Prop} {P2:(Nat→Prop)→α→World→Value→Prop} (hP1:TreeP P1) (hP2:TreeP P2) {base T B:Nat} {w:World} {v:Value} {a:β×List α} {u bv:Value} (h:P1 (fromB B) a.1 w u) (h':blX (fromB B) P2 a.2 w bv) (hB:base≤B) (hv:∀ g,v.ownBlock=some g→g < B) (hT:T < B):Qc9 P1 P2 base T w v a u bv:=
 ⟨fun k=>B≤k∧k < w.heap.size,hP1.weak _ _ _ _ _ h (fun k hk hz=>⟨hk,hz⟩),h'.weak hP2 (fun k hk hz=>⟨hk,hz⟩),fun k hk=>⟨Nat.le_trans hB hk.1,hk.2⟩,fun g hg hX=>by have:=hv g hg;omega,fun hX=>by omega⟩
theorem Qc9.grown {α β:Type} {P1:(Nat→Prop)→β→World→Value→Prop} {P2:(Nat→Prop)→α→World→Value→Prop} (hP1:TreeP P1) (hP2:TreeP P2) {base T:Nat} {w w':World} {v v':Value} {a:β×List α} {u bv:Value} {o:Obj} (h:Qc9 P1 P2 base T w v a u bv) (hg:(w.alloc o).grownBy w' v.ownBlock) (hv:v'.ownBlock=v.ownBlock∨v'.ownBlock=some (w.heap.size+1)):Qc9 P1 P2 base T w' v' a u bv:=by
 obtain ⟨X,h1,h1',h2,h3,h4⟩:=h
 have hA:AbvX X w w':=fun k hk hz=>by
  rw [hg.block k (by simp;omega) (fun e=>h3 k e.symm hk)]
  exact Below.heap_alloc _ _ _ hz
 refine ⟨X,hP1.keep _ _ _ _ _ h1 hA,h1'.keep hP2 hA,fun k hk=>⟨(h2 k hk).1,?_⟩,fun g hgb hX=>?_,h4⟩
 ·have:=(h2 k hk).2;have:=hg.size;simp at this;omega
 ·rcases hv with hv | hv
  ·exact h3 g (hv ▸ hgb) hX
  ·rw [hv] at hgb
   have:=(h2 g hX).2
   simp at hgb
   omega
theorem QfX.of_owns {α β:Type} {P1:(Nat→Prop)→β→World→Value→Prop} {P2:(Nat→Prop)→α→World→Value→Prop} (hP1:TreeP P1) (hP2:TreeP P2) {w:World} {base T n:Nat} {e:TypeId} {v:Value} {xs:List (β×List α)} {vs:List Value} (h:w.ownsRow base e 2 v n vs) (hn:n=xs.length) (hx:xs≠[]) (hvT:∀ g,v.ownBlock=some g→g≠T) (hr:QeO (fun a u bv=>Qc9 P1 P2 base T w v a u bv) xs vs):QfX (fun k=>base≤k∧k≠T) P1 P2 xs w v:=by
 subst hn
 have hc:=fun g (hg:v.ownBlock=some g)=>h.cells hg
 obtain ⟨h1,h2⟩:=h
 rcases h2 with ⟨_,h3⟩ | ⟨g,cap,cur,hv,hg,r⟩
 ·exact absurd (List.eq_nil_of_length_eq_zero h3) hx
 ·refine ⟨g,cap,hv,⟨hg,hvT g (by rw [hv];rfl)⟩,fun j hj=>?_⟩
  obtain ⟨u,bv,hu,hb,X,hp,hq,hX,_,hXT⟩:=hr.at j hj
  have k1:=hc g (by rw [hv];rfl) _ u hu
  have k2:=hc g (by rw [hv];rfl) _ bv hb
  rw [Qcs] at k1 k2
  have hk:∀ k,X k→k < w.heap.size→base≤k∧k≠T:=fun k hk _=>⟨(hX k hk).1,fun e=>hXT (e ▸ hk)⟩
  exact ⟨u,bv,k1,k2,hP1.weak _ _ _ _ _ hp hk,hq.weak hP2 hk⟩
end
section
open Go.RowKit
theorem QuT (t:ByteArray) (req:List (List UInt8)) (F n:Nat):SubMu t.size (QbD t.data.toList req F n):=fun s y h1 h2 e=>by
 have:=(Qk8 n s ⟨by simpa using h1,h2⟩ y e).2
 rw [bal] at this
 omega
theorem Qt1 (t:ByteArray) (req:List (List UInt8)) (F n:Nat):SubMu t.size (cmdL t.data.toList req F n):=fun s y h1 h2 e=>by
 have:=(Qr3 n s ⟨by simpa using h1,h2⟩ y e).2
 rw [bal] at this
 omega
theorem QuL (req:List (List UInt8)) (b F:Nat) (t:ByteArray) (rv:Value) (mc mt pr pt pf:Nat) (hF:2*t.size+1 < F) (n:Nat) (hn:n≤7) (w:World) (ht:Qn2 w b mt pr pt pf) (hr:Qk3 w b rv req) :
 QeM 252 w b t rv mc mt (7 - (n:Int)) (QbD t.data.toList req F n) (TestV n):=
 QoY req b F t rv mc mt pr pt pf hF (QuT t req F) n hn w ht hr
end
section
open Go.RowKit
attribute [local go_sem ↓] Go.wp_at_zero Go.wp_at_succ
def QgG {α β:Type} (l:List UInt8) (F:Nat) (tst:PS→Except Flt (β×PS)) (sub:PS→Except Flt (α×PS)) (s:PS):Except Flt ((List (β×List α)×Bool×List α)×PS):=
 QaT (armL l F tst sub s) fun a s1=>QaT (armsMore l F tst sub F [a] s1) fun arms s2=>QaT (mayL l [QdS] s2) fun i s3=>
  if i=0 then .ok ((arms,false,[]),s3) else QaT (blockL l F sub s3) fun cs s4=>.ok ((arms,true,cs),s4)
abbrev QuO (hw:List UInt8) (hp:Nat) (av:Value):Obj:=.cells #[.string (Qad hw),.int .i64 hp,av,.bool false,.slice none 0 0] 310
abbrev QeK:Obj:=.cells #[.string ⟨#[]⟩,.int .i64 0,.slice none 0 0,.bool false,.slice none 0 0] 310
theorem Tryz.infoArm:(Tryz.prog.info? 369).map (fun i=>(i.zero,i.size,i.bytes))=some (some (.agg #[.nilIface,.slice none 0 0]),2,40):=by kernel_rfl
theorem QkC (w:World) (x y:Value) (t:TypeId):∀ j u,[x,y][j]?=some u→(w.alloc (.cells #[x,y] t)).cell? ((⟨w.heap.size,0,none⟩:Addr).add j)=some u:=by
 intro j u hj
 match j,hj with
 | 0,hj=>simp at hj;subst hj;simp [Addr.add]
 | 1,hj=>simp at hj;subst hj;simp [Addr.add]
theorem Qud {α β:Type} {P1:(Nat→Prop)→β→World→Value→Prop} {P2:(Nat→Prop)→α→World→Value→Prop} (hP1:TreeP P1) {X Y:Nat→Prop} {a:β×List α} {w:World} {u bv:Value} (h1:P1 X a.1 w u) (h2:blX Y P2 a.2 w bv):∀ x∈[u,bv],x.oneCell'=true:=by
 obtain ⟨ty,x,rfl⟩:=hP1.form _ _ _ _ h1
 obtain ⟨a,n,c,rfl⟩:=h2.form
 intro x hx
 simp at hx
 rcases hx with rfl | rfl <;> rfl
theorem QrX {α β:Type} {P1:(Nat→Prop)→β→World→Value→Prop} {P2:(Nat→Prop)→α→World→Value→Prop} (hP1:TreeP P1) (hP2:TreeP P2) {base T b g n cap g' cap':Nat} {t:ByteArray} {s:PS} {rv:Value} {mc mt:Nat} {w w4 w5:World} {o o1:Obj} {acc:List (β×List α)} {a:β×List α} {u bv:Value} {vs:List Value} {e:TypeId}
 (hga:Qc9 P1 P2 base T w4 (.slice (some ⟨g,0,none⟩) n cap) a u bv) (hrow:QeO (fun a u bv=>Qc9 P1 P2 base T w4 (.slice (some ⟨g,0,none⟩) n cap) a u bv) acc vs) (hT4:w4.heap[T]?=some o) (hc:RC w4 b t s rv mc mt) (hm:Mod b w w4) (hown:w5.ownsRow base e 2 (.slice (some ⟨g',0,none⟩) (n+1) cap') (n+1) (vs++[u,bv])) (hg:(w4.alloc o1).grownBy w5 (some g)) (hat:(Value.slice (some ⟨g,0,none⟩) n cap).ownBlock=some g'∨g'=(w4.alloc o1).heap.size) (hbase:w.heap.size≤T) (hTb:¬ T=b) (hgT:g≠T) (hgb:b < base∧base≤g∧base=w.heap.size) :
 w5.heap[T]?=some o∧RC w5 b t s rv mc mt∧Mod b w w5∧g'≠T∧QeO (fun a u bv=>Qc9 P1 P2 base T w5 (.slice (some ⟨g',0,none⟩) (n+1) cap') a u bv) (acc++[a]) (vs++[u,bv]):=by
 have hTl:=QaH hT4
 have hat':(Value.slice (some ⟨g',0,none⟩) (n+1) cap').ownBlock=(Value.slice (some ⟨g,0,none⟩) n cap).ownBlock∨(Value.slice (some ⟨g',0,none⟩) (n+1) cap').ownBlock=some (w4.heap.size+1):=by
  rcases hat with h | h
  ·left;rw [h];rfl
  ·right;rw [h];simp [Value.ownBlock]
 refine ⟨?_,(hc.alloc o1).grown hg (fun k hk=>by cases hk;omega),(hm.alloc o1).grown hg (fun k hk=>by cases hk;omega),?_,?_⟩
 ·rw [hg.block T (by simp;omega) (fun h=>hgT (by cases h;rfl))]
  exact Qac hT4
 ·rcases hat with h | h
  ·simp [Value.ownBlock] at h;omega
  ·simp at h;omega
 ·exact QeO.snoc (hga.grown hP1 hP2 hg hat') (hrow.imp (fun a u bv hu=>hu.grown hP1 hP2 hg hat'))
def Qqf {α β:Type} (l:List UInt8) (F:Nat) (sub:PS→Except Flt (α×PS)) (arms:List (β×List α)) (s2:PS):Except Flt ((List (β×List α)×Bool×List α)×PS):=
 QaT (mayL l [QdS] s2) fun i s3=>if i=0 then .ok ((arms,false,[]),s3) else QaT (blockL l F sub s3) fun cs s4=>.ok ((arms,true,cs),s4)
theorem QcO {α β:Type} {l:List UInt8} {F:Nat} {tst:PS→Except Flt (β×PS)} {sub:PS→Except Flt (α×PS)} {s:PS} {y:(β×List α)×PS} (h:armL l F tst sub s=.ok y):QgG l F tst sub s=QaT (armsMore l F tst sub F [y.1] y.2) (Qqf l F sub):=Qae h
theorem Qc9.first {α β:Type} {P1:(Nat→Prop)→β→World→Value→Prop} {P2:(Nat→Prop)→α→World→Value→Prop} (hP1:TreeP P1) (hP2:TreeP P2) {base T B:Nat} {w:World} {v:Value} {a:β×List α} {u bv:Value} (h:P1 (fromB B) a.1 w u) (h':blX (fromB B) P2 a.2 w bv) (hB:base≤B) (hv:∀ g,v.ownBlock=some g→w.heap.size≤g) (hT:T < B∨w.heap.size≤T):Qc9 P1 P2 base T w v a u bv:=
 ⟨fun k=>B≤k∧k < w.heap.size,hP1.weak _ _ _ _ _ h (fun k hk hz=>⟨hk,hz⟩),h'.weak hP2 (fun k hk hz=>⟨hk,hz⟩),fun k hk=>⟨Nat.le_trans hB hk.1,hk.2⟩,fun g hg hX=>by have:=hv g hg;omega,fun hX=>by omega⟩
theorem Qnp {w:World} {base g n:Nat} {e:TypeId} {size:Nat} {cs:Array Value} (h:w.heap[g]?=some (.cells cs e)) (hb:base≤g) (hm:n≤maxLen) (hs:cs.size=n*size):w.ownsRow base e size (.slice (some ⟨g,0,none⟩) n n) n cs.toList:=
 ⟨by simpa using hs,.inr ⟨g,n,cs,rfl,hb,h,Nat.le_refl _,hm,hs,List.take_of_length_le (by rw [Array.length_toList,hs];exact Nat.le_refl _)⟩⟩
theorem Qir {w:World} {base T o:Nat} {x:Value} {e:TypeId} {size:Nat} {v:Value} {n:Nat} {xs:List Value} (h:w.ownsRow base e size v n xs) (hT:∀ g,v.ownBlock=some g→g≠T):(w.setCell ⟨T,o,none⟩ x).ownsRow base e size v n xs:=by
 obtain ⟨h1,h2⟩:=h
 refine ⟨h1,?_⟩
 rcases h2 with h2 | ⟨g,cap,cur,hv,hg,hh,r⟩
 ·exact Or.inl h2
 ·exact Or.inr ⟨g,cap,cur,hv,hg,by rw [Below.heap_setCell _ _ _ _ (show g≠T from hT g (by rw [hv];rfl))];exact hh,r⟩
theorem QrP:∀ z∈([Qb7]:List (List UInt8)),z≠[]:=by decide
theorem Qu7 {α β:Type} {t:ByteArray} {F:Nat} {tst:PS→Except Flt (β×PS)} {sub:PS→Except Flt (α×PS)} (ht:∀ s,Gd t.data.toList s→Dn 1 t.data.toList (tst s) s) (hs:∀ s,Gd t.data.toList s→Dn 1 t.data.toList (sub s) s) {s:PS} {y:(β×List α)×PS} (h1:s.2≤t.size) (h2:s.1.kind=0→s.1.spelt=[]) (e:armL t.data.toList F tst sub s=.ok y):mu t.size y.2 < mu t.size s:=by
 have:=(QrL ht hs ⟨by simpa using h1,h2⟩ y e).2
 rw [bal] at this
 omega
theorem Qp9 {α β:Type} (tst:PS→Except Flt (β×PS)) (P1:(Nat→Prop)→β→World→Value→Prop) (sub:PS→Except Flt (α×PS)) (P2:(Nat→Prop)→α→World→Value→Prop) (hw:List UInt8) (hp:Nat) (d:Int) (b F:Nat) (t:ByteArray) (s:PS) (rv:Value) (mc mt:Nat) (w:World) (h:RC w b t s rv mc mt) (hF:2*t.size+1 < F) (hd0:0≤d) (hd1:d≤100) (hP1:TreeP P1) (hP2:TreeP P2) (hS:SubMu t.size sub) (hdt:∀ s,Gd t.data.toList s→Dn 1 t.data.toList (tst s) s) (hds:∀ s,Gd t.data.toList s→Dn 1 t.data.toList (sub s) s) (ho1:QeM 252 w b t rv mc mt (d+1) tst P1) (ho2:QeM 174 w b t rv mc mt (d+1) sub P2) :
 Calls Tryz.prog 157 #[.pointer (some ⟨b,0,none⟩),QcJ hw hp,.int .i64 d] w (Qau (QgG t.data.toList F tst sub s) b t rv mc mt w (fun x w' v=>∃ av ev,v=.iface 310 (.agg #[.string (Qad hw),.int .i64 hp,av,.bool x.2.1,ev])∧QfX (fromB w.heap.size) P1 P2 x.1 w' av∧x.1≠[]∧blX (fromB w.heap.size) P2 x.2.2 w' ev)):=by
 have H:=Qab h
 have HO1:=Qab ho1
 have HO2:=Qab ho2
 have HP1:=Qab hP1
 have HP2:=Qab hP2
 have HSM:=Qab hS
 have hlt:=h.at_.lt
 clear h ho1 ho2 hP1 hP2 hS
 unfold QcJ
 obtain ⟨i0,hi,hz0,hz1,hz2⟩:=info_parts Tryz.infoArm
 go_enter Tryz.func157,Tryz.ntmps157
 go_upto_region 1 with fail
 have hn0:¬ w.heap.size=b:=by omega
 have hn1:¬ w.heap.size+1=b:=by omega
 go_cut [7] (fun v wc=>∃ (T G:Nat) (y:(β×List α)×PS) (u bv:Value),v=.pointer (some ⟨T,0,none⟩)∧armL t.data.toList F tst sub s=.ok y∧RC wc b t y.2 rv mc mt∧Mod b w wc∧w.heap.size≤T∧w.heap.size≤G∧T≠G∧wc.heap[T]?=some (QuO hw hp (.slice (some ⟨G,0,none⟩) 1 1))∧wc.heap[G]?=some (.cells #[u,bv] 369)∧Qc9 P1 P2 w.heap.size T wc (.slice (some ⟨G,0,none⟩) 1 1) y.1 u bv)
 case first=>
  go_region_with (go_at_call 249;refine (Qrq tst P1 sub P2 d b F t s rv mc mt _ (by first | exact (H.out.alloc _).drew | exact ((H.out.alloc _).alloc _).drew) hF hd0 hd1 HP1.out HP2.out HSM.out (HO1.out.mod (by first | exact ((Mod.refl b w).alloc _).drew | exact (((Mod.refl b w).alloc _).alloc _).drew)) (HO2.out.mod (by first | exact ((Mod.refl b w).alloc _).drew | exact (((Mod.refl b w).alloc _).alloc _).drew))).mono ?_;intro e w1 h1;rcases h1.cases with ⟨y,v,hy,rfl,hv,hc,hm⟩ | ⟨f,hf,⟨bb,hz,rfl,hcc⟩,hm⟩;rotate_left;exact ⟨rfl,Qau.err (Qaf hf) (by first | exact ((Mod.refl b w).alloc _).trans (QaV hm) | exact (((Mod.refl b w).alloc _).alloc _).trans (QaV hm)) ⟨bb,by simp at hz;omega,rfl,hcc⟩⟩;obtain ⟨u,bv,rfl,hu,hbv⟩:=hv;have hzz:=hm.size;simp at hzz;have hz9:w.heap.size < w1.heap.size:=(by omega);have hhb:=QaS (g:=w.heap.size) (o:=.cells #[.string (Qad hw),.int .i64 hp] 266) (by first | exact Qay _ _ | exact Qac (Qay _ _)) (QaV hm) hn0;have hh0:w1.cell? ⟨w.heap.size,0,none⟩=some (.string (Qad hw)):=Qaa hhb 0;have hh1:w1.cell? ⟨w.heap.size,1,none⟩=some (.int .i64 hp):=Qaa hhb 1;clear hhb;have hh0a:∀ o,(w1.alloc o).cell? ⟨w.heap.size,0,none⟩=some (.string (Qad hw)):=(fun o=>by rw [World.cell?_alloc_past _ _ _ hz9];exact hh0);have hh1a:∀ o,(w1.alloc o).cell? ⟨w.heap.size,1,none⟩=some (.int .i64 hp):=(fun o=>by rw [World.cell?_alloc_past _ _ _ hz9];exact hh1);have hh0b:∀ o o',((w1.alloc o).alloc o').cell? ⟨w.heap.size,0,none⟩=some (.string (Qad hw)):=(fun o o'=>by rw [World.cell?_alloc_past _ _ _ (by simp;omega)];exact hh0a o);have hh1b:∀ o o',((w1.alloc o).alloc o').cell? ⟨w.heap.size,1,none⟩=some (.int .i64 hp):=(fun o o'=>by rw [World.cell?_alloc_past _ _ _ (by simp;omega)];exact hh1a o);(first | (have tb:=QaS (g:=w.heap.size+1) (o:=QeK) (QaD (by simp)) (QaV hm) hn1;have t0:∀ o,(w1.alloc o).cell? ⟨w.heap.size+1,0,none⟩=some (.string ⟨#[]⟩):=(fun o=>Qaa (Qac tb) 0);have t1:∀ o,(w1.alloc o).cell? ⟨w.heap.size+1,1,none⟩=some (.int .i64 0):=(fun o=>Qaa (Qac tb) 1);have t2:∀ o,(w1.alloc o).cell? ⟨w.heap.size+1,2,none⟩=some (.slice none 0 0):=(fun o=>Qaa (Qac tb) 2);have t3:∀ o,(w1.alloc o).cell? ⟨w.heap.size+1,3,none⟩=some (.bool false):=(fun o=>Qaa (Qac tb) 3);have t4:∀ o,(w1.alloc o).cell? ⟨w.heap.size+1,4,none⟩=some (.slice none 0 0):=(fun o=>Qaa (Qac tb) 4);have tf:=(fun o=>Qap (Qac (o':=o) tb));have TB:=Qab tb;clear tb) | (have t0:∀ o,((w1.alloc QeK).alloc o).cell? ⟨w1.heap.size,0,none⟩=some (.string ⟨#[]⟩):=(fun o=>Qaa (Qac (Qay w1 QeK)) 0);have t1:∀ o,((w1.alloc QeK).alloc o).cell? ⟨w1.heap.size,1,none⟩=some (.int .i64 0):=(fun o=>Qaa (Qac (Qay w1 QeK)) 1);have t2:∀ o,((w1.alloc QeK).alloc o).cell? ⟨w1.heap.size,2,none⟩=some (.slice none 0 0):=(fun o=>Qaa (Qac (Qay w1 QeK)) 2);have t3:∀ o,((w1.alloc QeK).alloc o).cell? ⟨w1.heap.size,3,none⟩=some (.bool false):=(fun o=>Qaa (Qac (Qay w1 QeK)) 3);have t4:∀ o,((w1.alloc QeK).alloc o).cell? ⟨w1.heap.size,4,none⟩=some (.slice none 0 0):=(fun o=>Qaa (Qac (Qay w1 QeK)) 4);have tf:=(fun o=>Qap (Qac (o':=o) (Qay w1 QeK)))));have HY:=Qab hy;have HC:=Qab hc;have HU:=Qab hu;have HBV:=Qab hbv;have HMM:Hid (Mod b w w1):=(by first | exact ((Mod.refl b w).alloc _).trans (QaV hm) | exact (((Mod.refl b w).alloc _).alloc _).trans (QaV hm));clear h1 hy hc hm hu hbv;skip)
  all_goals (go_wp2_with fail;go_meet)
  all_goals first
   | (have hTB:=TB;exact ⟨w.heap.size+1,w1.heap.size,y,u,bv,rfl,HY.out,(((((HC.out.alloc _).setNew (by omega) _ _).setNew (by omega) _ _).setNew (by omega) _ _).setNew (by omega) _ _).setNew (by omega) _ _,(((((HMM.out.alloc _).setNew (by omega) _ _).setNew (by omega) _ _).setNew (by omega) _ _).setNew (by omega) _ _).setNew (by omega) _ _,by omega,by omega,by omega,Qah _ _ _ _ _ _ (Qah _ _ _ _ _ _ (Qah _ _ _ _ _ _ (Qah _ _ _ _ _ _ (Qah _ _ _ _ _ _ (Qac TB.out))))),by rw [Below.heap_setCell _ _ _ _ (show w1.heap.size≠w.heap.size+1 by omega),Below.heap_setCell _ _ _ _ (show w1.heap.size≠w.heap.size+1 by omega),Below.heap_setCell _ _ _ _ (show w1.heap.size≠w.heap.size+1 by omega),Below.heap_setCell _ _ _ _ (show w1.heap.size≠w.heap.size+1 by omega),Below.heap_setCell _ _ _ _ (show w1.heap.size≠w.heap.size+1 by omega)];exact Qay _ _,((((((Qc9.first HP1.out HP2.out HU.out HBV.out (by simp;omega) (fun g hg=>by simp [Value.ownBlock] at hg;omega) (by simp)).mod HP1.out HP2.out ((Mod.refl b w1).alloc _) (by omega)).set HP1.out HP2.out _ _).set HP1.out HP2.out _ _).set HP1.out HP2.out _ _).set HP1.out HP2.out _ _).set HP1.out HP2.out _ _⟩)
   | exact ⟨w1.heap.size+1,w1.heap.size,y,u,bv,rfl,HY.out,(HC.out.alloc _).alloc _,(HMM.out.alloc _).alloc _,by omega,by omega,by omega,QaD (by simp),Qac (Qay _ _),((Qc9.first HP1.out HP2.out HU.out HBV.out (by simp) (fun g hg=>by simp [Value.ownBlock] at hg;omega) (Or.inr (by omega))).mod HP1.out HP2.out ((Mod.refl b w1).alloc _) (by omega)).mod HP1.out HP2.out ((Mod.refl b _).alloc _) (by omega)⟩
   | exact ⟨w1.heap.size,w1.heap.size+1,y,u,bv,rfl,HY.out,(HC.out.alloc _).alloc _,(HMM.out.alloc _).alloc _,by omega,by omega,by omega,Qac (Qay _ _),QaD (by simp),((Qc9.first HP1.out HP2.out HU.out HBV.out (by simp) (fun g hg=>by simp [Value.ownBlock] at hg;omega) (Or.inr (by omega))).mod HP1.out HP2.out ((Mod.refl b w1).alloc _) (by omega)).mod HP1.out HP2.out ((Mod.refl b _).alloc _) (by omega)⟩
 case rest=>
  obtain ⟨T,G,y,u,bv,rfl,hy,hc,hm,hT,hG,hTG,hbT,hbG,hga⟩:=hcut
  have HY:=Qab hy
  have HC:=Qab hc
  have HM:=Qab hm
  have HBT:=Qab hbT
  have HBG:=Qab hbG
  have HGA:=Qab hga
  have HDT:=Qab hdt
  have HDS:=Qab hds
  have hTb:¬ T=b:=by omega
  have hmuL:=hc.mu_le
  have hmuF:=hc.mu_lt hF
  clear hy hc hm hbT hbG hga hdt hds
  go_wp2_with fail
  go_loopw [] (fun wr=>∃ (s':PS) (acc:List (β×List α)) (vs:List Value) (f g cap:Nat),wr.ownsRow w.heap.size 369 2 (.slice (some ⟨g,0,none⟩) acc.length cap) acc.length vs∧QeO (fun a u bv=>Qc9 P1 P2 w.heap.size T wr (.slice (some ⟨g,0,none⟩) acc.length cap) a u bv) acc vs∧acc≠[]∧g≠T∧wr.heap[T]?=some (QuO hw hp (.slice (some ⟨g,0,none⟩) acc.length cap))∧RC wr b t s' rv mc mt∧Mod b w wr∧mu t.size s' < f∧acc.length+mu t.size s'≤1300∧QaT (armsMore t.data.toList F tst sub F [y.1] y.2) (Qqf t.data.toList F sub)=QaT (armsMore t.data.toList F tst sub f acc s') (Qqf t.data.toList F sub)) (fun wr=>muW wr b t.size)
  case atStart=>
   exact ⟨y.2,[y.1],[u,bv],F,G,1,Qnp (n:=1) HBG.out hG (by unfold maxLen;omega) rfl,⟨HGA.out,trivial⟩,by simp,fun e=>hTG e.symm,HBT.out,HC.out,HM.out,hmuF,by simp;omega,rfl⟩
  case round=>
   obtain ⟨s',acc,vs,f,g,cap,hown,hrow,hne,hgT,hbT,hrc,hmod,hf,hbd,hsp⟩:=hrel
   obtain ⟨f,rfl⟩:∃ g,f=g+1:=⟨f - 1,by omega⟩
   have HR:=Qab hrc
   have HMr:=Qab hmod
   have HSP:=Qab hsp
   have hgl:w.heap.size≤g:=(hown.lt g rfl).1
   have HOW:=Qab hown
   have HRW:=Qab hrow
   have HBr:=Qab hbT
   have hwr:w.heap.size≤wr.heap.size:=hmod.size
   have hTr:=QaH hbT
   clear hrc hmod hsp hown hrow hbT HC HBT HBG HGA hmuL hmuF
   go_wp2_with fail
   refine (Qhc b wr.heap.size 1 1 [Qb7] t s' rv mc mt _ (HR.out.alloc _) (Qa8 wr [Qb7] _ _ rfl) rfl (by decide)).mono ?_
   intro e w3 h3
   rcases h3.cases with ⟨y3,v3,hy3,rfl,hv3,hc3,hm3⟩ | ⟨f3,hf3,⟨bb,hz,rfl,hcc⟩,hm3⟩
   rotate_left
   ·exact ⟨rfl,Qau.err ((QcO HY.out).trans (HSP.out.trans (Qaf (QiV hf3)))) ((HMr.out.alloc _).trans hm3) ⟨bb,by simp at hz;omega,rfl,hcc⟩⟩
   have hmu3:=QiA (l:=t.data.toList) (by simpa using HR.out.le) HR.out.e0 QrP hy3
   rw [bal] at hmu3
   replace hmu3:=hmu3.1
   have hA3:=((Mod.refl b wr).alloc (.cells #[.string (Qad Qb7)] 9)).trans hm3
   have HM3:=Qab (HMr.out.trans hA3)
   have HY3:=Qab hy3
   have HC3:=Qab hc3
   have HO3:=Qab (Qbu (b:=b) HOW.out hA3 (by omega))
   have HW3:=Qab (HRW.out.imp (fun a u bv hu=>Qc9.mod HP1.out HP2.out (b:=b) (w':=w3) hu hA3 (by omega)))
   have HB3:=Qab (QaS HBr.out hA3 hTb)
   have hz3:=QaH HB3.out
   unfold QjS at hv3
   subst hv3
   clear h3 hy3 hc3 hm3 hA3
   by_cases h1:y3.1=0
   ·have h1':¬ (0:Int) < (y3.1:Int):=by omega
    have H1:=Qab h1
    clear h1
    go_wp2_with fail
    have HP:=Qab (Qhc b w3.heap.size 1 1 [QdS] t y3.2 rv mc mt _ (HC3.out.alloc (.cells (QaN [QdS]).toArray 9)) (QbK _ _ rfl) rfl (by decide))
    refine HP.out.mono ?_
    intro e w4 h4
    rcases h4.cases with ⟨y4,v4,hy4,rfl,hv4,hc4,hm4⟩ | ⟨f4,hf4,⟨bb,hz,rfl,hcc⟩,hm4⟩
    rotate_left
    ·exact ⟨rfl,Qau.err ((QcO HY.out).trans (HSP.out.trans ((Qae (Qd0 HY3.out H1.out)).trans (Qaf hf4)))) ((HM3.out.alloc _).trans hm4) ⟨bb,Nat.le_trans (HM3.out.alloc _).size hz,rfl,hcc⟩⟩
    have hA4:=((Mod.refl b w3).alloc (.cells (QaN [QdS]).toArray 9)).trans hm4
    have HM4:=Qab (HM3.out.trans hA4)
    have HY4:=Qab hy4
    have HC4:=Qab hc4
    have HO4:=Qab (Qbu (b:=b) HO3.out hA4 (by omega))
    have HW4:=Qab (HW3.out.imp (fun a u bv hu=>Qc9.mod HP1.out HP2.out (b:=b) (w':=w4) hu hA4 (by omega)))
    have HB4:=Qab (QaS HB3.out hA4 hTb)
    have HAX:=Qab (QfX.of_owns HP1.out HP2.out HO4.out rfl hne (fun g' hg'=>by simp [Value.ownBlock] at hg';omega) HW4.out)
    have q0:w4.cell? ⟨T,0,none⟩=some (.string (Qad hw)):=Qaa HB4.out 0
    have q1:w4.cell? ⟨T,1,none⟩=some (.int .i64 hp):=Qaa HB4.out 1
    have q2:w4.cell? ⟨T,2,none⟩=some (.slice (some ⟨g,0,none⟩) acc.length cap):=Qaa HB4.out 2
    have q3:w4.cell? ⟨T,3,none⟩=some (.bool false):=Qaa HB4.out 3
    have q4:w4.cell? ⟨T,4,none⟩=some (.slice none 0 0):=Qaa HB4.out 4
    have tf:=Qap HB4.out
    have hz4:=QaH HB4.out
    unfold QjS at hv4
    subst hv4
    clear h4 hy4 hc4 hm4 hA4 HP
    by_cases h2:y4.1=0
    ·have h2':¬ (0:Int) < (y4.1:Int):=by omega
     have H2:=Qab h2
     clear h2
     go_wp2
     go_ret
     exact Qau.ok ((QcO HY.out).trans (HSP.out.trans ((Qae (Qd0 HY3.out H1.out)).trans ((Qae HY4.out).trans (if_pos H2.out))))) HM4.out ⟨_,_,rfl,QfX.weak HP1.out HP2.out hne HAX.out (fun k hk _=>hk.1),hne,Or.inl ⟨rfl,rfl⟩⟩ HC4.out
    have h2':(0:Int) < (y4.1:Int):=by omega
    have H2:=Qab h2
    clear h2
    go_wp2_with fail
    have HMs:=Qab (HM4.out.setNew hT 3 (.bool true))
    refine (Qlq sub P2 (d+1) b F t y4.2 rv mc mt _ (HC4.out.setNew (by omega) 3 (.bool true)) hF HP2.out HSM.out (HO2.out.mod HMs.out)).mono ?_
    intro e w5 h5
    rcases h5.cases with ⟨y5,v5,hy5,rfl,hv5,hc5,hm5⟩ | ⟨f5,hf5,⟨bb,hz,rfl,hcc⟩,hm5⟩
    rotate_left
    ·exact ⟨rfl,Qau.err ((QcO HY.out).trans (HSP.out.trans ((Qae (Qd0 HY3.out H1.out)).trans ((Qae HY4.out).trans ((if_neg H2.out).trans (Qaf hf5)))))) (HMs.out.trans hm5) ⟨bb,Nat.le_trans HMs.out.size hz,rfl,hcc⟩⟩
    have hsz4:(w4.setCell ⟨T,3,none⟩ (.bool true)).heap.size=w4.heap.size:=by simp [World.setCell]
    rw [hsz4] at hv5
    have HV5:=Qab hv5
    obtain ⟨ba,bn,bc,rfl⟩:=hv5.form
    have HB5:=Qab (QaS (Qah _ T 3 (.bool true) _ _ HB4.out) hm5 hTb)
    have HAX5:=Qab ((HAX.out.keep HP1.out HP2.out (AbvX.set (fun h=>h.2 rfl) 3 (.bool true))).keep HP1.out HP2.out (hm5.abvX (fun h=>by have:=h.1;omega)))
    have HM5:=Qab (HMs.out.trans hm5)
    have HY5:=Qab hy5
    have HC5:=Qab hc5
    have r0:w5.cell? ⟨T,0,none⟩=some (.string (Qad hw)):=Qaa HB5.out 0
    have r1:w5.cell? ⟨T,1,none⟩=some (.int .i64 hp):=Qaa HB5.out 1
    have r2:w5.cell? ⟨T,2,none⟩=some (.slice (some ⟨g,0,none⟩) acc.length cap):=Qaa HB5.out 2
    have r3:w5.cell? ⟨T,3,none⟩=some (.bool true):=Qaa HB5.out 3
    have r4:w5.cell? ⟨T,4,none⟩=some (.slice none 0 0):=Qaa HB5.out 4
    have rf:=Qap HB5.out
    clear h5 hy5 hc5 hm5 hv5 q0 q1 q2 q3 q4 tf
    go_wp2
    go_ret
    exact Qau.ok ((QcO HY.out).trans (HSP.out.trans ((Qae (Qd0 HY3.out H1.out)).trans ((Qae HY4.out).trans ((if_neg H2.out).trans (Qae HY5.out)))))) (HM5.out.setNew hT _ _) ⟨_,_,rfl,QfX.weak HP1.out HP2.out hne (HAX5.out.keep HP1.out HP2.out (AbvX.set (fun h=>h.2 rfl) _ _)) (fun k hk _=>hk.1),hne,blX.weak HP2.out (HV5.out.keep HP2.out (AbvX.set (Qm3 hz4) _ _)) (fun k hk _=>by unfold fromB at *;omega)⟩ (HC5.out.setNew (by omega) _ _)
   have h1':(0:Int) < (y3.1:Int):=by omega
   have H1:=Qab h1
   clear h1
   have q2:w3.cell? ⟨T,2,none⟩=some (.slice (some ⟨g,0,none⟩) acc.length cap):=Qaa HB3.out 2
   go_wp2_with fail
   go_region_law (first | (go_simp;go_at_call 249;refine (Qrq tst P1 sub P2 d b F t y3.2 rv mc mt _ HC3.out.drew hF hd0 hd1 HP1.out HP2.out HSM.out (HO1.out.mod HM3.out.drew) (HO2.out.mod HM3.out.drew)).mono ?_;intro e w4 h4;rcases h4.cases with ⟨z4,v4,hy4,rfl,hv4,hc4,hm4⟩ | ⟨f4,hf4,⟨bb,hz,rfl,hcc⟩,hm4⟩;rotate_left;exact ⟨rfl,Qau.err ((QcO HY.out).trans (HSP.out.trans (Qaf (QiH HY3.out H1.out hf4)))) (HM3.out.trans (QaV hm4)) ⟨bb,Nat.le_trans HM3.out.size (by simpa using hz),rfl,hcc⟩⟩;obtain ⟨u4,bv4,rfl,hu4,hbv4⟩:=hv4;have hm4':=QaV hm4;have HGN:=Qab (Qc9.new HP1.out HP2.out (base:=w.heap.size) (T:=T) (v:=.slice (some ⟨g,0,none⟩) acc.length cap) hu4 hbv4 HM3.out.size (fun k hk=>(HO3.out.lt k hk).2) hz3);have HONE:=Qab (Qud HP1.out hu4 hbv4);have HO4:=Qab (Qbu (b:=b) HO3.out hm4' (by omega));have HW4:=Qab (HW3.out.imp (fun a u bv hu=>Qc9.mod HP1.out HP2.out (b:=b) (w':=w4) hu hm4' (by omega)));have HB4:=Qab (QaS HB3.out hm4' hTb);have HM4:=Qab (HM3.out.trans hm4');have HC4:=Qab hc4;have HY4:=Qab hy4;have q4:w4.cell? ⟨T,2,none⟩=some (.slice (some ⟨g,0,none⟩) acc.length cap):=Qaa HB4.out 2;have q4a:∀ o,(w4.alloc o).cell? ⟨T,2,none⟩=some (.slice (some ⟨g,0,none⟩) acc.length cap):=(fun o=>Qaa (Qac HB4.out) 2);have hz4:w.heap.size≤w4.heap.size:=HM4.out.size;clear h4 hy4 hc4 hm4 hm4' hu4 hbv4;skip) | (refine step_append_lies _ rfl (.tmp 19) (.tmp 23) 308 rfl w.heap.size 369 i0 (.agg #[.nilIface,.slice none 0 0]) 2 40 Tryz.underlying308 hi hz0 hz1 hz2 rfl (by decide) (.slice (some ⟨g,0,none⟩) acc.length cap) acc.length vs (by simp [Act.eval,Act.put]) (HO4.out.alloc _) ⟨w4.heap.size,0,none⟩ 1 1 [u4,bv4] (by simp [Act.eval,Act.put]) rfl (QkC _ _ _ _) HONE.out (by decide) (by unfold maxLen;omega) (by omega) (by first | omega | (simp;omega) | simp) _ rfl ?_;intro g' cap' w5 hown5 hgrow hat hlt5;have HA5:=(QrX HP1.out HP2.out HGN.out HW4.out HB4.out HC4.out HM4.out hown5 hgrow hat hT hTb hgT ⟨by omega,hgl,rfl⟩);have t2:w5.cell? ⟨T,2,none⟩=some (.slice (some ⟨g,0,none⟩) acc.length cap):=Qaa HA5.1 2;have tf:=Qap HA5.1;have HA:=Qab HA5;have HOWN5:=Qab hown5;clear HA5 hown5 hgrow hat;skip))
   all_goals
    obtain ⟨hA1,hA2,hA3,hA4,hA5⟩:=HA.out
    have hmu4:=Qu7 HDT.out HDS.out HC3.out.le HC3.out.e0 HY4.out
    have HMW:Hid (muW (w5.setCell ⟨T,2,none⟩ (.slice (some ⟨g',0,none⟩) (acc.length+1) cap')) b t.size < muW wr b t.size):=by
     show _ < _
     rw [(hA2.setNew (by omega) _ _).muEq,HR.out.muEq]
     omega
    have HFIN:Hid (∃ (s':PS) (acc':List (β×List α)) (vs:List Value) (f g cap:Nat),(w5.setCell ⟨T,2,none⟩ (.slice (some ⟨g',0,none⟩) (acc.length+1) cap')).ownsRow w.heap.size 369 2 (.slice (some ⟨g,0,none⟩) acc'.length cap) acc'.length vs∧QeO (fun a u bv=>Qc9 P1 P2 w.heap.size T (w5.setCell ⟨T,2,none⟩ (.slice (some ⟨g',0,none⟩) (acc.length+1) cap')) (.slice (some ⟨g,0,none⟩) acc'.length cap) a u bv) acc' vs∧acc'≠[]∧g≠T∧(w5.setCell ⟨T,2,none⟩ (.slice (some ⟨g',0,none⟩) (acc.length+1) cap')).heap[T]?=some (QuO hw hp (.slice (some ⟨g,0,none⟩) acc'.length cap))∧RC (w5.setCell ⟨T,2,none⟩ (.slice (some ⟨g',0,none⟩) (acc.length+1) cap')) b t s' rv mc mt∧Mod b w (w5.setCell ⟨T,2,none⟩ (.slice (some ⟨g',0,none⟩) (acc.length+1) cap'))∧mu t.size s' < f∧acc'.length+mu t.size s'≤1300∧QaT (armsMore t.data.toList F tst sub F [y.1] y.2) (Qqf t.data.toList F sub)=QaT (armsMore t.data.toList F tst sub f acc' s') (Qqf t.data.toList F sub)):=by
     show ∃ _,_
     have hl:(acc++[z4.1]).length=acc.length+1:=by simp
     refine ⟨z4.2,acc++[z4.1],vs++[u4,bv4],f,g',cap',?_,?_,by simp,hA4,?_,hA2.setNew (by omega) _ _,hA3.setNew hT _ _,by omega,by rw [hl];omega,HSP.out.trans (congrArg (fun r=>QaT r (Qqf t.data.toList F sub)) (Qnv HY3.out H1.out HY4.out))⟩
     ·rw [hl];exact Qir HOWN5.out (fun k hk=>by simp [Value.ownBlock] at hk;omega)
     ·rw [hl];exact hA5.imp (fun a u bv hu=>hu.set HP1.out HP2.out _ _)
     ·rw [hl];exact Qah _ T 2 _ _ _ hA1
    clear hA1 hA2 hA3 hA4 hA5
    go_wp2
    go_roundw
    case rel=>exact HFIN.out
    case measure=>exact HMW.out
end
end Go.Proofs.YtbiclelojbfnbaaGreatDoor
