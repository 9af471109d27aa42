import Derived.Deep.DeepCutAuto
import Derived.Maps.AppendAt
import Derived.Test.YtbiclelojbfnbabGreatDoorZMatch
namespace Go.Proofs.YtbiclelojbfnbabGreatDoor
set_option linter.unusedVariables false
set_option linter.unusedSimpArgs false
set_option maxRecDepth 100000
set_option maxHeartbeats 4000000
section
open Go.RowKit
attribute [local go_sem ↓] Go.wp_at_zero Go.wp_at_succ
def Qco (hw:List UInt8) (hp:Nat):Value:=.agg #[.string (Qag hw),.int .i64 hp]
def Qla (w:World) (pr b:Nat):Prop:=w.cell? ⟨pr,0,none⟩=some (.pointer (some ⟨b,0,none⟩))∧pr≠b
theorem Qla.mod {w w':World} {pr b:Nat} (h:Qla w pr b) (hm:Mod b w w'):Qla w' pr b:=
 ⟨by rw [hm.cell (p:=⟨pr,0,none⟩) (Qay h.1) h.2];exact h.1,h.2⟩
theorem Qla.lt {w:World} {pr b:Nat} (h:Qla w pr b):pr < w.heap.size:=Qay (a:=⟨pr,0,none⟩) h.1
theorem Qjp (hw:List UInt8) (hp:Nat) (d:Int) (pt:Nat) (B:Bool) (w:World) (h:w.cell? ⟨pt,0,none⟩=some (.bool B)) :
 Calls Tryz.prog 167 #[Qco hw hp,.int .i64 d,.pointer (some ⟨pt,0,none⟩)] w fun e w'=>e=.returned (.iface 278 (.agg #[.string (Qag hw),.int .i64 hp,.bool B]))∧Below w.heap.size w w':=by
 have hlt:=Qay h
 have h':(w.alloc (.cells #[.string (Qag hw),.int .i64 hp] 200)).cell? ⟨pt,0,none⟩=some (.bool B):=by rw [World.cell?_alloc_past _ _ _ hlt];exact h
 unfold Qco
 go_enter Tryz.func167,Tryz.ntmps167
 go_wp2
 go_ret
 exact ⟨rfl,(Below.refl _ _).alloc (Nat.le_refl _) _⟩
theorem QoD (hw:List UInt8) (hp:Nat) (d:Int) (pr:Nat) (b F:Nat) (t:ByteArray) (s:PS) (rv:Value) (mc mt:Nat) (w:World) (h:RC w b t s rv mc mt) (hpr:Qla w pr b) (hF:2*t.size+1 < F) :
 Calls Tryz.prog 112 #[Qco hw hp,.int .i64 d,.pointer (some ⟨pr,0,none⟩)] w (Qao (QbR t.data.toList F (fun _=>0) 5 hp s) b t rv mc mt w (fun x w' v=>∃ u,v=.iface 215 u∧mtV w.heap.size hw x w' u)):=by
 have hlt:=hpr.lt
 have h':(w.alloc (.cells #[.string (Qag hw),.int .i64 hp] 200)).cell? ⟨pr,0,none⟩=some (.pointer (some ⟨b,0,none⟩)):=by rw [World.cell?_alloc_past _ _ _ hlt];exact hpr.1
 have H:=Qaa h
 clear h hpr
 unfold Qco
 go_enter Tryz.func112,Tryz.ntmps112
 go_wp2_with fail
 refine (QhB _ (fun _=>0) 5 hw hp b F t s rv mc mt _ (H.out.alloc _) (QfF _ _ _ _ _ _) hF).mono ?_
 intro e w1 h1
 rcases h1.cases with ⟨y,v,hy,rfl,⟨fv,kv,rfl,hf1,hk1⟩,hc,hm⟩ | ⟨f,hf,⟨bb,hz,rfl,hcc⟩,hm⟩
 rotate_left
 ·exact ⟨rfl,Qao.err hf (((Mod.refl b w).alloc _).trans hm) ⟨bb,by simp at hz;omega,rfl,hcc⟩⟩
 have HY:=Qaa hy
 have HC:=Qaa hc
 have HM:=Qaa (((Mod.refl b w).alloc _).trans hm)
 have HF1:=Qaa (hf1.weak (B':=w.heap.size) (by simp))
 have HK1:=Qaa (hk1.weak (B':=w.heap.size) (by simp))
 clear h1 hy hc hm
 obtain ⟨g1,n1,c1,rfl⟩:=hf1.form
 obtain ⟨g2,n2,c2,rfl⟩:=hk1.form
 clear hf1 hk1
 go_wp2
 go_ret
 exact Qao.ok HY.out HM.out ⟨_,rfl,_,_,rfl,HF1.out,HK1.out⟩ HC.out
theorem Qmo (hw:List UInt8) (hp:Nat) (d:Int) (pr:Nat) (b F:Nat) (t:ByteArray) (s:PS) (rv:Value) (mc mt:Nat) (w:World) (h:RC w b t s rv mc mt) (hpr:Qla w pr b) (hF:2*t.size+1 < F) :
 Calls Tryz.prog 118 #[Qco hw hp,.int .i64 d,.pointer (some ⟨pr,0,none⟩)] w (Qao (QbR t.data.toList F (fun _=>0) 7 hp s) b t rv mc mt w (fun x w' v=>∃ u,v=.iface 219 u∧mtV w.heap.size hw x w' u)):=by
 have hlt:=hpr.lt
 have h':(w.alloc (.cells #[.string (Qag hw),.int .i64 hp] 200)).cell? ⟨pr,0,none⟩=some (.pointer (some ⟨b,0,none⟩)):=by rw [World.cell?_alloc_past _ _ _ hlt];exact hpr.1
 have H:=Qaa h
 clear h hpr
 unfold Qco
 go_enter Tryz.func118,Tryz.ntmps118
 go_wp2_with fail
 refine (QhB _ (fun _=>0) 7 hw hp b F t s rv mc mt _ (H.out.alloc _) (QfF _ _ _ _ _ _) hF).mono ?_
 intro e w1 h1
 rcases h1.cases with ⟨y,v,hy,rfl,⟨fv,kv,rfl,hf1,hk1⟩,hc,hm⟩ | ⟨f,hf,⟨bb,hz,rfl,hcc⟩,hm⟩
 rotate_left
 ·exact ⟨rfl,Qao.err hf (((Mod.refl b w).alloc _).trans hm) ⟨bb,by simp at hz;omega,rfl,hcc⟩⟩
 have HY:=Qaa hy
 have HC:=Qaa hc
 have HM:=Qaa (((Mod.refl b w).alloc _).trans hm)
 have HF1:=Qaa (hf1.weak (B':=w.heap.size) (by simp))
 have HK1:=Qaa (hk1.weak (B':=w.heap.size) (by simp))
 clear h1 hy hc hm
 obtain ⟨g1,n1,c1,rfl⟩:=hf1.form
 obtain ⟨g2,n2,c2,rfl⟩:=hk1.form
 clear hf1 hk1
 go_wp2
 go_ret
 exact Qao.ok HY.out HM.out ⟨_,rfl,_,_,rfl,HF1.out,HK1.out⟩ HC.out
end
section
open Go.RowKit
attribute [local go_sem ↓] Go.wp_at_zero Go.wp_at_succ
theorem QaR {b:Nat} {w w':World} (h:Mod b w.drew w'):Mod b w w':=⟨h.os,h.tape,h.output,h.size,h.block⟩
theorem Qfe {w w1:World} {b:Nat} (hw:List UInt8) (hp:Nat) (hm:Mod b (w.alloc (.cells #[.string (Qag hw),.int .i64 hp] 200)) w1) (hb:b < w.heap.size) :
 w1.cell? ⟨w.heap.size,0,none⟩=some (.string (Qag hw))∧w1.cell? ⟨w.heap.size,1,none⟩=some (.int .i64 hp):=by
 have h:=QaP (g:=w.heap.size) (QaB w (.cells #[.string (Qag hw),.int .i64 hp] 200)) hm (by omega)
 exact ⟨Qab h 0,Qab h 1⟩
theorem QpL (hw:List UInt8) (hp:Nat) (d:Int) (b F:Nat) (t:ByteArray) (s:PS) (rv:Value) (mc mt:Nat) (w:World) (h:RC w b t s rv mc mt) (hF:2*t.size+1 < F) :
 Calls Tryz.prog 119 #[.pointer (some ⟨b,0,none⟩),Qco hw hp,.int .i64 d] w (Qao (stringsL t.data.toList (fun _=>0) F s) b t rv mc mt w (fun xs w' v=>∃ u,v=.iface 285 (.agg #[.string (Qag hw),.int .i64 hp,u])∧slB w.heap.size xs w' u)):=by
 have H:=Qaa h
 have hlt:=h.at_.lt
 clear h
 unfold Qco
 go_enter Tryz.func119,Tryz.ntmps119
 go_wp2_with fail
 go_region_with (first | (go_at_call 170;refine (Qd5 _ (fun _=>0) b F t s rv mc mt _ ((H.out.alloc _).drew) (QfF _ _ _ _ _ _) (H.out.mu_lt hF)).mono ?_;intro e w1 h1;rcases h1.cases with ⟨y,v,hy,rfl,hs1,hc,hm⟩ | ⟨f,hf,⟨bb,hz,rfl,hcc⟩,hm⟩;rotate_left;exact ⟨rfl,Qao.err hf (((Mod.refl b w).alloc _).trans (QaR hm)) ⟨bb,by simp at hz;omega,rfl,hcc⟩⟩;obtain ⟨hh0,hh1⟩:=Qfe hw hp (QaR hm) hlt;have HY:=Qaa hy;have HC:=Qaa hc;have HM:=Qaa (((Mod.refl b w).alloc (.cells #[.string (Qag hw),.int .i64 hp] 200)).trans (QaR hm));have HS:=Qaa (hs1.weak (B':=w.heap.size) (by simp));obtain ⟨g1,n1,c1,rfl⟩:=hs1.form;clear h1 hy hc hm hs1;skip))
 all_goals go_wp2
 all_goals go_ret
 all_goals exact Qao.ok HY.out HM.out ⟨_,rfl,HS.out⟩ HC.out
end
section
open Go.RowKit
attribute [local go_sem ↓] Go.wp_at_zero Go.wp_at_succ
def AbvX (X:Nat→Prop) (w w':World):Prop:=∀ k,X k→k < w.heap.size→w'.heap[k]?=w.heap[k]?
def fromB (B:Nat) (k:Nat):Prop:=B≤k
theorem Mod.abvX {b:Nat} {w w':World} (h:Mod b w w') {X:Nat→Prop} (hX:¬ X b):AbvX X w w':=fun k hk hz=>h.block k hz (fun e=>hX (e ▸ hk))
theorem AbvX.set {X:Nat→Prop} {g:Nat} {w:World} (hX:¬ X g) (o:Nat) (v:Value):AbvX X w (w.setCell ⟨g,o,none⟩ v):=fun k hk _=>Below.heap_setCell _ _ _ _ (fun e=>hX (by have e':k=g:=e;rw [← e'];exact hk))
def QeA {α:Type} (fn:Nat) (w:World) (b:Nat) (t:ByteArray) (rv:Value) (mc mt:Nat) (d:Int) (sub:PS→Except Flt (α×PS)) (P:(Nat→Prop)→α→World→Value→Prop):Prop:=
 ∀ (W:World) (s:PS),Mod b w W→RC W b t s rv mc mt→Calls Tryz.prog fn #[.pointer (some ⟨b,0,none⟩),.int .i64 d] W (Qao (sub s) b t rv mc mt W (P (fromB W.heap.size)))
theorem QeA.mod {α:Type} {fn:Nat} {w w':World} {b:Nat} {t:ByteArray} {rv:Value} {mc mt:Nat} {d:Int} {sub:PS→Except Flt (α×PS)} {P:(Nat→Prop)→α→World→Value→Prop} (h:QeA fn w b t rv mc mt d sub P) (hm:Mod b w w'):QeA fn w' b t rv mc mt d sub P:=
 fun W s hW hr=>h W s (hm.trans hW) hr
structure TreeP {α:Type} (P:(Nat→Prop)→α→World→Value→Prop):Prop where
 form:∀ X a w v,P X a w v→∃ ty x,v=.iface ty x
 keep:∀ X a w w' v,P X a w v→AbvX X w w'→P X a w' v
 weak:∀ X Y a w v,P X a w v→(∀ k,X k→k < w.heap.size→Y k)→P Y a w v
theorem QoL (d:Int) (h0:0≤d) (h1:d≤100):IntKind.i64.wrap (d+1)=d+1:=by
 rw [IntKind.wrap_i64]
 omega
theorem QtC {α:Type} (sub:PS→Except Flt (α×PS)) (P:(Nat→Prop)→α→World→Value→Prop) (hw:List UInt8) (hp:Nat) (d:Int) (b:Nat) (t:ByteArray) (s:PS) (rv:Value) (mc mt:Nat) (w:World) (h:RC w b t s rv mc mt) (hd0:0≤d) (hd1:d≤100) (hP:TreeP P) (ho:QeA 168 w b t rv mc mt (d+1) sub P) :
 Calls Tryz.prog 108 #[.pointer (some ⟨b,0,none⟩),Qco hw hp,.int .i64 d] w (Qao (sub s) b t rv mc mt w (fun a w' v=>∃ u,v=.iface 281 (.agg #[.string (Qag hw),.int .i64 hp,u])∧P (fromB w.heap.size) a w' u)):=by
 have H:=Qaa h
 have HO:=Qaa ho
 have HP:=Qaa hP
 have hlt:=h.at_.lt
 have hwr:=QoL d hd0 hd1
 clear h ho hP
 unfold Qco
 go_enter Tryz.func108,Tryz.ntmps108
 go_wp2_with fail
 go_region_with (first | (go_at_call 168;refine (HO.out _ s (((Mod.refl b w).alloc _).drew) ((H.out.alloc _).drew)).mono ?_;intro e w1 h1;rcases h1.cases with ⟨y,v,hy,rfl,hv,hc,hm⟩ | ⟨f,hf,⟨bb,hz,rfl,hcc⟩,hm⟩;rotate_left;exact ⟨rfl,Qao.err hf (((Mod.refl b w).alloc _).trans (QaR hm)) ⟨bb,by simp at hz;omega,rfl,hcc⟩⟩;obtain ⟨hh0,hh1⟩:=Qfe hw hp (QaR hm) hlt;have HY:=Qaa hy;have HC:=Qaa hc;have HM:=Qaa (((Mod.refl b w).alloc (.cells #[.string (Qag hw),.int .i64 hp] 200)).trans (QaR hm));have HV:=Qaa (HP.out.weak _ (fromB w.heap.size) _ _ _ hv (fun k hk _=>Nat.le_trans (by simp) hk));obtain ⟨ty,x,rfl⟩:=HP.out.form _ _ _ _ hv;clear h1 hy hc hm hv;skip))
 all_goals go_wp2
 all_goals go_ret
 all_goals exact Qao.ok HY.out HM.out ⟨_,rfl,HV.out⟩ HC.out
def trX {α:Type} (X:Nat→Prop) (P:(Nat→Prop)→α→World→Value→Prop) (xs:List α) (w:World) (v:Value):Prop:=
 ∃ g c,v=.slice (some ⟨g,0,none⟩) xs.length c∧X g∧∀ j (hj:j < xs.length),∃ u,w.cell? ⟨g,j,none⟩=some u∧P X xs[j] w u
theorem trX.keep {α:Type} {X:Nat→Prop} {P:(Nat→Prop)→α→World→Value→Prop} (hP:TreeP P) {xs:List α} {w w':World} {v:Value} (h:trX X P xs w v) (hm:AbvX X w w'):trX X P xs w' v:=by
 obtain ⟨g,c,hv,hg,hx⟩:=h
 refine ⟨g,c,hv,hg,fun j hj=>?_⟩
 obtain ⟨u,hu,hp⟩:=hx j hj
 refine ⟨u,?_,hP.keep _ _ _ _ _ hp hm⟩
 rw [World.cell?_of_block (w:=w) (a:=⟨g,j,none⟩) (hm g hg (Qay hu))]
 exact hu
theorem trX.weak {α:Type} {X Y:Nat→Prop} {P:(Nat→Prop)→α→World→Value→Prop} (hP:TreeP P) {xs:List α} {w:World} {v:Value} (hne:xs≠[]) (h:trX X P xs w v) (hB:∀ k,X k→k < w.heap.size→Y k):trX Y P xs w v:=by
 obtain ⟨g,c,hv,hg,hx⟩:=h
 refine ⟨g,c,hv,?_,fun j hj=>?_⟩
 ·obtain ⟨u,hu,_⟩:=hx 0 (List.length_pos_iff.2 hne)
  exact hB g hg (Qay hu)
 ·obtain ⟨u,hu,hp⟩:=hx j hj
  exact ⟨u,hu,hP.weak _ _ _ _ _ hp hB⟩
theorem trX.form {α:Type} {X:Nat→Prop} {P:(Nat→Prop)→α→World→Value→Prop} {xs:List α} {w:World} {v:Value} (h:trX X P xs w v):∃ g n c,v=.slice (some ⟨g,0,none⟩) n c:=by
 obtain ⟨g,c,hv,_⟩:=h;exact ⟨g,_,c,hv⟩
def Qi6 {α:Type} (P:α→Value→Prop):List α→List Value→Prop
 | [],[]=>True
 | a :: xs,v :: vs=>P a v∧Qi6 P xs vs
 | _,_=>False
theorem Qi6.imp {α:Type} {P Q:α→Value→Prop} (h:∀ a v,P a v→Q a v):∀ {xs:List α} {vs:List Value},Qi6 P xs vs→Qi6 Q xs vs
 | [],[],_=>trivial
 | a :: xs,v :: vs,hr=>⟨h _ _ hr.1,Qi6.imp h hr.2⟩
 | [],_ :: _,hr=>hr.elim
 | _ :: _,[],hr=>hr.elim
theorem Qi6.snoc {α:Type} {P:α→Value→Prop} {a:α} {v:Value} (h:P a v):∀ {xs:List α} {vs:List Value},Qi6 P xs vs→Qi6 P (xs++[a]) (vs++[v])
 | [],[],_=>⟨h,trivial⟩
 | a' :: xs,v' :: vs,hr=>⟨hr.1,Qi6.snoc h hr.2⟩
 | [],_ :: _,hr=>hr.elim
 | _ :: _,[],hr=>hr.elim
theorem Qi6.at {α:Type} {P:α→Value→Prop}:∀ {xs:List α} {vs:List Value},Qi6 P xs vs→∀ j (hj:j < xs.length),∃ u,vs[j]?=some u∧P xs[j] u
 | [],[],_,j,hj=>absurd hj (Nat.not_lt_zero _)
 | a :: xs,v :: vs,h,0,_=>⟨v,rfl,h.1⟩
 | a :: xs,v :: vs,h,j+1,hj=>by
  obtain ⟨u,h1,h2⟩:=Qi6.at h.2 j (by simpa using hj)
  exact ⟨u,by simpa using h1,by simpa using h2⟩
 | [],_ :: _,h,_,_=>h.elim
 | _ :: _,[],h,_,_=>h.elim
def Qga {α:Type} (P:(Nat→Prop)→α→World→Value→Prop) (base:Nat) (w:World) (v:Value) (a:α) (u:Value):Prop:=
 ∃ X,P X a w u∧(∀ k,X k→base≤k∧k < w.heap.size)∧∀ g,v.ownBlock=some g→¬ X g
theorem Qga.mod {α:Type} {P:(Nat→Prop)→α→World→Value→Prop} (hP:TreeP P) {base b:Nat} {w w':World} {v:Value} {a:α} {u:Value} (h:Qga P base w v a u) (hm:Mod b w w') (hb:b < base):Qga P base w' v a u:=by
 obtain ⟨X,h1,h2,h3⟩:=h
 exact ⟨X,hP.keep _ _ _ _ _ h1 (hm.abvX (fun e=>by have:=(h2 b e).1;omega)),fun k hk=>⟨(h2 k hk).1,Nat.lt_of_lt_of_le (h2 k hk).2 hm.size⟩,h3⟩
theorem Qga.grown {α:Type} {P:(Nat→Prop)→α→World→Value→Prop} (hP:TreeP P) {base:Nat} {w w':World} {v v':Value} {a:α} {u:Value} {o:Obj} (h:Qga P base w v a u) (hg:(w.alloc o).grownBy w' v.ownBlock) (hv:v'.ownBlock=v.ownBlock∨v'.ownBlock=some (w.heap.size+1)):Qga P base w' v' a u:=by
 obtain ⟨X,h1,h2,h3⟩:=h
 have hA:AbvX X w w':=fun k hk hz=>by
  rw [hg.block k (by simp;omega) (fun e=>h3 k e.symm hk)]
  exact Below.heap_alloc _ _ _ hz
 refine ⟨X,hP.keep _ _ _ _ _ h1 hA,fun k hk=>⟨(h2 k hk).1,?_⟩,fun g hgb hX=>?_⟩
 ·have:=(h2 k hk).2;have:=hg.size;simp at this;omega
 ·rcases hv with hv | hv
  ·exact h3 g (hv ▸ hgb) hX
  ·rw [hv] at hgb
   have:=(h2 g hX).2
   simp at hgb
   omega
theorem Qga.new {α:Type} {P:(Nat→Prop)→α→World→Value→Prop} (hP:TreeP P) {base B:Nat} {w:World} {v:Value} {a:α} {u:Value} (h:P (fromB B) a w u) (hB:base≤B) (hv:∀ g,v.ownBlock=some g→g < B):Qga P base w v a u:=
 ⟨fun k=>B≤k∧k < w.heap.size,hP.weak _ _ _ _ _ h (fun k hk hz=>⟨hk,hz⟩),fun k hk=>⟨Nat.le_trans hB hk.1,hk.2⟩,fun g hg hX=>by have:=hv g hg;omega⟩
theorem trX.of_owns {α:Type} {P:(Nat→Prop)→α→World→Value→Prop} (hP:TreeP P) {w:World} {base n:Nat} {e:TypeId} {v:Value} {xs:List α} {vs:List Value} (h:w.ownsRow base e 1 v n vs) (hn:n=xs.length) (hx:xs≠[]) (hr:Qi6 (fun a u=>Qga P base w v a u) xs vs):trX (fromB base) P xs w v:=by
 subst hn
 have hc:=fun g (hg:v.ownBlock=some g)=>h.cells hg
 obtain ⟨h1,h2⟩:=h
 rcases h2 with ⟨_,h3⟩ | ⟨g,cap,cur,hv,hg,r⟩
 ·exact absurd (List.eq_nil_of_length_eq_zero h3) hx
 ·refine ⟨g,cap,hv,hg,fun j hj=>?_⟩
  obtain ⟨u,hu,X,hp,hX,_⟩:=hr.at j hj
  have:=hc g (by rw [hv];rfl) j u hu
  rw [QcM] at this
  exact ⟨u,this,hP.weak _ _ _ _ _ hp (fun k hk _=>(hX k hk).1)⟩
end
section
open Go.RowKit
theorem Tryz.infoTest:(Tryz.prog.info? 202).map (fun i=>(i.zero,i.size,i.bytes))=some (some .nilIface,1,16):=by kernel_rfl
theorem Qgo {α:Type} {l:List UInt8} {sub:PS→Except Flt (α×PS)} {f:Nat} {acc:List α} {s:PS} {e:Flt} (h:passL l [[44],[41]] s=.error e):groupMore l sub (f+1) acc s=.error e:=by rw [groupMore];exact Qae h
theorem Qkc {α:Type} {l:List UInt8} {sub:PS→Except Flt (α×PS)} {f:Nat} {acc:List α} {s:PS} {y:Nat×PS} (h:passL l [[44],[41]] s=.ok y) (h1:¬ y.1=1):groupMore l sub (f+1) acc s=.ok (acc,y.2):=by rw [groupMore,Qac h,if_neg h1]
theorem Qg3 {α:Type} {l:List UInt8} {sub:PS→Except Flt (α×PS)} {f:Nat} {acc:List α} {s:PS} {y:Nat×PS} {e:Flt} (h:passL l [[44],[41]] s=.ok y) (h1:y.1=1) (h2:sub y.2=.error e):groupMore l sub (f+1) acc s=.error e:=by rw [groupMore,Qac h,if_pos h1];exact Qae h2
theorem Qma {α:Type} {l:List UInt8} {sub:PS→Except Flt (α×PS)} {f:Nat} {acc:List α} {s:PS} {y:Nat×PS} {z:α×PS} (h:passL l [[44],[41]] s=.ok y) (h1:y.1=1) (h2:sub y.2=.ok z):groupMore l sub (f+1) acc s=groupMore l sub f (acc++[z.1]) z.2:=by rw [groupMore,Qac h,if_pos h1];exact Qac h2
theorem QrL:∀ z∈([[44],[41]]:List (List UInt8)),z≠[]:=by decide
def SubMu {α:Type} (n:Nat) (sub:PS→Except Flt (α×PS)):Prop:=∀ s y,s.2≤n→(s.1.kind=0→s.1.spelt=[])→sub s=.ok y→mu n y.2 < mu n s
theorem Qlz {α:Type} (sub:PS→Except Flt (α×PS)) (P:(Nat→Prop)→α→World→Value→Prop) (hw:List UInt8) (hp:Nat) (d:Int) (b F:Nat) (t:ByteArray) (s:PS) (rv:Value) (mc mt:Nat) (w:World) (h:RC w b t s rv mc mt) (hF:2*t.size+1 < F) (hd0:0≤d) (hd1:d≤100) (hP:TreeP P) (hS:SubMu t.size sub) (ho:QeA 168 w b t rv mc mt (d+1) sub P) :
 Calls Tryz.prog 110 #[.pointer (some ⟨b,0,none⟩),Qco hw hp,.int .i64 d] w (Qao (QcS t.data.toList F sub s) b t rv mc mt w (fun xs w' v=>∃ u,v=.agg #[.string (Qag hw),.int .i64 hp,u]∧trX (fromB w.heap.size) P xs w' u∧xs≠[])):=by
 have H:=Qaa h
 have HO:=Qaa ho
 have HP:=Qaa hP
 have HSM:=Qaa hS
 have hlt:=h.at_.lt
 clear h ho hP hS
 unfold Qco
 obtain ⟨i0,hi,hz0,hz1,hz2⟩:=info_parts Tryz.infoTest
 go_enter Tryz.func110,Tryz.ntmps110
 go_wp2_with fail
 obtain ⟨V,hV⟩:∃ V,V=(w.alloc (.cells #[.string (Qag hw),.int .i64 hp] 200)).alloc (.cells #[.string ⟨#[]⟩,.int .i64 0,.slice none 0 0] 205):=⟨_,rfl⟩
 have HRV:Hid (RC V b t s rv mc mt):=by rw [hV];exact (H.out.alloc _).alloc _
 have HMV:Hid (Mod b w V):=by rw [hV];exact ((Mod.refl b w).alloc _).alloc _
 have HVH:Hid (V.heap[w.heap.size]?=some (.cells #[.string (Qag hw),.int .i64 hp] 200)):=by rw [hV];exact Qad (QaB _ _)
 have HVR:Hid (V.heap[w.heap.size+1]?=some (.cells #[.string ⟨#[]⟩,.int .i64 0,.slice none 0 0] 205)):=by rw [hV];exact Qaw (by simp)
 have hzV:V.heap.size=w.heap.size+1+1:=by rw [hV];simp
 have hp1:=Qaa (QcO b V.heap.size 1 1 [[40]] t s rv mc mt _ (HRV.out.alloc (.cells (QaV [[40]]).toArray 9)) (QbN V [[40]] _ _ rfl) rfl (by decide))
 rw [hV] at hp1
 rw [show ((w.alloc (.cells #[.string (Qag hw),.int .i64 hp] 200)).alloc (.cells #[.string ⟨#[]⟩,.int .i64 0,.slice none 0 0] 205)).heap.size=w.heap.size+1+1 from by simp] at hp1
 refine hp1.out.mono ?_
 rw [← hV]
 intro e w1 h1
 rcases h1.cases with ⟨y,v,hy,rfl,hv,hc,hm⟩ | ⟨f,hf,⟨bb,hz,rfl,hcc⟩,hm⟩
 rotate_left
 ·exact ⟨rfl,Qao.err (Qae hf) ((HMV.out.alloc _).trans hm) ⟨bb,by simp at hz;omega,rfl,hcc⟩⟩
 unfold Qi7 at hv
 subst hv
 have HY:=Qaa hy
 have HC:=Qaa hc
 have HM1:=Qaa ((HMV.out.alloc (.cells (QaV [[40]]).toArray 9)).trans hm)
 have HH1:=Qaa (QaP (Qad HVH.out) hm (by omega))
 have HR1:=Qaa (QaP (Qad HVR.out) hm (by omega))
 clear h1 hy hc hm hV hp1
 go_wp2_with fail
 refine (HO.out _ y.2 HM1.out HC.out).mono ?_
 intro e w2 h2
 rcases h2.cases with ⟨z,v,hy2,rfl,hv,hc,hm⟩ | ⟨f,hf,⟨bb,hz,rfl,hcc⟩,hm⟩
 rotate_left
 ·exact ⟨rfl,Qao.err ((Qac HY.out).trans (Qae hf)) (HM1.out.trans hm) ⟨bb,Nat.le_trans HM1.out.size hz,rfl,hcc⟩⟩
 have hz1':w.heap.size+1 < w1.heap.size:=QaM HR1.out
 have HV2:=Qaa hv
 obtain ⟨ty,x,rfl⟩:=HP.out.form _ _ _ _ hv
 have HY2:=Qaa hy2
 have HC2:=Qaa hc
 have HM2:=Qaa (HM1.out.trans hm)
 have HH2:=Qaa (QaP HH1.out hm (by omega))
 have HR2:=Qaa (QaP HR1.out hm (by omega))
 have hwz:w.heap.size+1 < w2.heap.size:=QaM HR2.out
 have hmuL:=HC2.out.mu_le
 have hmuF:=HC2.out.mu_lt hF
 clear h2 hy2 hc hm hv
 go_wp2_with fail
 go_loopw [7] (fun v wr=>∃ (s':PS) (acc:List α) (vs:List Value) (f:Nat),wr.ownsRow (w.heap.size+1+1) 202 1 v acc.length vs∧Qi6 (fun a u=>Qga P (w.heap.size+1+1) wr v a u) acc vs∧acc≠[]∧RC wr b t s' rv mc mt∧Mod b w wr∧wr.heap[w.heap.size]?=some (.cells #[.string (Qag hw),.int .i64 hp] 200)∧wr.heap[w.heap.size+1]?=some (.cells #[.string ⟨#[]⟩,.int .i64 0,.slice none 0 0] 205)∧mu t.size s' < f∧acc.length+mu t.size s'≤1300∧QcS t.data.toList F sub s=groupMore t.data.toList sub f acc s') (fun _ wr=>muW wr b t.size)
 case atStart=>
  have hA:Mod b w2 (w2.alloc (.cells #[.iface ty x] 202)):=(Mod.refl b w2).alloc _
  have hG:Qga P (w.heap.size+1+1) w2 (.slice (some ⟨w2.heap.size,0,none⟩) 1 1) z.1 (.iface ty x):=⟨fun k=>w1.heap.size≤k∧k < w2.heap.size,HP.out.weak _ _ _ _ _ HV2.out (fun k hk hz=>⟨hk,hz⟩),fun k hk=>⟨by omega,hk.2⟩,fun g hg hX=>by
   have:w2.heap.size=g:=by simpa [Value.ownBlock] using hg
   omega⟩
  refine ⟨z.2,[z.1],[.iface ty x],F,?_,⟨hG.mod HP.out hA (by omega),trivial⟩,by simp,HC2.out.alloc _,HM2.out.alloc _,Qad HH2.out,Qad HR2.out,hmuF,by simp;omega,(Qac HY.out).trans (Qac HY2.out)⟩
  exact World.ownsRow_lit (e:=202) (size:=1) w2 #[.iface ty x] 1 hwz (by unfold maxLen;omega) rfl
 case round=>
  obtain ⟨s',acc,vs,f,hown,hrow,hne,hrc,hmod,hbh,hbr,hf,hbd,hsp⟩:=hrel
  obtain ⟨f,rfl⟩:∃ g,f=g+1:=⟨f - 1,by omega⟩
  have HR:=Qaa hrc
  have HMr:=Qaa hmod
  have HSP:=Qaa hsp
  have HOW:=Qaa hown
  have HRW:=Qaa hrow
  have HBH:=Qaa hbh
  have HBR:=Qaa hbr
  have hwr:w.heap.size+1 < wr.heap.size:=QaM hbr
  clear hrc hmod hsp hown hrow hbh hbr HC HC2 HY HY2 hmuL hmuF
  go_wp2_with fail
  refine (QcO b wr.heap.size 2 2 [[44],[41]] t s' rv mc mt _ (HR.out.alloc _) (QbN wr [[44],[41]] _ _ rfl) rfl (by decide)).mono ?_
  intro e w3 h3
  rcases h3.cases with ⟨y3,v3,hy3,rfl,hv3,hc3,hm3⟩ | ⟨f3,hf3,⟨bb,hz,rfl,hcc⟩,hm3⟩
  rotate_left
  ·exact ⟨rfl,Qao.err (HSP.out.trans (Qgo hf3)) ((HMr.out.alloc _).trans hm3) ⟨bb,by simp at hz;omega,rfl,hcc⟩⟩
  have hmu3:=Qg7 (l:=t.data.toList) (by simpa using HR.out.le) HR.out.e0 QrL hy3
  rw [bal] at hmu3
  replace hmu3:=hmu3.1
  have hA3:=((Mod.refl b wr).alloc (.cells #[.string ⟨#[44]⟩,.string ⟨#[41]⟩] 9)).trans hm3
  have HM3:=Qaa (HMr.out.trans hA3)
  have HY3:=Qaa hy3
  have HC3:=Qaa hc3
  have HO3:=Qaa (Qbj (b:=b) HOW.out hA3 (by omega))
  have HW3:=Qaa (HRW.out.imp (fun a u hu=>Qga.mod HP.out (b:=b) (w':=w3) hu hA3 (by omega)))
  have HH3:=Qaa (QaP HBH.out hA3 (by omega))
  have HR3:=Qaa (QaP HBR.out hA3 (by omega))
  unfold Qi7 at hv3
  subst hv3
  clear h3 hy3 hc3 hm3 hA3
  by_cases h1:y3.1=1
  rotate_left
  ·have h1':((y3.1:Int) == 1)=false:=by simp;omega
   have H1:=Qaa h1
   have HT:=Qaa (trX.of_owns HP.out HO3.out rfl hne HW3.out)
   obtain ⟨gg,nn,cc,rfl⟩:=HT.out.form
   have k0:w3.cell? ⟨w.heap.size,0,none⟩=some (.string (Qag hw)):=Qab HH3.out 0
   have k1:w3.cell? ⟨w.heap.size,1,none⟩=some (.int .i64 hp):=Qab HH3.out 1
   have r0:w3.cell? ⟨w.heap.size+1,0,none⟩=some (.string ⟨#[]⟩):=Qab HR3.out 0
   have r1:w3.cell? ⟨w.heap.size+1,1,none⟩=some (.int .i64 0):=Qab HR3.out 1
   have r2:w3.cell? ⟨w.heap.size+1,2,none⟩=some (.slice none 0 0):=Qab HR3.out 2
   have rf:=Qam HR3.out
   clear h1
   go_wp2
   have hb1:b < w.heap.size+1:=by omega
   have hw1:w.heap.size≤w.heap.size+1:=by omega
   have hq:¬ fromB (w.heap.size+1+1) (w.heap.size+1):=by unfold fromB;omega
   have hwk:∀ k,fromB (w.heap.size+1+1) k→fromB w.heap.size k:=fun k hk=>by unfold fromB at *;omega
   refine bodyPost_ret (v:=.agg #[.string (Qag hw),.int .i64 hp,.slice (some ⟨gg,0,none⟩) nn cc]) (by simp [results,Tryz.results110,go_sem,r0,r1,r2]) rfl (Qao.ok (HSP.out.trans (Qkc HY3.out H1.out)) (((HM3.out.setNew hw1 _ _).setNew hw1 _ _).setNew hw1 _ _) ⟨_,rfl,?_,hne⟩ (((HC3.out.setNew hb1 _ _).setNew hb1 _ _).setNew hb1 _ _))
   exact trX.weak HP.out hne (((HT.out.keep HP.out (AbvX.set hq _ _)).keep HP.out (AbvX.set hq _ _)).keep HP.out (AbvX.set hq _ _)) (fun k hk _=>hwk k hk)
  have h1':((y3.1:Int) == 1)=true:=by simp;omega
  have H1:=Qaa h1
  clear h1
  go_wp2_with fail
  refine (HO.out _ y3.2 HM3.out HC3.out).mono ?_
  intro e w4 h4
  rcases h4.cases with ⟨z4,v4,hy4,rfl,hv4,hc4,hm4⟩ | ⟨f4,hf4,⟨bb,hz,rfl,hcc⟩,hm4⟩
  rotate_left
  ·exact ⟨rfl,Qao.err (HSP.out.trans (Qg3 HY3.out H1.out hf4)) (HM3.out.trans hm4) ⟨bb,Nat.le_trans HM3.out.size hz,rfl,hcc⟩⟩
  have hmu4:=HSM.out y3.2 z4 HC3.out.le HC3.out.e0 hy4
  have hz3:w.heap.size+1 < w3.heap.size:=QaM HR3.out
  have HV4:=Qaa hv4
  obtain ⟨ty4,x4,rfl⟩:=HP.out.form _ _ _ _ hv4
  have HM4:=Qaa (HM3.out.trans hm4)
  have HY4:=Qaa hy4
  have HC4:=Qaa hc4
  have hown4:=Qbj (b:=b) HO3.out hm4 (by omega)
  have HW4:=Qaa (HW3.out.imp (fun a u hu=>Qga.mod HP.out (b:=b) (w':=w4) hu hm4 (by omega)))
  have hlt3:=Qaa (fun k hk=>(HO3.out.lt k hk).2)
  have HG4:=Qaa (Qga.new HP.out (base:=w.heap.size+1+1) HV4.out (by omega) hlt3.out)
  have HH4:=Qaa (QaP HH3.out hm4 (by omega))
  have HR4:=Qaa (QaP HR3.out hm4 (by omega))
  have hz4:w.heap.size+1 < w4.heap.size:=QaM HR4.out
  clear h4 hy4 hc4 hm4 hv4
  go_wp2_with (at_builtin;refine wpList_append_own_at _ rfl _ _ 203 rfl (w.heap.size+1+1) 202 i0 .nilIface 1 16 Tryz.underlying203 hi hz0 hz1 hz2 rfl (by decide) _ _ _ rfl (hown4.alloc _) ⟨w4.heap.size,0,none⟩ 1 1 [.iface ty4 x4] rfl rfl ?c1 ?c2 ?c3 ?c4 ?c5 ?_)
  case c1=>
   intro j u hj
   match j,hj with
   | 0,hj=>simp at hj;subst hj;simp [Addr.add]
  case c2=>intro u hu;simp at hu;subst hu;rfl
  case c3=>unfold maxLen;omega
  case c4=>omega
  case c5=>simp;omega
  ·intro v' w5 hown5 hgrow _ hat
   have hrow:∀ k,(u7).ownBlock=some k→w.heap.size+1+1≤k:=fun k hk=>(hown4.lt k hk).1
   have HM5:=Qaa ((HM4.out.alloc (Obj.cells #[.iface ty4 x4] 202)).grown hgrow (fun k hk=>by have:=hrow k hk;omega))
   have HC5:=Qaa ((HC4.out.alloc (Obj.cells #[.iface ty4 x4] 202)).grown hgrow (fun k hk=>by have:=hrow k hk;omega))
   have HO5:=Qaa hown5
   have HR5:=Qaa (Qi6.snoc (P:=fun a u=>Qga P (w.heap.size+1+1) w5 v' a u) (HG4.out.grown HP.out hgrow hat) (HW4.out.imp (fun a u hu=>Qga.grown HP.out hu hgrow hat)))
   have hk5:∀ k,k < w.heap.size+1+1→w5.heap[k]?=w4.heap[k]?:=fun k hk=>by
    rw [hgrow.block k (by simp;omega) (fun e=>by have:=hrow k e.symm;omega)]
    exact Below.heap_alloc _ _ _ (by omega)
   have HH5:=Qaa ((hk5 w.heap.size (by omega)).trans HH4.out)
   have HR6:=Qaa ((hk5 (w.heap.size+1) (by omega)).trans HR4.out)
   have hmw:muW w5 b t.size < muW wr b t.size:=by rw [HC5.out.muEq,HR.out.muEq];omega
   have HMW:=Qaa hmw
   clear hown5 hgrow hmw hown4 hrow hk5 hat
   go_wp2
   go_roundw
   case rel=>exact ⟨z4.2,acc++[z4.1],vs++[.iface ty4 x4],f,by simpa using HO5.out,HR5.out,by simp,HC5.out,HM5.out,HH5.out,HR6.out,by omega,by simp;omega,HSP.out.trans (Qma HY3.out H1.out HY4.out)⟩
   case measure=>exact HMW.out
end
end Go.Proofs.YtbiclelojbfnbabGreatDoor
