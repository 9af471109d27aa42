import Derived.BigRegion
import Derived.Test.YthkibedbcbgajaaGreatDoorZTests
namespace Go.Proofs.YthkibedbcbgajaaGreatDoor
set_option linter.unusedVariables false
set_option linter.unusedSimpArgs false
set_option maxRecDepth 100000
set_option maxHeartbeats 4000000
open Go.Proofs.Tryz
section
open Go.RowKit
attribute [local go_sem ↓] Go.wp_at_zero Go.wp_at_succ
theorem QaQ{b:Nat}{w w':World}(h:Mod b w.drew w'):Mod b w w':=⟨h.os,h.tape,h.output,h.size,h.block⟩
theorem Qe8{w w1:World}{b:Nat}(hw:L8)(hp:Nat)(hm:Mod b (w.alloc (.cells #[.string (sA hw),.int .i64 hp] 200)) w1)(hb:b<w.heap.size) :
 w1.cell? ⟨w.heap.size,0,none⟩=some (.string (sA hw))/\w1.cell? ⟨w.heap.size,1,none⟩=some (.int .i64 hp):=by
 have h:=QaI (g:=w.heap.size) (Qam w (.cells #[.string (sA hw),.int .i64 hp] 200)) hm (by omega);exact⟨Qaa h 0,Qaa h 1⟩
theorem QqU(hw:L8)(hp:Nat)(d:Int)(b F:Nat)(t:ByteArray)(s:PS)(rv:Value)(mc mt:Nat)(w:World)(h:RC w b t s rv mc mt)(hF:2*t.size+1<F) :
 Calls Tryz.prog 119 #[.pointer (some ⟨b,0,none⟩),Qcj hw hp,.int .i64 d] w (Qap (sLs t.data.toList (fun _=>0) F s) b t rv mc mt w (fun xs w' v=>∃ u,v=.iface 285 (.agg #[.string (sA hw),.int .i64 hp,u])/\slB w.heap.size xs w' u)):=by
 have H:=Qab h;have ab:=h.at_.lt;clear h;unfold Qcj;go_enter func119,ntmps119;go_wp2_with fail;go_region_with (first|(go_at_call 170;refine(Qef _ (fun _=>0) b F t s rv mc mt _ ((H.o.alloc _).drew) (Qgg _ _ _ _ _ _) (H.o.mu_lt hF)).mono ?_;intro e w1 h1;rcases h1.cases with⟨y,v,hy,rfl,aa,hc,hm⟩ | ⟨f,hf,⟨bb,hz,rfl,ac⟩,hm⟩;rotate_left;exact⟨rfl,Qap.err hf (((Mod.refl b w).alloc _).trans (QaQ hm)) ⟨bb,by simp at hz;omega,rfl,ac⟩⟩;obtain⟨hh0,hh1⟩:=Qe8 hw hp (QaQ hm) ab;have HY:=Qab hy;have HC:=Qab hc;have HM:=Qab (((Mod.refl b w).alloc (.cells #[.string (sA hw),.int .i64 hp] 200)).trans (QaQ hm));have HS:=Qab (aa.weak (B':=w.heap.size) (by simp));obtain⟨g1,n1,c1,rfl⟩:=aa.form;clear h1 hy hc hm aa;skip))
 all_goals go_wp2
 all_goals go_ret
 all_goals exact Qap.ok HY.o HM.o ⟨_,rfl,HS.o⟩ HC.o
def AbvX (X:Nat→Prop) (w w':World):Prop:=∀ k,X k→k < w.heap.size→w'.heap[k]?=w.heap[k]?
def fromB (B:Nat) (k:Nat):Prop:=B≤k
theorem Mod.abvX{b:Nat}{w w':World}(h:Mod b w w'){X:Nat->Prop}(hX:¬ X b):AbvX X w w':=fun k hk hz=>h.block k hz (fun e=>hX (e ▸ hk))
theorem AbvX.set{X:Nat->Prop}{g:Nat}{w:World}(hX:¬ X g)(o:Nat)(v:Value):AbvX X w (w.setCell ⟨g,o,none⟩ v):=fun k hk _=>Below.heap_setCell _ _ _ _ (fun e=>hX (by have e':k=g:=e;rw[<-e'];exact hk))
def Qey {α:Type} (fn:Nat) (w:World) (b:Nat) (t:ByteArray) (rv:Value) (mc mt:Nat) (d:Int) (sub:PS→Except Flt (α×PS)) (P:(Nat→Prop)→α→World→Value→Prop):Prop:=
 ∀ (W:World) (s:PS),Mod b w W→RC W b t s rv mc mt→Calls Tryz.prog fn #[.pointer (some ⟨b,0,none⟩),.int .i64 d] W (Qap (sub s) b t rv mc mt W (P (fromB W.heap.size)))
theorem Qey.mod{α:Type}{fn:Nat}{w w':World}{b:Nat}{t:ByteArray}{rv:Value}{mc mt:Nat}{d:Int}{sub:PS->Except Flt (α×PS)}{P:(Nat->Prop)->α->World->Value->Prop}(h:Qey fn w b t rv mc mt d sub P)(hm:Mod b w w'):Qey fn w' b t rv mc mt d sub P:=
 fun W s hW hr=>h W s (hm.trans hW) hr
structure TreeP {α:Type} (P:(Nat→Prop)→α→World→Value→Prop):Prop where
 form:∀ X a w v,P X a w v→∃ ty x,v=.iface ty x
 keep:∀ X a w w' v,P X a w v→AbvX X w w'→P X a w' v
 weak:∀ X Y a w v,P X a w v→(∀ k,X k→k < w.heap.size→Y k)→P Y a w v
theorem Qr1(d:Int)(h0:0<=d)(h1:d<=100):IntKind.i64.wrap (d+1)=d+1:=by
 rw[IntKind.wrap_i64];omega
theorem Qwv{α:Type}(aa:PS->Except Flt (α×PS))(P:(Nat->Prop)->α->World->Value->Prop)(hw:L8)(hp:Nat)(d:Int)(b:Nat)(t:ByteArray)(s:PS)(rv:Value)(mc mt:Nat)(w:World)(h:RC w b t s rv mc mt)(ab:0<=d)(ae:d<=100)(hP:TreeP P)(ho:Qey 168 w b t rv mc mt (d+1) aa P) :
 Calls Tryz.prog 108 #[.pointer (some ⟨b,0,none⟩),Qcj hw hp,.int .i64 d] w (Qap (aa s) b t rv mc mt w (fun a w' v=>∃ u,v=.iface 281 (.agg #[.string (sA hw),.int .i64 hp,u])/\P (fromB w.heap.size) a w' u)):=by
 have H:=Qab h;have HO:=Qab ho;have HP:=Qab hP;have ac:=h.at_.lt;have hwr:=Qr1 d ab ae;clear h ho hP;unfold Qcj;go_enter func108,ntmps108;go_wp2_with fail;go_region_with (first|(go_at_call 168;refine(HO.o _ s (((Mod.refl b w).alloc _).drew) ((H.o.alloc _).drew)).mono ?_;intro e w1 h1;rcases h1.cases with⟨y,v,hy,rfl,hv,hc,hm⟩ | ⟨f,hf,⟨bb,hz,rfl,ad⟩,hm⟩;rotate_left;exact⟨rfl,Qap.err hf (((Mod.refl b w).alloc _).trans (QaQ hm)) ⟨bb,by simp at hz;omega,rfl,ad⟩⟩;obtain⟨hh0,hh1⟩:=Qe8 hw hp (QaQ hm) ac;have HY:=Qab hy;have HC:=Qab hc;have HM:=Qab (((Mod.refl b w).alloc (.cells #[.string (sA hw),.int .i64 hp] 200)).trans (QaQ hm));have HV:=Qab (HP.o.weak _ (fromB w.heap.size) _ _ _ hv (fun k hk _=>Nat.le_trans (by simp) hk));obtain⟨ty,x,rfl⟩:=HP.o.form _ _ _ _ hv;clear h1 hy hc hm hv;skip))
 all_goals go_wp2
 all_goals go_ret
 all_goals exact Qap.ok HY.o HM.o ⟨_,rfl,HV.o⟩ HC.o
def trX {α:Type} (X:Nat→Prop) (P:(Nat→Prop)→α→World→Value→Prop) (xs:List α) (w:World) (v:Value):Prop:=
 ∃ g c,v=.slice (some ⟨g,0,none⟩) xs.length c∧X g∧∀ j (hj:j < xs.length),∃ u,w.cell? ⟨g,j,none⟩=some u∧P X xs[j] w u
theorem trX.keep{α:Type}{X:Nat->Prop}{P:(Nat->Prop)->α->World->Value->Prop}(hP:TreeP P){xs:List α}{w w':World}{v:Value}(h:trX X P xs w v)(hm:AbvX X w w'):trX X P xs w' v:=by
 obtain⟨g,c,hv,hg,hx⟩:=h;refine⟨g,c,hv,hg,fun j hj=>?_⟩;obtain⟨u,hu,hp⟩:=hx j hj;refine⟨u,?_,hP.keep _ _ _ _ _ hp hm⟩;rw[World.cell?_of_block (w:=w) (a:=⟨g,j,none⟩) (hm g hg (Qau hu))];exact hu
theorem trX.weak{α:Type}{X Y:Nat->Prop}{P:(Nat->Prop)->α->World->Value->Prop}(hP:TreeP P){xs:List α}{w:World}{v:Value}(aa:xs≠[])(h:trX X P xs w v)(hB:∀ k,X k->k<w.heap.size->Y k):trX Y P xs w v:=by
 obtain⟨g,c,hv,hg,hx⟩:=h;refine⟨g,c,hv,?_,fun j hj=>?_⟩
 ·obtain⟨u,hu,_⟩:=hx 0 (List.length_pos_iff.2 aa);exact hB g hg (Qau hu)
 ·obtain⟨u,hu,hp⟩:=hx j hj;exact⟨u,hu,hP.weak _ _ _ _ _ hp hB⟩
theorem trX.form{α:Type}{X:Nat->Prop}{P:(Nat->Prop)->α->World->Value->Prop}{xs:List α}{w:World}{v:Value}(h:trX X P xs w v):∃ g n c,v=.slice (some ⟨g,0,none⟩) n c:=by
 obtain⟨g,c,hv,_⟩:=h;exact⟨g,_,c,hv⟩
def Qkp {α:Type} (P:α→Value→Prop):List α→List Value→Prop
 | [],[]=>True
 | a :: xs,v :: vs=>P a v∧Qkp P xs vs
 | _,_=>False
theorem Qkp.imp{α:Type}{P Q:α->Value->Prop}(h:∀ a v,P a v->Q a v):∀ {xs:List α} {vs:List Value},Qkp P xs vs->Qkp Q xs vs
 | [],[],_=>trivial
 |a::xs,v::vs,hr=>⟨h _ _ hr.1,Qkp.imp h hr.2⟩
 | [],_::_,hr=>hr.elim
 |_::_,[],hr=>hr.elim
theorem Qkp.snoc{α:Type}{P:α->Value->Prop}{a:α}{v:Value}(h:P a v):∀ {xs:List α} {vs:List Value},Qkp P xs vs->Qkp P (xs++[a]) (vs++[v])
 | [],[],_=>⟨h,trivial⟩
 |a'::xs,v'::vs,hr=>⟨hr.1,Qkp.snoc h hr.2⟩
 | [],_::_,hr=>hr.elim
 |_::_,[],hr=>hr.elim
theorem Qkp.at{α:Type}{P:α->Value->Prop}:∀ {xs:List α} {vs:List Value},Qkp P xs vs->∀ j (hj:j<xs.length),∃ u,vs[j]?=some u/\P xs[j] u
 | [],[],_,j,hj=>absurd hj (Nat.not_lt_zero _)
 |a::xs,v::vs,h,0,_=>⟨v,rfl,h.1⟩
 |a::xs,v::vs,h,j+1,hj=>by
  obtain⟨u,h1,h2⟩:=Qkp.at h.2 j (by simpa using hj);exact⟨u,by simpa using h1,by simpa using h2⟩
 | [],_::_,h,_,_=>h.elim
 |_::_,[],h,_,_=>h.elim
def QgG {α:Type} (P:(Nat→Prop)→α→World→Value→Prop) (base:Nat) (w:World) (v:Value) (a:α) (u:Value):Prop:=
 ∃ X,P X a w u∧(∀ k,X k→base≤k∧k < w.heap.size)∧∀ g,v.ownBlock=some g→¬ X g
theorem QgG.mod{α:Type}{P:(Nat->Prop)->α->World->Value->Prop}(hP:TreeP P){base b:Nat}{w w':World}{v:Value}{a:α}{u:Value}(h:QgG P base w v a u)(hm:Mod b w w')(hb:b<base):QgG P base w' v a u:=by
 obtain⟨X,h1,h2,h3⟩:=h;exact⟨X,hP.keep _ _ _ _ _ h1 (hm.abvX (fun e=>by have:=(h2 b e).1;omega)),fun k hk=>⟨(h2 k hk).1,Nat.lt_of_lt_of_le (h2 k hk).2 hm.size⟩,h3⟩
theorem QgG.grown{α:Type}{P:(Nat->Prop)->α->World->Value->Prop}(hP:TreeP P){base:Nat}{w w':World}{v v':Value}{a:α}{u:Value}{o:Obj}(h:QgG P base w v a u)(hg:(w.alloc o).grownBy w' v.ownBlock)(hv:v'.ownBlock=v.ownBlock\/v'.ownBlock=some (w.heap.size+1)):QgG P base w' v' a u:=by
 obtain⟨X,h1,h2,h3⟩:=h
 have hA:AbvX X w w':=fun k hk hz=>by
  rw[hg.block k (by simp;omega) (fun e=>h3 k e.symm hk)];exact Below.heap_alloc _ _ _ hz
 refine⟨X,hP.keep _ _ _ _ _ h1 hA,fun k hk=>⟨(h2 k hk).1,?_⟩,fun g hgb hX=>?_⟩
 ·have:=(h2 k hk).2;have:=hg.size;simp at this;omega
 ·rcases hv with hv|hv
  ·exact h3 g (hv ▸ hgb) hX
  ·rw[hv]at hgb;have:=(h2 g hX).2;simp at hgb;omega
theorem QgG.new{α:Type}{P:(Nat->Prop)->α->World->Value->Prop}(hP:TreeP P){base B:Nat}{w:World}{v:Value}{a:α}{u:Value}(h:P (fromB B) a w u)(hB:base<=B)(hv:∀ g,v.ownBlock=some g->g<B):QgG P base w v a u:=
 ⟨fun k=>B<=k/\k<w.heap.size,hP.weak _ _ _ _ _ h (fun k hk hz=>⟨hk,hz⟩),fun k hk=>⟨Nat.le_trans hB hk.1,hk.2⟩,fun g hg hX=>by have:=hv g hg;omega⟩
theorem trX.of_owns{α:Type}{P:(Nat->Prop)->α->World->Value->Prop}(hP:TreeP P){w:World}{base n:Nat}{e:TypeId}{v:Value}{xs:List α}{vs:List Value}(h:w.ownsRow base e 1 v n vs)(hn:n=xs.length)(hx:xs≠[])(hr:Qkp (fun a u=>QgG P base w v a u) xs vs):trX (fromB base) P xs w v:=by
 subst hn;have hc:=fun g (hg:v.ownBlock=some g)=>h.cells hg
 obtain⟨h1,h2⟩:=h;rcases h2 with⟨_,h3⟩ | ⟨g,aa,cur,hv,hg,r⟩
 ·exact absurd (List.eq_nil_of_length_eq_zero h3) hx
 ·refine⟨g,aa,hv,hg,fun j hj=>?_⟩;obtain⟨u,hu,X,hp,hX,_⟩:=hr.at j hj;have:=hc g (by rw[hv];rfl) j u hu;rw[Qbu]at this;exact⟨u,this,hP.weak _ _ _ _ _ hp (fun k hk _=>(hX k hk).1)⟩
end
section
open Go.RowKit
theorem Tryz.infoTest:(Tryz.prog.info? 202).map (fun i=>(i.zero,i.size,i.bytes))=some (some .nilIface,1,16):=by kernel_rfl
theorem Qha{α:Type}{l:L8}{ab:PS->Except Flt (α×PS)}{f:Nat}{aa:List α}{s:PS}{e:Flt}(h:paL l [[44],[41]] s=.error e):gMr l ab (f+1) aa s=.error e:=by rw[gMr];exact Qae h
theorem Qk1{α:Type}{l:L8}{ab:PS->Except Flt (α×PS)}{f:Nat}{aa:List α}{s:PS}{y:Nat×PS}(h:paL l [[44],[41]] s=.ok y)(h1:¬ y.1=1):gMr l ab (f+1) aa s=.ok (aa,y.2):=by rw[gMr,Qad h,if_neg h1]
theorem QhH{α:Type}{l:L8}{aa:PS->Except Flt (α×PS)}{f:Nat}{ab:List α}{s:PS}{y:Nat×PS}{e:Flt}(h:paL l [[44],[41]] s=.ok y)(h1:y.1=1)(h2:aa y.2=.error e):gMr l aa (f+1) ab s=.error e:=by rw[gMr,Qad h,if_pos h1];exact Qae h2
theorem QmQ{α:Type}{l:L8}{aa:PS->Except Flt (α×PS)}{f:Nat}{ab:List α}{s:PS}{y:Nat×PS}{z:α×PS}(h:paL l [[44],[41]] s=.ok y)(h1:y.1=1)(h2:aa y.2=.ok z):gMr l aa (f+1) ab s=gMr l aa f (ab++[z.1]) z.2:=by rw[gMr,Qad h,if_pos h1];exact Qad h2
theorem Qvb:∀ z∈([[44],[41]]:List (L8)),z≠[]:=by decide
def SubMu {α:Type} (n:Nat) (sub:PS→Except Flt (α×PS)):Prop:=∀ s y,s.2≤n→(s.1.kind=0→s.1.spelt=[])→sub s=.ok y→mu n y.2 < mu n s
theorem QmK{α:Type}(ak:PS->Except Flt (α×PS))(P:(Nat->Prop)->α->World->Value->Prop)(hw:L8)(hp:Nat)(d:Int)(b F:Nat)(t:ByteArray)(s:PS)(rv:Value)(mc mt:Nat)(w:World)(h:RC w b t s rv mc mt)(hF:2*t.size+1<F)(hd0:0<=d)(hd1:d<=100)(hP:TreeP P)(hS:SubMu t.size ak)(ho:Qey 168 w b t rv mc mt (d+1) ak P) :
 Calls Tryz.prog 110 #[.pointer (some ⟨b,0,none⟩),Qcj hw hp,.int .i64 d] w (Qap (QcQ t.data.toList F ak s) b t rv mc mt w (fun xs w' v=>∃ u,v=.agg #[.string (sA hw),.int .i64 hp,u]/\trX (fromB w.heap.size) P xs w' u/\xs≠[])):=by
 have H:=Qab h;have HO:=Qab ho;have HP:=Qab hP;have bt:=Qab hS;have hlt:=h.at_.lt;clear h ho hP hS;unfold Qcj;obtain⟨i0,hi,bs,bC,bn⟩:=info_parts Tryz.infoTest;go_enter func110,ntmps110;go_wp2_with fail;obtain⟨V,hV⟩:∃ V,V=(w.alloc (.cells #[.string (sA hw),.int .i64 hp] 200)).alloc (.cells #[.string ⟨#[]⟩,.int .i64 0,.slice none 0 0] 205):=⟨_,rfl⟩;have a6:Hid (RC V b t s rv mc mt):=by rw[hV];exact(H.o.alloc _).alloc _
 have a2:Hid (Mod b w V):=by rw[hV];exact((Mod.refl b w).alloc _).alloc _
 have bf:Hid (V.heap[w.heap.size]?=some (.cells #[.string (sA hw),.int .i64 hp] 200)):=by rw[hV];exact Qac (Qam _ _)
 have bm:Hid (V.heap[w.heap.size+1]?=some (.cells #[.string ⟨#[]⟩,.int .i64 0,.slice none 0 0] 205)):=by rw[hV];exact Qaq (by simp)
 have hzV:V.heap.size=w.heap.size+1+1:=by rw[hV];simp
 have au:=Qab (QcF b V.heap.size 1 1 [[40]] t s rv mc mt _ (a6.o.alloc (.cells (QaD [[40]]).toArray 9)) (QbB V [[40]] _ _ rfl) rfl (by decide));rw[hV]at au;rw[show((w.alloc (.cells #[.string (sA hw),.int .i64 hp] 200)).alloc (.cells #[.string ⟨#[]⟩,.int .i64 0,.slice none 0 0] 205)).heap.size=w.heap.size+1+1 from by simp]at au;refine au.o.mono ?_;rw[<-hV];intro e w1 h1;rcases h1.cases with⟨y,v,hy,rfl,hv,hc,hm⟩ | ⟨f,hf,⟨bb,hz,rfl,ah⟩,hm⟩
 rotate_left
 ·exact⟨rfl,Qap.err (Qae hf) ((a2.o.alloc _).trans hm) ⟨bb,by simp at hz;omega,rfl,ah⟩⟩
 unfold Qj9 at hv;subst hv;have HY:=Qab hy;have HC:=Qab hc;have av:=Qab ((a2.o.alloc (.cells (QaD [[40]]).toArray 9)).trans hm);have a8:=Qab (QaI (Qac bf.o) hm (by omega));have aV:=Qab (QaI (Qac bm.o) hm (by omega));clear h1 hy hc hm hV au;go_wp2_with fail;refine(HO.o _ y.2 av.o HC.o).mono ?_;intro e w2 h2;rcases h2.cases with⟨z,v,aS,rfl,hv,hc,hm⟩ | ⟨f,hf,⟨bb,hz,rfl,ah⟩,hm⟩
 rotate_left
 ·exact⟨rfl,Qap.err ((Qad HY.o).trans (Qae hf)) (av.o.trans hm) ⟨bb,Nat.le_trans av.o.size hz,rfl,ah⟩⟩
 have hz1':w.heap.size+1<w1.heap.size:=Qar aV.o;have HV2:=Qab hv;obtain⟨ty,x,rfl⟩:=HP.o.form _ _ _ _ hv;have aT:=Qab aS;have az:=Qab hc;have bp:=Qab (av.o.trans hm);have bD:=Qab (QaI a8.o hm (by omega));have a0:=Qab (QaI aV.o hm (by omega));have bA:w.heap.size+1<w2.heap.size:=Qar a0.o;have aI:=az.o.mu_le;have aq:=az.o.mu_lt hF;clear h2 aS hc hm hv;go_wp2_with fail
 go_loopw [7] (fun v wr=>∃(s':PS) (af:List α) (vs:List Value) (f:Nat),wr.ownsRow (w.heap.size+1+1) 202 1 v af.length vs/\Qkp (fun a u=>QgG P (w.heap.size+1+1) wr v a u) af vs/\af≠[]/\RC wr b t s' rv mc mt/\Mod b w wr/\wr.heap[w.heap.size]?=some (.cells #[.string (sA hw),.int .i64 hp] 200)/\wr.heap[w.heap.size+1]?=some (.cells #[.string ⟨#[]⟩,.int .i64 0,.slice none 0 0] 205)/\mu t.size s'<f/\af.length+mu t.size s'<=1300/\QcQ t.data.toList F ak s=gMr t.data.toList ak f af s') (fun _ wr=>muW wr b t.size)
 case atStart=>
  have hA:Mod b w2 (w2.alloc (.cells #[.iface ty x] 202)):=(Mod.refl b w2).alloc _
  have hG:QgG P (w.heap.size+1+1) w2 (.slice (some ⟨w2.heap.size,0,none⟩) 1 1) z.1 (.iface ty x):=⟨fun k=>w1.heap.size≤k∧k < w2.heap.size,HP.o.weak _ _ _ _ _ HV2.o (fun k hk hz=>⟨hk,hz⟩),fun k hk=>⟨by omega,hk.2⟩,fun g hg hX=>by
   have:w2.heap.size=g:=by simpa[Value.ownBlock]using hg
   omega⟩
  refine⟨z.2,[z.1],[.iface ty x],F,?_,⟨hG.mod HP.o hA (by omega),trivial⟩,by simp,az.o.alloc _,bp.o.alloc _,Qac bD.o,Qac a0.o,aq,by simp;omega,(Qad HY.o).trans (Qad aT.o)⟩;exact World.ownsRow_lit (e:=202) (size:=1) w2 #[.iface ty x] 1 bA (by unfold maxLen;omega) rfl
 case round=>
  obtain⟨s',af,vs,f,ap,ab,aH,aW,ao,aZ,aF,hf,hbd,aX⟩:=hrel;obtain⟨f,rfl⟩:∃ g,f=g+1:=⟨f - 1,by omega⟩;have HR:=Qab aW;have a3:=Qab ao;have aA:=Qab aX;have bh:=Qab ap;have bo:=Qab ab;have bz:=Qab aZ;have bi:=Qab aF;have hwr:w.heap.size+1<wr.heap.size:=Qar aF;clear aW ao aX ap ab aZ aF HC az HY aT aI aq;go_wp2_with fail;refine(QcF b wr.heap.size 2 2 [[44],[41]] t s' rv mc mt _ (HR.o.alloc _) (QbB wr [[44],[41]] _ _ rfl) rfl (by decide)).mono ?_;intro e w3 h3;rcases h3.cases with⟨y3,v3,aD,rfl,a4,aR,ay⟩ | ⟨f3,bd,⟨bb,hz,rfl,ah⟩,ay⟩
  rotate_left
  ·exact⟨rfl,Qap.err (aA.o.trans (Qha bd)) ((a3.o.alloc _).trans ay) ⟨bb,by simp at hz;omega,rfl,ah⟩⟩
  have ag:=QhQ (l:=t.data.toList) (by simpa using HR.o.le) HR.o.e0 Qvb aD;rw[bal]at ag;replace ag:=ag.1;have aj:=((Mod.refl b wr).alloc (.cells #[.string ⟨#[44]⟩,.string ⟨#[41]⟩] 9)).trans ay;have ar:=Qab (a3.o.trans aj);have aO:=Qab aD;have ax:=Qab aR;have aM:=Qab (Qbe (b:=b) bh.o aj (by omega));have aU:=Qab (bo.o.imp (fun a u hu=>QgG.mod HP.o (b:=b) (w':=w3) hu aj (by omega)));have aB:=Qab (QaI bz.o aj (by omega));have ai:=Qab (QaI bi.o aj (by omega));unfold Qj9 at a4;subst a4;clear h3 aD aR ay aj;by_cases h1:y3.1=1;rotate_left
  ·have a7:((y3.1:Int)==1)=false:=by simp;omega
   have H1:=Qab h1;have HT:=Qab (trX.of_owns HP.o aM.o rfl aH aU.o);obtain⟨gg,nn,cc,rfl⟩:=HT.o.form;have k0:w3.cell? ⟨w.heap.size,0,none⟩=some (.string (sA hw)):=Qaa aB.o 0;have k1:w3.cell? ⟨w.heap.size,1,none⟩=some (.int .i64 hp):=Qaa aB.o 1;have r0:w3.cell? ⟨w.heap.size+1,0,none⟩=some (.string ⟨#[]⟩):=Qaa ai.o 0;have r1:w3.cell? ⟨w.heap.size+1,1,none⟩=some (.int .i64 0):=Qaa ai.o 1;have r2:w3.cell? ⟨w.heap.size+1,2,none⟩=some (.slice none 0 0):=Qaa ai.o 2;have rf:=Qah ai.o;clear h1;go_wp2;have aJ:b<w.heap.size+1:=by omega
   have aL:w.heap.size<=w.heap.size+1:=by omega
   have hq:¬ fromB (w.heap.size+1+1) (w.heap.size+1):=by unfold fromB;omega
   have bu:∀ k,fromB (w.heap.size+1+1) k->fromB w.heap.size k:=fun k hk=>by unfold fromB at *;omega
   refine bodyPost_ret (v:=.agg #[.string (sA hw),.int .i64 hp,.slice (some ⟨gg,0,none⟩) nn cc]) (by simp[results,results110,go_sem,r0,r1,r2]) rfl (Qap.ok (aA.o.trans (Qk1 aO.o H1.o)) (((ar.o.setNew aL _ _).setNew aL _ _).setNew aL _ _) ⟨_,rfl,?_,aH⟩ (((ax.o.setNew aJ _ _).setNew aJ _ _).setNew aJ _ _));exact trX.weak HP.o aH (((HT.o.keep HP.o (AbvX.set hq _ _)).keep HP.o (AbvX.set hq _ _)).keep HP.o (AbvX.set hq _ _)) (fun k hk _=>bu k hk)
  have a7:((y3.1:Int)==1)=true:=by simp;omega
  have H1:=Qab h1;clear h1;go_wp2_with fail;refine(HO.o _ y3.2 ar.o ax.o).mono ?_;intro e w4 h4;rcases h4.cases with⟨z4,v4,aC,rfl,aE,aY,ae⟩ | ⟨f4,bj,⟨bb,hz,rfl,ah⟩,ae⟩
  rotate_left
  ·exact⟨rfl,Qap.err (aA.o.trans (QhH aO.o H1.o bj)) (ar.o.trans ae) ⟨bb,Nat.le_trans ar.o.size hz,rfl,ah⟩⟩
  have hmu4:=bt.o y3.2 z4 ax.o.le ax.o.e0 aC;have hz3:w.heap.size+1<w3.heap.size:=Qar ai.o;have bq:=Qab aE;obtain⟨aw,x4,rfl⟩:=HP.o.form _ _ _ _ aE;have bg:=Qab (ar.o.trans ae);have bk:=Qab aC;have bB:=Qab aY;have ac:=Qbe (b:=b) aM.o ae (by omega);have bw:=Qab (aU.o.imp (fun a u hu=>QgG.mod HP.o (b:=b) (w':=w4) hu ae (by omega)));have aG:=Qab (fun k hk=>(aM.o.lt k hk).2);have bx:=Qab (QgG.new HP.o (base:=w.heap.size+1+1) bq.o (by omega) aG.o);have br:=Qab (QaI aB.o ae (by omega));have a1:=Qab (QaI ai.o ae (by omega));have hz4:w.heap.size+1<w4.heap.size:=Qar a1.o;clear h4 aC aY ae aE;go_wp2_with (at_builtin;refine wpList_append_own_at _ rfl _ _ 203 rfl (w.heap.size+1+1) 202 i0 .nilIface 1 16 underlying203 hi bs bC bn rfl (by decide) _ _ _ rfl (ac.alloc _) ⟨w4.heap.size,0,none⟩ 1 1 [.iface aw x4] rfl rfl ?c1 ?c2 ?c3 ?c4 ?c5 ?_)
  case c1=>
   intro j u hj
   match j,hj with
   |0,hj=>simp at hj;subst hj;simp[Addr.add]
  case c2=>intro u hu;simp at hu;subst hu;rfl
  case c3=>unfold maxLen;omega
  case c4=>omega
  case c5=>simp;omega
  ·intro v' w5 ad aa _ aN;have ab:∀ k,(u7).ownBlock=some k->w.heap.size+1+1<=k:=fun k hk=>(ac.lt k hk).1
   have bv:=Qab ((bg.o.alloc (Obj.cells #[.iface aw x4] 202)).grown aa (fun k hk=>by have:=ab k hk;omega));have aP:=Qab ((bB.o.alloc (Obj.cells #[.iface aw x4] 202)).grown aa (fun k hk=>by have:=ab k hk;omega));have bc:=Qab ad;have ba:=Qab (Qkp.snoc (P:=fun a u=>QgG P (w.heap.size+1+1) w5 v' a u) (bx.o.grown HP.o aa aN) (bw.o.imp (fun a u hu=>QgG.grown HP.o hu aa aN)))
   have aK:∀ k,k<w.heap.size+1+1->w5.heap[k]?=w4.heap[k]?:=fun k hk=>by
    rw[aa.block k (by simp;omega) (fun e=>by have:=ab k e.symm;omega)];exact Below.heap_alloc _ _ _ (by omega)
   have a5:=Qab ((aK w.heap.size (by omega)).trans br.o);have bl:=Qab ((aK (w.heap.size+1) (by omega)).trans a1.o);have aQ:muW w5 b t.size<muW wr b t.size:=by rw[aP.o.muEq,HR.o.muEq];omega
   have a9:=Qab aQ;clear ad aa aQ ac ab aK aN;go_wp2;go_roundw
   case rel=>exact⟨z4.2,af++[z4.1],vs++[.iface aw x4],f,by simpa using bc.o,ba.o,by simp,aP.o,bv.o,a5.o,bl.o,by omega,by simp;omega,aA.o.trans (QmQ aO.o H1.o bk.o)⟩
   case measure=>exact a9.o
end
section
open Go.RowKit
attribute [local go_sem ↓] Go.wp_at_zero Go.wp_at_succ
theorem Qtq{α:Type}(aa:PS->Except Flt (α×PS))(P:(Nat->Prop)->α->World->Value->Prop)(hw:L8)(hp:Nat)(d:Int)(pr:Nat)(b F:Nat)(t:ByteArray)(s:PS)(rv:Value)(mc mt:Nat)(w:World)(h:RC w b t s rv mc mt)(ab:Qno w pr b)(hF:2*t.size+1<F)(ad:0<=d)(ag:d<=100)(hP:TreeP P)(hS:SubMu t.size aa)(ho:Qey 168 w b t rv mc mt (d+1) aa P) :
 Calls Tryz.prog 109 #[Qcj hw hp,.int .i64 d,.pointer (some ⟨pr,0,none⟩)] w (Qap (QcQ t.data.toList F aa s) b t rv mc mt w (fun xs w' v=>∃ u,v=.iface 208 (.agg #[.string (sA hw),.int .i64 hp,u])/\trX (fromB w.heap.size) P xs w' u/\xs≠[])):=by
 have ae:=ab.lt;have h':(w.alloc (.cells #[.string (sA hw),.int .i64 hp] 200)).cell? ⟨pr,0,none⟩=some (.pointer (some ⟨b,0,none⟩)):=by rw[World.cell?_alloc_past _ _ _ ae];exact ab.1
 have HG:=Qab (QmK aa P hw hp d b F t s rv mc mt (w.alloc (.cells #[.string (sA hw),.int .i64 hp] 200)) (h.alloc _) hF ad ag hP hS (ho.mod ((Mod.refl b w).alloc _)));have HP:=Qab hP;clear h ab ho hP hS;unfold Qcj at *;go_enter func109,ntmps109;go_wp2_with fail;refine HG.o.mono ?_;intro e w1 h1;rcases h1.cases with⟨y,v,hy,rfl,⟨u,rfl,hu,ac⟩,hc,hm⟩ | ⟨f,hf,⟨bb,hz,rfl,af⟩,hm⟩
 rotate_left
 ·exact⟨rfl,Qap.err hf (((Mod.refl b w).alloc _).trans hm) ⟨bb,by simp at hz;omega,rfl,af⟩⟩
 have HY:=Qab hy;have HC:=Qab hc;have HM:=Qab (((Mod.refl b w).alloc _).trans hm);have HU:=Qab (trX.weak HP.o ac hu (fun k hk _=>Nat.le_trans (by simp) hk:∀ k,_->_->fromB w.heap.size k));have ah:=Qab ac;obtain⟨g1,n1,c1,rfl⟩:=hu.form;clear h1 hy hc hm hu ac;go_wp2;go_ret;exact Qap.ok HY.o HM.o ⟨_,rfl,HU.o,ah.o⟩ HC.o
theorem Qsl{α:Type}(aa:PS->Except Flt (α×PS))(P:(Nat->Prop)->α->World->Value->Prop)(hw:L8)(hp:Nat)(d:Int)(pr:Nat)(b F:Nat)(t:ByteArray)(s:PS)(rv:Value)(mc mt:Nat)(w:World)(h:RC w b t s rv mc mt)(ab:Qno w pr b)(hF:2*t.size+1<F)(ad:0<=d)(ag:d<=100)(hP:TreeP P)(hS:SubMu t.size aa)(ho:Qey 168 w b t rv mc mt (d+1) aa P) :
 Calls Tryz.prog 111 #[Qcj hw hp,.int .i64 d,.pointer (some ⟨pr,0,none⟩)] w (Qap (QcQ t.data.toList F aa s) b t rv mc mt w (fun xs w' v=>∃ u,v=.iface 209 (.agg #[.string (sA hw),.int .i64 hp,u])/\trX (fromB w.heap.size) P xs w' u/\xs≠[])):=by
 have ae:=ab.lt;have h':(w.alloc (.cells #[.string (sA hw),.int .i64 hp] 200)).cell? ⟨pr,0,none⟩=some (.pointer (some ⟨b,0,none⟩)):=by rw[World.cell?_alloc_past _ _ _ ae];exact ab.1
 have HG:=Qab (QmK aa P hw hp d b F t s rv mc mt (w.alloc (.cells #[.string (sA hw),.int .i64 hp] 200)) (h.alloc _) hF ad ag hP hS (ho.mod ((Mod.refl b w).alloc _)));have HP:=Qab hP;clear h ab ho hP hS;unfold Qcj at *;go_enter func111,ntmps111;go_wp2_with fail;refine HG.o.mono ?_;intro e w1 h1;rcases h1.cases with⟨y,v,hy,rfl,⟨u,rfl,hu,ac⟩,hc,hm⟩ | ⟨f,hf,⟨bb,hz,rfl,af⟩,hm⟩
 rotate_left
 ·exact⟨rfl,Qap.err hf (((Mod.refl b w).alloc _).trans hm) ⟨bb,by simp at hz;omega,rfl,af⟩⟩
 have HY:=Qab hy;have HC:=Qab hc;have HM:=Qab (((Mod.refl b w).alloc _).trans hm);have HU:=Qab (trX.weak HP.o ac hu (fun k hk _=>Nat.le_trans (by simp) hk:∀ k,_->_->fromB w.heap.size k));have ah:=Qab ac;obtain⟨g1,n1,c1,rfl⟩:=hu.form;clear h1 hy hc hm hu ac;go_wp2;go_ret;exact Qap.ok HY.o HM.o ⟨_,rfl,HU.o,ah.o⟩ HC.o
def QwU (w:World) (hw:L8) (hp:Nat):World:=
 ((((w.alloc (.cells #[.string (sA hw),.int .i64 hp] 200)).alloc (.cells #[.string ⟨#[102,114,111,109]⟩,.string ⟨#[116,111]⟩] 9)).alloc (.cells #[.int .i64 7] 30)).alloc (.cells #[.slice (some ⟨w.heap.size+1,0,none⟩) 2 2] 89)).alloc (.cells #[.func (.func 172) #[] #[.pointer (some ⟨w.heap.size+1+1+1,0,none⟩),.pointer (some ⟨w.heap.size+1+1,0,none⟩)]] 213)
theorem Qqz(w:World)(hw:L8)(hp:Nat):QgU (QwU w hw hp) (w.heap.size+1+1+1+1) (w.heap.size+1+1+1) (w.heap.size+1+1) (w.heap.size+1) 2 2 7 [Qh8,kTo]:=by
 refine⟨?_,?_,?_,?_,rfl,by decide⟩
 ·exact Qaa (Qaq (by simp)) 0
 ·exact Qaa (Qac (Qaq (by simp))) 0
 ·exact Qaa (Qac (Qac (Qaq (by simp)))) 0
 ·have h:=QbB (w.alloc (.cells #[.string (sA hw),.int .i64 hp] 200)) [Qh8,kTo] #[.string ⟨#[102,114,111,109]⟩,.string ⟨#[116,111]⟩] 9 rfl;rw[show(w.alloc (.cells #[.string (sA hw),.int .i64 hp] 200)).heap.size=w.heap.size+1 from by simp]at h;exact((h.below ((Below.refl _ _).alloc (Nat.le_refl _) _)).below ((Below.refl _ _).alloc (Nat.le_refl _) _)).below ((Below.refl _ _).alloc (Nat.le_refl _) _)
theorem Qf7(w:World)(hw:L8)(hp b:Nat):Mod b w (QwU w hw hp):=(((((Mod.refl b w).alloc _).alloc _).alloc _).alloc _).alloc _
theorem Qbz{w w':World}{b g o:Nat}{v:Value}(h:w.cell? ⟨g,o,none⟩=some v)(hm:Mod b w w')(hn:g≠b):w'.cell? ⟨g,o,none⟩=some v:=by
 rw[hm.cell (p:=⟨g,o,none⟩) (Qau h) hn];exact h
theorem QgU.mod{w w':World}{b q p1 p2 g n c er:Nat}{zs:List (L8)}(h:QgU w q p1 p2 g n c er zs)(hm:Mod b w w')(h1:q≠b)(h2:p1≠b)(h3:p2≠b)(h4:g≠b):QgU w' q p1 p2 g n c er zs:=by
 obtain⟨a1,a2,a3,a4,a5,a6⟩:=h;exact⟨Qbz a1 hm h1,Qbz a2 hm h2,Qbz a3 hm h3,fun j hj=>Qbz (a4 j hj) hm h4,a5,a6⟩
theorem QuY(w:World)(hw:L8)(hp b:Nat)(t:ByteArray)(rv:Value)(mc mt:Nat)(hb:b<w.heap.size):Qjy (QwU w hw hp) b t rv mc mt (.func (.func 171) #[] #[.pointer (some ⟨w.heap.size+1+1+1+1,0,none⟩)]) (Qdd (Qcm 7 [Qh8,kTo])):=
 fun W s hm hr=>Qjq _ _ _ _ _ _ _ _ b t s rv mc mt W hr ((Qqz w hw hp).mod hm (by omega) (by omega) (by omega) (by omega))
theorem Qjy.drew{w:World}{b:Nat}{t:ByteArray}{rv:Value}{mc mt:Nat}{cv:Value}{chk:L8->Nat}(h:Qjy w b t rv mc mt cv chk):Qjy w.drew b t rv mc mt cv chk:=h.mod ((Mod.refl b w).drew)
theorem Ql9(hw:L8)(hp:Nat)(d:Int)(pr:Nat)(b F:Nat)(t:ByteArray)(s:PS)(rv:Value)(mc mt:Nat)(w:World)(h:RC w b t s rv mc mt)(ab:Qno w pr b)(hF:2*t.size+1<F) :
 Calls Tryz.prog 115 #[Qcj hw hp,.int .i64 d,.pointer (some ⟨pr,0,none⟩)] w (Qap (QbQ t.data.toList F (Qdd (Qcm 7 [Qh8,kTo])) 6 hp s) b t rv mc mt w (fun x w' v=>∃ u,v=.iface 218 u/\mtV w.heap.size hw x w' u)):=by
 have af:=ab.lt;have a1:∀ o,(w.alloc o).cell? ⟨pr,0,none⟩=some (.pointer (some ⟨b,0,none⟩)):=fun o=>by rw[World.cell?_alloc_past _ _ _ af];exact ab.1
 have a2:∀ o o2,((w.alloc o).alloc o2).cell? ⟨pr,0,none⟩=some (.pointer (some ⟨b,0,none⟩)):=fun o o2=>by rw[World.cell?_alloc_past _ _ _ (by simp;omega)];exact a1 o
 have a3:∀ o o2 o3,(((w.alloc o).alloc o2).alloc o3).cell? ⟨pr,0,none⟩=some (.pointer (some ⟨b,0,none⟩)):=fun o o2 o3=>by rw[World.cell?_alloc_past _ _ _ (by simp;omega)];exact a2 o o2
 have a4:∀ o o2 o3 o4,((((w.alloc o).alloc o2).alloc o3).alloc o4).cell? ⟨pr,0,none⟩=some (.pointer (some ⟨b,0,none⟩)):=fun o o2 o3 o4=>by rw[World.cell?_alloc_past _ _ _ (by simp;omega)];exact a3 o o2 o3
 have a5:∀ o o2 o3 o4 o5,(((((w.alloc o).alloc o2).alloc o3).alloc o4).alloc o5).cell? ⟨pr,0,none⟩=some (.pointer (some ⟨b,0,none⟩)):=fun o o2 o3 o4 o5=>by rw[World.cell?_alloc_past _ _ _ (by simp;omega)];exact a4 o o2 o3 o4
 have H:=Qab h;have hb:=h.at_.lt;clear h ab;unfold Qcj
 have HW:=Qab (Qi9 _ (Qdd (Qcm 7 [Qh8,kTo])) 6 hw hp b F t s rv mc mt (QwU w hw hp).drew ((H.o.step (Qf7 w hw hp b) (H.o.at_.mod (⟨rfl,rfl,rfl,(Qf7 w hw hp b).size,fun k hk=>by
  by_cases e:k=b
  ·subst e;unfold QwU;rw[Below.heap_alloc _ _ _ (by simp;omega),Below.heap_alloc _ _ _ (by simp;omega),Below.heap_alloc _ _ _ (by simp;omega),Below.heap_alloc _ _ _ (by simp;omega),Below.heap_alloc _ _ _ hk]
  ·exact (Qf7 w hw hp b).block k hk e⟩:Below w.heap.size w (QwU w hw hp))) H.o.le H.o.sz H.o.e0 H.o.nm).drew) (QuY w hw hp b t rv mc mt hb).drew hF)
 have ac:=Qab (Qf7 w hw hp b);have HZ:=Qab ((Qf7 w hw hp b).size);unfold QwU at HW ac;go_enter func115,ntmps115;go_wp2_with fail;go_region_with (first|(go_at_call 117;refine(Qi0 _ _ _ _ _).mono ?_;rintro e w' ⟨rfl,rfl⟩;skip)|(go_at_call 116;refine(Qpy _ _ _ _).mono ?_;rintro e w' ⟨rfl,rfl⟩;skip)|(go_at_call 113;refine HW.o.mono ?_;intro e w1 h1;rcases h1.cases with⟨y,v,hy,rfl,⟨fv,kv,rfl,aa,ad⟩,hc,hm⟩ | ⟨f,hf,⟨bb,hz,rfl,ah⟩,hm⟩;rotate_left;exact⟨rfl,Qap.err hf (ac.o.trans (QaQ hm)) ⟨bb,by simp at hz;omega,rfl,ah⟩⟩;have HY:=Qab hy;have HC:=Qab hc;have HM:=Qab (ac.o.trans (QaQ hm));have ag:=Qab (aa.weak (B':=w.heap.size) (by simp;omega));have ae:=Qab (ad.weak (B':=w.heap.size) (by simp;omega));obtain⟨g1,n1,c1,rfl⟩:=aa.form;obtain⟨g2,n2,c2,rfl⟩:=ad.form;clear h1 hy hc hm aa ad;skip))
 all_goals go_wp2
 all_goals go_ret
 all_goals exact Qap.ok HY.o HM.o ⟨_,rfl,_,_,rfl,ag.o,ae.o⟩ HC.o
theorem Qc5.alloc{w:World}{g:Nat}{zs:List (L8)}(h:Qc5 w g zs)(o:Obj):Qc5 (w.alloc o) g zs:=h.below ((Below.refl _ _).alloc (Nat.le_refl _) _)
theorem Qc5.drew{w:World}{g:Nat}{zs:List (L8)}(h:Qc5 w g zs):Qc5 w.drew g zs:=h
abbrev Qqe:Obj:=.cells #[.string ⟨#[]⟩,.int .i64 0,.int .i64 0,.int .i64 0] 287
theorem QvA(hw:L8)(hp:Nat)(d:Int)(b:Nat)(t:ByteArray)(s:PS)(rv:Value)(mc mt:Nat)(w:World)(h:RC w b t s rv mc mt) :
 Calls Tryz.prog 120 #[.pointer (some ⟨b,0,none⟩),Qcj hw hp,.int .i64 d] w (Qap (sizeL t.data.toList hp s) b t rv mc mt w (fun x w' v=>v=.iface 287 (.agg #[.string (sA hw),.int .i64 hp,.int .i64 x.tag,.int .i64 x.num]))):=by
 have H:=Qab h;have hlt:=h.at_.lt;have ah:¬ w.heap.size=b:=by omega
 have aq:¬ w.heap.size+1=b:=by omega
 have ap:¬ w.heap.size+1+1=b:=by omega
 clear h;unfold Qcj;go_enter func120,ntmps120;go_upto_region 1 with fail
 go_cut [7] (fun v wc=>∃(T:Nat) (y:Nat×PS),v=.pointer (some ⟨T,0,none⟩)/\paL t.data.toList [QfE,Qdl] s=.ok y/\RC wc b t y.2 rv mc mt/\Mod b w wc/\w.heap.size<=T/\wc.heap[T]?=some (.cells #[.string (sA hw),.int .i64 hp,.int .i64 y.1,.int .i64 0] 287))
 case first=>
  go_region_with (first|(go_at_call 173;refine(QmB _).mono ?_;rintro e w' ⟨rfl,rfl⟩;skip)|(go_at_call 158;refine(QcF b _ 2 2 [QfE,Qdl] t s rv mc mt _ (by first|exact((H.o.alloc _).alloc _).drew|exact(((H.o.alloc _).alloc _).alloc _).drew) (by first|exact(QbZ _ _ (by simp)).drew|exact((QbZ _ _ (by simp)).alloc _).drew) rfl (by decide)).mono ?_;intro e w1 h1;rcases h1.cases with⟨y,v,hy,rfl,hv,hc,hm⟩ | ⟨f,hf,⟨bb,hz,rfl,aa⟩,hm⟩;rotate_left;exact⟨rfl,Qap.err (Qae hf) (by first|exact(((Mod.refl b w).alloc _).alloc _).trans (QaQ hm)|exact((((Mod.refl b w).alloc _).alloc _).alloc _).trans (QaQ hm)) ⟨bb,by simp at hz;omega,rfl,aa⟩⟩;unfold Qj9 at hv;subst hv;have ac:=QaI (g:=w.heap.size) (o:=.cells #[.string (sA hw),.int .i64 hp] 200) (by first|exact Qac (Qam _ _)|exact Qac (Qac (Qam _ _))) (QaQ hm) ah;have ai:w1.cell? ⟨w.heap.size,0,none⟩=some (.string (sA hw)):=Qaa ac 0;have ak:w1.cell? ⟨w.heap.size,1,none⟩=some (.int .i64 hp):=Qaa ac 1;clear ac;(first|(have tb:=QaI (g:=w.heap.size+1) (o:=Qqe) (Qac (Qaq (by simp))) (QaQ hm) aq;have t0:w1.cell? ⟨w.heap.size+1,0,none⟩=some (.string ⟨#[]⟩):=Qaa tb 0;have t1:w1.cell? ⟨w.heap.size+1,1,none⟩=some (.int .i64 0):=Qaa tb 1;have t2:w1.cell? ⟨w.heap.size+1,2,none⟩=some (.int .i64 0):=Qaa tb 2;have t3:w1.cell? ⟨w.heap.size+1,3,none⟩=some (.int .i64 0):=Qaa tb 3;have tf:=Qah tb;have TB:=Qab tb;clear tb)|(have tb:=QaI (g:=w.heap.size+1+1) (o:=Qqe) (Qaq (by simp)) (QaQ hm) ap;have t0:w1.cell? ⟨w.heap.size+1+1,0,none⟩=some (.string ⟨#[]⟩):=Qaa tb 0;have t1:w1.cell? ⟨w.heap.size+1+1,1,none⟩=some (.int .i64 0):=Qaa tb 1;have t2:w1.cell? ⟨w.heap.size+1+1,2,none⟩=some (.int .i64 0):=Qaa tb 2;have t3:w1.cell? ⟨w.heap.size+1+1,3,none⟩=some (.int .i64 0):=Qaa tb 3;have tf:=Qah tb;have TB:=Qab tb;clear tb)|skip);have af:=hm.size;simp at af;have ad:w.heap.size<w1.heap.size:=(by omega);have hh0a:∀ o,(w1.alloc o).cell? ⟨w.heap.size,0,none⟩=some (.string (sA hw)):=(fun o=>by rw[World.cell?_alloc_past _ _ _ ad];exact ai);have hh1a:∀ o,(w1.alloc o).cell? ⟨w.heap.size,1,none⟩=some (.int .i64 hp):=(fun o=>by rw[World.cell?_alloc_past _ _ _ ad];exact ak);have HY:=Qab hy;have HC:=Qab hc;have ae:Hid (Mod b w w1):=(by first|exact(((Mod.refl b w).alloc _).alloc _).trans (QaQ hm)|exact((((Mod.refl b w).alloc _).alloc _).alloc _).trans (QaQ hm));clear h1 hy hc hm;skip))
  all_goals (go_wp2_with fail;go_meet)
  all_goals first
   |exact⟨_,y,rfl,HY.o,HC.o.alloc _,ae.o.alloc _,by omega,Qam _ _⟩
   |exact⟨_,y,rfl,HY.o,(((HC.o.setNew (by omega) _ _).setNew (by omega) _ _).setNew (by omega) _ _).setNew (by omega) _ _,(((ae.o.setNew (by omega) _ _).setNew (by omega) _ _).setNew (by omega) _ _).setNew (by omega) _ _,by omega,Qag _ _ _ _ _ _ (Qag _ _ _ _ _ _ (Qag _ _ _ _ _ _ (Qag _ _ _ _ _ _ TB.o)))⟩
 case rest=>
  obtain⟨T,y,rfl,hy,hc,hm,hT,hb⟩:=hcut;have hlt2:=Qar hb;have h1:wc.cell? ⟨b,1,none⟩=some (.int .i64 y.2.1.kind):=hc.at_.cell 1;have h5:wc.cell? ⟨b,5,none⟩=some (.int .i64 y.2.1.num):=hc.at_.cell 5;have t3:wc.cell? ⟨T,3,none⟩=some (.int .i64 0):=Qaa hb 3;have tf:=Qah hb;have HY:=Qab hy;have HC:=Qab hc;have HM:=Qab hm;have HB:=Qab hb;clear hy hc hm hb;by_cases hk:y.2.1.kind=4;rotate_left
  ·have ag:((y.2.1.kind:Int)==4)=false:=by simp;omega
   have HK:=Qab hk;clear hk;go_wp2_with fail;refine(Qa7 b 4 _ _ t y.2.1 y.2.2 rv mc mt _ HC.o.at_ rfl rfl).mono ?_;rintro e w1 ⟨⟨bb,hz,rfl,aa⟩,hm⟩;exact⟨rfl,Qap.err ((Qad HY.o).trans (if_neg HK.o)) (HM.o.trans (Mod.of_below hm)) ⟨bb,Nat.le_trans HM.o.size hz,rfl,aa⟩⟩
  have ag:((y.2.1.kind:Int)==4)=true:=by simp;omega
  have HK:=Qab hk;clear hk;go_wp2_with fail;refine(Qay b _ _ _ rfl).mono ?_;rintro e w' ⟨rfl,ar⟩;subst ar;go_wp2_with fail;refine(QcD b t y.2 rv mc mt _ (HC.o.setNew (by omega) _ _)).mono ?_;rintro e w2 (⟨z,hz,rfl,hc2,hm2⟩ | ⟨f2,hf2,⟨bb,hz,rfl,aa⟩,hm2⟩);rotate_left
  ·exact⟨rfl,Qap.err ((Qad HY.o).trans ((if_pos HK.o).trans (Qa3 hf2))) ((HM.o.setNew hT _ _).trans hm2) ⟨bb,Nat.le_trans (HM.o.setNew hT _ _).size hz,rfl,aa⟩⟩
  have ab:=QaI (Qag _ T 3 (.int .i64 y.2.1.num) _ _ HB.o) hm2 (by omega);have q0:w2.cell? ⟨T,0,none⟩=some (.string (sA hw)):=Qaa ab 0;have q1:w2.cell? ⟨T,1,none⟩=some (.int .i64 hp):=Qaa ab 1;have q2:w2.cell? ⟨T,2,none⟩=some (.int .i64 y.1):=Qaa ab 2;have q3:w2.cell? ⟨T,3,none⟩=some (.int .i64 y.2.1.num):=Qaa ab 3;have ao:=Qab ((HM.o.setNew hT 3 (.int .i64 y.2.1.num)).trans hm2);have aj:=Qab hc2;have HZ:=Qab hz;clear ab hm2 hc2 hz tf t3 h1 h5;go_wp2;go_ret;exact Qap.ok ((Qad HY.o).trans ((if_pos HK.o).trans (Qa2 HZ.o))) ao.o rfl aj.o
theorem Qu6(hw:L8)(hp:Nat)(d:Int)(b:Nat)(t:ByteArray)(s:PS)(rv:Value)(mc mt:Nat)(w:World)(h:RC w b t s rv mc mt) :
 Calls Tryz.prog 101 #[.pointer (some ⟨b,0,none⟩),Qcj hw hp,.int .i64 d] w (Qap (paL t.data.toList [[59]] s) b t rv mc mt w (fun _ _ v=>v=.iface 262 (.agg #[.string (sA hw),.int .i64 hp,.int .i64 1,.string ⟨#[]⟩]))):=by
 have H:=Qab h;have hlt:=h.at_.lt;clear h;unfold Qcj;go_enter func101,ntmps101;go_wp2_with fail;have HP:=Qab (QcF b (w.heap.size+1) 1 1 [[59]] t s rv mc mt _ ((H.o.alloc (.cells #[.string (sA hw),.int .i64 hp] 200)).alloc (.cells (QaD [[59]]).toArray 9)) (QbZ _ _ (by simp)) rfl (by decide));refine HP.o.mono ?_;intro e w1 h1;rcases h1.cases with⟨y,v,hy,rfl,hv,hc,hm⟩ | ⟨f,hf,⟨bb,hz,rfl,ab⟩,hm⟩
 rotate_left
 ·exact⟨rfl,Qap.err hf ((((Mod.refl b w).alloc _).alloc _).trans hm) ⟨bb,by simp at hz;omega,rfl,ab⟩⟩
 unfold Qj9 at hv;subst hv;have aa:=QaI (g:=w.heap.size) (o:=.cells #[.string (sA hw),.int .i64 hp] 200) (Qac (Qam _ _)) hm (by omega);have hh0:w1.cell? ⟨w.heap.size,0,none⟩=some (.string (sA hw)):=Qaa aa 0;have hh1:w1.cell? ⟨w.heap.size,1,none⟩=some (.int .i64 hp):=Qaa aa 1;have HY:=Qab hy;have HC:=Qab hc;have HM:=Qab ((((Mod.refl b w).alloc _).alloc _).trans hm);clear h1 hy hc hm aa HP;go_wp2;go_ret;exact Qap.ok HY.o HM.o rfl HC.o
theorem Qo4(hw:L8)(hp:Nat)(d:Int)(b:Nat)(t:ByteArray)(s:PS)(rv:Value)(mc mt:Nat)(w:World)(h:RC w b t s rv mc mt) :
 Calls Tryz.prog 102 #[.pointer (some ⟨b,0,none⟩),Qcj hw hp,.int .i64 d] w (Qap (paL t.data.toList [[59]] s) b t rv mc mt w (fun _ _ v=>v=.iface 264 (.agg #[.string (sA hw),.int .i64 hp]))):=by
 have H:=Qab h;have hlt:=h.at_.lt;clear h;unfold Qcj;go_enter func102,ntmps102;go_wp2_with fail;have HP:=Qab (QcF b (w.heap.size+1) 1 1 [[59]] t s rv mc mt _ ((H.o.alloc (.cells #[.string (sA hw),.int .i64 hp] 200)).alloc (.cells (QaD [[59]]).toArray 9)) (QbZ _ _ (by simp)) rfl (by decide));refine HP.o.mono ?_;intro e w1 h1;rcases h1.cases with⟨y,v,hy,rfl,hv,hc,hm⟩ | ⟨f,hf,⟨bb,hz,rfl,ab⟩,hm⟩
 rotate_left
 ·exact⟨rfl,Qap.err hf ((((Mod.refl b w).alloc _).alloc _).trans hm) ⟨bb,by simp at hz;omega,rfl,ab⟩⟩
 unfold Qj9 at hv;subst hv;have aa:=QaI (g:=w.heap.size) (o:=.cells #[.string (sA hw),.int .i64 hp] 200) (Qac (Qam _ _)) hm (by omega);have hh0:w1.cell? ⟨w.heap.size,0,none⟩=some (.string (sA hw)):=Qaa aa 0;have hh1:w1.cell? ⟨w.heap.size,1,none⟩=some (.int .i64 hp):=Qaa aa 1;have HY:=Qab hy;have HC:=Qab hc;have HM:=Qab ((((Mod.refl b w).alloc _).alloc _).trans hm);clear h1 hy hc hm aa HP;go_wp2;go_ret;exact Qap.ok HY.o HM.o rfl HC.o
theorem QvO(hw:L8)(hp:Nat)(d:Int)(b:Nat)(t:ByteArray)(s:PS)(rv:Value)(mc mt:Nat)(w:World)(h:RC w b t s rv mc mt) :
 Calls Tryz.prog 103 #[.pointer (some ⟨b,0,none⟩),Qcj hw hp,.int .i64 d] w (Qap (paL t.data.toList [[59]] s) b t rv mc mt w (fun _ _ v=>v=.iface 265 (.agg #[.string (sA hw),.int .i64 hp]))):=by
 have H:=Qab h;have hlt:=h.at_.lt;clear h;unfold Qcj;go_enter func103,ntmps103;go_wp2_with fail;have HP:=Qab (QcF b (w.heap.size+1) 1 1 [[59]] t s rv mc mt _ ((H.o.alloc (.cells #[.string (sA hw),.int .i64 hp] 200)).alloc (.cells (QaD [[59]]).toArray 9)) (QbZ _ _ (by simp)) rfl (by decide));refine HP.o.mono ?_;intro e w1 h1;rcases h1.cases with⟨y,v,hy,rfl,hv,hc,hm⟩ | ⟨f,hf,⟨bb,hz,rfl,ab⟩,hm⟩
 rotate_left
 ·exact⟨rfl,Qap.err hf ((((Mod.refl b w).alloc _).alloc _).trans hm) ⟨bb,by simp at hz;omega,rfl,ab⟩⟩
 unfold Qj9 at hv;subst hv;have aa:=QaI (g:=w.heap.size) (o:=.cells #[.string (sA hw),.int .i64 hp] 200) (Qac (Qam _ _)) hm (by omega);have hh0:w1.cell? ⟨w.heap.size,0,none⟩=some (.string (sA hw)):=Qaa aa 0;have hh1:w1.cell? ⟨w.heap.size,1,none⟩=some (.int .i64 hp):=Qaa aa 1;have HY:=Qab hy;have HC:=Qab hc;have HM:=Qab ((((Mod.refl b w).alloc _).alloc _).trans hm);clear h1 hy hc hm aa HP;go_wp2;go_ret;exact Qap.ok HY.o HM.o rfl HC.o
def QxI (l:L8) (s:PS):Except Flt (L8×PS):=QaX (sL l (fun _=>0) s) fun x s1=>semi l s1 x
theorem QlI(hw:L8)(hp:Nat)(d:Int)(pr pk kd:Nat)(b:Nat)(t:ByteArray)(s:PS)(rv:Value)(mc mt:Nat)(w:World)(h:RC w b t s rv mc mt)(ab:Qno w pr b)(ah:w.cell? ⟨pk,0,none⟩=some (.int .i64 kd))(ac:pk≠b) :
 Calls Tryz.prog 159 #[Qcj hw hp,.int .i64 d,.pointer (some ⟨pr,0,none⟩),.pointer (some ⟨pk,0,none⟩)] w (Qap (QxI t.data.toList s) b t rv mc mt w (fun x _ v=>v=.iface 262 (.agg #[.string (sA hw),.int .i64 hp,.int .i64 kd,.string (sA x)]))):=by
 have ao:=ab.lt;have hb:=h.at_.lt;have h':(w.alloc (.cells #[.string (sA hw),.int .i64 hp] 200)).cell? ⟨pr,0,none⟩=some (.pointer (some ⟨b,0,none⟩)):=by rw[World.cell?_alloc_past _ _ _ ao];exact ab.1
 have H:=Qab h;have aq:=Qab ab;have ar:=Qab ah;clear h ab;unfold Qcj;go_enter func159,ntmps159;go_wp2_with fail;refine(Qdw b t s rv mc mt _ (H.o.alloc _)).mono ?_;intro e w1 h1;rcases h1.cases with⟨y,v,hy,rfl,hv,hc,hm⟩ | ⟨f,hf,⟨bb,hz,rfl,ae⟩,hm⟩
 rotate_left
 ·exact⟨rfl,Qap.err (Qae hf) (((Mod.refl b w).alloc _).trans hm) ⟨bb,by simp at hz;omega,rfl,ae⟩⟩
 unfold Qsa at hv;subst hv;have HY:=Qab hy;have HC:=Qab hc;have HM:=Qab (((Mod.refl b w).alloc (.cells #[.string (sA hw),.int .i64 hp] 200)).trans hm);have HH:=Qab (QaI (g:=w.heap.size) (Qam w (.cells #[.string (sA hw),.int .i64 hp] 200)) hm (by omega));have ap:=(aq.o.mod HM.o).1;clear h1 hy hc hm h' ah;go_wp2_with fail;have HP:=Qab (QcF b w1.heap.size 1 1 [[59]] t y.2 rv mc mt _ (HC.o.alloc (.cells (QaD [[59]]).toArray 9)) (QbZ _ _ rfl) rfl (by decide));refine HP.o.mono ?_;intro e w2 h2;rcases h2.cases with⟨y2,v2,af,rfl,aj,ai,aa⟩ | ⟨f,hf,⟨bb,hz,rfl,ae⟩,aa⟩
 rotate_left
 ·exact⟨rfl,Qap.err ((Qad HY.o).trans (Qae hf)) ((HM.o.alloc _).trans aa) ⟨bb,Nat.le_trans (HM.o.alloc _).size hz,rfl,ae⟩⟩
 unfold Qj9 at aj;subst aj;have ad:=QaI (Qac HH.o) aa (by omega);have hh0:w2.cell? ⟨w.heap.size,0,none⟩=some (.string (sA hw)):=Qaa ad 0;have hh1:w2.cell? ⟨w.heap.size,1,none⟩=some (.int .i64 hp):=Qaa ad 1;have au:=Qab af;have ak:=Qab ai;have ag:=Qab ((HM.o.alloc (.cells (QaD [[59]]).toArray 9)).trans aa);have hk2:=Qbz ar.o ag.o ac;clear h2 af ai aa ad HP ap;go_wp2;go_ret;exact Qap.ok ((Qad HY.o).trans (Qad au.o)) ag.o rfl ak.o
end
section
open Go.RowKit
theorem Tryz.infoCommand:(Tryz.prog.info? 221).map (fun i=>(i.zero,i.size,i.bytes))=some (some .nilIface,1,16):=by kernel_rfl
def blX {α:Type} (X:Nat→Prop) (P:(Nat→Prop)→α→World→Value→Prop) (xs:List α) (w:World) (v:Value):Prop:=
 (xs=[]∧v=.slice none 0 0)∨(xs≠[]∧trX X P xs w v)
theorem blX.keep{α:Type}{X:Nat->Prop}{P:(Nat->Prop)->α->World->Value->Prop}(hP:TreeP P){xs:List α}{w w':World}{v:Value}(h:blX X P xs w v)(hm:AbvX X w w'):blX X P xs w' v:=by
 rcases h with h | ⟨h1,h2⟩
 ·exact Or.inl h
 ·exact Or.inr ⟨h1,h2.keep hP hm⟩
theorem blX.weak{α:Type}{X Y:Nat->Prop}{P:(Nat->Prop)->α->World->Value->Prop}(hP:TreeP P){xs:List α}{w:World}{v:Value}(h:blX X P xs w v)(hB:∀ k,X k->k<w.heap.size->Y k):blX Y P xs w v:=by
 rcases h with h | ⟨h1,h2⟩
 ·exact Or.inl h
 ·exact Or.inr ⟨h1,trX.weak hP h1 h2 hB⟩
theorem blX.of_owns{α:Type}{P:(Nat->Prop)->α->World->Value->Prop}(hP:TreeP P){w:World}{base n:Nat}{e:TypeId}{v:Value}{xs:List α}{vs:List Value}(h:w.ownsRow base e 1 v n vs)(hn:n=xs.length)(aa:xs=[]->v=.slice none 0 0)(hr:Qkp (fun a u=>QgG P base w v a u) xs vs):blX (fromB base) P xs w v:=by
 by_cases hx:xs=[]
 ·exact Or.inl ⟨hx,aa hx⟩
 ·exact Or.inr ⟨hx,trX.of_owns hP h hn hx hr⟩
theorem blX.form{α:Type}{X:Nat->Prop}{P:(Nat->Prop)->α->World->Value->Prop}{xs:List α}{w:World}{v:Value}(h:blX X P xs w v):∃ a n c,v=.slice a n c:=by
 rcases h with⟨_,h⟩ | ⟨_,h⟩
 ·exact⟨_,_,_,h⟩
 ·obtain⟨g,n,c,h⟩:=h.form;exact⟨_,_,_,h⟩
theorem QhB{α:Type}{l:L8}{ab:PS->Except Flt (α×PS)}{f:Nat}{aa:List α}{s:PS}{e:Flt}(h:mayL l [[125]] s=.error e):bMr l ab (f+1) aa s=.error e:=by rw[bMr];exact Qae h
theorem QkG{α:Type}{l:L8}{ab:PS->Except Flt (α×PS)}{f:Nat}{aa:List α}{s:PS}{y:Nat×PS}(h:mayL l [[125]] s=.ok y)(h1:¬ y.1=0):bMr l ab (f+1) aa s=.ok (aa,y.2):=by rw[bMr,Qad h,if_neg h1]
theorem QhG{α:Type}{l:L8}{aa:PS->Except Flt (α×PS)}{f:Nat}{ab:List α}{s:PS}{y:Nat×PS}{e:Flt}(h:mayL l [[125]] s=.ok y)(h1:y.1=0)(h2:aa y.2=.error e):bMr l aa (f+1) ab s=.error e:=by rw[bMr,Qad h,if_pos h1];exact Qae h2
theorem Qmc{α:Type}{l:L8}{aa:PS->Except Flt (α×PS)}{f:Nat}{ab:List α}{s:PS}{y:Nat×PS}{z:α×PS}(h:mayL l [[125]] s=.ok y)(h1:y.1=0)(h2:aa y.2=.ok z):bMr l aa (f+1) ab s=bMr l aa f (ab++[z.1]) z.2:=by rw[bMr,Qad h,if_pos h1];exact Qad h2
theorem QuX:∀ z∈([[125]]:List (L8)),z≠[]:=by decide
theorem QmN{α:Type}(aq:PS->Except Flt (α×PS))(P:(Nat->Prop)->α->World->Value->Prop)(d:Int)(b F:Nat)(t:ByteArray)(s:PS)(rv:Value)(mc mt:Nat)(w:World)(h:RC w b t s rv mc mt)(hF:2*t.size+1<F)(hP:TreeP P)(hS:SubMu t.size aq)(ho:Qey 123 w b t rv mc mt d aq P) :
 Calls Tryz.prog 166 #[.pointer (some ⟨b,0,none⟩),.int .i64 d] w (Qap (blockL t.data.toList F aq s) b t rv mc mt w (blX (fromB w.heap.size) P)):=by
 have H:=Qab h;have HO:=Qab ho;have HP:=Qab hP;have aR:=Qab hS;have hlt:=h.at_.lt;clear h ho hP hS;obtain⟨i0,hi,a8,a6,aY⟩:=info_parts Tryz.infoCommand;go_enter func166,ntmps166;go_wp2_with fail;have aI:=Qab (QcF b w.heap.size 1 1 [[123]] t s rv mc mt _ (H.o.alloc (.cells (QaD [[123]]).toArray 9)) (QbZ _ _ rfl) rfl (by decide));refine aI.o.mono ?_;intro e w1 h1;rcases h1.cases with⟨y,v,hy,rfl,hv,hc,hm⟩ | ⟨f,hf,⟨bb,hz,rfl,ak⟩,hm⟩
 rotate_left
 ·exact⟨rfl,Qap.err (Qae hf) (((Mod.refl b w).alloc _).trans hm) ⟨bb,by simp at hz;omega,rfl,ak⟩⟩
 unfold Qj9 at hv;subst hv;have HY:=Qab hy;have HC:=Qab hc;have aT:=Qab (((Mod.refl b w).alloc (.cells (QaD [[123]]).toArray 9)).trans hm);have az:=HC.o.mu_le;have ap:=HC.o.mu_lt hF;clear h1 hy hc hm aI;go_wp2_with fail
 go_loopw [5] (fun v wr=>∃(s':PS) (ae:List α) (vs:List Value) (f:Nat),wr.ownsRow w.heap.size 221 1 v ae.length vs/\Qkp (fun a u=>QgG P w.heap.size wr v a u) ae vs/\(ae=[]->v=.slice none 0 0)/\RC wr b t s' rv mc mt/\Mod b w wr/\mu t.size s'<f/\ae.length+mu t.size s'<=1300/\blockL t.data.toList F aq s=bMr t.data.toList aq f ae s') (fun _ wr=>muW wr b t.size)
 case atStart=>
  exact⟨y.2,[],[],F,World.ownsRow_nil _ _ _ _,trivial,fun _=>rfl,HC.o,aT.o,ap,by simp;omega,Qad HY.o⟩
 case round=>
  obtain⟨s',ae,vs,f,ao,ab,aj,aJ,ag,hf,hbd,aK⟩:=hrel;obtain⟨f,rfl⟩:∃ g,f=g+1:=⟨f - 1,by omega⟩;have HR:=Qab aJ;have aM:=Qab ag;have aw:=Qab aK;have a9:=Qab ao;have aZ:=Qab ab;have ba:=Qab aj;have hwr:w.heap.size<=wr.heap.size:=ag.size;clear aJ ag aK ao ab aj HC HY az ap;go_wp2_with fail;refine(QgI b wr.heap.size 1 1 [[125]] t s' rv mc mt _ (HR.o.alloc _) (QbB wr [[125]] _ _ rfl) rfl (by decide)).mono ?_;intro e w3 h3;rcases h3.cases with⟨y3,v3,ay,rfl,aN,aH,ar⟩ | ⟨f3,a4,⟨bb,hz,rfl,ak⟩,ar⟩
  rotate_left
  ·exact⟨rfl,Qap.err (aw.o.trans (QhB a4)) ((aM.o.alloc _).trans ar) ⟨bb,by simp at hz;omega,rfl,ak⟩⟩
  have af:=Qik (l:=t.data.toList) (by simpa using HR.o.le) HR.o.e0 QuX ay;rw[bal]at af;replace af:=af.1;have ax:=((Mod.refl b wr).alloc (.cells #[.string ⟨#[125]⟩] 9)).trans ar;have ah:=Qab (aM.o.trans ax);have aF:=Qab ay;have av:=Qab aH;have aA:=Qab (Qbe (b:=b) a9.o ax (by omega));have aO:=Qab (aZ.o.imp (fun a u hu=>QgG.mod HP.o (b:=b) (w':=w3) hu ax (by omega)));unfold Qj9 at aN;subst aN;clear h3 ay aH ar ax;by_cases h1:y3.1=0;rotate_left
  ·have aW:((y3.1:Int)==0)=false:=by simp;omega
   have H1:=Qab h1;have HT:=Qab (blX.of_owns HP.o aA.o rfl ba.o aO.o);clear h1;go_wp2;go_ret;exact Qap.ok (aw.o.trans (QkG aF.o H1.o)) ah.o HT.o av.o
  have aW:((y3.1:Int)==0)=true:=by simp;omega
  have H1:=Qab h1;clear h1;go_wp2_with fail;refine(HO.o _ y3.2 ah.o av.o).mono ?_;intro e w4 h4;rcases h4.cases with⟨z4,v4,aE,rfl,aB,aL,ai⟩ | ⟨f4,aS,⟨bb,hz,rfl,ak⟩,ai⟩
  rotate_left
  ·exact⟨rfl,Qap.err (aw.o.trans (QhG aF.o H1.o aS)) (ah.o.trans ai) ⟨bb,Nat.le_trans ah.o.size hz,rfl,ak⟩⟩
  have hmu4:=aR.o y3.2 z4 av.o.le av.o.e0 aE;have a0:=Qab aB;obtain⟨au,x4,rfl⟩:=HP.o.form _ _ _ _ aB;have aP:=Qab (ah.o.trans ai);have aU:=Qab aE;have a5:=Qab aL;have ac:=Qbe (b:=b) aA.o ai (by omega);have aX:=Qab (aO.o.imp (fun a u hu=>QgG.mod HP.o (b:=b) (w':=w4) hu ai (by omega)));have aC:=Qab (fun k hk=>(aA.o.lt k hk).2);have a7:=Qab (QgG.new HP.o (base:=w.heap.size) a0.o ah.o.size aC.o);have hz4:w.heap.size<=w4.heap.size:=aP.o.size;clear h4 aE aL ai aB;go_wp2_with (at_builtin;refine wpList_append_own_at _ rfl _ _ 90 rfl w.heap.size 221 i0 .nilIface 1 16 underlying90 hi a8 a6 aY rfl (by decide) _ _ _ rfl (ac.alloc _) ⟨w4.heap.size,0,none⟩ 1 1 [.iface au x4] rfl rfl ?c1 ?c2 ?c3 ?c4 ?c5 ?_)
  case c1=>
   intro j u hj
   match j,hj with
   |0,hj=>simp at hj;subst hj;simp[Addr.add]
  case c2=>intro u hu;simp at hu;subst hu;rfl
  case c3=>unfold maxLen;omega
  case c4=>omega
  case c5=>simp;omega
  ·intro v' w5 ad aa _ aD;have ab:∀ k,(u5).ownBlock=some k->w.heap.size<=k:=fun k hk=>(ac.lt k hk).1
   have aV:=Qab ((aP.o.alloc (Obj.cells #[.iface au x4] 221)).grown aa (fun k hk=>by have:=ab k hk;omega));have aG:=Qab ((a5.o.alloc (Obj.cells #[.iface au x4] 221)).grown aa (fun k hk=>by have:=ab k hk;omega));have a3:=Qab ad;have a2:=Qab (Qkp.snoc (P:=fun a u=>QgG P w.heap.size w5 v' a u) (a7.o.grown HP.o aa aD) (aX.o.imp (fun a u hu=>QgG.grown HP.o hu aa aD)));have aQ:muW w5 b t.size<muW wr b t.size:=by rw[aG.o.muEq,HR.o.muEq];omega
   have a1:=Qab aQ;clear ad aa aQ ac ab aD;go_wp2;go_roundw
   case rel=>exact⟨z4.2,ae++[z4.1],vs++[.iface au x4],f,by simpa using a3.o,a2.o,fun hh=>absurd hh (by simp),aG.o,aV.o,by omega,by simp;omega,aw.o.trans (Qmc aF.o H1.o aU.o)⟩
   case measure=>exact a1.o
def QyG {α β:Type} (X:Nat→Prop) (P1:(Nat→Prop)→β→World→Value→Prop) (P2:(Nat→Prop)→α→World→Value→Prop) (a:β×List α) (w:World) (v:Value):Prop:=
 ∃ u bv,v=.agg #[u,bv]∧P1 X a.1 w u∧blX X P2 a.2 w bv
theorem Qm1{b B:Nat}(h:b<B):¬ fromB B b:=by unfold fromB;omega
theorem QsW{α β:Type}(aw:PS->Except Flt (β×PS))(P1:(Nat->Prop)->β->World->Value->Prop)(af:PS->Except Flt (α×PS))(P2:(Nat->Prop)->α->World->Value->Prop)(d:Int)(b F:Nat)(t:ByteArray)(s:PS)(rv:Value)(mc mt:Nat)(w:World)(h:RC w b t s rv mc mt)(hF:2*t.size+1<F)(hd0:0<=d)(hd1:d<=100)(ay:TreeP P1)(ak:TreeP P2)(hS:SubMu t.size af)(aq:Qey 168 w b t rv mc mt (d+1) aw P1)(ap:Qey 123 w b t rv mc mt (d+1) af P2) :
 Calls Tryz.prog 165 #[.pointer (some ⟨b,0,none⟩),.int .i64 d] w (Qap (armL t.data.toList F aw af s) b t rv mc mt w (QyG (fromB w.heap.size) P1 P2)):=by
 have H:=Qab h;have aF:=Qab aq;have aD:=Qab ap;have ab:=Qab ay;have ae:=Qab ak;have aA:=Qab hS;have ao:=h.at_.lt;clear h aq ap ay ak hS;go_enter func165,ntmps165;go_wp2_with fail;have aj:=Qab ((Mod.refl b w).alloc (.cells #[.nilIface,.slice none 0 0] 271));refine(aF.o _ s aj.o (H.o.alloc _)).mono ?_;intro e w1 h1;rcases h1.cases with⟨y,v,hy,rfl,hv,hc,hm⟩ | ⟨f,hf,⟨bb,hz,rfl,ah⟩,hm⟩
 rotate_left
 ·exact⟨rfl,Qap.err (Qae hf) (aj.o.trans hm) ⟨bb,by simp at hz;omega,rfl,ah⟩⟩
 have HV:=Qab hv;obtain⟨ty,x,rfl⟩:=ab.o.form _ _ _ _ hv;have HY:=Qab hy;have HC:=Qab hc;have ad:=Qab (aj.o.trans hm);have au:=Qab (QaI (Qam w (.cells #[.nilIface,.slice none 0 0] 271)) hm (by omega));have hz1:w.heap.size<w1.heap.size:=Qar au.o;clear h1 hy hc hm hv;go_wp2_with fail;refine(QmN af P2 (d+1) b F t y.2 rv mc mt _ HC.o hF ae.o aA.o (aD.o.mod ad.o)).mono ?_;intro e w2 h2;rcases h2.cases with⟨z,v2,av,rfl,ag,ax,aa⟩ | ⟨f,hf,⟨bb,hz,rfl,ah⟩,aa⟩
 rotate_left
 ·exact⟨rfl,Qap.err ((Qad HY.o).trans (Qae hf)) (ad.o.trans aa) ⟨bb,Nat.le_trans ad.o.size hz,rfl,ah⟩⟩
 have aB:=Qab ag;obtain⟨ba,bn,bc,rfl⟩:=ag.form;have aH:=Qab (ab.o.keep _ _ _ _ _ HV.o (aa.abvX (Qm1 (by simp;omega))));have aG:=Qab av;have aC:=Qab ax;have aE:=Qab (ad.o.trans aa);have ai:=Qab (QaI au.o aa (by omega));have r0:w2.cell? ⟨w.heap.size,0,none⟩=some .nilIface:=Qaa ai.o 0;have r1:w2.cell? ⟨w.heap.size,1,none⟩=some (.slice none 0 0):=Qaa ai.o 1;have rf:=Qah ai.o;clear h2 av ax aa ag;go_wp2;have ar:¬ fromB (w.heap.size+1) w.heap.size:=by unfold fromB;omega
 have az:¬ fromB w1.heap.size w.heap.size:=by unfold fromB;omega
 have ac:=aH.o;rw[show(w.alloc (.cells #[.nilIface,.slice none 0 0] 271)).heap.size=w.heap.size+1 from by simp]at ac;refine bodyPost_ret (v:=.agg #[.iface ty x,.slice ba bn bc]) (by simp[results,results165,go_sem,r0,r1]) rfl (Qap.ok ((Qad HY.o).trans (Qad aG.o)) ((aE.o.setNew (Nat.le_refl _) _ _).setNew (Nat.le_refl _) _ _) ⟨_,_,rfl,?_,?_⟩ ((aC.o.setNew ao _ _).setNew ao _ _))
 ·exact ab.o.weak _ _ _ _ _ (ab.o.keep _ _ _ _ _ (ab.o.keep _ _ _ _ _ ac (AbvX.set ar _ _)) (AbvX.set ar _ _)) (fun k hk _=>by unfold fromB at *;omega)
 ·exact blX.weak ae.o ((aB.o.keep ae.o (AbvX.set az _ _)).keep ae.o (AbvX.set az _ _)) (fun k hk _=>by unfold fromB at *;omega)
end
section
open Go.RowKit
attribute [local go_sem ↓] Go.wp_at_zero Go.wp_at_succ
abbrev QtR:Obj:=.cells #[.string ⟨#[]⟩,.int .i64 0,.int .i64 0,.string ⟨#[]⟩,.string ⟨#[]⟩] 269
def QxW (l:L8) (s:PS):Except Flt ((Nat×L8×L8)×PS):=
 QaX (mayL l [Qdc,Qc9,Qch] s) fun tag s1=>QaX (sL l (fun x=>if isNameL x then 0 else 7) s1) fun v s2=>
  QaX (sL l (fun _=>0) s2) fun x s3=>semi l s3 (tag,zL v,x)
theorem Qw1(hw:L8)(hp:Nat)(d:Int)(b:Nat)(t:ByteArray)(s:PS)(rv:Value)(mc mt:Nat)(w:World)(h:RC w b t s rv mc mt) :
 Calls Tryz.prog 105 #[.pointer (some ⟨b,0,none⟩),Qcj hw hp,.int .i64 d] w (Qap (QxW t.data.toList s) b t rv mc mt w (fun x w' v=>v=.iface 269 (.agg #[.string (sA hw),.int .i64 hp,.int .i64 x.1,.string (sA x.2.1),.string (sA x.2.2)]))):=by
 have H:=Qab h;have hlt:=h.at_.lt;have aK:¬ w.heap.size=b:=by omega
 have aV:¬ w.heap.size+1=b:=by omega
 have aS:¬ w.heap.size+1+1=b:=by omega
 clear h;unfold Qcj;go_enter func105,ntmps105;go_upto_region 1 with fail
 go_cut [7] (fun v wc=>∃(T:Nat) (y:Nat×PS),v=.pointer (some ⟨T,0,none⟩)/\mayL t.data.toList [Qdc,Qc9,Qch] s=.ok y/\RC wc b t y.2 rv mc mt/\Mod b w wc/\w.heap.size<=T/\wc.heap[T]?=some (.cells #[.string (sA hw),.int .i64 hp,.int .i64 y.1,.string ⟨#[]⟩,.string ⟨#[]⟩] 269))
 case first=>
  go_region_with (first|(go_at_call 162;refine(QnL _).mono ?_;rintro e w' ⟨rfl,rfl⟩;skip)|(go_at_call 161;refine(QgI b _ 3 3 [Qdc,Qc9,Qch] t s rv mc mt _ (by first|exact((H.o.alloc _).alloc _).drew|exact(((H.o.alloc _).alloc _).alloc _).drew) (by first|exact(QbZ _ _ (by simp)).drew|exact((QbZ _ _ (by simp)).alloc _).drew) rfl (by decide)).mono ?_;intro e w1 h1;rcases h1.cases with⟨y,v,hy,rfl,hv,hc,hm⟩ | ⟨f,hf,⟨bb,hz,rfl,aa⟩,hm⟩;rotate_left;exact⟨rfl,Qap.err (Qae hf) (by first|exact(((Mod.refl b w).alloc _).alloc _).trans (QaQ hm)|exact((((Mod.refl b w).alloc _).alloc _).alloc _).trans (QaQ hm)) ⟨bb,by simp at hz;omega,rfl,aa⟩⟩;unfold Qj9 at hv;subst hv;have aj:=QaI (g:=w.heap.size) (o:=.cells #[.string (sA hw),.int .i64 hp] 200) (by first|exact Qac (Qam _ _)|exact Qac (Qac (Qam _ _))) (QaQ hm) aK;have aO:w1.cell? ⟨w.heap.size,0,none⟩=some (.string (sA hw)):=Qaa aj 0;have aR:w1.cell? ⟨w.heap.size,1,none⟩=some (.int .i64 hp):=Qaa aj 1;clear aj;(first|(have tb:=QaI (g:=w.heap.size+1) (o:=QtR) (Qac (Qaq (by simp))) (QaQ hm) aV;have t0:w1.cell? ⟨w.heap.size+1,0,none⟩=some (.string ⟨#[]⟩):=Qaa tb 0;have t1:w1.cell? ⟨w.heap.size+1,1,none⟩=some (.int .i64 0):=Qaa tb 1;have t2:w1.cell? ⟨w.heap.size+1,2,none⟩=some (.int .i64 0):=Qaa tb 2;have t3:w1.cell? ⟨w.heap.size+1,3,none⟩=some (.string ⟨#[]⟩):=Qaa tb 3;have t4:w1.cell? ⟨w.heap.size+1,4,none⟩=some (.string ⟨#[]⟩):=Qaa tb 4;have tf:=Qah tb;have TB:=Qab tb;clear tb)|(have tb:=QaI (g:=w.heap.size+1+1) (o:=QtR) (Qaq (by simp)) (QaQ hm) aS;have t0:w1.cell? ⟨w.heap.size+1+1,0,none⟩=some (.string ⟨#[]⟩):=Qaa tb 0;have t1:w1.cell? ⟨w.heap.size+1+1,1,none⟩=some (.int .i64 0):=Qaa tb 1;have t2:w1.cell? ⟨w.heap.size+1+1,2,none⟩=some (.int .i64 0):=Qaa tb 2;have t3:w1.cell? ⟨w.heap.size+1+1,3,none⟩=some (.string ⟨#[]⟩):=Qaa tb 3;have t4:w1.cell? ⟨w.heap.size+1+1,4,none⟩=some (.string ⟨#[]⟩):=Qaa tb 4;have tf:=Qah tb;have TB:=Qab tb;clear tb)|skip);have aE:=hm.size;simp at aE;have aq:w.heap.size<w1.heap.size:=(by omega);have hh0a:∀ o,(w1.alloc o).cell? ⟨w.heap.size,0,none⟩=some (.string (sA hw)):=(fun o=>by rw[World.cell?_alloc_past _ _ _ aq];exact aO);have hh1a:∀ o,(w1.alloc o).cell? ⟨w.heap.size,1,none⟩=some (.int .i64 hp):=(fun o=>by rw[World.cell?_alloc_past _ _ _ aq];exact aR);have HY:=Qab hy;have HC:=Qab hc;have ar:Hid (Mod b w w1):=(by first|exact(((Mod.refl b w).alloc _).alloc _).trans (QaQ hm)|exact((((Mod.refl b w).alloc _).alloc _).alloc _).trans (QaQ hm));clear h1 hy hc hm;skip))
  all_goals (go_wp2_with fail;go_meet)
  all_goals first
   |(have hTB:=TB;exact⟨_,y,rfl,HY.o,((((HC.o.setNew (by omega) _ _).setNew (by omega) _ _).setNew (by omega) _ _).setNew (by omega) _ _).setNew (by omega) _ _,((((ar.o.setNew (by omega) _ _).setNew (by omega) _ _).setNew (by omega) _ _).setNew (by omega) _ _).setNew (by omega) _ _,by omega,Qag _ _ _ _ _ _ (Qag _ _ _ _ _ _ (Qag _ _ _ _ _ _ (Qag _ _ _ _ _ _ (Qag _ _ _ _ _ _ TB.o))))⟩)
   |exact⟨w1.heap.size,y,rfl,HY.o,HC.o.alloc _,ar.o.alloc _,by omega,Qam _ _⟩
 case rest=>
  obtain⟨T,y,rfl,hy,hc,hm,hT,hb⟩:=hcut;have hlt2:=Qar hb;have aw:b<T:=by omega
  have HY:=Qab hy;have HC:=Qab hc;have HM:=Qab hm;have HB:=Qab hb;clear hy hc hm hb;go_wp2_with fail;refine(QnK b t y.2 rv mc mt _ HC.o).mono ?_;intro e w1 h1;rcases h1.cases with⟨y1,v1,ao,rfl,az,aC,ae⟩ | ⟨f,hf,⟨bb,hz,rfl,aa⟩,ae⟩
  rotate_left
  ·exact⟨rfl,Qap.err ((Qad HY.o).trans (Qae hf)) (HM.o.trans ae) ⟨bb,Nat.le_trans HM.o.size hz,rfl,aa⟩⟩
  unfold Qsa at az;subst az;have ai:=Qab ao;have aX:=Qab aC;have aL:=Qab (HM.o.trans ae);have aW:=Qab (QaI HB.o ae (by omega))
  have hx1:y1.1.length<=600:=by
   have h1:=(QdJ (l:=t.data.toList) (by simpa using HC.o.le) ao).2;have h2:=HC.o.sz.1;rw[h1];exact h2
  clear h1 ao aC ae;go_wp2_with fail;refine(QeQ (sA y1.1) _ (by rw[Qal];omega)).mono ?_;rintro e w2 ⟨rfl,ag⟩;have af:=QaI aW.o (Mod.of_below (b:=b) ag) (by omega);have t3:w2.cell? ⟨T,3,none⟩=some (.string ⟨#[]⟩):=Qaa af 3;have tf:=Qah af;have aP:=Qab (aX.o.below ag);have ak:=Qab (aL.o.trans (Mod.of_below (b:=b) ag));have aH:=Qab af;clear af ag;go_wp2_with fail;refine(Qdw b t y1.2 rv mc mt _ (aP.o.setNew aw _ _)).mono ?_;intro e w3 h3;rcases h3.cases with⟨y3,v3,au,rfl,aA,av,ad⟩ | ⟨f,hf,⟨bb,hz,rfl,aa⟩,ad⟩
  rotate_left
  ·exact⟨rfl,Qap.err ((Qad HY.o).trans ((Qad ai.o).trans (Qae hf))) ((ak.o.setNew hT _ _).trans ad) ⟨bb,Nat.le_trans (ak.o.setNew hT _ _).size hz,rfl,aa⟩⟩
  unfold Qsa at aA;subst aA;have ah:=QaI (Qag _ T 3 (.string ⟨(zL y1.1).toArray⟩) _ _ aH.o) ad (by omega);have t4:w3.cell? ⟨T,4,none⟩=some (.string ⟨#[]⟩):=Qaa ah 4;have aI:=Qah ah;have aD:=Qab au;have aQ:=Qab av;have aG:=Qab ((ak.o.setNew hT 3 (.string ⟨(zL y1.1).toArray⟩)).trans ad);have aM:=Qab ah;clear ah h3 au av ad t3 tf;go_wp2_with fail;have aT:=Qab (Qag _ T 4 (.string (sA y3.1)) _ _ aM.o);have aU:=Qab (aQ.o.setNew aw 4 (.string (sA y3.1)));have ap:=Qab (aG.o.setNew hT 4 (.string (sA y3.1)));have HP:=Qab (QcF b w3.heap.size 1 1 [[59]] t y3.2 rv mc mt _ (aU.o.alloc (.cells (QaD [[59]]).toArray 9)) (QbZ _ _ (by simp[World.setCell])) rfl (by decide));refine HP.o.mono ?_;intro e w5 h5;rcases h5.cases with⟨y5,v5,ax,rfl,aB,ay,ac⟩ | ⟨f,hf,⟨bb,hz,rfl,aa⟩,ac⟩
  rotate_left
  ·exact⟨rfl,Qap.err ((Qad HY.o).trans ((Qad ai.o).trans ((Qad aD.o).trans (Qae hf)))) ((ap.o.alloc _).trans ac) ⟨bb,Nat.le_trans (ap.o.alloc _).size hz,rfl,aa⟩⟩
  unfold Qj9 at aB;subst aB;have ab:=QaI (Qac aT.o) ac (by omega);have q0:w5.cell? ⟨T,0,none⟩=some (.string (sA hw)):=Qaa ab 0;have q1:w5.cell? ⟨T,1,none⟩=some (.int .i64 hp):=Qaa ab 1;have q2:w5.cell? ⟨T,2,none⟩=some (.int .i64 y.1):=Qaa ab 2;have q3:w5.cell? ⟨T,3,none⟩=some (.string (sA (zL y1.1))):=Qaa ab 3;have q4:w5.cell? ⟨T,4,none⟩=some (.string (sA y3.1)):=Qaa ab 4;have aJ:=Qab ax;have aF:=Qab ay;have aN:=Qab ((ap.o.alloc (.cells (QaD [[59]]).toArray 9)).trans ac);clear h5 ax ay ac ab HP t4 aI;go_wp2;go_ret;exact Qap.ok ((Qad HY.o).trans ((Qad ai.o).trans ((Qad aD.o).trans (Qad aJ.o)))) aN.o rfl aF.o
end
section
open Go.RowKit
def QlQ (w:World) (b:Nat) (rv:Value) (req:List (L8)):Prop:=
 (rv=.slice none 0 0∧req=[])∨∃ g c,rv=.slice (some ⟨g,0,none⟩) req.length c∧g≠b∧Qc5 w g req∧req≠[]∧req.length≤1000
theorem QlQ.mod{w w':World}{b:Nat}{rv:Value}{req:List (L8)}(h:QlQ w b rv req)(hm:Mod b w w'):QlQ w' b rv req:=by
 rcases h with h | ⟨g,c,h1,h2,h3,h4,h5⟩
 ·exact Or.inl h
 ·exact Or.inr ⟨g,c,h1,h2,fun j hj=>Qbz (h3 j hj) hm h2,h4,h5⟩
theorem Qhi(w:World)(b:Nat)(rv:Value)(req:List (L8))(x:L8)(h:QlQ w b rv req) :
 Calls Tryz.prog 37 #[rv,.string (sA x)] w fun e w'=>e=.returned (.bool (decide (0<wL req x)))/\w'=w:=by
 rcases h with⟨rfl,rfl⟩ | ⟨g,c,rfl,h2,h3,h4,h5⟩
 ·exact Tryz.slices_Contains_string_empty none 0 (sA x) w
 ·exact Qhn g _ c req x w h3 rfl h5
theorem Qh3{req:List (L8)}{sp:L8}(h:sp=QaN\/sp=Qa5\/sp=QaG):Qcu req sp=decide (0<wL req sp):=by unfold Qcu;rw[if_pos h]
theorem Qml{req:List (L8)}{sp:L8}(h:¬(sp=QaN\/sp=Qa5\/sp=QaG))(h2:sp=QhO\/sp=Qbl):Qcu req sp=decide (0<wL req Qbm):=by unfold Qcu;rw[if_neg h,if_pos h2]
theorem Qpu{req:List (L8)}{sp:L8}(h:¬(sp=QaN\/sp=Qa5\/sp=QaG))(h2:¬(sp=QhO\/sp=Qbl)):Qcu req sp=true:=by unfold Qcu;rw[if_neg h,if_neg h2]
theorem Qdi(sp:L8)(req:List (L8))(b:Nat)(t:ByteArray)(s:PS)(rv:Value)(mc mt:Nat)(w:World)(h:RC w b t s rv mc mt)(hr:QlQ w b rv req) :
 Calls Tryz.prog 217 #[.pointer (some ⟨b,0,none⟩),.string (sA sp)] w fun e w'=>e=.returned (.bool (Qcu req sp))/\w'=w:=by
 have h7:w.cell? ⟨b,7,none⟩=some rv:=h.at_.cell 7;have HC:=Qab (fun x=>Qhi w b rv req x hr)
 obtain⟨ra,rn,rc,aa⟩:∃ a n c,rv=.slice a n c:=by
  rcases hr with⟨h,_⟩ | ⟨g,c,h,_⟩
  ·exact⟨_,_,_,h⟩
  ·exact⟨_,_,_,h⟩
 subst aa;clear h hr;have e1:((sA sp).toList==[102,105,108,101,105,110,116,111])=decide (sp=QaN):=QcV sp QaN;have e2:((sA sp).toList==[114,101,106,101,99,116])=decide (sp=Qa5):=QcV sp Qa5;have e3:((sA sp).toList==[101,110,118,101,108,111,112,101])=decide (sp=QaG):=QcV sp QaG;have e4:((sA sp).toList==[115,101,116])=decide (sp=QhO):=QcV sp QhO;have e5:((sA sp).toList==[115,116,114,105,110,103])=decide (sp=Qbl):=QcV sp Qbl;by_cases a1:sp=QaN
 ·have HE:=Qab (Qh3 (req:=req) (Or.inl a1));rw[decide_eq_true a1]at e1;clear e2 e3 e4 e5;clear a1;go_enter func217,ntmps217;go_wp2_with (go_at_call 37;refine(HC.o sp).mono ?_;rintro e w' ⟨rfl,rfl⟩);go_ret;exact⟨QaF (by rw[HE.o]),rfl⟩
 by_cases a2:sp=Qa5
 ·have HE:=Qab (Qh3 (req:=req) (Or.inr (Or.inl a2)));rw[decide_eq_false a1]at e1;rw[decide_eq_true a2]at e2;clear e3 e4 e5;clear a2 a1;go_enter func217,ntmps217;go_wp2_with (go_at_call 37;refine(HC.o sp).mono ?_;rintro e w' ⟨rfl,rfl⟩);go_ret;exact⟨QaF (by rw[HE.o]),rfl⟩
 by_cases a3:sp=QaG
 ·have HE:=Qab (Qh3 (req:=req) (Or.inr (Or.inr a3)));rw[decide_eq_false a1]at e1;rw[decide_eq_false a2]at e2;rw[decide_eq_true a3]at e3;clear e4 e5;clear a3 a1 a2;go_enter func217,ntmps217;go_wp2_with (go_at_call 37;refine(HC.o sp).mono ?_;rintro e w' ⟨rfl,rfl⟩);go_ret;exact⟨QaF (by rw[HE.o]),rfl⟩
 have hN:¬(sp=QaN\/sp=Qa5\/sp=QaG):=by
  rintro(h|h|h)
  ·exact a1 h
  ·exact a2 h
  ·exact a3 h
 by_cases a4:sp=QhO
 ·have HE:=Qab (Qml (req:=req) hN (Or.inl a4));clear hN;rw[decide_eq_false a1]at e1;rw[decide_eq_false a2]at e2;rw[decide_eq_false a3]at e3;rw[decide_eq_true a4]at e4;clear e5;clear a4 a1 a2 a3;go_enter func217,ntmps217;go_wp2_with (go_at_call 37;refine(HC.o Qbm).mono ?_;rintro e w' ⟨rfl,rfl⟩);go_ret;exact⟨QaF (by rw[HE.o]),rfl⟩
 by_cases a5:sp=Qbl
 ·have HE:=Qab (Qml (req:=req) hN (Or.inr a5));clear hN;rw[decide_eq_false a1]at e1;rw[decide_eq_false a2]at e2;rw[decide_eq_false a3]at e3;rw[decide_eq_false a4]at e4;rw[decide_eq_true a5]at e5;clear a5 a1 a2 a3 a4;go_enter func217,ntmps217;go_wp2_with (go_at_call 37;refine(HC.o Qbm).mono ?_;rintro e w' ⟨rfl,rfl⟩);go_ret;exact⟨QaF (by rw[HE.o]),rfl⟩
 have HE:=Qab (Qpu (req:=req) hN (by rintro(h|h)<;>contradiction));clear hN;rw[decide_eq_false a1]at e1;rw[decide_eq_false a2]at e2;rw[decide_eq_false a3]at e3;rw[decide_eq_false a4]at e4;rw[decide_eq_false a5]at e5;clear a1 a2 a3 a4 a5;go_enter func217,ntmps217;go_wp2_with (go_at_call 37;refine(HC.o sp).mono ?_;rintro e w' ⟨rfl,rfl⟩);go_ret;exact⟨QaF (by rw[HE.o]),rfl⟩
end
section
open Go.RowKit
attribute [local go_sem ↓] Go.wp_at_zero Go.wp_at_succ
def slX (X:Nat→Prop) (xs:List (L8)) (w:World) (v:Value):Prop:=
 ∃ g c,v=.slice (some ⟨g,0,none⟩) xs.length c∧X g∧Qc5 w g xs∧xs≠[]
theorem slB.toX{B:Nat}{xs:List (L8)}{w:World}{v:Value}(h:slB B xs w v):slX (fromB B) xs w v:=h
theorem slX.keep{X:Nat->Prop}{xs:List (L8)}{w w':World}{v:Value}(h:slX X xs w v)(hk:AbvX X w w'):slX X xs w' v:=by
 obtain⟨g,c,hv,hg,ht,hx⟩:=h;refine⟨g,c,hv,hg,fun j hj=>?_,hx⟩;have:=ht j hj;rw[World.cell?_of_block (w:=w) (a:=⟨g,j,none⟩) (hk g hg (Qau this))];exact this
theorem slX.weak{X Y:Nat->Prop}{xs:List (L8)}{w:World}{v:Value}(h:slX X xs w v)(hB:∀ k,X k->k<w.heap.size->Y k):slX Y xs w v:=by
 obtain⟨g,c,hv,hg,ht,hx⟩:=h;exact⟨g,c,hv,hB g hg (Qau (ht 0 (List.length_pos_iff.2 hx))),ht,hx⟩
def mtX (X:Nat→Prop) (hw:L8) (x:Qec) (w:World) (v:Value):Prop:=
 ∃ fv kv,v=.agg #[.string (sA hw),.int .i64 x.pos,.int .i64 x.tag,.bool x.octet,fv,kv]∧slX X x.fr w fv∧slX X x.keys w kv
def Qeh {α:Type} (X:Nat→Prop) (P:(Nat→Prop)→α→World→Value→Prop) (x:Qec×List α) (w:World) (v:Value):Prop:=
 match x.1.kind with
 | 0=>x.2=[]∧v=.iface 278 (.agg #[.string (sA Qfz),.int .i64 x.1.pos,.bool true])
 | 1=>x.2=[]∧v=.iface 278 (.agg #[.string (sA Qdt),.int .i64 x.1.pos,.bool false])
 | 2=>∃ a u,x.2=[a]∧v=.iface 281 (.agg #[.string (sA kNot),.int .i64 x.1.pos,u])∧P X a w u
 | 3=>∃ u,v=.iface 208 (.agg #[.string (sA QcC),.int .i64 x.1.pos,u])∧trX X P x.2 w u∧x.2≠[]
 | 4=>∃ u,v=.iface 209 (.agg #[.string (sA QcL),.int .i64 x.1.pos,u])∧trX X P x.2 w u∧x.2≠[]
 | 5=>x.2=[]∧∃ u,v=.iface 215 u∧mtX X QbM x.1 w u
 | 6=>x.2=[]∧∃ u,v=.iface 218 u∧mtX X QaG x.1 w u
 | 7=>x.2=[]∧∃ u,v=.iface 219 u∧mtX X Qbl x.1 w u
 | 8=>x.2=[]∧∃ u,v=.iface 285 (.agg #[.string (sA Qby),.int .i64 x.1.pos,u])∧slX X x.1.fr w u
 | _=>x.2=[]∧v=.iface 287 (.agg #[.string (sA QdU),.int .i64 x.1.pos,.int .i64 x.1.tag,.int .i64 x.1.num])
def TestV:(n:Nat)→(Nat→Prop)→QdG n→World→Value→Prop
 | 0,_,_,_,_=>False
 | n+1,X,x,w,v=>Qeh X (TestV n) x w v
theorem QqW{α:Type}{X:Nat->Prop}{P:(Nat->Prop)->α->World->Value->Prop}{x:Qec×List α}{w:World}{v:Value}(h:Qeh X P x w v):∃ ty y,v=.iface ty y:=by
 unfold Qeh at h
 split at h
 ·exact⟨_,_,h.2⟩
 ·exact⟨_,_,h.2⟩
 ·obtain⟨a,u,_,h,_⟩:=h;exact⟨_,_,h⟩
 ·obtain⟨u,h,_⟩:=h;exact⟨_,_,h⟩
 ·obtain⟨u,h,_⟩:=h;exact⟨_,_,h⟩
 ·obtain⟨_,u,h,_⟩:=h;exact⟨_,_,h⟩
 ·obtain⟨_,u,h,_⟩:=h;exact⟨_,_,h⟩
 ·obtain⟨_,u,h,_⟩:=h;exact⟨_,_,h⟩
 ·obtain⟨_,u,h,_⟩:=h;exact⟨_,_,h⟩
 ·exact⟨_,_,h.2⟩
theorem mtX.keep{X:Nat->Prop}{hw:L8}{x:Qec}{w w':World}{v:Value}(h:mtX X hw x w v)(hk:AbvX X w w'):mtX X hw x w' v:=by
 obtain⟨fv,kv,h1,h2,h3⟩:=h;exact⟨fv,kv,h1,h2.keep hk,h3.keep hk⟩
theorem mtX.weak{X Y:Nat->Prop}{hw:L8}{x:Qec}{w:World}{v:Value}(h:mtX X hw x w v)(hB:∀ k,X k->k<w.heap.size->Y k):mtX Y hw x w v:=by
 obtain⟨fv,kv,h1,h2,h3⟩:=h;exact⟨fv,kv,h1,h2.weak hB,h3.weak hB⟩
theorem Qrq{α:Type}{X:Nat->Prop}{P:(Nat->Prop)->α->World->Value->Prop}(hP:TreeP P){x:Qec×List α}{w w':World}{v:Value}(h:Qeh X P x w v)(hk:AbvX X w w'):Qeh X P x w' v:=by
 unfold Qeh at h ⊢
 split at h
 ·exact h
 ·exact h
 ·obtain⟨a,u,h1,h2,h3⟩:=h;exact⟨a,u,h1,h2,hP.keep _ _ _ _ _ h3 hk⟩
 ·obtain⟨u,h1,h2,h3⟩:=h;exact⟨u,h1,h2.keep hP hk,h3⟩
 ·obtain⟨u,h1,h2,h3⟩:=h;exact⟨u,h1,h2.keep hP hk,h3⟩
 ·obtain⟨h0,u,h1,h2⟩:=h;exact⟨h0,u,h1,h2.keep hk⟩
 ·obtain⟨h0,u,h1,h2⟩:=h;exact⟨h0,u,h1,h2.keep hk⟩
 ·obtain⟨h0,u,h1,h2⟩:=h;exact⟨h0,u,h1,h2.keep hk⟩
 ·obtain⟨h0,u,h1,h2⟩:=h;exact⟨h0,u,h1,h2.keep hk⟩
 ·exact h
theorem Qre{α:Type}{X Y:Nat->Prop}{P:(Nat->Prop)->α->World->Value->Prop}(hP:TreeP P){x:Qec×List α}{w:World}{v:Value}(h:Qeh X P x w v)(hB:∀ k,X k->k<w.heap.size->Y k):Qeh Y P x w v:=by
 unfold Qeh at h ⊢
 split at h
 ·exact h
 ·exact h
 ·obtain⟨a,u,h1,h2,h3⟩:=h;exact⟨a,u,h1,h2,hP.weak _ _ _ _ _ h3 hB⟩
 ·obtain⟨u,h1,h2,h3⟩:=h;exact⟨u,h1,trX.weak hP h3 h2 hB,h3⟩
 ·obtain⟨u,h1,h2,h3⟩:=h;exact⟨u,h1,trX.weak hP h3 h2 hB,h3⟩
 ·obtain⟨h0,u,h1,h2⟩:=h;exact⟨h0,u,h1,h2.weak hB⟩
 ·obtain⟨h0,u,h1,h2⟩:=h;exact⟨h0,u,h1,h2.weak hB⟩
 ·obtain⟨h0,u,h1,h2⟩:=h;exact⟨h0,u,h1,h2.weak hB⟩
 ·obtain⟨h0,u,h1,h2⟩:=h;exact⟨h0,u,h1,h2.weak hB⟩
 ·exact h
theorem Qbi:∀ n,TreeP (TestV n)
 |0=>⟨fun _ _ _ _ h=>h.elim,fun _ _ _ _ _ h=>h.elim,fun _ _ _ _ _ h=>h.elim⟩
 |n+1=>⟨fun _ _ _ _ h=>QqW h,fun _ _ _ _ _ h hk=>Qrq (Qbi n) h hk,fun _ _ _ _ _ h hB=>Qre (Qbi n) h hB⟩
def Qtn (w:World) (T:TypeId) (m:Nat) (f:L8→Option Value):Prop:=
 ∀ (W:World) (x:L8),W.heap[m]?=w.heap[m]?→(Instr.lookup T (.map (some m)) (.string (sA x)) true).run Tryz.prog W=.ok (.tuple #[(f x).getD .nilFunc,.bool (f x).isSome]) W
def testFn (b pr pt pf:Nat) (x:L8):Option Value:=
 match wL tNs x with
 | 1=>some (.func (.func 167) #[] #[.pointer (some ⟨pt,0,none⟩)])
 | 2=>some (.func (.func 167) #[] #[.pointer (some ⟨pf,0,none⟩)])
 | 3=>some (.func (.func 108) #[.pointer (some ⟨b,0,none⟩)] #[])
 | 4=>some (.func (.func 109) #[] #[.pointer (some ⟨pr,0,none⟩)])
 | 5=>some (.func (.func 111) #[] #[.pointer (some ⟨pr,0,none⟩)])
 | 6=>some (.func (.func 112) #[] #[.pointer (some ⟨pr,0,none⟩)])
 | 7=>some (.func (.func 115) #[] #[.pointer (some ⟨pr,0,none⟩)])
 | 8=>some (.func (.func 118) #[] #[.pointer (some ⟨pr,0,none⟩)])
 | 9=>some (.func (.func 119) #[.pointer (some ⟨b,0,none⟩)] #[])
 | 10=>some (.func (.func 120) #[.pointer (some ⟨b,0,none⟩)] #[])
 | _=>none
structure Qo9 (w:World) (b mt pr pt pf:Nat):Prop where
 look:Qtn w 192 mt (testFn b pr pt pf)
 hpr:Qno w pr b
 hpt:w.cell? ⟨pt,0,none⟩=some (.bool true)
 hpf:w.cell? ⟨pf,0,none⟩=some (.bool false)
 ptb:pt≠b
 pfb:pf≠b
 mtb:mt≠b
 mtl:mt < w.heap.size
theorem Qo9.mod{w w':World}{b mt pr pt pf:Nat}(h:Qo9 w b mt pr pt pf)(hm:Mod b w w'):Qo9 w' b mt pr pt pf:=
 ⟨fun W x e=>h.look W x (e.trans (hm.block mt h.mtl h.mtb)),h.hpr.mod hm,Qbz h.hpt hm h.ptb,Qbz h.hpf hm h.pfb,h.ptb,h.pfb,h.mtb,Nat.lt_of_lt_of_le h.mtl hm.size⟩
theorem Qi8{b pr pt pf:Nat}{x:L8}(h:wL tNs x=0):testFn b pr pt pf x=none:=by unfold testFn;rw[h];rfl
theorem Qjt(d:Int)(b:Nat)(t:ByteArray)(s:PS)(rv:Value)(mc mt pr pt pf:Nat)(w:World)(h:RC w b t s rv mc mt)(ht:Qo9 w b mt pr pt pf)(hd:d<=6)(h0:wL tNs s.1.spelt=0) :
 Calls Tryz.prog 207 #[.pointer (some ⟨b,0,none⟩),.map (some mt),.int .i64 d] w fun e w'=>QcN ⟨4,s.1.pos⟩ w e w'/\Mod b w w':=by
 have h1:w.cell? ⟨b,1,none⟩=some (.int .i64 s.1.kind):=h.at_.cell 1;have h3:w.cell? ⟨b,3,none⟩=some (.string (sA s.1.spelt)):=h.at_.cell 3;have ac:=ht.look w s.1.spelt rfl;rw[Qi8 h0]at ac;have H:=Qab h;clear h ht h0;simp only[Option.getD_none,Option.isSome_none]at ac;by_cases hk:s.1.kind=1
 ·have ad:((s.1.kind:Int) != 1)=false:=by simp;omega
  clear hk;go_enter func207,ntmps207;go_wp2_with fail;refine(Qay b _ _ _ rfl).mono ?_;rintro e w' ⟨rfl,aa⟩;subst aa;go_wp2_with fail;refine(Qa7 b 4 _ _ t s.1 s.2 rv mc mt _ H.o.at_ rfl rfl).mono ?_;rintro e w1 ⟨⟨bb,hz,rfl,ab⟩,hm⟩;exact⟨rfl,⟨bb,hz,rfl,ab⟩,Mod.of_below hm⟩
 ·have ad:((s.1.kind:Int) != 1)=true:=by simp;omega
  clear hk;go_enter func207,ntmps207;go_wp2_with fail;refine(Qay b _ _ _ rfl).mono ?_;rintro e w' ⟨rfl,aa⟩;subst aa;go_wp2_with fail;refine(Qa7 b 4 _ _ t s.1 s.2 rv mc mt _ H.o.at_ rfl rfl).mono ?_;rintro e w1 ⟨⟨bb,hz,rfl,ab⟩,hm⟩;exact⟨rfl,⟨bb,hz,rfl,ab⟩,Mod.of_below hm⟩
end
section
open Go.RowKit
def QfS {α β:Type} (X:Nat→Prop) (P1:(Nat→Prop)→β→World→Value→Prop) (P2:(Nat→Prop)→α→World→Value→Prop) (xs:List (β×List α)) (w:World) (v:Value):Prop:=
 ∃ g c,v=.slice (some ⟨g,0,none⟩) xs.length c∧X g∧∀ j (hj:j < xs.length),∃ u bv,w.cell? ⟨g,2*j,none⟩=some u∧w.cell? ⟨g,2*j+1,none⟩=some bv∧P1 X xs[j].1 w u∧blX X P2 xs[j].2 w bv
theorem QfS.keep{α β:Type}{X:Nat->Prop}{P1:(Nat->Prop)->β->World->Value->Prop}{P2:(Nat->Prop)->α->World->Value->Prop}(h1:TreeP P1)(h2:TreeP P2){xs:List (β×List α)}{w w':World}{v:Value}(h:QfS X P1 P2 xs w v)(hm:AbvX X w w'):QfS X P1 P2 xs w' v:=by
 obtain⟨g,c,hv,hg,hx⟩:=h;refine⟨g,c,hv,hg,fun j hj=>?_⟩;obtain⟨u,bv,hu,hb,hp,hq⟩:=hx j hj;refine⟨u,bv,?_,?_,h1.keep _ _ _ _ _ hp hm,hq.keep h2 hm⟩
 ·rw[World.cell?_of_block (w:=w) (a:=⟨g,2*j,none⟩) (hm g hg (Qau hu))];exact hu
 ·rw[World.cell?_of_block (w:=w) (a:=⟨g,2*j+1,none⟩) (hm g hg (Qau hb))];exact hb
theorem QfS.weak{α β:Type}{X Y:Nat->Prop}{P1:(Nat->Prop)->β->World->Value->Prop}{P2:(Nat->Prop)->α->World->Value->Prop}(h1:TreeP P1)(h2:TreeP P2){xs:List (β×List α)}{w:World}{v:Value}(aa:xs≠[])(h:QfS X P1 P2 xs w v)(hB:∀ k,X k->k<w.heap.size->Y k):QfS Y P1 P2 xs w v:=by
 obtain⟨g,c,hv,hg,hx⟩:=h;refine⟨g,c,hv,?_,fun j hj=>?_⟩
 ·obtain⟨u,bv,hu,_⟩:=hx 0 (List.length_pos_iff.2 aa);exact hB g hg (Qau hu)
 ·obtain⟨u,bv,hu,hb,hp,hq⟩:=hx j hj;exact⟨u,bv,hu,hb,h1.weak _ _ _ _ _ hp hB,hq.weak h2 hB⟩
def Qxv (hw:L8) (p k:Nat) (x:L8):Value:=.iface 262 (.agg #[.string (sA hw),.int .i64 p,.int .i64 k,.string (sA x)])
def Qij {α β:Type} (X:Nat→Prop) (P1:(Nat→Prop)→β→World→Value→Prop) (P2:(Nat→Prop)→α→World→Value→Prop) (x:Qjl×List (β×List α)×List α) (w:World) (v:Value):Prop:=
 match x.1.kind with
 | 0=>v=Qxv QfJ x.1.pos 1 []
 | 1=>v=.iface 264 (.agg #[.string (sA QbV),.int .i64 x.1.pos])
 | 2=>v=.iface 265 (.agg #[.string (sA QfP),.int .i64 x.1.pos])
 | 3=>v=Qxv QaN x.1.pos 2 x.1.arg
 | 4=>v=Qxv Qbc x.1.pos 3 x.1.arg
 | 5=>v=Qxv Qa5 x.1.pos 4 x.1.arg
 | 6=>v=.iface 269 (.agg #[.string (sA QhO),.int .i64 x.1.pos,.int .i64 x.1.tag,.string (sA x.1.var),.string (sA x.1.arg)])
 | _=>∃ av ev,v=.iface 275 (.agg #[.string (sA kIf),.int .i64 x.1.pos,av,.bool x.1.els,ev])∧QfS X P1 P2 x.2.1 w av∧x.2.1≠[]∧blX X P2 x.2.2 w ev
def Qji:(n:Nat)→(Nat→Prop)→QdT n→World→Value→Prop
 | 0,_,_,_,_=>False
 | n+1,X,x,w,v=>Qij X (TestV n) (Qji n) x w v
theorem Qqv{α β:Type}{X:Nat->Prop}{P1:(Nat->Prop)->β->World->Value->Prop}{P2:(Nat->Prop)->α->World->Value->Prop}{x:Qjl×List (β×List α)×List α}{w:World}{v:Value}(h:Qij X P1 P2 x w v):∃ ty y,v=.iface ty y:=by
 unfold Qij Qxv at h
 split at h
 ·exact⟨_,_,h⟩
 ·exact⟨_,_,h⟩
 ·exact⟨_,_,h⟩
 ·exact⟨_,_,h⟩
 ·exact⟨_,_,h⟩
 ·exact⟨_,_,h⟩
 ·exact⟨_,_,h⟩
 ·obtain⟨av,ev,h,_⟩:=h;exact⟨_,_,h⟩
theorem Qqw{α β:Type}{X:Nat->Prop}{P1:(Nat->Prop)->β->World->Value->Prop}{P2:(Nat->Prop)->α->World->Value->Prop}(h1:TreeP P1)(h2:TreeP P2){x:Qjl×List (β×List α)×List α}{w w':World}{v:Value}(h:Qij X P1 P2 x w v)(hk:AbvX X w w'):Qij X P1 P2 x w' v:=by
 unfold Qij at h ⊢
 split at h
 ·exact h
 ·exact h
 ·exact h
 ·exact h
 ·exact h
 ·exact h
 ·exact h
 ·obtain⟨av,ev,h,ha,hn,hb⟩:=h;exact⟨av,ev,h,ha.keep h1 h2 hk,hn,hb.keep h2 hk⟩
theorem Qrf{α β:Type}{X Y:Nat->Prop}{P1:(Nat->Prop)->β->World->Value->Prop}{P2:(Nat->Prop)->α->World->Value->Prop}(h1:TreeP P1)(h2:TreeP P2){x:Qjl×List (β×List α)×List α}{w:World}{v:Value}(h:Qij X P1 P2 x w v)(hB:∀ k,X k->k<w.heap.size->Y k):Qij Y P1 P2 x w v:=by
 unfold Qij at h ⊢
 split at h
 ·exact h
 ·exact h
 ·exact h
 ·exact h
 ·exact h
 ·exact h
 ·exact h
 ·obtain⟨av,ev,h,ha,hn,hb⟩:=h;exact⟨av,ev,h,QfS.weak h1 h2 hn ha hB,hn,hb.weak h2 hB⟩
theorem QaV:∀ n,TreeP (Qji n)
 |0=>⟨fun _ _ _ _ h=>h.elim,fun _ _ _ _ _ h=>h.elim,fun _ _ _ _ _ h=>h.elim⟩
 |n+1=>⟨fun _ _ _ _ h=>Qqv h,fun _ _ _ _ _ h hk=>Qqw (Qbi n) (QaV n) h hk,fun _ _ _ _ _ h hB=>Qrf (Qbi n) (QaV n) h hB⟩
theorem Qja{α β:Type}{l:L8}{F:Nat}{ac:PS->Except Flt (β×PS)}{ab:PS->Except Flt (α×PS)}{f:Nat}{aa:List (β×List α)}{s:PS}{e:Flt}(h:mayL l [QdF] s=.error e):aMr l F ac ab (f+1) aa s=.error e:=by rw[aMr];exact Qae h
theorem Qdz{α β:Type}{l:L8}{F:Nat}{ac:PS->Except Flt (β×PS)}{ab:PS->Except Flt (α×PS)}{f:Nat}{aa:List (β×List α)}{s:PS}{y:Nat×PS}(h:mayL l [QdF] s=.ok y)(h1:y.1=0):aMr l F ac ab (f+1) aa s=.ok (aa,y.2):=by rw[aMr,Qad h,if_pos h1]
theorem Qjf{α β:Type}{l:L8}{F:Nat}{ab:PS->Except Flt (β×PS)}{aa:PS->Except Flt (α×PS)}{f:Nat}{ac:List (β×List α)}{s:PS}{y:Nat×PS}{e:Flt}(h:mayL l [QdF] s=.ok y)(h1:¬ y.1=0)(h2:armL l F ab aa y.2=.error e):aMr l F ab aa (f+1) ac s=.error e:=by rw[aMr,Qad h,if_neg h1];exact Qae h2
theorem QoO{α β:Type}{l:L8}{F:Nat}{ab:PS->Except Flt (β×PS)}{aa:PS->Except Flt (α×PS)}{f:Nat}{ac:List (β×List α)}{s:PS}{y:Nat×PS}{z:(β×List α)×PS}(h:mayL l [QdF] s=.ok y)(h1:¬ y.1=0)(h2:armL l F ab aa y.2=.ok z):aMr l F ab aa (f+1) ac s=aMr l F ab aa f (ac++[z.1]) z.2:=by rw[aMr,Qad h,if_neg h1];exact Qad h2
def Qew {α:Type} (P:α→Value→Value→Prop):List α→List Value→Prop
 | [],[]=>True
 | a :: xs,u :: v :: vs=>P a u v∧Qew P xs vs
 | _,_=>False
theorem Qew.imp{α:Type}{P Q:α->Value->Value->Prop}(h:∀ a u v,P a u v->Q a u v):∀ {xs:List α} {vs:List Value},Qew P xs vs->Qew Q xs vs
 | [],[],_=>trivial
 |a::xs,u::v::vs,hr=>⟨h _ _ _ hr.1,Qew.imp h hr.2⟩
 | [],_::_,hr=>hr.elim
 |_::_,[],hr=>hr.elim
 |_::_,[_],hr=>hr.elim
theorem Qew.snoc{α:Type}{P:α->Value->Value->Prop}{a:α}{u v:Value}(h:P a u v):∀ {xs:List α} {vs:List Value},Qew P xs vs->Qew P (xs++[a]) (vs++[u,v])
 | [],[],_=>⟨h,trivial⟩
 |a'::xs,u'::v'::vs,hr=>⟨hr.1,Qew.snoc h hr.2⟩
 | [],_::_,hr=>hr.elim
 |_::_,[],hr=>hr.elim
 |_::_,[_],hr=>hr.elim
theorem Qew.at{α:Type}{P:α->Value->Value->Prop}:∀ {xs:List α} {vs:List Value},Qew P xs vs->∀ j (hj:j<xs.length),∃ u v,vs[2*j]?=some u/\vs[2*j+1]?=some v/\P xs[j] u v
 | [],[],_,j,hj=>absurd hj (Nat.not_lt_zero _)
 |a::xs,u::v::vs,h,0,_=>⟨u,v,rfl,rfl,h.1⟩
 |a::xs,u::v::vs,h,j+1,hj=>by
  obtain⟨u',v',h1,h2,h3⟩:=Qew.at h.2 j (by simpa using hj);refine⟨u',v',?_,?_,by simpa using h3⟩
  ·rw[show 2*(j+1)=2*j+1+1 from by omega];simpa using h1
  ·rw[show 2*(j+1)+1=2*j+1+1+1 from by omega];simpa using h2
 | [],_::_,h,_,_=>h.elim
 |_::_,[],h,_,_=>h.elim
 |_::_,[_],h,_,_=>h.elim
def QcS {α β:Type} (P1:(Nat→Prop)→β→World→Value→Prop) (P2:(Nat→Prop)→α→World→Value→Prop) (base T:Nat) (w:World) (v:Value) (a:β×List α) (u bv:Value):Prop:=
 ∃ X,P1 X a.1 w u∧blX X P2 a.2 w bv∧(∀ k,X k→base≤k∧k < w.heap.size)∧(∀ g,v.ownBlock=some g→¬ X g)∧¬ X T
theorem QcS.mod{α β:Type}{P1:(Nat->Prop)->β->World->Value->Prop}{P2:(Nat->Prop)->α->World->Value->Prop}(aa:TreeP P1)(ac:TreeP P2){base T b:Nat}{w w':World}{v:Value}{a:β×List α}{u bv:Value}(h:QcS P1 P2 base T w v a u bv)(hm:Mod b w w')(hb:b<base):QcS P1 P2 base T w' v a u bv:=by
 obtain⟨X,h1,ab,h2,h3,h4⟩:=h;have hA:AbvX X w w':=hm.abvX (fun e=>by have:=(h2 b e).1;omega);exact⟨X,aa.keep _ _ _ _ _ h1 hA,ab.keep ac hA,fun k hk=>⟨(h2 k hk).1,Nat.lt_of_lt_of_le (h2 k hk).2 hm.size⟩,h3,h4⟩
theorem QcS.set{α β:Type}{P1:(Nat->Prop)->β->World->Value->Prop}{P2:(Nat->Prop)->α->World->Value->Prop}(aa:TreeP P1)(ac:TreeP P2){base T:Nat}{w:World}{v:Value}{a:β×List α}{u bv:Value}(h:QcS P1 P2 base T w v a u bv)(o:Nat)(x:Value):QcS P1 P2 base T (w.setCell ⟨T,o,none⟩ x) v a u bv:=by
 obtain⟨X,h1,ab,h2,h3,h4⟩:=h;have hA:AbvX X w (w.setCell ⟨T,o,none⟩ x):=AbvX.set h4 _ _;exact⟨X,aa.keep _ _ _ _ _ h1 hA,ab.keep ac hA,fun k hk=>⟨(h2 k hk).1,by simpa[World.setCell]using(h2 k hk).2⟩,h3,h4⟩
theorem QcS.new{α β:Type}{P1:(Nat->Prop)->β->World->Value->Prop}{P2:(Nat->Prop)->α->World->Value->Prop}(aa:TreeP P1)(ab:TreeP P2){base T B:Nat}{w:World}{v:Value}{a:β×List α}{u bv:Value}(h:P1 (fromB B) a.1 w u)(h':blX (fromB B) P2 a.2 w bv)(hB:base<=B)(hv:∀ g,v.ownBlock=some g->g<B)(hT:T<B):QcS P1 P2 base T w v a u bv:=
 ⟨fun k=>B<=k/\k<w.heap.size,aa.weak _ _ _ _ _ h (fun k hk hz=>⟨hk,hz⟩),h'.weak ab (fun k hk hz=>⟨hk,hz⟩),fun k hk=>⟨Nat.le_trans hB hk.1,hk.2⟩,fun g hg hX=>by have:=hv g hg;omega,fun hX=>by omega⟩
theorem QcS.grown{α β:Type}{P1:(Nat->Prop)->β->World->Value->Prop}{P2:(Nat->Prop)->α->World->Value->Prop}(aa:TreeP P1)(ac:TreeP P2){base T:Nat}{w w':World}{v v':Value}{a:β×List α}{u bv:Value}{o:Obj}(h:QcS P1 P2 base T w v a u bv)(hg:(w.alloc o).grownBy w' v.ownBlock)(hv:v'.ownBlock=v.ownBlock\/v'.ownBlock=some (w.heap.size+1)):QcS P1 P2 base T w' v' a u bv:=by
 obtain⟨X,h1,ab,h2,h3,h4⟩:=h
 have hA:AbvX X w w':=fun k hk hz=>by
  rw[hg.block k (by simp;omega) (fun e=>h3 k e.symm hk)];exact Below.heap_alloc _ _ _ hz
 refine⟨X,aa.keep _ _ _ _ _ h1 hA,ab.keep ac hA,fun k hk=>⟨(h2 k hk).1,?_⟩,fun g hgb hX=>?_,h4⟩
 ·have:=(h2 k hk).2;have:=hg.size;simp at this;omega
 ·rcases hv with hv|hv
  ·exact h3 g (hv ▸ hgb) hX
  ·rw[hv]at hgb;have:=(h2 g hX).2;simp at hgb;omega
theorem QfS.of_owns{α β:Type}{P1:(Nat->Prop)->β->World->Value->Prop}{P2:(Nat->Prop)->α->World->Value->Prop}(ac:TreeP P1)(ae:TreeP P2){w:World}{base T n:Nat}{e:TypeId}{v:Value}{xs:List (β×List α)}{vs:List Value}(h:w.ownsRow base e 2 v n vs)(hn:n=xs.length)(hx:xs≠[])(aa:∀ g,v.ownBlock=some g->g≠T)(hr:Qew (fun a u bv=>QcS P1 P2 base T w v a u bv) xs vs):QfS (fun k=>base<=k/\k≠T) P1 P2 xs w v:=by
 subst hn;have hc:=fun g (hg:v.ownBlock=some g)=>h.cells hg
 obtain⟨h1,h2⟩:=h;rcases h2 with⟨_,h3⟩ | ⟨g,ad,cur,hv,hg,r⟩
 ·exact absurd (List.eq_nil_of_length_eq_zero h3) hx
 ·refine⟨g,ad,hv,⟨hg,aa g (by rw[hv];rfl)⟩,fun j hj=>?_⟩;obtain⟨u,bv,hu,hb,X,hp,hq,hX,_,ab⟩:=hr.at j hj;have k1:=hc g (by rw[hv];rfl) _ u hu;have k2:=hc g (by rw[hv];rfl) _ bv hb;rw[Qbu]at k1 k2;have hk:∀ k,X k->k<w.heap.size->base<=k/\k≠T:=fun k hk _=>⟨(hX k hk).1,fun e=>ab (e ▸ hk)⟩
  exact⟨u,bv,k1,k2,ac.weak _ _ _ _ _ hp hk,hq.weak ae hk⟩
end
section
open Go.RowKit
attribute [local go_sem ↓] Go.wp_at_zero Go.wp_at_succ
theorem Qaw:∀(zs:List (L8)) (x:L8) (i:Nat),wL zs x=i+1->zs[i]?=some x
 | [],x,i,h=>by simp[wL]at h
 |s::r,x,i,h=>by
  unfold wL at h
  split at h
  ·rename_i e;have:i=0:=by omega
   subst this;subst e;rfl
  ·split at h
   ·omega
   ·rename_i h1 h2;obtain⟨j,hj⟩:∃ j,wL r x=j+1:=⟨wL r x - 1,by omega⟩;have hi:i=j+1:=by omega
    subst hi;have:=Qaw r x j hj;simpa using this
theorem Qap.lift{α β:Type}{r:Except Flt (α×PS)}{R:Except Flt (β×PS)}{b:Nat}{t:ByteArray}{rv:Value}{mc mt:Nat}{w W w':World}{ae:α->World->Value->Prop}{aa:β->World->Value->Prop}{e:Ending}(g:α->β)(h:Qap r b t rv mc mt W ae e w')(hm:Mod b w W)(af:∀ y,r=.ok y->R=.ok (g y.1,y.2))(ac:∀ f,r=.error f->R=.error f)(ab:∀ y v,r=.ok y->ae y.1 w' v->aa (g y.1) w' v):Qap R b t rv mc mt w aa e w':=by
 rcases h.cases with⟨y,v,hy,rfl,hv,hc,ad⟩ | ⟨f,hf,ht,ad⟩
 ·exact Qap.ok (af y hy) (hm.trans ad) (ab _ _ hy hv) hc
 ·exact Qap.err (ac f hf) (hm.trans ad) (ht.up hm.size)
theorem Qbk{l:L8}{req:List (L8)}{F n k:Nat}{s:PS}{f:Flt}(hi:wL tNs s.1.spelt=k+1)(hu:Qcu req s.1.spelt=true)(hn:nL l s.2=.error f):QbP l req F (n+1) s=.error f:=by
 rw[QbP,if_neg (by omega),if_pos hu];exact Qa3 hn
theorem Qb0{l:L8}{req:List (L8)}{F n k:Nat}{s y:PS}(hi:wL tNs s.1.spelt=k+1)(hu:Qcu req s.1.spelt=true)(hn:nL l s.2=.ok y):QbP l req F (n+1) s=tBd l F (QbP l req F n) k s.1.pos y:=by
 rw[QbP,if_neg (by omega),if_pos hu];refine(Qa2 hn).trans ?_;show tBd l F (QbP l req F n) (wL tNs s.1.spelt - 1) s.1.pos y=_
 rw[hi];rfl
theorem Qkc{α:Type}(l:L8)(F:Nat)(sub:PS->Except Flt (α×PS))(pos:Nat)(s:PS):tBd l F sub 2 pos s=QaX (sub s) fun t s1=>.ok ((⟨2,pos,0,false,[],[],0⟩,[t]),s1):=rfl
theorem QrB{α:Type}(l:L8)(F:Nat)(sub:PS->Except Flt (α×PS))(pos:Nat)(s:PS):tBd l F sub 0 pos s=.ok ((⟨0,pos,0,false,[],[],0⟩,[]),s):=rfl
theorem Qq9{α:Type}(l:L8)(F:Nat)(sub:PS->Except Flt (α×PS))(pos:Nat)(s:PS):tBd l F sub 1 pos s=.ok ((⟨1,pos,0,false,[],[],0⟩,[]),s):=rfl
theorem Qkd{α:Type}(l:L8)(F:Nat)(sub:PS->Except Flt (α×PS))(pos:Nat)(s:PS):tBd l F sub 3 pos s=QaX (QcQ l F sub s) fun ts s1=>.ok ((⟨3,pos,0,false,[],[],0⟩,ts),s1):=rfl
theorem Qj4{α:Type}(l:L8)(F:Nat)(sub:PS->Except Flt (α×PS))(pos:Nat)(s:PS):tBd l F sub 4 pos s=QaX (QcQ l F sub s) fun ts s1=>.ok ((⟨4,pos,0,false,[],[],0⟩,ts),s1):=rfl
theorem QjV{α:Type}(l:L8)(F:Nat)(sub:PS->Except Flt (α×PS))(pos:Nat)(s:PS):tBd l F sub 5 pos s=QaX (QbQ l F (fun _=>0) 5 pos s) fun x s1=>.ok ((x,[]),s1):=rfl
theorem QjP{α:Type}(l:L8)(F:Nat)(sub:PS->Except Flt (α×PS))(pos:Nat)(s:PS):tBd l F sub 6 pos s=QaX (QbQ l F (Qdd (Qcm 7 [Qh8,kTo])) 6 pos s) fun x s1=>.ok ((x,[]),s1):=rfl
theorem Qj1{α:Type}(l:L8)(F:Nat)(sub:PS->Except Flt (α×PS))(pos:Nat)(s:PS):tBd l F sub 7 pos s=QaX (QbQ l F (fun _=>0) 7 pos s) fun x s1=>.ok ((x,[]),s1):=rfl
theorem Qj7{α:Type}(l:L8)(F:Nat)(sub:PS->Except Flt (α×PS))(pos:Nat)(s:PS):tBd l F sub 8 pos s=QaX (sLs l (fun _=>0) F s) fun xs s1=>.ok ((⟨8,pos,0,false,xs,[],0⟩,[]),s1):=rfl
theorem Qkw{α:Type}(l:L8)(F:Nat)(sub:PS->Except Flt (α×PS))(pos:Nat)(s:PS):tBd l F sub 9 pos s=QaX (sizeL l pos s) fun x s1=>.ok ((x,[]),s1):=rfl
theorem QfR{l:L8}{F:Nat}{chk:L8->Nat}{k aa:Nat}{s:PS}{y:Qec×PS}(h:QbQ l F chk k aa s=.ok y):y.1.kind=k/\y.1.pos=aa:=by
 unfold QbQ at h
 cases h1:Qfi l F 0 false false s with
 |error f=>rw[Qae h1]at h;cases h
 |ok a=>
  rw[Qad h1]at h
  cases h2:sLs l chk F a.2 with
  |error f=>rw[Qae h2]at h;cases h
  |ok c=>
   rw[Qad h2]at h
   cases h3:sLs l (fun _=>0) F c.2 with
   |error f=>rw[Qae h3]at h;cases h
   |ok e=>rw[Qad h3]at h;cases h;exact⟨rfl,rfl⟩
theorem Qkf{l:L8}{aa:Nat}{s:PS}{y:Qec×PS}(h:sizeL l aa s=.ok y):y.1.kind=9/\y.1.pos=aa:=by
 unfold sizeL at h
 cases h1:paL l [QfE,Qdl] s with
 |error f=>rw[Qae h1]at h;cases h
 |ok a=>
  rw[Qad h1]at h
  split at h
  ·cases h2:nL l a.2.2 with
   |error f=>rw[Qa3 h2]at h;cases h
   |ok c=>rw[Qa2 h2]at h;cases h;exact⟨rfl,rfl⟩
  ·cases h
theorem mtV.toX{B:Nat}{hw:L8}{x:Qec}{w:World}{v:Value}(h:mtV B hw x w v):mtX (fromB B) hw x w v:=h
theorem Qeg{w w2:World}{b:Nat}{sp:L8}{p:Nat}(hm:Mod b (w.alloc (.cells #[.string (sA sp),.int .i64 p] 200)).drew w2)(hb:b<w.heap.size):w2.cell? ⟨w.heap.size,0,none⟩=some (.string (sA sp))/\w2.cell? ⟨w.heap.size,1,none⟩=some (.int .i64 p)/\Mod b w w2:=
 ⟨(Qe8 sp p (QaQ hm) hb).1,(Qe8 sp p (QaQ hm) hb).2,((Mod.refl b w).alloc _).trans (QaQ hm)⟩
theorem Qen(f:FuncId)(q:Nat)(n:Nat)(req:List (L8))(d:Int)(b F:Nat)(t:ByteArray)(s:PS)(rv:Value)(mc mt pr pt pf:Nat)(w:World)(h:RC w b t s rv mc mt)(ht:Qo9 w b mt pr pt pf)(hr:QlQ w b rv req)(hd0:0<=d)(hd:d<=6)(au:s.1.kind=1)(hu:Qcu req s.1.spelt=true)
 (ai:testFn b pr pt pf s.1.spelt=some (.func (.func f) #[] #[.pointer (some ⟨q,0,none⟩)])) (hcf:∀ args W,(callFunc f args).run Tryz.prog W=.ok (.enter f args) W) (ak:∀ f2,nL t.data.toList s.2=.error f2->QbP t.data.toList req F (n+1) s=.error f2)
 (aa:∀ W y,Mod b w W->RC W b t y rv mc mt->nL t.data.toList s.2=.ok y->Calls Tryz.prog f #[.agg #[.string (sA s.1.spelt),.int .i64 s.1.pos],.int .i64 d,.pointer (some ⟨q,0,none⟩)] W (Qap (QbP t.data.toList req F (n+1) s) b t rv mc mt w (TestV (n+1) (fromB w.heap.size)))) :
 Calls Tryz.prog 207 #[.pointer (some ⟨b,0,none⟩),.map (some mt),.int .i64 d] w (Qap (QbP t.data.toList req F (n+1) s) b t rv mc mt w (TestV (n+1) (fromB w.heap.size))):=by
 have h1:w.cell? ⟨b,1,none⟩=some (.int .i64 s.1.kind):=h.at_.cell 1;have h2:w.cell? ⟨b,2,none⟩=some (.int .i64 s.1.pos):=h.at_.cell 2;have h3:w.cell? ⟨b,3,none⟩=some (.string (sA s.1.spelt)):=h.at_.cell 3;have ae:=ht.look w s.1.spelt rfl;rw[ai]at ae;have H:=Qab h;have HU:=Qab (Qdi s.1.spelt req b t s rv mc mt w h hr);rw[hu]at HU;have av:=Qab ak;have ad:=Qab aa;have ap:=h.at_.lt;clear h ht hr ai hu ak aa;simp only[Option.getD_some,Option.isSome_some]at ae;have hk':((s.1.kind:Int) != 1)=false:=by simp;omega
 clear au;go_enter func207,ntmps207;go_wp2_with fail;refine(Qay b _ _ _ rfl).mono ?_;rintro e w' ⟨rfl,ag⟩;subst w';go_wp2_with fail;refine(Qay b _ _ _ rfl).mono ?_;rintro e w' ⟨rfl,ag⟩;subst w';go_wp2_with fail;refine HU.o.mono ?_;rintro e w' ⟨rfl,ag⟩;subst w';go_wp2_with fail;refine(Qay b _ _ _ rfl).mono ?_;rintro e w' ⟨rfl,ag⟩;subst w';clear HU ae;go_wp2_with fail;go_region
 all_goals go_wp2_with fail
 all_goals
  refine(QcD b t s rv mc mt _ ((H.o.alloc _).drew)).mono ?_;rintro e w2 (⟨y,hy,rfl,hc,hm⟩ | ⟨f2,hf2,⟨bb,hz,rfl,ac⟩,hm⟩)
 all_goals first
  |exact⟨rfl,Qap.err (av.o _ hf2) (((Mod.refl b w).alloc _).trans (QaQ hm)) ⟨bb,by simp at hz;omega,rfl,ac⟩⟩
  |skip
 all_goals
  obtain⟨hh0,hh1,af⟩:=Qeg hm ap;have HM:=Qab af;have HC:=Qab hc;have aq:=Qab (ad.o _ y af hc hy);clear hm hc hy af;go_wp2_with fail;refine aq.o.mono ?_;intro e w3 aj;have HQ:=Qab aj;clear aj;rcases HQ.o.cases with⟨q,v,hq,rfl,hv,ah,ab⟩ | ⟨f3,ar,⟨bb,hz,rfl,ac⟩,ab⟩
 all_goals first
  |exact⟨rfl,Qap.err ar ab ⟨bb,hz,rfl,ac⟩⟩
  |skip
 all_goals
  have ao:=Qab (Qap.ok hq ab hv ah);clear hq ab hv ah HQ;go_wp2;go_ret;exact ao.o
theorem Qlm(f:FuncId)(n:Nat)(req:List (L8))(d:Int)(b F:Nat)(t:ByteArray)(s:PS)(rv:Value)(mc mt pr pt pf:Nat)(w:World)(h:RC w b t s rv mc mt)(ht:Qo9 w b mt pr pt pf)(hr:QlQ w b rv req)(hd0:0<=d)(hd:d<=6)(au:s.1.kind=1)(hu:Qcu req s.1.spelt=true)
 (ai:testFn b pr pt pf s.1.spelt=some (.func (.func f) #[.pointer (some ⟨b,0,none⟩)] #[])) (hcf:∀ args W,(callFunc f args).run Tryz.prog W=.ok (.enter f args) W) (ak:∀ f2,nL t.data.toList s.2=.error f2->QbP t.data.toList req F (n+1) s=.error f2)
 (aa:∀ W y,Mod b w W->RC W b t y rv mc mt->nL t.data.toList s.2=.ok y->Calls Tryz.prog f #[.pointer (some ⟨b,0,none⟩),.agg #[.string (sA s.1.spelt),.int .i64 s.1.pos],.int .i64 d] W (Qap (QbP t.data.toList req F (n+1) s) b t rv mc mt w (TestV (n+1) (fromB w.heap.size)))) :
 Calls Tryz.prog 207 #[.pointer (some ⟨b,0,none⟩),.map (some mt),.int .i64 d] w (Qap (QbP t.data.toList req F (n+1) s) b t rv mc mt w (TestV (n+1) (fromB w.heap.size))):=by
 have h1:w.cell? ⟨b,1,none⟩=some (.int .i64 s.1.kind):=h.at_.cell 1;have h2:w.cell? ⟨b,2,none⟩=some (.int .i64 s.1.pos):=h.at_.cell 2;have h3:w.cell? ⟨b,3,none⟩=some (.string (sA s.1.spelt)):=h.at_.cell 3;have ae:=ht.look w s.1.spelt rfl;rw[ai]at ae;have H:=Qab h;have HU:=Qab (Qdi s.1.spelt req b t s rv mc mt w h hr);rw[hu]at HU;have av:=Qab ak;have ad:=Qab aa;have ap:=h.at_.lt;clear h ht hr ai hu ak aa;simp only[Option.getD_some,Option.isSome_some]at ae;have hk':((s.1.kind:Int) != 1)=false:=by simp;omega
 clear au;go_enter func207,ntmps207;go_wp2_with fail;refine(Qay b _ _ _ rfl).mono ?_;rintro e w' ⟨rfl,ag⟩;subst w';go_wp2_with fail;refine(Qay b _ _ _ rfl).mono ?_;rintro e w' ⟨rfl,ag⟩;subst w';go_wp2_with fail;refine HU.o.mono ?_;rintro e w' ⟨rfl,ag⟩;subst w';go_wp2_with fail;refine(Qay b _ _ _ rfl).mono ?_;rintro e w' ⟨rfl,ag⟩;subst w';clear HU ae;go_wp2_with fail;go_region
 all_goals go_wp2_with fail
 all_goals
  refine(QcD b t s rv mc mt _ ((H.o.alloc _).drew)).mono ?_;rintro e w2 (⟨y,hy,rfl,hc,hm⟩ | ⟨f2,hf2,⟨bb,hz,rfl,ac⟩,hm⟩)
 all_goals first
  |exact⟨rfl,Qap.err (av.o _ hf2) (((Mod.refl b w).alloc _).trans (QaQ hm)) ⟨bb,by simp at hz;omega,rfl,ac⟩⟩
  |skip
 all_goals
  obtain⟨hh0,hh1,af⟩:=Qeg hm ap;have HM:=Qab af;have HC:=Qab hc;have aq:=Qab (ad.o _ y af hc hy);clear hm hc hy af;go_wp2_with fail;refine aq.o.mono ?_;intro e w3 aj;have HQ:=Qab aj;clear aj;rcases HQ.o.cases with⟨q,v,hq,rfl,hv,ah,ab⟩ | ⟨f3,ar,⟨bb,hz,rfl,ac⟩,ab⟩
 all_goals first
  |exact⟨rfl,Qap.err ar ab ⟨bb,hz,rfl,ac⟩⟩
  |skip
 all_goals
  have ao:=Qab (Qap.ok hq ab hv ah);clear hq ab hv ah HQ;go_wp2;go_ret;exact ao.o
end
section
open Go.RowKit
theorem QhF:∀ z∈tNs,∀ c r,z=c::r->Qbt c.toNat=true:=by
 intro z hz c r e;simp[tNs]at hz;rcases hz with h|h|h|h|h|h|h|h|h|h<;>subst h<;>cases e<;>decide
theorem Qmj:∀ z∈tNs,z≠[]:=by decide
theorem QjI{zs:List (L8)}{x:L8}(h:¬ wL zs x=0):x∈zs:=by
 obtain⟨i,hi⟩:∃ i,wL zs x=i+1:=⟨wL zs x - 1,by omega⟩;exact List.mem_of_getElem? (Qaw zs x i hi)
theorem Qny{s:PS}(hn:¬ s.1.kind=1->QjX s.1.spelt)(h:¬ wL tNs s.1.spelt=0):s.1.kind=1:=by
 apply Classical.byContradiction;intro hk;have hm:=QjI h;have aa:=Qmj _ hm
 cases hsp:s.1.spelt with
 |nil=>exact aa hsp
 |cons c r=>
  have h1:=QhF _ hm c r hsp;have h2:=hn hk c r hsp;rw[h1]at h2;cases h2
theorem QnF(fv:Value)(req:List (L8))(d:Int)(b:Nat)(t:ByteArray)(s:PS)(rv:Value)(mc mt pr pt pf:Nat)(w:World)(h:RC w b t s rv mc mt)(ht:Qo9 w b mt pr pt pf)(hr:QlQ w b rv req)(hd:d<=6)(ac:s.1.kind=1)(hf:testFn b pr pt pf s.1.spelt=some fv)(hu:Qcu req s.1.spelt=false) :
 Calls Tryz.prog 207 #[.pointer (some ⟨b,0,none⟩),.map (some mt),.int .i64 d] w fun e w'=>QcN ⟨6,s.1.pos⟩ w e w'/\Mod b w w':=by
 have h1:w.cell? ⟨b,1,none⟩=some (.int .i64 s.1.kind):=h.at_.cell 1;have h3:w.cell? ⟨b,3,none⟩=some (.string (sA s.1.spelt)):=h.at_.cell 3;have aa:=ht.look w s.1.spelt rfl;rw[hf]at aa;have H:=Qab h;have HU:=Qab (Qdi s.1.spelt req b t s rv mc mt w h hr);rw[hu]at HU;clear h ht hr hf hu;simp only[Option.getD_some,Option.isSome_some]at aa;have hk':((s.1.kind:Int) != 1)=false:=by simp;omega
 clear ac;go_enter func207,ntmps207;go_wp2_with fail;refine(Qay b _ _ _ rfl).mono ?_;rintro e w' ⟨rfl,ab⟩;subst w';go_wp2_with fail;refine(Qay b _ _ _ rfl).mono ?_;rintro e w' ⟨rfl,ab⟩;subst w';go_wp2_with fail;refine HU.o.mono ?_;rintro e w' ⟨rfl,ab⟩;subst w';go_wp2_with fail;refine(Qa7 b 6 _ _ t s.1 s.2 rv mc mt _ H.o.at_ rfl rfl).mono ?_;rintro e w1 ⟨⟨bb,hz,rfl,ad⟩,hm⟩;exact⟨rfl,⟨bb,hz,rfl,ad⟩,Mod.of_below hm⟩
theorem Qn9(b:Nat)(t:ByteArray)(s:PS)(rv:Value)(mc mt pr pt pf:Nat)(w:World)(h:RC w b t s rv mc mt)(ht:Qo9 w b mt pr pt pf) :
 Calls Tryz.prog 207 #[.pointer (some ⟨b,0,none⟩),.map (some mt),.int .i64 7] w fun e w'=>QcN ⟨if s.1.kind=1 then 5 else 4,s.1.pos⟩ w e w'/\Mod b w w':=by
 have h1:w.cell? ⟨b,1,none⟩=some (.int .i64 s.1.kind):=h.at_.cell 1;have h3:w.cell? ⟨b,3,none⟩=some (.string (sA s.1.spelt)):=h.at_.cell 3;have aa:=ht.look w s.1.spelt rfl;have H:=Qab h;by_cases hk:s.1.kind=1
 ·rw[if_pos hk];have ac:((s.1.kind:Int) != 1)=false:=by simp;omega
  clear hk h ht aa;go_enter func207,ntmps207;go_wp2_with fail;refine(Qa7 b 5 _ _ t s.1 s.2 rv mc mt _ H.o.at_ rfl rfl).mono ?_;rintro e w1 ⟨⟨bb,hz,rfl,ab⟩,hm⟩;exact⟨rfl,⟨bb,hz,rfl,ab⟩,Mod.of_below hm⟩
 ·rw[if_neg hk]
  have h0:wL tNs s.1.spelt=0:=by
   apply Classical.byContradiction;intro h0;exact hk (Qny h.nm h0)
  rw[Qi8 h0]at aa;have ac:((s.1.kind:Int) != 1)=true:=by simp;omega
  clear hk h ht h0;simp only[Option.getD_none,Option.isSome_none]at aa;go_enter func207,ntmps207;go_wp2_with fail;refine(Qay b _ _ _ rfl).mono ?_;rintro e w' ⟨rfl,hww⟩;subst w';go_wp2_with fail;refine(Qa7 b 4 _ _ t s.1 s.2 rv mc mt _ H.o.at_ rfl rfl).mono ?_;rintro e w1 ⟨⟨bb,hz,rfl,ab⟩,hm⟩;exact⟨rfl,⟨bb,hz,rfl,ab⟩,Mod.of_below hm⟩
theorem QoK{b pr pt pf:Nat}{x:L8}(h:¬ wL tNs x=0):∃ fv,testFn b pr pt pf x=some fv:=by
 have hle:=QbC tNs x;have hl:tNs.length=10:=rfl;unfold testFn;generalize wL tNs x=i at *;rcases(by omega:i=1\/i=2\/i=3\/i=4\/i=5\/i=6\/i=7\/i=8\/i=9\/i=10)with h|h|h|h|h|h|h|h|h|h<;>subst h<;>exact⟨_,rfl⟩
theorem QrX(n:Nat)(req:List (L8))(d:Int)(b F:Nat)(t:ByteArray)(s:PS)(rv:Value)(mc mt pr pt pf:Nat)(w:World)(h:RC w b t s rv mc mt)(ht:Qo9 w b mt pr pt pf)(hr:QlQ w b rv req)(hF:2*t.size+1<F)(ab:0<=d)(hd:d<=6)(hS:SubMu t.size (QbP t.data.toList req F n))(ho:Qey 168 w b t rv mc mt (d+1) (QbP t.data.toList req F n) (TestV n)) :
 Calls Tryz.prog 207 #[.pointer (some ⟨b,0,none⟩),.map (some mt),.int .i64 d] w (Qap (QbP t.data.toList req F (n+1) s) b t rv mc mt w (TestV (n+1) (fromB w.heap.size))):=by
 by_cases h0:wL tNs s.1.spelt=0
 ·refine(Qjt d b t s rv mc mt pr pt pf w h ht hd h0).mono ?_;rintro e w1 ⟨h1,h2⟩;exact Qap.err (by rw[QbP,if_pos h0]) h2 h1
 have ac:=Qny h.nm h0;cases hu:Qcu req s.1.spelt
 ·obtain⟨fv,hf⟩:=QoK (b:=b) (pr:=pr) (pt:=pt) (pf:=pf) h0;refine(QnF fv req d b t s rv mc mt pr pt pf w h ht hr hd ac hf hu).mono ?_;rintro e w1 ⟨h1,h2⟩;exact Qap.err (by rw[QbP,if_neg h0,if_neg (by rw[hu];decide)]) h2 h1
 have hle:=QbC tNs s.1.spelt;have hl:tNs.length=10:=rfl;rcases(by omega:wL tNs s.1.spelt=0+1\/wL tNs s.1.spelt=1+1\/wL tNs s.1.spelt=2+1\/wL tNs s.1.spelt=3+1\/wL tNs s.1.spelt=4+1\/wL tNs s.1.spelt=5+1\/wL tNs s.1.spelt=6+1\/wL tNs s.1.spelt=7+1\/wL tNs s.1.spelt=8+1\/wL tNs s.1.spelt=9+1)with hi|hi|hi|hi|hi|hi|hi|hi|hi|hi
 ·refine Qen 167 pt n req d b F t s rv mc mt pr pt pf w h ht hr ab hd ac hu (by unfold testFn;rw[hi];rfl) (fun _ _=>by kernel_rfl) (fun f2 hf2=>Qbk hi hu hf2) (fun W y HM HC hy=>?_);have aa:s.1.spelt=Qfz:=by have:=Qaw _ _ _ hi;simpa[tNs]using this.symm
  have HE:=Qb0 (F:=F) (n:=n) hi hu hy;refine(Qko s.1.spelt s.1.pos d pt true _ (ht.mod HM).hpt).mono ?_;intro e w3 h3';obtain⟨rfl,hb⟩:=h3';exact Qap.ok (HE.trans (QrB _ _ _ _ _)) (HM.trans (Mod.of_below hb)) ⟨rfl,by rw[aa]⟩ (HC.below hb)
 ·refine Qen 167 pf n req d b F t s rv mc mt pr pt pf w h ht hr ab hd ac hu (by unfold testFn;rw[hi];rfl) (fun _ _=>by kernel_rfl) (fun f2 hf2=>Qbk hi hu hf2) (fun W y HM HC hy=>?_);have aa:s.1.spelt=Qdt:=by have:=Qaw _ _ _ hi;simpa[tNs]using this.symm
  have HE:=Qb0 (F:=F) (n:=n) hi hu hy;refine(Qko s.1.spelt s.1.pos d pf false _ (ht.mod HM).hpf).mono ?_;intro e w3 h3';obtain⟨rfl,hb⟩:=h3';exact Qap.ok (HE.trans (Qq9 _ _ _ _ _)) (HM.trans (Mod.of_below hb)) ⟨rfl,by rw[aa]⟩ (HC.below hb)
 ·refine Qlm 108 n req d b F t s rv mc mt pr pt pf w h ht hr ab hd ac hu (by unfold testFn;rw[hi];rfl) (fun _ _=>by kernel_rfl) (fun f2 hf2=>Qbk hi hu hf2) (fun W y HM HC hy=>?_);have aa:s.1.spelt=kNot:=by have:=Qaw _ _ _ hi;simpa[tNs]using this.symm
  have HE:=Qb0 (F:=F) (n:=n) hi hu hy;refine(Qwv (QbP t.data.toList req F n) (TestV n) s.1.spelt s.1.pos d b t y rv mc mt _ HC ab (by omega) (Qbi n) (ho.mod HM)).mono ?_;intro e w3 h3';exact Qap.lift (fun a=>((⟨2,s.1.pos,0,false,[],[],0⟩:Qec),[a])) h3' HM (fun q hq=>HE.trans ((Qkc _ _ _ _ _).trans (Qad hq))) (fun f hf=>HE.trans ((Qkc _ _ _ _ _).trans (Qae hf))) (fun a v _ hv=>by obtain⟨u,rfl,hu⟩:=hv;exact⟨a.1,u,rfl,by rw[aa],(Qbi n).weak _ _ _ _ _ hu (fun k hk _=>Nat.le_trans HM.size hk)⟩)
 ·refine Qen 109 pr n req d b F t s rv mc mt pr pt pf w h ht hr ab hd ac hu (by unfold testFn;rw[hi];rfl) (fun _ _=>by kernel_rfl) (fun f2 hf2=>Qbk hi hu hf2) (fun W y HM HC hy=>?_);have aa:s.1.spelt=QcC:=by have:=Qaw _ _ _ hi;simpa[tNs]using this.symm
  have HE:=Qb0 (F:=F) (n:=n) hi hu hy;refine(Qtq (QbP t.data.toList req F n) (TestV n) s.1.spelt s.1.pos d pr b F t y rv mc mt _ HC (ht.mod HM).hpr hF ab (by omega) (Qbi n) hS (ho.mod HM)).mono ?_;intro e w3 h3';exact Qap.lift (fun xs=>((⟨3,s.1.pos,0,false,[],[],0⟩:Qec),xs)) h3' HM (fun q hq=>HE.trans ((Qkd _ _ _ _ _).trans (Qad hq))) (fun f hf=>HE.trans ((Qkd _ _ _ _ _).trans (Qae hf))) (fun a v _ hv=>by obtain⟨u,rfl,hu,ad⟩:=hv;exact⟨u,by rw[aa],trX.weak (Qbi n) ad hu (fun k hk _=>Nat.le_trans HM.size hk),ad⟩)
 ·refine Qen 111 pr n req d b F t s rv mc mt pr pt pf w h ht hr ab hd ac hu (by unfold testFn;rw[hi];rfl) (fun _ _=>by kernel_rfl) (fun f2 hf2=>Qbk hi hu hf2) (fun W y HM HC hy=>?_);have aa:s.1.spelt=QcL:=by have:=Qaw _ _ _ hi;simpa[tNs]using this.symm
  have HE:=Qb0 (F:=F) (n:=n) hi hu hy;refine(Qsl (QbP t.data.toList req F n) (TestV n) s.1.spelt s.1.pos d pr b F t y rv mc mt _ HC (ht.mod HM).hpr hF ab (by omega) (Qbi n) hS (ho.mod HM)).mono ?_;intro e w3 h3';exact Qap.lift (fun xs=>((⟨4,s.1.pos,0,false,[],[],0⟩:Qec),xs)) h3' HM (fun q hq=>HE.trans ((Qj4 _ _ _ _ _).trans (Qad hq))) (fun f hf=>HE.trans ((Qj4 _ _ _ _ _).trans (Qae hf))) (fun a v _ hv=>by obtain⟨u,rfl,hu,ad⟩:=hv;exact⟨u,by rw[aa],trX.weak (Qbi n) ad hu (fun k hk _=>Nat.le_trans HM.size hk),ad⟩)
 ·refine Qen 112 pr n req d b F t s rv mc mt pr pt pf w h ht hr ab hd ac hu (by unfold testFn;rw[hi];rfl) (fun _ _=>by kernel_rfl) (fun f2 hf2=>Qbk hi hu hf2) (fun W y HM HC hy=>?_);have aa:s.1.spelt=QbM:=by have:=Qaw _ _ _ hi;simpa[tNs]using this.symm
  have HE:=Qb0 (F:=F) (n:=n) hi hu hy;refine(Qq8 s.1.spelt s.1.pos d pr b F t y rv mc mt _ HC (ht.mod HM).hpr hF).mono ?_;intro e w3 h3'
  exact Qap.lift (fun x=>(x,[])) h3' HM (fun q hq=>HE.trans ((QjV _ _ _ _ _).trans (Qad hq))) (fun f hf=>HE.trans ((QjV _ _ _ _ _).trans (Qae hf))) (fun a v ha hv=>by
   obtain⟨u,rfl,hu⟩:=hv;rw[aa]at hu;show Qeh _ _ _ _ _
   unfold Qeh;rw[(QfR ha).1]
   exact ⟨rfl,u,rfl,hu.toX.weak (fun k hk _=>Nat.le_trans HM.size hk)⟩)
 ·refine Qen 115 pr n req d b F t s rv mc mt pr pt pf w h ht hr ab hd ac hu (by unfold testFn;rw[hi];rfl) (fun _ _=>by kernel_rfl) (fun f2 hf2=>Qbk hi hu hf2) (fun W y HM HC hy=>?_);have aa:s.1.spelt=QaG:=by have:=Qaw _ _ _ hi;simpa[tNs]using this.symm
  have HE:=Qb0 (F:=F) (n:=n) hi hu hy;refine(Ql9 s.1.spelt s.1.pos d pr b F t y rv mc mt _ HC (ht.mod HM).hpr hF).mono ?_;intro e w3 h3'
  exact Qap.lift (fun x=>(x,[])) h3' HM (fun q hq=>HE.trans ((QjP _ _ _ _ _).trans (Qad hq))) (fun f hf=>HE.trans ((QjP _ _ _ _ _).trans (Qae hf))) (fun a v ha hv=>by
   obtain⟨u,rfl,hu⟩:=hv;rw[aa]at hu;show Qeh _ _ _ _ _
   unfold Qeh;rw[(QfR ha).1]
   exact ⟨rfl,u,rfl,hu.toX.weak (fun k hk _=>Nat.le_trans HM.size hk)⟩)
 ·refine Qen 118 pr n req d b F t s rv mc mt pr pt pf w h ht hr ab hd ac hu (by unfold testFn;rw[hi];rfl) (fun _ _=>by kernel_rfl) (fun f2 hf2=>Qbk hi hu hf2) (fun W y HM HC hy=>?_);have aa:s.1.spelt=Qbl:=by have:=Qaw _ _ _ hi;simpa[tNs]using this.symm
  have HE:=Qb0 (F:=F) (n:=n) hi hu hy;refine(Qn4 s.1.spelt s.1.pos d pr b F t y rv mc mt _ HC (ht.mod HM).hpr hF).mono ?_;intro e w3 h3'
  exact Qap.lift (fun x=>(x,[])) h3' HM (fun q hq=>HE.trans ((Qj1 _ _ _ _ _).trans (Qad hq))) (fun f hf=>HE.trans ((Qj1 _ _ _ _ _).trans (Qae hf))) (fun a v ha hv=>by
   obtain⟨u,rfl,hu⟩:=hv;rw[aa]at hu;show Qeh _ _ _ _ _
   unfold Qeh;rw[(QfR ha).1]
   exact ⟨rfl,u,rfl,hu.toX.weak (fun k hk _=>Nat.le_trans HM.size hk)⟩)
 ·refine Qlm 119 n req d b F t s rv mc mt pr pt pf w h ht hr ab hd ac hu (by unfold testFn;rw[hi];rfl) (fun _ _=>by kernel_rfl) (fun f2 hf2=>Qbk hi hu hf2) (fun W y HM HC hy=>?_);have aa:s.1.spelt=Qby:=by have:=Qaw _ _ _ hi;simpa[tNs]using this.symm
  have HE:=Qb0 (F:=F) (n:=n) hi hu hy;refine(QqU s.1.spelt s.1.pos d b F t y rv mc mt _ HC hF).mono ?_;intro e w3 h3';exact Qap.lift (fun xs=>((⟨8,s.1.pos,0,false,xs,[],0⟩:Qec),[])) h3' HM (fun q hq=>HE.trans ((Qj7 _ _ _ _ _).trans (Qad hq))) (fun f hf=>HE.trans ((Qj7 _ _ _ _ _).trans (Qae hf))) (fun a v _ hv=>by obtain⟨u,rfl,hu⟩:=hv;exact⟨rfl,u,by rw[aa],hu.toX.weak (fun k hk _=>Nat.le_trans HM.size hk)⟩)
 ·refine Qlm 120 n req d b F t s rv mc mt pr pt pf w h ht hr ab hd ac hu (by unfold testFn;rw[hi];rfl) (fun _ _=>by kernel_rfl) (fun f2 hf2=>Qbk hi hu hf2) (fun W y HM HC hy=>?_);have aa:s.1.spelt=QdU:=by have:=Qaw _ _ _ hi;simpa[tNs]using this.symm
  have HE:=Qb0 (F:=F) (n:=n) hi hu hy;refine(QvA s.1.spelt s.1.pos d b t y rv mc mt _ HC).mono ?_;intro e w3 h3'
  exact Qap.lift (fun x=>(x,[])) h3' HM (fun q hq=>HE.trans ((Qkw _ _ _ _ _).trans (Qad hq))) (fun f hf=>HE.trans ((Qkw _ _ _ _ _).trans (Qae hf))) (fun a v ha hv=>by
   rw[aa]at hv;show Qeh _ _ _ _ _
   unfold Qeh;rw[(Qkf ha).1];refine⟨rfl,?_⟩
   rw [hv,(Qkf ha).2])
theorem Qmo{α:Type}(r:Except Flt (α×PS))(ab:α->World->Value->Prop)(d:Int)(b:Nat)(t:ByteArray)(s:PS)(rv:Value)(mc mt:Nat)(w:World)(h:RC w b t s rv mc mt)
 (hb:Calls Tryz.prog 207 #[.pointer (some ⟨b,0,none⟩),.map (some mt),.int .i64 d] w (Qap r b t rv mc mt w ab)) :
 Calls Tryz.prog 168 #[.pointer (some ⟨b,0,none⟩),.int .i64 d] w (Qap r b t rv mc mt w ab):=by
 have h9:w.cell? ⟨b,9,none⟩=some (.map (some mt)):=h.at_.cell 9;have HB:=Qab hb;clear hb h;go_enter func168,ntmps168;go_wp2_with fail;refine HB.o.mono ?_;intro e w1 h1;rcases h1.cases with⟨q,v,hq,rfl,hv,ac,aa⟩ | ⟨f3,ad,⟨bb,hz,rfl,ae⟩,aa⟩
 ·have HQ:=Qab (Qap.ok hq aa hv ac);clear h1 hq aa hv ac;go_wp2;go_ret;exact HQ.o
 ·exact⟨rfl,Qap.err ad aa ⟨bb,hz,rfl,ae⟩⟩
theorem QpI(req:List (L8))(b F:Nat)(t:ByteArray)(rv:Value)(mc mt pr pt pf:Nat)(hF:2*t.size+1<F)(hS:∀ n,SubMu t.size (QbP t.data.toList req F n)) :
 ∀(n:Nat),n<=7->∀(w:World),Qo9 w b mt pr pt pf->QlQ w b rv req->Qey 168 w b t rv mc mt (7 - (n:Int)) (QbP t.data.toList req F n) (TestV n)
 |0,_,w,ht,hr=>fun W s hm hc=>by
  refine Qmo _ _ _ b t s rv mc mt W hc ?_;refine(Qn9 b t s rv mc mt pr pt pf W hc (ht.mod hm)).mono ?_;rintro e w1 ⟨h1,h2⟩;refine Qap.err ?_ h2 h1;rw[QbP];split<;>rfl
 |n+1,hn,w,ht,hr=>fun W s hm hc=>by
  refine Qmo _ _ _ b t s rv mc mt W hc ?_;have ih:=QpI req b F t rv mc mt pr pt pf hF hS n (by omega) W (ht.mod hm) (hr.mod hm);have e:(7:Int) - ((n+1:Nat):Int)+1=7 - (n:Int):=by omega
  exact QrX n req _ b F t s rv mc mt pr pt pf W hc (ht.mod hm) (hr.mod hm) hF (by omega) (by omega) (hS n) (by rw[e];exact ih)
theorem Qw2(t:ByteArray)(req:List (L8))(F n:Nat):SubMu t.size (QbP t.data.toList req F n):=fun s y h1 h2 e=>by
 have:=(Qly n s ⟨by simpa using h1,h2⟩ y e).2;rw[bal]at this;omega
theorem Qv3(t:ByteArray)(req:List (L8))(F n:Nat):SubMu t.size (cmdL t.data.toList req F n):=fun s y h1 h2 e=>by
 have:=(Qt4 n s ⟨by simpa using h1,h2⟩ y e).2;rw[bal]at this;omega
theorem QwZ(req:List (L8))(b F:Nat)(t:ByteArray)(rv:Value)(mc mt pr pt pf:Nat)(hF:2*t.size+1<F)(n:Nat)(hn:n<=7)(w:World)(ht:Qo9 w b mt pr pt pf)(hr:QlQ w b rv req) :
 Qey 168 w b t rv mc mt (7 - (n:Int)) (QbP t.data.toList req F n) (TestV n):=
 QpI req b F t rv mc mt pr pt pf hF (Qw2 t req F) n hn w ht hr
end
end Go.Proofs.YthkibedbcbgajaaGreatDoor
