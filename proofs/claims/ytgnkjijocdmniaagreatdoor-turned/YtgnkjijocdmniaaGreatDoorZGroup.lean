import Derived.Deep.DeepCutAuto
import Derived.Test.YtgnkjijocdmniaaGreatDoorZWTags
namespace Go.Proofs.YtgnkjijocdmniaaGreatDoor
set_option linter.unusedVariables false
set_option linter.unusedSimpArgs false
set_option maxRecDepth 100000
set_option maxHeartbeats 4000000
open Go.Proofs.Tryz
section
open Go.RowKit
theorem QkV.mod{w w':World}{b:Nat}{t:ByteArray}{rv:Value}{mc mt:Nat}{cv:Value}{chk:L8->Nat}(h:QkV w b t rv mc mt cv chk)(hm:Mod b w w'):QkV w' b t rv mc mt cv chk:=
 fun W s hW hr=>h W s (hm.trans hW) hr
theorem Qg6(w:World)(b:Nat)(t:ByteArray)(rv:Value)(mc mt:Nat):QkV w b t rv mc mt (.func (.func 134) #[] #[]) (fun _=>0):=
 fun W s _ hr=>QdX b t s rv mc mt W hr
def mtV (B:Nat) (hw:L8) (x:Qcv) (w:World) (v:Value):Prop:=
 ∃ fv kv,v=.agg #[.string (Qaf hw),.int .i64 x.pos,.int .i64 x.tag,.bool x.octet,fv,kv]∧slB B x.fr w fv∧slB B x.keys w kv
theorem RC.mu_lt{w:World}{b:Nat}{t:ByteArray}{s:PS}{rv:Value}{mc mt:Nat}(h:RC w b t s rv mc mt){F:Nat}(hF:2*t.size+1<F):mu t.size s<F:=by
 unfold mu;split<;>omega
theorem Qjx(cv:Value)(chk:L8->Nat)(k:Nat)(hw:L8)(hp:Nat)(b F:Nat)(t:ByteArray)(s:PS)(rv:Value)(mc mt:Nat)(w:World)(h:RC w b t s rv mc mt)(ho:QkV w b t rv mc mt cv chk)(hF:2*t.size+1<F) :
 Calls Tryz.prog 133 #[.pointer (some ⟨b,0,none⟩),.agg #[.string (Qaf hw),.int .i64 hp],cv] w (Qap (Qbp t.data.toList F chk k hp s) b t rv mc mt w (mtV w.heap.size hw)):=by
 have H:=Qab h;have HO:=Qab ho;have hlt:=h.at_.lt;clear h ho;go_enter func133,ntmps133;go_wp2_with fail;have ao:=Qab (((Mod.refl b w).alloc (.cells #[.string (Qaf hw),.int .i64 hp] 216)).alloc (.cells #[.string ⟨#[]⟩,.int .i64 0,.int .i64 0,.bool false,.slice none 0 0,.slice none 0 0] 227));refine(QpJ hw hp b F t s rv mc mt _ ((H.o.alloc _).alloc _) (H.o.mu_lt hF)).mono ?_;intro e w1 h1;rcases h1.cases with⟨o,v,hy,rfl,hv,hc,hm⟩ | ⟨f,hf,⟨bb,hz,rfl,aj⟩,hm⟩
 rotate_left
 ·exact⟨rfl,Qap.err (Qad hf) (ao.o.trans hm) ⟨bb,Nat.le_trans ao.o.size hz,rfl,aj⟩⟩
 unfold QyQ Qim at hv;subst hv;have HY:=Qab hy;have HC:=Qab hc;have ax:=Qab (ao.o.trans hm);have aq:=Qab (QaU (g:=w.heap.size+1) (o:=.cells #[.string ⟨#[]⟩,.int .i64 0,.int .i64 0,.bool false,.slice none 0 0,.slice none 0 0] 227) (Qaw (by simp)) hm (by omega));have hz1:w.heap.size+1<w1.heap.size:=QaI aq.o;clear h1 hy hc hm;go_wp2_with fail;obtain⟨V,hV⟩:∃ V,V=w1.alloc (.cells #[.string (Qaf hw),.int .i64 hp,.int .i64 o.1.1,.bool o.1.2,.slice none 0 0,.slice none 0 0] 227):=⟨_,rfl⟩;have az:Hid (RC V b t o.2 rv mc mt):=by rw[hV];exact HC.o.alloc _
 have ak:Hid (Mod b w V):=by rw[hV];exact ax.o.alloc _
 have aU:Hid (V.heap[w.heap.size+1]?=some (.cells #[.string ⟨#[]⟩,.int .i64 0,.int .i64 0,.bool false,.slice none 0 0,.slice none 0 0] 227)):=by rw[hV];exact Qae aq.o
 have aB:Hid (V.heap[w1.heap.size]?=some (.cells #[.string (Qaf hw),.int .i64 hp,.int .i64 o.1.1,.bool o.1.2,.slice none 0 0,.slice none 0 0] 227)):=by rw[hV];exact Qat _ _
 rw[<-hV];have aK:w1.heap.size<V.heap.size:=QaI aB.o;generalize w1.heap.size=M at *;clear hV HC ax aq;refine(QeR cv chk b F t o.2 rv mc mt V az.o (HO.o.mod ak.o) (az.o.mu_lt hF)).mono ?_;intro e w2 h2;rcases h2.cases with⟨y2,v2,aI,rfl,aG,aE,ah⟩ | ⟨f,hf,⟨bb,hz,rfl,aj⟩,ah⟩
 rotate_left
 ·exact⟨rfl,Qap.err ((Qac HY.o).trans (Qad hf)) (ak.o.trans ah) ⟨bb,Nat.le_trans ak.o.size hz,rfl,aj⟩⟩
 have au:=aG;obtain⟨g2,n2,c2,rfl⟩:=au.form;have aQ:=Qab au;have aC:=Qab aI;have aL:=Qab aE;have aN:=Qab (ak.o.trans ah);have aP:=Qab (QaU aU.o ah (by omega));have ab:=Qab (QaU aB.o ah (by omega));have hzM2:M<w2.heap.size:=QaI ab.o;have m4:w2.cell? ⟨M,4,none⟩=some (.slice none 0 0):=Qaa ab.o 4;have mf:=Qao ab.o;have aD:b<M:=by omega
 have hwM:w.heap.size+1<M:=by omega
 clear h2 aI aE ah au aG;go_wp2_with fail;obtain⟨U,hU⟩:∃ U,U=w2.setCell ⟨M,4,none⟩ (.slice (some ⟨g2,0,none⟩) n2 c2):=⟨_,rfl⟩;have ay:Hid (RC U b t y2.2 rv mc mt):=by rw[hU];exact aL.o.setNew aD _ _
 have ap:Hid (Mod b w U):=by rw[hU];exact aN.o.setNew (by omega) _ _
 have aT:Hid (U.heap[w.heap.size+1]?=some (.cells #[.string ⟨#[]⟩,.int .i64 0,.int .i64 0,.bool false,.slice none 0 0,.slice none 0 0] 227)):=by rw[hU];exact Qfm aP.o (by omega) _ _
 have aA:Hid (U.heap[M]?=some (.cells #[.string (Qaf hw),.int .i64 hp,.int .i64 o.1.1,.bool o.1.2,.slice (some ⟨g2,0,none⟩) n2 c2,.slice none 0 0] 227)):=by rw[hU];exact Qah _ _ _ _ _ _ ab.o
 have aS:Hid (slB V.heap.size y2.1 U (.slice (some ⟨g2,0,none⟩) n2 c2)):=by
  rw[hU];exact aQ.o.keep (Abv.set aK _ _)
 rw[<-hU];clear hU mf m4;have aW:M<U.heap.size:=QaI aA.o;refine(QeR (.func (.func 134) #[] #[]) (fun _=>0) b F t y2.2 rv mc mt U ay.o (Qg6 _ _ _ _ _ _) (ay.o.mu_lt hF)).mono ?_;intro e w3 h3;rcases h3.cases with⟨y3,v3,aJ,rfl,aH,aF,ad⟩ | ⟨f,hf,⟨bb,hz,rfl,aj⟩,ad⟩
 rotate_left
 ·exact⟨rfl,Qap.err ((Qac HY.o).trans ((Qac aC.o).trans (Qad hf))) (ap.o.trans ad) ⟨bb,Nat.le_trans ap.o.size hz,rfl,aj⟩⟩
 have av:=aH;obtain⟨g3,n3,c3,rfl⟩:=av.form;have aR:=Qab av;have ar:=Qab (aS.o.keep (ad.abv (by omega)));have aV:=Qab aJ;have aM:=Qab aF;have aO:=Qab (ap.o.trans ad);have ac:=Qab (QaU aT.o ad (by omega));have aa:=Qab (QaU aA.o ad (by omega));have m0:w3.cell? ⟨M,0,none⟩=some (.string (Qaf hw)):=Qaa aa.o 0;have m1:w3.cell? ⟨M,1,none⟩=some (.int .i64 hp):=Qaa aa.o 1;have m2:w3.cell? ⟨M,2,none⟩=some (.int .i64 o.1.1):=Qaa aa.o 2;have m3:w3.cell? ⟨M,3,none⟩=some (.bool o.1.2):=Qaa aa.o 3;have m4:w3.cell? ⟨M,4,none⟩=some (.slice (some ⟨g2,0,none⟩) n2 c2):=Qaa aa.o 4;have m5:w3.cell? ⟨M,5,none⟩=some (.slice none 0 0):=Qaa aa.o 5;have mf:=Qao aa.o;have r0:w3.cell? ⟨w.heap.size+1,0,none⟩=some (.string ⟨#[]⟩):=Qaa ac.o 0;have r1:w3.cell? ⟨w.heap.size+1,1,none⟩=some (.int .i64 0):=Qaa ac.o 1;have r2:w3.cell? ⟨w.heap.size+1,2,none⟩=some (.int .i64 0):=Qaa ac.o 2;have r3:w3.cell? ⟨w.heap.size+1,3,none⟩=some (.bool false):=Qaa ac.o 3;have r4:w3.cell? ⟨w.heap.size+1,4,none⟩=some (.slice none 0 0):=Qaa ac.o 4;have r5:w3.cell? ⟨w.heap.size+1,5,none⟩=some (.slice none 0 0):=Qaa ac.o 5;have rf:=Qao ac.o;have hne:¬ M=w.heap.size+1:=by omega
 have hne':¬ w.heap.size+1=M:=by omega
 clear h3 aJ aF ad av aH;go_wp2;have ag:b<w.heap.size+1:=by omega
 have ai:w.heap.size<=w.heap.size+1:=by omega
 have aw:w.heap.size<=M:=by omega
 have af:w.heap.size+1<V.heap.size:=by omega
 have ae:w.heap.size+1<U.heap.size:=by omega
 refine bodyPost_ret (v:=.agg #[.string (Qaf hw),.int .i64 hp,.int .i64 o.1.1,.bool o.1.2,.slice (some ⟨g2,0,none⟩) n2 c2,.slice (some ⟨g3,0,none⟩) n3 c3]) (by simp[results,results133,go_sem,r0,r1,r2,r3,r4,r5]) rfl (Qap.ok ((Qac HY.o).trans ((Qac aC.o).trans (Qac aV.o))) (((((((aO.o.setNew aw _ _).setNew ai _ _).setNew ai _ _).setNew ai _ _).setNew ai _ _).setNew ai _ _).setNew ai _ _) ⟨_,_,rfl,?_,?_⟩ (((((((aM.o.setNew aD _ _).setNew ag _ _).setNew ag _ _).setNew ag _ _).setNew ag _ _).setNew ag _ _).setNew ag _ _))
 ·exact(((((((ar.o.keep (Abv.set aK _ _)).keep (Abv.set af _ _)).keep (Abv.set af _ _)).keep (Abv.set af _ _)).keep (Abv.set af _ _)).keep (Abv.set af _ _)).keep (Abv.set af _ _)).weak (by omega)
 ·exact(((((((aR.o.keep (Abv.set aW _ _)).keep (Abv.set ae _ _)).keep (Abv.set ae _ _)).keep (Abv.set ae _ _)).keep (Abv.set ae _ _)).keep (Abv.set ae _ _)).keep (Abv.set ae _ _)).weak (by omega)
end
section
open Go.RowKit
attribute [local go_sem ↓] Go.wp_at_zero Go.wp_at_succ
def QcH (hw:L8) (hp:Nat):Value:=.agg #[.string (Qaf hw),.int .i64 hp]
def Qm4 (w:World) (pr b:Nat):Prop:=w.cell? ⟨pr,0,none⟩=some (.pointer (some ⟨b,0,none⟩))∧pr≠b
theorem Qm4.mod{w w':World}{pr b:Nat}(h:Qm4 w pr b)(hm:Mod b w w'):Qm4 w' pr b:=
 ⟨by rw[hm.cell (p:=⟨pr,0,none⟩) (Qau h.1) h.2];exact h.1,h.2⟩
theorem Qm4.lt{w:World}{pr b:Nat}(h:Qm4 w pr b):pr<w.heap.size:=Qau (a:=⟨pr,0,none⟩) h.1
theorem Qk7(hw:L8)(hp:Nat)(d:Int)(pt:Nat)(B:Bool)(w:World)(h:w.cell? ⟨pt,0,none⟩=some (.bool B)) :
 Calls Tryz.prog 185 #[QcH hw hp,.int .i64 d,.pointer (some ⟨pt,0,none⟩)] w fun e w'=>e=.returned (.iface 302 (.agg #[.string (Qaf hw),.int .i64 hp,.bool B]))/\Below w.heap.size w w':=by
 have aa:=Qau h;have h':(w.alloc (.cells #[.string (Qaf hw),.int .i64 hp] 216)).cell? ⟨pt,0,none⟩=some (.bool B):=by rw[World.cell?_alloc_past _ _ _ aa];exact h
 unfold QcH;go_enter func185,ntmps185;go_wp2;go_ret;exact⟨rfl,(Below.refl _ _).alloc (Nat.le_refl _) _⟩
theorem Qr6(hw:L8)(hp:Nat)(d:Int)(pr:Nat)(b F:Nat)(t:ByteArray)(s:PS)(rv:Value)(mc mt:Nat)(w:World)(h:RC w b t s rv mc mt)(ac:Qm4 w pr b)(hF:2*t.size+1<F) :
 Calls Tryz.prog 132 #[QcH hw hp,.int .i64 d,.pointer (some ⟨pr,0,none⟩)] w (Qap (Qbp t.data.toList F (fun _=>0) 5 hp s) b t rv mc mt w (fun x w' v=>∃ u,v=.iface 231 u/\mtV w.heap.size hw x w' u)):=by
 have ag:=ac.lt;have h':(w.alloc (.cells #[.string (Qaf hw),.int .i64 hp] 216)).cell? ⟨pr,0,none⟩=some (.pointer (some ⟨b,0,none⟩)):=by rw[World.cell?_alloc_past _ _ _ ag];exact ac.1
 have H:=Qab h;clear h ac;unfold QcH;go_enter func132,ntmps132;go_wp2_with fail;refine(Qjx _ (fun _=>0) 5 hw hp b F t s rv mc mt _ (H.o.alloc _) (Qg6 _ _ _ _ _ _) hF).mono ?_;intro e w1 h1;rcases h1.cases with⟨y,v,hy,rfl,⟨fv,kv,rfl,aa,ab⟩,hc,hm⟩ | ⟨f,hf,⟨bb,hz,rfl,af⟩,hm⟩
 rotate_left
 ·exact⟨rfl,Qap.err hf (((Mod.refl b w).alloc _).trans hm) ⟨bb,by simp at hz;omega,rfl,af⟩⟩
 have HY:=Qab hy;have HC:=Qab hc;have HM:=Qab (((Mod.refl b w).alloc _).trans hm);have ad:=Qab (aa.weak (B':=w.heap.size) (by simp));have ae:=Qab (ab.weak (B':=w.heap.size) (by simp));clear h1 hy hc hm;obtain⟨g1,n1,c1,rfl⟩:=aa.form;obtain⟨g2,n2,c2,rfl⟩:=ab.form;clear aa ab;go_wp2;go_ret;exact Qap.ok HY.o HM.o ⟨_,rfl,_,_,rfl,ad.o,ae.o⟩ HC.o
theorem QpU(hw:L8)(hp:Nat)(d:Int)(pr:Nat)(b F:Nat)(t:ByteArray)(s:PS)(rv:Value)(mc mt:Nat)(w:World)(h:RC w b t s rv mc mt)(ac:Qm4 w pr b)(hF:2*t.size+1<F) :
 Calls Tryz.prog 138 #[QcH hw hp,.int .i64 d,.pointer (some ⟨pr,0,none⟩)] w (Qap (Qbp t.data.toList F (fun _=>0) 7 hp s) b t rv mc mt w (fun x w' v=>∃ u,v=.iface 235 u/\mtV w.heap.size hw x w' u)):=by
 have ag:=ac.lt;have h':(w.alloc (.cells #[.string (Qaf hw),.int .i64 hp] 216)).cell? ⟨pr,0,none⟩=some (.pointer (some ⟨b,0,none⟩)):=by rw[World.cell?_alloc_past _ _ _ ag];exact ac.1
 have H:=Qab h;clear h ac;unfold QcH;go_enter func138,ntmps138;go_wp2_with fail;refine(Qjx _ (fun _=>0) 7 hw hp b F t s rv mc mt _ (H.o.alloc _) (Qg6 _ _ _ _ _ _) hF).mono ?_;intro e w1 h1;rcases h1.cases with⟨y,v,hy,rfl,⟨fv,kv,rfl,aa,ab⟩,hc,hm⟩ | ⟨f,hf,⟨bb,hz,rfl,af⟩,hm⟩
 rotate_left
 ·exact⟨rfl,Qap.err hf (((Mod.refl b w).alloc _).trans hm) ⟨bb,by simp at hz;omega,rfl,af⟩⟩
 have HY:=Qab hy;have HC:=Qab hc;have HM:=Qab (((Mod.refl b w).alloc _).trans hm);have ad:=Qab (aa.weak (B':=w.heap.size) (by simp));have ae:=Qab (ab.weak (B':=w.heap.size) (by simp));clear h1 hy hc hm;obtain⟨g1,n1,c1,rfl⟩:=aa.form;obtain⟨g2,n2,c2,rfl⟩:=ab.form;clear aa ab;go_wp2;go_ret;exact Qap.ok HY.o HM.o ⟨_,rfl,_,_,rfl,ad.o,ae.o⟩ HC.o
theorem QaY{b:Nat}{w w':World}(h:Mod b w.drew w'):Mod b w w':=⟨h.os,h.tape,h.output,h.size,h.block⟩
theorem Qf2{w w1:World}{b:Nat}(hw:L8)(hp:Nat)(hm:Mod b (w.alloc (.cells #[.string (Qaf hw),.int .i64 hp] 216)) w1)(hb:b<w.heap.size) :
 w1.cell? ⟨w.heap.size,0,none⟩=some (.string (Qaf hw))/\w1.cell? ⟨w.heap.size,1,none⟩=some (.int .i64 hp):=by
 have h:=QaU (g:=w.heap.size) (Qat w (.cells #[.string (Qaf hw),.int .i64 hp] 216)) hm (by omega);exact⟨Qaa h 0,Qaa h 1⟩
theorem Qs1(hw:L8)(hp:Nat)(d:Int)(b F:Nat)(t:ByteArray)(s:PS)(rv:Value)(mc mt:Nat)(w:World)(h:RC w b t s rv mc mt)(hF:2*t.size+1<F) :
 Calls Tryz.prog 139 #[.pointer (some ⟨b,0,none⟩),QcH hw hp,.int .i64 d] w (Qap (sLs t.data.toList (fun _=>0) F s) b t rv mc mt w (fun xs w' v=>∃ u,v=.iface 309 (.agg #[.string (Qaf hw),.int .i64 hp,u])/\slB w.heap.size xs w' u)):=by
 have H:=Qab h;have ac:=h.at_.lt;clear h;unfold QcH;go_enter func139,ntmps139;go_wp2_with fail;go_region_with (first|(go_at_call 188;refine(QeR _ (fun _=>0) b F t s rv mc mt _ ((H.o.alloc _).drew) (Qg6 _ _ _ _ _ _) (H.o.mu_lt hF)).mono ?_;intro e w1 h1;rcases h1.cases with⟨y,v,hy,rfl,aa,hc,hm⟩ | ⟨f,hf,⟨bb,hz,rfl,ab⟩,hm⟩;rotate_left;exact⟨rfl,Qap.err hf (((Mod.refl b w).alloc _).trans (QaY hm)) ⟨bb,by simp at hz;omega,rfl,ab⟩⟩;obtain⟨hh0,hh1⟩:=Qf2 hw hp (QaY hm) ac;have HY:=Qab hy;have HC:=Qab hc;have HM:=Qab (((Mod.refl b w).alloc (.cells #[.string (Qaf hw),.int .i64 hp] 216)).trans (QaY hm));have HS:=Qab (aa.weak (B':=w.heap.size) (by simp));obtain⟨g1,n1,c1,rfl⟩:=aa.form;clear h1 hy hc hm aa;skip))
 all_goals go_wp2
 all_goals go_ret
 all_goals exact Qap.ok HY.o HM.o ⟨_,rfl,HS.o⟩ HC.o
def AbvX (X:Nat→Prop) (w w':World):Prop:=∀ k,X k→k < w.heap.size→w'.heap[k]?=w.heap[k]?
def fromB (B:Nat) (k:Nat):Prop:=B≤k
theorem Mod.abvX{b:Nat}{w w':World}(h:Mod b w w'){X:Nat->Prop}(hX:¬ X b):AbvX X w w':=fun k hk hz=>h.block k hz (fun e=>hX (e ▸ hk))
theorem AbvX.set{X:Nat->Prop}{g:Nat}{w:World}(hX:¬ X g)(o:Nat)(v:Value):AbvX X w (w.setCell ⟨g,o,none⟩ v):=fun k hk _=>Below.heap_setCell _ _ _ _ (fun e=>hX (by have e':k=g:=e;rw[<-e'];exact hk))
def Qfd {α:Type} (fn:Nat) (w:World) (b:Nat) (t:ByteArray) (rv:Value) (mc mt:Nat) (d:Int) (sub:PS→Except Flt (α×PS)) (P:(Nat→Prop)→α→World→Value→Prop):Prop:=
 ∀ (W:World) (s:PS),Mod b w W→RC W b t s rv mc mt→Calls Tryz.prog fn #[.pointer (some ⟨b,0,none⟩),.int .i64 d] W (Qap (sub s) b t rv mc mt W (P (fromB W.heap.size)))
theorem Qfd.mod{α:Type}{fn:Nat}{w w':World}{b:Nat}{t:ByteArray}{rv:Value}{mc mt:Nat}{d:Int}{sub:PS->Except Flt (α×PS)}{P:(Nat->Prop)->α->World->Value->Prop}(h:Qfd fn w b t rv mc mt d sub P)(hm:Mod b w w'):Qfd fn w' b t rv mc mt d sub P:=
 fun W s hW hr=>h W s (hm.trans hW) hr
structure TreeP {α:Type} (P:(Nat→Prop)→α→World→Value→Prop):Prop where
 form:∀ X a w v,P X a w v→∃ ty x,v=.iface ty x
 keep:∀ X a w w' v,P X a w v→AbvX X w w'→P X a w' v
 weak:∀ X Y a w v,P X a w v→(∀ k,X k→k < w.heap.size→Y k)→P Y a w v
theorem QrK(d:Int)(h0:0<=d)(h1:d<=100):IntKind.i64.wrap (d+1)=d+1:=by
 rw[IntKind.wrap_i64];omega
theorem QwZ{α:Type}(sub:PS->Except Flt (α×PS))(P:(Nat->Prop)->α->World->Value->Prop)(hw:L8)(hp:Nat)(d:Int)(b:Nat)(t:ByteArray)(s:PS)(rv:Value)(mc mt:Nat)(w:World)(h:RC w b t s rv mc mt)(ab:0<=d)(ac:d<=100)(hP:TreeP P)(ho:Qfd 186 w b t rv mc mt (d+1) sub P) :
 Calls Tryz.prog 128 #[.pointer (some ⟨b,0,none⟩),QcH hw hp,.int .i64 d] w (Qap (sub s) b t rv mc mt w (fun a w' v=>∃ u,v=.iface 305 (.agg #[.string (Qaf hw),.int .i64 hp,u])/\P (fromB w.heap.size) a w' u)):=by
 have H:=Qab h;have HO:=Qab ho;have HP:=Qab hP;have ad:=h.at_.lt;have hwr:=QrK d ab ac;clear h ho hP;unfold QcH;go_enter func128,ntmps128;go_wp2_with fail;go_region_with (first|(go_at_call 186;refine(HO.o _ s (((Mod.refl b w).alloc _).drew) ((H.o.alloc _).drew)).mono ?_;intro e w1 h1;rcases h1.cases with⟨y,v,hy,rfl,hv,hc,hm⟩ | ⟨f,hf,⟨bb,hz,rfl,aa⟩,hm⟩;rotate_left;exact⟨rfl,Qap.err hf (((Mod.refl b w).alloc _).trans (QaY hm)) ⟨bb,by simp at hz;omega,rfl,aa⟩⟩;obtain⟨hh0,hh1⟩:=Qf2 hw hp (QaY hm) ad;have HY:=Qab hy;have HC:=Qab hc;have HM:=Qab (((Mod.refl b w).alloc (.cells #[.string (Qaf hw),.int .i64 hp] 216)).trans (QaY hm));have HV:=Qab (HP.o.weak _ (fromB w.heap.size) _ _ _ hv (fun k hk _=>Nat.le_trans (by simp) hk));obtain⟨ty,x,rfl⟩:=HP.o.form _ _ _ _ hv;clear h1 hy hc hm hv;skip))
 all_goals go_wp2
 all_goals go_ret
 all_goals exact Qap.ok HY.o HM.o ⟨_,rfl,HV.o⟩ HC.o
def trX {α:Type} (X:Nat→Prop) (P:(Nat→Prop)→α→World→Value→Prop) (xs:List α) (w:World) (v:Value):Prop:=
 ∃ g c,v=.slice (some ⟨g,0,none⟩) xs.length c∧X g∧∀ j (hj:j < xs.length),∃ u,w.cell? ⟨g,j,none⟩=some u∧P X xs[j] w u
theorem trX.keep{α:Type}{X:Nat->Prop}{P:(Nat->Prop)->α->World->Value->Prop}(hP:TreeP P){xs:List α}{w w':World}{v:Value}(h:trX X P xs w v)(hm:AbvX X w w'):trX X P xs w' v:=by
 obtain⟨g,c,hv,hg,hx⟩:=h;refine⟨g,c,hv,hg,fun j hj=>?_⟩;obtain⟨u,hu,hp⟩:=hx j hj;refine⟨u,?_,hP.keep _ _ _ _ _ hp hm⟩;rw[World.cell?_of_block (w:=w) (a:=⟨g,j,none⟩) (hm g hg (Qau hu))];exact hu
theorem trX.weak{α:Type}{X Y:Nat->Prop}{P:(Nat->Prop)->α->World->Value->Prop}(hP:TreeP P){xs:List α}{w:World}{v:Value}(aa:xs≠[])(h:trX X P xs w v)(hB:∀ k,X k->k<w.heap.size->Y k):trX Y P xs w v:=by
 obtain⟨g,c,hv,hg,hx⟩:=h;refine⟨g,c,hv,?_,fun j hj=>?_⟩
 ·obtain⟨u,hu,_⟩:=hx 0 (List.length_pos_iff.2 aa);exact hB g hg (Qau hu)
 ·obtain⟨u,hu,hp⟩:=hx j hj;exact⟨u,hu,hP.weak _ _ _ _ _ hp hB⟩
theorem trX.form{α:Type}{X:Nat->Prop}{P:(Nat->Prop)->α->World->Value->Prop}{xs:List α}{w:World}{v:Value}(h:trX X P xs w v):∃ g n c,v=.slice (some ⟨g,0,none⟩) n c:=by
 obtain⟨g,c,hv,_⟩:=h;exact⟨g,_,c,hv⟩
def QlN {α:Type} (P:α→Value→Prop):List α→List Value→Prop
 | [],[]=>True
 | a :: xs,v :: vs=>P a v∧QlN P xs vs
 | _,_=>False
theorem QlN.imp{α:Type}{P Q:α->Value->Prop}(h:∀ a v,P a v->Q a v):∀ {xs:List α} {vs:List Value},QlN P xs vs->QlN Q xs vs
 | [],[],_=>trivial
 |a::xs,v::vs,hr=>⟨h _ _ hr.1,QlN.imp h hr.2⟩
 | [],_::_,hr=>hr.elim
 |_::_,[],hr=>hr.elim
theorem QlN.snoc{α:Type}{P:α->Value->Prop}{a:α}{v:Value}(h:P a v):∀ {xs:List α} {vs:List Value},QlN P xs vs->QlN P (xs++[a]) (vs++[v])
 | [],[],_=>⟨h,trivial⟩
 |a'::xs,v'::vs,hr=>⟨hr.1,QlN.snoc h hr.2⟩
 | [],_::_,hr=>hr.elim
 |_::_,[],hr=>hr.elim
theorem QlN.at{α:Type}{P:α->Value->Prop}:∀ {xs:List α} {vs:List Value},QlN P xs vs->∀ j (hj:j<xs.length),∃ u,vs[j]?=some u/\P xs[j] u
 | [],[],_,j,hj=>absurd hj (Nat.not_lt_zero _)
 |a::xs,v::vs,h,0,_=>⟨v,rfl,h.1⟩
 |a::xs,v::vs,h,j+1,hj=>by
  obtain⟨u,h1,h2⟩:=QlN.at h.2 j (by simpa using hj);exact⟨u,by simpa using h1,by simpa using h2⟩
 | [],_::_,h,_,_=>h.elim
 |_::_,[],h,_,_=>h.elim
def Qhz {α:Type} (P:(Nat→Prop)→α→World→Value→Prop) (base:Nat) (w:World) (v:Value) (a:α) (u:Value):Prop:=
 ∃ X,P X a w u∧(∀ k,X k→base≤k∧k < w.heap.size)∧∀ g,v.ownBlock=some g→¬ X g
theorem Qhz.mod{α:Type}{P:(Nat->Prop)->α->World->Value->Prop}(hP:TreeP P){base b:Nat}{w w':World}{v:Value}{a:α}{u:Value}(h:Qhz P base w v a u)(hm:Mod b w w')(hb:b<base):Qhz P base w' v a u:=by
 obtain⟨X,h1,h2,h3⟩:=h;exact⟨X,hP.keep _ _ _ _ _ h1 (hm.abvX (fun e=>by have:=(h2 b e).1;omega)),fun k hk=>⟨(h2 k hk).1,Nat.lt_of_lt_of_le (h2 k hk).2 hm.size⟩,h3⟩
theorem Qhz.grown{α:Type}{P:(Nat->Prop)->α->World->Value->Prop}(hP:TreeP P){base:Nat}{w w':World}{v v':Value}{a:α}{u:Value}{o:Obj}(h:Qhz P base w v a u)(hg:(w.alloc o).grownBy w' v.ownBlock)(hv:v'.ownBlock=v.ownBlock\/v'.ownBlock=some (w.heap.size+1)):Qhz P base w' v' a u:=by
 obtain⟨X,h1,h2,h3⟩:=h
 have hA:AbvX X w w':=fun k hk hz=>by
  rw[hg.block k (by simp;omega) (fun e=>h3 k e.symm hk)];exact Below.heap_alloc _ _ _ hz
 refine⟨X,hP.keep _ _ _ _ _ h1 hA,fun k hk=>⟨(h2 k hk).1,?_⟩,fun g hgb hX=>?_⟩
 ·have:=(h2 k hk).2;have:=hg.size;simp at this;omega
 ·rcases hv with hv|hv
  ·exact h3 g (hv ▸ hgb) hX
  ·rw[hv]at hgb;have:=(h2 g hX).2;simp at hgb;omega
theorem Qhz.new{α:Type}{P:(Nat->Prop)->α->World->Value->Prop}(hP:TreeP P){base B:Nat}{w:World}{v:Value}{a:α}{u:Value}(h:P (fromB B) a w u)(hB:base<=B)(hv:∀ g,v.ownBlock=some g->g<B):Qhz P base w v a u:=
 ⟨fun k=>B<=k/\k<w.heap.size,hP.weak _ _ _ _ _ h (fun k hk hz=>⟨hk,hz⟩),fun k hk=>⟨Nat.le_trans hB hk.1,hk.2⟩,fun g hg hX=>by have:=hv g hg;omega⟩
theorem trX.of_owns{α:Type}{P:(Nat->Prop)->α->World->Value->Prop}(hP:TreeP P){w:World}{base n:Nat}{e:TypeId}{v:Value}{xs:List α}{vs:List Value}(h:w.ownsRow base e 1 v n vs)(hn:n=xs.length)(hx:xs≠[])(hr:QlN (fun a u=>Qhz P base w v a u) xs vs):trX (fromB base) P xs w v:=by
 subst hn;have hc:=fun g (hg:v.ownBlock=some g)=>h.cells hg
 obtain⟨h1,h2⟩:=h;rcases h2 with⟨_,h3⟩ | ⟨g,aa,cur,hv,hg,r⟩
 ·exact absurd (List.eq_nil_of_length_eq_zero h3) hx
 ·refine⟨g,aa,hv,hg,fun j hj=>?_⟩;obtain⟨u,hu,X,hp,hX,_⟩:=hr.at j hj;have:=hc g (by rw[hv];rfl) j u hu;rw[Qcs]at this;exact⟨u,this,hP.weak _ _ _ _ _ hp (fun k hk _=>(hX k hk).1)⟩
end
section
open Go.RowKit
theorem Tryz.infoTest:(Tryz.prog.info? 218).map (fun i=>(i.zero,i.size,i.bytes))=some (some .nilIface,1,16):=by kernel_rfl
theorem QhP{α:Type}{l:L8}{sub:PS->Except Flt (α×PS)}{f:Nat}{aa:List α}{s:PS}{e:Flt}(h:paL l [[44],[41]] s=.error e):gMr l sub (f+1) aa s=.error e:=by rw[gMr];exact Qad h
theorem Qmd{α:Type}{l:L8}{sub:PS->Except Flt (α×PS)}{f:Nat}{aa:List α}{s:PS}{y:Nat×PS}(h:paL l [[44],[41]] s=.ok y)(h1:¬ y.1=1):gMr l sub (f+1) aa s=.ok (aa,y.2):=by rw[gMr,Qac h,if_neg h1]
theorem QiR{α:Type}{l:L8}{sub:PS->Except Flt (α×PS)}{f:Nat}{aa:List α}{s:PS}{y:Nat×PS}{e:Flt}(h:paL l [[44],[41]] s=.ok y)(h1:y.1=1)(h2:sub y.2=.error e):gMr l sub (f+1) aa s=.error e:=by rw[gMr,Qac h,if_pos h1];exact Qad h2
theorem QnF{α:Type}{l:L8}{sub:PS->Except Flt (α×PS)}{f:Nat}{aa:List α}{s:PS}{y:Nat×PS}{z:α×PS}(h:paL l [[44],[41]] s=.ok y)(h1:y.1=1)(h2:sub y.2=.ok z):gMr l sub (f+1) aa s=gMr l sub f (aa++[z.1]) z.2:=by rw[gMr,Qac h,if_pos h1];exact Qac h2
theorem Qv7:∀ z∈([[44],[41]]:List (L8)),z≠[]:=by decide
def SubMu {α:Type} (n:Nat) (sub:PS→Except Flt (α×PS)):Prop:=∀ s y,s.2≤n→(s.1.kind=0→s.1.spelt=[])→sub s=.ok y→mu n y.2 < mu n s
theorem QnZ{α:Type}(sub:PS->Except Flt (α×PS))(P:(Nat->Prop)->α->World->Value->Prop)(hw:L8)(hp:Nat)(d:Int)(b F:Nat)(t:ByteArray)(s:PS)(rv:Value)(mc mt:Nat)(w:World)(h:RC w b t s rv mc mt)(hF:2*t.size+1<F)(hd0:0<=d)(hd1:d<=100)(hP:TreeP P)(hS:SubMu t.size sub)(ho:Qfd 186 w b t rv mc mt (d+1) sub P) :
 Calls Tryz.prog 130 #[.pointer (some ⟨b,0,none⟩),QcH hw hp,.int .i64 d] w (Qap (groupL t.data.toList F sub s) b t rv mc mt w (fun xs w' v=>∃ u,v=.agg #[.string (Qaf hw),.int .i64 hp,u]/\trX (fromB w.heap.size) P xs w' u/\xs≠[])):=by
 have H:=Qab h;have HO:=Qab ho;have HP:=Qab hP;have bo:=Qab hS;have hlt:=h.at_.lt;clear h ho hP hS;unfold QcH;obtain⟨i0,hi,bA,bB,bC⟩:=info_parts Tryz.infoTest;go_enter func130,ntmps130;go_wp2_with fail;obtain⟨V,hV⟩:∃ V,V=(w.alloc (.cells #[.string (Qaf hw),.int .i64 hp] 216)).alloc (.cells #[.string ⟨#[]⟩,.int .i64 0,.slice none 0 0] 221):=⟨_,rfl⟩;have bm:Hid (RC V b t s rv mc mt):=by rw[hV];exact(H.o.alloc _).alloc _
 have aP:Hid (Mod b w V):=by rw[hV];exact((Mod.refl b w).alloc _).alloc _
 have bq:Hid (V.heap[w.heap.size]?=some (.cells #[.string (Qaf hw),.int .i64 hp] 216)):=by rw[hV];exact Qae (Qat _ _)
 have br:Hid (V.heap[w.heap.size+1]?=some (.cells #[.string ⟨#[]⟩,.int .i64 0,.slice none 0 0] 221)):=by rw[hV];exact Qaw (by simp)
 have hzV:V.heap.size=w.heap.size+1+1:=by rw[hV];simp
 have ay:=Qab (QcV b V.heap.size 1 1 [[40]] t s rv mc mt _ (bm.o.alloc (.cells (QaN [[40]]).toArray 9)) (Qba V [[40]] _ _ rfl) rfl (by decide));rw[hV]at ay;rw[show((w.alloc (.cells #[.string (Qaf hw),.int .i64 hp] 216)).alloc (.cells #[.string ⟨#[]⟩,.int .i64 0,.slice none 0 0] 221)).heap.size=w.heap.size+1+1 from by simp]at ay;refine ay.o.mono ?_;rw[<-hV];intro e w1 h1;rcases h1.cases with⟨y,v,hy,rfl,hv,hc,hm⟩ | ⟨f,hf,⟨bb,hz,rfl,ag⟩,hm⟩
 rotate_left
 ·exact⟨rfl,Qap.err (Qad hf) ((aP.o.alloc _).trans hm) ⟨bb,by simp at hz;omega,rfl,ag⟩⟩
 unfold QlE at hv;subst hv;have HY:=Qab hy;have HC:=Qab hc;have av:=Qab ((aP.o.alloc (.cells (QaN [[40]]).toArray 9)).trans hm);have a8:=Qab (QaU (Qae bq.o) hm (by omega));have aR:=Qab (QaU (Qae br.o) hm (by omega));clear h1 hy hc hm hV ay;go_wp2_with fail;refine(HO.o _ y.2 av.o HC.o).mono ?_;intro e w2 h2;rcases h2.cases with⟨z,v,a3,rfl,hv,hc,hm⟩ | ⟨f,hf,⟨bb,hz,rfl,ag⟩,hm⟩
 rotate_left
 ·exact⟨rfl,Qap.err ((Qac HY.o).trans (Qad hf)) (av.o.trans hm) ⟨bb,Nat.le_trans av.o.size hz,rfl,ag⟩⟩
 have hz1':w.heap.size+1<w1.heap.size:=QaI aR.o;have HV2:=Qab hv;obtain⟨ty,x,rfl⟩:=HP.o.form _ _ _ _ hv;have aV:=Qab a3;have ar:=Qab hc;have bd:=Qab (av.o.trans hm);have a9:=Qab (QaU a8.o hm (by omega));have aS:=Qab (QaU aR.o hm (by omega));have bz:w.heap.size+1<w2.heap.size:=QaI aS.o;have aI:=ar.o.mu_le;have ap:=ar.o.mu_lt hF;clear h2 a3 hc hm hv;go_wp2_with fail
 go_loopw [7] (fun v wr=>∃(s':PS) (af:List α) (vs:List Value) (f:Nat),wr.ownsRow (w.heap.size+1+1) 218 1 v af.length vs/\QlN (fun a u=>Qhz P (w.heap.size+1+1) wr v a u) af vs/\af≠[]/\RC wr b t s' rv mc mt/\Mod b w wr/\wr.heap[w.heap.size]?=some (.cells #[.string (Qaf hw),.int .i64 hp] 216)/\wr.heap[w.heap.size+1]?=some (.cells #[.string ⟨#[]⟩,.int .i64 0,.slice none 0 0] 221)/\mu t.size s'<f/\af.length+mu t.size s'<=1300/\groupL t.data.toList F sub s=gMr t.data.toList sub f af s') (fun _ wr=>muW wr b t.size)
 case atStart=>
  have hA:Mod b w2 (w2.alloc (.cells #[.iface ty x] 218)):=(Mod.refl b w2).alloc _
  have hG:Qhz P (w.heap.size+1+1) w2 (.slice (some ⟨w2.heap.size,0,none⟩) 1 1) z.1 (.iface ty x):=⟨fun k=>w1.heap.size≤k∧k < w2.heap.size,HP.o.weak _ _ _ _ _ HV2.o (fun k hk hz=>⟨hk,hz⟩),fun k hk=>⟨by omega,hk.2⟩,fun g hg hX=>by
   have:w2.heap.size=g:=by simpa[Value.ownBlock]using hg
   omega⟩
  refine⟨z.2,[z.1],[.iface ty x],F,?_,⟨hG.mod HP.o hA (by omega),trivial⟩,by simp,ar.o.alloc _,bd.o.alloc _,Qae a9.o,Qae aS.o,ap,by simp;omega,(Qac HY.o).trans (Qac aV.o)⟩;exact World.ownsRow_lit (e:=218) (size:=1) w2 #[.iface ty x] 1 bz (by unfold maxLen;omega) rfl
 case round=>
  obtain⟨s',af,vs,f,aq,ab,aJ,a0,ao,aW,aF,hf,hbd,a1⟩:=hrel;obtain⟨f,rfl⟩:∃ g,f=g+1:=⟨f - 1,by omega⟩;have HR:=Qab a0;have aQ:=Qab ao;have aw:=Qab a1;have bj:=Qab aq;have bn:=Qab ab;have a4:=Qab aW;have a5:=Qab aF;have hwr:w.heap.size+1<wr.heap.size:=QaI aF;clear a0 ao a1 aq ab aW aF HC ar HY aV aI ap;go_wp2_with fail;refine(QcV b wr.heap.size 2 2 [[44],[41]] t s' rv mc mt _ (HR.o.alloc _) (Qba wr [[44],[41]] _ _ rfl) rfl (by decide)).mono ?_;intro e w3 h3;rcases h3.cases with⟨y3,v3,aM,rfl,a2,aX,ax⟩ | ⟨f3,bv,⟨bb,hz,rfl,ag⟩,ax⟩
  rotate_left
  ·exact⟨rfl,Qap.err (aw.o.trans (QhP bv)) ((aQ.o.alloc _).trans ax) ⟨bb,by simp at hz;omega,rfl,ag⟩⟩
  have ah:=Qjd (l:=t.data.toList) (by simpa using HR.o.le) HR.o.e0 Qv7 aM;rw[bal]at ah;replace ah:=ah.1;have aj:=((Mod.refl b wr).alloc (.cells #[.string ⟨#[44]⟩,.string ⟨#[41]⟩] 9)).trans ax;have ak:=Qab (aQ.o.trans aj);have aC:=Qab aM;have au:=Qab aX;have aB:=Qab (Qbt (b:=b) bj.o aj (by omega));have aU:=Qab (bn.o.imp (fun a u hu=>Qhz.mod HP.o (b:=b) (w':=w3) hu aj (by omega)));have aA:=Qab (QaU a4.o aj (by omega));have ai:=Qab (QaU a5.o aj (by omega));unfold QlE at a2;subst a2;clear h3 aM aX ax aj;by_cases h1:y3.1=1;rotate_left
  ·have bu:((y3.1:Int)==1)=false:=by simp;omega
   have H1:=Qab h1;have HT:=Qab (trX.of_owns HP.o aB.o rfl aJ aU.o);obtain⟨gg,nn,cc,rfl⟩:=HT.o.form;have k0:w3.cell? ⟨w.heap.size,0,none⟩=some (.string (Qaf hw)):=Qaa aA.o 0;have k1:w3.cell? ⟨w.heap.size,1,none⟩=some (.int .i64 hp):=Qaa aA.o 1;have r0:w3.cell? ⟨w.heap.size+1,0,none⟩=some (.string ⟨#[]⟩):=Qaa ai.o 0;have r1:w3.cell? ⟨w.heap.size+1,1,none⟩=some (.int .i64 0):=Qaa ai.o 1;have r2:w3.cell? ⟨w.heap.size+1,2,none⟩=some (.slice none 0 0):=Qaa ai.o 2;have rf:=Qao ai.o;clear h1;go_wp2;have aE:b<w.heap.size+1:=by omega
   have aL:w.heap.size<=w.heap.size+1:=by omega
   have hq:¬ fromB (w.heap.size+1+1) (w.heap.size+1):=by unfold fromB;omega
   have bx:∀ k,fromB (w.heap.size+1+1) k->fromB w.heap.size k:=fun k hk=>by unfold fromB at *;omega
   refine bodyPost_ret (v:=.agg #[.string (Qaf hw),.int .i64 hp,.slice (some ⟨gg,0,none⟩) nn cc]) (by simp[results,results130,go_sem,r0,r1,r2]) rfl (Qap.ok (aw.o.trans (Qmd aC.o H1.o)) (((ak.o.setNew aL _ _).setNew aL _ _).setNew aL _ _) ⟨_,rfl,?_,aJ⟩ (((au.o.setNew aE _ _).setNew aE _ _).setNew aE _ _));exact trX.weak HP.o aJ (((HT.o.keep HP.o (AbvX.set hq _ _)).keep HP.o (AbvX.set hq _ _)).keep HP.o (AbvX.set hq _ _)) (fun k hk _=>bx k hk)
  have bu:((y3.1:Int)==1)=true:=by simp;omega
  have H1:=Qab h1;clear h1;go_wp2_with fail;refine(HO.o _ y3.2 ak.o au.o).mono ?_;intro e w4 h4;rcases h4.cases with⟨z4,v4,aN,rfl,aK,aY,ad⟩ | ⟨f4,bw,⟨bb,hz,rfl,ag⟩,ad⟩
  rotate_left
  ·exact⟨rfl,Qap.err (aw.o.trans (QiR aC.o H1.o bw)) (ak.o.trans ad) ⟨bb,Nat.le_trans ak.o.size hz,rfl,ag⟩⟩
  have hmu4:=bo.o y3.2 z4 au.o.le au.o.e0 aN;have hz3:w.heap.size+1<w3.heap.size:=QaI ai.o;have bp:=Qab aK;obtain⟨az,x4,rfl⟩:=HP.o.form _ _ _ _ aK;have bf:=Qab (ak.o.trans ad);have bt:=Qab aN;have a6:=Qab aY;have ac:=Qbt (b:=b) aB.o ad (by omega);have bs:=Qab (aU.o.imp (fun a u hu=>Qhz.mod HP.o (b:=b) (w':=w4) hu ad (by omega)));have aH:=Qab (fun k hk=>(aB.o.lt k hk).2);have a7:=Qab (Qhz.new HP.o (base:=w.heap.size+1+1) bp.o (by omega) aH.o);have ba:=Qab (QaU aA.o ad (by omega));have aT:=Qab (QaU ai.o ad (by omega));have hz4:w.heap.size+1<w4.heap.size:=QaI aT.o;clear h4 aN aY ad aK;go_wp2_with (at_builtin;refine wpList_append_own_at _ rfl _ _ 219 rfl (w.heap.size+1+1) 218 i0 .nilIface 1 16 underlying219 hi bA bB bC rfl (by decide) _ _ _ rfl (ac.alloc _) ⟨w4.heap.size,0,none⟩ 1 1 [.iface az x4] rfl rfl ?c1 ?c2 ?c3 ?c4 ?c5 ?_)
  case c1=>
   intro j u hj
   match j,hj with
   |0,hj=>simp at hj;subst hj;simp[Addr.add]
  case c2=>intro u hu;simp at hu;subst hu;rfl
  case c3=>unfold maxLen;omega
  case c4=>omega
  case c5=>simp;omega
  ·intro v' w5 ae aa _ aD;have ab:∀ k,(u7).ownBlock=some k->w.heap.size+1+1<=k:=fun k hk=>(ac.lt k hk).1
   have bg:=Qab ((bf.o.alloc (Obj.cells #[.iface az x4] 218)).grown aa (fun k hk=>by have:=ab k hk;omega));have aO:=Qab ((a6.o.alloc (Obj.cells #[.iface az x4] 218)).grown aa (fun k hk=>by have:=ab k hk;omega));have bi:=Qab ae;have bk:=Qab (QlN.snoc (P:=fun a u=>Qhz P (w.heap.size+1+1) w5 v' a u) (a7.o.grown HP.o aa aD) (bs.o.imp (fun a u hu=>Qhz.grown HP.o hu aa aD)))
   have aG:∀ k,k<w.heap.size+1+1->w5.heap[k]?=w4.heap[k]?:=fun k hk=>by
    rw[aa.block k (by simp;omega) (fun e=>by have:=ab k e.symm;omega)];exact Below.heap_alloc _ _ _ (by omega)
   have bc:=Qab ((aG w.heap.size (by omega)).trans ba.o);have bl:=Qab ((aG (w.heap.size+1) (by omega)).trans aT.o);have aZ:muW w5 b t.size<muW wr b t.size:=by rw[aO.o.muEq,HR.o.muEq];omega
   have bh:=Qab aZ;clear ae aa aZ ac ab aG aD;go_wp2;go_roundw
   case rel=>exact⟨z4.2,af++[z4.1],vs++[.iface az x4],f,by simpa using bi.o,bk.o,by simp,aO.o,bg.o,bc.o,bl.o,by omega,by simp;omega,aw.o.trans (QnF aC.o H1.o bt.o)⟩
   case measure=>exact bh.o
end
end Go.Proofs.YtgnkjijocdmniaaGreatDoor
