import Derived.Test.YtgnkjijocdmniaaGreatDoorZPlainLines
import Derived.Test.YtgnkjijocdmniaaGreatDoorStr
namespace Go.Proofs.YtgnkjijocdmniaaGreatDoor
set_option linter.unusedVariables false
set_option linter.unusedSimpArgs false
set_option maxRecDepth 100000
set_option maxHeartbeats 4000000
open Go.Proofs.Tryz
section
open Go.RowKit
def muW (w:World) (b n:Nat):Nat:=
 match w.heap[b]? with
 | some (.cells cs _ _)=>2*(n - (intOf (cs.getD 6 undef)).toNat)+(if intOf (cs.getD 1 undef)=0 then 0 else 1)
 | _=>0
theorem RC.muEq{w:World}{b:Nat}{t:ByteArray}{s:PS}{rv:Value}{mc mt:Nat}(h:RC w b t s rv mc mt):muW w b t.size=mu t.size s:=by
 unfold muW;rw[h.at_];simp[QlT,intOf,mu]
theorem Qbt{w w':World}{base b:Nat}{e:TypeId}{size:Nat}{v:Value}{n:Nat}{xs:List Value}(h:w.ownsRow base e size v n xs)(hm:Mod b w w')(hb:b<base):w'.ownsRow base e size v n xs:=by
 obtain⟨h1,h2⟩:=h;refine⟨h1,?_⟩;rcases h2 with h2 | ⟨g,aa,ab,hv,hg,hh,r⟩
 ·exact Or.inl h2
 ·have ac:g<w.heap.size:=by
   rcases Nat.lt_or_ge g w.heap.size with h'|h'
   ·exact h'
   ·rw[Array.getElem?_eq_none h']at hh;cases hh
  exact Or.inr ⟨g,aa,ab,hv,hg,by rw[hm.block g ac (by omega)];exact hh,r⟩
theorem Mod.grown{b:Nat}{u w w':World}{aa:Option Nat}(h:Mod b u w)(hg:w.grownBy w' aa)(hr:∀ k,aa=some k->u.heap.size<=k):Mod b u w':=
 ⟨hg.os.trans h.os,hg.tape.trans h.tape,hg.output.trans h.output,Nat.le_trans h.size hg.size,fun k hk hn=>
  (hg.block k (Nat.lt_of_lt_of_le hk h.size) (fun e=>by have:=hr k e.symm;omega)).trans (h.block k hk hn)⟩
theorem RC.grown{w w':World}{b:Nat}{t:ByteArray}{s:PS}{rv:Value}{mc mt:Nat}{ab:Option Nat}(h:RC w b t s rv mc mt)(hg:w.grownBy w' ab)(hr:∀ k,ab=some k->b<k):RC w' b t s rv mc mt:=by
 have hb:=h.at_.lt;have h1:=h.b1;have aa:∀ k,k<=b->w'.heap[k]?=w.heap[k]?:=fun k hk=>hg.block k (by omega) (fun e=>by have:=hr k e.symm;omega)
 refine⟨by unfold RAt;rw[aa b (Nat.le_refl _)];exact h.at_,h.le,?_,h.b1,h.hs,h.sz,h.e0,h.nm⟩;obtain⟨m,hm⟩:=h.m;exact⟨m,by rw[World.cell?_of_block (a:=⟨1,0,none⟩) (aa 1 (by omega))];exact hm⟩
def Abv (B:Nat) (w w':World):Prop:=∀ k,B≤k→k < w.heap.size→w'.heap[k]?=w.heap[k]?
theorem Mod.abv{b B:Nat}{w w':World}(h:Mod b w w')(hb:b<B):Abv B w w':=fun k hB hk=>h.block k hk (by omega)
theorem Abv.set{B g:Nat}{w:World}(hg:g<B)(o:Nat)(v:Value):Abv B w (w.setCell ⟨g,o,none⟩ v):=fun k hB _=>Below.heap_setCell _ _ _ _ (by show k≠g;omega)
def slB (B:Nat) (xs:List (L8)) (w:World) (v:Value):Prop:=
 ∃ g c,v=.slice (some ⟨g,0,none⟩) xs.length c∧B≤g∧TxtAt w g xs∧xs≠[]
theorem slB.of_owns{w:World}{base n:Nat}{v:Value}{xs:List (L8)}(h:w.ownsRow base 9 1 v n (QaN xs))(hn:n=xs.length)(hx:xs≠[]):slB base xs w v:=by
 subst hn;obtain⟨h1,h2⟩:=h;rcases h2 with⟨_,h3⟩ | ⟨g,aa,ab,hv,hg,r⟩
 ·exact absurd (List.eq_nil_of_length_eq_zero h3) hx
 ·subst hv;exact⟨g,aa,rfl,hg,TxtAt.of_owns (base:=base) ⟨h1,Or.inr ⟨g,aa,ab,rfl,hg,r⟩⟩,hx⟩
theorem slB.keep{B:Nat}{xs:List (L8)}{w w':World}{v:Value}(h:slB B xs w v)(hk:Abv B w w'):slB B xs w' v:=by
 obtain⟨g,c,hv,hg,ht,hx⟩:=h;refine⟨g,c,hv,hg,fun j hj=>?_,hx⟩;have:=ht j hj;rw[World.cell?_of_block (w:=w) (a:=⟨g,j,none⟩) (hk g hg (Qau this))];exact this
theorem slB.weak{B B':Nat}{xs:List (L8)}{w:World}{v:Value}(h:slB B xs w v)(hB:B'<=B):slB B' xs w v:=by
 obtain⟨g,c,hv,hg,r⟩:=h;exact⟨g,c,hv,by omega,r⟩
theorem slB.form{B:Nat}{xs:List (L8)}{w:World}{v:Value}(h:slB B xs w v):∃ g n c,v=.slice (some ⟨g,0,none⟩) n c:=by
 obtain⟨g,c,hv,_⟩:=h;exact⟨g,_,c,hv⟩
def QkV (w:World) (b:Nat) (t:ByteArray) (rv:Value) (mc mt:Nat) (cv:Value) (chk:L8→Nat):Prop:=
 ∀ (W:World) (s:PS),Mod b w W→RC W b t s rv mc mt→Calls Tryz.prog 179 #[.pointer (some ⟨b,0,none⟩),cv] W (Qap (sL t.data.toList chk s) b t rv mc mt W Qtf)
theorem QjF{l:L8}{chk:L8->Nat}{F:Nat}{s:PS}{f:Flt}(h:mayL l [[91]] s=.error f):sLs l chk F s=.error f:=by unfold sLs;rw[h]
theorem QfA{l:L8}{chk:L8->Nat}{F:Nat}{s:PS}{f:Flt}{y:Nat×PS}(h:mayL l [[91]] s=.ok y)(h2:sL l chk y.2=.error f):sLs l chk F s=.error f:=by unfold sLs;rw[h];dsimp only;rw[h2]
theorem QoS{l:L8}{chk:L8->Nat}{F:Nat}{s:PS}{y:Nat×PS}{z:L8×PS}(h:mayL l [[91]] s=.ok y)(h2:sL l chk y.2=.ok z)(h0:y.1=0):sLs l chk F s=.ok ([z.1],z.2):=by unfold sLs;rw[h];dsimp only;rw[h2];dsimp only;rw[if_pos h0]
theorem QmV{l:L8}{chk:L8->Nat}{F:Nat}{s:PS}{y:Nat×PS}{z:L8×PS}(h:mayL l [[91]] s=.ok y)(h2:sL l chk y.2=.ok z)(h0:¬ y.1=0):sLs l chk F s=moreL l chk F [z.1] z.2:=by unfold sLs;rw[h];dsimp only;rw[h2];dsimp only;rw[if_neg h0]
theorem QmF{l:L8}{chk:L8->Nat}{f:Nat}{aa:List (L8)}{s:PS}{e:Flt}(h:paL l [[44],[93]] s=.error e):moreL l chk (f+1) aa s=.error e:=by rw[moreL,h]
theorem QuA{l:L8}{chk:L8->Nat}{f:Nat}{aa:List (L8)}{s:PS}{y:Nat×PS}(h:paL l [[44],[93]] s=.ok y)(h1:¬ y.1=1):moreL l chk (f+1) aa s=.ok (aa,y.2):=by rw[moreL,h];dsimp only;rw[if_neg h1]
theorem QnT{l:L8}{chk:L8->Nat}{f:Nat}{aa:List (L8)}{s:PS}{y:Nat×PS}{e:Flt}(h:paL l [[44],[93]] s=.ok y)(h1:y.1=1)(h2:sL l chk y.2=.error e):moreL l chk (f+1) aa s=.error e:=by rw[moreL,h];dsimp only;rw[if_pos h1,h2]
theorem Qvi{l:L8}{chk:L8->Nat}{f:Nat}{aa:List (L8)}{s:PS}{y:Nat×PS}{z:L8×PS}(h:paL l [[44],[93]] s=.ok y)(h1:y.1=1)(h2:sL l chk y.2=.ok z):moreL l chk (f+1) aa s=moreL l chk f (aa++[z.1]) z.2:=by rw[moreL,h];dsimp only;rw[if_pos h1,h2]
theorem RC.mu_le{w:World}{b:Nat}{t:ByteArray}{s:PS}{rv:Value}{mc mt:Nat}(h:RC w b t s rv mc mt):mu t.size s<=1201:=by
 have:=h.hs;unfold mu;split<;>omega
theorem bal(t:ByteArray):t.data.toList.length=t.size:=by simp
theorem Qvj:∀ z∈([[44],[93]]:List (L8)),z≠[]:=by decide
theorem QeR(cv:Value)(chk:L8->Nat)(b F:Nat)(t:ByteArray)(s:PS)(rv:Value)(mc mt:Nat)(w:World)(h:RC w b t s rv mc mt)(ho:QkV w b t rv mc mt cv chk)(hF:mu t.size s<F) :
 Calls Tryz.prog 188 #[.pointer (some ⟨b,0,none⟩),cv] w (Qap (sLs t.data.toList chk F s) b t rv mc mt w (slB w.heap.size)):=by
 have H:=Qab h;have HO:=Qab ho;have aJ:=h.at_.lt;clear h ho;go_enter func188,ntmps188;go_wp2_with fail;refine(QhT b w.heap.size 1 1 [[91]] t s rv mc mt _ (H.o.alloc _) (Qba w [[91]] _ _ rfl) rfl (by decide)).mono ?_;intro e w1 h1;rcases h1.cases with⟨y,v,hy,rfl,hv,hc,hm⟩ | ⟨f,hf,⟨bb,hz,rfl,ad⟩,hm⟩
 rotate_left
 ·exact⟨rfl,Qap.err (QjF hf) (((Mod.refl b w).alloc _).trans hm) ⟨bb,by simp at hz;omega,rfl,ad⟩⟩
 have HM:=Qab (((Mod.refl b w).alloc _).trans hm);have HY:=Qab hy;have HC:=Qab hc;unfold QlE at hv;subst hv;clear h1 hy hc hm;by_cases h0:y.1=0
 ·have H0:=Qab h0;have aV:((y.1:Int)==0)=true:=by simp;omega
  clear h0;go_wp2_with fail;refine(HO.o _ y.2 HM.o HC.o).mono ?_;intro e w2 h2;rcases h2.cases with⟨z,v,aw,rfl,hv,hc,hm⟩ | ⟨f,hf,⟨bb,hz,rfl,ad⟩,hm⟩
  rotate_left
  ·exact⟨rfl,Qap.err (QfA HY.o hf) (HM.o.trans hm) ⟨bb,Nat.le_trans HM.o.size hz,rfl,ad⟩⟩
  unfold Qtf at hv;subst hv;have H2:=Qab aw;have ao:=Qab hc;have ap:=Qab hm;clear h2 aw hc hm;go_wp2;go_ret;refine Qap.ok (QoS HY.o H2.o H0.o) ((HM.o.trans ap.o).alloc _) ?_ (ao.o.alloc _);have h1:=HM.o.size;have h2:=ap.o.size;exact⟨w2.heap.size,1,rfl,by omega,Qba w2 [z.1] _ _ rfl,by simp⟩
 ·have H0:=Qab h0;have aV:((y.1:Int)==0)=false:=by simp;omega
  clear h0;go_wp2_with fail;refine(HO.o _ y.2 HM.o HC.o).mono ?_;intro e w2 h2;rcases h2.cases with⟨z,v,aw,rfl,hv,hc,hm⟩ | ⟨f,hf,⟨bb,hz,rfl,ad⟩,hm⟩
  rotate_left
  ·exact⟨rfl,Qap.err (QfA HY.o hf) (HM.o.trans hm) ⟨bb,Nat.le_trans HM.o.size hz,rfl,ad⟩⟩
  unfold Qtf at hv;subst hv;have H2:=Qab aw;have ao:=Qab hc;have ap:=Qab hm;clear h2 aw hc hm;obtain⟨i0,hi,a1,a2,a3⟩:=info_parts Tryz.infoStr;have af:=Qew (l:=t.data.toList) (by simpa using HC.o.le) H2.o;have ae:=Qkp (l:=t.data.toList) (zs:=[[91]]) (by simpa using H.o.le) H.o.e0 (by decide) HY.o;rw[bal]at ae af;replace ae:=ae.1;replace af:=af.1;have aA:=ao.o.mu_le;have a0:w.heap.size<=w2.heap.size:=Nat.le_trans HM.o.size ap.o.size;go_wp2_with fail
  go_loopw [5] (fun v wr=>∃(s':PS) (ag:List (L8)) (f:Nat),wr.ownsRow w.heap.size 9 1 v ag.length (QaN ag)/\ag≠[]/\RC wr b t s' rv mc mt/\Mod b w wr/\mu t.size s'<f/\ag.length+mu t.size s'<=1300/\sLs t.data.toList chk F s=moreL t.data.toList chk f ag s') (fun _ wr=>muW wr b t.size)
  case atStart=>
   refine⟨z.2,[z.1],F,?_,by simp,ao.o.alloc _,(HM.o.trans ap.o).alloc _,by omega,by simp;omega,QmV HY.o H2.o H0.o⟩;exact World.ownsRow_lit (e:=9) (size:=1) w2 #[.string (Qaf z.1)] 1 a0 (by unfold maxLen;omega) rfl
  case round=>
   obtain⟨s',ag,f,av,aZ,aL,ah,hf,hbd,aM⟩:=hrel;obtain⟨f,rfl⟩:∃ g,f=g+1:=⟨f - 1,by omega⟩;have HR:=Qab aL;have aF:=Qab ah;have ax:=Qab aM;have aT:=Qab av;have hwr:w.heap.size<=wr.heap.size:=ah.size;clear aL ah aM av HC ao HY H2 ae af aA;go_wp2_with fail;refine(QcV b wr.heap.size 2 2 [[44],[93]] t s' rv mc mt _ (HR.o.alloc _) (Qba wr [[44],[93]] _ _ rfl) rfl (by decide)).mono ?_;intro e w3 h3;rcases h3.cases with⟨y3,v3,aB,rfl,aN,aH,ar⟩ | ⟨f3,aX,⟨bb,hz,rfl,ad⟩,ar⟩
   rotate_left
   ·exact⟨rfl,Qap.err (ax.o.trans (QmF aX)) ((aF.o.alloc _).trans ar) ⟨bb,by simp at hz;omega,rfl,ad⟩⟩
   have ai:=Qjd (l:=t.data.toList) (by simpa using HR.o.le) HR.o.e0 Qvj aB;rw[bal]at ai;replace ai:=ai.1;have aq:=Qab ((aF.o.alloc _).trans ar);have az:=Qab aB;have ay:=Qab aH;have aG:=Qab (Qbt (aT.o.alloc _) ar aJ);unfold QlE at aN;subst aN;clear h3 aB aH ar;by_cases h1:y3.1=1;rotate_left
   ·have aW:((y3.1:Int)==1)=false:=by simp;omega
    have H1:=Qab h1;clear h1;go_wp2;go_ret;exact Qap.ok (ax.o.trans (QuA az.o H1.o)) aq.o (slB.of_owns aG.o rfl aZ) ay.o
   have aW:((y3.1:Int)==1)=true:=by simp;omega
   have H1:=Qab h1;clear h1;go_wp2_with fail;refine(HO.o _ y3.2 aq.o ay.o).mono ?_;intro e w4 h4;rcases h4.cases with⟨z4,v4,aC,rfl,aO,aI,au⟩ | ⟨f4,aY,⟨bb,hz,rfl,ad⟩,au⟩
   rotate_left
   ·exact⟨rfl,Qap.err (ax.o.trans (QnT az.o H1.o aY)) (aq.o.trans au) ⟨bb,Nat.le_trans aq.o.size hz,rfl,ad⟩⟩
   have aj:=Qew (l:=t.data.toList) (by simpa using ay.o.le) aC;rw[bal]at aj;replace aj:=aj.1;unfold Qtf at aO;subst aO;have aE:=Qab (aq.o.trans au);have aU:=Qab aC;have aP:=Qab aI;have ab:=Qbt aG.o au aJ;have hw4:w.heap.size<=w4.heap.size:=aE.o.size;clear h4 aC aI au;go_wp2_with (at_builtin;refine wpList_append_own _ rfl _ _ 61 rfl w.heap.size 9 i0 (.string ⟨#[]⟩) 1 16 underlying61 hi a1 a2 a3 rfl (by decide) _ _ _ rfl (ab.alloc _) ⟨w4.heap.size,0,none⟩ 1 1 [.string (Qaf z4.1)] rfl rfl ?c1 ?c2 ?c3 ?c4 ?c5 ?_)
   case c1=>
    intro j u hj
    match j,hj with
    |0,hj=>simp at hj;subst hj;simp[Addr.add]
   case c2=>intro u hu;simp at hu;subst hu;rfl
   case c3=>unfold maxLen;omega
   case c4=>omega
   case c5=>simp;omega
   ·intro v' w5 ac aa _;have ak:∀ k,(u5).ownBlock=some k->w.heap.size<=k:=fun k hk=>(ab.lt k hk).1
    have aQ:=Qab ((aE.o.alloc (Obj.cells #[.string (Qaf z4.1)] 9)).grown aa ak);have aD:=Qab ((aP.o.alloc (Obj.cells #[.string (Qaf z4.1)] 9)).grown aa (fun k hk=>by have:=ak k hk;omega));rw[Qci]at ac;have aS:=Qab ac;have aK:muW w5 b t.size<muW wr b t.size:=by rw[aD.o.muEq,HR.o.muEq];omega
    have aR:=Qab aK;clear ac aa ab ak aK;go_wp2;go_roundw
    case rel=>exact⟨z4.2,ag++[z4.1],f,by simpa using aS.o,by simp,aD.o,aQ.o,by omega,by simp;omega,ax.o.trans (Qvi az.o H1.o aU.o)⟩
    case measure=>exact aR.o
theorem QaU{w w':World}{b g:Nat}{o:Obj}(h:w.heap[g]?=some o)(hm:Mod b w w')(hn:g≠b):w'.heap[g]?=some o:=by
 rw[hm.block g (QaI h) hn];exact h
theorem Qe5(w:World):Calls Tryz.prog 223 #[] w fun e w'=>e=.returned (.slice (some ⟨w.heap.size,0,none⟩) 3 3)/\w'=w.alloc (.cells (QaN [tIs,Qaq,Qaz]).toArray 9):=by
 go_enter func223,ntmps223;go_wp2;go_ret;exact⟨rfl,rfl⟩
theorem QiF(w:World):Calls Tryz.prog 152 #[] w fun e w'=>e=.returned (.slice (some ⟨w.heap.size,0,none⟩) 3 3)/\w'=w.alloc (.cells (QaN [QbT,QbU,Qbr]).toArray 9):=by
 go_enter func152,ntmps152;go_wp2;go_ret;exact⟨rfl,rfl⟩
theorem Qis(w:World):Calls Tryz.prog 191 #[] w fun e w'=>e=.returned (.slice (some ⟨w.heap.size,0,none⟩) 2 2)/\w'=w.alloc (.cells (QaN [Qdh,Qb9]).toArray 9):=by
 go_enter func191,ntmps191;go_wp2;go_ret;exact⟨rfl,rfl⟩
theorem Mod.setNew{b:Nat}{u w:World}(h:Mod b u w){g:Nat}(hg:u.heap.size<=g)(o:Nat)(v:Value):Mod b u (w.setCell ⟨g,o,none⟩ v):=
 ⟨h.os,h.tape,h.output,by have:=h.size;simpa[World.setCell]using this,fun k hk hn=>(Below.heap_setCell _ _ _ _ (by show k≠g;omega)).trans (h.block k hk hn)⟩
theorem RC.setNew{w:World}{b:Nat}{t:ByteArray}{s:PS}{rv:Value}{mc mt:Nat}(h:RC w b t s rv mc mt){g:Nat}(hg:b<g)(o:Nat)(v:Value):RC (w.setCell ⟨g,o,none⟩ v) b t s rv mc mt:=by
 have h1:=h.b1;refine⟨?_,h.le,?_,h.b1,h.hs,h.sz,h.e0,h.nm⟩
 ·unfold RAt;rw[Below.heap_setCell _ _ _ _ (by show b≠g;omega)];exact h.at_
 ·obtain⟨m,hm⟩:=h.m;exact⟨m,by rw[World.cell?_of_block (w:=w) (a:=⟨1,0,none⟩) (Below.heap_setCell _ _ _ _ (by show 1≠g;omega))];exact hm⟩
theorem Qfm{w:World}{g g':Nat}{o:Obj}(h:w.heap[g]?=some o)(hn:g≠g')(k:Nat)(v:Value):(w.setCell ⟨g',k,none⟩ v).heap[g]?=some o:=by
 rw[Below.heap_setCell _ _ _ _ hn];exact h
theorem Qp9{l:L8}{f tag:Nat}{oct aa:Bool}{s:PS}(h:¬ wL [tIs,Qaq,Qaz] s.1.spelt=0)(ht:¬ tag=0):Qd3 l (f+1) tag oct aa s=.error ⟨7,s.1.pos⟩:=by
 rw[Qd3,if_neg h,if_neg ht]
theorem QnN{l:L8}{f tag:Nat}{oct aa:Bool}{s:PS}{e:Flt}(h:¬ wL [tIs,Qaq,Qaz] s.1.spelt=0)(ht:tag=0)(hn:nL l s.2=.error e):Qd3 l (f+1) tag oct aa s=.error e:=by
 rw[Qd3,if_neg h,if_pos ht,nextThen,hn]
theorem Qvw{l:L8}{f tag:Nat}{oct aa:Bool}{s y:PS}(h:¬ wL [tIs,Qaq,Qaz] s.1.spelt=0)(ht:tag=0)(hn:nL l s.2=.ok y):Qd3 l (f+1) tag oct aa s=Qd3 l f (wL [tIs,Qaq,Qaz] s.1.spelt) oct aa y:=by
 rw[Qd3,if_neg h,if_pos ht,nextThen,hn]
theorem Qvf{l:L8}{f tag:Nat}{oct aa:Bool}{s:PS}(h:wL [tIs,Qaq,Qaz] s.1.spelt=0)(h2:wL [Qas] s.1.spelt=0):Qd3 l (f+1) tag oct aa s=.ok ((max tag 1,oct),s):=by
 rw[Qd3,if_pos h,if_pos h2]
theorem QpT{l:L8}{f tag:Nat}{oct:Bool}{s:PS}(h:wL [tIs,Qaq,Qaz] s.1.spelt=0)(h2:¬ wL [Qas] s.1.spelt=0):Qd3 l (f+1) tag oct true s=.error ⟨7,s.1.pos⟩:=by
 rw[Qd3,if_pos h,if_neg h2,if_pos rfl]
theorem Qof{l:L8}{f tag:Nat}{oct:Bool}{s:PS}{e:Flt}(h:wL [tIs,Qaq,Qaz] s.1.spelt=0)(h2:¬ wL [Qas] s.1.spelt=0)(hn:nL l s.2=.error e):Qd3 l (f+1) tag oct false s=.error e:=by
 rw[Qd3,if_pos h,if_neg h2,if_neg (by decide),nextThen,hn]
theorem Qqk{l:L8}{f tag:Nat}{oct:Bool}{s y:PS}{e:Flt}(h:wL [tIs,Qaq,Qaz] s.1.spelt=0)(h2:¬ wL [Qas] s.1.spelt=0)(hn:nL l s.2=.ok y)(hs:sL l (QcL 7 [Qcl,QdD]) y=.error e):Qd3 l (f+1) tag oct false s=.error e:=by
 rw[Qd3,if_pos h,if_neg h2,if_neg (by decide),QaE hn];exact Qad hs
theorem Qwh{l:L8}{f tag:Nat}{oct:Bool}{s y:PS}{z:L8×PS}(h:wL [tIs,Qaq,Qaz] s.1.spelt=0)(h2:¬ wL [Qas] s.1.spelt=0)(hn:nL l s.2=.ok y)(hs:sL l (QcL 7 [Qcl,QdD]) y=.ok z):Qd3 l (f+1) tag oct false s=Qd3 l f tag (decide (z.1=Qcl)) true z.2:=by
 rw[Qd3,if_pos h,if_neg h2,if_neg (by decide),QaE hn];exact Qac hs
theorem QvT:∀ z∈[tIs,Qaq,Qaz],z≠[]:=by decide
theorem Qw4:∀ z∈[Qas],z≠[]:=by decide
theorem Qhp{zs:List (L8)}{s:PS}(hz:∀ z∈zs,z≠[])(he:s.1.kind=0->s.1.spelt=[])(h:¬ wL zs s.1.spelt=0):¬ s.1.kind=0:=fun e=>h (by rw[he e];exact QeA zs hz)
def Qim (hw:L8) (hp tag:Nat) (oct:Bool):Array Value:=#[.string (Qaf hw),.int .i64 hp,.int .i64 tag,.bool oct,.slice none 0 0,.slice none 0 0]
def QyQ (hw:L8) (hp:Nat) (o:Nat×Bool) (_:World) (v:Value):Prop:=v=.agg (Qim hw hp o.1 o.2)
theorem QpJ(hw:L8)(hp:Nat)(b F:Nat)(t:ByteArray)(s:PS)(rv:Value)(mc mt:Nat)(w:World)(h:RC w b t s rv mc mt)(hF:mu t.size s<F) :
 Calls Tryz.prog 187 #[.pointer (some ⟨b,0,none⟩),.agg #[.string (Qaf hw),.int .i64 hp]] w (Qap (Qd3 t.data.toList F 0 false false s) b t rv mc mt w (QyQ hw hp)):=by
 have H:=Qab h;have hlt:=h.at_.lt;clear h;go_enter func187,ntmps187;go_wp2_with fail
 go_loopw [6,7] (fun c6 _ wr=>∃(s':PS) (aa:Nat) (ac au:Bool) (f:Nat),c6=.bool au/\wr.heap[w.heap.size+1+1]?=some (.cells (Qim hw hp aa ac) 227)/\wr.heap[w.heap.size+1]?=some (.cells #[.string ⟨#[]⟩,.int .i64 0,.int .i64 0,.bool false,.slice none 0 0,.slice none 0 0] 227)/\RC wr b t s' rv mc mt/\Mod b w wr/\mu t.size s'<f/\aa<=3/\Qd3 t.data.toList F 0 false false s=Qd3 t.data.toList f aa ac au s') (fun _ _ wr=>muW wr b t.size)
 case atStart=>
  refine⟨s,0,false,false,F,rfl,?_,?_,((H.o.alloc _).alloc _).alloc _,(((Mod.refl b w).alloc _).alloc _).alloc _,hF,by omega,rfl⟩
  ·exact Qaw (by simp)
  ·exact Qae (Qaw (by simp))
 case round=>
  obtain⟨s',aa,ac,au,f,rfl,hM,hR,ax,aw,hf,aL,aU⟩:=hrel;obtain⟨f,rfl⟩:∃ g,f=g+1:=⟨f - 1,by omega⟩;have HR:=Qab ax;have aP:=Qab aw;have ag:=Qab aU;have HM:=Qab hM;have aQ:=Qab hR;have hwr:w.heap.size+1+1<wr.heap.size:=QaI hM;have aM:=Qab (Qg8 b wr.heap.size 3 3 [tIs,Qaq,Qaz] t s'.1 s'.2 rv mc mt _ (ax.alloc (.cells (QaN [tIs,Qaq,Qaz]).toArray 9)).at_ (Qba wr [tIs,Qaq,Qaz] _ _ rfl) rfl (by decide));have aj:=QbN [tIs,Qaq,Qaz] s'.1.spelt;have a2:=Qab (Qhp (zs:=[tIs,Qaq,Qaz]) (s:=s') QvT ax.e0);have a3:=Qab (Qhp (zs:=[Qas]) (s:=s') Qw4 ax.e0);clear ax aw aU hM hR;go_wp2_with (go_at_call 223;refine(Qe5 _).mono ?_;rintro e w' ⟨rfl,rfl⟩);refine aM.o.mono ?_;rintro e w' ⟨rfl,rfl⟩;by_cases h1:wL [tIs,Qaq,Qaz] s'.1.spelt=0
  ·have H1:=Qab h1;have a5:¬(0:Int)<(wL [tIs,Qaq,Qaz] s'.1.spelt:Int):=by omega
   obtain⟨W,hW⟩:∃ W,W=wr.alloc (.cells (QaN [tIs,Qaq,Qaz]).toArray 9):=⟨_,rfl⟩;rw[<-hW];have ap:Hid (RC W b t s' rv mc mt):=by rw[hW];exact HR.o.alloc _
   have af:Hid (Mod b w W):=by rw[hW];exact aP.o.alloc _
   have aA:Hid (W.heap[w.heap.size+1+1]?=some (.cells (Qim hw hp aa ac) 227)):=by rw[hW];exact Qae HM.o
   have aJ:Hid (W.heap[w.heap.size+1]?=some (.cells #[.string ⟨#[]⟩,.int .i64 0,.int .i64 0,.bool false,.slice none 0 0,.slice none 0 0] 227)):=by rw[hW];exact Qae aQ.o
   have hzW:w.heap.size+1+1<W.heap.size:=QaI aA.o;have aV:=Qab (Qg8 b W.heap.size 1 1 [Qas] t s'.1 s'.2 rv mc mt _ (ap.o.alloc (.cells (QaN [Qas]).toArray 9)).at_ (Qba W [Qas] _ _ rfl) rfl (by decide));have hle2:=QbN [Qas] s'.1.spelt;clear h1 aM hW aj;go_wp2_with fail;refine aV.o.mono ?_;rintro e w' ⟨rfl,aN⟩;subst aN;obtain⟨V,hV⟩:∃ V,V=W.alloc (.cells (QaN [Qas]).toArray 9):=⟨_,rfl⟩;rw[<-hV];have aB:Hid (RC V b t s' rv mc mt):=by rw[hV];exact ap.o.alloc _
   have ao:Hid (Mod b w V):=by rw[hV];exact af.o.alloc _
   have ad:Hid (V.heap[w.heap.size+1+1]?=some (.cells (Qim hw hp aa ac) 227)):=by rw[hV];exact Qae aA.o
   have ah:Hid (V.heap[w.heap.size+1]?=some (.cells #[.string ⟨#[]⟩,.int .i64 0,.int .i64 0,.bool false,.slice none 0 0,.slice none 0 0] 227)):=by rw[hV];exact Qae aJ.o
   have hzV:w.heap.size+1+1<V.heap.size:=QaI ad.o;clear hV aV;by_cases h2:wL [Qas] s'.1.spelt=0
   ·have H2:=Qab h2;have a6:¬(0:Int)<(wL [Qas] s'.1.spelt:Int):=by omega
    have m0:V.cell? ⟨w.heap.size+1+1,0,none⟩=some (.string (Qaf hw)):=Qaa ad.o 0;have m1:V.cell? ⟨w.heap.size+1+1,1,none⟩=some (.int .i64 hp):=Qaa ad.o 1;have m2:V.cell? ⟨w.heap.size+1+1,2,none⟩=some (.int .i64 aa):=Qaa ad.o 2;have m3:V.cell? ⟨w.heap.size+1+1,3,none⟩=some (.bool ac):=Qaa ad.o 3;have m4:V.cell? ⟨w.heap.size+1+1,4,none⟩=some (.slice none 0 0):=Qaa ad.o 4;have m5:V.cell? ⟨w.heap.size+1+1,5,none⟩=some (.slice none 0 0):=Qaa ad.o 5;have mf:=Qao ad.o;have r0:V.cell? ⟨w.heap.size+1,0,none⟩=some (.string ⟨#[]⟩):=Qaa ah.o 0;have r1:V.cell? ⟨w.heap.size+1,1,none⟩=some (.int .i64 0):=Qaa ah.o 1;have r2:V.cell? ⟨w.heap.size+1,2,none⟩=some (.int .i64 0):=Qaa ah.o 2;have r3:V.cell? ⟨w.heap.size+1,3,none⟩=some (.bool false):=Qaa ah.o 3;have r4:V.cell? ⟨w.heap.size+1,4,none⟩=some (.slice none 0 0):=Qaa ah.o 4;have r5:V.cell? ⟨w.heap.size+1,5,none⟩=some (.slice none 0 0):=Qaa ah.o 5;have rf:=Qao ah.o;clear h2;go_wp2;have ab:b<w.heap.size+1:=by omega
    have ai:b<w.heap.size+1+1:=by omega
    have aq:w.heap.size<=w.heap.size+1:=by omega
    have ba:w.heap.size<=w.heap.size+1+1:=by omega
    refine bodyPost_ret (v:=.agg #[.string (Qaf hw),.int .i64 hp,.int .i64 (max (aa:Int) 1),.bool ac,.slice none 0 0,.slice none 0 0]) (by simp[results,results187,go_sem,r0,r1,r2,r3,r4,r5]) rfl (Qap.ok (ag.o.trans (Qvf H1.o H2.o)) (((((((ao.o.setNew ba _ _).setNew aq _ _).setNew aq _ _).setNew aq _ _).setNew aq _ _).setNew aq _ _).setNew aq _ _) ?_ (((((((aB.o.setNew ai _ _).setNew ab _ _).setNew ab _ _).setNew ab _ _).setNew ab _ _).setNew ab _ _).setNew ab _ _));unfold QyQ Qim;have:(max (aa:Int) 1)=((max aa 1:Nat):Int):=by omega
    rw[this]
   ·have H2:=Qab h2;have a6:(0:Int)<(wL [Qas] s'.1.spelt:Int):=by omega
    clear h2;cases au;rotate_left
    ·go_wp2_with fail;refine(Qbm b 7 _ _ t s'.1 s'.2 rv mc mt _ aB.o.at_ rfl rfl).mono ?_;rintro e w1 ⟨⟨bb,hz,rfl,ae⟩,hm⟩;exact⟨rfl,Qap.err (ag.o.trans (QpT H1.o H2.o)) (ao.o.trans (Mod.of_below hm)) ⟨bb,Nat.le_trans ao.o.size hz,rfl,ae⟩⟩
    go_wp2_with fail;refine(QaF b _ _ _ rfl).mono ?_;rintro e w' ⟨rfl,aN⟩;subst aN;go_wp2_with fail;refine(QcU b t s' rv mc mt _ aB.o).mono ?_;rintro e w2 (⟨y,hy,rfl,hc,hm⟩ | ⟨f2,av,⟨bb,hz,rfl,ae⟩,hm⟩);rotate_left
    ·exact⟨rfl,Qap.err (ag.o.trans (Qof H1.o H2.o av)) (ao.o.trans hm) ⟨bb,Nat.le_trans ao.o.size hz,rfl,ae⟩⟩
    have aC:=Qcf (l:=t.data.toList) (s:=s') (by simpa using aB.o.le) (a3.o H2.o) hy;rw[bal]at aC;have aG:=Qab (ao.o.trans hm);have aF:=Qab hc;have az:=Qab (QaU ad.o hm (by omega));have aD:=Qab (QaU ah.o hm (by omega));have hz2:w.heap.size+1+1<w2.heap.size:=QaI az.o;have HY:=Qab hy;clear hc hm hy;go_wp2_with (go_at_call 137;refine(Qj8 _ _ _ _ _).mono ?_;rintro e w' ⟨rfl,rfl⟩);obtain⟨U,hU⟩:∃ U,U=((w2.alloc (.cells #[.string ⟨#[105,59,111,99,116,101,116]⟩,.string ⟨#[105,59,97,115,99,105,105,45,99,97,115,101,109,97,112]⟩] 9)).alloc (.cells #[.int .i64 7] 33)).alloc (.cells #[.slice (some ⟨w2.heap.size,0,none⟩) 2 2] 61):=⟨_,rfl⟩
    have aZ:Hid (QjD U (w2.heap.size+1+1) (w2.heap.size+1) w2.heap.size 2 2 7 [Qcl,QdD]):=by
     rw[hU];refine⟨?_,?_,?_,rfl,by decide⟩
     ·exact Qaa (Qaw (by simp)) 0
     ·exact Qaa (Qae (Qaw (by simp))) 0
     ·exact((Qba w2 [Qcl,QdD] _ _ rfl).below ((Below.refl _ _).alloc (Nat.le_refl _) _)).below ((Below.refl _ _).alloc (Nat.le_refl _) _)
    have aR:Hid (RC U b t y rv mc mt):=by rw[hU];exact((aF.o.alloc _).alloc _).alloc _
    have aH:Hid (Mod b w U):=by rw[hU];exact((aG.o.alloc _).alloc _).alloc _
    have a0:Hid (U.heap[w.heap.size+1+1]?=some (.cells (Qim hw hp aa ac) 227)):=by rw[hU];exact Qae (Qae (Qae az.o))
    have a1:Hid (U.heap[w.heap.size+1]?=some (.cells #[.string ⟨#[]⟩,.int .i64 0,.int .i64 0,.bool false,.slice none 0 0,.slice none 0 0] 227)):=by rw[hU];exact Qae (Qae (Qae aD.o))
    rw[<-hU];clear hU;refine(Qiv (w2.heap.size+1+1) (w2.heap.size+1) w2.heap.size 2 2 7 [Qcl,QdD] b t y rv mc mt _ aR.o aZ.o).mono ?_;intro e w3 h3;rcases h3.cases with⟨z,v,aO,rfl,hv,aS,ar⟩ | ⟨f3,a9,⟨bb,hz,rfl,ae⟩,ar⟩
    rotate_left
    ·exact⟨rfl,Qap.err (ag.o.trans (Qqk H1.o H2.o HY.o a9)) (aH.o.trans ar) ⟨bb,Nat.le_trans aH.o.size hz,rfl,ae⟩⟩
    unfold Qtf at hv;subst hv;have ak:=Qew (l:=t.data.toList) (by simpa using aR.o.le) aO;rw[bal]at ak;replace ak:=ak.1;have aY:=Qab (aH.o.trans ar);have aX:=Qab aS;have aE:=Qab (QaU a0.o ar (by omega));have aW:=Qab (QaU a1.o ar (by omega));have a4:=Qab aO;have m3:w3.cell? ⟨w.heap.size+1+1,3,none⟩=some (.bool ac):=Qaa aE.o 3;have mf:=Qao aE.o;clear h3 aO aS ar;have ai:b<w.heap.size+1+1:=by omega
    go_wp2;have aK:((Qaf z.1).toList==[105,59,111,99,116,101,116])=decide (z.1=Qcl):=Qdl z.1 Qcl;rw[aK];have ay:=aX.o.setNew ai 3 (.bool (decide (z.1=Qcl)));refine⟨⟨z.2,aa,decide (z.1=Qcl),true,f,rfl,Qah _ _ _ _ _ _ aE.o,Qfm aW.o (by omega) _ _,ay,aY.o.setNew (by omega) _ _,by omega,aL,ag.o.trans (Qwh H1.o H2.o HY.o a4.o)⟩,?_⟩;rw[ay.muEq,HR.o.muEq];omega
  ·have H1:=Qab h1;have a5:(0:Int)<(wL [tIs,Qaq,Qaz] s'.1.spelt:Int):=by omega
   have a8:(wr.alloc (.cells (QaN [tIs,Qaq,Qaz]).toArray 9)).cell? ⟨w.heap.size+1+1,2,none⟩=some (.int .i64 aa):=Qaa (Qae HM.o) 2;have av:(wr.alloc (.cells (QaN [tIs,Qaq,Qaz]).toArray 9)).frozen? ⟨w.heap.size+1+1,2,none⟩=false:=Qao (Qae HM.o) 2;have bc:(wL [tIs,Qaq,Qaz] s'.1.spelt)<=3:=aj;obtain⟨W,hW⟩:∃ W,W=wr.alloc (.cells (QaN [tIs,Qaq,Qaz]).toArray 9):=⟨_,rfl⟩;rw[<-hW]at a8 av ⊢;have ap:Hid (RC W b t s' rv mc mt):=by rw[hW];exact HR.o.alloc _
   have af:Hid (Mod b w W):=by rw[hW];exact aP.o.alloc _
   have aA:Hid (W.heap[w.heap.size+1+1]?=some (.cells (Qim hw hp aa ac) 227)):=by rw[hW];exact Qae HM.o
   have aJ:Hid (W.heap[w.heap.size+1]?=some (.cells #[.string ⟨#[]⟩,.int .i64 0,.int .i64 0,.bool false,.slice none 0 0,.slice none 0 0] 227)):=by rw[hW];exact Qae aQ.o
   have HZ:Hid (w.heap.size<=W.heap.size):=af.o.size;clear h1 aM hW aj;by_cases ht:aa=0
   ·have bd:((aa:Int)==0)=true:=by simp;omega
    have HT:=Qab ht;clear ht;go_wp2_with fail;refine(QaF b _ _ _ rfl).mono ?_;rintro e w' ⟨rfl,rfl⟩;go_wp2_with fail;have a7:b<w.heap.size+1+1:=by omega
    have hsz:=af.o.size;refine(QcU b t s' rv mc mt _ (ap.o.setNew a7 _ _)).mono ?_;rintro e w2 (⟨y,hy,rfl,hc,hm⟩ | ⟨f2,av,⟨bb,hz,rfl,ae⟩,hm⟩);rotate_left
    ·exact⟨rfl,Qap.err (ag.o.trans (QnN H1.o HT.o av)) ((af.o.setNew (by omega) _ _).trans hm) ⟨bb,Nat.le_trans (af.o.setNew (by omega) _ _).size hz,rfl,ae⟩⟩
    have aC:=Qcf (l:=t.data.toList) (s:=s') (by simpa using ap.o.le) (a2.o H1.o) hy;rw[bal]at aC;have aT:muW w2 b t.size<muW wr b t.size:=by rw[hc.muEq,HR.o.muEq];exact aC
    have aI:=Qab aT;have aF:=Qab hc;have aG:=Qab ((af.o.setNew (g:=w.heap.size+1+1) (by omega) 2 (.int .i64 (wL [tIs,Qaq,Qaz] s'.1.spelt))).trans hm);have az:=Qab (QaU (b:=b) (g:=w.heap.size+1+1) (Qah _ (w.heap.size+1+1) 2 (.int .i64 (wL [tIs,Qaq,Qaz] s'.1.spelt)) _ _ aA.o) hm (by omega));have aD:=Qab (QaU (Qfm aJ.o (by omega:w.heap.size+1≠w.heap.size+1+1) 2 (.int .i64 (wL [tIs,Qaq,Qaz] s'.1.spelt))) hm (by omega));have HY:=Qab hy;clear hc hm aT hy;go_wp2;go_roundw
    case rel=>exact⟨y,wL [tIs,Qaq,Qaz] s'.1.spelt,ac,au,f,rfl,az.o,aD.o,aF.o,aG.o,by omega,bc,ag.o.trans (Qvw H1.o HT.o HY.o)⟩
    case measure=>exact aI.o
   ·have bd:((aa:Int)==0)=false:=by simp;omega
    have HT:=Qab ht;clear ht;go_wp2_with fail;refine(Qbm b 7 _ _ t s'.1 s'.2 rv mc mt _ ap.o.at_ rfl rfl).mono ?_;rintro e w1 ⟨⟨bb,hz,rfl,ae⟩,hm⟩;exact⟨rfl,Qap.err (ag.o.trans (Qp9 H1.o HT.o)) (af.o.trans (Mod.of_below hm)) ⟨bb,Nat.le_trans HZ.o hz,rfl,ae⟩⟩
def Qef (s:ByteArray) (k:Nat):L8:=34 :: (s.data.toList.take k).flatMap QbE
theorem Qny(s:ByteArray)(k:Nat):(Qef s k).length<=2*k+1:=by
 unfold Qef
 have:∀ x:L8,(x.flatMap QbE).length<=2*x.length:=fun x=>by
  induction x with
  |nil=>simp
  |cons c r ih=>
   rw[List.flatMap_cons,List.length_append,List.length_cons];have:(QbE c).length<=2:=by unfold QbE;split<;>simp
   omega
 have h1:=this (s.data.toList.take k);have h2:(s.data.toList.take k).length<=k:=by rw[List.length_take];omega
 rw[List.length_cons];omega
theorem Qmb(s:ByteArray)(k:Nat)(h:k<s.size):Qef s (k+1)=Qef s k++QbE s[k]:=by
 unfold Qef;have h':k<s.data.toList.length:=by simpa using h
 rw[List.take_succ_eq_append_getElem h',List.flatMap_append];simp;rfl
theorem Qnj(s:ByteArray):Qef s s.size++[34]=quotedL s.data.toList:=by
 unfold Qef quotedL;rw[List.take_of_length_le (by simp)];rfl
theorem Qse{c:UInt8}(h:(c.toNat:Int)=34\/(c.toNat:Int)=92):QbE c=[92,c]:=by
 unfold QbE;rw[if_pos];rcases h with h|h
 ·left;exact UInt8.toNat_inj.1 (by have:(34:UInt8).toNat=34:=rfl;omega)
 ·right;exact UInt8.toNat_inj.1 (by have:(92:UInt8).toNat=92:=rfl;omega)
theorem Qsd{c:UInt8}(h:¬(c.toNat:Int)=34)(h':¬(c.toNat:Int)=92):QbE c=[c]:=by
 unfold QbE;rw[if_neg];rintro(e|e)
 ·subst e;exact h rfl
 ·subst e;exact h' rfl
theorem QdO(s:ByteArray)(w:World)(hs:s.size<=4294967280) :
 Calls Tryz.prog 97 #[.string s] w fun e w'=>e=.returned (.string (Qaf (quotedL s.data.toList)))/\Below w.heap.size w w':=by
 obtain⟨i0,hi,ak,ao,ap⟩:=info_parts Tryz.infoU8;go_enter func97,ntmps97;go_wp2_with fail
 go_loopw [3,4,8] (fun v _ i wr=>∃(k:Nat) (ad:L8),k<=s.size/\i=.int .i64 k/\ad=Qef s k/\wr.ownsRow w.heap.size 5 1 v ad.length (Qeo ad)/\Below w.heap.size w wr) (fun _ _ i _=>s.size - (intOf i).toNat)
 case atStart=>
  refine⟨0,[34],by omega,by go_num,rfl,?_,(Below.refl _ _).alloc (Nat.le_refl _) _⟩;exact World.ownsRow_lit w _ 1 (Nat.le_refl _) (by unfold maxLen;omega) rfl
 case round=>
  obtain⟨k,ad,hk,rfl,ai,ac,hB⟩:=hrel;have hal:ad.length<=2*k+1:=by rw[ai];exact Qny s k
  have HA:=Qab ai;clear ai;have ar:=hB.size;by_cases hlt:k<s.size
  ·have HS:=Qab (Qmb s k hlt);obtain⟨c,hc⟩:∃ c,s[k]=c:=⟨_,rfl⟩;rw[hc]at HS;by_cases hq:(c.toNat:Int)=34\/(c.toNat:Int)=92
   ·have HQ:=Qab (Qse hq)
    have aA:((c.toNat:Int)==34)=true\/(((c.toNat:Int)==34)=false/\((c.toNat:Int)==92)=true):=by
     by_cases aj:(c.toNat:Int)=34
     ·exact Or.inl (by simpa using aj)
     ·exact Or.inr ⟨by simpa using aj,by rcases hq with h|h;exact absurd h aj;simpa using h⟩
    clear hq;rcases aA with aj | ⟨aj,ay⟩
    all_goals
     go_wp2_with (at_builtin;refine wpList_append_own _ rfl _ _ 198 rfl w.heap.size 5 i0 (.int .u8 0) 1 1 underlying198 hi ak ao ap rfl (by decide) _ _ _ rfl (ac.alloc _) ⟨wr.heap.size,0,none⟩ 1 1 [.int .u8 92] rfl rfl ?c1 ?c2 ?c3 ?c4 ?c5 ?_)
     case c1=>
      intro j u hj
      match j,hj with
      |0,hj=>simp at hj;subst hj;simp[Addr.add]
     case c2=>intro u hu;simp at hu;subst hu;rfl
     case c3=>unfold maxLen;omega
     case c4=>omega
     case c5=>simp;omega
     intro v1 w1 aa ab _;have ag:=Below.grown (hB.alloc ar (Obj.cells #[.int .u8 92] 5)) ab (by simp;omega) (fun k' af=>(ac.lt k' af).1);have aq:=ag.size;have ax:(.int .u8 92:Value)=.int .u8 ((92:UInt8).toNat):=rfl;rw[ax,Qcb]at aa;have av:(ad++[92]).length=ad.length+1:=by simp
     rw[<-av]at aa;clear ab;go_wp2_with (at_builtin;refine wpList_append_own _ rfl _ _ 198 rfl w.heap.size 5 i0 (.int .u8 0) 1 1 underlying198 hi ak ao ap rfl (by decide) _ _ _ rfl (aa.alloc _) ⟨w1.heap.size,0,none⟩ 1 1 [.int .u8 c.toNat] rfl rfl ?c1 ?c2 ?c3 ?c4 ?c5 ?_)
     case c1=>
      intro j u hj
      match j,hj with
      |0,hj=>simp at hj;subst hj;simp[Addr.add]
     case c2=>intro u hu;simp at hu;subst hu;rfl
     case c3=>unfold maxLen;omega
     case c4=>omega
     case c5=>simp;omega
     intro v2 w2 ah ae _;have az:=Below.grown (ag.alloc aq (Obj.cells #[.int .u8 c.toNat] 5)) ae (by simp;omega) (fun k' af=>(aa.lt k' af).1);rw[Qcb]at ah;clear ae hB ac ag aa;go_wp2;go_roundw
     case rel=>exact⟨k+1,ad++[92]++[c],by omega,by go_num,by rw[HS.o,HQ.o,<-HA.o];simp,by simpa using ah,az⟩
     case measure=>simp[intOf];omega
   ·have aj:((c.toNat:Int)==34)=false:=by simp;exact fun e=>hq (Or.inl (by omega))
    have ay:((c.toNat:Int)==92)=false:=by simp;exact fun e=>hq (Or.inr (by omega))
    have HQ:=Qab (Qsd (fun e=>hq (Or.inl e)) (fun e=>hq (Or.inr e)));clear hq;go_wp2_with (at_builtin;refine wpList_append_own _ rfl _ _ 198 rfl w.heap.size 5 i0 (.int .u8 0) 1 1 underlying198 hi ak ao ap rfl (by decide) _ _ _ rfl (ac.alloc _) ⟨wr.heap.size,0,none⟩ 1 1 [.int .u8 c.toNat] rfl rfl ?c1 ?c2 ?c3 ?c4 ?c5 ?_)
    case c1=>
     intro j u hj
     match j,hj with
     |0,hj=>simp at hj;subst hj;simp[Addr.add]
    case c2=>intro u hu;simp at hu;subst hu;rfl
    case c3=>unfold maxLen;omega
    case c4=>omega
    case c5=>simp;omega
    intro v1 w1 aa ab _;have ag:=Below.grown (hB.alloc ar (Obj.cells #[.int .u8 c.toNat] 5)) ab (by simp;omega) (fun k' af=>(ac.lt k' af).1);rw[Qcb]at aa;clear ab hB ac;go_wp2;go_roundw
    case rel=>exact⟨k+1,ad++[c],by omega,by go_num,by rw[HS.o,HQ.o,<-HA.o],by simpa using aa,ag⟩
    case measure=>simp[intOf];omega
  ·have af:k=s.size:=by omega
   subst af;go_wp2_with (at_builtin;refine wpList_append_own _ rfl _ _ 198 rfl w.heap.size 5 i0 (.int .u8 0) 1 1 underlying198 hi ak ao ap rfl (by decide) _ _ _ rfl (ac.alloc _) ⟨wr.heap.size,0,none⟩ 1 1 [.int .u8 34] rfl rfl ?c1 ?c2 ?c3 ?c4 ?c5 ?_)
   case c1=>
    intro j u hj
    match j,hj with
    |0,hj=>simp at hj;subst hj;simp[Addr.add]
   case c2=>intro u hu;simp at hu;subst hu;rfl
   case c3=>unfold maxLen;omega
   case c4=>omega
   case c5=>simp;omega
   intro v1 w1 aa ab _;have ag:=Below.grown (hB.alloc ar (Obj.cells #[.int .u8 34] 5)) ab (by simp;omega) (fun k' af=>(ac.lt k' af).1);have aw:(.int .u8 34:Value)=.int .u8 ((34:UInt8).toNat):=rfl;rw[aw,Qcb]at aa;have av:(ad++[34]).length=ad.length+1:=by simp
   rw[<-av]at aa;have hrun:=QdF w1 _ _ (ad++[34]) aa;have HB:=Qab ag;have au:Hid (ad++[34]=quotedL s.data.toList):=by rw[HA.o];exact Qnj s
   clear ab hB ac ag;go_wp2;go_ret;exact⟨by rw[<-au.o];rfl,HB.o⟩
theorem QgZ{w w':World}{base:Nat}{e:TypeId}{size:Nat}{v:Value}{n:Nat}{xs:List Value}(h:w.ownsRow base e size v n xs)(hm:Below w.heap.size w w'):w'.ownsRow base e size v n xs:=by
 obtain⟨h1,h2⟩:=h;refine⟨h1,?_⟩;rcases h2 with h2 | ⟨g,aa,ab,hv,hg,hh,r⟩
 ·exact Or.inl h2
 ·have ac:g<w.heap.size:=by
   rcases Nat.lt_or_ge g w.heap.size with h'|h'
   ·exact h'
   ·rw[Array.getElem?_eq_none h']at hh;cases hh
  exact Or.inr ⟨g,aa,ab,hv,hg,by rw[hm.block g ac];exact hh,r⟩
theorem QnP:∀(xs:List (L8)) (k:Nat) (hk:k<xs.length),xs.getD k []∈xs
 |x::r,0,_=>by simp
 |x::r,k+1,h=>by
  have:=QnP r k (by simpa using h);simp at this ⊢;exact Or.inr this
theorem QgS{xs:List (L8)}{x:L8}(h:x∈xs):x.length<=(Qam xs).length/\(quotedL x).length<=(Qam xs).length:=by
 have h1:x.length<=(quotedL x).length:=by
  unfold quotedL;rw[List.length_cons,List.length_append]
  have:x.length<=(x.flatMap QbE).length:=by
   clear h
   induction x with
   |nil=>simp
   |cons c r ih=>
    rw[List.flatMap_cons,List.length_append,List.length_cons];have:1<=(QbE c).length:=by unfold QbE;split<;>simp
    omega
  omega
 have h2:(quotedL x).length<=(Qam xs).length:=by
  unfold Qam;split
  ·rw[List.mem_singleton.1 h];exact Nat.le_refl _
  ·have:=Qg0 (xs.map quotedL) (quotedL x) (List.mem_map_of_mem h);simp only[List.length_append];omega
 omega
theorem Qtx(xs:List (L8)):(Qdw [44,32] (xs.map quotedL)).length<=(Qam xs).length:=by
 unfold Qam;split
 ·exact Nat.le_refl _
 ·simp only[List.length_append];omega
theorem Qyj(xs:List (L8)):xs.length<=(Qam xs).length:=by
 have:∀ ys:List (L8),ys.length<=(Qdw [44,32] (ys.map quotedL)).length:=fun ys=>by
  induction ys with
  |nil=>simp
  |cons y r ih=>
   cases r with
   |nil=>show 1<=(quotedL y).length;unfold quotedL;simp
   |cons z r=>
    simp only[List.map_cons,Qdw,List.length_append,List.length_cons,List.length_nil]at ih ⊢;omega
 exact Nat.le_trans (this xs) (Qtx xs)
theorem Qcm(xs:List (L8))(g n c:Nat)(w:World)(ht:TxtAt w g xs)(hn:n=xs.length)(hx:xs≠[])(ag:(Qam xs).length<=4294967280) :
 Calls Tryz.prog 62 #[.slice (some ⟨g,0,none⟩) n c] w fun e w'=>e=.returned (.string (Qaf (Qam xs)))/\Below w.heap.size w w':=by
 obtain⟨i0,hi,aG,aH,aI⟩:=info_parts Tryz.infoStr;subst hn;have aE:g<w.heap.size:=Qau (ht 0 (List.length_pos_iff.2 hx));have ay:=Qyj xs;have HT:=Qab ht;have HL:=Qab ag;clear ht ag;have hxl':xs.length<=4294967280:=Nat.le_trans ay HL.o;clear ay;go_enter func62,ntmps62;go_wp2_with fail
 go_loopw [3,5,8] (fun v _ i wr=>∃(k:Nat),k<=xs.length/\i=.int .i64 k/\wr.ownsRow w.heap.size 9 1 v k (QaN ((xs.take k).map quotedL))/\Below w.heap.size w wr) (fun _ _ i _=>xs.length - (intOf i).toNat)
 case atStart=>
  exact⟨0,Nat.zero_le _,by go_num,World.ownsRow_nil _ _ _ _,Below.refl _ _⟩
 case round=>
  obtain⟨k,hk,rfl,aa,hB⟩:=hrel;have aw:=hB.size;by_cases hlt:k<xs.length
  ·have aD:wr.cell? ⟨g,k,none⟩=some (.string (Qaf (xs.getD k []))):=by
    rw[hB.cell (p:=⟨g,k,none⟩) aE];exact HT.o k hlt
   have HS:Hid ((xs.take (k+1)).map quotedL=(xs.take k).map quotedL++[quotedL (xs.getD k [])]):=by
    rw[List.take_add_one,List.map_append,List.getElem?_eq_getElem hlt,List.getD_eq_getElem?_getD,List.getElem?_eq_getElem hlt];rfl
   have hm:=(QgS (QnP xs k hlt)).1;generalize hx0:xs.getD k []=x at aD HS hm
   have aF:(Qaf x).size<=4294967280:=by
    show x.toArray.size<=_
    rw[List.size_toArray];exact Nat.le_trans hm HL.o
   obtain⟨A,hA⟩:∃ A,(xs.take k).map quotedL=A:=⟨_,rfl⟩;rw[hA]at aa HS;have aC:=Qab aa;have HB:=Qab hB;clear aa hB hx0 hm hA;go_wp2_with fail;refine(QdO (Qaf x) _ aF).mono ?_;rintro e w1 ⟨rfl,af⟩;have hq:(Qaf x).data.toList=x:=rfl;rw[hq];have ab:=QgZ aC.o af;have ai:Below w.heap.size w w1:=HB.o.trans (af.mono aw);have aj:=ai.size;have ar:=Qab af;clear af;go_wp2_with (at_builtin;refine wpList_append_own _ rfl _ _ 61 rfl w.heap.size 9 i0 (.string ⟨#[]⟩) 1 16 underlying61 hi aG aH aI rfl (by decide) _ _ _ rfl (ab.alloc _) ⟨w1.heap.size,0,none⟩ 1 1 [.string (Qaf (quotedL x))] rfl rfl ?c1 ?c2 ?c3 ?c4 ?c5 ?_)
   case c1=>
    intro j u hj
    match j,hj with
    |0,hj=>simp at hj;subst hj;simp[Addr.add]
   case c2=>intro u hu;simp at hu;subst hu;rfl
   case c3=>unfold maxLen;omega
   case c4=>omega
   case c5=>simp;omega
   intro v1 w2 ac ad _;have av:=Below.grown (ai.alloc aj (Obj.cells #[.string (Qaf (quotedL x))] 9)) ad (by simp;omega) (fun k' aq=>(ab.lt k' aq).1);rw[Qci,<-HS.o]at ac;have aB:=Qab ac;have az:=Qab av;clear ad ab ai ac av;go_wp2;go_roundw
   case rel=>exact⟨k+1,by omega,by go_num,aB.o,az.o⟩
   case measure=>simp[intOf];omega
  ·have aq:k=xs.length:=by omega
   subst aq;rw[List.take_length]at aa;by_cases h1:xs.length=1
   ·obtain⟨x,rfl⟩:∃ x,xs=[x]:=by
     match xs,h1 with
     | [x],_=>exact⟨x,rfl⟩
    obtain⟨h3,h4 | ⟨g',cap,cur,hv,hg',hh⟩⟩:=aa
    ·cases h4.2
    ·subst hv
     have hcell:wr.cell? ⟨g',0,none⟩=some (.string (Qaf (quotedL x))):=by
      have:=World.ownsRow.cells (w:=wr) (base:=w.heap.size) (e:=9) (size:=1) (v:=.slice (some ⟨g',0,none⟩) [x].length cap) (n:=[x].length) (xs:=QaN ([x].map quotedL)) ⟨h3,Or.inr ⟨g',cap,cur,rfl,hg',hh⟩⟩ (g:=g') rfl 0 _ rfl;exact this
     have HB:=Qab hB;clear hh h3 hB;go_wp2;go_ret;exact⟨rfl,HB.o⟩
   ·have h1':((xs.length:Int)==1)=false:=by simp;omega
    have hq:Qam xs=[91]++Lib.join (xs.map quotedL) [44,32]++[93]:=by
     rw[<-QiT]
     match xs,hx,h1 with
     | [x],_,h1=>exact absurd rfl h1
     |x::y::r,_,_=>rfl
    have ax:(Lib.join (xs.map quotedL) [44,32]).length+2=(Qam xs).length:=by rw[hq];simp
    have hJ:(Lib.join (((xs.map quotedL).map Qaf).map (·.data.toList)) [44,32])=Lib.join (xs.map quotedL) [44,32]:=by
     rw[List.map_map];congr 1;rw[show((fun x:ByteArray=>x.data.toList) ∘ Qaf)=id from by funext x;rfl,List.map_id]
    obtain⟨h3,h4 | ⟨g',cap,cur,hv,hg',hh⟩⟩:=aa
    ·exact absurd (List.eq_nil_of_length_eq_zero h4.2) hx
    ·subst hv
     have hcells:∀(j:Nat) x,((xs.map quotedL).map Qaf)[j]?=some x->wr.cell? ⟨g',0+j,none⟩=some (.string x):=fun j x hj=>by
      have:=World.ownsRow.cells (w:=wr) (base:=w.heap.size) (e:=9) (size:=1) (v:=.slice (some ⟨g',0,none⟩) xs.length cap) (n:=xs.length) (xs:=QaN (xs.map quotedL)) ⟨h3,Or.inr ⟨g',cap,cur,rfl,hg',hh⟩⟩ (g:=g') rfl j (.string x) (by
       unfold QaN;rw[List.getElem?_map]at hj ⊢;obtain⟨y,hy,rfl⟩:=Option.map_eq_some_iff.1 hj;rw[hy]
       rfl)
      rw[Qcs]at this;rw[Nat.zero_add];exact this
     have ao:g'<wr.heap.size:=QaI hh.1;have ak:xs.length<=cap:=hh.2.1;have ae:xs.length=((xs.map quotedL).map Qaf).length:=by simp
     have HB:=Qab hB;have HQ:=Qab hq;have au:=Qab ax;have HJ:=Qab hJ;have aA:=Qab hcells;have ah:=Qab ae;clear hh h3 hB hcells hq ax hJ ae;go_wp2_with fail;rw[ah.o];refine(Tryz.strings_Join g' 0 cap ((xs.map quotedL).map Qaf) ⟨#[44,32]⟩ wr aA.o ao (by rw[<-ah.o];omega) (by rw[<-ah.o];exact ak) (by rw[show(ByteArray.mk #[44,32]).data.toList=[44,32]from rfl,HJ.o];have:=au.o;have:=HL.o;omega)).mono ?_;rintro e w1 ⟨rfl,af⟩;rw[show(ByteArray.mk #[44,32]).data.toList=[44,32]from rfl,HJ.o];have ar:=Qab af;clear af;have ap:(Lib.join (xs.map quotedL) [44,32]).length<=4294967280:=by have:=au.o;have:=HL.o;omega
     generalize Lib.join (xs.map quotedL) [44,32]=J at *;have hJs:(ByteArray.mk J.toArray).size<=4294967280:=ap;go_wp2;go_ret;refine⟨?_,HB.o.trans (ar.o.mono aw)⟩;rw[HQ.o];rfl
end
section
open Go.RowKit
attribute [local go_sem ↓] Go.wp_at_zero Go.wp_at_succ
theorem Qqc(xs:List (L8))(k:Nat):(phraseL (xs.take k)).length<=(phraseL xs).length:=by
 have h:=QgA (xs.drop k) (phraseL (xs.take k));unfold phraseL at h ⊢;rw[<-List.foldl_append,List.take_append_drop]at h;exact h
theorem QqK(xs:List (L8))(k:Nat)(h:k<xs.length):phraseL (xs.take (k+1))=QaH (phraseL (xs.take k)) (xs.getD k []):=by
 unfold phraseL;rw[List.take_add_one,List.foldl_append,List.getElem?_eq_getElem h,List.getD_eq_getElem?_getD,List.getElem?_eq_getElem h];rfl
theorem QjI(x:L8):(Qaf x).toList=x:=by
 rw[Lib.toList_data];rfl
theorem QbY(xs:List (L8))(g n c:Nat)(w:World)(ht:TxtAt w g xs)(hn:n=xs.length)(hx:xs.length<=100)(aa:(phraseL xs).length<=4294967280) :
 Calls Tryz.prog 150 #[.slice (some ⟨g,0,none⟩) n c] w fun e w'=>e=.returned (.string (Qaf (phraseL xs)))/\w'=w:=by
 subst hn;have HT:=Qab ht;have HL:=Qab aa;clear ht aa;go_enter func150,ntmps150;go_wp2_with fail
 go_loop [3,5,8] (fun v _ i=>∃(k:Nat) (t:L8),k<=xs.length/\i=.int .i64 k/\v=.string (Qaf t)/\t=phraseL (xs.take k)) (fun _ _ i=>xs.length - (intOf i).toNat)
 case atStart=>exact⟨0,[],Nat.zero_le _,by go_num,rfl,rfl⟩
 case round=>
  obtain⟨k,t,hk,rfl,rfl,ab⟩:=hrel;by_cases hlt:k<xs.length
  ·have ai:w.cell? ⟨g,k,none⟩=some (.string (Qaf (xs.getD k []))):=HT.o k hlt;have HS:=Qab (QqK xs k hlt);have h1:=Qqc xs (k+1);rw[HS.o,<-ab]at h1;rw[<-ab]at HS;have h2:=Nat.le_trans h1 HL.o;clear h1 ab;generalize xs.getD k []=p at ai HS h2
   have hpl:t.length+p.length<=4294967280:=by
    unfold QaH at h2;rw[List.length_append]at h2
    split at h2
    ·rw[List.length_append]at h2;omega
    ·exact h2
   have HA:=Qab (QaJ t p);have ah:=Qab (QaJ (t++[32]) p);have ac:Hid (Qaf t++(⟨#[32]⟩:ByteArray)=Qaf (t++[32])):=QaJ t [32];have hs1:=Qaj t;have hs2:=Qaj p;have hs3:(Qaf t++(⟨#[32]⟩:ByteArray)).size=t.length+1:=by rw[ac.o,Qaj];simp
   have ae:Hid ((Qaf t).toList=t):=QjI t;have ad:Hid ((Qaf p).toList=p):=QjI p;by_cases ht0:t=[]
   ·have ag:(Qaf t).toList=[]:=ae.o.trans ht0;have HE:Hid (QaH t p=t++p):=by show QaH t p=_;unfold QaH;rw[if_neg (fun h=>h.1 ht0)]
    clear ht0;go_wp2;refine⟨⟨k+1,t++p,by omega,by go_num,?_,by rw[HS.o,HE.o]⟩,by simp[intOf];omega⟩;rw[HA.o]
   ·have ag:¬(Qaf t).toList=[]:=fun e=>ht0 (ae.o.symm.trans e)
    have hT2:(Qaf t).toList.isEmpty=false:=by simpa using ag
    by_cases hp0:p=[]
    ·have af:(Qaf p).toList=[]:=ad.o.trans hp0;have HE:Hid (QaH t p=t++p):=by show QaH t p=_;unfold QaH;rw[if_neg (fun h=>h.2 hp0)]
     clear ht0 hp0;go_wp2;refine⟨⟨k+1,t++p,by omega,by go_num,?_,by rw[HS.o,HE.o]⟩,by simp[intOf];omega⟩;rw[HA.o]
    ·have af:¬(Qaf p).toList=[]:=fun e=>hp0 (ad.o.symm.trans e)
     have hP2:(Qaf p).toList.isEmpty=false:=by simpa using af
     have HE:Hid (QaH t p=t++[32]++p):=by show QaH t p=_;unfold QaH;rw[if_pos ⟨ht0,hp0⟩]
     clear ht0 hp0;go_wp2;refine⟨⟨k+1,t++[32]++p,by omega,by go_num,?_,by rw[HS.o,HE.o]⟩,by simp[intOf];omega⟩;rw[ac.o,ah.o]
  ·have aj:k=xs.length:=by omega
   subst aj;rw[List.take_length]at ab;subst ab;go_wp2;go_ret;exact⟨rfl,rfl⟩
theorem QeG(tag g n c:Nat)(aa:List (L8))(w:World)(ht:TxtAt w g aa)(hn:n=aa.length)(hx:aa.length<=100)(h:tag<=aa.length) :
 Calls Tryz.prog 151 #[.int .i64 tag,.slice (some ⟨g,0,none⟩) n c] w fun e w'=>e=.returned (.string (Qaf (tagTextL tag aa)))/\w'=w:=by
 subst hn;by_cases h0:tag=0
 ·subst h0;go_enter func151,ntmps151;go_wp2;go_ret;exact⟨rfl,rfl⟩
 ·have ab:=ht (tag - 1) (by omega);have HE:Hid (tagTextL tag aa=aa.getD (tag - 1) []):=by show tagTextL tag aa=_;unfold tagTextL;rw[if_neg h0]
  clear ht;generalize aa.getD (tag - 1) []=z at ab HE;obtain⟨m,rfl⟩:∃ m,tag=m+1:=⟨tag - 1,by omega⟩;have e1:m+1 - 1=m:=by omega
  rw[e1]at ab;have h1:((m+1:Nat):Int)=(m:Int)+1:=by omega
  have h2:(((m:Int)+1)==0)=false:=by simp;omega
  rw[h1];clear e1 h1;go_enter func151,ntmps151;go_wp2;go_ret;exact⟨by rw[HE.o];rfl,rfl⟩
end
end Go.Proofs.YtgnkjijocdmniaaGreatDoor
