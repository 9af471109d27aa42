import Derived.Deep.DeepCutAuto
import Derived.Test.YtgnkjijocdmniaaGreatDoorZStr
namespace Go.Proofs.YtgnkjijocdmniaaGreatDoor
set_option linter.unusedVariables false
set_option linter.unusedSimpArgs false
set_option maxRecDepth 100000
set_option maxHeartbeats 4000000
open Go.Proofs.Tryz
variable{α:Type}{B F a b base c f g m mc mt n pr tb:Nat}{P:(Nat->Prop)->α->World->Value->Prop}{X:Nat->Prop}{acc xs:Qa}{chk:L8->Nat}{d k p:Int}{e:Flt}{l x:L8}{o:Obj}{r:Option (L8×Nat)}{rv u v:Value}{s:PS}{t:ByteArray}{w w' w1:World}{y:Nat×PS}{z:L8×PS}
section
open Go.RowKit
def muW(w:World)(b n:Nat):Nat:=
 match w.heap[b]? with
 |some (.cells cs _ _)=>2*(n - (intOf (cs.getD 6 undef)).toNat)+(if intOf (cs.getD 1 undef)=0 then 0 else 1)
 |_=>0
theorem RC.muEq{d:Value}(h:RC w b t s d a c):muW w b t.size=mu t.size s:=by
 unfold muW;rw[h.at_];simp[Nx,intOf,mu]
theorem ZV{e:TypeId}{size:Nat}{xs:List Value}(h:w.ownsRow base e size v n xs)(l:Mod b w w')(o:b<base):w'.ownsRow base e size v n xs:=by
 obtain⟨i,a⟩:=h;refine⟨i,?_⟩;rcases a with a | ⟨g,d,f,m,j,c,r⟩
 ·exact Qd a
 ·have k:g<w.heap.size:=by
   rcases Nat.lt_or_ge g w.heap.size with h'|h'
   ·exact h'
   ·rw[Array.getElem?_eq_none h']at c;cases c
  exact Qc ⟨g,d,f,m,j,by rw[l.block g k (by omega)];exact c,r⟩
theorem Mod.grown{u:World}{a:Option Nat}(h:Mod b u w)(hg:w.grownBy w' a)(hr:∀ k,a=some k->u.heap.size<=k):Mod b u w':=
 ⟨hg.os.trans h.os,hg.tape.trans h.tape,hg.output.trans h.output,Qm h.size hg.size,fun k hk hn=>
  (hg.block k (Nat.lt_of_lt_of_le hk h.size) (fun e=>by have:=hr k e.symm;omega)).trans (h.block k hk hn)⟩
theorem RC.grown{i:Value}{d:Nat}{g:Option Nat}(h:RC w b t s i d f)(j:w.grownBy w' g)(n:∀ k,g=some k->b<k):RC w' b t s i d f:=by
 have p:=h.at_.lt;have o:=h.b1;have c:∀ k,k<=b->w'.heap[k]?=w.heap[k]?:=fun k q=>j.block k (by omega) (fun e=>by have:=n k e.symm;omega)
 refine⟨by unfold RAt;rw[c b Qt];exact h.at_,h.le,?_,h.b1,h.hs,h.sz,h.e0,h.nm⟩;obtain⟨m,l⟩:=h.m;exact⟨m,by rw[World.cell?_of_block (a:=⟨1,0,none⟩) (c 1 (by omega))];exact l⟩
def Abv(B:Nat)(w w':World):Prop:=∀ k,B<=k->k<w.heap.size->w'.heap[k]?=w.heap[k]?
theorem Mod.abv(h:Mod b w w')(hb:b<B):Abv B w w':=fun k hB hk=>h.block k hk (by omega)
theorem Abv.set(hg:g<B)(o:Nat)(v:Value):Abv B w (w.setCell ⟨g,o,none⟩ v):=fun k hB _=>Below.heap_setCell _ _ _ _ (by show k≠g;omega)
def slB(B:Nat)(xs:Qa)(w:World)(v:Value):Prop:=
 ∃ g c,v=.slice (some ⟨g,0,none⟩) xs.length c/\B<=g/\Zm w g xs/\xs≠[]
theorem slB.of_owns{w:World}{base n:Nat}{v:Value}{xs:Qa}(h:w.ownsRow base 9 1 v n (Qw xs))(j:n=xs.length)(c:xs≠[]):slB base xs w v:=by
 subst j;obtain⟨e,f⟩:=h;rcases f with⟨_,i⟩ | ⟨g,a,d,k,b,r⟩
 ·exact absurd (XB i) c
 ·subst k;exact⟨g,a,rfl,b,Zm.of_owns (base:=base) ⟨e,Qc ⟨g,a,d,rfl,b,r⟩⟩,c⟩
theorem slB.keep(h:slB B xs w v)(e:Abv B w w'):slB B xs w' v:=by
 obtain⟨g,c,i,b,f,k⟩:=h;refine⟨g,c,i,b,fun j d=>?_,k⟩;have:=f j d;rw[World.cell?_of_block (w:=w) (a:=⟨g,j,none⟩) (e g b (QI this))];exact this
theorem slB.weak{B':Nat}(h:slB B xs w v)(b:B'<=B):slB B' xs w v:=by
 obtain⟨g,c,a,d,r⟩:=h;exact⟨g,c,a,by omega,r⟩
theorem slB.form(h:slB B xs w v):∃ g n c,v=.slice (some ⟨g,0,none⟩) n c:=by
 obtain⟨g,c,a,_⟩:=h;exact⟨g,_,c,a⟩
def KM(w:World)(b:Nat)(t:ByteArray)(rv:Value)(mc mt:Nat)(cv:Value)(chk:L8->Nat):Prop:=
 ∀(W:World) (s:PS),Mod b w W->RC W b t s rv mc mt->Calls prog 179 #[.pointer (some ⟨b,0,none⟩),cv] W (Qg (sL t.data.toList chk s) b t rv mc mt W JW)
theorem RB{f:Flt}(h:mayL l [[91]] s=.error f):sLs l chk F s=.error f:=by unfold sLs;rw[h]
theorem E4{f:Flt}(h:mayL l [[91]] s=.ok y)(a:sL l chk y.2=.error f):sLs l chk F s=.error f:=by unfold sLs;rw[h];dsimp only;rw[a]
theorem RD(h:mayL l [[91]] s=.ok y)(b:sL l chk y.2=.ok z)(a:y.1=0):sLs l chk F s=.ok ([z.1],z.2):=by unfold sLs;rw[h];dsimp only;rw[b];dsimp only;rw[if_pos a]
theorem RE(h:mayL l [[91]] s=.ok y)(b:sL l chk y.2=.ok z)(a:¬ y.1=0):sLs l chk F s=moreL l chk F [z.1] z.2:=by unfold sLs;rw[h];dsimp only;rw[b];dsimp only;rw[if_neg a]
theorem RF(h:paL l [[44],[93]] s=.error e):moreL l chk (f+1) acc s=.error e:=by rw[moreL,h]
theorem RG(h:paL l [[44],[93]] s=.ok y)(a:¬ y.1=1):moreL l chk (f+1) acc s=.ok (acc,y.2):=by rw[moreL,h];dsimp only;rw[if_neg a]
theorem RH(h:paL l [[44],[93]] s=.ok y)(a:y.1=1)(b:sL l chk y.2=.error e):moreL l chk (f+1) acc s=.error e:=by rw[moreL,h];dsimp only;rw[if_pos a,b]
theorem RI(h:paL l [[44],[93]] s=.ok y)(a:y.1=1)(b:sL l chk y.2=.ok z):moreL l chk (f+1) acc s=moreL l chk f (acc++[z.1]) z.2:=by rw[moreL,h];dsimp only;rw[if_pos a,b]
theorem RC.mu_le{d:Value}(h:RC w b t s d a c):mu t.size s<=1201:=by
 have:=h.hs;unfold mu;split<;>omega
theorem bal(t:ByteArray):t.data.toList.length=t.size:=by simp
theorem RJ:∀ z∈([[44],[93]]:Qa),z≠[]:=by decide
theorem Ah(cv:Value)(chk:L8->Nat)(b F:Nat)(t:ByteArray)(s:PS)(E:Value)(C D:Nat)(w:World)(h:RC w b t s E C D)(ho:KM w b t E C D cv chk)(hF:mu t.size s<F) :
 Calls prog 188 #[.pointer (some ⟨b,0,none⟩),cv] w (Qg (sLs t.data.toList chk F s) b t E C D w (slB w.heap.size)):=by
 have H:=I h;have HO:=I ho;have aw:=h.at_.lt;clear h ho;go_enter func188,ntmps188;go_wp2_with fail;refine(VG b w.heap.size 1 1 [[91]] t s E C D _ (H.o.alloc _) (YE w [[91]] _ _ rfl) rfl (by decide)).mono ?_;intro e w1 n;rcases n.cases with⟨y,v,hy,rfl,q,p,a⟩ | ⟨f,B,⟨d,m,rfl,i⟩,a⟩
 rotate_left
 ·exact⟨rfl,Qg.err (RB B) (((Mod.refl b w).alloc _).trans a) ⟨d,by simp at m;omega,rfl,i⟩⟩
 have c:=I (((Mod.refl b w).alloc _).trans a);have x:=I hy;have U:=I p;unfold XY at q;subst q;clear n hy p a;by_cases h0:y.1=0
 ·have H0:=I h0;have aJ:((y.1:Int)==0)=true:=by simp;omega
  clear h0;go_wp2_with fail;refine(HO.o _ y.2 c.o U.o).mono ?_;intro e R A;rcases A.cases with⟨z,v,Q,rfl,q,p,a⟩ | ⟨f,B,⟨d,m,rfl,i⟩,a⟩
  rotate_left
  ·exact⟨rfl,Qg.err (E4 x.o B) (c.o.trans a) ⟨d,Qm c.o.size m,rfl,i⟩⟩
  unfold JW at q;subst q;have J:=I Q;have K:=I p;have L:=I a;clear A Q p a;go_wp2;go_ret;refine Qg.ok (RD x.o J.o H0.o) ((c.o.trans L.o).alloc _) ?_ (K.o.alloc _);have n:=c.o.size;have A:=L.o.size;exact⟨R.heap.size,1,rfl,by omega,YE R [z.1] _ _ rfl,by simp⟩
 ·have H0:=I h0;have aJ:((y.1:Int)==0)=false:=by simp;omega
  clear h0;go_wp2_with fail;refine(HO.o _ y.2 c.o U.o).mono ?_;intro e R A;rcases A.cases with⟨z,v,Q,rfl,q,p,a⟩ | ⟨f,B,⟨d,m,rfl,i⟩,a⟩
  rotate_left
  ·exact⟨rfl,Qg.err (E4 x.o B) (c.o.trans a) ⟨d,Qm c.o.size m,rfl,i⟩⟩
  unfold JW at q;subst q;have J:=I Q;have K:=I p;have L:=I a;clear A Q p a;obtain⟨i0,hi,aQ,aR,aS⟩:=info_parts Tryz.infoStr;have Z:=Vf (l:=t.data.toList) (by simpa using U.o.le) J.o;have Y:=GS (l:=t.data.toList) (zs:=[[91]]) (by simpa using H.o.le) H.o.e0 (by decide) x.o;rw[bal]at Y Z;replace Y:=Y.1;replace Z:=Z.1;have aN:=K.o.mu_le;have aP:w.heap.size<=R.heap.size:=Qm c.o.size L.o.size;go_wp2_with fail
  go_loopw [5] (fun v wr=>∃(G:PS) (r:Qa) (f:Nat),wr.ownsRow w.heap.size 9 1 v r.length (Qw r)/\r≠[]/\RC wr b t G E C D/\Mod b w wr/\mu t.size G<f/\r.length+mu t.size G<=1300/\sLs t.data.toList chk F s=moreL t.data.toList chk f r G) (fun _ wr=>muW wr b t.size)
  case atStart=>
   refine⟨z.2,[z.1],F,?_,by simp,K.o.alloc _,(c.o.trans L.o).alloc _,by omega,by simp;omega,RE x.o J.o H0.o⟩;exact World.ownsRow_lit (e:=9) (size:=1) R #[.string (sA z.1)] 1 aP (by unfold maxLen;omega) rfl
  case round=>
   obtain⟨G,r,f,ay,aO,az,ad,B,aT,aA⟩:=hrel;obtain⟨f,rfl⟩:∃ g,f=g+1:=⟨f - 1,by omega⟩;have V:=I az;have aq:=I ad;have W:=I aA;have aH:=I ay;have aV:w.heap.size<=wr.heap.size:=ad.size;clear az ad aA ay U K x J Y Z aN;go_wp2_with fail;refine(Kc b wr.heap.size 2 2 [[44],[93]] t G E C D _ (V.o.alloc _) (YE wr [[44],[93]] _ _ rfl) rfl (by decide)).mono ?_;intro e w3 h3;rcases h3.cases with⟨y3,v3,aj,rfl,aB,au,N⟩ | ⟨f3,aL,⟨d,m,rfl,i⟩,N⟩
   rotate_left
   ·exact⟨rfl,Qg.err (W.o.trans (RF aL)) ((aq.o.alloc _).trans N) ⟨d,by simp at m;omega,rfl,i⟩⟩
   have ae:=Ai (l:=t.data.toList) (by simpa using V.o.le) V.o.e0 RJ aj;rw[bal]at ae;replace ae:=ae.1;have M:=I ((aq.o.alloc _).trans N);have ab:=I aj;have aa:=I au;have ar:=I (ZV (aH.o.alloc _) N aw);unfold XY at aB;subst aB;clear h3 aj au N;by_cases n:y3.1=1;rotate_left
   ·have aK:((y3.1:Int)==1)=false:=by simp;omega
    have T:=I n;clear n;go_wp2;go_ret;exact Qg.ok (W.o.trans (RG ab.o T.o)) M.o (slB.of_owns ar.o rfl aO) aa.o
   have aK:((y3.1:Int)==1)=true:=by simp;omega
   have T:=I n;clear n;go_wp2_with fail;refine(HO.o _ y3.2 M.o aa.o).mono ?_;intro e w4 h4;rcases h4.cases with⟨S,v4,ak,rfl,aC,av,P⟩ | ⟨f4,aM,⟨d,m,rfl,i⟩,P⟩
   rotate_left
   ·exact⟨rfl,Qg.err (W.o.trans (RH ab.o T.o aM)) (M.o.trans P) ⟨d,Qm M.o.size m,rfl,i⟩⟩
   have af:=Vf (l:=t.data.toList) (by simpa using aa.o.le) ak;rw[bal]at af;replace af:=af.1;unfold JW at aC;subst aC;have ap:=I (M.o.trans P);have aI:=I ak;have aD:=I av;have ag:=ZV ar.o P aw;have aU:w.heap.size<=w4.heap.size:=ap.o.size;clear h4 ak av P;go_wp2_with (at_builtin;refine wpList_append_own _ rfl _ _ 61 rfl w.heap.size 9 i0 (.string ⟨#[]⟩) 1 16 underlying61 hi aQ aR aS rfl (by decide) _ _ _ rfl (ag.alloc _) ⟨w4.heap.size,0,none⟩ 1 1 [.string (sA S.1)] rfl rfl ?c1 ?c2 ?c3 ?c4 ?c5 ?_)
   case c1=>
    intro j u X
    match j,X with
    |0,X=>simp at X;subst X;simp[Addr.add]
   case c2=>intro u hu;simp at hu;subst hu;rfl
   case c3=>unfold maxLen;omega
   case c4=>omega
   case c5=>simp;omega
   ·intro v' w5 ah ac _;have ai:∀ k,(u5).ownBlock=some k->w.heap.size<=k:=fun k hk=>(ag.lt k hk).1
    have aE:=I ((ap.o.alloc (Obj.cells #[.string (sA S.1)] 9)).grown ac ai);have ao:=I ((aD.o.alloc (Obj.cells #[.string (sA S.1)] 9)).grown ac (fun k hk=>by have:=ai k hk;omega));rw[Jz]at ah;have aG:=I ah;have ax:muW w5 b t.size<muW wr b t.size:=by rw[ao.o.muEq,V.o.muEq];omega
    have aF:=I ax;clear ah ac ag ai ax;go_wp2;go_roundw
    case rel=>exact⟨S.2,r++[S.1],f,by simpa using aG.o,by simp,ao.o,aE.o,by omega,by simp;omega,W.o.trans (RI ab.o T.o aI.o)⟩
    case measure=>exact aF.o
theorem Qu(h:w.heap[g]?=some o)(a:Mod b w w')(c:g≠b):w'.heap[g]?=some o:=by
 rw[a.block g (Qh h) c];exact h
theorem RK(w:World):Calls prog 223 #[] w fun e w'=>e=.returned (.slice (some ⟨w.heap.size,0,none⟩) 3 3)/\w'=w.alloc (.cells (Qw [tIs,Zo,Zp]).toArray 9):=by
 go_enter func223,ntmps223;go_wp2;go_ret;exact⟨rfl,rfl⟩
theorem RL(w:World):Calls prog 152 #[] w fun e w'=>e=.returned (.slice (some ⟨w.heap.size,0,none⟩) 3 3)/\w'=w.alloc (.cells (Qw [Xs,Xt,Xu]).toArray 9):=by
 go_enter func152,ntmps152;go_wp2;go_ret;exact⟨rfl,rfl⟩
theorem RM(w:World):Calls prog 191 #[] w fun e w'=>e=.returned (.slice (some ⟨w.heap.size,0,none⟩) 2 2)/\w'=w.alloc (.cells (Qw [X3,X4]).toArray 9):=by
 go_enter func191,ntmps191;go_wp2;go_ret;exact⟨rfl,rfl⟩
theorem Mod.setNew{u:World}(h:Mod b u w)(hg:u.heap.size<=g)(o:Nat)(v:Value):Mod b u (w.setCell ⟨g,o,none⟩ v):=
 ⟨h.os,h.tape,h.output,by have:=h.size;simpa[World.setCell]using this,fun k hk hn=>(Below.heap_setCell _ _ _ _ (by show k≠g;omega)).trans (h.block k hk hn)⟩
theorem RC.setNew{e:Value}{d:Nat}(h:RC w b t s e c d)(j:b<g)(o:Nat)(v:Value):RC (w.setCell ⟨g,o,none⟩ v) b t s e c d:=by
 have i:=h.b1;refine⟨?_,h.le,?_,h.b1,h.hs,h.sz,h.e0,h.nm⟩
 ·unfold RAt;rw[Below.heap_setCell _ _ _ _ (by show b≠g;omega)];exact h.at_
 ·obtain⟨m,f⟩:=h.m;exact⟨m,by rw[World.cell?_of_block (w:=w) (a:=⟨1,0,none⟩) (Below.heap_setCell _ _ _ _ (by show 1≠g;omega))];exact f⟩
theorem BU(h:w.heap[g]?=some o)(b:g≠a)(k:Nat)(v:Value):(w.setCell ⟨a,k,none⟩ v).heap[g]?=some o:=by
 rw[Below.heap_setCell _ _ _ _ b];exact h
theorem RN{d b:Bool}(h:¬ wL [tIs,Zo,Zp] s.1.spelt=0)(c:¬ a=0):Zb l (f+1) a d b s=.error ⟨7,s.1.pos⟩:=by
 rw[Zb,if_neg h,if_neg c]
theorem RO{g b:Bool}(h:¬ wL [tIs,Zo,Zp] s.1.spelt=0)(d:a=0)(c:nL l s.2=.error e):Zb l (f+1) a g b s=.error e:=by
 rw[Zb,if_neg h,if_pos d,nextThen,c]
theorem RQ{b a:Bool}{y:PS}(h:¬ wL [tIs,Zo,Zp] s.1.spelt=0)(e:c=0)(d:nL l s.2=.ok y):Zb l (f+1) c b a s=Zb l f (wL [tIs,Zo,Zp] s.1.spelt) b a y:=by
 rw[Zb,if_neg h,if_pos e,nextThen,d]
theorem RR{a c:Bool}(h:wL [tIs,Zo,Zp] s.1.spelt=0)(d:wL [Xi] s.1.spelt=0):Zb l (f+1) b a c s=.ok ((max b 1,a),s):=by
 rw[Zb,if_pos h,if_pos d]
theorem RS{b:Bool}(h:wL [tIs,Zo,Zp] s.1.spelt=0)(a:¬ wL [Xi] s.1.spelt=0):Zb l (f+1) c b true s=.error ⟨7,s.1.pos⟩:=by
 rw[Zb,if_pos h,if_neg a,if_pos rfl]
theorem RT{d:Nat}{c:Bool}(h:wL [tIs,Zo,Zp] s.1.spelt=0)(a:¬ wL [Xi] s.1.spelt=0)(b:nL l s.2=.error e):Zb l (f+1) d c false s=.error e:=by
 rw[Zb,if_pos h,if_neg a,if_neg (by decide),nextThen,b]
theorem RU{d:Bool}{y:PS}(h:wL [tIs,Zo,Zp] s.1.spelt=0)(a:¬ wL [Xi] s.1.spelt=0)(b:nL l s.2=.ok y)(c:sL l (XQ 7 [Z0,Jd]) y=.error e):Zb l (f+1) g d false s=.error e:=by
 rw[Zb,if_pos h,if_neg a,if_neg (by decide),XV b];exact Qi c
theorem RV{e:Bool}{y:PS}(h:wL [tIs,Zo,Zp] s.1.spelt=0)(b:¬ wL [Xi] s.1.spelt=0)(c:nL l s.2=.ok y)(d:sL l (XQ 7 [Z0,Jd]) y=.ok z):Zb l (f+1) a e false s=Zb l f a (decide (z.1=Z0)) true z.2:=by
 rw[Zb,if_pos h,if_neg b,if_neg (by decide),XV c];exact Qe d
theorem RW:∀ z∈[tIs,Zo,Zp],z≠[]:=by decide
theorem RX:∀ z∈[Xi],z≠[]:=by decide
theorem E5{zs:Qa}(hz:∀ z∈zs,z≠[])(he:s.1.kind=0->s.1.spelt=[])(h:¬ wL zs s.1.spelt=0):¬ s.1.kind=0:=fun e=>h (by rw[he e];exact G0 zs hz)
def UH(hw:L8)(hp tag:Nat)(oct:Bool):Array Value:=#[.string (sA hw),.int .i64 hp,.int .i64 tag,.bool oct,.slice none 0 0,.slice none 0 0]
def BV(hw:L8)(hp:Nat)(o:Nat×Bool)(_:World)(v:Value):Prop:=v=.agg (UH hw hp o.1 o.2)
theorem RY(hw:L8)(A:Nat)(b F:Nat)(t:ByteArray)(s:PS)(k:Value)(i j:Nat)(w:World)(h:RC w b t s k i j)(hF:mu t.size s<F) :
 Calls prog 187 #[.pointer (some ⟨b,0,none⟩),.agg #[.string (sA hw),.int .i64 A]] w (Qg (Zb t.data.toList F 0 false false s) b t k i j w (BV hw A)):=by
 have H:=I h;have aY:=h.at_.lt;clear h;go_enter func187,ntmps187;go_wp2_with fail
 go_loopw [6,7] (fun c6 _ wr=>∃(a:PS) (d:Nat) (p R:Bool) (f:Nat),c6=.bool R/\wr.heap[w.heap.size+1+1]?=some (.cells (UH hw A d p) 227)/\wr.heap[w.heap.size+1]?=some (.cells #[.string ⟨#[]⟩,.int .i64 0,.int .i64 0,.bool false,.slice none 0 0,.slice none 0 0] 227)/\RC wr b t a k i j/\Mod b w wr/\mu t.size a<f/\d<=3/\Zb t.data.toList F 0 false false s=Zb t.data.toList f d p R a) (fun _ _ wr=>muW wr b t.size)
 case atStart=>
  refine⟨s,0,false,false,F,rfl,?_,?_,((H.o.alloc _).alloc _).alloc _,(((Mod.refl b w).alloc _).alloc _).alloc _,hF,by omega,rfl⟩
  ·exact Zv (by simp)
  ·exact Qy (Zv (by simp))
 case round=>
  obtain⟨a,d,p,R,f,rfl,hM,hR,T,ay,hf,aW,aB⟩:=hrel;obtain⟨f,rfl⟩:∃ g,f=g+1:=⟨f - 1,by omega⟩;have HR:=I T;have au:=I ay;have D:=I aB;have Z:=I hM;have av:=I hR;have a0:w.heap.size+1+1<wr.heap.size:=Qh hM;have ap:=I (Ny b wr.heap.size 3 3 [tIs,Zo,Zp] t a.1 a.2 k i j _ (T.alloc (.cells (Qw [tIs,Zo,Zp]).toArray 9)).at_ (YE wr [tIs,Zo,Zp] _ _ rfl) rfl (by decide));have ak:=YU [tIs,Zo,Zp] a.1.spelt;have aK:=I (E5 (zs:=[tIs,Zo,Zp]) (s:=a) RW T.e0);have aL:=I (E5 (zs:=[Xi]) (s:=a) RX T.e0);clear T ay aB hM hR;go_wp2_with (go_at_call 223;refine(RK _).mono ?_;rintro e X ⟨rfl,rfl⟩);refine ap.o.mono ?_;rintro e X ⟨rfl,rfl⟩;by_cases h1:wL [tIs,Zo,Zp] a.1.spelt=0
  ·have q:=I h1;have aN:¬(0:Int)<(wL [tIs,Zo,Zp] a.1.spelt:Int):=by omega
   obtain⟨W,m⟩:=QE (wr.alloc (.cells (Qw [tIs,Zo,Zp]).toArray 9));rw[<-m];have L:Hid (RC W b t a k i j):=by rw[m];exact HR.o.alloc _
   have C:Hid (Mod b w W):=by rw[m];exact au.o.alloc _
   have aa:Hid (W.heap[w.heap.size+1+1]?=some (.cells (UH hw A d p) 227)):=by rw[m];exact Qy Z.o
   have ai:Hid (W.heap[w.heap.size+1]?=some (.cells #[.string ⟨#[]⟩,.int .i64 0,.int .i64 0,.bool false,.slice none 0 0,.slice none 0 0] 227)):=by rw[m];exact Qy av.o
   have a3:w.heap.size+1+1<W.heap.size:=Qh aa.o;have aC:=I (Ny b W.heap.size 1 1 [Xi] t a.1 a.2 k i j _ (L.o.alloc (.cells (Qw [Xi]).toArray 9)).at_ (YE W [Xi] _ _ rfl) rfl (by decide));have aX:=YU [Xi] a.1.spelt;clear h1 ap m ak;go_wp2_with fail;refine aC.o.mono ?_;rintro e X ⟨rfl,aq⟩;subst aq;obtain⟨V,M⟩:=QE (W.alloc (.cells (Qw [Xi]).toArray 9));rw[<-M];have ab:Hid (RC V b t a k i j):=by rw[M];exact L.o.alloc _
   have K:Hid (Mod b w V):=by rw[M];exact C.o.alloc _
   have r:Hid (V.heap[w.heap.size+1+1]?=some (.cells (UH hw A d p) 227)):=by rw[M];exact Qy aa.o
   have E:Hid (V.heap[w.heap.size+1]?=some (.cells #[.string ⟨#[]⟩,.int .i64 0,.int .i64 0,.bool false,.slice none 0 0,.slice none 0 0] 227)):=by rw[M];exact Qy ai.o
   have a2:w.heap.size+1+1<V.heap.size:=Qh r.o;clear M aC;by_cases h2:wL [Xi] a.1.spelt=0
   ·have G:=I h2;have aO:¬(0:Int)<(wL [Xi] a.1.spelt:Int):=by omega
    have m0:=Qj r.o;have m1:=Qo r.o;have m2:=QG r.o;have m3:=QH r.o;have m4:=QJ r.o;have m5:=QM r.o;have mf:=Qz r.o;have r0:=Qj E.o;have r1:=Qo E.o;have r2:=QG E.o;have r3:=QH E.o;have r4:=QJ E.o;have r5:=QM E.o;have rf:=Qz E.o;clear h2;go_wp2;have N:b<w.heap.size+1:=by omega
    have aj:b<w.heap.size+1+1:=by omega
    have P:w.heap.size<=w.heap.size+1:=by omega
    have aS:w.heap.size<=w.heap.size+1+1:=by omega
    refine bodyPost_ret (v:=.agg #[.string (sA hw),.int .i64 A,.int .i64 (max (d:Int) 1),.bool p,.slice none 0 0,.slice none 0 0]) (by simp[results,results187,go_sem,r0,r1,r2,r3,r4,r5]) rfl (Qg.ok (D.o.trans (RR q.o G.o)) (((((((K.o.setNew aS _ _).setNew P _ _).setNew P _ _).setNew P _ _).setNew P _ _).setNew P _ _).setNew P _ _) ?_ (((((((ab.o.setNew aj _ _).setNew N _ _).setNew N _ _).setNew N _ _).setNew N _ _).setNew N _ _).setNew N _ _));unfold BV UH;have:(max (d:Int) 1)=((max d 1:Nat):Int):=by omega
    rw[this]
   ·have G:=I h2;have aO:(0:Int)<(wL [Xi] a.1.spelt:Int):=by omega
    clear h2;cases R;rotate_left
    ·go_wp2_with fail;refine(XP b 7 _ _ t a.1 a.2 k i j _ ab.o.at_ rfl rfl).mono ?_;rintro e w1 ⟨⟨u,B,rfl,x⟩,c⟩;exact⟨rfl,Qg.err (D.o.trans (RS q.o G.o)) (K.o.trans (Mod.of_below c)) ⟨u,Qm K.o.size B,rfl,x⟩⟩
    go_wp2_with fail;refine(ZE b _ _ _ rfl).mono ?_;rintro e X ⟨rfl,aq⟩;subst aq;go_wp2_with fail;refine(Jk b t a k i j _ ab.o).mono ?_;rintro e n (⟨y,hy,rfl,hc,c⟩ | ⟨f2,S,⟨u,B,rfl,x⟩,c⟩);rotate_left
    ·exact⟨rfl,Qg.err (D.o.trans (RT q.o G.o S)) (K.o.trans c) ⟨u,Qm K.o.size B,rfl,x⟩⟩
    have ac:=Y8 (l:=t.data.toList) (s:=a) (by simpa using ab.o.le) (aL.o G.o) hy;rw[bal]at ac;have ag:=I (K.o.trans c);have af:=I hc;have Y:=I (Qu r.o c (by omega));have ad:=I (Qu E.o c (by omega));have a1:w.heap.size+1+1<n.heap.size:=Qh Y.o;have HY:=I hy;clear hc c hy;go_wp2_with (go_at_call 137;refine(A0 _ _ _ _ _).mono ?_;rintro e X ⟨rfl,rfl⟩);obtain⟨U,J⟩:=QE (((n.alloc (.cells #[.string ⟨#[105,59,111,99,116,101,116]⟩,.string ⟨#[105,59,97,115,99,105,105,45,99,97,115,101,109,97,112]⟩] 9)).alloc (.cells #[.int .i64 7] 33)).alloc (.cells #[.slice (some ⟨n.heap.size,0,none⟩) 2 2] 61))
    have aH:Hid (Kd U (n.heap.size+1+1) (n.heap.size+1) n.heap.size 2 2 7 [Z0,Jd]):=by
     rw[J];refine⟨?_,?_,?_,rfl,by decide⟩
     ·exact Qn (Zv (by simp)) 0
     ·exact Qn (Qy (Zv (by simp))) 0
     ·exact((YE n [Z0,Jd] _ _ rfl).below (Qs _)).below (Qs _)
    have aw:Hid (RC U b t y k i j):=by rw[J];exact((af.o.alloc _).alloc _).alloc _
    have ah:Hid (Mod b w U):=by rw[J];exact((ag.o.alloc _).alloc _).alloc _
    have aI:Hid (U.heap[w.heap.size+1+1]?=some (.cells (UH hw A d p) 227)):=by rw[J];exact Qy (Qy (Qy Y.o))
    have aJ:Hid (U.heap[w.heap.size+1]?=some (.cells #[.string ⟨#[]⟩,.int .i64 0,.int .i64 0,.bool false,.slice none 0 0,.slice none 0 0] 227)):=by rw[J];exact Qy (Qy (Qy ad.o))
    rw[<-J];clear J;refine(C8 (n.heap.size+1+1) (n.heap.size+1) n.heap.size 2 2 7 [Z0,Jd] b t y k i j _ aw.o aH.o).mono ?_;intro e w3 h3;rcases h3.cases with⟨z,v,ar,rfl,hv,ax,Q⟩ | ⟨f3,aR,⟨u,B,rfl,x⟩,Q⟩
    rotate_left
    ·exact⟨rfl,Qg.err (D.o.trans (RU q.o G.o HY.o aR)) (ah.o.trans Q) ⟨u,Qm ah.o.size B,rfl,x⟩⟩
    unfold JW at hv;subst hv;have ao:=Vf (l:=t.data.toList) (by simpa using aw.o.le) ar;rw[bal]at ao;replace ao:=ao.1;have aF:=I (ah.o.trans Q);have aE:=I ax;have ae:=I (Qu aI.o Q (by omega));have aD:=I (Qu aJ.o Q (by omega));have aM:=I ar;have m3:=QH ae.o;have mf:=Qz ae.o;clear h3 ar ax Q;have aj:b<w.heap.size+1+1:=by omega
    go_wp2;have aU:((sA z.1).toList==[105,59,111,99,116,101,116])=decide (z.1=Z0):=Um z.1 Z0;rw[aU];have aA:=aE.o.setNew aj 3 (.bool (decide (z.1=Z0)));refine⟨⟨z.2,d,decide (z.1=Z0),true,f,rfl,Qv _ _ _ _ _ _ ae.o,BU aD.o (by omega) _ _,aA,aF.o.setNew (by omega) _ _,by omega,aW,D.o.trans (RV q.o G.o HY.o aM.o)⟩,?_⟩;rw[aA.muEq,HR.o.muEq];omega
  ·have q:=I h1;have aN:(0:Int)<(wL [tIs,Zo,Zp] a.1.spelt:Int):=by omega
   have aQ:(wr.alloc (.cells (Qw [tIs,Zo,Zp]).toArray 9)).cell? ⟨w.heap.size+1+1,2,none⟩=some (.int .i64 d):=Qn (Qy Z.o) 2;have S:(wr.alloc (.cells (Qw [tIs,Zo,Zp]).toArray 9)).frozen? ⟨w.heap.size+1+1,2,none⟩=false:=Qz (Qy Z.o) 2;have aT:(wL [tIs,Zo,Zp] a.1.spelt)<=3:=ak;obtain⟨W,m⟩:=QE (wr.alloc (.cells (Qw [tIs,Zo,Zp]).toArray 9));rw[<-m]at aQ S ⊢;have L:Hid (RC W b t a k i j):=by rw[m];exact HR.o.alloc _
   have C:Hid (Mod b w W):=by rw[m];exact au.o.alloc _
   have aa:Hid (W.heap[w.heap.size+1+1]?=some (.cells (UH hw A d p) 227)):=by rw[m];exact Qy Z.o
   have ai:Hid (W.heap[w.heap.size+1]?=some (.cells #[.string ⟨#[]⟩,.int .i64 0,.int .i64 0,.bool false,.slice none 0 0,.slice none 0 0] 227)):=by rw[m];exact Qy av.o
   have HZ:Hid (w.heap.size<=W.heap.size):=C.o.size;clear h1 ap m ak;by_cases ht:d=0
   ·have aV:((d:Int)==0)=true:=by simp;omega
    have HT:=I ht;clear ht;go_wp2_with fail;refine(ZE b _ _ _ rfl).mono ?_;rintro e X ⟨rfl,rfl⟩;go_wp2_with fail;have aP:b<w.heap.size+1+1:=by omega
    have aZ:=C.o.size;refine(Jk b t a k i j _ (L.o.setNew aP _ _)).mono ?_;rintro e n (⟨y,hy,rfl,hc,c⟩ | ⟨f2,S,⟨u,B,rfl,x⟩,c⟩);rotate_left
    ·exact⟨rfl,Qg.err (D.o.trans (RO q.o HT.o S)) ((C.o.setNew (by omega) _ _).trans c) ⟨u,Qm (C.o.setNew (by omega) _ _).size B,rfl,x⟩⟩
    have ac:=Y8 (l:=t.data.toList) (s:=a) (by simpa using L.o.le) (aK.o q.o) hy;rw[bal]at ac;have az:muW n b t.size<muW wr b t.size:=by rw[hc.muEq,HR.o.muEq];exact ac
    have aG:=I az;have af:=I hc;have ag:=I ((C.o.setNew (g:=w.heap.size+1+1) (by omega) 2 (.int .i64 (wL [tIs,Zo,Zp] a.1.spelt))).trans c);have Y:=I (Qu (b:=b) (g:=w.heap.size+1+1) (Qv _ (w.heap.size+1+1) 2 (.int .i64 (wL [tIs,Zo,Zp] a.1.spelt)) _ _ aa.o) c (by omega));have ad:=I (Qu (BU ai.o (by omega:w.heap.size+1≠w.heap.size+1+1) 2 (.int .i64 (wL [tIs,Zo,Zp] a.1.spelt))) c (by omega));have HY:=I hy;clear hc c az hy;go_wp2;go_roundw
    case rel=>exact⟨y,wL [tIs,Zo,Zp] a.1.spelt,p,R,f,rfl,Y.o,ad.o,af.o,ag.o,by omega,aT,D.o.trans (RQ q.o HT.o HY.o)⟩
    case measure=>exact aG.o
   ·have aV:((d:Int)==0)=false:=by simp;omega
    have HT:=I ht;clear ht;go_wp2_with fail;refine(XP b 7 _ _ t a.1 a.2 k i j _ L.o.at_ rfl rfl).mono ?_;rintro e w1 ⟨⟨u,B,rfl,x⟩,c⟩;exact⟨rfl,Qg.err (D.o.trans (RN q.o HT.o)) (C.o.trans (Mod.of_below c)) ⟨u,Qm HZ.o B,rfl,x⟩⟩
theorem KM.mod{cv:Value}(h:KM w b t rv mc mt cv chk)(hm:Mod b w w'):KM w' b t rv mc mt cv chk:=
 fun W s hW hr=>h W s (hm.trans hW) hr
theorem Aj(w:World)(b:Nat)(t:ByteArray)(rv:Value)(mc mt:Nat):KM w b t rv mc mt (.func (.func 134) #[] #[]) (fun _=>0):=
 fun W s _ hr=>A2 b t s rv mc mt W hr
def mtV(B:Nat)(hw:L8)(x:QX)(w:World)(v:Value):Prop:=
 ∃ fv kv,v=.agg #[.string (sA hw),.int .i64 x.pos,.int .i64 x.tag,.bool x.octet,fv,kv]/\slB B x.fr w fv/\slB B x.keys w kv
theorem RC.mu_lt{d:Value}(h:RC w b t s d a c)(hF:2*t.size+1<F):mu t.size s<F:=by
 unfold mu;split<;>omega
theorem BW(cv:Value)(chk:L8->Nat)(k:Nat)(hw:L8)(c:Nat)(b F:Nat)(t:ByteArray)(s:PS)(j:Value)(d i:Nat)(w:World)(h:RC w b t s j d i)(ho:KM w b t j d i cv chk)(hF:2*t.size+1<F) :
 Calls prog 133 #[.pointer (some ⟨b,0,none⟩),.agg #[.string (sA hw),.int .i64 c],cv] w (Qg (ZR t.data.toList F chk k c s) b t j d i w (mtV w.heap.size hw)):=by
 have H:=I h;have HO:=I ho;have aH:=h.at_.lt;clear h ho;go_enter func133,ntmps133;go_wp2_with fail;have Q:=I (((Mod.refl b w).alloc (.cells #[.string (sA hw),.int .i64 c] 216)).alloc (.cells #[.string ⟨#[]⟩,.int .i64 0,.int .i64 0,.bool false,.slice none 0 0,.slice none 0 0] 227));refine(RY hw c b F t s j d i _ ((H.o.alloc _).alloc _) (H.o.mu_lt hF)).mono ?_;intro e L h1;rcases h1.cases with⟨o,v,hy,rfl,hv,hc,G⟩ | ⟨f,E,⟨A,J,rfl,D⟩,G⟩
 rotate_left
 ·exact⟨rfl,Qg.err (Qi E) (Q.o.trans G) ⟨A,Qm Q.o.size J,rfl,D⟩⟩
 unfold BV UH at hv;subst hv;have T:=I hy;have HC:=I hc;have aa:=I (Q.o.trans G);have S:=I (Qu (g:=w.heap.size+1) (o:=.cells #[.string ⟨#[]⟩,.int .i64 0,.int .i64 0,.bool false,.slice none 0 0,.slice none 0 0] 227) (Zv (by simp)) G (by omega));have aL:w.heap.size+1<L.heap.size:=Qh S.o;clear h1 hy hc G;go_wp2_with fail;obtain⟨V,r⟩:=QE (L.alloc (.cells #[.string (sA hw),.int .i64 c,.int .i64 o.1.1,.bool o.1.2,.slice none 0 0,.slice none 0 0] 227));have ac:Hid (RC V b t o.2 j d i):=by rw[r];exact HC.o.alloc _
 have P:Hid (Mod b w V):=by rw[r];exact aa.o.alloc _
 have aD:Hid (V.heap[w.heap.size+1]?=some (.cells #[.string ⟨#[]⟩,.int .i64 0,.int .i64 0,.bool false,.slice none 0 0,.slice none 0 0] 227)):=by rw[r];exact Qy S.o
 have ae:Hid (V.heap[L.heap.size]?=some (.cells #[.string (sA hw),.int .i64 c,.int .i64 o.1.1,.bool o.1.2,.slice none 0 0,.slice none 0 0] 227)):=by rw[r];exact QA _ _
 rw[<-r];have aq:L.heap.size<V.heap.size:=Qh ae.o;generalize L.heap.size=M at *;clear r HC aa S;refine(Ah cv chk b F t o.2 j d i V ac.o (HO.o.mod P.o) (ac.o.mu_lt hF)).mono ?_;intro e Y h2;rcases h2.cases with⟨Z,v2,ao,rfl,aj,ah,y⟩ | ⟨f,E,⟨A,J,rfl,D⟩,y⟩
 rotate_left
 ·exact⟨rfl,Qg.err ((Qe T.o).trans (Qi E)) (P.o.trans y) ⟨A,Qm P.o.size J,rfl,D⟩⟩
 have W:=aj;obtain⟨C,K,B,rfl⟩:=W.form;have ay:=I W;have af:=I ao;have ar:=I ah;have av:=I (P.o.trans y);have ax:=I (Qu aD.o y (by omega));have N:=I (Qu ae.o y (by omega));have aM:M<Y.heap.size:=Qh N.o;have m4:=QJ N.o;have mf:=Qz N.o;have ag:b<M:=by omega
 have aK:w.heap.size+1<M:=by omega
 clear h2 ao ah y W aj;go_wp2_with fail;obtain⟨U,n⟩:=QE (Y.setCell ⟨M,4,none⟩ (.slice (some ⟨C,0,none⟩) K B));have ab:Hid (RC U b t Z.2 j d i):=by rw[n];exact ar.o.setNew ag _ _
 have R:Hid (Mod b w U):=by rw[n];exact av.o.setNew (by omega) _ _
 have aC:Hid (U.heap[w.heap.size+1]?=some (.cells #[.string ⟨#[]⟩,.int .i64 0,.int .i64 0,.bool false,.slice none 0 0,.slice none 0 0] 227)):=by rw[n];exact BU ax.o (by omega) _ _
 have ad:Hid (U.heap[M]?=some (.cells #[.string (sA hw),.int .i64 c,.int .i64 o.1.1,.bool o.1.2,.slice (some ⟨C,0,none⟩) K B,.slice none 0 0] 227)):=by rw[n];exact Qv _ _ _ _ _ _ N.o
 have aB:Hid (slB V.heap.size Z.1 U (.slice (some ⟨C,0,none⟩) K B)):=by
  rw[n];exact ay.o.keep (Abv.set aq _ _)
 rw[<-n];clear n mf m4;have aG:M<U.heap.size:=Qh ad.o;refine(Ah (.func (.func 134) #[] #[]) (fun _=>0) b F t Z.2 j d i U ab.o (Aj _ _ _ _ _ _) (ab.o.mu_lt hF)).mono ?_;intro e a h3;rcases h3.cases with⟨y3,v3,ap,rfl,ak,ai,p⟩ | ⟨f,E,⟨A,J,rfl,D⟩,p⟩
 rotate_left
 ·exact⟨rfl,Qg.err ((Qe T.o).trans ((Qe af.o).trans (Qi E))) (R.o.trans p) ⟨A,Qm R.o.size J,rfl,D⟩⟩
 have X:=ak;obtain⟨g3,n3,c3,rfl⟩:=X.form;have aA:=I X;have az:=I (aB.o.keep (p.abv (by omega)));have aE:=I ap;have au:=I ai;have aw:=I (R.o.trans p);have m:=I (Qu aC.o p (by omega));have l:=I (Qu ad.o p (by omega));have m0:=Qj l.o;have m1:=Qo l.o;have m2:=QG l.o;have m3:=QH l.o;have m4:=QJ l.o;have m5:=QM l.o;have mf:=Qz l.o;have r0:=Qj m.o;have r1:=Qo m.o;have r2:=QG m.o;have r3:=QH m.o;have r4:=QJ m.o;have r5:=QM m.o;have rf:=Qz m.o;have aI:¬ M=w.heap.size+1:=by omega
 have aJ:¬ w.heap.size+1=M:=by omega
 clear h3 ap ai p X ak;go_wp2;have x:b<w.heap.size+1:=by omega
 have z:w.heap.size<=w.heap.size+1:=by omega
 have aF:w.heap.size<=M:=by omega
 have u:w.heap.size+1<V.heap.size:=by omega
 have q:w.heap.size+1<U.heap.size:=by omega
 refine bodyPost_ret (v:=.agg #[.string (sA hw),.int .i64 c,.int .i64 o.1.1,.bool o.1.2,.slice (some ⟨C,0,none⟩) K B,.slice (some ⟨g3,0,none⟩) n3 c3]) (by simp[results,results133,go_sem,r0,r1,r2,r3,r4,r5]) rfl (Qg.ok ((Qe T.o).trans ((Qe af.o).trans (Qe aE.o))) (((((((aw.o.setNew aF _ _).setNew z _ _).setNew z _ _).setNew z _ _).setNew z _ _).setNew z _ _).setNew z _ _) ⟨_,_,rfl,?_,?_⟩ (((((((au.o.setNew ag _ _).setNew x _ _).setNew x _ _).setNew x _ _).setNew x _ _).setNew x _ _).setNew x _ _))
 ·exact(((((((az.o.keep (Abv.set aq _ _)).keep (Abv.set u _ _)).keep (Abv.set u _ _)).keep (Abv.set u _ _)).keep (Abv.set u _ _)).keep (Abv.set u _ _)).keep (Abv.set u _ _)).weak (by omega)
 ·exact(((((((aA.o.keep (Abv.set aG _ _)).keep (Abv.set q _ _)).keep (Abv.set q _ _)).keep (Abv.set q _ _)).keep (Abv.set q _ _)).keep (Abv.set q _ _)).keep (Abv.set q _ _)).weak (by omega)
end
section
open Go.RowKit
attribute [local go_sem ↓] Go.wp_at_zero Go.wp_at_succ
def ZS(hw:L8)(hp:Nat):Value:=.agg #[.string (sA hw),.int .i64 hp]
def YJ(w:World)(pr b:Nat):Prop:=w.cell? ⟨pr,0,none⟩=some (.pointer (some ⟨b,0,none⟩))/\pr≠b
theorem YJ.mod(h:YJ w pr b)(hm:Mod b w w'):YJ w' pr b:=
 ⟨by rw[hm.cell (p:=⟨pr,0,none⟩) (QI h.1) h.2];exact h.1,h.2⟩
theorem YJ.lt(h:YJ w pr b):pr<w.heap.size:=QI (a:=⟨pr,0,none⟩) h.1
theorem E6(hw:L8)(a:Nat)(d:Int)(pt:Nat)(B:Bool)(w:World)(h:w.cell? ⟨pt,0,none⟩=some (.bool B)) :
 Calls prog 185 #[ZS hw a,.int .i64 d,.pointer (some ⟨pt,0,none⟩)] w fun e w'=>e=.returned (.iface 302 (.agg #[.string (sA hw),.int .i64 a,.bool B]))/\Below w.heap.size w w':=by
 have b:=QI h;have c:(w.alloc (.cells #[.string (sA hw),.int .i64 a] 216)).cell? ⟨pt,0,none⟩=some (.bool B):=by rw[World.cell?_alloc_past _ _ _ b];exact h
 unfold ZS;go_enter func185,ntmps185;go_wp2;go_ret;exact⟨rfl,Qs _⟩
theorem RZ(hw:L8)(c:Nat)(d:Int)(pr:Nat)(b F:Nat)(t:ByteArray)(s:PS)(m:Value)(k l:Nat)(w:World)(h:RC w b t s m k l)(j:YJ w pr b)(hF:2*t.size+1<F) :
 Calls prog 132 #[ZS hw c,.int .i64 d,.pointer (some ⟨pr,0,none⟩)] w (Qg (ZR t.data.toList F (fun _=>0) 5 c s) b t m k l w (fun x w' v=>∃ u,v=.iface 231 u/\mtV w.heap.size hw x w' u)):=by
 have J:=j.lt;have R:(w.alloc (.cells #[.string (sA hw),.int .i64 c] 216)).cell? ⟨pr,0,none⟩=some (.pointer (some ⟨b,0,none⟩)):=by rw[World.cell?_alloc_past _ _ _ J];exact j.1
 have H:=I h;clear h j;unfold ZS;go_enter func132,ntmps132;go_wp2_with fail;refine(BW _ (fun _=>0) 5 hw c b F t s m k l _ (H.o.alloc _) (Aj _ _ _ _ _ _) hF).mono ?_;intro e V n;rcases n.cases with⟨y,v,q,rfl,⟨N,S,rfl,g,i⟩,p,a⟩ | ⟨f,G,⟨D,K,rfl,E⟩,a⟩
 rotate_left
 ·exact⟨rfl,Qg.err G (((Mod.refl b w).alloc _).trans a) ⟨D,by simp at K;omega,rfl,E⟩⟩
 have C:=I q;have r:=I p;have B:=I (((Mod.refl b w).alloc _).trans a);have z:=I (g.weak (B':=w.heap.size) (by simp));have A:=I (i.weak (B':=w.heap.size) (by simp));clear n q p a;obtain⟨P,T,L,rfl⟩:=g.form;obtain⟨Q,U,M,rfl⟩:=i.form;clear g i;go_wp2;go_ret;exact Qg.ok C.o B.o ⟨_,rfl,_,_,rfl,z.o,A.o⟩ r.o
theorem R0(hw:L8)(c:Nat)(d:Int)(pr:Nat)(b F:Nat)(t:ByteArray)(s:PS)(m:Value)(k l:Nat)(w:World)(h:RC w b t s m k l)(j:YJ w pr b)(hF:2*t.size+1<F) :
 Calls prog 138 #[ZS hw c,.int .i64 d,.pointer (some ⟨pr,0,none⟩)] w (Qg (ZR t.data.toList F (fun _=>0) 7 c s) b t m k l w (fun x w' v=>∃ u,v=.iface 235 u/\mtV w.heap.size hw x w' u)):=by
 have J:=j.lt;have R:(w.alloc (.cells #[.string (sA hw),.int .i64 c] 216)).cell? ⟨pr,0,none⟩=some (.pointer (some ⟨b,0,none⟩)):=by rw[World.cell?_alloc_past _ _ _ J];exact j.1
 have H:=I h;clear h j;unfold ZS;go_enter func138,ntmps138;go_wp2_with fail;refine(BW _ (fun _=>0) 7 hw c b F t s m k l _ (H.o.alloc _) (Aj _ _ _ _ _ _) hF).mono ?_;intro e V n;rcases n.cases with⟨y,v,q,rfl,⟨N,S,rfl,g,i⟩,p,a⟩ | ⟨f,G,⟨D,K,rfl,E⟩,a⟩
 rotate_left
 ·exact⟨rfl,Qg.err G (((Mod.refl b w).alloc _).trans a) ⟨D,by simp at K;omega,rfl,E⟩⟩
 have C:=I q;have r:=I p;have B:=I (((Mod.refl b w).alloc _).trans a);have z:=I (g.weak (B':=w.heap.size) (by simp));have A:=I (i.weak (B':=w.heap.size) (by simp));clear n q p a;obtain⟨P,T,L,rfl⟩:=g.form;obtain⟨Q,U,M,rfl⟩:=i.form;clear g i;go_wp2;go_ret;exact Qg.ok C.o B.o ⟨_,rfl,_,_,rfl,z.o,A.o⟩ r.o
theorem Zt(h:Mod b w.drew w'):Mod b w w':=⟨h.os,h.tape,h.output,h.size,h.block⟩
theorem Ak(hw:L8)(a:Nat)(c:Mod b (w.alloc (.cells #[.string (sA hw),.int .i64 a] 216)) w1)(d:b<w.heap.size) :
 w1.cell? ⟨w.heap.size,0,none⟩=some (.string (sA hw))/\w1.cell? ⟨w.heap.size,1,none⟩=some (.int .i64 a):=by
 have h:=Qu (g:=w.heap.size) (QA w (.cells #[.string (sA hw),.int .i64 a] 216)) c (by omega);exact⟨Qn h 0,Qn h 1⟩
theorem R1(hw:L8)(c:Nat)(d:Int)(b F:Nat)(t:ByteArray)(s:PS)(k:Value)(i j:Nat)(w:World)(h:RC w b t s k i j)(hF:2*t.size+1<F) :
 Calls prog 139 #[.pointer (some ⟨b,0,none⟩),ZS hw c,.int .i64 d] w (Qg (sLs t.data.toList (fun _=>0) F s) b t k i j w (fun xs w' v=>∃ u,v=.iface 309 (.agg #[.string (sA hw),.int .i64 c,u])/\slB w.heap.size xs w' u)):=by
 have H:=I h;have C:=h.at_.lt;clear h;unfold ZS;go_enter func139,ntmps139;go_wp2_with fail;go_region_with (first|(go_at_call 188;refine(Ah _ (fun _=>0) b F t s k i j _ ((H.o.alloc _).drew) (Aj _ _ _ _ _ _) (H.o.mu_lt hF)).mono ?_;intro e M l;rcases l.cases with⟨y,v,n,rfl,g,m,a⟩ | ⟨f,B,⟨z,D,rfl,A⟩,a⟩;rotate_left;exact⟨rfl,Qg.err B (((Mod.refl b w).alloc _).trans (Zt a)) ⟨z,by simp at D;omega,rfl,A⟩⟩;obtain⟨J,K⟩:=Ak hw c (Zt a) C;have x:=I n;have p:=I m;have q:=I (((Mod.refl b w).alloc (.cells #[.string (sA hw),.int .i64 c] 216)).trans (Zt a));have r:=I (g.weak (B':=w.heap.size) (by simp));obtain⟨G,L,E,rfl⟩:=g.form;clear l n m a g;skip))
 all_goals go_wp2
 all_goals go_ret
 all_goals exact Qg.ok x.o q.o ⟨_,rfl,r.o⟩ p.o
def AbvX(X:Nat->Prop)(w w':World):Prop:=∀ k,X k->k<w.heap.size->w'.heap[k]?=w.heap[k]?
def fromB(B:Nat)(k:Nat):Prop:=B<=k
theorem Mod.abvX(h:Mod b w w')(hX:¬ X b):AbvX X w w':=fun k hk hz=>h.block k hz (fun e=>hX (e ▸ hk))
theorem AbvX.set(hX:¬ X g)(o:Nat)(v:Value):AbvX X w (w.setCell ⟨g,o,none⟩ v):=fun k hk _=>Below.heap_setCell _ _ _ _ (fun e=>hX (by have e':k=g:=e;rw[<-e'];exact hk))
def YA{α:Type}(fn:Nat)(w:World)(b:Nat)(t:ByteArray)(rv:Value)(mc mt:Nat)(d:Int)(sub:PS->Qb (α×PS))(P:(Nat->Prop)->α->World->Value->Prop):Prop:=
 ∀(W:World) (s:PS),Mod b w W->RC W b t s rv mc mt->Calls prog fn #[.pointer (some ⟨b,0,none⟩),.int .i64 d] W (Qg (sub s) b t rv mc mt W (P (fromB W.heap.size)))
theorem YA.mod{fn:Nat}{sub:PS->Qb (α×PS)}(h:YA fn w b t rv mc mt d sub P)(hm:Mod b w w'):YA fn w' b t rv mc mt d sub P:=
 fun W s hW hr=>h W s (hm.trans hW) hr
structure TreeP {α:Type} (P:(Nat->Prop)->α->World->Value->Prop):Prop where
 form:∀ X a w v,P X a w v->∃ ty x,v=.iface ty x
 keep:∀ X a w w' v,P X a w v->AbvX X w w'->P X a w' v
 weak:∀ X Y a w v,P X a w v->(∀ k,X k->k < w.heap.size->Y k)->P Y a w v
theorem R3(d:Int)(a:0<=d)(b:d<=100):IntKind.i64.wrap (d+1)=d+1:=by
 rw[IntKind.wrap_i64];omega
theorem R4(sub:PS->Qb (α×PS))(P:(Nat->Prop)->α->World->Value->Prop)(hw:L8)(g:Nat)(d:Int)(b:Nat)(t:ByteArray)(s:PS)(m:Value)(j l:Nat)(w:World)(h:RC w b t s m j l)(J:0<=d)(K:d<=100)(p:TreeP P)(r:YA 186 w b t m j l (d+1) sub P) :
 Calls prog 128 #[.pointer (some ⟨b,0,none⟩),ZS hw g,.int .i64 d] w (Qg (sub s) b t m j l w (fun a w' v=>∃ u,v=.iface 305 (.agg #[.string (sA hw),.int .i64 g,u])/\P (fromB w.heap.size) a w' u)):=by
 have H:=I h;have C:=I r;have HP:=I p;have N:=h.at_.lt;have T:=R3 d J K;clear h r p;unfold ZS;go_enter func128,ntmps128;go_wp2_with fail;go_region_with (first|(go_at_call 186;refine(C.o _ s (((Mod.refl b w).alloc _).drew) ((H.o.alloc _).drew)).mono ?_;intro e V n;rcases n.cases with⟨y,v,z,rfl,i,q,c⟩ | ⟨f,L,⟨F,Q,rfl,G⟩,c⟩;rotate_left;exact⟨rfl,Qg.err L (((Mod.refl b w).alloc _).trans (Zt c)) ⟨F,by simp at Q;omega,rfl,G⟩⟩;obtain⟨R,S⟩:=Ak hw g (Zt c) N;have E:=I z;have A:=I q;have B:=I (((Mod.refl b w).alloc (.cells #[.string (sA hw),.int .i64 g] 216)).trans (Zt c));have D:=I (HP.o.weak _ (fromB w.heap.size) _ _ _ i (fun k M _=>Qm (by simp) M));obtain⟨U,x,rfl⟩:=HP.o.form _ _ _ _ i;clear n z q c i;skip))
 all_goals go_wp2
 all_goals go_ret
 all_goals exact Qg.ok E.o B.o ⟨_,rfl,D.o⟩ A.o
def trX{α:Type}(X:Nat->Prop)(P:(Nat->Prop)->α->World->Value->Prop)(xs:List α)(w:World)(v:Value):Prop:=
 ∃ g c,v=.slice (some ⟨g,0,none⟩) xs.length c/\X g/\∀ j (hj:j<xs.length),∃ u,w.cell? ⟨g,j,none⟩=some u/\P X xs[j] w u
theorem trX.keep{α:Type}{X:Nat->Prop}{P:(Nat->Prop)->α->World->Value->Prop}(f:TreeP P){xs:List α}{w w':World}{v:Value}(h:trX X P xs w v)(d:AbvX X w w'):trX X P xs w' v:=by
 obtain⟨g,c,l,b,m⟩:=h;refine⟨g,c,l,b,fun j i=>?_⟩;obtain⟨u,e,k⟩:=m j i;refine⟨u,?_,f.keep _ _ _ _ _ k d⟩;rw[World.cell?_of_block (w:=w) (a:=⟨g,j,none⟩) (d g b (QI e))];exact e
theorem trX.weak{α:Type}{X Y:Nat->Prop}{P:(Nat->Prop)->α->World->Value->Prop}(e:TreeP P){xs:List α}{w:World}{v:Value}(l:xs≠[])(h:trX X P xs w v)(b:∀ k,X k->k<w.heap.size->Y k):trX Y P xs w v:=by
 obtain⟨g,c,n,f,d⟩:=h;refine⟨g,c,n,?_,fun j i=>?_⟩
 ·obtain⟨u,a,_⟩:=d 0 (List.length_pos_iff.2 l);exact b g f (QI a)
 ·obtain⟨u,a,m⟩:=d j i;exact⟨u,a,e.weak _ _ _ _ _ m b⟩
theorem trX.form{xs:List α}(h:trX X P xs w v):∃ g n c,v=.slice (some ⟨g,0,none⟩) n c:=by
 obtain⟨g,c,a,_⟩:=h;exact⟨g,_,c,a⟩
def QZ{α:Type}(P:α->Value->Prop):List α->List Value->Prop
 | [],[]=>True
 |a::xs,v::vs=>P a v/\QZ P xs vs
 |_,_=>False
theorem QZ.imp{α:Type}{P Q:α->Value->Prop}(h:∀ a v,P a v->Q a v):∀ {xs:List α} {vs:List Value},QZ P xs vs->QZ Q xs vs
 | [],[],_=>trivial
 |a::xs,v::vs,hr=>⟨h _ _ hr.1,QZ.imp h hr.2⟩
 | [],_::_,hr=>hr.elim
 |_::_,[],hr=>hr.elim
theorem QZ.snoc{α:Type}{P:α->Value->Prop}{a:α}{v:Value}(h:P a v):∀ {xs:List α} {vs:List Value},QZ P xs vs->QZ P (xs++[a]) (vs++[v])
 | [],[],_=>⟨h,trivial⟩
 |a'::xs,v'::vs,hr=>⟨hr.1,QZ.snoc h hr.2⟩
 | [],_::_,hr=>hr.elim
 |_::_,[],hr=>hr.elim
theorem QZ.at{α:Type}{P:α->Value->Prop}:∀ {xs:List α} {c:List Value},QZ P xs c->∀ j (b:j<xs.length),∃ u,c[j]?=some u/\P xs[j] u
 | [],[],_,j,b=>absurd b (Nat.not_lt_zero _)
 |a::xs,v::c,h,0,_=>⟨v,rfl,h.1⟩
 |a::xs,v::c,h,j+1,b=>by
  obtain⟨u,d,e⟩:=QZ.at h.2 j (by simpa using b);exact⟨u,by simpa using d,by simpa using e⟩
 | [],_::_,h,_,_=>h.elim
 |_::_,[],h,_,_=>h.elim
def Q5{α:Type}(P:(Nat->Prop)->α->World->Value->Prop)(base:Nat)(w:World)(v:Value)(a:α)(u:Value):Prop:=
 ∃ X,P X a w u/\(∀ k,X k->base<=k/\k<w.heap.size)/\∀ g,v.ownBlock=some g->¬ X g
theorem Q5.mod(j:TreeP P){a:α}(h:Q5 P base w v a u)(f:Mod b w w')(l:b<base):Q5 P base w' v a u:=by
 obtain⟨X,g,c,i⟩:=h;exact⟨X,j.keep _ _ _ _ _ g (f.abvX (fun e=>by have:=(c b e).1;omega)),fun k d=>⟨(c k d).1,Nat.lt_of_lt_of_le (c k d).2 f.size⟩,i⟩
theorem Q5.grown(n:TreeP P){v':Value}{a:α}(h:Q5 P base w v a u)(j:(w.alloc o).grownBy w' v.ownBlock)(hv:v'.ownBlock=v.ownBlock\/v'.ownBlock=some (w.heap.size+1)):Q5 P base w' v' a u:=by
 obtain⟨X,l,c,f⟩:=h
 have m:AbvX X w w':=fun k b p=>by
  rw[j.block k (by simp;omega) (fun e=>f k e.symm b)];exact Below.heap_alloc _ _ _ p
 refine⟨X,n.keep _ _ _ _ _ l m,fun k b=>⟨(c k b).1,?_⟩,fun g d i=>?_⟩
 ·have:=(c k b).2;have:=j.size;simp at this;omega
 ·rcases hv with hv|hv
  ·exact f g (hv ▸ d) i
  ·rw[hv]at d;have:=(c g i).2;simp at d;omega
theorem Q5.new(c:TreeP P){a:α}(h:P (fromB B) a w u)(b:base<=B)(d:∀ g,v.ownBlock=some g->g<B):Q5 P base w v a u:=
 ⟨fun k=>B<=k/\k<w.heap.size,c.weak _ _ _ _ _ h (fun k hk hz=>⟨hk,hz⟩),fun k hk=>⟨Qm b hk.1,hk.2⟩,fun g hg hX=>by have:=d g hg;omega⟩
theorem trX.of_owns(m:TreeP P){e:TypeId}{xs:List α}{d:List Value}(h:w.ownsRow base e 1 v n d)(t:n=xs.length)(A:xs≠[])(y:QZ (fun a u=>Q5 P base w v a u) xs d):trX (fromB base) P xs w v:=by
 subst t;have p:=fun g (b:v.ownBlock=some g)=>h.cells b
 obtain⟨C,i⟩:=h;rcases i with⟨_,l⟩ | ⟨g,f,B,c,b,r⟩
 ·exact absurd (XB l) A
 ·refine⟨g,f,c,b,fun j q=>?_⟩;obtain⟨u,z,X,x,o,_⟩:=y.at j q;have:=p g (by rw[c];rfl) j u z;rw[Jx]at this;exact⟨u,this,m.weak _ _ _ _ _ x (fun k s _=>(o k s).1)⟩
theorem Yx(c:Int)(w:World) :
 Calls prog 110 #[.int .u8 c] w fun e w'=>e=.returned (.bool (QK c))/\w'=w:=by
 go_enter func110,ntmps110;go_wp2
 all_goals (go_ret;exact⟨Zs (by simp[QK, *];try omega),rfl⟩)
theorem YQ(c:Int)(w:World) :
 Calls prog 109 #[.int .u8 c] w fun e w'=>e=.returned (.bool (QP c))/\w'=w:=by
 go_enter func109,ntmps109;go_wp2
 all_goals (go_ret;exact⟨Zs (by unfold QP Yj;rw[Zh];simp;omega),rfl⟩)
theorem Vi(c:Int)(w:World) :
 Calls prog 118 #[.int .u8 c] w fun e w'=>e=.returned (.bool (ZN c))/\w'=w:=by
 go_enter func118,ntmps118;go_wp2
 all_goals (go_ret;exact⟨Zs (by simp only[ZN];rw[Zh];simp[*]),rfl⟩)
theorem R5(w:World)(c:UInt8):(convert 198 9 (.slice (some ⟨w.heap.size,0,none⟩) 1 1)).run prog (w.alloc (.cells #[.int .u8 (c.toNat:Int)] 5))=.ok (.string (sA [c])) (w.alloc (.cells #[.int .u8 (c.toNat:Int)] 5)):=
 run_convert_bytes_back (P:=prog) _ 198 9 5 ⟨w.heap.size,0,none⟩ 1 [c] underlying198 underlying5 underlying9 (fun j hj=>by
  obtain rfl:j=0:=by simp at hj;omega
  rw [Jx];exact Qn (QA _ _) 0)
theorem G1(w:World)(c:UInt8)(n:Int)(h:n=(c.toNat:Int)):(convert 198 9 (.slice (some ⟨w.heap.size,0,none⟩) 1 1)).run prog (w.alloc (.cells #[.int .u8 n] 5))=.ok (.string (sA [c])) (w.alloc (.cells #[.int .u8 n] 5)):=by
 subst h;exact R5 w c
theorem R6{k:Nat}(h:k<x.length):zL (x.take (k+1))=zL (x.take k)++[X8 x[k]]:=by
 rw[List.take_succ_eq_append_getElem h];exact List.map_append
theorem Y6(x:L8)(w:World)(u:x.length<=140737488355328) :
 Calls prog 80 #[.string (sA x)] w fun e w'=>e=.returned (.string (sA (zL x)))/\Below w.heap.size w w':=by
 have v:=Zr x;go_enter func80,ntmps80;go_wp2
 go_loopw [3,4] (fun o i wr=>∃ k:Nat,k<=x.length/\i=.int .i64 k/\o=.string (sA (zL (x.take k)))/\Below w.heap.size w wr) (fun _ i _=>x.length - (intOf i).toNat)
 case atStart=>exact⟨0,by omega,rfl,rfl,Below.refl _ _⟩
 case round=>
  obtain⟨k,r,rfl,rfl,l⟩:=hrel;have a:=I l;clear l;by_cases hlt:k<(sA x).size
  ·have p:k<x.length:=by omega
   have j:=R6 p;have m:x[k]=(sA x)[k]:=by simp[sA,ByteArray.getElem_eq_getElem_data]
   rw[m]at j;have g:=I j;have s:(zL (x.take k)).length<=140737488355328:=by simp[zL];omega
   have z:=Zr (zL (x.take k));have d:=I (G1 wr (X8 (sA x)[k]));have q:=UInt8.toNat_lt (sA x)[k];have A:(sA [X8 (sA x)[k]]).size=1:=rfl;have b:=I (Ul (zL (x.take k)) [X8 (sA x)[k]]);generalize zL (x.take k)=y at *;clear m j;by_cases h65:(65:Int)<=((sA x)[k].toNat:Int)
   ·by_cases h90:((sA x)[k].toNat:Int)<=90
    ·have t:=CW (sA x)[k] (by unfold Yj;simp;omega);go_wp2;rw[d.o _ (by omega)];go_wp2;rw[b.o];go_roundw
     case rel=>exact⟨k+1,by omega,by go_num,by rw[g.o],a.o.alloc (Below.size a.o) _⟩
     case measure=>simp[intOf];omega
    ·have f:=I (AN (sA x)[k] (by unfold Yj;simp;omega));go_wp2;rw[d.o _ (by have e:=congrArg (fun c:UInt8=>(c.toNat:Int)) f.o;exact e.symm)];go_wp2;rw[b.o];go_roundw
     case rel=>exact⟨k+1,by omega,by go_num,by rw[g.o],a.o.alloc (Below.size a.o) _⟩
     case measure=>simp[intOf];omega
   ·have f:=I (AN (sA x)[k] (by unfold Yj;simp;omega));go_wp2;rw[d.o _ (by have e:=congrArg (fun c:UInt8=>(c.toNat:Int)) f.o;exact e.symm)];go_wp2;rw[b.o];go_roundw
    case rel=>exact⟨k+1,by omega,by go_num,by rw[g.o],a.o.alloc (Below.size a.o) _⟩
    case measure=>simp[intOf];omega
  ·have n:k=x.length:=by omega
   subst n;rw[List.take_length];go_wp2;go_ret;exact⟨rfl,a.o⟩
end
section
open Go.RowKit
theorem N7(c d:UInt8):((c.toNat:Int)==(d.toNat:Int))=decide (c=d):=by
 by_cases h:c=d
 ·subst h;simp
 ·rw[Qr h];simp;intro e;exact h (UInt8.toNat_inj.1 (by omega))
theorem R7(s:ByteArray)(p:UInt8->Bool)(k:Nat)(h:k<s.size):(s.data.toList.drop k).all p=(p s[k]&&(s.data.toList.drop (k+1)).all p):=by
 rw[YS s k h,List.all_cons]
theorem R8(s:ByteArray)(p:UInt8->Bool)(k:Nat)(h:s.size<=k):(s.data.toList.drop k).all p=true:=by
 rw[Zi (by simpa using h)];rfl
theorem R9(s:ByteArray)(h:0<s.size):s.data.toList.head?=some s[0]:=by
 have:=YS s 0 h;rw[List.drop_zero]at this;rw[this];rfl
theorem Sa(s:ByteArray)(h:0<s.size):s.data.toList.isEmpty=false:=by
 have:=YS s 0 h;rw[List.drop_zero]at this;rw[this];rfl
end
section
open Go.RowKit
attribute [local go_sem ↓] Go.wp_at_zero Go.wp_at_succ
theorem Sb{k:Nat}(h:k<x.length):capL (x.take (k+1))=capL (x.take k)++[Kv x[k]]:=by
 rw[List.take_succ_eq_append_getElem h];exact List.map_append
theorem MG(x:L8)(w:World)(u:x.length<=140737488355328) :
 Calls prog 81 #[.string (sA x)] w fun e w'=>e=.returned (.string (sA (capL x)))/\Below w.heap.size w w':=by
 have v:=Zr x;go_enter func81,ntmps81;go_wp2
 go_loopw [3,4,5] (fun o i _ wr=>∃ k:Nat,k<=x.length/\i=.int .i64 k/\o=.string (sA (capL (x.take k)))/\Below w.heap.size w wr) (fun _ i _ _=>x.length - (intOf i).toNat)
 case atStart=>exact⟨0,by omega,rfl,rfl,Below.refl _ _⟩
 case round=>
  obtain⟨k,r,rfl,rfl,l⟩:=hrel;have a:=I l;clear l;by_cases hlt:k<(sA x).size
  ·have p:k<x.length:=by omega
   have j:=Sb p;have m:x[k]=(sA x)[k]:=by simp[sA,ByteArray.getElem_eq_getElem_data]
   rw[m]at j;have g:=I j;have s:(capL (x.take k)).length<=140737488355328:=by simp[capL];omega
   have z:=Zr (capL (x.take k));have d:=I (G1 wr (Kv (sA x)[k]));have q:=UInt8.toNat_lt (sA x)[k];have A:(sA [Kv (sA x)[k]]).size=1:=rfl;have b:=I (Ul (capL (x.take k)) [Kv (sA x)[k]]);generalize capL (x.take k)=y at *;clear m j;by_cases h65:(97:Int)<=((sA x)[k].toNat:Int)
   ·by_cases h90:((sA x)[k].toNat:Int)<=122
    ·have t:=My (sA x)[k] (by unfold J9;simp;omega);go_wp2;rw[d.o _ (by omega)];go_wp2;rw[b.o];go_roundw
     case rel=>exact⟨k+1,by omega,by go_num,by rw[g.o],a.o.alloc (Below.size a.o) _⟩
     case measure=>simp[intOf];omega
    ·have f:=I (C9 (sA x)[k] (by unfold J9;simp;omega));go_wp2;rw[d.o _ (by have e:=congrArg (fun c:UInt8=>(c.toNat:Int)) f.o;exact e.symm)];go_wp2;rw[b.o];go_roundw
     case rel=>exact⟨k+1,by omega,by go_num,by rw[g.o],a.o.alloc (Below.size a.o) _⟩
     case measure=>simp[intOf];omega
   ·have f:=I (C9 (sA x)[k] (by unfold J9;simp;omega));go_wp2;rw[d.o _ (by have e:=congrArg (fun c:UInt8=>(c.toNat:Int)) f.o;exact e.symm)];go_wp2;rw[b.o];go_roundw
    case rel=>exact⟨k+1,by omega,by go_num,by rw[g.o],a.o.alloc (Below.size a.o) _⟩
    case measure=>simp[intOf];omega
  ·have n:k=x.length:=by omega
   subst n;rw[List.take_length];go_wp2;go_ret;exact⟨rfl,a.o⟩
theorem CS(M:Msg)(n a:Int)(w:World)(b:a=1\/a=2) :
 Calls prog 75 #[.int .i64 M.size,.int .i64 n,.int .i64 a] w fun e w'=>e=.returned (.bool (UW M a n))/\w'=w:=by
 rcases b with rfl|rfl
 ·go_enter func75,ntmps75;go_wp2;go_ret;exact⟨rfl,rfl⟩
 ·go_enter func75,ntmps75;go_wp2;go_ret;exact⟨rfl,rfl⟩
theorem Sc(s:ByteArray)(h:0<s.size):isBoxL s.data.toList=((s[0] != 46&&(s.data.toList.drop 0).all VW)&&decide (s.size<=16)):=by
 unfold isBoxL;have a:s.data.toList.length=s.size:=by simp
 rw[Sa s h,R9 s h,a,List.drop_zero];cases decide (s.size<=16)<;>simp[bne]
theorem MD(s:ByteArray)(w:World)(D:s.size<=140737488355328) :
 Calls prog 77 #[.string s] w fun e w'=>e=.returned (.bool (isBoxL s.data.toList))/\w'=w:=by
 go_enter func77,ntmps77;go_wp2
 go_loop [3] (fun i=>∃ k:Nat,k<=s.size/\i=.int .i64 k/\(0<k->isBoxL s.data.toList=((s.data.toList.drop k).all VW&&decide (s.size<=16)))) (fun i=>s.size - (intOf i).toNat)
 case atStart=>exact⟨0,by omega,rfl,fun h=>absurd h (Nat.lt_irrefl _)⟩
 case round=>
  obtain⟨k,B,rfl,r⟩:=hrel;have g:=I r;clear r;by_cases hlt:k<s.size;rotate_left
  ·by_cases h0:s.size=0
   ·have y:=AM h0;have x:Hid (isBoxL s.data.toList=false):=by show _=_;rw[<-ByteArray.toList_eq,y];rfl
    have d:k=0:=by omega
    subst d;go_wp2;go_ret;exact⟨Zs x.o.symm,rfl⟩
   have a:=I (R8 s VW k (by omega));have f:=I (g.o (by omega));by_cases h16:s.size<=16
   ·go_wp2;go_ret;exact⟨Zs (by rw[f.o,a.o,Bool.true_and];exact decide_eq_decide.2 (by omega)),rfl⟩
   ·go_wp2;go_ret;exact⟨Zs (by rw[f.o,a.o,Bool.true_and];exact decide_eq_decide.2 (by omega)),rfl⟩
  have a:=I (R7 s VW k hlt);have c:Hid (VW s[k]=(QP (s[k].toNat:Int) || QK (s[k].toNat:Int) || s[k]==45 || s[k]==46)):=rfl;have z:((s[k].toNat:Int) != 45)=!(s[k]==45):=by rw[bne,show((s[k].toNat:Int)==45)=decide (s[k]=45)from N7 s[k] 45];by_cases h:s[k]=45<;>simp[h]
  have A:((s[k].toNat:Int) != 46)=!(s[k]==46):=by rw[bne,show((s[k].toNat:Int)==46)=decide (s[k]=46)from N7 s[k] 46];by_cases h:s[k]=46<;>simp[h]
  by_cases d:k=0
  ·subst d;have j:=I (Sc s hlt);have m:Hid ((s[0] != 46)=!(s[0]==46)):=rfl
   have p:QP (s[0].toNat:Int)=true->(s[0]==46)=false:=fun h=>by
    cases e:s[0]==46 with
    |false=>rfl
    |true=>
     have b:s[0]=46:=by simpa using e
     rw[b]at h;cases h
   have q:QK (s[0].toNat:Int)=true->(s[0]==46)=false:=fun h=>by
    cases e:s[0]==46 with
    |false=>rfl
    |true=>
     have b:s[0]=46:=by simpa using e
     rw[b]at h;cases h
   have n:(s[0]==45)=true->(s[0]==46)=false:=fun h=>by
    have b:s[0]=45:=by simpa using h
    rw[b];rfl
   have u:=I p;have v:=I q;have t:=I n;clear p q n;generalize (s[0]==45)=b45 at *;generalize (s[0]==46)=b46 at *
   cases hc:QP (s[0].toNat:Int)<;>cases hd:QK (s[0].toNat:Int)<;>cases b45<;>cases b46 <;>
   (first
     |(exact absurd (u.o hc) (by decide))
     |(exact absurd (v.o hd) (by decide))
     |(exact absurd (t.o rfl) (by decide))
     | (go_wp2_with (first | (go_at_call 109;refine (YQ _ _).mono ?_;rintro e w' ⟨rfl,rfl⟩) | (go_at_call 110;refine (Yx _ _).mono ?_;rintro e w' ⟨rfl,rfl⟩))
        first
         |(go_ret;exact⟨Zs (by rw[j.o,a.o,c.o,m.o,hc,hd];simp),rfl⟩)
         | (go_round
            case rel=>exact⟨0+1,by omega,by go_num,fun _=>by rw[j.o,a.o,c.o,m.o,hc,hd];simp⟩
            case measure=>simp [intOf];omega)))
  ·have C:¬((k:Nat):Int)=0:=by omega
   have l:=I (g.o (by omega));generalize (s[k]==45)=b45 at *;generalize (s[k]==46)=b46 at *
   cases hc:QP (s[k].toNat:Int)<;>cases hd:QK (s[k].toNat:Int)<;>cases b45<;>cases b46 <;>
   (go_wp2_with (first | (go_at_call 109;refine (YQ _ _).mono ?_;rintro e w' ⟨rfl,rfl⟩) | (go_at_call 110;refine (Yx _ _).mono ?_;rintro e w' ⟨rfl,rfl⟩))
    first
     |(go_ret;exact⟨Zs (by rw[l.o,a.o,c.o,hc,hd];simp),rfl⟩)
     | (go_round
        case rel=>exact⟨k+1,by omega,by go_num,fun _=>by rw[l.o,a.o,c.o,hc,hd];simp⟩
        case measure=>simp [intOf];omega))
def NH(l:L8)(a e d k:Int)(s:L8)(n p:Int):Array Value:=
 #[.string (sA l),.int .i64 a,.int .i64 e,.int .i64 d,.int .u8 k,.string (sA s),.int .i64 n,.int .i64 p]
def QT(w:World)(tb:Nat)(l:L8)(a e d k:Int)(s:L8)(n p:Int):Prop:=
 w.heap[tb]?=some (.cells (NH l a e d k s n p) 138)
theorem QT.lt{a e:Int}{s:L8}{n:Int}(h:QT w tb l a e d k s n p):tb<w.heap.size:=Qh h
theorem QT.below{a e:Int}{s:L8}{n:Int}(h:QT w tb l a e d k s n p)(hb:Below w.heap.size w w'):QT w' tb l a e d k s n p:=Zk h hb
theorem QT.at_{a e:Int}{s:L8}{n:Int}(h:QT w tb l a e d k s n p)(a':Int):QT (w.setCell ⟨tb,1,none⟩ (.int .i64 a')) tb l a' e d k s n p:=Qv _ _ _ _ _ _ h
def Y2(w:World)(tb:Nat)(l:L8)(f:Flt):Prop:=QT w tb l l.length f.err f.pos 0 [] 0 l.length/\f.err≠0
theorem UD(tb:Nat)(l:L8)(a d k:Int)(s:L8)(n p:Int)(f:Flt)(w:World)(h:QT w tb l a 0 d k s n p)(x:l.length<=600)(c:f.err≠0) :
 Calls prog 70 #[.pointer (some ⟨tb,0,none⟩),.int .i64 f.err,.int .i64 f.pos] w fun e w'=>e=.returned (.tuple #[])/\Mod tb w w'/\Y2 w' tb l f:=by
 have b:=fun o=>Qn h o
 have v:=fun o=>Qz h o
 have g:w.cell? ⟨tb,0,none⟩=some (.string (sA l)):=b 0;have i:w.cell? ⟨tb,1,none⟩=some (.int .i64 a):=b 1;have j:w.cell? ⟨tb,2,none⟩=some (.int .i64 0):=b 2;have m:w.cell? ⟨tb,3,none⟩=some (.int .i64 d):=b 3;have q:w.cell? ⟨tb,4,none⟩=some (.int .u8 k):=b 4;have r:w.cell? ⟨tb,5,none⟩=some (.string (sA s)):=b 5;have t:w.cell? ⟨tb,6,none⟩=some (.int .i64 n):=b 6;have u:w.cell? ⟨tb,7,none⟩=some (.int .i64 p):=b 7;have y:=Zr l;have H:=I h;clear b h;go_enter func70,ntmps70;go_wp2;go_end0;exact⟨rfl,((((((((Mod.refl tb w).setCell _ _).setCell _ _).setCell _ _).setCell _ _).setCell _ _).setCell _ _).setCell _ _),Qv _ _ _ _ _ _ (Qv _ _ _ _ _ _ (Qv _ _ _ _ _ _ (Qv _ _ _ _ _ _ (Qv _ _ _ _ _ _ (Qv _ _ _ _ _ _ (Qv _ _ _ _ _ _ H.o)))))),c⟩
theorem PB(tb:Nat)(l:L8)(f:Flt)(x y:Int)(w:World)(h:Y2 w tb l f) :
 Calls prog 70 #[.pointer (some ⟨tb,0,none⟩),.int .i64 x,.int .i64 y] w fun e w'=>e=.returned (.tuple #[])/\w'=w:=by
 have b:=QG h.1;have a:¬(f.err:Int)=0:=by have:=h.2;omega
 have c:((f.err:Int)==0)=false:=by simpa using a
 clear h;go_enter func70,ntmps70;go_wp2;go_end0;exact⟨rfl,rfl⟩
def atW(w:World)(tb:Nat):Nat:=
 match w.heap[tb]? with
 |some (.cells cs _ _)=>(intOf (cs.getD 1 undef)).toNat
 |_=>0
theorem QT.atW{w:World}{tb:Nat}{l:L8}{a:Nat}{e d k:Int}{s:L8}{n p:Int}(h:QT w tb l a e d k s n p):atW w tb=a:=by
 unfold Go.Proofs.YtgnkjijocdmniaaGreatDoor.atW;rw[h];simp[NH,intOf]
theorem Mod.drewN{b:Nat}{u w:World}{n:Nat}(h:Mod b u w):Mod b u (w.drewN n):=⟨h.os,h.tape,h.output,h.size,h.block⟩
theorem KN{w2:World}{e c k1:Int}{m:L8}{j p1 f k2:Int}{n:L8}{p2:Int}(g:QT w1 tb l a e c k1 m j p1)(i:QT w2 tb l b f d k2 n k p2)(o:a<b)(p:b<=l.length):l.length - atW w2 tb<l.length - atW w1 tb:=by
 rw[g.atW,i.atW];omega
theorem Ua{u:World}(h:Mod b (u.drewN n) w):Mod b u w:=⟨h.os,h.tape,h.output,h.size,h.block⟩
def JO(r:Qb Nat)(tb:Nat)(l:L8)(d k:Int)(s:L8)(n p:Int)(w:World)(e:Ending)(w':World):Prop:=
 e=.returned (.tuple #[])/\Mod tb w w'/\
 match r with
 | .ok m=>QT w' tb l m 0 d k s n p/\m<=l.length
 | .error f=>Y2 w' tb l f
theorem JO.ok{r:Qb Nat}{tb:Nat}{l:L8}{d k:Int}{s:L8}{n p:Int}{w w':World}{m:Nat}(h:r=.ok m)(b:Mod tb w w')(c:QT w' tb l m 0 d k s n p)(a:m<=l.length):JO r tb l d k s n p w (.returned (.tuple #[])) w':=by
 subst h;exact⟨rfl,b,c,a⟩
theorem JO.err{r:Qb Nat}{s:L8}{n:Int}{f:Flt}(h:r=.error f)(a:Mod tb w w')(b:Y2 w' tb l f):JO r tb l d k s n p w (.returned (.tuple #[])) w':=by
 subst h;exact⟨rfl,a,b⟩
theorem JO.cases{r:Qb Nat}{tb:Nat}{l:L8}{d k:Int}{s:L8}{n p:Int}{w w':World}{e:Ending}(h:JO r tb l d k s n p w e w'):e=.returned (.tuple #[])/\Mod tb w w'/\((∃ m,r=.ok m/\QT w' tb l m 0 d k s n p/\m<=l.length)\/∃ f,r=.error f/\Y2 w' tb l f):=by
 obtain⟨b,c,a⟩:=h;refine⟨b,c,?_⟩
 cases r with
 |ok m=>exact Qd ⟨m,rfl,a⟩
 |error f=>exact Qc ⟨f,rfl,a⟩
theorem ZQ(h:a<(sA l).size):l.drop a=(sA l)[a]::l.drop (a+1):=by
 have b:a<l.length:=h;rw[List.drop_eq_getElem_cons b];congr 1
theorem Sd(tb:Nat)(l:L8)(a:Nat)(d k:Int)(s:L8)(n p:Int)(w:World)(h:QT w tb l a 0 d k s n p)(hl:l.length<=600)(ha:a<=l.length) :
 Calls prog 108 #[.pointer (some ⟨tb,0,none⟩)] w (JO (skipS (l.drop a) a) tb l d k s n p w):=by
 have H:=I h;have hz:=Zr l;clear h;go_enter func108,ntmps108;go_wp2
 go_loopw [2,3,4] (fun _ _ _ wr=>∃ b:Nat,b<=l.length/\QT wr tb l b 0 d k s n p/\Mod tb w wr/\skipS (l.drop a) a=skipS (l.drop b) b) (fun _ _ _ wr=>l.length - atW wr tb)
 case atStart=>exact⟨a,ha,H.o,Mod.refl _ _,rfl⟩
 case round=>
  obtain⟨b,A,D,Y,Z⟩:=hrel;have j:=I D;have u:=I Y;have v:=I Z;have F:=Qj D;have G:=Qo D;have J:=fun o=>Qz D o
  clear D Y Z H;by_cases hlt:b<(sA l).size;rotate_left
  ·have X:¬(b:Int)<(l.length:Int):=by omega
   go_wp2_with fail;go_quiet (fail);go_wp2;go_end0;exact JO.ok (v.o.trans (by rw[Zi (by omega)];rfl)) u.o.drewN j.o A
  have X:(b:Int)<(l.length:Int):=by omega
  have y:=I (ZQ hlt);have ar:(0:Int)<=(b:Int):=by omega
  go_wp2_with fail;go_quiet (fail);go_wp2_with fail;go_quiet (fail);cases hbl:ZN ((sA l)[b].toNat:Int);rotate_left
  ·have ad:Hid (skipS (l.drop a) a=skipS (l.drop (b+1)) (b+1)):=by
    show _=_
    rw[v.o,y.o,E7 _ _ hbl]
   have g:=I (j.o.at_ ((b:Int)+1));go_wp2_with (go_at_call 118;refine(Vi _ _).mono ?_;rintro e x ⟨rfl,rfl⟩);go_roundw
   case rel=>exact⟨b+1,by omega,g.o,(u.o.drewN).setCell _ _,ad.o⟩
   case measure=>
    exact KN (b:=b+1) j.o g.o (by omega) (by omega)
  by_cases h35:(sA l)[b]=35
  ·have ae:Hid (skipS (l.drop a) a=Ub (l.drop b) b):=by
    show _=_
    rw[v.o,y.o,Se _ _ (by rw[h35];rfl)]
   have aa:=I h35;go_wp2_with (go_at_call 118;refine(Vi _ _).mono ?_;rintro e x ⟨rfl,rfl⟩);clear h35;generalize hW:wr.drewN _=W;have N:Hid (QT W tb l b 0 d k s n p):=by rw[<-hW];exact j.o
   have M:Hid (Mod tb w W):=by rw[<-hW];exact u.o.drewN
   clear hW F G J X
   go_loopw [] (fun r=>∃ c:Nat,b<=c/\c<=l.length/\QT r tb l c 0 d k s n p/\Mod tb w r/\skipS (l.drop a) a=Ub (l.drop c) c) (fun r=>l.length - atW r tb)
   case atStart=>exact⟨b,Nat.le_refl _,A,N.o,M.o,ae.o⟩
   case round=>
    obtain⟨c,V,B,i,C,E⟩:=hrel;have g:=I i;have q:=I C;have t:=I E;have F:=Qj i;have G:=Qo i;have J:=fun o=>Qz i o
    clear i C E;by_cases hlt2:c<(sA l).size
    ·have K:(c:Int)<(l.length:Int):=by omega
     have ag:(0:Int)<=(c:Int):=by omega
     have z:=I (ZQ hlt2);by_cases h10:(sA l)[c]=10
     ·have f:Hid (skipS (l.drop a) a=skipS (l.drop c) c):=by
       show _=_
       rw[t.o,z.o,Ub,if_pos h10]
      have ah:b<c:=by
       rcases Nat.lt_or_eq_of_le V with h|h
       ·exact h
       ·subst h;rw[aa.o]at h10;cases h10
      go_wp2_with fail;go_quiet (fail);go_wp2;go_roundw
      case rel=>exact⟨c,B,g.o,q.o.drewN,f.o⟩
      case measure=>exact KN j.o g.o ah B
     ·have f:Hid (skipS (l.drop a) a=Ub (l.drop (c+1)) (c+1)):=by
       show _=_
       rw[t.o,z.o,Ub,if_neg h10]
      have aw:(((sA l)[c].toNat:Int) != 10)=true:=by
       have h:¬(sA l)[c].toNat=10:=fun h=>h10 (UInt8.toNat_inj.1 h)
       simp;omega
      have m:=I (g.o.at_ ((c:Int)+1));go_wp2_with fail;go_quiet (fail);go_wp2;go_roundw
      case rel=>exact⟨c+1,by omega,by omega,m.o,(q.o.drewN).setCell _ _,f.o⟩
      case measure=>exact KN (b:=c+1) g.o m.o (by omega) (by omega)
    ·have K:¬(c:Int)<(l.length:Int):=by omega
     have ak:decide ((c:Int)<(l.length:Int))=false:=Qr K
     have f:Hid (skipS (l.drop a) a=skipS (l.drop c) c):=by
      show _=_
      rw[t.o,Zi (by omega)];rfl
     have ab:Hid (b<c):=by show b<c;omega
     obtain rfl:c=l.length:=by omega
     clear hlt2 K ak;go_wp2_with fail;go_quiet (fail);go_wp2;go_roundw
     case rel=>exact⟨l.length,B,g.o,q.o.drewN,f.o⟩
     case measure=>exact KN j.o g.o ab.o B
  by_cases h47:(sA l)[b]=47;rotate_left
  ·have f:Hid (skipS (l.drop a) a=.ok b):=by
    show _=_
    rw[v.o,y.o];exact BX _ _ hbl h35 (fun h=>h47 h.1)
   have T:(((sA l)[b].toNat:Int)==35)=false:=by
    have h:¬(sA l)[b].toNat=35:=fun h=>h35 (UInt8.toNat_inj.1 h)
    simp;omega
   have aq:(((sA l)[b].toNat:Int)==47)=false:=by
    have h:¬(sA l)[b].toNat=47:=fun h=>h47 (UInt8.toNat_inj.1 h)
    simp;omega
   clear h35 h47;go_wp2_with (first|(go_at_call 118;refine(Vi _ _).mono ?_;rintro e x ⟨rfl,rfl⟩)|fail);go_quiet (fail);go_wp2;go_end0;exact JO.ok f.o u.o.drewN.drewN j.o A
  have T:(((sA l)[b].toNat:Int)==35)=false:=by rw[h47];rfl
  have ao:=I h47;have ap:=I hbl;by_cases hend:b+1=l.length
  ·have f:Hid (skipS (l.drop a) a=.ok b):=by
    show _=_
    rw[v.o,y.o];refine BX _ _ hbl h35 (fun h=>?_);rw[Zi (by omega)]at h;cases h.2
   have ay:(b:Int)+1=(l.length:Int):=by omega
   clear h35 hend;go_wp2_with (first|(go_at_call 118;refine(Vi _ _).mono ?_;rintro e x ⟨rfl,rfl⟩)|fail);go_quiet (fail);go_wp2;go_end0;exact JO.ok f.o u.o.drewN.drewN j.o A
  have ai:b+1<(sA l).size:=by omega
  have az:(b:Int)+1<(l.length:Int):=by omega
  have au:(0:Int)<=(b:Int)+1:=by omega
  have R:=I (ZQ ai);by_cases h42:(sA l)[b+1]=42;rotate_left
  ·have f:Hid (skipS (l.drop a) a=.ok b):=by
    show _=_
    rw[v.o,y.o];refine BX _ _ hbl h35 (fun h=>?_);rw[R.o]at h;exact h42 (Option.some.inj h.2)
   have U:(((sA l)[b+1].toNat:Int)==42)=false:=by
    have h:¬(sA l)[b+1].toNat=42:=fun h=>h42 (UInt8.toNat_inj.1 h)
    simp;omega
   clear h35 h42;go_wp2_with (first|(go_at_call 118;refine(Vi _ _).mono ?_;rintro e x ⟨rfl,rfl⟩)|fail);go_quiet (fail);go_wp2;go_end0;exact JO.ok f.o u.o.drewN.drewN j.o A
  have af:Hid (skipS (l.drop a) a=J6 b (l.drop (b+1+1)) (b+2)):=by
   show _=_
   rw[v.o,y.o,R.o,h47,h42,Sf]
  have U:(((sA l)[b+1].toNat:Int)==42)=true:=by rw[h42];rfl
  clear h35 h42;go_wp2_with (first|(go_at_call 118;refine(Vi _ _).mono ?_;rintro e x ⟨rfl,rfl⟩)|fail);go_quiet (fail);go_wp2;have ac:=I (j.o.at_ ((b:Int)+2));generalize hW:(wr.drewN _).setCell _ _=W;have N:Hid (QT W tb l (b+2:Nat) 0 d k s n p):=by rw[<-hW];exact ac.o
  have M:Hid (Mod tb w W):=by rw[<-hW];exact(u.o.drewN).setCell _ _
  clear hW F G J T U
  go_loopw [] (fun r=>∃ c:Nat,b+2<=c/\c<=l.length/\QT r tb l c 0 d k s n p/\Mod tb w r/\skipS (l.drop a) a=J6 b (l.drop c) c) (fun r=>l.length - atW r tb)
  case atStart=>exact⟨b+2,Nat.le_refl _,by omega,N.o,M.o,af.o⟩
  case round=>
   obtain⟨c,V,B,i,C,E⟩:=hrel;have g:=I i;have q:=I C;have t:=I E;have F:=Qj i;have G:=Qo i;have c2:=QG i;have J:=fun o=>Qz i o
   clear i C E;by_cases hlt2:c+1<(sA l).size
   ·have K:(c:Int)+1<(l.length:Int):=by omega
    have aj:c<(sA l).size:=by omega
    have aA:(c:Int)<(l.length:Int):=by omega
    have ag:(0:Int)<=(c:Int):=by omega
    have av:(0:Int)<=(c:Int)+1:=by omega
    have z:=I (ZQ aj);have L:=I (ZQ hlt2);by_cases h42:(sA l)[c]=42;rotate_left
    ·have f:Hid (skipS (l.drop a) a=J6 b (l.drop (c+1)) (c+1)):=by
      show _=_
      rw[t.o,z.o,L.o,J6,if_neg (fun h=>h42 h.1)]
     have g1:(((sA l)[c].toNat:Int) != 42)=true:=by
      have h:¬(sA l)[c].toNat=42:=fun h=>h42 (UInt8.toNat_inj.1 h)
      simp;omega
     have m:=I (g.o.at_ ((c:Int)+1));clear h42;go_wp2_with fail;go_quiet (fail);go_wp2;go_roundw
     case rel=>exact⟨c+1,by omega,by omega,m.o,(q.o.drewN).setCell _ _,f.o⟩
     case measure=>exact KN (b:=c+1) g.o m.o (by omega) (by omega)
    have g1:(((sA l)[c].toNat:Int) != 42)=false:=by rw[h42];rfl
    by_cases h47':(sA l)[c+1]=47;rotate_left
    ·have f:Hid (skipS (l.drop a) a=J6 b (l.drop (c+1)) (c+1)):=by
      show _=_
      rw[t.o,z.o,L.o,J6,if_neg (fun h=>h47' h.2)]
     have g2:(((sA l)[c+1].toNat:Int) != 47)=true:=by
      have h:¬(sA l)[c+1].toNat=47:=fun h=>h47' (UInt8.toNat_inj.1 h)
      simp;omega
     have m:=I (g.o.at_ ((c:Int)+1));clear h42 h47';go_wp2_with fail;go_quiet (fail);go_wp2;go_roundw
     case rel=>exact⟨c+1,by omega,by omega,m.o,(q.o.drewN).setCell _ _,f.o⟩
     case measure=>exact KN (b:=c+1) g.o m.o (by omega) (by omega)
    have g2:(((sA l)[c+1].toNat:Int) != 47)=false:=by rw[h47'];rfl
    have f:Hid (skipS (l.drop a) a=skipS (l.drop (c+1+1)) (c+1+1)):=by
     show _=_
     rw[t.o,z.o,L.o,J6,if_pos ⟨h42,h47'⟩]
    have m:=I (g.o.at_ ((c:Int)+2));have g3:decide ((l.length:Int)<=(c:Int)+1)=false:=Qr (by omega);clear h42 h47';go_wp2_with fail;go_quiet (fail);go_wp2_with fail;go_quiet (fail);go_wp2;go_roundw
    case rel=>exact⟨c+1+1,by omega,m.o,(q.o.drewN).setCell _ _,f.o⟩
    case measure=>exact KN (b:=c+1+1) j.o m.o (by omega) (by omega)
   ·have f:Hid (skipS (l.drop a) a=.error ⟨2,b⟩):=by
     show _=_
     rw[t.o];rcases Nat.lt_or_ge c l.length with h|h
     ·rw[ZQ (a:=c) (by omega),Zi (by omega)];rfl
     ·rw[Zi (by omega)];rfl
    have S:=I (fun n'=>UD tb l c d k s n p ⟨2,b⟩ (wr.drewN n') g.o hl (Nat.succ_ne_zero 1));rcases Nat.lt_or_ge c l.length with hbl2|hbl2
    ·have he:(c:Int)+1=(l.length:Int):=by omega
     clear hlt2 hbl2;go_wp2_with fail;go_quiet (fail);go_wp2_with fail;go_quiet (fail);go_wp2_with (go_at_call 70;refine(S.o _).mono ?_;rintro e x ⟨rfl,Q,P⟩);go_end0;exact JO.err f.o (q.o.trans (Ua Q)) P
    ·obtain rfl:c=l.length:=by omega
     have he:decide ((l.length:Int)+1<(l.length:Int))=false:=Qr (by omega);have ax:decide ((l.length:Int)<=(l.length:Int)+1)=true:=QO (by omega);clear hlt2 hbl2;go_wp2_with fail;go_quiet (fail);go_wp2_with fail;go_quiet (fail);go_wp2_with (go_at_call 70;refine(S.o _).mono ?_;rintro e x ⟨rfl,Q,P⟩);go_end0;exact JO.err f.o (q.o.trans (Ua Q)) P
theorem En(h:b<(sA l).size)(a:Q1 (sA l)[b]=true):b+Zd (l.drop b)=(b+1)+Zd (l.drop (b+1)):=by
 rw[ZQ h];unfold Zd;rw[List.takeWhile_cons_of_pos a,QD];omega
theorem Ep(h:b<(sA l).size)(a:Q1 (sA l)[b]=false):Zd (l.drop b)=0:=by
 rw[ZQ h];unfold Zd;rw[List.takeWhile_cons_of_neg (by rw[a];decide)];rfl
theorem Er(h:l.length<=b):Zd (l.drop b)=0:=by
 rw[Zi h];rfl
theorem Kg(x:L8)(a b:Nat):(sA x).extract a b=sA ((x.drop a).take (b - a)):=by
 apply ByteArray.ext;apply Array.ext';simp[sA]
def BY(tb:Nat)(l:L8)(a:Nat)(d k:Int)(s:L8)(n p:Int)(w:World)(e:Ending)(w':World):Prop:=
 e=.returned (.string (sA (zL ((l.drop a).take (Zd (l.drop a))))))/\Mod tb w w'/\QT w' tb l (a+Zd (l.drop a):Nat) 0 d k s n p/\a+Zd (l.drop a)<=l.length
theorem E8{s:L8}{n:Int}(j:a+Zd (l.drop a)=b+Zd (l.drop b))(m:Zd (l.drop b)=0)(o:a<=b)(f:b<=l.length)(g:Mod tb w w')(i:QT w' tb l b 0 d k s n p):BY tb l a d k s n p w (.returned (.string (sA (zL ((l.drop a).take (b - a)))))) w':=by
 have e:b=a+Zd (l.drop a):=by omega
 have c:b - a=Zd (l.drop a):=by omega
 unfold BY;rw[c];rw[<-e];exact⟨rfl,g,i,f⟩
theorem E9(tb:Nat)(l:L8)(a:Nat)(d k:Int)(s:L8)(n p:Int)(w:World)(h:QT w tb l a 0 d k s n p)(X:l.length<=600)(Q:a<=l.length) :
 Calls prog 111 #[.pointer (some ⟨tb,0,none⟩)] w (BY tb l a d k s n p w):=by
 have H:=I h;have Z:=Zr l;have c:=Qo h;clear h;go_enter func111,ntmps111;go_wp2
 go_loopw [4,5] (fun _ _ wr=>∃ b:Nat,a<=b/\b<=l.length/\QT wr tb l b 0 d k s n p/\Mod tb w wr/\a+Zd (l.drop a)=b+Zd (l.drop b)) (fun _ _ wr=>l.length - atW wr tb)
 case atStart=>exact⟨a,Nat.le_refl _,Q,H.o,Mod.refl _ _,rfl⟩
 case round=>
  obtain⟨b,J,K,q,L,M⟩:=hrel;have z:=I q;have D:=I L;have B:=I M;clear c;have g:=Qj q;have c:=Qo q;have C:=fun o=>Qz q o
  clear q L M H;have W:=Kg l a b;have U:(a:Int)<=(b:Int):=by omega
  have V:(b:Int)<=(l.length:Int):=by omega
  have S:(0:Int)<=(a:Int):=by omega
  have T:(0:Int)<=(b:Int):=by omega
  by_cases hlt:b<(sA l).size;rotate_left
  ·obtain rfl:b=l.length:=by omega
   have m:=I (Er (l:=l) (b:=l.length) Qt);have v:Hid (((l.drop a).take (l.length - a)).length<=140737488355328):=by show _<=_;simp;omega
   go_wp2_with fail;go_quiet (fail);go_wp2_with fail;generalize hW:wr.drewN _=W1;have f:QT W1 tb l l.length 0 d k s n p:=by rw[<-hW];exact z.o
   have x:Hid (Mod tb w W1):=by rw[<-hW];exact D.o.drewN
   clear hW g c C;have g:=Qj f;have c:=Qo f;have A:=I f;clear f;go_region_held3 (fun t=>t.cell? ⟨tb,0,none⟩=some (.string (sA l))/\t.cell? ⟨tb,1,none⟩=some (.int .i64 l.length)) (first|go_keep|exact⟨Qn i.o 0,Qn i.o 1⟩) (first|(go_at_call 80;refine(Y6 ((l.drop a).take (l.length - a)) W1.drew v.o).mono ?_;rintro e R ⟨rfl,j⟩;have i:=I (QT.below (w:=W1.drew) A.o j);have y:=I (x.o.drew.trans (Mod.of_below j));clear j;skip))
   all_goals go_wp2
   all_goals go_ret
   all_goals exact E8 B.o m.o J K y.o i.o
  have Y:(b:Int)<(l.length:Int):=by omega
  go_wp2_with fail;go_quiet (fail);go_wp2_with fail;generalize hW:wr.drewN _=W1;have f:QT W1 tb l b 0 d k s n p:=by rw[<-hW];exact z.o
  have x:Hid (Mod tb w W1):=by rw[<-hW];exact D.o.drewN
  clear hW g c C;have g:=Qj f;have c:=Qo f;have A:=I f;clear f;go_quiet (first|(go_at_call 109;refine Calls.quiet_of_same (YQ _ _)));go_wp2_with fail;generalize hW:W1.drewN _=W2;have u:QT W2 tb l b 0 d k s n p:=by rw[<-hW];exact A.o
  have N:Hid (Mod tb w W2):=by rw[<-hW];exact x.o.drewN
  clear hW g c;have g:=Qj u;have c:=Qo u;have P:=I u;clear u;go_quiet (first|(go_at_call 110;refine Calls.quiet_of_same (Yx _ _)));generalize hW:W2.drewN _=W3;have r:QT W3 tb l b 0 d k s n p:=by rw[<-hW];exact P.o
  have E:Hid (Mod tb w W3):=by rw[<-hW];exact N.o.drewN
  clear hW g c;have g:=Qj r;have c:=Qo r;have C:=fun o=>Qz r o
  have F:=I r;clear r;cases hc:QP ((sA l)[b].toNat:Int)<;>cases hd:QK ((sA l)[b].toNat:Int)
  case false.false=>
   have m:=I (Ep hlt (by unfold Q1;rw[hc,hd];rfl));have v:Hid (((l.drop a).take (b - a)).length<=140737488355328):=by show _<=_;simp;omega
   go_wp2_with fail;go_region_held3 (fun t=>t.cell? ⟨tb,0,none⟩=some (.string (sA l))/\t.cell? ⟨tb,1,none⟩=some (.int .i64 b)) (first|go_keep|exact⟨Qn i.o 0,Qn i.o 1⟩) (first|(go_at_call 80;refine(Y6 ((l.drop a).take (b - a)) W3.drew v.o).mono ?_;rintro e R ⟨rfl,j⟩;have i:=I (QT.below (w:=W3.drew) F.o j);have y:=I (E.o.drew.trans (Mod.of_below j));clear j;skip))
   all_goals go_wp2
   all_goals go_ret
   all_goals exact E8 B.o m.o J K y.o i.o
  all_goals
   have m:=I (En hlt (by unfold Q1;rw[hc,hd];rfl));have G:=I (F.o.at_ ((b:Int)+1));go_wp2;go_roundw
   case rel=>exact⟨b+1,by omega,by omega,G.o,E.o.setCell _ _,B.o.trans m.o⟩
   case measure=>exact KN (b:=b+1) z.o G.o (by omega) (by omega)
def Uc(acc:L8)(m:Nat)(r:Option (L8×Nat)):Option (L8×Nat):=r.map fun x=>(acc++x.1,x.2+m)
theorem Sg(h:l.length<=b):qL (l.drop b)=none:=by rw[Zi h];rfl
theorem Sh(h:b<(sA l).size)(a:(sA l)[b]=34):qL (l.drop b)=some ([],1):=by
 rw[ZQ h,a,qL.eq_def];rfl
theorem Si(h:b<(sA l).size)(a:(sA l)[b]=92)(he:b+1=l.length):qL (l.drop b)=none:=by
 rw[ZQ h,a,Zi (by omega),qL.eq_def];rfl
theorem Sj{acc:L8}(h:b<(sA l).size)(c:(sA l)[b]=92)(a:b+1<(sA l).size):Uc acc m (qL (l.drop b))=Uc (acc++[(sA l)[b+1]]) (m+2) (qL (l.drop (b+1+1))):=by
 rw[ZQ h,c,ZQ a]
 have e:qL (92::(sA l)[b+1]::l.drop (b+1+1))=(qL (l.drop (b+1+1))).map fun x=>((sA l)[b+1]::x.1,x.2+2):=by
  rw[qL.eq_def];rfl
 rw[e];unfold Uc
 cases qL (l.drop (b+1+1))with
 |none=>rfl
 |some x=>simp;omega
theorem Sk{acc:L8}(h:b<(sA l).size)(a:¬(sA l)[b]=34)(c:¬(sA l)[b]=92):Uc acc m (qL (l.drop b))=Uc (acc++[(sA l)[b]]) (m+1) (qL (l.drop (b+1))):=by
 rw[ZQ h]
 have e:qL ((sA l)[b]::l.drop (b+1))=(qL (l.drop (b+1))).map fun x=>((sA l)[b]::x.1,x.2+1):=by
  rw[qL.eq_def];dsimp only;have d:¬(sA l)[b].toNat=34:=fun e=>a (UInt8.toNat_inj.1 e)
  have f:¬(sA l)[b].toNat=92:=fun e=>c (UInt8.toNat_inj.1 e)
  rw[if_neg d,if_neg f]
 rw[e];unfold Uc
 cases qL (l.drop (b+1))with
 |none=>rfl
 |some x=>simp;omega
theorem BZ(h:b<(sA l).size):(sA l).extract b (b+1)=sA [(sA l)[b]]:=by
 rw[Kg,ZQ h,show b+1 - b=1 by omega];rfl
def UI(r:Option (L8×Nat))(tb:Nat)(l:L8)(a:Nat)(d:Int)(w:World)(e:Ending)(w':World):Prop:=
 e=.returned (.tuple #[])/\Mod tb w w'/\
 match r with
 |some x=>QT w' tb l (a+(1+x.2):Nat) 0 d 34 x.1 0 a
 |none=>Y2 w' tb l ⟨2,a⟩
theorem UI.ok{x:L8×Nat}(h:r=some x)(b:Mod tb w w')(c:QT w' tb l (a+(1+x.2):Nat) 0 d 34 x.1 0 a):UI r tb l a d w (.returned (.tuple #[])) w':=by
 subst h;exact⟨rfl,b,c⟩
theorem UI.bad(h:r=none)(b:Mod tb w w')(c:Y2 w' tb l ⟨2,a⟩):UI r tb l a d w (.returned (.tuple #[])) w':=by
 subst h;exact⟨rfl,b,c⟩
theorem Sl(tb:Nat)(l:L8)(a:Nat)(d k:Int)(s:L8)(n p:Int)(w:World)(h:QT w tb l a 0 d k s n p)(R:l.length<=600)(ha:a<l.length) :
 Calls prog 113 #[.pointer (some ⟨tb,0,none⟩)] w (UI (qL (l.drop (a+1))) tb l a d w):=by
 have H:=I h;have hz:=Zr l;have q:=Qo h;have y:=fun o=>Qz h o
 clear h;go_enter func113,ntmps113;go_wp2
 go_loopw [3] (fun v wr=>∃(b m:Nat) (acc:L8),a+1<=b/\b<=l.length/\m=b - (a+1)/\acc.length<=b/\v=.string (sA acc)/\QT wr tb l b 0 d k s n p/\Mod tb w wr/\qL (l.drop (a+1))=Uc acc m (qL (l.drop b))) (fun _ wr=>l.length - atW wr tb)
 case atStart=>exact⟨a+1,0,[],Nat.le_refl _,ha,by omega,by simp,rfl,H.o.at_ _,(Mod.refl _ _).setCell _ _,by cases qL (l.drop (a+1))<;>rfl⟩
 case round=>
  obtain⟨b,m,acc,ae,hb,U,af,rfl,i,T,V⟩:=hrel;have j:=I i;have r:=I T;have u:=I V;clear q y;have A:=Qj i;have q:=Qo i;have M:=QJ i;have N:=QM i;have P:=Zg i;have Q:=YT i;have y:=fun o=>Qz i o
  clear i T V H;have ap:=Zr acc;have F:=I U;clear U;by_cases hlt:b<(sA l).size;rotate_left
  ·obtain rfl:b=l.length:=by omega
   have D:=I (fun K=>UD tb l l.length d k s n p ⟨2,a⟩ (wr.drewN K) j.o R (Nat.succ_ne_zero 1));have g:Hid (qL (l.drop (a+1))=none):=by show _=_;rw[u.o,Sg Qt];rfl
   go_wp2_with fail;go_quiet (fail);go_wp2_with fail;go_quiet (fail);go_wp2_with (go_at_call 70;refine(D.o _).mono ?_;rintro e w' ⟨rfl,J,G⟩);go_end0;exact UI.bad g.o (r.o.trans (Ua J)) G
  have ai:(b:Int)<(l.length:Int):=by omega
  have ad:(0:Int)<=(b:Int):=by omega
  by_cases h34:(sA l)[b]=34
  ·have g:Hid (qL (l.drop (a+1))=some (acc,1+m)):=by show _=_;rw[u.o,Sh hlt h34];simp[Uc]
   have Y:(((sA l)[b].toNat:Int) != 34)=false:=by rw[h34];rfl
   have ab:decide ((l.length:Int)<=(b:Int))=false:=Qr (by omega);clear h34;go_wp2_with fail;go_quiet (fail);go_wp2_with fail;go_quiet (fail);have he:((a+(1+(1+m)):Nat):Int)=(b:Int)+1:=by have:=F.o;omega
   have W:=I he;clear he;go_wp2;go_end0;refine UI.ok g.o ((((((r.o.drewN).setCell _ _).setCell _ _).setCell _ _).setCell _ _).setCell _ _) ?_;show QT _ tb l ((a+(1+(1+m)):Nat):Int) 0 d 34 acc 0 a
   rw[W.o];exact Qv _ _ _ _ _ _ (Qv _ _ _ _ _ _ (Qv _ _ _ _ _ _ (Qv _ _ _ _ _ _ (Qv _ _ _ _ _ _ j.o))))
  have Y:(((sA l)[b].toNat:Int) != 34)=true:=by
   have h:¬(sA l)[b].toNat=34:=fun h=>h34 (UInt8.toNat_inj.1 h)
   simp;omega
  have ag:acc.length<=600:=by omega
  by_cases h92:(sA l)[b]=92;rotate_left
  ·have Z:(((sA l)[b].toNat:Int)==92)=false:=by
    have h:¬(sA l)[b].toNat=92:=fun h=>h92 (UInt8.toNat_inj.1 h)
    simp;omega
   have g:=I (u.o.trans (Sk (acc:=acc) (m:=m) hlt h34 h92));have B:=BZ hlt;have aa:(sA [(sA l)[b]]).size=1:=rfl;have C:=I (Ul acc [(sA l)[b]]);have x:(b:Int)<=(b:Int)+1:=by omega
   have ah:(b:Int)+1<=(l.length:Int):=by omega
   have t:=I (j.o.at_ ((b:Int)+1));clear h34 h92;go_wp2_with fail;go_quiet (fail);go_wp2_with fail;go_quiet (fail);go_wp2_with fail;go_quiet (fail);go_wp2;rw[C.o];go_roundw
   case rel=>exact⟨b+1,m+1,acc++[(sA l)[b]],by omega,by omega,by have:=F.o;omega,by simp;omega,rfl,t.o,(r.o.drewN).setCell _ _,g.o⟩
   case measure=>exact KN (b:=b+1) j.o t.o (by omega) (by omega)
  have Z:(((sA l)[b].toNat:Int)==92)=true:=by rw[h92];rfl
  have t:=I (j.o.at_ ((b:Int)+1));by_cases hend:b+1=l.length
  ·have g:Hid (qL (l.drop (a+1))=none):=by show _=_;rw[u.o,Si hlt h92 hend];rfl
   have he:(b:Int)+1=(l.length:Int):=by omega
   clear h34 h92;go_wp2_with fail;go_quiet (fail);go_wp2_with fail;go_quiet (fail);go_wp2_with fail;generalize hW:(wr.drewN _).setCell _ _=W1;have f:QT W1 tb l l.length 0 d k s n p:=by rw[<-hW,<-he];exact t.o
   have E:Hid (Mod tb w W1):=by rw[<-hW];exact(r.o.drewN).setCell _ _
   clear hW A q M N P Q y;have A:=Qj f;have q:=Qo f;have D:=I (fun K=>UD tb l l.length d k s n p ⟨2,a⟩ (W1.drewN K) f R (Nat.succ_ne_zero 1));clear f;go_quiet (fail);go_wp2_with fail;go_quiet (fail);go_wp2_with (go_at_call 70;refine(D.o _).mono ?_;rintro e w' ⟨rfl,J,G⟩);go_end0;exact UI.bad g.o (E.o.trans (Ua J)) G
  ·obtain⟨c,x⟩:=QE (b+1);have S:c<(sA l).size:=by omega
   have g:Hid (qL (l.drop (a+1))=Uc (acc++[(sA l)[c]]) (m+2) (qL (l.drop (c+1)))):=by
    show _=_
    subst x;exact u.o.trans (Sj (acc:=acc) (m:=m) hlt h92 S)
   have B:=BZ S;have aa:(sA [(sA l)[c]]).size=1:=rfl;have C:=I (Ul acc [(sA l)[c]]);have X:=I B;have z:=I x;clear h34 h92 B;go_wp2_with fail;go_quiet (fail);go_wp2_with fail;go_quiet (fail);go_wp2_with fail;generalize hW:(wr.drewN _).setCell _ _=W1;have f:QT W1 tb l c 0 d k s n p:=by rw[<-hW,x];exact t.o
   have E:Hid (Mod tb w W1):=by rw[<-hW];exact(r.o.drewN).setCell _ _
   clear hW A q M N P Q y;have aj:(c:Int)<(l.length:Int):=by omega
   have ak:(c:Int)<=(c:Int)+1:=by omega
   have ao:(c:Int)+1<=(l.length:Int):=by omega
   have h0:(0:Int)<=(c:Int):=by omega
   have B:=X.o;have ac:((c:Int)==(l.length:Int))=false:=by simp;omega
   have A:=Qj f;have q:=Qo f;have y:=fun o=>Qz f o
   have L:=I (f.at_ ((c:Int)+1));clear f x hend;go_quiet (fail);go_wp2_with fail;go_quiet (fail);go_wp2;rw[C.o];go_roundw
   case rel=>exact⟨c+1,m+2,acc++[(sA l)[c]],by have:=z.o;omega,by omega,by have:=F.o;have:=z.o;omega,by have:=z.o;simp;omega,rfl,L.o,(E.o.drewN).setCell _ _,g.o⟩
   case measure=>exact KN (b:=c+1) j.o L.o (by have:=z.o;omega) (by omega)
def adr(n:Nat):L8->Nat->Int->Bool
 | [],_,at_=>decide (0<at_)&&(decide (at_<(n:Int) - 1)&&decide (n<=32))
 |c::r,i,at_=>if ZN c.toNat || (c==64&&decide (0<=at_))then false else adr n r (i+1) (if c==64 then(i:Int)else at_)
theorem Fa(n:Nat):∀(r:L8) (i:Nat) (a:Int),0<=a->adr n r i a=(r.all (fun c=>!ZN c.toNat)&&decide (r.count 64=0)&&(decide (0<a)&&(decide (a<(n:Int) - 1)&&decide (n<=32))))
 | [],i,a,h=>by simp[adr]
 |c::r,i,a,h=>by
  rw[adr,QO h]
  cases hb:ZN c.toNat with
  |true=>simp[hb]
  |false=>
   by_cases hc:c=64
   ·subst hc;simp[hb]
   ·have b:(c==64)=false:=by simpa using hc
    rw[b];have d:=Fa n r (i+1) a h;simp[hb,d,List.count_cons,hc]
theorem Fb(n:Nat):∀(r:L8) (i:Nat),adr n r i (-1)=(r.all (fun c=>!ZN c.toNat)&&decide (r.count 64=1)&&(decide (0<i+r.idxOf 64)&&(decide (((i+r.idxOf 64:Nat):Int)<(n:Int) - 1)&&decide (n<=32))))
 | [],i=>by simp[adr]
 |c::r,i=>by
  rw[adr,Qr (by omega)]
  cases hb:ZN c.toNat with
  |true=>simp[hb]
  |false=>
   by_cases hc:c=64
   ·subst hc;have a:=Fa n r (i+1) i (by omega);have d:ZN (64:Int)=false:=rfl;simp[hb,a,d]
   ·have b:(c==64)=false:=by simpa using hc
    rw[b];have a:=Fb n r (i+1);have e:i+1+r.idxOf 64=i+(c::r).idxOf 64:=by rw[List.idxOf_cons,b];simp;omega
    simp only[Bool.false_and,Bool.or_false,Bool.false_eq_true,if_false,a,e];simp[hb,List.count_cons,hc]
theorem Sm(x:L8):adr x.length x 0 (-1)=isAddrL x:=by
 rw[Fb];unfold isAddrL;rw[Zh];simp only[Bool.and_eq_true,decide_eq_true_eq,Nat.zero_add,bne_iff_ne,ne_eq];constructor
 ·rintro⟨⟨j,b⟩,i,g,d⟩
  have q:x.head?≠some 64:=by
   intro e
   match x,e with
   |c::r,e=>
    have:c=64:=by simpa using e
    subst this;simp at i
  have s:x.getLast?≠some 64:=by
   intro e
   obtain⟨y,rfl⟩:∃ y,x=y++[64]:=by
    have k:x≠[]:=by intro l;rw[l]at e;cases e
    have m:=List.getLast?_eq_some_getLast k;rw[m]at e;exact⟨x.dropLast,by rw[<-Option.some.inj e];exact(List.dropLast_concat_getLast k).symm⟩
   have t:64 ∉ y:=by
    intro f;have:=List.count_pos_iff.2 f;rw[List.count_append]at b;simp at b;omega
   rw[List.idxOf_append,if_neg t]at g;simp at g
  exact⟨by omega,d,b,j,q,s⟩
 ·rintro⟨j,b,i,g,d,n⟩;have f:64∈x:=List.count_pos_iff.1 (by omega);have hi:=List.idxOf_lt_length_of_mem f;refine⟨⟨g,i⟩,?_,?_,b⟩
  ·apply Nat.pos_of_ne_zero;intro a
   match x,a,d,f with
   |c::r,a,d,f=>
    rw[List.idxOf_cons]at a;by_cases hc:c=64
    ·subst hc;exact d rfl
    ·have o:(c==64)=false:=by simpa using hc
     rw[o]at a;simp at a
  ·have u:x.idxOf 64≠x.length - 1:=by
    intro e;have p:x[x.idxOf 64]'hi=64:=List.getElem_idxOf hi;apply n;rw[List.getLast?_eq_getElem?,List.getElem?_eq_getElem (by omega)];congr 1;rw[<-p];congr 1;omega
   omega
theorem ME(x:L8)(w:World)(u:x.length<=140737488355328) :
 Calls prog 78 #[.string (sA x)] w fun e w'=>e=.returned (.bool (isAddrL x))/\w'=w:=by
 have v:=Zr x;rw[<-Sm];go_enter func78,ntmps78;go_wp2
 go_loopw [3,4,5] (fun n g _ wr=>∃(k:Nat) (a:Int),k<=x.length/\g=.int .i64 k/\n=.int .i64 a/\-1<=a/\a<=k/\adr x.length x 0 (-1)=adr x.length (x.drop k) k a/\wr=w) (fun _ g _ _=>x.length - (intOf g).toNat)
 case atStart=>exact⟨0,-1,by omega,rfl,rfl,by omega,by omega,rfl,rfl⟩
 case round=>
  obtain⟨k,a,t,rfl,rfl,r,s,l,rfl⟩:=hrel;have f:=I l;clear l;by_cases hlt:k<(sA x).size
  ·have m:=ZQ hlt;obtain⟨c,p⟩:=Qf ((sA x)[k]);rw[p]at m;rw[m]at f;have d:=I (Vi (c.toNat:Int) wr);have j:((c.toNat:Int)==64)=(c==64):=by rw[show((c.toNat:Int)==64)=decide (c=64)from N7 c 64];by_cases h:c=64<;>simp[h]
   cases hb:ZN (c.toNat:Int)with
   |true=>
    have b:Hid (adr x.length x 0 (-1)=false):=by show _=_;rw[f.o,adr,show ZN c.toNat=true from hb];rfl
    rw[hb]at d;go_wp2_with fail;refine d.o.mono ?_;rintro e i ⟨rfl,rfl⟩;go_wp2;go_ret;exact⟨Zs b.o.symm,rfl⟩
   |false=>
    rw[hb]at d
    cases h64:(c==64)with
    |true=>
     rw[h64]at j;by_cases ha:0<=a
     ·have b:Hid (adr x.length x 0 (-1)=false):=by show _=_;rw[f.o,adr,show ZN c.toNat=false from hb,h64,QO ha];rfl
      go_wp2_with fail;refine d.o.mono ?_;rintro e i ⟨rfl,rfl⟩;go_wp2;go_ret;exact⟨Zs b.o.symm,rfl⟩
     ·have b:Hid (adr x.length x 0 (-1)=adr x.length (x.drop (k+1)) (k+1) k):=by show _=_;rw[f.o,adr,show ZN c.toNat=false from hb,h64,Qr ha];rfl
      go_wp2_with fail;refine d.o.mono ?_;rintro e i ⟨rfl,rfl⟩;go_wp2;exact⟨⟨k+1,k,by omega,by go_num,rfl,by omega,by omega,b.o,by first|rfl|trivial⟩,by simp[intOf];omega⟩
    |false=>
     rw[h64]at j;have b:Hid (adr x.length x 0 (-1)=adr x.length (x.drop (k+1)) (k+1) a):=by show _=_;rw[f.o,adr,show ZN c.toNat=false from hb,h64];rfl
     go_wp2_with fail;refine d.o.mono ?_;rintro e i ⟨rfl,rfl⟩;go_wp2;exact⟨⟨k+1,a,by omega,by go_num,rfl,by omega,by omega,b.o,by first|rfl|trivial⟩,by simp[intOf];omega⟩
  ·have q:k=x.length:=by omega
   subst q;have b:Hid (adr x.length x 0 (-1)=(decide (0<a)&&(decide (a<(x.length:Int) - 1)&&decide (x.length<=32)))):=by show _=_;rw[f.o,Zi Qt];rfl
   by_cases h1:0<a
   all_goals by_cases h2:a<(x.length:Int) - 1
   all_goals by_cases h3:x.length<=32
   all_goals go_wp2
   all_goals go_ret
   all_goals exact⟨Zs (by rw[b.o,Zh];simp only[Bool.and_eq_true,decide_eq_true_eq,Bool.false_eq_true];constructor<;>intro h<;>(first|omega|exact h.elim)),rfl⟩
theorem Fc(h:n<10):Lib.decDigits n=[UInt8.ofNat (48+n)]:=by rw[Lib.decDigits,dif_pos h]
theorem Sn(h:¬ n<10):Lib.decDigits n=Lib.decDigits (n / 10)++[UInt8.ofNat (48+n % 10)]:=by rw[Lib.decDigits,dif_neg h]
theorem B0{d:Nat}(h:d<10):((UInt8.ofNat (48+d)).toNat:Int)=48+(d:Int):=by
 have:(UInt8.ofNat (48+d)).toNat=48+d:=by simp;omega
 omega
theorem MH:∀(m n:Nat),n<=m->n<=2147483647->∀ w,Calls prog 82 #[.int .i64 n] w fun e w'=>e=.returned (.string (sA (Lib.decDigits n)))/\Below w.heap.size w w':=by
 intro m
 induction m with
 |zero=>
  intro n l p w;have a:n<10:=by omega
  rw[Fc a];have g:=B0 a;have i:decide ((n:Int)<10)=true:=QO (by omega);generalize UInt8.ofNat (48+n)=d at *;have b:=I (G1 w d);go_enter func82,ntmps82;go_wp2;rw[b.o _ (by omega)];go_wp2;go_ret;exact⟨rfl,Qs _⟩
 |succ m ih=>
  intro n l p w;by_cases a:n<10
  ·rw[Fc a];have g:=B0 a;have i:decide ((n:Int)<10)=true:=QO (by omega);generalize UInt8.ofNat (48+n)=d at *;have b:=I (G1 w d);clear ih;go_enter func82,ntmps82;go_wp2;rw[b.o _ (by omega)];go_wp2;go_ret;exact⟨rfl,Qs _⟩
  ·have j:=I (Sn a);have g:=B0 (Nat.mod_lt n (show 0<10 by decide));have i:decide ((n:Int)<10)=false:=Qr (by omega);have k:=I (ih (n / 10) (by omega) (by omega));generalize UInt8.ofNat (48+n % 10)=d at *;have b:=I (fun w=>G1 w d);have q:(Lib.decDigits (n / 10)).length<=100:=by rw[Lib.decDigits_length];have:=Lib.nDigits_le20 (n / 10) (by omega);omega
   clear ih;go_enter func82,ntmps82;go_wp2_with fail;refine(k.o _).mono ?_;rintro e t ⟨rfl,f⟩;have c:=I f;clear f;generalize Lib.decDigits (n / 10)=y at *;have r:=Zr y;have s:(sA [d]).size=1:=rfl;go_wp2;rw[b.o _ _ (by omega)];go_wp2;go_ret;exact⟨by rw[j.o,<-Ul];rfl,c.o.alloc (Below.size c.o) _⟩
end
end Go.Proofs.YtgnkjijocdmniaaGreatDoor
