import Derived.BigRegion
import Derived.Test.YtgnkjijocdmniaaGreatDoorZTests3
namespace Go.Proofs.YtgnkjijocdmniaaGreatDoor
set_option linter.unusedVariables false
set_option linter.unusedSimpArgs false
set_option maxRecDepth 100000
set_option maxHeartbeats 4000000
open Go.Proofs.Tryz
variable{α β:Type}{B F T base f k n pf pos pr pt:Nat}{P b d:(Nat->Prop)->α->World->Value->Prop}{X Y:Nat->Prop}{a c:(Nat->Prop)->β->World->Value->Prop}{acc:List α}{e:Flt}{l:L8}{req xs zs:Qa}{s:PS}{sub:PS->Qb (α×PS)}{tst:PS->Qb (β×PS)}{u v:Value}{w w':World}{x:Zx×List (β×List α)×List α}{y:Nat×PS}
section
open Go.RowKit
theorem Tryz.infoTest:(prog.info? 218).map (fun i=>(i.zero,i.size,i.bytes))=some (some .nilIface,1,16):=by kernel_rfl
theorem Td(h:paL l [[44],[41]] s=.error e):gMr l sub (f+1) acc s=.error e:=by rw[gMr];exact Qi h
theorem Te(h:paL l [[44],[41]] s=.ok y)(a:¬ y.1=1):gMr l sub (f+1) acc s=.ok (acc,y.2):=by rw[gMr,Qe h,if_neg a]
theorem Tf(h:paL l [[44],[41]] s=.ok y)(a:y.1=1)(b:sub y.2=.error e):gMr l sub (f+1) acc s=.error e:=by rw[gMr,Qe h,if_pos a];exact Qi b
theorem Tg{z:α×PS}(h:paL l [[44],[41]] s=.ok y)(a:y.1=1)(b:sub y.2=.ok z):gMr l sub (f+1) acc s=gMr l sub f (acc++[z.1]) z.2:=by rw[gMr,Qe h,if_pos a];exact Qe b
theorem Th:∀ z∈([[44],[41]]:Qa),z≠[]:=by decide
def SubMu{α:Type}(n:Nat)(sub:PS->Qb (α×PS)):Prop:=∀ s y,s.2<=n->(s.1.kind=0->s.1.spelt=[])->sub s=.ok y->mu n y.2<mu n s
theorem Fq(sub:PS->Qb (α×PS))(P:(Nat->Prop)->α->World->Value->Prop)(hw:L8)(n:Nat)(d:Int)(b F:Nat)(t:ByteArray)(s:PS)(G:Value)(D E:Nat)(w:World)(h:RC w b t s G D E)(hF:2*t.size+1<F)(bs:0<=d)(bt:d<=100)(hP:TreeP P)(hS:SubMu t.size sub)(ho:YA 186 w b t G D E (d+1) sub P) :
 Calls prog 130 #[.pointer (some ⟨b,0,none⟩),ZS hw n,.int .i64 d] w (Qg (groupL t.data.toList F sub s) b t G D E w (fun xs w' v=>∃ u,v=.agg #[.string (sA hw),.int .i64 n,u]/\trX (fromB w.heap.size) P xs w' u/\xs≠[])):=by
 have H:=I h;have HO:=I ho;have HP:=I hP;have a9:=I hS;have bu:=h.at_.lt;clear h ho hP hS;unfold ZS;obtain⟨i0,hi,bo,bp,bq⟩:=info_parts Tryz.infoTest;go_enter func130,ntmps130;go_wp2_with fail;obtain⟨V,i⟩:=QE ((w.alloc (.cells #[.string (sA hw),.int .i64 n] 216)).alloc (.cells #[.string ⟨#[]⟩,.int .i64 0,.slice none 0 0] 221));have a7:Hid (RC V b t s G D E):=by rw[i];exact(H.o.alloc _).alloc _
 have ay:Hid (Mod b w V):=by rw[i];exact((Mod.refl b w).alloc _).alloc _
 have bc:Hid (V.heap[w.heap.size]?=some (.cells #[.string (sA hw),.int .i64 n] 216)):=by rw[i];exact Qy (QA _ _)
 have bd:Hid (V.heap[w.heap.size+1]?=some (.cells #[.string ⟨#[]⟩,.int .i64 0,.slice none 0 0] 221)):=by rw[i];exact Zv (by simp)
 have bB:V.heap.size=w.heap.size+1+1:=by rw[i];simp
 have ac:=I (Kc b V.heap.size 1 1 [[40]] t s G D E _ (a7.o.alloc (.cells (Qw [[40]]).toArray 9)) (YE V [[40]] _ _ rfl) rfl (by decide));rw[i]at ac;rw[show((w.alloc (.cells #[.string (sA hw),.int .i64 n] 216)).alloc (.cells #[.string ⟨#[]⟩,.int .i64 0,.slice none 0 0] 221)).heap.size=w.heap.size+1+1 from by simp]at ac;refine ac.o.mono ?_;rw[<-i];intro e w1 A;rcases A.cases with⟨y,v,hy,rfl,N,S,c⟩ | ⟨f,hf,⟨r,hz,rfl,B⟩,c⟩
 rotate_left
 ·exact⟨rfl,Qg.err (Qi hf) ((ay.o.alloc _).trans c) ⟨r,by simp at hz;omega,rfl,B⟩⟩
 unfold XY at N;subst N;have HY:=I hy;have HC:=I S;have Y:=I ((ay.o.alloc (.cells (Qw [[40]]).toArray 9)).trans c);have aV:=I (Qu (Qy bc.o) c (by omega));have aA:=I (Qu (Qy bd.o) c (by omega));clear A hy S c i ac;go_wp2_with fail;refine(HO.o _ y.2 Y.o HC.o).mono ?_;intro e w2 h2;rcases h2.cases with⟨z,v,aQ,rfl,N,S,c⟩ | ⟨f,hf,⟨r,hz,rfl,B⟩,c⟩
 rotate_left
 ·exact⟨rfl,Qg.err ((Qe HY.o).trans (Qi hf)) (Y.o.trans c) ⟨r,Qm Y.o.size hz,rfl,B⟩⟩
 have bx:w.heap.size+1<w1.heap.size:=Qh aA.o;have HV2:=I N;obtain⟨ty,x,rfl⟩:=HP.o.form _ _ _ _ N;have aE:=I aQ;have W:=I S;have aZ:=I (Y.o.trans c);have aW:=I (Qu aV.o c (by omega));have aB:=I (Qu aA.o c (by omega));have bn:w.heap.size+1<w2.heap.size:=Qh aB.o;have bl:=W.o.mu_le;have aJ:=W.o.mu_lt hF;clear h2 aQ S c N;go_wp2_with fail
 go_loopw [7] (fun v wr=>∃(Q:PS) (q:List α) (vs:List Value) (f:Nat),wr.ownsRow (w.heap.size+1+1) 218 1 v q.length vs/\QZ (fun a u=>Q5 P (w.heap.size+1+1) wr v a u) q vs/\q≠[]/\RC wr b t Q G D E/\Mod b w wr/\wr.heap[w.heap.size]?=some (.cells #[.string (sA hw),.int .i64 n] 216)/\wr.heap[w.heap.size+1]?=some (.cells #[.string ⟨#[]⟩,.int .i64 0,.slice none 0 0] 221)/\mu t.size Q<f/\q.length+mu t.size Q<=1300/\groupL t.data.toList F sub s=gMr t.data.toList sub f q Q) (fun _ wr=>muW wr b t.size)
 case atStart=>
  have hA:Mod b w2 (w2.alloc (.cells #[.iface ty x] 218)):=(Mod.refl b w2).alloc _
  have hG:Q5 P (w.heap.size+1+1) w2 (.slice (some ⟨w2.heap.size,0,none⟩) 1 1) z.1 (.iface ty x):=⟨fun k=>w1.heap.size<=k∧k < w2.heap.size,HP.o.weak _ _ _ _ _ HV2.o (fun k hk hz=>⟨hk,hz⟩),fun k hk=>⟨by omega,hk.2⟩,fun g hg hX=>by
   have:w2.heap.size=g:=by simpa[Value.ownBlock]using hg
   omega⟩
  refine⟨z.2,[z.1],[.iface ty x],F,?_,⟨hG.mod HP.o hA (by omega),trivial⟩,by simp,W.o.alloc _,aZ.o.alloc _,Qy aW.o,Qy aB.o,aJ,by simp;omega,(Qe HY.o).trans (Qe aE.o)⟩;exact World.ownsRow_lit (e:=218) (size:=1) w2 #[.iface ty x] 1 bn (by unfold maxLen;omega) rfl
 case round=>
  obtain⟨Q,q,vs,f,aL,C,ap,aN,aI,aF,aj,hf,br,aO⟩:=hrel;obtain⟨f,rfl⟩:∃ g,f=g+1:=⟨f - 1,by omega⟩;have Z:=I aN;have az:=I aI;have aa:=I aO;have a4:=I aL;have a8:=I C;have aR:=I aF;have aS:=I aj;have bw:w.heap.size+1<wr.heap.size:=Qh aj;clear aN aI aO aL C aF aj HC W HY aE bl aJ;go_wp2_with fail;refine(Kc b wr.heap.size 2 2 [[44],[41]] t Q G D E _ (Z.o.alloc _) (YE wr [[44],[41]] _ _ rfl) rfl (by decide)).mono ?_;intro e J h3;rcases h3.cases with⟨T,v3,av,rfl,aP,aG,ab⟩ | ⟨f3,bi,⟨r,hz,rfl,B⟩,ab⟩
  rotate_left
  ·exact⟨rfl,Qg.err (aa.o.trans (Td bi)) ((az.o.alloc _).trans ab) ⟨r,by simp at hz;omega,rfl,B⟩⟩
  have ao:=Ai (l:=t.data.toList) (by simpa using Z.o.le) Z.o.e0 Th av;rw[bal]at ao;replace ao:=ao.1;have L:=((Mod.refl b wr).alloc (.cells #[.string ⟨#[44]⟩,.string ⟨#[41]⟩] 9)).trans ab;have R:=I (az.o.trans L);have ag:=I av;have X:=I aG;have af:=I (ZV (b:=b) a4.o L (by omega));have aD:=I (a8.o.imp (fun a u p=>Q5.mod HP.o (b:=b) (w':=J) p L (by omega)));have ae:=I (Qu aR.o L (by omega));have K:=I (Qu aS.o L (by omega));unfold XY at aP;subst aP;clear h3 av aG ab L;by_cases A:T.1=1;rotate_left
  ·have bh:((T.1:Int)==1)=false:=by simp;omega
   have U:=I A;have HT:=I (trX.of_owns HP.o af.o rfl ap aD.o);obtain⟨gg,nn,cc,rfl⟩:=HT.o.form;have k0:=Qj ae.o;have k1:=Qo ae.o;have r0:=Qj K.o;have r1:=Qo K.o;have r2:=QG K.o;have rf:=Qz K.o;clear A;go_wp2;have ai:b<w.heap.size+1:=by omega
   have au:w.heap.size<=w.heap.size+1:=by omega
   have hq:¬ fromB (w.heap.size+1+1) (w.heap.size+1):=by unfold fromB;omega
   have bm:∀ k,fromB (w.heap.size+1+1) k->fromB w.heap.size k:=fun k hk=>by unfold fromB at *;omega
   refine bodyPost_ret (v:=.agg #[.string (sA hw),.int .i64 n,.slice (some ⟨gg,0,none⟩) nn cc]) (by simp[results,results130,go_sem,r0,r1,r2]) rfl (Qg.ok (aa.o.trans (Te ag.o U.o)) (((R.o.setNew au _ _).setNew au _ _).setNew au _ _) ⟨_,rfl,?_,ap⟩ (((X.o.setNew ai _ _).setNew ai _ _).setNew ai _ _));exact trX.weak HP.o ap (((HT.o.keep HP.o (AbvX.set hq _ _)).keep HP.o (AbvX.set hq _ _)).keep HP.o (AbvX.set hq _ _)) (fun k hk _=>bm k hk)
  have bh:((T.1:Int)==1)=true:=by simp;omega
  have U:=I A;clear A;go_wp2_with fail;refine(HO.o _ T.2 R.o X.o).mono ?_;intro e w4 h4;rcases h4.cases with⟨z4,v4,aw,rfl,ar,aH,m⟩ | ⟨f4,bj,⟨r,hz,rfl,B⟩,m⟩
  rotate_left
  ·exact⟨rfl,Qg.err (aa.o.trans (Tf ag.o U.o bj)) (R.o.trans m) ⟨r,Qm R.o.size hz,rfl,B⟩⟩
  have bv:=a9.o T.2 z4 X.o.le X.o.e0 aw;have bz:w.heap.size+1<J.heap.size:=Qh K.o;have ba:=I ar;obtain⟨ad,x4,rfl⟩:=HP.o.form _ _ _ _ ar;have a0:=I (R.o.trans m);have bg:=I aw;have aT:=I aH;have aq:=ZV (b:=b) af.o m (by omega);have bf:=I (aD.o.imp (fun a u p=>Q5.mod HP.o (b:=b) (w':=w4) p m (by omega)));have bk:=I (fun k hk=>(af.o.lt k hk).2);have aU:=I (Q5.new HP.o (base:=w.heap.size+1+1) ba.o (by omega) bk.o);have aX:=I (Qu ae.o m (by omega));have aC:=I (Qu K.o m (by omega));have bA:w.heap.size+1<w4.heap.size:=Qh aC.o;clear h4 aw aH m ar;go_wp2_with (at_builtin;refine wpList_append_own_at _ rfl _ _ 219 rfl (w.heap.size+1+1) 218 i0 .nilIface 1 16 underlying219 hi bo bp bq rfl (by decide) _ _ _ rfl (aq.alloc _) ⟨w4.heap.size,0,none⟩ 1 1 [.iface ad x4] rfl rfl ?c1 ?c2 ?c3 ?c4 ?c5 ?_)
  case c1=>
   intro j u hj
   match j,hj with
   |0,hj=>simp at hj;subst hj;simp[Addr.add]
  case c2=>intro u p;simp at p;subst p;rfl
  case c3=>unfold maxLen;omega
  case c4=>omega
  case c5=>simp;omega
  ·intro v' w5 aM M _ ah;have C:∀ k,(u7).ownBlock=some k->w.heap.size+1+1<=k:=fun k hk=>(aq.lt k hk).1
   have a1:=I ((a0.o.alloc (Obj.cells #[.iface ad x4] 218)).grown M (fun k hk=>by have:=C k hk;omega));have ax:=I ((aT.o.alloc (Obj.cells #[.iface ad x4] 218)).grown M (fun k hk=>by have:=C k hk;omega));have a3:=I aM;have a5:=I (QZ.snoc (P:=fun a u=>Q5 P (w.heap.size+1+1) w5 v' a u) (aU.o.grown HP.o M ah) (bf.o.imp (fun a u p=>Q5.grown HP.o p M ah)))
   have ak:∀ k,k<w.heap.size+1+1->w5.heap[k]?=w4.heap[k]?:=fun k hk=>by
    rw[M.block k (by simp;omega) (fun e=>by have:=C k e.symm;omega)];exact Below.heap_alloc _ _ _ (by omega)
   have aY:=I ((ak w.heap.size (by omega)).trans aX.o);have a6:=I ((ak (w.heap.size+1) (by omega)).trans aC.o);have aK:muW w5 b t.size<muW wr b t.size:=by rw[ax.o.muEq,Z.o.muEq];omega
   have a2:=I aK;clear aM M aK aq C ak ah;go_wp2;go_roundw
   case rel=>exact⟨z4.2,q++[z4.1],vs++[.iface ad x4],f,by simpa using a3.o,a5.o,by simp,ax.o,a1.o,aY.o,a6.o,by omega,by simp;omega,aa.o.trans (Tg ag.o U.o bg.o)⟩
   case measure=>exact a2.o
end
section
open Go.RowKit
attribute [local go_sem ↓] Go.wp_at_zero Go.wp_at_succ
theorem Ti(sub:PS->Qb (α×PS))(P:(Nat->Prop)->α->World->Value->Prop)(hw:L8)(a:Nat)(d:Int)(pr:Nat)(b F:Nat)(t:ByteArray)(s:PS)(j:Value)(g i:Nat)(w:World)(h:RC w b t s j g i)(n:YJ w pr b)(hF:2*t.size+1<F)(L:0<=d)(M:d<=100)(l:TreeP P)(r:SubMu t.size sub)(z:YA 186 w b t j g i (d+1) sub P) :
 Calls prog 129 #[ZS hw a,.int .i64 d,.pointer (some ⟨pr,0,none⟩)] w (Qg (groupL t.data.toList F sub s) b t j g i w (fun xs w' v=>∃ u,v=.iface 224 (.agg #[.string (sA hw),.int .i64 a,u])/\trX (fromB w.heap.size) P xs w' u/\xs≠[])):=by
 have R:=n.lt;have V:(w.alloc (.cells #[.string (sA hw),.int .i64 a] 216)).cell? ⟨pr,0,none⟩=some (.pointer (some ⟨b,0,none⟩)):=by rw[World.cell?_alloc_past _ _ _ R];exact n.1
 have C:=I (Fq sub P hw a d b F t s j g i (w.alloc (.cells #[.string (sA hw),.int .i64 a] 216)) (h.alloc _) hF L M l r (z.mod ((Mod.refl b w).alloc _)));have HP:=I l;clear h n z l r;unfold ZS at *;go_enter func129,ntmps129;go_wp2_with fail;refine C.o.mono ?_;intro e X q;rcases q.cases with⟨y,v,A,rfl,⟨u,rfl,p,m⟩,x,c⟩ | ⟨f,N,⟨J,S,rfl,K⟩,c⟩
 rotate_left
 ·exact⟨rfl,Qg.err N (((Mod.refl b w).alloc _).trans c) ⟨J,by simp at S;omega,rfl,K⟩⟩
 have H:=I A;have B:=I x;have D:=I (((Mod.refl b w).alloc _).trans c);have G:=I (trX.weak HP.o m p (fun k Q _=>Qm (by simp) Q:∀ k,_->_->fromB w.heap.size k));have E:=I m;obtain⟨U,W,T,rfl⟩:=p.form;clear q A x c p m;go_wp2;go_ret;exact Qg.ok H.o D.o ⟨_,rfl,G.o,E.o⟩ B.o
theorem Tj(sub:PS->Qb (α×PS))(P:(Nat->Prop)->α->World->Value->Prop)(hw:L8)(a:Nat)(d:Int)(pr:Nat)(b F:Nat)(t:ByteArray)(s:PS)(j:Value)(g i:Nat)(w:World)(h:RC w b t s j g i)(n:YJ w pr b)(hF:2*t.size+1<F)(L:0<=d)(M:d<=100)(l:TreeP P)(r:SubMu t.size sub)(z:YA 186 w b t j g i (d+1) sub P) :
 Calls prog 131 #[ZS hw a,.int .i64 d,.pointer (some ⟨pr,0,none⟩)] w (Qg (groupL t.data.toList F sub s) b t j g i w (fun xs w' v=>∃ u,v=.iface 225 (.agg #[.string (sA hw),.int .i64 a,u])/\trX (fromB w.heap.size) P xs w' u/\xs≠[])):=by
 have R:=n.lt;have V:(w.alloc (.cells #[.string (sA hw),.int .i64 a] 216)).cell? ⟨pr,0,none⟩=some (.pointer (some ⟨b,0,none⟩)):=by rw[World.cell?_alloc_past _ _ _ R];exact n.1
 have C:=I (Fq sub P hw a d b F t s j g i (w.alloc (.cells #[.string (sA hw),.int .i64 a] 216)) (h.alloc _) hF L M l r (z.mod ((Mod.refl b w).alloc _)));have HP:=I l;clear h n z l r;unfold ZS at *;go_enter func131,ntmps131;go_wp2_with fail;refine C.o.mono ?_;intro e X q;rcases q.cases with⟨y,v,A,rfl,⟨u,rfl,p,m⟩,x,c⟩ | ⟨f,N,⟨J,S,rfl,K⟩,c⟩
 rotate_left
 ·exact⟨rfl,Qg.err N (((Mod.refl b w).alloc _).trans c) ⟨J,by simp at S;omega,rfl,K⟩⟩
 have H:=I A;have B:=I x;have D:=I (((Mod.refl b w).alloc _).trans c);have G:=I (trX.weak HP.o m p (fun k Q _=>Qm (by simp) Q:∀ k,_->_->fromB w.heap.size k));have E:=I m;obtain⟨U,W,T,rfl⟩:=p.form;clear q A x c p m;go_wp2;go_ret;exact Qg.ok H.o D.o ⟨_,rfl,G.o,E.o⟩ B.o
def Vk(w:World)(hw:L8)(hp:Nat):World:=
 ((((w.alloc (.cells #[.string (sA hw),.int .i64 hp] 216)).alloc (.cells #[.string ⟨#[102,114,111,109]⟩,.string ⟨#[116,111]⟩] 9)).alloc (.cells #[.int .i64 7] 33)).alloc (.cells #[.slice (some ⟨w.heap.size+1,0,none⟩) 2 2] 61)).alloc (.cells #[.func (.func 190) #[] #[.pointer (some ⟨w.heap.size+1+1+1,0,none⟩),.pointer (some ⟨w.heap.size+1+1,0,none⟩)]] 229)
theorem Tk(w:World)(hw:L8)(a:Nat):VH (Vk w hw a) (w.heap.size+1+1+1+1) (w.heap.size+1+1+1) (w.heap.size+1+1) (w.heap.size+1) 2 2 7 [Yy,kTo]:=by
 refine⟨?_,?_,?_,?_,rfl,by decide⟩
 ·exact Qn (Zv (by simp)) 0
 ·exact Qn (Qy (Zv (by simp))) 0
 ·exact Qn (Qy (Qy (Zv (by simp)))) 0
 ·have h:=YE (w.alloc (.cells #[.string (sA hw),.int .i64 a] 216)) [Yy,kTo] #[.string ⟨#[102,114,111,109]⟩,.string ⟨#[116,111]⟩] 9 rfl;rw[show(w.alloc (.cells #[.string (sA hw),.int .i64 a] 216)).heap.size=w.heap.size+1 from by simp]at h;exact((h.below (Qs _)).below (Qs _)).below (Qs _)
theorem G9(w:World)(hw:L8)(hp b:Nat):Mod b w (Vk w hw hp):=(((((Mod.refl b w).alloc _).alloc _).alloc _).alloc _).alloc _
theorem YI{b g o:Nat}(h:w.cell? ⟨g,o,none⟩=some v)(a:Mod b w w')(c:g≠b):w'.cell? ⟨g,o,none⟩=some v:=by
 rw[a.cell (p:=⟨g,o,none⟩) (QI h) c];exact h
theorem VH.mod{b q p1 p2 g c d:Nat}(h:VH w q p1 p2 g n c d zs)(a:Mod b w w')(o:q≠b)(p:p1≠b)(r:p2≠b)(s:g≠b):VH w' q p1 p2 g n c d zs:=by
 obtain⟨e,f,i,k,l,m⟩:=h;exact⟨YI e a o,YI f a p,YI i a r,fun j t=>YI (k j t) a s,l,m⟩
theorem Tl(w:World)(hw:L8)(hp b:Nat)(t:ByteArray)(rv:Value)(mc mt:Nat)(hb:b<w.heap.size):KM (Vk w hw hp) b t rv mc mt (.func (.func 189) #[] #[.pointer (some ⟨w.heap.size+1+1+1+1,0,none⟩)]) (KX (XQ 7 [Yy,kTo])):=
 fun W s hm hr=>Mw _ _ _ _ _ _ _ _ b t s rv mc mt W hr ((Tk w hw hp).mod hm (by omega) (by omega) (by omega) (by omega))
theorem KM.drew{w:World}{b:Nat}{t:ByteArray}{rv:Value}{mc mt:Nat}{cv:Value}{chk:L8->Nat}(h:KM w b t rv mc mt cv chk):KM w.drew b t rv mc mt cv chk:=h.mod ((Mod.refl b w).drew)
theorem Tm(hw:L8)(hp:Nat)(d:Int)(pr:Nat)(b F:Nat)(t:ByteArray)(s:PS)(rv:Value)(mc mt:Nat)(w:World)(h:RC w b t s rv mc mt)(n:YJ w pr b)(hF:2*t.size+1<F) :
 Calls prog 135 #[ZS hw hp,.int .i64 d,.pointer (some ⟨pr,0,none⟩)] w (Qg (ZR t.data.toList F (KX (XQ 7 [Yy,kTo])) 6 hp s) b t rv mc mt w (fun x w' v=>∃ u,v=.iface 234 u/\mtV w.heap.size hw x w' u)):=by
 have Q:=n.lt;have G:∀ o,(w.alloc o).cell? ⟨pr,0,none⟩=some (.pointer (some ⟨b,0,none⟩)):=fun o=>by rw[World.cell?_alloc_past _ _ _ Q];exact n.1
 have J:∀ o a,((w.alloc o).alloc a).cell? ⟨pr,0,none⟩=some (.pointer (some ⟨b,0,none⟩)):=fun o a=>by rw[World.cell?_alloc_past _ _ _ (by simp;omega)];exact G o
 have K:∀ o a c,(((w.alloc o).alloc a).alloc c).cell? ⟨pr,0,none⟩=some (.pointer (some ⟨b,0,none⟩)):=fun o a c=>by rw[World.cell?_alloc_past _ _ _ (by simp;omega)];exact J o a
 have L:∀ o a c g,((((w.alloc o).alloc a).alloc c).alloc g).cell? ⟨pr,0,none⟩=some (.pointer (some ⟨b,0,none⟩)):=fun o a c g=>by rw[World.cell?_alloc_past _ _ _ (by simp;omega)];exact K o a c
 have T:∀ o a c g z,(((((w.alloc o).alloc a).alloc c).alloc g).alloc z).cell? ⟨pr,0,none⟩=some (.pointer (some ⟨b,0,none⟩)):=fun o a c g z=>by rw[World.cell?_alloc_past _ _ _ (by simp;omega)];exact L o a c g
 have H:=I h;have hb:=h.at_.lt;clear h n;unfold ZS
 have HW:=I (BW _ (KX (XQ 7 [Yy,kTo])) 6 hw hp b F t s rv mc mt (Vk w hw hp).drew ((H.o.step (G9 w hw hp b) (H.o.at_.mod (⟨rfl,rfl,rfl,(G9 w hw hp b).size,fun k hk=>by
  by_cases e:k=b
  ·subst e;unfold Vk;rw[Below.heap_alloc _ _ _ (by simp;omega),Below.heap_alloc _ _ _ (by simp;omega),Below.heap_alloc _ _ _ (by simp;omega),Below.heap_alloc _ _ _ (by simp;omega),Below.heap_alloc _ _ _ hk]
  ·exact (G9 w hw hp b).block k hk e⟩:Below w.heap.size w (Vk w hw hp))) H.o.le H.o.sz H.o.e0 H.o.nm).drew) (Tl w hw hp b t rv mc mt hb).drew hF)
 have j:=I (G9 w hw hp b);have S:=I ((G9 w hw hp b).size);unfold Vk at HW j;go_enter func135,ntmps135;go_wp2_with fail;go_region_with (first|(go_at_call 137;refine(A0 _ _ _ _ _).mono ?_;rintro e w' ⟨rfl,rfl⟩;skip)|(go_at_call 136;refine(Mt _ _ _ _).mono ?_;rintro e w' ⟨rfl,rfl⟩;skip)|(go_at_call 133;refine HW.o.mono ?_;intro e w1 p;rcases p.cases with⟨y,v,r,rfl,⟨W,Z,rfl,l,m⟩,q,i⟩ | ⟨f,P,⟨M,R,rfl,N⟩,i⟩;rotate_left;exact⟨rfl,Qg.err P (j.o.trans (Zt i)) ⟨M,by simp at R;omega,rfl,N⟩⟩;have E:=I r;have A:=I q;have D:=I (j.o.trans (Zt i));have B:=I (l.weak (B':=w.heap.size) (by simp;omega));have C:=I (m.weak (B':=w.heap.size) (by simp;omega));obtain⟨X,n1,U,rfl⟩:=l.form;obtain⟨Y,n2,V,rfl⟩:=m.form;clear p r q i l m;skip))
 all_goals go_wp2
 all_goals go_ret
 all_goals exact Qg.ok E.o D.o ⟨_,rfl,_,_,rfl,B.o,C.o⟩ A.o
theorem Zm.alloc{w:World}{g:Nat}{zs:Qa}(h:Zm w g zs)(o:Obj):Zm (w.alloc o) g zs:=h.below (Qs _)
theorem Zm.drew{w:World}{g:Nat}{zs:Qa}(h:Zm w g zs):Zm w.drew g zs:=h
abbrev Fs:Obj:=.cells #[.string ⟨#[]⟩,.int .i64 0,.int .i64 0,.int .i64 0] 311
theorem Tn(hw:L8)(j:Nat)(d:Int)(b:Nat)(t:ByteArray)(s:PS)(q:Value)(n p:Nat)(w:World)(h:RC w b t s q n p) :
 Calls prog 140 #[.pointer (some ⟨b,0,none⟩),ZS hw j,.int .i64 d] w (Qg (sizeL t.data.toList j s) b t q n p w (fun x w' v=>v=.iface 311 (.agg #[.string (sA hw),.int .i64 j,.int .i64 x.tag,.int .i64 x.num]))):=by
 have H:=I h;have ak:=h.at_.lt;have ad:¬ w.heap.size=b:=by omega
 have ae:¬ w.heap.size+1=b:=by omega
 have af:¬ w.heap.size+1+1=b:=by omega
 clear h;unfold ZS;go_enter func140,ntmps140;go_upto_region 1 with fail
 go_cut [7] (fun v wc=>∃(T:Nat) (y:Nat×PS),v=.pointer (some ⟨T,0,none⟩)/\paL t.data.toList [X3,X4] s=.ok y/\RC wc b t y.2 q n p/\Mod b w wc/\w.heap.size<=T/\wc.heap[T]?=some (.cells #[.string (sA hw),.int .i64 j,.int .i64 y.1,.int .i64 0] 311))
 case first=>
  go_region_with (first|(go_at_call 191;refine(RM _).mono ?_;rintro e w' ⟨rfl,rfl⟩;skip)|(go_at_call 177;refine(Kc b _ 2 2 [X3,X4] t s q n p _ (by first|exact((H.o.alloc _).alloc _).drew|exact(((H.o.alloc _).alloc _).alloc _).drew) (by first|exact(JV _ _ (by simp)).drew|exact((JV _ _ (by simp)).alloc _).drew) rfl (by decide)).mono ?_;intro e i G;rcases G.cases with⟨y,v,E,rfl,R,l,a⟩ | ⟨f,Z,⟨A,k,rfl,D⟩,a⟩;rotate_left;exact⟨rfl,Qg.err (Qi Z) (by first|exact(((Mod.refl b w).alloc _).alloc _).trans (Zt a)|exact((((Mod.refl b w).alloc _).alloc _).alloc _).trans (Zt a)) ⟨A,by simp at k;omega,rfl,D⟩⟩;unfold XY at R;subst R;have L:=Qu (g:=w.heap.size) (o:=.cells #[.string (sA hw),.int .i64 j] 216) (by first|exact Qy (QA _ _)|exact Qy (Qy (QA _ _))) (Zt a) ad;have aa:=Qj L;have ab:=Qo L;clear L;(first|(have c:=Qu (g:=w.heap.size+1) (o:=Fs) (Qy (Zv (by simp))) (Zt a) ae;have t0:=Qj c;have t1:=Qo c;have t2:=QG c;have M:=QH c;have N:=Qz c;have Q:=I c;clear c)|(have c:=Qu (g:=w.heap.size+1+1) (o:=Fs) (Zv (by simp)) (Zt a) af;have t0:=Qj c;have t1:=Qo c;have t2:=QG c;have M:=QH c;have N:=Qz c;have Q:=I c;clear c)|skip);have ah:=a.size;simp at ah;have S:w.heap.size<i.heap.size:=(by omega);have ai:∀ o,(i.alloc o).cell? ⟨w.heap.size,0,none⟩=some (.string (sA hw)):=(fun o=>by rw[World.cell?_alloc_past _ _ _ S];exact aa);have aj:∀ o,(i.alloc o).cell? ⟨w.heap.size,1,none⟩=some (.int .i64 j):=(fun o=>by rw[World.cell?_alloc_past _ _ _ S];exact ab);have m:=I E;have r:=I l;have P:Hid (Mod b w i):=(by first|exact(((Mod.refl b w).alloc _).alloc _).trans (Zt a)|exact((((Mod.refl b w).alloc _).alloc _).alloc _).trans (Zt a));clear G E l a;skip))
  all_goals (go_wp2_with fail;go_meet)
  all_goals first
   |exact⟨_,y,rfl,m.o,r.o.alloc _,P.o.alloc _,by omega,QA _ _⟩
   |exact⟨_,y,rfl,m.o,(((r.o.setNew (by omega) _ _).setNew (by omega) _ _).setNew (by omega) _ _).setNew (by omega) _ _,(((P.o.setNew (by omega) _ _).setNew (by omega) _ _).setNew (by omega) _ _).setNew (by omega) _ _,by omega,Qv _ _ _ _ _ _ (Qv _ _ _ _ _ _ (Qv _ _ _ _ _ _ (Qv _ _ _ _ _ _ Q.o)))⟩
 case rest=>
  obtain⟨T,y,rfl,E,l,a,K,B⟩:=hcut;have ao:=Qh B;have G:=Qo l.at_;have Y:=QM l.at_;have M:=QH B;have N:=Qz B;have m:=I E;have r:=I l;have u:=I a;have U:=I B;clear E l a B;by_cases hk:y.2.1.kind=4;rotate_left
  ·have ac:((y.2.1.kind:Int)==4)=false:=by simp;omega
   have F:=I hk;clear hk;go_wp2_with fail;refine(XP b 4 _ _ t y.2.1 y.2.2 q n p _ r.o.at_ rfl rfl).mono ?_;rintro e i ⟨⟨A,k,rfl,D⟩,a⟩;exact⟨rfl,Qg.err ((Qe m.o).trans (if_neg F.o)) (u.o.trans (Mod.of_below a)) ⟨A,Qm u.o.size k,rfl,D⟩⟩
  have ac:((y.2.1.kind:Int)==4)=true:=by simp;omega
  have F:=I hk;clear hk;go_wp2_with fail;refine(ZE b _ _ _ rfl).mono ?_;rintro e w' ⟨rfl,ag⟩;subst ag;go_wp2_with fail;refine(Jk b t y.2 q n p _ (r.o.setNew (by omega) _ _)).mono ?_;rintro e J (⟨z,k,rfl,hc2,hm2⟩ | ⟨f2,hf2,⟨A,k,rfl,D⟩,hm2⟩);rotate_left
  ·exact⟨rfl,Qg.err ((Qe m.o).trans ((if_pos F.o).trans (Yd hf2))) ((u.o.setNew K _ _).trans hm2) ⟨A,Qm (u.o.setNew K _ _).size k,rfl,D⟩⟩
  have C:=Qu (Qv _ T 3 (.int .i64 y.2.1.num) _ _ U.o) hm2 (by omega);have q0:=Qj C;have q1:=Qo C;have q2:=QG C;have q3:=QH C;have W:=I ((u.o.setNew K 3 (.int .i64 y.2.1.num)).trans hm2);have V:=I hc2;have X:=I k;clear C hm2 hc2 k N M G Y;go_wp2;go_ret;exact Qg.ok ((Qe m.o).trans ((if_pos F.o).trans (XV X.o))) W.o rfl V.o
theorem To(hw:L8)(c:Nat)(d:Int)(b:Nat)(t:ByteArray)(s:PS)(l:Value)(j k:Nat)(w:World)(h:RC w b t s l j k) :
 Calls prog 121 #[.pointer (some ⟨b,0,none⟩),ZS hw c,.int .i64 d] w (Qg (paL t.data.toList [[59]] s) b t l j k w (fun _ _ v=>v=.iface 269 (.agg #[.string (sA hw),.int .i64 c,.int .i64 1,.string ⟨#[]⟩]))):=by
 have H:=I h;have G:=h.at_.lt;clear h;unfold ZS;go_enter func121,ntmps121;go_wp2_with fail;have HP:=I (Kc b (w.heap.size+1) 1 1 [[59]] t s l j k _ ((H.o.alloc (.cells #[.string (sA hw),.int .i64 c] 216)).alloc (.cells (Qw [[59]]).toArray 9)) (JV _ _ (by simp)) rfl (by decide));refine HP.o.mono ?_;intro e r m;rcases m.cases with⟨y,v,q,rfl,p,n,a⟩ | ⟨f,C,⟨A,D,rfl,B⟩,a⟩
 rotate_left
 ·exact⟨rfl,Qg.err C ((((Mod.refl b w).alloc _).alloc _).trans a) ⟨A,by simp at D;omega,rfl,B⟩⟩
 unfold XY at p;subst p;have i:=Qu (g:=w.heap.size) (o:=.cells #[.string (sA hw),.int .i64 c] 216) (Qy (QA _ _)) a (by omega);have E:=Qj i;have F:=Qo i;have z:=I q;have u:=I n;have x:=I ((((Mod.refl b w).alloc _).alloc _).trans a);clear m q n a i HP;go_wp2;go_ret;exact Qg.ok z.o x.o rfl u.o
theorem Tp(hw:L8)(c:Nat)(d:Int)(b:Nat)(t:ByteArray)(s:PS)(l:Value)(j k:Nat)(w:World)(h:RC w b t s l j k) :
 Calls prog 122 #[.pointer (some ⟨b,0,none⟩),ZS hw c,.int .i64 d] w (Qg (paL t.data.toList [[59]] s) b t l j k w (fun _ _ v=>v=.iface 294 (.agg #[.string (sA hw),.int .i64 c]))):=by
 have H:=I h;have G:=h.at_.lt;clear h;unfold ZS;go_enter func122,ntmps122;go_wp2_with fail;have HP:=I (Kc b (w.heap.size+1) 1 1 [[59]] t s l j k _ ((H.o.alloc (.cells #[.string (sA hw),.int .i64 c] 216)).alloc (.cells (Qw [[59]]).toArray 9)) (JV _ _ (by simp)) rfl (by decide));refine HP.o.mono ?_;intro e r m;rcases m.cases with⟨y,v,q,rfl,p,n,a⟩ | ⟨f,C,⟨A,D,rfl,B⟩,a⟩
 rotate_left
 ·exact⟨rfl,Qg.err C ((((Mod.refl b w).alloc _).alloc _).trans a) ⟨A,by simp at D;omega,rfl,B⟩⟩
 unfold XY at p;subst p;have i:=Qu (g:=w.heap.size) (o:=.cells #[.string (sA hw),.int .i64 c] 216) (Qy (QA _ _)) a (by omega);have E:=Qj i;have F:=Qo i;have z:=I q;have u:=I n;have x:=I ((((Mod.refl b w).alloc _).alloc _).trans a);clear m q n a i HP;go_wp2;go_ret;exact Qg.ok z.o x.o rfl u.o
theorem Tq(hw:L8)(c:Nat)(d:Int)(b:Nat)(t:ByteArray)(s:PS)(l:Value)(j k:Nat)(w:World)(h:RC w b t s l j k) :
 Calls prog 123 #[.pointer (some ⟨b,0,none⟩),ZS hw c,.int .i64 d] w (Qg (paL t.data.toList [[59]] s) b t l j k w (fun _ _ v=>v=.iface 295 (.agg #[.string (sA hw),.int .i64 c]))):=by
 have H:=I h;have G:=h.at_.lt;clear h;unfold ZS;go_enter func123,ntmps123;go_wp2_with fail;have HP:=I (Kc b (w.heap.size+1) 1 1 [[59]] t s l j k _ ((H.o.alloc (.cells #[.string (sA hw),.int .i64 c] 216)).alloc (.cells (Qw [[59]]).toArray 9)) (JV _ _ (by simp)) rfl (by decide));refine HP.o.mono ?_;intro e r m;rcases m.cases with⟨y,v,q,rfl,p,n,a⟩ | ⟨f,C,⟨A,D,rfl,B⟩,a⟩
 rotate_left
 ·exact⟨rfl,Qg.err C ((((Mod.refl b w).alloc _).alloc _).trans a) ⟨A,by simp at D;omega,rfl,B⟩⟩
 unfold XY at p;subst p;have i:=Qu (g:=w.heap.size) (o:=.cells #[.string (sA hw),.int .i64 c] 216) (Qy (QA _ _)) a (by omega);have E:=Qj i;have F:=Qo i;have z:=I q;have u:=I n;have x:=I ((((Mod.refl b w).alloc _).alloc _).trans a);clear m q n a i HP;go_wp2;go_ret;exact Qg.ok z.o x.o rfl u.o
def Na(l:L8)(s:PS):Qb (L8×PS):=Qp (sL l (fun _=>0) s) fun x s1=>semi l s1 x
theorem B2(hw:L8)(a:Nat)(d:Int)(pr A P:Nat)(b:Nat)(t:ByteArray)(s:PS)(n:Value)(l m:Nat)(w:World)(h:RC w b t s n l m)(k:YJ w pr b)(J:w.cell? ⟨A,0,none⟩=some (.int .i64 P))(aa:A≠b) :
 Calls prog 178 #[ZS hw a,.int .i64 d,.pointer (some ⟨pr,0,none⟩),.pointer (some ⟨A,0,none⟩)] w (Qg (Na t.data.toList s) b t n l m w (fun x _ v=>v=.iface 269 (.agg #[.string (sA hw),.int .i64 a,.int .i64 P,.string (sA x)]))):=by
 have Y:=k.lt;have hb:=h.at_.lt;have X:(w.alloc (.cells #[.string (sA hw),.int .i64 a] 216)).cell? ⟨pr,0,none⟩=some (.pointer (some ⟨b,0,none⟩)):=by rw[World.cell?_alloc_past _ _ _ Y];exact k.1
 have H:=I h;have V:=I k;have U:=I J;clear h k;unfold ZS;go_enter func178,ntmps178;go_wp2_with fail;refine(A2 b t s n l m _ (H.o.alloc _)).mono ?_;intro e w1 D;rcases D.cases with⟨y,v,M,rfl,K,F,c⟩ | ⟨f,r,⟨p,z,rfl,q⟩,c⟩
 rotate_left
 ·exact⟨rfl,Qg.err (Qi r) (((Mod.refl b w).alloc _).trans c) ⟨p,by simp at z;omega,rfl,q⟩⟩
 unfold JW at K;subst K;have C:=I M;have R:=I F;have j:=I (((Mod.refl b w).alloc (.cells #[.string (sA hw),.int .i64 a] 216)).trans c);have T:=I (Qu (g:=w.heap.size) (QA w (.cells #[.string (sA hw),.int .i64 a] 216)) c (by omega));have Z:=(V.o.mod j.o).1;clear D M F c X J;go_wp2_with fail;have HP:=I (Kc b w1.heap.size 1 1 [[59]] t y.2 n l m _ (R.o.alloc (.cells (Qw [[59]]).toArray 9)) (JV _ _ rfl) rfl (by decide));refine HP.o.mono ?_;intro e Q E;rcases E.cases with⟨y2,v2,N,rfl,L,G,i⟩ | ⟨f,r,⟨p,z,rfl,q⟩,i⟩
 rotate_left
 ·exact⟨rfl,Qg.err ((Qe C.o).trans (Qi r)) ((j.o.alloc _).trans i) ⟨p,Qm (j.o.alloc _).size z,rfl,q⟩⟩
 unfold XY at L;subst L;have u:=Qu (Qy T.o) i (by omega);have ab:=Qj u;have ac:=Qo u;have W:=I N;have S:=I G;have B:=I ((j.o.alloc (.cells (Qw [[59]]).toArray 9)).trans i);have ad:=YI U.o B.o aa;clear E N G i u HP Z;go_wp2;go_ret;exact Qg.ok ((Qe C.o).trans (Qe W.o)) B.o rfl S.o
end
section
open Go.RowKit
theorem Tryz.infoCommand:(prog.info? 179).map (fun i=>(i.zero,i.size,i.bytes))=some (some .nilIface,1,16):=by kernel_rfl
def blX{α:Type}(X:Nat->Prop)(P:(Nat->Prop)->α->World->Value->Prop)(xs:List α)(w:World)(v:Value):Prop:=
 (xs=[]/\v=.slice none 0 0)\/(xs≠[]/\trX X P xs w v)
theorem blX.keep{α:Type}{X:Nat->Prop}{P:(Nat->Prop)->α->World->Value->Prop}(c:TreeP P){xs:List α}{w w':World}{v:Value}(h:blX X P xs w v)(d:AbvX X w w'):blX X P xs w' v:=by
 rcases h with h | ⟨a,b⟩
 ·exact Qd h
 ·exact Qc ⟨a,b.keep c d⟩
theorem blX.weak{α:Type}{X Y:Nat->Prop}{P:(Nat->Prop)->α->World->Value->Prop}(d:TreeP P){xs:List α}{w:World}{v:Value}(h:blX X P xs w v)(c:∀ k,X k->k<w.heap.size->Y k):blX Y P xs w v:=by
 rcases h with h | ⟨a,b⟩
 ·exact Qd h
 ·exact Qc ⟨a,trX.weak d a b c⟩
theorem blX.of_owns{α:Type}{P:(Nat->Prop)->α->World->Value->Prop}(c:TreeP P){w:World}{base n:Nat}{e:TypeId}{v:Value}{xs:List α}{b:List Value}(h:w.ownsRow base e 1 v n b)(d:n=xs.length)(f:xs=[]->v=.slice none 0 0)(g:QZ (fun a u=>Q5 P base w v a u) xs b):blX (fromB base) P xs w v:=by
 by_cases hx:xs=[]
 ·exact Qd ⟨hx,f hx⟩
 ·exact Qc ⟨hx,trX.of_owns c h d hx g⟩
theorem blX.form{α:Type}{X:Nat->Prop}{P:(Nat->Prop)->α->World->Value->Prop}{xs:List α}{w:World}{v:Value}(h:blX X P xs w v):∃ a n c,v=.slice a n c:=by
 rcases h with⟨_,h⟩ | ⟨_,h⟩
 ·exact⟨_,_,_,h⟩
 ·obtain⟨g,n,c,h⟩:=h.form;exact⟨_,_,_,h⟩
theorem Tr(h:mayL l [[125]] s=.error e):bMr l sub (f+1) acc s=.error e:=by rw[bMr];exact Qi h
theorem Ts(h:mayL l [[125]] s=.ok y)(a:¬ y.1=0):bMr l sub (f+1) acc s=.ok (acc,y.2):=by rw[bMr,Qe h,if_neg a]
theorem Tt(h:mayL l [[125]] s=.ok y)(a:y.1=0)(b:sub y.2=.error e):bMr l sub (f+1) acc s=.error e:=by rw[bMr,Qe h,if_pos a];exact Qi b
theorem Tu{z:α×PS}(h:mayL l [[125]] s=.ok y)(a:y.1=0)(b:sub y.2=.ok z):bMr l sub (f+1) acc s=bMr l sub f (acc++[z.1]) z.2:=by rw[bMr,Qe h,if_pos a];exact Qe b
theorem Tv:∀ z∈([[125]]:Qa),z≠[]:=by decide
theorem EH(sub:PS->Qb (α×PS))(P:(Nat->Prop)->α->World->Value->Prop)(d:Int)(b F:Nat)(t:ByteArray)(s:PS)(A:Value)(x z:Nat)(w:World)(h:RC w b t s A x z)(hF:2*t.size+1<F)(hP:TreeP P)(hS:SubMu t.size sub)(ho:YA 143 w b t A x z d sub P) :
 Calls prog 184 #[.pointer (some ⟨b,0,none⟩),.int .i64 d] w (Qg (blockL t.data.toList F sub s) b t A x z w (blX (fromB w.heap.size) P)):=by
 have H:=I h;have HO:=I ho;have HP:=I hP;have aL:=I hS;have aY:=h.at_.lt;clear h ho hP hS;obtain⟨i0,hi,aU,aV,aW⟩:=info_parts Tryz.infoCommand;go_enter func184,ntmps184;go_wp2_with fail;have ax:=I (Kc b w.heap.size 1 1 [[123]] t s A x z _ (H.o.alloc (.cells (Qw [[123]]).toArray 9)) (JV _ _ rfl) rfl (by decide));refine ax.o.mono ?_;intro e w1 m;rcases m.cases with⟨y,v,hy,rfl,hv,hc,T⟩ | ⟨f,hf,⟨C,G,rfl,D⟩,T⟩
 rotate_left
 ·exact⟨rfl,Qg.err (Qi hf) (((Mod.refl b w).alloc _).trans T) ⟨C,by simp at G;omega,rfl,D⟩⟩
 unfold XY at hv;subst hv;have HY:=I hy;have L:=I hc;have aD:=I (((Mod.refl b w).alloc (.cells (Qw [[123]]).toArray 9)).trans T);have aT:=L.o.mu_le;have aq:=L.o.mu_lt hF;clear m hy hc T ax;go_wp2_with fail
 go_loopw [5] (fun v wr=>∃(B:PS) (i:List α) (W:List Value) (f:Nat),wr.ownsRow w.heap.size 179 1 v i.length W/\QZ (fun a u=>Q5 P w.heap.size wr v a u) i W/\(i=[]->v=.slice none 0 0)/\RC wr b t B A x z/\Mod b w wr/\mu t.size B<f/\i.length+mu t.size B<=1300/\blockL t.data.toList F sub s=bMr t.data.toList sub f i B) (fun _ wr=>muW wr b t.size)
 case atStart=>
  exact⟨y.2,[],[],F,World.ownsRow_nil _ _ _ _,trivial,fun _=>rfl,L.o,aD.o,aq,by simp;omega,Qe HY.o⟩
 case round=>
  obtain⟨B,i,W,f,av,r,au,ay,ab,hf,aX,az⟩:=hrel;obtain⟨f,rfl⟩:∃ g,f=g+1:=⟨f - 1,by omega⟩;have N:=I ay;have aj:=I ab;have Q:=I az;have aI:=I av;have aK:=I r;have aG:=I au;have a0:w.heap.size<=wr.heap.size:=ab.size;clear ay ab az av r au L HY aT aq;go_wp2_with fail;refine(VG b wr.heap.size 1 1 [[125]] t B A x z _ (N.o.alloc _) (YE wr [[125]] _ _ rfl) rfl (by decide)).mono ?_;intro e w3 h3;rcases h3.cases with⟨J,v3,af,rfl,aA,ao,U⟩ | ⟨f3,aQ,⟨C,G,rfl,D⟩,U⟩
  rotate_left
  ·exact⟨rfl,Qg.err (Q.o.trans (Tr aQ)) ((aj.o.alloc _).trans U) ⟨C,by simp at G;omega,rfl,D⟩⟩
  have ac:=GS (l:=t.data.toList) (by simpa using N.o.le) N.o.e0 Tv af;rw[bal]at ac;replace ac:=ac.1;have R:=((Mod.refl b wr).alloc (.cells #[.string ⟨#[125]⟩] 9)).trans U;have p:=I (aj.o.trans R);have Z:=I af;have M:=I ao;have Y:=I (ZV (b:=b) aI.o R (by omega));have ak:=I (aK.o.imp (fun a u c=>Q5.mod HP.o (b:=b) (w':=w3) c R (by omega)));unfold XY at aA;subst aA;clear h3 af ao U R;by_cases m:J.1=0;rotate_left
  ·have aP:((J.1:Int)==0)=false:=by simp;omega
   have K:=I m;have HT:=I (blX.of_owns HP.o Y.o rfl aG.o ak.o);clear m;go_wp2;go_ret;exact Qg.ok (Q.o.trans (Ts Z.o K.o)) p.o HT.o M.o
  have aP:((J.1:Int)==0)=true:=by simp;omega
  have K:=I m;clear m;go_wp2_with fail;refine(HO.o _ J.2 p.o M.o).mono ?_;intro e w4 h4;rcases h4.cases with⟨z4,v4,ag,rfl,ae,ap,q⟩ | ⟨f4,aR,⟨C,G,rfl,D⟩,q⟩
  rotate_left
  ·exact⟨rfl,Qg.err (Q.o.trans (Tt Z.o K.o aR)) (p.o.trans q) ⟨C,Qm p.o.size G,rfl,D⟩⟩
  have aZ:=aL.o J.2 z4 M.o.le M.o.e0 ag;have aM:=I ae;obtain⟨V,X,rfl⟩:=HP.o.form _ _ _ _ ae;have ai:=I (p.o.trans q);have aO:=I ag;have aB:=I ap;have ad:=ZV (b:=b) Y.o q (by omega);have aN:=I (ak.o.imp (fun a u c=>Q5.mod HP.o (b:=b) (w':=w4) c q (by omega)));have aS:=I (fun k n=>(Y.o.lt k n).2);have aC:=I (Q5.new HP.o (base:=w.heap.size) aM.o p.o.size aS.o);have a1:w.heap.size<=w4.heap.size:=ai.o.size;clear h4 ag ap q ae;go_wp2_with (at_builtin;refine wpList_append_own_at _ rfl _ _ 89 rfl w.heap.size 179 i0 .nilIface 1 16 underlying89 hi aU aV aW rfl (by decide) _ _ _ rfl (ad.alloc _) ⟨w4.heap.size,0,none⟩ 1 1 [.iface V X] rfl rfl ?c1 ?c2 ?c3 ?c4 ?c5 ?_)
  case c1=>
   intro j u S
   match j,S with
   |0,S=>simp at S;subst S;simp[Addr.add]
  case c2=>intro u c;simp at c;subst c;rfl
  case c3=>unfold maxLen;omega
  case c4=>omega
  case c5=>simp;omega
  ·intro v' w5 aw E _ aa;have r:∀ k,(u5).ownBlock=some k->w.heap.size<=k:=fun k n=>(ad.lt k n).1
   have aE:=I ((ai.o.alloc (Obj.cells #[.iface V X] 179)).grown E (fun k n=>by have:=r k n;omega));have ah:=I ((aB.o.alloc (Obj.cells #[.iface V X] 179)).grown E (fun k n=>by have:=r k n;omega));have aH:=I aw;have aJ:=I (QZ.snoc (P:=fun a u=>Q5 P w.heap.size w5 v' a u) (aC.o.grown HP.o E aa) (aN.o.imp (fun a u c=>Q5.grown HP.o c E aa)));have ar:muW w5 b t.size<muW wr b t.size:=by rw[ah.o.muEq,N.o.muEq];omega
   have aF:=I ar;clear aw E ar ad r aa;go_wp2;go_roundw
   case rel=>exact⟨z4.2,i++[z4.1],W++[.iface V X],f,by simpa using aH.o,aJ.o,fun hh=>absurd hh (by simp),ah.o,aE.o,by omega,by simp;omega,Q.o.trans (Tu Z.o K.o aO.o)⟩
   case measure=>exact aF.o
def Tw{α β:Type}(X:Nat->Prop)(P1:(Nat->Prop)->β->World->Value->Prop)(P2:(Nat->Prop)->α->World->Value->Prop)(a:β×List α)(w:World)(v:Value):Prop:=
 ∃ u bv,v=.agg #[u,bv]/\P1 X a.1 w u/\blX X P2 a.2 w bv
theorem EI{b:Nat}(h:b<B):¬ fromB B b:=by unfold fromB;omega
theorem EG(tst:PS->Qb (β×PS))(u:(Nat->Prop)->β->World->Value->Prop)(sub:PS->Qb (α×PS))(p:(Nat->Prop)->α->World->Value->Prop)(d:Int)(b F:Nat)(t:ByteArray)(s:PS)(l:Value)(i j:Nat)(w:World)(h:RC w b t s l i j)(hF:2*t.size+1<F)(aj:0<=d)(ak:d<=100)(P:TreeP u)(Q:TreeP p)(R:SubMu t.size sub)(V:YA 186 w b t l i j (d+1) tst u)(W:YA 143 w b t l i j (d+1) sub p) :
 Calls prog 183 #[.pointer (some ⟨b,0,none⟩),.int .i64 d] w (Qg (armL t.data.toList F tst sub s) b t l i j w (Tw (fromB w.heap.size) u p)):=by
 have H:=I h;have ad:=I V;have ae:=I W;have c:=I P;have n:=I Q;have af:=I R;have U:=h.at_.lt;clear h V W P Q R;go_enter func183,ntmps183;go_wp2_with fail;have q:=I ((Mod.refl b w).alloc (.cells #[.nilIface,.slice none 0 0] 298));refine(ad.o _ s q.o (H.o.alloc _)).mono ?_;intro e w1 M;rcases M.cases with⟨y,v,Z,rfl,D,S,g⟩ | ⟨f,C,⟨A,G,rfl,B⟩,g⟩
 rotate_left
 ·exact⟨rfl,Qg.err (Qi C) (q.o.trans g) ⟨A,by simp at G;omega,rfl,B⟩⟩
 have HV:=I D;obtain⟨ty,x,rfl⟩:=c.o.form _ _ _ _ D;have L:=I Z;have HC:=I S;have m:=I (q.o.trans g);have J:=I (Qu (QA w (.cells #[.nilIface,.slice none 0 0] 298)) g (by omega));have ao:w.heap.size<w1.heap.size:=Qh J.o;clear M Z S g D;go_wp2_with fail;refine(EH sub p (d+1) b F t y.2 l i j _ HC.o hF n.o af.o (ae.o.mod m.o)).mono ?_;intro e w2 N;rcases N.cases with⟨z,v2,aa,rfl,E,T,a⟩ | ⟨f,C,⟨A,G,rfl,B⟩,a⟩
 rotate_left
 ·exact⟨rfl,Qg.err ((Qe L.o).trans (Qi C)) (m.o.trans a) ⟨A,Qm m.o.size G,rfl,B⟩⟩
 have ah:=I E;obtain⟨ba,bn,bc,rfl⟩:=E.form;have ag:=I (c.o.keep _ _ _ _ _ HV.o (a.abvX (EI (by simp;omega))));have ai:=I aa;have ab:=I T;have ac:=I (m.o.trans a);have r:=I (Qu J.o a (by omega));have r0:=Qj r.o;have r1:=Qo r.o;have rf:=Qz r.o;clear N aa T a E;go_wp2;have X:¬ fromB (w.heap.size+1) w.heap.size:=by unfold fromB;omega
 have Y:¬ fromB w1.heap.size w.heap.size:=by unfold fromB;omega
 have K:=ag.o;rw[show(w.alloc (.cells #[.nilIface,.slice none 0 0] 298)).heap.size=w.heap.size+1 from by simp]at K;refine bodyPost_ret (v:=.agg #[.iface ty x,.slice ba bn bc]) (by simp[results,results183,go_sem,r0,r1]) rfl (Qg.ok ((Qe L.o).trans (Qe ai.o)) ((ac.o.setNew Qt _ _).setNew Qt _ _) ⟨_,_,rfl,?_,?_⟩ ((ab.o.setNew U _ _).setNew U _ _))
 ·exact c.o.weak _ _ _ _ _ (c.o.keep _ _ _ _ _ (c.o.keep _ _ _ _ _ K (AbvX.set X _ _)) (AbvX.set X _ _)) (fun k hk _=>by unfold fromB at *;omega)
 ·exact blX.weak n.o ((ah.o.keep n.o (AbvX.set Y _ _)).keep n.o (AbvX.set Y _ _)) (fun k hk _=>by unfold fromB at *;omega)
end
section
open Go.RowKit
attribute [local go_sem ↓] Go.wp_at_zero Go.wp_at_succ
abbrev Ft:Obj:=.cells #[.string ⟨#[]⟩,.int .i64 0,.int .i64 0,.string ⟨#[]⟩,.string ⟨#[]⟩] 264
def Nb(l:L8)(s:PS):Qb ((Nat×L8×L8)×PS):=
 Qp (mayL l [Xs,Xt,Xu] s) fun tag s1=>Qp (sL l (fun x=>if isNameL x then 0 else 7) s1) fun v s2=>
  Qp (sL l (fun _=>0) s2) fun x s3=>semi l s3 (tag,zL v,x)
theorem Tx(hw:L8)(q:Nat)(d:Int)(b:Nat)(t:ByteArray)(s:PS)(A:Value)(u z:Nat)(w:World)(h:RC w b t s A u z) :
 Calls prog 125 #[.pointer (some ⟨b,0,none⟩),ZS hw q,.int .i64 d] w (Qg (Nb t.data.toList s) b t A u z w (fun x w' v=>v=.iface 264 (.agg #[.string (sA hw),.int .i64 q,.int .i64 x.1,.string (sA x.2.1),.string (sA x.2.2)]))):=by
 have H:=I h;have aP:=h.at_.lt;have aH:¬ w.heap.size=b:=by omega
 have aI:¬ w.heap.size+1=b:=by omega
 have aJ:¬ w.heap.size+1+1=b:=by omega
 clear h;unfold ZS;go_enter func125,ntmps125;go_upto_region 1 with fail
 go_cut [7] (fun v wc=>∃(T:Nat) (y:Nat×PS),v=.pointer (some ⟨T,0,none⟩)/\mayL t.data.toList [Xs,Xt,Xu] s=.ok y/\RC wc b t y.2 A u z/\Mod b w wc/\w.heap.size<=T/\wc.heap[T]?=some (.cells #[.string (sA hw),.int .i64 q,.int .i64 y.1,.string ⟨#[]⟩,.string ⟨#[]⟩] 264))
 case first=>
  go_region_with (first|(go_at_call 152;refine(RL _).mono ?_;rintro e w' ⟨rfl,rfl⟩;skip)|(go_at_call 180;refine(VG b _ 3 3 [Xs,Xt,Xu] t s A u z _ (by first|exact((H.o.alloc _).alloc _).drew|exact(((H.o.alloc _).alloc _).alloc _).drew) (by first|exact(JV _ _ (by simp)).drew|exact((JV _ _ (by simp)).alloc _).drew) rfl (by decide)).mono ?_;intro e a m;rcases m.cases with⟨y,v,K,rfl,hv,E,i⟩ | ⟨f,p,⟨k,r,rfl,n⟩,i⟩;rotate_left;exact⟨rfl,Qg.err (Qi p) (by first|exact(((Mod.refl b w).alloc _).alloc _).trans (Zt i)|exact((((Mod.refl b w).alloc _).alloc _).alloc _).trans (Zt i)) ⟨k,by simp at r;omega,rfl,n⟩⟩;unfold XY at hv;subst hv;have Z:=Qu (g:=w.heap.size) (o:=.cells #[.string (sA hw),.int .i64 q] 216) (by first|exact Qy (QA _ _)|exact Qy (Qy (QA _ _))) (Zt i) aH;have aF:=Qj Z;have aG:=Qo Z;clear Z;(first|(have c:=Qu (g:=w.heap.size+1) (o:=Ft) (Qy (Zv (by simp))) (Zt i) aI;have t0:=Qj c;have t1:=Qo c;have t2:=QG c;have t3:=QH c;have t4:=QJ c;have tf:=Qz c;have X:=I c;clear c)|(have c:=Qu (g:=w.heap.size+1+1) (o:=Ft) (Zv (by simp)) (Zt i) aJ;have t0:=Qj c;have t1:=Qo c;have t2:=QG c;have t3:=QH c;have t4:=QJ c;have tf:=Qz c;have X:=I c;clear c)|skip);have aK:=i.size;simp at aK;have ap:w.heap.size<a.heap.size:=(by omega);have aN:∀ o,(a.alloc o).cell? ⟨w.heap.size,0,none⟩=some (.string (sA hw)):=(fun o=>by rw[World.cell?_alloc_past _ _ _ ap];exact aF);have aO:∀ o,(a.alloc o).cell? ⟨w.heap.size,1,none⟩=some (.int .i64 q):=(fun o=>by rw[World.cell?_alloc_past _ _ _ ap];exact aG);have j:=I K;have B:=I E;have ab:Hid (Mod b w a):=(by first|exact(((Mod.refl b w).alloc _).alloc _).trans (Zt i)|exact((((Mod.refl b w).alloc _).alloc _).alloc _).trans (Zt i));clear m K E i;skip))
  all_goals (go_wp2_with fail;go_meet)
  all_goals first
   |(have aM:=X;exact⟨_,y,rfl,j.o,((((B.o.setNew (by omega) _ _).setNew (by omega) _ _).setNew (by omega) _ _).setNew (by omega) _ _).setNew (by omega) _ _,((((ab.o.setNew (by omega) _ _).setNew (by omega) _ _).setNew (by omega) _ _).setNew (by omega) _ _).setNew (by omega) _ _,by omega,Qv _ _ _ _ _ _ (Qv _ _ _ _ _ _ (Qv _ _ _ _ _ _ (Qv _ _ _ _ _ _ (Qv _ _ _ _ _ _ X.o))))⟩)
   |exact⟨a.heap.size,y,rfl,j.o,B.o.alloc _,ab.o.alloc _,by omega,QA _ _⟩
 case rest=>
  obtain⟨T,y,rfl,K,E,i,N,Y⟩:=hcut;have aQ:=Qh Y;have ad:b<T:=by omega
  have j:=I K;have B:=I E;have S:=I i;have HB:=I Y;clear K E i Y;go_wp2_with fail;refine(Mv b t y.2 A u z _ B.o).mono ?_;intro e a m;rcases m.cases with⟨D,v1,aa,rfl,ah,ae,F⟩ | ⟨f,p,⟨k,r,rfl,n⟩,F⟩
  rotate_left
  ·exact⟨rfl,Qg.err ((Qe j.o).trans (Qi p)) (S.o.trans F) ⟨k,Qm S.o.size r,rfl,n⟩⟩
  unfold JW at ah;subst ah;have W:=I aa;have aw:=I ae;have aB:=I (S.o.trans F);have aq:=I (Qu HB.o F (by omega))
  have aR:D.1.length<=600:=by
   have m:=(Vf (l:=t.data.toList) (by simpa using B.o.le) aa).2;have h2:=B.o.sz.1;rw[m];exact h2
  clear m aa ae F;go_wp2_with fail;refine(AO (sA D.1) _ (by rw[Zr];omega)).mono ?_;rintro e w2 ⟨rfl,R⟩;have P:=Qu aq.o (Mod.of_below (b:=b) R) (by omega);have t3:=QH P;have tf:=Qz P;have ax:=I (aw.o.below R);have U:=I (aB.o.trans (Mod.of_below (b:=b) R));have ar:=I P;clear P R;go_wp2_with fail;refine(A2 b t D.2 A u z _ (ax.o.setNew ad _ _)).mono ?_;intro e w3 h3;rcases h3.cases with⟨M,v3,ak,rfl,ai,af,G⟩ | ⟨f,p,⟨k,r,rfl,n⟩,G⟩
  rotate_left
  ·exact⟨rfl,Qg.err ((Qe j.o).trans ((Qe W.o).trans (Qi p))) ((U.o.setNew N _ _).trans G) ⟨k,Qm (U.o.setNew N _ _).size r,rfl,n⟩⟩
  unfold JW at ai;subst ai;have Q:=Qu (Qv _ T 3 (.string ⟨(zL D.1).toArray⟩) _ _ ar.o) G (by omega);have t4:=QJ Q;have aL:=Qz Q;have ac:=I ak;have ay:=I af;have aC:=I ((U.o.setNew N 3 (.string ⟨(zL D.1).toArray⟩)).trans G);have au:=I Q;clear Q h3 ak af G t3 tf;go_wp2_with fail;have av:=I (Qv _ T 4 (.string (sA M.1)) _ _ au.o);have az:=I (ay.o.setNew ad 4 (.string (sA M.1)));have V:=I (aC.o.setNew N 4 (.string (sA M.1)));have HP:=I (Kc b w3.heap.size 1 1 [[59]] t M.2 A u z _ (az.o.alloc (.cells (Qw [[59]]).toArray 9)) (JV _ _ (by simp[World.setCell])) rfl (by decide));refine HP.o.mono ?_;intro e L h5;rcases h5.cases with⟨y5,v5,ao,rfl,aj,ag,J⟩ | ⟨f,p,⟨k,r,rfl,n⟩,J⟩
  rotate_left
  ·exact⟨rfl,Qg.err ((Qe j.o).trans ((Qe W.o).trans ((Qe ac.o).trans (Qi p)))) ((V.o.alloc _).trans J) ⟨k,Qm (V.o.alloc _).size r,rfl,n⟩⟩
  unfold XY at aj;subst aj;have C:=Qu (Qy av.o) J (by omega);have q0:=Qj C;have q1:=Qo C;have q2:=QG C;have q3:=QH C;have q4:=QJ C;have aE:=I ao;have aA:=I ag;have aD:=I ((V.o.alloc (.cells (Qw [[59]]).toArray 9)).trans J);clear h5 ao ag J C HP t4 aL;go_wp2;go_ret;exact Qg.ok ((Qe j.o).trans ((Qe W.o).trans ((Qe ac.o).trans (Qe aE.o)))) aD.o rfl aA.o
end
section
open Go.RowKit
def Yf(w:World)(b:Nat)(rv:Value)(req:Qa):Prop:=
 (rv=.slice none 0 0/\req=[])\/∃ g c,rv=.slice (some ⟨g,0,none⟩) req.length c/\g≠b/\Zm w g req/\req≠[]/\req.length<=1000
theorem Yf.mod{b:Nat}{d:Value}(h:Yf w b d req)(m:Mod b w w'):Yf w' b d req:=by
 rcases h with h | ⟨g,c,e,a,f,i,k⟩
 ·exact Qd h
 ·exact Qc ⟨g,c,e,a,fun j l=>YI (f j l) m a,i,k⟩
theorem Fu(w:World)(b:Nat)(a:Value)(req:Qa)(x:L8)(h:Yf w b a req) :
 Calls prog 64 #[a,.string (sA x)] w fun e w'=>e=.returned (.bool (decide (0<wL req x)))/\w'=w:=by
 rcases h with⟨rfl,rfl⟩ | ⟨g,c,rfl,i,d,j,f⟩
 ·exact Tryz.slices_Contains_string_empty none 0 (sA x) w
 ·exact C6 g _ c req x w d rfl f
theorem B3{a:L8}(h:a=Ze\/a=Zf\/a=QN):Zw req a=decide (0<wL req a):=by unfold Zw;rw[if_pos h]
theorem Fv{a:L8}(h:¬(a=Ze\/a=Zf\/a=QN))(b:a=ZW\/a=ZA):Zw req a=decide (0<wL req ZJ):=by unfold Zw;rw[if_neg h,if_pos b]
theorem Ty{a:L8}(h:¬(a=Ze\/a=Zf\/a=QN))(b:¬(a=ZW\/a=ZA)):Zw req a=true:=by unfold Zw;rw[if_neg h,if_neg b]
theorem Gc(d:L8)(req:Qa)(b:Nat)(t:ByteArray)(s:PS)(r:Value)(y z:Nat)(w:World)(h:RC w b t s r y z)(u:Yf w b r req) :
 Calls prog 235 #[.pointer (some ⟨b,0,none⟩),.string (sA d)] w fun e w'=>e=.returned (.bool (Zw req d))/\w'=w:=by
 have A:=YT h.at_;have i:=I (fun x=>Fu w b r req x u)
 obtain⟨B,D,C,v⟩:∃ a n c,r=.slice a n c:=by
  rcases u with⟨h,_⟩ | ⟨g,c,h,_⟩
  ·exact⟨_,_,_,h⟩
  ·exact⟨_,_,_,h⟩
 subst v;clear h u;have j:((sA d).toList==[102,105,108,101,105,110,116,111])=decide (d=Ze):=Um d Ze;have k:((sA d).toList==[114,101,106,101,99,116])=decide (d=Zf):=Um d Zf;have l:((sA d).toList==[101,110,118,101,108,111,112,101])=decide (d=QN):=Um d QN;have m:((sA d).toList==[115,101,116])=decide (d=ZW):=Um d ZW;have p:((sA d).toList==[115,116,114,105,110,103])=decide (d=ZA):=Um d ZA;by_cases a1:d=Ze
 ·have f:=I (B3 (req:=req) (Qd a1));rw[QO a1]at j;clear k l m p;clear a1;go_enter func235,ntmps235;go_wp2_with (go_at_call 64;refine(i.o d).mono ?_;rintro e w' ⟨rfl,rfl⟩);go_ret;exact⟨Zs (by rw[f.o]),rfl⟩
 by_cases a2:d=Zf
 ·have f:=I (B3 (req:=req) (Qc (Qd a2)));rw[Qr a1]at j;rw[QO a2]at k;clear l m p;clear a2 a1;go_enter func235,ntmps235;go_wp2_with (go_at_call 64;refine(i.o d).mono ?_;rintro e w' ⟨rfl,rfl⟩);go_ret;exact⟨Zs (by rw[f.o]),rfl⟩
 by_cases a3:d=QN
 ·have f:=I (B3 (req:=req) (Qc (Qc a3)));rw[Qr a1]at j;rw[Qr a2]at k;rw[QO a3]at l;clear m p;clear a3 a1 a2;go_enter func235,ntmps235;go_wp2_with (go_at_call 64;refine(i.o d).mono ?_;rintro e w' ⟨rfl,rfl⟩);go_ret;exact⟨Zs (by rw[f.o]),rfl⟩
 have q:¬(d=Ze\/d=Zf\/d=QN):=by
  rintro(h|h|h)
  ·exact a1 h
  ·exact a2 h
  ·exact a3 h
 by_cases a4:d=ZW
 ·have f:=I (Fv (req:=req) q (Qd a4));clear q;rw[Qr a1]at j;rw[Qr a2]at k;rw[Qr a3]at l;rw[QO a4]at m;clear p;clear a4 a1 a2 a3;go_enter func235,ntmps235;go_wp2_with (go_at_call 64;refine(i.o ZJ).mono ?_;rintro e w' ⟨rfl,rfl⟩);go_ret;exact⟨Zs (by rw[f.o]),rfl⟩
 by_cases a5:d=ZA
 ·have f:=I (Fv (req:=req) q (Qc a5));clear q;rw[Qr a1]at j;rw[Qr a2]at k;rw[Qr a3]at l;rw[Qr a4]at m;rw[QO a5]at p;clear a5 a1 a2 a3 a4;go_enter func235,ntmps235;go_wp2_with (go_at_call 64;refine(i.o ZJ).mono ?_;rintro e w' ⟨rfl,rfl⟩);go_ret;exact⟨Zs (by rw[f.o]),rfl⟩
 have f:=I (Ty (req:=req) q (by rintro(h|h)<;>contradiction));clear q;rw[Qr a1]at j;rw[Qr a2]at k;rw[Qr a3]at l;rw[Qr a4]at m;rw[Qr a5]at p;clear a1 a2 a3 a4 a5;go_enter func235,ntmps235;go_wp2_with (go_at_call 64;refine(i.o d).mono ?_;rintro e w' ⟨rfl,rfl⟩);go_ret;exact⟨Zs (by rw[f.o]),rfl⟩
end
section
open Go.RowKit
attribute [local go_sem ↓] Go.wp_at_zero Go.wp_at_succ
def slX(X:Nat->Prop)(xs:Qa)(w:World)(v:Value):Prop:=
 ∃ g c,v=.slice (some ⟨g,0,none⟩) xs.length c/\X g/\Zm w g xs/\xs≠[]
theorem slB.toX(h:slB B xs w v):slX (fromB B) xs w v:=h
theorem slX.keep(h:slX X xs w v)(e:AbvX X w w'):slX X xs w' v:=by
 obtain⟨g,c,i,b,f,k⟩:=h;refine⟨g,c,i,b,fun j d=>?_,k⟩;have:=f j d;rw[World.cell?_of_block (w:=w) (a:=⟨g,j,none⟩) (e g b (QI this))];exact this
theorem slX.weak(h:slX X xs w v)(d:∀ k,X k->k<w.heap.size->Y k):slX Y xs w v:=by
 obtain⟨g,c,f,e,a,b⟩:=h;exact⟨g,c,f,d g e (QI (a 0 (List.length_pos_iff.2 b))),a,b⟩
def mtX(X:Nat->Prop)(hw:L8)(x:QX)(w:World)(v:Value):Prop:=
 ∃ fv kv,v=.agg #[.string (sA hw),.int .i64 x.pos,.int .i64 x.tag,.bool x.octet,fv,kv]/\slX X x.fr w fv/\slX X x.keys w kv
def Yg{α:Type}(X:Nat->Prop)(P:(Nat->Prop)->α->World->Value->Prop)(x:QX×List α)(w:World)(v:Value):Prop:=
 match x.1.kind with
 |0=>x.2=[]/\v=.iface 302 (.agg #[.string (sA Jv),.int .i64 x.1.pos,.bool true])
 |1=>x.2=[]/\v=.iface 302 (.agg #[.string (sA Jw),.int .i64 x.1.pos,.bool false])
 |2=>∃ a u,x.2=[a]/\v=.iface 305 (.agg #[.string (sA kNot),.int .i64 x.1.pos,u])/\P X a w u
 |3=>∃ u,v=.iface 224 (.agg #[.string (sA YF),.int .i64 x.1.pos,u])/\trX X P x.2 w u/\x.2≠[]
 |4=>∃ u,v=.iface 225 (.agg #[.string (sA YG),.int .i64 x.1.pos,u])/\trX X P x.2 w u/\x.2≠[]
 |5=>x.2=[]/\∃ u,v=.iface 231 u/\mtX X X7 x.1 w u
 |6=>x.2=[]/\∃ u,v=.iface 234 u/\mtX X QN x.1 w u
 |7=>x.2=[]/\∃ u,v=.iface 235 u/\mtX X ZA x.1 w u
 |8=>x.2=[]/\∃ u,v=.iface 309 (.agg #[.string (sA XO),.int .i64 x.1.pos,u])/\slX X x.1.fr w u
 |_=>x.2=[]/\v=.iface 311 (.agg #[.string (sA Yh),.int .i64 x.1.pos,.int .i64 x.1.tag,.int .i64 x.1.num])
def TestV:(n:Nat)->(Nat->Prop)->QQ n->World->Value->Prop
 |0,_,_,_,_=>False
 |n+1,X,x,w,v=>Yg X (TestV n) x w v
theorem Tz{x:QX×List α}(h:Yg X P x w v):∃ ty y,v=.iface ty y:=by
 unfold Yg at h
 split at h
 ·exact⟨_,_,h.2⟩
 ·exact⟨_,_,h.2⟩
 ·obtain⟨a,u,_,h,_⟩:=h;exact⟨_,_,h⟩
 ·obtain⟨u,h,_⟩:=h;exact⟨_,_,h⟩
 ·obtain⟨u,h,_⟩:=h;exact⟨_,_,h⟩
 ·obtain⟨_,u,h,_⟩:=h;exact⟨_,_,h⟩
 ·obtain⟨_,u,h,_⟩:=h;exact⟨_,_,h⟩
 ·obtain⟨_,u,h,_⟩:=h;exact⟨_,_,h⟩
 ·obtain⟨_,u,h,_⟩:=h;exact⟨_,_,h⟩
 ·exact⟨_,_,h.2⟩
theorem mtX.keep{X:Nat->Prop}{hw:L8}{x:QX}{w w':World}{v:Value}(h:mtX X hw x w v)(a:AbvX X w w'):mtX X hw x w' v:=by
 obtain⟨b,f,c,d,e⟩:=h;exact⟨b,f,c,d.keep a,e.keep a⟩
theorem mtX.weak{X Y:Nat->Prop}{hw:L8}{x:QX}{w:World}{v:Value}(h:mtX X hw x w v)(a:∀ k,X k->k<w.heap.size->Y k):mtX Y hw x w v:=by
 obtain⟨b,f,c,d,e⟩:=h;exact⟨b,f,c,d.weak a,e.weak a⟩
theorem TA(g:TreeP P){x:QX×List α}(h:Yg X P x w v)(e:AbvX X w w'):Yg X P x w' v:=by
 unfold Yg at h ⊢
 split at h
 ·exact h
 ·exact h
 ·obtain⟨a,u,b,c,f⟩:=h;exact⟨a,u,b,c,g.keep _ _ _ _ _ f e⟩
 ·obtain⟨u,b,c,f⟩:=h;exact⟨u,b,c.keep g e,f⟩
 ·obtain⟨u,b,c,f⟩:=h;exact⟨u,b,c.keep g e,f⟩
 ·obtain⟨d,u,b,c⟩:=h;exact⟨d,u,b,c.keep e⟩
 ·obtain⟨d,u,b,c⟩:=h;exact⟨d,u,b,c.keep e⟩
 ·obtain⟨d,u,b,c⟩:=h;exact⟨d,u,b,c.keep e⟩
 ·obtain⟨d,u,b,c⟩:=h;exact⟨d,u,b,c.keep e⟩
 ·exact h
theorem TC(g:TreeP P){x:QX×List α}(h:Yg X P x w v)(f:∀ k,X k->k<w.heap.size->Y k):Yg Y P x w v:=by
 unfold Yg at h ⊢
 split at h
 ·exact h
 ·exact h
 ·obtain⟨a,u,b,c,e⟩:=h;exact⟨a,u,b,c,g.weak _ _ _ _ _ e f⟩
 ·obtain⟨u,b,c,e⟩:=h;exact⟨u,b,trX.weak g e c f,e⟩
 ·obtain⟨u,b,c,e⟩:=h;exact⟨u,b,trX.weak g e c f,e⟩
 ·obtain⟨d,u,b,c⟩:=h;exact⟨d,u,b,c.weak f⟩
 ·obtain⟨d,u,b,c⟩:=h;exact⟨d,u,b,c.weak f⟩
 ·obtain⟨d,u,b,c⟩:=h;exact⟨d,u,b,c.weak f⟩
 ·obtain⟨d,u,b,c⟩:=h;exact⟨d,u,b,c.weak f⟩
 ·exact h
theorem Jg:∀ n,TreeP (TestV n)
 |0=>⟨fun _ _ _ _ h=>h.elim,fun _ _ _ _ _ h=>h.elim,fun _ _ _ _ _ h=>h.elim⟩
 |n+1=>⟨fun _ _ _ _ h=>Tz h,fun _ _ _ _ _ h hk=>TA (Jg n) h hk,fun _ _ _ _ _ h hB=>TC (Jg n) h hB⟩
def B4(w:World)(T:TypeId)(m:Nat)(f:L8->Option Value):Prop:=
 ∀(W:World) (x:L8),W.heap[m]?=w.heap[m]?->(Instr.lookup T (.map (some m)) (.string (sA x)) true).run prog W=.ok (.tuple #[(f x).getD .nilFunc,.bool (f x).isSome]) W
def testFn(b pr pt pf:Nat)(x:L8):Option Value:=
 match wL tNs x with
 |1=>some (.func (.func 185) #[] #[.pointer (some ⟨pt,0,none⟩)])
 |2=>some (.func (.func 185) #[] #[.pointer (some ⟨pf,0,none⟩)])
 |3=>some (.func (.func 128) #[.pointer (some ⟨b,0,none⟩)] #[])
 |4=>some (.func (.func 129) #[] #[.pointer (some ⟨pr,0,none⟩)])
 |5=>some (.func (.func 131) #[] #[.pointer (some ⟨pr,0,none⟩)])
 |6=>some (.func (.func 132) #[] #[.pointer (some ⟨pr,0,none⟩)])
 |7=>some (.func (.func 135) #[] #[.pointer (some ⟨pr,0,none⟩)])
 |8=>some (.func (.func 138) #[] #[.pointer (some ⟨pr,0,none⟩)])
 |9=>some (.func (.func 139) #[.pointer (some ⟨b,0,none⟩)] #[])
 |10=>some (.func (.func 140) #[.pointer (some ⟨b,0,none⟩)] #[])
 |_=>none
structure Y9 (w:World) (b mt pr pt pf:Nat):Prop where
 look:B4 w 208 mt (testFn b pr pt pf)
 hpr:YJ w pr b
 hpt:w.cell? ⟨pt,0,none⟩=some (.bool true)
 hpf:w.cell? ⟨pf,0,none⟩=some (.bool false)
 ptb:pt≠b
 pfb:pf≠b
 mtb:mt≠b
 mtl:mt < w.heap.size
theorem Y9.mod{w w':World}{b mt pr pt pf:Nat}(h:Y9 w b mt pr pt pf)(hm:Mod b w w'):Y9 w' b mt pr pt pf:=
 ⟨fun W x e=>h.look W x (e.trans (hm.block mt h.mtl h.mtb)),h.hpr.mod hm,YI h.hpt hm h.ptb,YI h.hpf hm h.pfb,h.ptb,h.pfb,h.mtb,Nat.lt_of_lt_of_le h.mtl hm.size⟩
theorem Fw{b:Nat}{x:L8}(h:wL tNs x=0):testFn b pr pt pf x=none:=by unfold testFn;rw[h];rfl
theorem TD(d:Int)(b:Nat)(t:ByteArray)(s:PS)(l:Value)(k a pr pt pf:Nat)(w:World)(h:RC w b t s l k a)(p:Y9 w b a pr pt pf)(x:d<=6)(m:wL tNs s.1.spelt=0) :
 Calls prog 222 #[.pointer (some ⟨b,0,none⟩),.map (some a),.int .i64 d] w fun e w'=>Z5 ⟨4,s.1.pos⟩ w e w'/\Mod b w w':=by
 have u:=Qo h.at_;have v:w.cell? ⟨b,3,none⟩=some (.string (sA s.1.spelt)):=h.at_.cell 3;have n:=p.look w s.1.spelt rfl;rw[Fw m]at n;have H:=I h;clear h p m;simp only[Option.getD_none,Option.isSome_none]at n;by_cases hk:s.1.kind=1
 ·have q:((s.1.kind:Int) != 1)=false:=by simp;omega
  clear hk;go_enter func222,ntmps222;go_wp2_with fail;refine(ZE b _ _ _ rfl).mono ?_;rintro e w' ⟨rfl,i⟩;subst i;go_wp2_with fail;refine(XP b 4 _ _ t s.1 s.2 l k a _ H.o.at_ rfl rfl).mono ?_;rintro e r ⟨⟨c,j,rfl,f⟩,g⟩;exact⟨rfl,⟨c,j,rfl,f⟩,Mod.of_below g⟩
 ·have q:((s.1.kind:Int) != 1)=true:=by simp;omega
  clear hk;go_enter func222,ntmps222;go_wp2_with fail;refine(ZE b _ _ _ rfl).mono ?_;rintro e w' ⟨rfl,i⟩;subst i;go_wp2_with fail;refine(XP b 4 _ _ t s.1 s.2 l k a _ H.o.at_ rfl rfl).mono ?_;rintro e r ⟨⟨c,j,rfl,f⟩,g⟩;exact⟨rfl,⟨c,j,rfl,f⟩,Mod.of_below g⟩
end
section
open Go.RowKit
def Je{α β:Type}(X:Nat->Prop)(P1:(Nat->Prop)->β->World->Value->Prop)(P2:(Nat->Prop)->α->World->Value->Prop)(xs:List (β×List α))(w:World)(v:Value):Prop:=
 ∃ g c,v=.slice (some ⟨g,0,none⟩) xs.length c/\X g/\∀ j (hj:j<xs.length),∃ u bv,w.cell? ⟨g,2*j,none⟩=some u/\w.cell? ⟨g,2*j+1,none⟩=some bv/\P1 X xs[j].1 w u/\blX X P2 xs[j].2 w bv
theorem Je.keep{α β:Type}{X:Nat->Prop}{d:(Nat->Prop)->β->World->Value->Prop}{e:(Nat->Prop)->α->World->Value->Prop}(m:TreeP d)(n:TreeP e){xs:List (β×List α)}{w w':World}{v:Value}(h:Je X d e xs w v)(b:AbvX X w w'):Je X d e xs w' v:=by
 obtain⟨g,c,r,f,s⟩:=h;refine⟨g,c,r,f,fun j o=>?_⟩;obtain⟨u,l,k,i,p,q⟩:=s j o;refine⟨u,l,?_,?_,m.keep _ _ _ _ _ p b,q.keep n b⟩
 ·rw[World.cell?_of_block (w:=w) (a:=⟨g,2*j,none⟩) (b g f (QI k))];exact k
 ·rw[World.cell?_of_block (w:=w) (a:=⟨g,2*j+1,none⟩) (b g f (QI i))];exact i
theorem Je.weak{α β:Type}{X Y:Nat->Prop}{a:(Nat->Prop)->β->World->Value->Prop}{b:(Nat->Prop)->α->World->Value->Prop}(l:TreeP a)(m:TreeP b){xs:List (β×List α)}{w:World}{v:Value}(q:xs≠[])(h:Je X a b xs w v)(d:∀ k,X k->k<w.heap.size->Y k):Je Y a b xs w v:=by
 obtain⟨g,c,t,o,i⟩:=h;refine⟨g,c,t,?_,fun j p=>?_⟩
 ·obtain⟨u,f,e,_⟩:=i 0 (List.length_pos_iff.2 q);exact d g o (QI e)
 ·obtain⟨u,f,e,n,r,s⟩:=i j p;exact⟨u,f,e,n,l.weak _ _ _ _ _ r d,s.weak m d⟩
def Ge(hw:L8)(p k:Nat)(x:L8):Value:=.iface 269 (.agg #[.string (sA hw),.int .i64 p,.int .i64 k,.string (sA x)])
def Ko{α β:Type}(X:Nat->Prop)(P1:(Nat->Prop)->β->World->Value->Prop)(P2:(Nat->Prop)->α->World->Value->Prop)(x:Zx×List (β×List α)×List α)(w:World)(v:Value):Prop:=
 match x.1.kind with
 |0=>v=Ge JH x.1.pos 1 []
 |1=>v=.iface 294 (.agg #[.string (sA JI),.int .i64 x.1.pos])
 |2=>v=.iface 295 (.agg #[.string (sA JJ),.int .i64 x.1.pos])
 |3=>v=Ge Ze x.1.pos 2 x.1.arg
 |4=>v=Ge Yn x.1.pos 3 x.1.arg
 |5=>v=Ge Zf x.1.pos 4 x.1.arg
 |6=>v=.iface 264 (.agg #[.string (sA ZW),.int .i64 x.1.pos,.int .i64 x.1.tag,.string (sA x.1.var),.string (sA x.1.arg)])
 |_=>∃ av ev,v=.iface 261 (.agg #[.string (sA kIf),.int .i64 x.1.pos,av,.bool x.1.els,ev])/\Je X P1 P2 x.2.1 w av/\x.2.1≠[]/\blX X P2 x.2.2 w ev
def XS:(n:Nat)->(Nat->Prop)->QF n->World->Value->Prop
 |0,_,_,_,_=>False
 |n+1,X,x,w,v=>Ko X (TestV n) (XS n) x w v
theorem TE(h:Ko X a b x w v):∃ ty y,v=.iface ty y:=by
 unfold Ko Ge at h
 split at h
 ·exact⟨_,_,h⟩
 ·exact⟨_,_,h⟩
 ·exact⟨_,_,h⟩
 ·exact⟨_,_,h⟩
 ·exact⟨_,_,h⟩
 ·exact⟨_,_,h⟩
 ·exact⟨_,_,h⟩
 ·obtain⟨c,d,h,_⟩:=h;exact⟨_,_,h⟩
theorem TF(g:TreeP a)(c:TreeP b)(h:Ko X a b x w v)(d:AbvX X w w'):Ko X a b x w' v:=by
 unfold Ko at h ⊢
 split at h
 ·exact h
 ·exact h
 ·exact h
 ·exact h
 ·exact h
 ·exact h
 ·exact h
 ·obtain⟨e,f,h,i,k,j⟩:=h;exact⟨e,f,h,i.keep g c d,k,j.keep c d⟩
theorem TG(i:TreeP a)(c:TreeP b)(h:Ko X a b x w v)(d:∀ k,X k->k<w.heap.size->Y k):Ko Y a b x w v:=by
 unfold Ko at h ⊢
 split at h
 ·exact h
 ·exact h
 ·exact h
 ·exact h
 ·exact h
 ·exact h
 ·exact h
 ·obtain⟨f,g,h,j,e,l⟩:=h;exact⟨f,g,h,Je.weak i c e j d,e,l.weak c d⟩
theorem Xf:∀ n,TreeP (XS n)
 |0=>⟨fun _ _ _ _ h=>h.elim,fun _ _ _ _ _ h=>h.elim,fun _ _ _ _ _ h=>h.elim⟩
 |n+1=>⟨fun _ _ _ _ h=>TE h,fun _ _ _ _ _ h hk=>TF (Jg n) (Xf n) h hk,fun _ _ _ _ _ h hB=>TG (Jg n) (Xf n) h hB⟩
theorem Rf{acc:List (β×List α)}(h:mayL l [Xe] s=.error e):aMr l F tst sub (f+1) acc s=.error e:=by rw[aMr];exact Qi h
theorem N9{acc:List (β×List α)}(h:mayL l [Xe] s=.ok y)(a:y.1=0):aMr l F tst sub (f+1) acc s=.ok (acc,y.2):=by rw[aMr,Qe h,if_pos a]
theorem Rg{acc:List (β×List α)}(h:mayL l [Xe] s=.ok y)(a:¬ y.1=0)(b:armL l F tst sub y.2=.error e):aMr l F tst sub (f+1) acc s=.error e:=by rw[aMr,Qe h,if_neg a];exact Qi b
theorem Rh{acc:List (β×List α)}{z:(β×List α)×PS}(h:mayL l [Xe] s=.ok y)(a:¬ y.1=0)(b:armL l F tst sub y.2=.ok z):aMr l F tst sub (f+1) acc s=aMr l F tst sub f (acc++[z.1]) z.2:=by rw[aMr,Qe h,if_neg a];exact Qe b
def Yz{α:Type}(P:α->Value->Value->Prop):List α->List Value->Prop
 | [],[]=>True
 |a::xs,u::v::vs=>P a u v/\Yz P xs vs
 |_,_=>False
theorem Yz.imp{α:Type}{P Q:α->Value->Value->Prop}(h:∀ a u v,P a u v->Q a u v):∀ {xs:List α} {vs:List Value},Yz P xs vs->Yz Q xs vs
 | [],[],_=>trivial
 |a::xs,u::v::vs,hr=>⟨h _ _ _ hr.1,Yz.imp h hr.2⟩
 | [],_::_,hr=>hr.elim
 |_::_,[],hr=>hr.elim
 |_::_,[_],hr=>hr.elim
theorem Yz.snoc{α:Type}{P:α->Value->Value->Prop}{a:α}{u v:Value}(h:P a u v):∀ {xs:List α} {vs:List Value},Yz P xs vs->Yz P (xs++[a]) (vs++[u,v])
 | [],[],_=>⟨h,trivial⟩
 |a'::xs,u'::v'::vs,hr=>⟨hr.1,Yz.snoc h hr.2⟩
 | [],_::_,hr=>hr.elim
 |_::_,[],hr=>hr.elim
 |_::_,[_],hr=>hr.elim
theorem Yz.at{α:Type}{P:α->Value->Value->Prop}:∀ {xs:List α} {b:List Value},Yz P xs b->∀ j (c:j<xs.length),∃ u v,b[2*j]?=some u/\b[2*j+1]?=some v/\P xs[j] u v
 | [],[],_,j,c=>absurd c (Nat.not_lt_zero _)
 |a::xs,u::v::b,h,0,_=>⟨u,v,rfl,rfl,h.1⟩
 |a::xs,u::v::b,h,j+1,c=>by
  obtain⟨g,i,d,e,f⟩:=Yz.at h.2 j (by simpa using c);refine⟨g,i,?_,?_,by simpa using f⟩
  ·rw[show 2*(j+1)=2*j+1+1 from by omega];simpa using d
  ·rw[show 2*(j+1)+1=2*j+1+1+1 from by omega];simpa using e
 | [],_::_,h,_,_=>h.elim
 |_::_,[],h,_,_=>h.elim
 |_::_,[_],h,_,_=>h.elim
def Z8{α β:Type}(P1:(Nat->Prop)->β->World->Value->Prop)(P2:(Nat->Prop)->α->World->Value->Prop)(base T:Nat)(w:World)(v:Value)(a:β×List α)(u bv:Value):Prop:=
 ∃ X,P1 X a.1 w u/\blX X P2 a.2 w bv/\(∀ k,X k->base<=k/\k<w.heap.size)/\(∀ g,v.ownBlock=some g->¬ X g)/\¬ X T
theorem Z8.mod(q:TreeP c)(r:TreeP d){b:Nat}{a:β×List α}{g:Value}(h:Z8 c d base T w v a u g)(l:Mod b w w')(s:b<base):Z8 c d base T w' v a u g:=by
 obtain⟨X,m,n,f,o,p⟩:=h;have i:AbvX X w w':=l.abvX (fun e=>by have:=(f b e).1;omega);exact⟨X,q.keep _ _ _ _ _ m i,n.keep r i,fun k j=>⟨(f k j).1,Nat.lt_of_lt_of_le (f k j).2 l.size⟩,o,p⟩
theorem Z8.set{α β:Type}{b:(Nat->Prop)->β->World->Value->Prop}{c:(Nat->Prop)->α->World->Value->Prop}(n:TreeP b)(p:TreeP c){base T:Nat}{w:World}{v:Value}{a:β×List α}{u d:Value}(h:Z8 b c base T w v a u d)(o:Nat)(x:Value):Z8 b c base T (w.setCell ⟨T,o,none⟩ x) v a u d:=by
 obtain⟨X,j,l,e,m,f⟩:=h;have g:AbvX X w (w.setCell ⟨T,o,none⟩ x):=AbvX.set f _ _;exact⟨X,n.keep _ _ _ _ _ j g,l.keep p g,fun k i=>⟨(e k i).1,by simpa[World.setCell]using(e k i).2⟩,m,f⟩
theorem Z8.new{b:(Nat->Prop)->β->World->Value->Prop}{c:(Nat->Prop)->α->World->Value->Prop}(i:TreeP b)(j:TreeP c){a:β×List α}{d:Value}(h:b (fromB B) a.1 w u)(e:blX (fromB B) c a.2 w d)(f:base<=B)(l:∀ g,v.ownBlock=some g->g<B)(m:T<B):Z8 b c base T w v a u d:=
 ⟨fun k=>B<=k/\k<w.heap.size,i.weak _ _ _ _ _ h (fun k hk hz=>⟨hk,hz⟩),e.weak j (fun k hk hz=>⟨hk,hz⟩),fun k hk=>⟨Qm f hk.1,hk.2⟩,fun g hg hX=>by have:=l g hg;omega,fun hX=>by omega⟩
theorem Z8.grown(t:TreeP c)(x:TreeP d){v':Value}{a:β×List α}{j:Value}{o:Obj}(h:Z8 c d base T w v a u j)(p:(w.alloc o).grownBy w' v.ownBlock)(hv:v'.ownBlock=v.ownBlock\/v'.ownBlock=some (w.heap.size+1)):Z8 c d base T w' v' a u j:=by
 obtain⟨X,q,r,f,l,s⟩:=h
 have m:AbvX X w w':=fun k b y=>by
  rw[p.block k (by simp;omega) (fun e=>l k e.symm b)];exact Below.heap_alloc _ _ _ y
 refine⟨X,t.keep _ _ _ _ _ q m,r.keep x m,fun k b=>⟨(f k b).1,?_⟩,fun g i n=>?_,s⟩
 ·have:=(f k b).2;have:=p.size;simp at this;omega
 ·rcases hv with hv|hv
  ·exact l g (hv ▸ i) n
  ·rw[hv]at i;have:=(f g n).2;simp at i;omega
theorem Je.of_owns{d:(Nat->Prop)->β->World->Value->Prop}{f:(Nat->Prop)->α->World->Value->Prop}(x:TreeP d)(y:TreeP f){e:TypeId}{xs:List (β×List α)}{p:List Value}(h:w.ownsRow base e 2 v n p)(D:n=xs.length)(K:xs≠[])(J:∀ g,v.ownBlock=some g->g≠T)(G:Yz (fun a u bv=>Z8 d f base T w v a u bv) xs p):Je (fun k=>base<=k/\k≠T) d f xs w v:=by
 subst D;have l:=fun g (i:v.ownBlock=some g)=>h.cells i
 obtain⟨M,s⟩:=h;rcases s with⟨_,t⟩ | ⟨g,q,L,c,i,r⟩
 ·exact absurd (XB t) K
 ·refine⟨g,q,c,⟨i,J g (by rw[c];rfl)⟩,fun j C=>?_⟩;obtain⟨u,bv,H,B,X,E,F,z,_,A⟩:=G.at j C;have m:=l g (by rw[c];rfl) _ u H;have o:=l g (by rw[c];rfl) _ bv B;rw[Jx]at m o;have b:∀ k,X k->k<w.heap.size->base<=k/\k≠T:=fun k b _=>⟨(z k b).1,fun e=>A (e ▸ b)⟩
  exact⟨u,bv,m,o,x.weak _ _ _ _ _ E b,F.weak y b⟩
end
section
open Go.RowKit
attribute [local go_sem ↓] Go.wp_at_zero Go.wp_at_succ
theorem Zu:∀(zs:Qa) (x:L8) (i:Nat),wL zs x=i+1->zs[i]?=some x
 | [],x,i,h=>by simp[wL]at h
 |s::r,x,i,h=>by
  unfold wL at h
  split at h
  ·rename_i e;have:i=0:=by omega
   subst this;subst e;rfl
  ·split at h
   ·omega
   ·rename_i h1 h2;obtain⟨j,b⟩:∃ j,wL r x=j+1:=⟨wL r x - 1,by omega⟩;have a:i=j+1:=by omega
    subst a;have:=Zu r x j b;simpa using this
theorem Qg.lift{r:Qb (α×PS)}{R:Qb (β×PS)}{b:Nat}{t:ByteArray}{k:Value}{i j:Nat}{W:World}{l:α->World->Value->Prop}{m:β->World->Value->Prop}{e:Ending}(g:α->β)(h:Qg r b t k i j W l e w')(a:Mod b w W)(q:∀ y,r=.ok y->R=.ok (g y.1,y.2))(o:∀ f,r=.error f->R=.error f)(x:∀ y v,r=.ok y->l y.1 w' v->m (g y.1) w' v):Qg R b t k i j w m e w':=by
 rcases h.cases with⟨y,v,d,rfl,u,n,c⟩ | ⟨f,p,s,c⟩
 ·exact Qg.ok (q y d) (a.trans c) (x _ _ d u) n
 ·exact Qg.err (o f p) (a.trans c) (s.up a.size)
theorem KP{f:Flt}(c:wL tNs s.1.spelt=k+1)(b:Zw req s.1.spelt=true)(a:nL l s.2=.error f):Qq l req F (n+1) s=.error f:=by
 rw[Qq,if_neg (by omega),if_pos b];exact Yd a
theorem KQ{y:PS}(a:wL tNs s.1.spelt=k+1)(c:Zw req s.1.spelt=true)(b:nL l s.2=.ok y):Qq l req F (n+1) s=tBd l F (Qq l req F n) k s.1.pos y:=by
 rw[Qq,if_neg (by omega),if_pos c];refine(XV b).trans ?_;show tBd l F (Qq l req F n) (wL tNs s.1.spelt - 1) s.1.pos y=_
 rw[a];rfl
theorem Fx(l:L8)(F:Nat)(sub:PS->Qb (α×PS))(pos:Nat)(s:PS):tBd l F sub 2 pos s=Qp (sub s) fun t s1=>.ok ((⟨2,pos,0,false,[],[],0⟩,[t]),s1):=rfl
theorem TH(l:L8)(F:Nat)(sub:PS->Qb (α×PS))(pos:Nat)(s:PS):tBd l F sub 0 pos s=.ok ((⟨0,pos,0,false,[],[],0⟩,[]),s):=rfl
theorem TI(l:L8)(F:Nat)(sub:PS->Qb (α×PS))(pos:Nat)(s:PS):tBd l F sub 1 pos s=.ok ((⟨1,pos,0,false,[],[],0⟩,[]),s):=rfl
theorem Fy(l:L8)(F:Nat)(sub:PS->Qb (α×PS))(pos:Nat)(s:PS):tBd l F sub 3 pos s=Qp (groupL l F sub s) fun ts s1=>.ok ((⟨3,pos,0,false,[],[],0⟩,ts),s1):=rfl
theorem Fz(l:L8)(F:Nat)(sub:PS->Qb (α×PS))(pos:Nat)(s:PS):tBd l F sub 4 pos s=Qp (groupL l F sub s) fun ts s1=>.ok ((⟨4,pos,0,false,[],[],0⟩,ts),s1):=rfl
theorem FA(l:L8)(F:Nat)(sub:PS->Qb (α×PS))(pos:Nat)(s:PS):tBd l F sub 5 pos s=Qp (ZR l F (fun _=>0) 5 pos s) fun x s1=>.ok ((x,[]),s1):=rfl
theorem FB(l:L8)(F:Nat)(sub:PS->Qb (α×PS))(pos:Nat)(s:PS):tBd l F sub 6 pos s=Qp (ZR l F (KX (XQ 7 [Yy,kTo])) 6 pos s) fun x s1=>.ok ((x,[]),s1):=rfl
theorem FC(l:L8)(F:Nat)(sub:PS->Qb (α×PS))(pos:Nat)(s:PS):tBd l F sub 7 pos s=Qp (ZR l F (fun _=>0) 7 pos s) fun x s1=>.ok ((x,[]),s1):=rfl
theorem FD(l:L8)(F:Nat)(sub:PS->Qb (α×PS))(pos:Nat)(s:PS):tBd l F sub 8 pos s=Qp (sLs l (fun _=>0) F s) fun xs s1=>.ok ((⟨8,pos,0,false,xs,[],0⟩,[]),s1):=rfl
theorem FE(l:L8)(F:Nat)(sub:PS->Qb (α×PS))(pos:Nat)(s:PS):tBd l F sub 9 pos s=Qp (sizeL l pos s) fun x s1=>.ok ((x,[]),s1):=rfl
theorem B5{chk:L8->Nat}{y:QX×PS}(h:ZR l F chk k pos s=.ok y):y.1.kind=k/\y.1.pos=pos:=by
 unfold ZR at h
 cases h1:Zb l F 0 false false s with
 |error f=>rw[Qi h1]at h;cases h
 |ok a=>
  rw[Qe h1]at h
  cases h2:sLs l chk F a.2 with
  |error f=>rw[Qi h2]at h;cases h
  |ok c=>
   rw[Qe h2]at h
   cases h3:sLs l (fun _=>0) F c.2 with
   |error f=>rw[Qi h3]at h;cases h
   |ok e=>rw[Qe h3]at h;cases h;exact⟨rfl,rfl⟩
theorem FF{y:QX×PS}(h:sizeL l pos s=.ok y):y.1.kind=9/\y.1.pos=pos:=by
 unfold sizeL at h
 cases h1:paL l [X3,X4] s with
 |error f=>rw[Qi h1]at h;cases h
 |ok a=>
  rw[Qe h1]at h
  split at h
  ·cases h2:nL l a.2.2 with
   |error f=>rw[Yd h2]at h;cases h
   |ok c=>rw[XV h2]at h;cases h;exact⟨rfl,rfl⟩
  ·cases h
theorem mtV.toX{hw:L8}{x:QX}(h:mtV B hw x w v):mtX (fromB B) hw x w v:=h
theorem Ap{w2:World}{b:Nat}{sp:L8}{p:Nat}(hm:Mod b (w.alloc (.cells #[.string (sA sp),.int .i64 p] 216)).drew w2)(hb:b<w.heap.size):w2.cell? ⟨w.heap.size,0,none⟩=some (.string (sA sp))/\w2.cell? ⟨w.heap.size,1,none⟩=some (.int .i64 p)/\Mod b w w2:=
 ⟨(Ak sp p (Zt hm) hb).1,(Ak sp p (Zt hm) hb).2,((Mod.refl b w).alloc _).trans (Zt hm)⟩
theorem Vl(f:FuncId)(q:Nat)(n:Nat)(req:Qa)(d:Int)(b F:Nat)(t:ByteArray)(s:PS)(c:Value)(i a pr pt pf:Nat)(w:World)(h:RC w b t s c i a)(K:Y9 w b a pr pt pf)(J:Yf w b c req)(ab:0<=d)(hd:d<=6)(T:s.1.kind=1)(L:Zw req s.1.spelt=true)
 (D:testFn b pr pt pf s.1.spelt=some (.func (.func f) #[] #[.pointer (some ⟨q,0,none⟩)])) (aa:∀ args W,(callFunc f args).run prog W=.ok (.enter f args) W) (E:∀ f2,nL t.data.toList s.2=.error f2->Qq t.data.toList req F (n+1) s=.error f2)
 (C:∀ W y,Mod b w W->RC W b t y c i a->nL t.data.toList s.2=.ok y->Calls prog f #[.agg #[.string (sA s.1.spelt),.int .i64 s.1.pos],.int .i64 d,.pointer (some ⟨q,0,none⟩)] W (Qg (Qq t.data.toList req F (n+1) s) b t c i a w (TestV (n+1) (fromB w.heap.size)))) :
 Calls prog 222 #[.pointer (some ⟨b,0,none⟩),.map (some a),.int .i64 d] w (Qg (Qq t.data.toList req F (n+1) s) b t c i a w (TestV (n+1) (fromB w.heap.size))):=by
 have Z:=Qo h.at_;have h2:=QG h.at_;have h3:w.cell? ⟨b,3,none⟩=some (.string (sA s.1.spelt)):=h.at_.cell 3;have p:=K.look w s.1.spelt rfl;rw[D]at p;have H:=I h;have k:=I (Gc s.1.spelt req b t s c i a w h J);rw[L]at k;have Q:=I E;have P:=I C;have U:=h.at_.lt;clear h K J D L E C;simp only[Option.getD_some,Option.isSome_some]at p;have ae:((s.1.kind:Int) != 1)=false:=by simp;omega
 clear T;go_enter func222,ntmps222;go_wp2_with fail;refine(ZE b _ _ _ rfl).mono ?_;rintro e g ⟨rfl,u⟩;subst g;go_wp2_with fail;refine(ZE b _ _ _ rfl).mono ?_;rintro e g ⟨rfl,u⟩;subst g;go_wp2_with fail;refine k.o.mono ?_;rintro e g ⟨rfl,u⟩;subst g;go_wp2_with fail;refine(ZE b _ _ _ rfl).mono ?_;rintro e g ⟨rfl,u⟩;subst g;clear k p;go_wp2_with fail;go_region
 all_goals go_wp2_with fail
 all_goals
  refine(Jk b t s c i a _ ((H.o.alloc _).drew)).mono ?_;rintro e w2 (⟨y,hy,rfl,hc,hm⟩ | ⟨f2,hf2,⟨l,x,rfl,m⟩,hm⟩)
 all_goals first
  |exact⟨rfl,Qg.err (Q.o _ hf2) (((Mod.refl b w).alloc _).trans (Zt hm)) ⟨l,by simp at x;omega,rfl,m⟩⟩
  |skip
 all_goals
  obtain⟨ac,ad,r⟩:=Ap hm U;have X:=I r;have V:=I hc;have N:=I (P.o _ y r hc hy);clear hm hc hy r;go_wp2_with fail;refine N.o.mono ?_;intro e w3 A;have z:=I A;clear A;rcases z.o.cases with⟨q,v,G,rfl,M,B,j⟩ | ⟨Y,S,⟨l,x,rfl,m⟩,j⟩
 all_goals first
  |exact⟨rfl,Qg.err S j ⟨l,x,rfl,m⟩⟩
  |skip
 all_goals
  have R:=I (Qg.ok G j M B);clear G j M B z;go_wp2;go_ret;exact R.o
theorem B6(f:FuncId)(n:Nat)(req:Qa)(d:Int)(b F:Nat)(t:ByteArray)(s:PS)(c:Value)(i a pr pt pf:Nat)(w:World)(h:RC w b t s c i a)(K:Y9 w b a pr pt pf)(J:Yf w b c req)(ab:0<=d)(hd:d<=6)(T:s.1.kind=1)(L:Zw req s.1.spelt=true)
 (D:testFn b pr pt pf s.1.spelt=some (.func (.func f) #[.pointer (some ⟨b,0,none⟩)] #[])) (aa:∀ args W,(callFunc f args).run prog W=.ok (.enter f args) W) (E:∀ f2,nL t.data.toList s.2=.error f2->Qq t.data.toList req F (n+1) s=.error f2)
 (C:∀ W y,Mod b w W->RC W b t y c i a->nL t.data.toList s.2=.ok y->Calls prog f #[.pointer (some ⟨b,0,none⟩),.agg #[.string (sA s.1.spelt),.int .i64 s.1.pos],.int .i64 d] W (Qg (Qq t.data.toList req F (n+1) s) b t c i a w (TestV (n+1) (fromB w.heap.size)))) :
 Calls prog 222 #[.pointer (some ⟨b,0,none⟩),.map (some a),.int .i64 d] w (Qg (Qq t.data.toList req F (n+1) s) b t c i a w (TestV (n+1) (fromB w.heap.size))):=by
 have Z:=Qo h.at_;have h2:=QG h.at_;have h3:w.cell? ⟨b,3,none⟩=some (.string (sA s.1.spelt)):=h.at_.cell 3;have p:=K.look w s.1.spelt rfl;rw[D]at p;have H:=I h;have k:=I (Gc s.1.spelt req b t s c i a w h J);rw[L]at k;have Q:=I E;have P:=I C;have U:=h.at_.lt;clear h K J D L E C;simp only[Option.getD_some,Option.isSome_some]at p;have ae:((s.1.kind:Int) != 1)=false:=by simp;omega
 clear T;go_enter func222,ntmps222;go_wp2_with fail;refine(ZE b _ _ _ rfl).mono ?_;rintro e g ⟨rfl,u⟩;subst g;go_wp2_with fail;refine(ZE b _ _ _ rfl).mono ?_;rintro e g ⟨rfl,u⟩;subst g;go_wp2_with fail;refine k.o.mono ?_;rintro e g ⟨rfl,u⟩;subst g;go_wp2_with fail;refine(ZE b _ _ _ rfl).mono ?_;rintro e g ⟨rfl,u⟩;subst g;clear k p;go_wp2_with fail;go_region
 all_goals go_wp2_with fail
 all_goals
  refine(Jk b t s c i a _ ((H.o.alloc _).drew)).mono ?_;rintro e w2 (⟨y,hy,rfl,hc,hm⟩ | ⟨f2,hf2,⟨l,x,rfl,m⟩,hm⟩)
 all_goals first
  |exact⟨rfl,Qg.err (Q.o _ hf2) (((Mod.refl b w).alloc _).trans (Zt hm)) ⟨l,by simp at x;omega,rfl,m⟩⟩
  |skip
 all_goals
  obtain⟨ac,ad,r⟩:=Ap hm U;have X:=I r;have V:=I hc;have N:=I (P.o _ y r hc hy);clear hm hc hy r;go_wp2_with fail;refine N.o.mono ?_;intro e w3 A;have z:=I A;clear A;rcases z.o.cases with⟨q,v,G,rfl,M,B,j⟩ | ⟨Y,S,⟨l,x,rfl,m⟩,j⟩
 all_goals first
  |exact⟨rfl,Qg.err S j ⟨l,x,rfl,m⟩⟩
  |skip
 all_goals
  have R:=I (Qg.ok G j M B);clear G j M B z;go_wp2;go_ret;exact R.o
end
section
open Go.RowKit
theorem TJ:∀ z∈tNs,∀ c r,z=c::r->QP c.toNat=true:=by
 intro z a c r e;simp[tNs]at a;rcases a with h|h|h|h|h|h|h|h|h|h<;>subst h<;>cases e<;>decide
theorem TK:∀ z∈tNs,z≠[]:=by decide
theorem FG{x:L8}(h:¬ wL zs x=0):x∈zs:=by
 obtain⟨i,a⟩:∃ i,wL zs x=i+1:=⟨wL zs x - 1,by omega⟩;exact List.mem_of_getElem? (Zu zs x i a)
theorem FH(f:¬ s.1.kind=1->VF s.1.spelt)(h:¬ wL tNs s.1.spelt=0):s.1.kind=1:=by
 apply Classical.byContradiction;intro e;have b:=FG h;have g:=TK _ b
 cases hsp:s.1.spelt with
 |nil=>exact g hsp
 |cons c r=>
  have d:=TJ _ b c r hsp;have a:=f e c r hsp;rw[d]at a;cases a
theorem TL(q:Value)(req:Qa)(d:Int)(b:Nat)(t:ByteArray)(s:PS)(c:Value)(f a pr pt pf:Nat)(w:World)(h:RC w b t s c f a)(l:Y9 w b a pr pt pf)(k:Yf w b c req)(A:d<=6)(u:s.1.kind=1)(i:testFn b pr pt pf s.1.spelt=some q)(m:Zw req s.1.spelt=false) :
 Calls prog 222 #[.pointer (some ⟨b,0,none⟩),.map (some a),.int .i64 d] w fun e w'=>Z5 ⟨6,s.1.pos⟩ w e w'/\Mod b w w':=by
 have y:=Qo h.at_;have z:w.cell? ⟨b,3,none⟩=some (.string (sA s.1.spelt)):=h.at_.cell 3;have j:=l.look w s.1.spelt rfl;rw[i]at j;have H:=I h;have g:=I (Gc s.1.spelt req b t s c f a w h k);rw[m]at g;clear h l k i m;simp only[Option.getD_some,Option.isSome_some]at j;have B:((s.1.kind:Int) != 1)=false:=by simp;omega
 clear u;go_enter func222,ntmps222;go_wp2_with fail;refine(ZE b _ _ _ rfl).mono ?_;rintro e w' ⟨rfl,n⟩;subst w';go_wp2_with fail;refine(ZE b _ _ _ rfl).mono ?_;rintro e w' ⟨rfl,n⟩;subst w';go_wp2_with fail;refine g.o.mono ?_;rintro e w' ⟨rfl,n⟩;subst w';go_wp2_with fail;refine(XP b 6 _ _ t s.1 s.2 c f a _ H.o.at_ rfl rfl).mono ?_;rintro e C ⟨⟨p,x,rfl,r⟩,v⟩;exact⟨rfl,⟨p,x,rfl,r⟩,Mod.of_below v⟩
theorem TM(b:Nat)(t:ByteArray)(s:PS)(m:Value)(l a pr pt pf:Nat)(w:World)(h:RC w b t s m l a)(j:Y9 w b a pr pt pf) :
 Calls prog 222 #[.pointer (some ⟨b,0,none⟩),.map (some a),.int .i64 7] w fun e w'=>Z5 ⟨if s.1.kind=1 then 5 else 4,s.1.pos⟩ w e w'/\Mod b w w':=by
 have q:=Qo h.at_;have r:w.cell? ⟨b,3,none⟩=some (.string (sA s.1.spelt)):=h.at_.cell 3;have g:=j.look w s.1.spelt rfl;have H:=I h;by_cases hk:s.1.kind=1
 ·rw[if_pos hk];have n:((s.1.kind:Int) != 1)=false:=by simp;omega
  clear hk h j g;go_enter func222,ntmps222;go_wp2_with fail;refine(XP b 5 _ _ t s.1 s.2 m l a _ H.o.at_ rfl rfl).mono ?_;rintro e p ⟨⟨d,k,rfl,f⟩,i⟩;exact⟨rfl,⟨d,k,rfl,f⟩,Mod.of_below i⟩
 ·rw[if_neg hk]
  have c:wL tNs s.1.spelt=0:=by
   apply Classical.byContradiction;intro c;exact hk (FH h.nm c)
  rw[Fw c]at g;have n:((s.1.kind:Int) != 1)=true:=by simp;omega
  clear hk h j c;simp only[Option.getD_none,Option.isSome_none]at g;go_enter func222,ntmps222;go_wp2_with fail;refine(ZE b _ _ _ rfl).mono ?_;rintro e w' ⟨rfl,u⟩;subst w';go_wp2_with fail;refine(XP b 4 _ _ t s.1 s.2 m l a _ H.o.at_ rfl rfl).mono ?_;rintro e p ⟨⟨d,k,rfl,f⟩,i⟩;exact⟨rfl,⟨d,k,rfl,f⟩,Mod.of_below i⟩
theorem TN{b:Nat}{x:L8}(h:¬ wL tNs x=0):∃ fv,testFn b pr pt pf x=some fv:=by
 have c:=YU tNs x;have a:tNs.length=10:=rfl;unfold testFn;generalize wL tNs x=i at *;rcases(by omega:i=1\/i=2\/i=3\/i=4\/i=5\/i=6\/i=7\/i=8\/i=9\/i=10)with h|h|h|h|h|h|h|h|h|h<;>subst h<;>exact⟨_,rfl⟩
theorem TO(n:Nat)(req:Qa)(d:Int)(b F:Nat)(t:ByteArray)(s:PS)(g:Value)(i c pr pt pf:Nat)(w:World)(h:RC w b t s g i c)(o:Y9 w b c pr pt pf)(B:Yf w b g req)(hF:2*t.size+1<F)(r:0<=d)(z:d<=6)(M:SubMu t.size (Qq t.data.toList req F n))(L:YA 186 w b t g i c (d+1) (Qq t.data.toList req F n) (TestV n)) :
 Calls prog 222 #[.pointer (some ⟨b,0,none⟩),.map (some c),.int .i64 d] w (Qg (Qq t.data.toList req F (n+1) s) b t g i c w (TestV (n+1) (fromB w.heap.size))):=by
 by_cases h0:wL tNs s.1.spelt=0
 ·refine(TD d b t s g i c pr pt pf w h o z h0).mono ?_;rintro e P ⟨J,K⟩;exact Qg.err (by rw[Qq,if_pos h0]) K J
 have A:=FH h.nm h0;cases hu:Zw req s.1.spelt
 ·obtain⟨N,hf⟩:=TN (b:=b) (pr:=pr) (pt:=pt) (pf:=pf) h0;refine(TL N req d b t s g i c pr pt pf w h o B z A hf hu).mono ?_;rintro e P ⟨J,K⟩;exact Qg.err (by rw[Qq,if_neg h0,if_neg (by rw[hu];decide)]) K J
 have R:=YU tNs s.1.spelt;have Q:tNs.length=10:=rfl;rcases(by omega:wL tNs s.1.spelt=0+1\/wL tNs s.1.spelt=1+1\/wL tNs s.1.spelt=2+1\/wL tNs s.1.spelt=3+1\/wL tNs s.1.spelt=4+1\/wL tNs s.1.spelt=5+1\/wL tNs s.1.spelt=6+1\/wL tNs s.1.spelt=7+1\/wL tNs s.1.spelt=8+1\/wL tNs s.1.spelt=9+1)with hi|hi|hi|hi|hi|hi|hi|hi|hi|hi
 ·refine Vl 185 pt n req d b F t s g i c pr pt pf w h o B r z A hu (by unfold testFn;rw[hi];rfl) (fun _ _=>by kernel_rfl) (fun C l=>KP hi hu l) (fun W y HM j p=>?_);have m:s.1.spelt=Jv:=by have:=Zu _ _ _ hi;simpa[tNs]using this.symm
  have HE:=KQ (F:=F) (n:=n) hi hu p;refine(E6 s.1.spelt s.1.pos d pt true _ (o.mod HM).hpt).mono ?_;intro e D h3';obtain⟨rfl,E⟩:=h3';exact Qg.ok (HE.trans (TH _ _ _ _ _)) (HM.trans (Mod.of_below E)) ⟨rfl,by rw[m]⟩ (j.below E)
 ·refine Vl 185 pf n req d b F t s g i c pr pt pf w h o B r z A hu (by unfold testFn;rw[hi];rfl) (fun _ _=>by kernel_rfl) (fun C l=>KP hi hu l) (fun W y HM j p=>?_);have m:s.1.spelt=Jw:=by have:=Zu _ _ _ hi;simpa[tNs]using this.symm
  have HE:=KQ (F:=F) (n:=n) hi hu p;refine(E6 s.1.spelt s.1.pos d pf false _ (o.mod HM).hpf).mono ?_;intro e D h3';obtain⟨rfl,E⟩:=h3';exact Qg.ok (HE.trans (TI _ _ _ _ _)) (HM.trans (Mod.of_below E)) ⟨rfl,by rw[m]⟩ (j.below E)
 ·refine B6 128 n req d b F t s g i c pr pt pf w h o B r z A hu (by unfold testFn;rw[hi];rfl) (fun _ _=>by kernel_rfl) (fun C l=>KP hi hu l) (fun W y HM j p=>?_);have m:s.1.spelt=kNot:=by have:=Zu _ _ _ hi;simpa[tNs]using this.symm
  have HE:=KQ (F:=F) (n:=n) hi hu p;refine(R4 (Qq t.data.toList req F n) (TestV n) s.1.spelt s.1.pos d b t y g i c _ j r (by omega) (Jg n) (L.mod HM)).mono ?_;intro e D h3';exact Qg.lift (fun a=>((⟨2,s.1.pos,0,false,[],[],0⟩:QX),[a])) h3' HM (fun q hq=>HE.trans ((Fx _ _ _ _ _).trans (Qe hq))) (fun f hf=>HE.trans ((Fx _ _ _ _ _).trans (Qi hf))) (fun a v _ hv=>by obtain⟨u,rfl,hu⟩:=hv;exact⟨a.1,u,rfl,by rw[m],(Jg n).weak _ _ _ _ _ hu (fun k hk _=>Qm HM.size hk)⟩)
 ·refine Vl 129 pr n req d b F t s g i c pr pt pf w h o B r z A hu (by unfold testFn;rw[hi];rfl) (fun _ _=>by kernel_rfl) (fun C l=>KP hi hu l) (fun W y HM j p=>?_);have m:s.1.spelt=YF:=by have:=Zu _ _ _ hi;simpa[tNs]using this.symm
  have HE:=KQ (F:=F) (n:=n) hi hu p;refine(Ti (Qq t.data.toList req F n) (TestV n) s.1.spelt s.1.pos d pr b F t y g i c _ j (o.mod HM).hpr hF r (by omega) (Jg n) M (L.mod HM)).mono ?_;intro e D h3';exact Qg.lift (fun H=>((⟨3,s.1.pos,0,false,[],[],0⟩:QX),H)) h3' HM (fun q hq=>HE.trans ((Fy _ _ _ _ _).trans (Qe hq))) (fun f hf=>HE.trans ((Fy _ _ _ _ _).trans (Qi hf))) (fun a v _ hv=>by obtain⟨u,rfl,hu,G⟩:=hv;exact⟨u,by rw[m],trX.weak (Jg n) G hu (fun k hk _=>Qm HM.size hk),G⟩)
 ·refine Vl 131 pr n req d b F t s g i c pr pt pf w h o B r z A hu (by unfold testFn;rw[hi];rfl) (fun _ _=>by kernel_rfl) (fun C l=>KP hi hu l) (fun W y HM j p=>?_);have m:s.1.spelt=YG:=by have:=Zu _ _ _ hi;simpa[tNs]using this.symm
  have HE:=KQ (F:=F) (n:=n) hi hu p;refine(Tj (Qq t.data.toList req F n) (TestV n) s.1.spelt s.1.pos d pr b F t y g i c _ j (o.mod HM).hpr hF r (by omega) (Jg n) M (L.mod HM)).mono ?_;intro e D h3';exact Qg.lift (fun H=>((⟨4,s.1.pos,0,false,[],[],0⟩:QX),H)) h3' HM (fun q hq=>HE.trans ((Fz _ _ _ _ _).trans (Qe hq))) (fun f hf=>HE.trans ((Fz _ _ _ _ _).trans (Qi hf))) (fun a v _ hv=>by obtain⟨u,rfl,hu,G⟩:=hv;exact⟨u,by rw[m],trX.weak (Jg n) G hu (fun k hk _=>Qm HM.size hk),G⟩)
 ·refine Vl 132 pr n req d b F t s g i c pr pt pf w h o B r z A hu (by unfold testFn;rw[hi];rfl) (fun _ _=>by kernel_rfl) (fun C l=>KP hi hu l) (fun W y HM j p=>?_);have m:s.1.spelt=X7:=by have:=Zu _ _ _ hi;simpa[tNs]using this.symm
  have HE:=KQ (F:=F) (n:=n) hi hu p;refine(RZ s.1.spelt s.1.pos d pr b F t y g i c _ j (o.mod HM).hpr hF).mono ?_;intro e D h3'
  exact Qg.lift (fun x=>(x,[])) h3' HM (fun q hq=>HE.trans ((FA _ _ _ _ _).trans (Qe hq))) (fun f hf=>HE.trans ((FA _ _ _ _ _).trans (Qi hf))) (fun a v ha hv=>by
   obtain⟨u,rfl,hu⟩:=hv;rw[m]at hu;show Yg _ _ _ _ _
   unfold Yg;rw[(B5 ha).1]
   exact ⟨rfl,u,rfl,hu.toX.weak (fun k hk _=>Qm HM.size hk)⟩)
 ·refine Vl 135 pr n req d b F t s g i c pr pt pf w h o B r z A hu (by unfold testFn;rw[hi];rfl) (fun _ _=>by kernel_rfl) (fun C l=>KP hi hu l) (fun W y HM j p=>?_);have m:s.1.spelt=QN:=by have:=Zu _ _ _ hi;simpa[tNs]using this.symm
  have HE:=KQ (F:=F) (n:=n) hi hu p;refine(Tm s.1.spelt s.1.pos d pr b F t y g i c _ j (o.mod HM).hpr hF).mono ?_;intro e D h3'
  exact Qg.lift (fun x=>(x,[])) h3' HM (fun q hq=>HE.trans ((FB _ _ _ _ _).trans (Qe hq))) (fun f hf=>HE.trans ((FB _ _ _ _ _).trans (Qi hf))) (fun a v ha hv=>by
   obtain⟨u,rfl,hu⟩:=hv;rw[m]at hu;show Yg _ _ _ _ _
   unfold Yg;rw[(B5 ha).1]
   exact ⟨rfl,u,rfl,hu.toX.weak (fun k hk _=>Qm HM.size hk)⟩)
 ·refine Vl 138 pr n req d b F t s g i c pr pt pf w h o B r z A hu (by unfold testFn;rw[hi];rfl) (fun _ _=>by kernel_rfl) (fun C l=>KP hi hu l) (fun W y HM j p=>?_);have m:s.1.spelt=ZA:=by have:=Zu _ _ _ hi;simpa[tNs]using this.symm
  have HE:=KQ (F:=F) (n:=n) hi hu p;refine(R0 s.1.spelt s.1.pos d pr b F t y g i c _ j (o.mod HM).hpr hF).mono ?_;intro e D h3'
  exact Qg.lift (fun x=>(x,[])) h3' HM (fun q hq=>HE.trans ((FC _ _ _ _ _).trans (Qe hq))) (fun f hf=>HE.trans ((FC _ _ _ _ _).trans (Qi hf))) (fun a v ha hv=>by
   obtain⟨u,rfl,hu⟩:=hv;rw[m]at hu;show Yg _ _ _ _ _
   unfold Yg;rw[(B5 ha).1]
   exact ⟨rfl,u,rfl,hu.toX.weak (fun k hk _=>Qm HM.size hk)⟩)
 ·refine B6 139 n req d b F t s g i c pr pt pf w h o B r z A hu (by unfold testFn;rw[hi];rfl) (fun _ _=>by kernel_rfl) (fun C l=>KP hi hu l) (fun W y HM j p=>?_);have m:s.1.spelt=XO:=by have:=Zu _ _ _ hi;simpa[tNs]using this.symm
  have HE:=KQ (F:=F) (n:=n) hi hu p;refine(R1 s.1.spelt s.1.pos d b F t y g i c _ j hF).mono ?_;intro e D h3';exact Qg.lift (fun H=>((⟨8,s.1.pos,0,false,H,[],0⟩:QX),[])) h3' HM (fun q hq=>HE.trans ((FD _ _ _ _ _).trans (Qe hq))) (fun f hf=>HE.trans ((FD _ _ _ _ _).trans (Qi hf))) (fun a v _ hv=>by obtain⟨u,rfl,hu⟩:=hv;exact⟨rfl,u,by rw[m],hu.toX.weak (fun k hk _=>Qm HM.size hk)⟩)
 ·refine B6 140 n req d b F t s g i c pr pt pf w h o B r z A hu (by unfold testFn;rw[hi];rfl) (fun _ _=>by kernel_rfl) (fun C l=>KP hi hu l) (fun W y HM j p=>?_);have m:s.1.spelt=Yh:=by have:=Zu _ _ _ hi;simpa[tNs]using this.symm
  have HE:=KQ (F:=F) (n:=n) hi hu p;refine(Tn s.1.spelt s.1.pos d b t y g i c _ j).mono ?_;intro e D h3'
  exact Qg.lift (fun x=>(x,[])) h3' HM (fun q hq=>HE.trans ((FE _ _ _ _ _).trans (Qe hq))) (fun f hf=>HE.trans ((FE _ _ _ _ _).trans (Qi hf))) (fun a v ha hv=>by
   rw[m]at hv;show Yg _ _ _ _ _
   unfold Yg;rw[(FF ha).1];refine⟨rfl,?_⟩
   rw [hv,(FF ha).2])
theorem FI(r:Qb (α×PS))(n:α->World->Value->Prop)(d:Int)(b:Nat)(t:ByteArray)(s:PS)(g:Value)(f a:Nat)(w:World)(h:RC w b t s g f a)
 (j:Calls prog 222 #[.pointer (some ⟨b,0,none⟩),.map (some a),.int .i64 d] w (Qg r b t g f a w n)) :
 Calls prog 186 #[.pointer (some ⟨b,0,none⟩),.int .i64 d] w (Qg r b t g f a w n):=by
 have C:=JU h.at_;have p:=I j;clear j h;go_enter func186,ntmps186;go_wp2_with fail;refine p.o.mono ?_;intro e D i;rcases i.cases with⟨q,v,l,rfl,m,k,c⟩ | ⟨B,z,⟨x,A,rfl,y⟩,c⟩
 ·have u:=I (Qg.ok l c m k);clear i l c m k;go_wp2;go_ret;exact u.o
 ·exact⟨rfl,Qg.err z c ⟨x,A,rfl,y⟩⟩
theorem FJ(req:Qa)(b F:Nat)(t:ByteArray)(c:Value)(d a pr pt pf:Nat)(hF:2*t.size+1<F)(f:∀ n,SubMu t.size (Qq t.data.toList req F n)) :
 ∀(n:Nat),n<=7->∀(w:World),Y9 w b a pr pt pf->Yf w b c req->YA 186 w b t c d a (7 - (n:Int)) (Qq t.data.toList req F n) (TestV n)
 |0,_,w,ht,hr=>fun W s hm hc=>by
  refine FI _ _ _ b t s c d a W hc ?_;refine(TM b t s c d a pr pt pf W hc (ht.mod hm)).mono ?_;rintro e k ⟨g,i⟩;refine Qg.err ?_ i g;rw[Qq];split<;>rfl
 |n+1,hn,w,ht,hr=>fun W s hm hc=>by
  refine FI _ _ _ b t s c d a W hc ?_;have j:=FJ req b F t c d a pr pt pf hF f n (by omega) W (ht.mod hm) (hr.mod hm);have e:(7:Int) - ((n+1:Nat):Int)+1=7 - (n:Int):=by omega
  exact TO n req _ b F t s c d a pr pt pf W hc (ht.mod hm) (hr.mod hm) hF (by omega) (by omega) (f n) (by rw[e];exact j)
theorem TP(t:ByteArray)(req:Qa)(F n:Nat):SubMu t.size (Qq t.data.toList req F n):=fun s y h1 h2 e=>by
 have:=(U4 n s ⟨by simpa using h1,h2⟩ y e).2;rw[bal]at this;omega
theorem FK(t:ByteArray)(req:Qa)(F n:Nat):SubMu t.size (cmdL t.data.toList req F n):=fun s y h1 h2 e=>by
 have:=(U3 n s ⟨by simpa using h1,h2⟩ y e).2;rw[bal]at this;omega
theorem TQ(req:Qa)(b F:Nat)(t:ByteArray)(rv:Value)(mc mt pr pt pf:Nat)(hF:2*t.size+1<F)(n:Nat)(hn:n<=7)(w:World)(ht:Y9 w b mt pr pt pf)(hr:Yf w b rv req) :
 YA 186 w b t rv mc mt (7 - (n:Int)) (Qq t.data.toList req F n) (TestV n):=
 FJ req b F t rv mc mt pr pt pf hF (TP t req F) n hn w ht hr
end
end Go.Proofs.YtgnkjijocdmniaaGreatDoor
