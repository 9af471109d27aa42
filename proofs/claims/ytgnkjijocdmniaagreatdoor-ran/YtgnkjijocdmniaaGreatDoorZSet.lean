import Derived.Test.YtgnkjijocdmniaaGreatDoorZVHeld
namespace Go.Proofs.YtgnkjijocdmniaaGreatDoor
set_option linter.all false
set_option maxRecDepth 100000
set_option maxHeartbeats 4000000
open Go.Proofs.Tryz
open Go.RowKit
variable{α:Type}{B C E F G a b base c f g i j k mc mt n pr tag:Nat}{H cv m rv u v:Value}{P:(Nat->Prop)->α->World->Value->Prop}{X:Nat->Prop}{acc:List α}{chk:L8->Nat}{d:Int}{e:Flt}{hw l:L8}{o:Obj}{oct:Bool}{s:PS}{sub:PS->Qq (α×PS)}{t:ByteArray}{w w':World}{xs zs:Qn}{y:Nat×PS}{z:L8×PS}
def muW(w:World)(b n:Nat):Nat:=
 match w.heap[b]? with
 |some (.cells cs _ _)=>2*(n-(intOf (cs.getD 6 undef)).toNat)+(if intOf (cs.getD 1 undef)=0 then 0 else 1)
 |_=>0
theorem RC.muEq{d:Value}(h:RC w b t s d a c):muW w b t.size=mu t.size s:=by
 unfold muW;rw[h.at_];simp[Cb,intOf,mu]
theorem XP{e:TypeId}{size:Nat}{xs:List Value}(h:w.ownsRow base e size v n xs)(l:Mod b w w')(o:b<base):w'.ownsRow base e size v n xs:=by
 obtain⟨i,a⟩:=h;refine⟨i,?_⟩;rcases a with a | ⟨g,d,f,m,j,c,r⟩
 .exact Qt a
 .have k:g<w.heap.size:=by
   rcases Ki g w.heap.size with h'|h'
   .exact h'
   .rw[GH h']at c;cases c
  exact Qr ⟨g,d,f,m,j,by rw[l.block g k I];exact c,r⟩
theorem Mod.grown{u:World}{a:Option Nat}(h:Mod b u w)(hg:w.grownBy w' a)(hr:∀k,a=some k->u.heap.size<=k):Mod b u w':=
 ⟨hg.os.trans h.os,hg.tape.trans h.tape,hg.output.trans h.output,QE h.size hg.size,fun k hk hn=>
  (hg.block k (Yq hk h.size) (fun e=>by have:=hr k e.symm;omega)).trans (h.block k hk hn)⟩
theorem RC.grown{i:Value}{d:Nat}{g:Option Nat}(h:RC w b t s i d f)(j:w.grownBy w' g)(n:∀k,g=some k->b<k):RC w' b t s i d f:=by
 have p:=h.at_.lt;have o:=h.b1;have c:∀k,k<=b->w'.heap[k]?=w.heap[k]?:=fun k q=>j.block k I (fun e=>by have:=n k e.symm;omega)
 refine⟨by unfold RAt;rw[c b QF];exact h.at_,h.le,?_,h.b1,h.hs,h.sz,h.e0,h.nm⟩;obtain⟨m,l⟩:=h.m;exact⟨m,by rw[Xo (a:=⟨1,0,none⟩) (c 1 I)];exact l⟩
def Abv(B:Nat)(w w':World):Prop:=∀k,B<=k->k<w.heap.size->w'.heap[k]?=w.heap[k]?
theorem Mod.abv(h:Mod b w w')(hb:b<B):Abv B w w':=fun k hB hk=>h.block k hk I
theorem Abv.set(hg:g<B)(o:Nat)(v:Value):Abv B w (w.setCell ⟨g,o,none⟩ v):=fun k hB _=>Q' (by show k≠g;omega)
def slB(B:Nat)(xs:Qn)(w:World)(v:Value):Prop:=
 ∃g c,v=Qs g xs.length c/\B<=g/\ZQ w g xs/\xs≠[]
theorem slB.of_owns{w:World}{base n:Nat}{v:Value}{xs:Qn}(h:w.ownsRow base 9 1 v n (QW xs))(j:n=xs.length)(c:xs≠[]):slB base xs w v:=by
 subst j;obtain⟨e,f⟩:=h;rcases f with⟨_,i⟩ | ⟨g,a,d,k,b,r⟩
 .exact absurd (XV i) c
 .subst k;exact⟨g,a,rfl,b,ZQ.of_owns (base:=base) ⟨e,Qr ⟨g,a,d,rfl,b,r⟩⟩,c⟩
theorem slB.keep(h:slB B xs w v)(e:Abv B w w'):slB B xs w' v:=by
 obtain⟨g,c,i,b,f,k⟩:=h;refine⟨g,c,i,b,fun j d=>?_,k⟩;have:=f j d;rw[Xo (w:=w) (a:=⟨g,j,none⟩) (e g b (QX this))];exact this
theorem slB.weak{B':Nat}(h:slB B xs w v)(b:B'<=B):slB B' xs w v:=by
 obtain⟨g,c,a,d,r⟩:=h;exact⟨g,c,a,I,r⟩
theorem slB.form(h:slB B xs w v):∃g n c,v=Qs g n c:=by
 obtain⟨g,c,a,_⟩:=h;exact⟨g,_,c,a⟩
def Vg(w:World)(b:Nat)(t:ByteArray)(rv:Value)(mc mt:Nat)(cv:Value)(chk:L8->Nat):Prop:=
 ∀(W:World) (s:PS),Mod b w W->RC W b t s rv mc mt->Calls prog 179 #[Qc b,cv] W (Qy (sL t.data.toList chk s) b t rv mc mt W Ut)
theorem Rz{f:Flt}(h:mayL l [[91]] s=.error f):sLs l chk F s=.error f:=by unfold sLs;rw[h]
theorem Fj{f:Flt}(h:mayL l [[91]] s=.ok y)(a:sL l chk y.2=.error f):sLs l chk F s=.error f:=by unfold sLs;rw[h];dsimp only;rw[a]
theorem Sp(h:mayL l [[91]] s=.ok y)(b:sL l chk y.2=.ok z)(a:y.1=0):sLs l chk F s=.ok ([z.1],z.2):=by unfold sLs;rw[h];dsimp only;rw[b];dsimp only;rw[Qi a]
theorem R_(h:mayL l [[91]] s=.ok y)(b:sL l chk y.2=.ok z)(a:¬y.1=0):sLs l chk F s=moreL l chk F [z.1] z.2:=by unfold sLs;rw[h];dsimp only;rw[b];dsimp only;rw[Qg a]
theorem RX{acc:Qn}(h:paL l [[44],[93]] s=.error e):moreL l chk (f+1) acc s=.error e:=by rw[moreL,h]
theorem QuM{acc:Qn}(h:paL l [[44],[93]] s=.ok y)(a:¬y.1=1):moreL l chk (f+1) acc s=.ok (acc,y.2):=by rw[moreL,h];dsimp only;rw[Qg a]
theorem SR{acc:Qn}(h:paL l [[44],[93]] s=.ok y)(a:y.1=1)(b:sL l chk y.2=.error e):moreL l chk (f+1) acc s=.error e:=by rw[moreL,h];dsimp only;rw[Qi a,b]
theorem Qya{acc:Qn}(h:paL l [[44],[93]] s=.ok y)(a:y.1=1)(b:sL l chk y.2=.ok z):moreL l chk (f+1) acc s=moreL l chk f (acc++[z.1]) z.2:=by rw[moreL,h];dsimp only;rw[Qi a,b]
theorem RC.mu_le{d:Value}(h:RC w b t s d a c):mu t.size s<=1201:=by
 have:=h.hs;unfold mu;split<;>omega
theorem bal(t:ByteArray):t.data.toList.length=t.size:=Qh
theorem Qx7:∀z∈([[44],[93]]:Qn),z≠[]:=Qb
theorem Bm(h:RC w b t s H E G)(X:Vg w b t H E G cv chk)(hF:mu t.size s<F):Calls prog 188 #[Qc b,cv] w (Qy (sLs t.data.toList chk F s) b t H E G w (slB w.heap.size)):=by
 have ap:=h.at_.lt;change Qd _ at X;replace h:=O h;go_enter func188,ntmps188;go_wp2_with fail;refine(NS 1 1 (h.o.alloc _) (Ju w [[91]] rfl) rfl Qb).mono ?_;intro e w1 m;rcases m.cases with⟨y,v,x,rfl,q,c,a⟩ | ⟨f,C,⟨i,p,rfl,n⟩,a⟩
 rotate_left
 .exact⟨rfl,Qy.err (Rz C) (((Mod.refl b w).alloc _).trans a) ⟨i,by simp at p;omega,rfl,n⟩⟩
 have d:=O (((Mod.refl b w).alloc _).trans a);have S:=O c;unfold YP at q;subst q;clear m c a;change Qd _ at x;by_cases h0:y.1=0
 .skip;have aw:((y.1:Int)==0)=true:=by simp;omega
  change Qd _ at h0;go_wp2_with fail;refine(X _ y.2 d S).mono ?_;intro e Y B;rcases B.cases with⟨z,v,A,rfl,q,c,a⟩ | ⟨f,C,⟨i,p,rfl,n⟩,a⟩
  rotate_left
  .exact⟨rfl,Qy.err (Fj x C) (d.o.trans a) ⟨i,QE d.size p,rfl,n⟩⟩
  unfold Ut at q;subst q;clear B;change Qd _ at A a;replace c:=O c;go_wp2;go_ret;refine Qy.ok (Sp x A h0) ((d.o.trans a).alloc _) ?_ (c.o.alloc _);have m:=d.size;have B:=a.size;exact⟨Y.heap.size,1,rfl,I,Ju Y [z.1] rfl,Qh⟩
 .skip;have aw:((y.1:Int)==0)=false:=by simp;omega
  change Qd _ at h0;go_wp2_with fail;refine(X _ y.2 d S).mono ?_;intro e Y B;rcases B.cases with⟨z,v,A,rfl,q,c,a⟩ | ⟨f,C,⟨i,p,rfl,n⟩,a⟩
  rotate_left
  .exact⟨rfl,Qy.err (Fj x C) (d.o.trans a) ⟨i,QE d.size p,rfl,n⟩⟩
  unfold Ut at q;subst q;clear B;change Qd _ at A a;replace c:=O c;obtain⟨i0,hi,aD,aE,aF⟩:=ZU Tryz.infoStr;have W:=GS (l:=t.data.toList) (by simpa using S.le) A;have V:=AN (l:=t.data.toList) (zs:=[[91]]) (by simpa using h.le) h.e0 Qb x;rw[bal]at V W;replace V:=V.1;replace W:=W.1;have aA:=c.mu_le;have aC:=QE d.size a.size;go_wp2_with fail
  go_loopw [5] (fun v wr=>∃(J:PS) (r:Qn) (f:Nat),wr.ownsRow w.heap.size 9 1 v r.length (QW r)/\r≠[]/\RC wr b t J H E G/\Mod b w wr/\mu t.size J<f/\r.length+mu t.size J<=1300/\sLs t.data.toList chk F s=moreL t.data.toList chk f r J) (fun _ wr=>muW wr b t.size)
  case atStart=>
   refine⟨z.2,[z.1],F,?_,Qh,c.o.alloc _,(d.o.trans a).alloc _,I,by simp;omega,R_ x A h0⟩;exact World.ownsRow_lit (e:=9) (size:=1) Y #[Qf z.1] 1 aC (by unfold maxLen;omega) rfl
  case round=>
   obtain⟨J,r,f,ae,aB,D,N,C,aG,P⟩:=hrel;obtain⟨f,rfl⟩:∃g,f=g+1:=⟨f-1,I⟩;have aI:=N.size;clear S c x A V W aA;change Qd _ at P;replace D:=O D;replace N:=O N;replace ae:=O ae;go_wp2_with fail;refine(UG 2 2 (D.o.alloc _) (Ju wr [[44],[93]] rfl) rfl Qb).mono ?_;intro e w3 h3;rcases h3.cases with⟨Z,v3,Q,rfl,ar,T,L⟩ | ⟨f3,ay,⟨i,p,rfl,n⟩,L⟩
   rotate_left
   .exact⟨rfl,Qy.err (P.o.trans (RX ay)) ((N.o.alloc _).trans L) ⟨i,by simp at p;omega,rfl,n⟩⟩
   have ac:=B7 (l:=t.data.toList) (by simpa using D.le) D.e0 Qx7 Q;rw[bal]at ac;replace ac:=ac.1;have K:=O ((N.o.alloc _).trans L);have ao:=O (XP (ae.o.alloc _) L ap);unfold YP at ar;subst ar;clear h3 L;change Qd _ at Q;replace T:=O T;by_cases m:Z.1=1;rotate_left
   .have ax:((Z.1:Int)==1)=false:=by simp;omega
    change Qd _ at m;go_wp2;go_ret;exact Qy.ok (P.o.trans (QuM Q m)) K (slB.of_owns ao rfl aB) T
   have ax:((Z.1:Int)==1)=true:=by simp;omega
   change Qd _ at m;go_wp2_with fail;refine(X _ Z.2 K T).mono ?_;intro e w4 h4;rcases h4.cases with⟨R,v4,ai,rfl,au,aa,M⟩ | ⟨f4,az,⟨i,p,rfl,n⟩,M⟩
   rotate_left
   .exact⟨rfl,Qy.err (P.o.trans (SR Q m az)) (K.o.trans M) ⟨i,QE K.size p,rfl,n⟩⟩
   have ad:=GS (l:=t.data.toList) (by simpa using T.le) ai;rw[bal]at ad;replace ad:=ad.1;unfold Ut at au;subst au;have ak:=O (K.o.trans M);have af:=XP ao M ap;have aH:=ak.size;clear h4 M;change Qd _ at ai;replace aa:=O aa;go_wp2_with (at_builtin;refine XM _ rfl _ _ 61 rfl w.heap.size 9 i0 (.string ⟨#[]⟩) 1 16 underlying61 hi aD aE aF rfl Qb _ _ _ rfl (af.alloc _) ⟨w4.heap.size,0,none⟩ 1 1 [Qf R.1] rfl rfl ?c1 ?c2 ?c3 ?c4 ?c5 ?_)
   case c1=>
    intro j u U
    match j,U with
    |0,U=>simp at U;subst U;simp[Addr.add]
   case c2=>intro u hu;simp at hu;subst hu;rfl
   case c3=>unfold maxLen;omega
   case c4=>omega
   case c5=>simp;omega
   .intro v' w5 ag ab _;have ah:∀k,(u5).ownBlock=some k->w.heap.size<=k:=fun k hk=>(af.lt k hk).1
    have av:=O ((ak.o.alloc (Obj.cells #[Qf R.1] 9)).grown ab ah);have aj:=O ((aa.o.alloc (Obj.cells #[Qf R.1] 9)).grown ab (fun k hk=>by have:=ah k hk;omega));rw[Jw]at ag;have aq:muW w5 b t.size<muW wr b t.size:=by rw[aj.muEq,D.muEq];omega
    clear ab af ah;change Qd _ at aq;replace ag:=O ag;go_wp2;go_roundw
    case rel=>exact⟨R.2,r++[R.1],f,by simpa using ag.o,Qh,aj,av,I,by simp;omega,P.o.trans (Qya Q m ai)⟩
    case measure=>exact aq
theorem QY(h:w.heap[g]?=some o)(a:Mod b w w')(c:g≠b):w'.heap[g]?=some o:=by
 rw[a.block g (QI h) c];exact h
theorem R8:Calls prog 223 #[] w fun e w'=>e=.returned (Qs w.heap.size 3 3)/\w'=w.alloc (.cells (QW [tIs,ZW,ZX]).toArray 9):=by
 go_enter func223,ntmps223;go_wp2;go_ret;exact⟨rfl,rfl⟩
theorem S6:Calls prog 152 #[] w fun e w'=>e=.returned (Qs w.heap.size 3 3)/\w'=w.alloc (.cells (QW [Yn,Ym,Yj]).toArray 9):=by
 go_enter func152,ntmps152;go_wp2;go_ret;exact⟨rfl,rfl⟩
theorem Tc:Calls prog 191 #[] w fun e w'=>e=.returned (Qs w.heap.size 2 2)/\w'=w.alloc (.cells (QW [JI,JE]).toArray 9):=by
 go_enter func191,ntmps191;go_wp2;go_ret;exact⟨rfl,rfl⟩
theorem Mod.setNew{u:World}(h:Mod b u w)(hg:u.heap.size<=g)(o:Nat)(v:Value):Mod b u (w.setCell ⟨g,o,none⟩ v):=
 ⟨h.os,h.tape,h.output,by have:=h.size;simpa[World.setCell]using this,fun k hk hn=>(Q' (by show k≠g;omega)).trans (h.block k hk hn)⟩
theorem RC.setNew{e:Value}{d:Nat}(h:RC w b t s e c d)(j:b<g)(o:Nat)(v:Value):RC (w.setCell ⟨g,o,none⟩ v) b t s e c d:=by
 have i:=h.b1;refine⟨?_,h.le,?_,h.b1,h.hs,h.sz,h.e0,h.nm⟩
 .unfold RAt;rw[Q' (by show b≠g;omega)];exact h.at_
 .obtain⟨m,f⟩:=h.m;exact⟨m,by rw[Xo (w:=w) (a:=⟨1,0,none⟩) (Q' (by show 1≠g;omega))];exact f⟩
theorem CV(h:w.heap[g]?=some o)(b:g≠a):(w.setCell ⟨a,k,none⟩ v).heap[g]?=some o:=by
 rw[Q' b];exact h
theorem Tf{a:Bool}(h:¬wL [tIs,ZW,ZX] s.1.spelt=0)(b:¬tag=0):ZH l (f+1) tag oct a s=.error ⟨7,s.1.pos⟩:=by
 rw[ZH,Qg h,Qg b]
theorem Sr{a:Bool}(h:¬wL [tIs,ZW,ZX] s.1.spelt=0)(c:tag=0)(b:nL l s.2=.error e):ZH l (f+1) tag oct a s=.error e:=by
 rw[ZH,Qg h,Qi c,nextThen,b]
theorem Qx3{a:Bool}{y:PS}(h:¬wL [tIs,ZW,ZX] s.1.spelt=0)(c:tag=0)(b:nL l s.2=.ok y):ZH l (f+1) tag oct a s=ZH l f (wL [tIs,ZW,ZX] s.1.spelt) oct a y:=by
 rw[ZH,Qg h,Qi c,nextThen,b]
theorem Qyl{a:Bool}(h:wL [tIs,ZW,ZX] s.1.spelt=0)(b:wL [Yb] s.1.spelt=0):ZH l (f+1) tag oct a s=.ok ((max tag 1,oct),s):=by
 rw[ZH,Qi h,Qi b]
theorem Tv(h:wL [tIs,ZW,ZX] s.1.spelt=0)(a:¬wL [Yb] s.1.spelt=0):ZH l (f+1) tag oct true s=.error ⟨7,s.1.pos⟩:=by
 rw[ZH,Qi h,Qg a,Qi rfl]
theorem Ss(h:wL [tIs,ZW,ZX] s.1.spelt=0)(a:¬wL [Yb] s.1.spelt=0)(b:nL l s.2=.error e):ZH l (f+1) tag oct false s=.error e:=by
 rw[ZH,Qi h,Qg a,Qg Qb,nextThen,b]
theorem Tz{y:PS}(h:wL [tIs,ZW,ZX] s.1.spelt=0)(a:¬wL [Yb] s.1.spelt=0)(b:nL l s.2=.ok y)(c:sL l (YK 7 [XR,Ko]) y=.error e):ZH l (f+1) tag oct false s=.error e:=by
 rw[ZH,Qi h,Qg a,Qg Qb,YV b];exact QC c
theorem Qw5{y:PS}(h:wL [tIs,ZW,ZX] s.1.spelt=0)(a:¬wL [Yb] s.1.spelt=0)(b:nL l s.2=.ok y)(c:sL l (YK 7 [XR,Ko]) y=.ok z):ZH l (f+1) tag oct false s=ZH l f tag (decide (z.1=XR)) true z.2:=by
 rw[ZH,Qi h,Qg a,Qg Qb,YV b];exact Qx c
theorem Qyu:∀z∈[tIs,ZW,ZX],z≠[]:=Qb
theorem Pz:∀z∈[Yb],z≠[]:=Qb
theorem FE(hz:∀z∈zs,z≠[])(he:s.1.kind=0->s.1.spelt=[])(h:¬wL zs s.1.spelt=0):¬s.1.kind=0:=fun e=>h (by rw[he e];exact Aq hz)
def Gh(hw:L8)(hp tag:Nat)(oct:Bool):Array Value:=#[Qf hw,Qa hp,Qa tag,.bool oct,Qp,Qp]
def Cz(hw:L8)(hp:Nat)(o:Nat×Bool)(_:World)(v:Value):Prop:=v=.agg (Gh hw hp o.1 o.2)
theorem T0(x:Nat){k:Value}(h:RC w b t s k i j)(hF:mu t.size s<F):Calls prog 187 #[Qc b,.agg #[Qf hw,Qa x]] w (Qy (ZH t.data.toList F 0 false false s) b t k i j w (Cz hw x)):=by
 have H:=O h;have aN:=h.at_.lt;clear h;go_enter func187,ntmps187;go_wp2_with fail
 go_loopw [6,7] (fun c6 _ wr=>∃(a:PS) (d:Nat) (n P:Bool) (f:Nat),c6=.bool P/\wr.heap[w.heap.size+1+1]?=some (Qe (Gh hw x d n) 227)/\wr.heap[w.heap.size+1]?=some (Qe #[.string ⟨#[]⟩,Qa 0,Qa 0,.bool false,Qp,Qp] 227)/\RC wr b t a k i j/\Mod b w wr/\mu t.size a<f/\d<=3/\ZH t.data.toList F 0 false false s=ZH t.data.toList f d n P a) (fun _ _ wr=>muW wr b t.size)
 case atStart=>
  refine⟨s,0,false,false,F,rfl,?_,?_,((H.o.alloc _).alloc _).alloc _,(((Mod.refl b w).alloc _).alloc _).alloc _,hF,I,rfl⟩
  .exact ZB Qh
  .exact QJ (ZB Qh)
 case round=>
  obtain⟨a,d,n,P,f,rfl,Q,hR,A,X,hf,aM,B⟩:=hrel;obtain⟨f,rfl⟩:∃g,f=g+1:=⟨f-1,I⟩;have HR:=O A;have aS:=O X;have aP:=O B;have HM:=O Q;have aT:=O hR;have aj:=O (BI 3 3 (A.alloc (.cells (QW [tIs,ZW,ZX]).toArray 9)).at_ (Ju wr [tIs,ZW,ZX] rfl) rfl Qb);have ah:=KK [tIs,ZW,ZX] a.1.spelt;have aB:=O (FE (zs:=[tIs,ZW,ZX]) (s:=a) Qyu A.e0);have aC:=O (FE (zs:=[Yb]) (s:=a) Pz A.e0);clear A X B Q hR;go_wp2_with (go_at_call 223;refine Qu (R8) ?_);refine aj.mono ?_;rintro e S ⟨rfl,rfl⟩;by_cases h1:wL [tIs,ZW,ZX] a.1.spelt=0
  .have H1:=O h1;have aD:¬(0:Int)<(wL [tIs,ZW,ZX] a.1.spelt:Int):=I
   obtain⟨W,m⟩:=Q3 (wr.alloc (.cells (QW [tIs,ZW,ZX]).toArray 9));rw[<-m];have J:Hid (RC W b t a k i j):=by rw[m];exact HR.o.alloc _
   have E:Hid (Mod b w W):=by rw[m];exact aS.o.alloc _
   have ad:Hid (W.heap[w.heap.size+1+1]?=some (Qe (Gh hw x d n) 227)):=by rw[m];exact QJ HM
   have af:Hid (W.heap[w.heap.size+1]?=some (Qe #[.string ⟨#[]⟩,Qa 0,Qa 0,.bool false,Qp,Qp] 227)):=by rw[m];exact QJ aT
   have av:=O (BI 1 1 (J.o.alloc (.cells (QW [Yb]).toArray 9)).at_ (Ju W [Yb] rfl) rfl Qb);clear h1 aj m ah;go_wp2_with fail;refine av.mono ?_;rintro e S ⟨rfl,ak⟩;subst ak;obtain⟨V,K⟩:=Q3 (W.alloc (.cells (QW [Yb]).toArray 9));rw[<-K];have T:Hid (RC V b t a k i j):=by rw[K];exact J.o.alloc _
   have aQ:Hid (Mod b w V):=by rw[K];exact E.o.alloc _
   have q:Hid (V.heap[w.heap.size+1+1]?=some (Qe (Gh hw x d n) 227)):=by rw[K];exact QJ ad
   have D:Hid (V.heap[w.heap.size+1]?=some (Qe #[.string ⟨#[]⟩,Qa 0,Qa 0,.bool false,Qp,Qp] 227)):=by rw[K];exact QJ af
   have aO:w.heap.size+1+1<V.heap.size:=QI q;clear K av;by_cases h2:wL [Yb] a.1.spelt=0
   .have H2:=O h2;have aE:¬(0:Int)<(wL [Yb] a.1.spelt:Int):=I
    have m0:=Zs q;have m1:=Q9 q;have m2:=Xx q;have m3:=XU q;have m4:=YF q;have m5:=J1 q;have mf:=QQ q;have r0:=Zs D;have r1:=Q9 D;have r2:=Xx D;have r3:=XU D;have r4:=YF D;have r5:=J1 D;have rf:=QQ D;clear h2;go_wp2;have L:b<w.heap.size+1:=I
    have ag:b<w.heap.size+1+1:=I
    have M:w.heap.size<=w.heap.size+1:=I
    have aI:w.heap.size<=w.heap.size+1+1:=I
    refine Q_ (v:=.agg #[Qf hw,Qa x,Qa (max (d:Int) 1),.bool n,Qp,Qp]) (by simp[results,results187,go_sem,r0,r1,r2,r3,r4,r5]) rfl (Qy.ok (aP.o.trans (Qyl H1 H2)) (((((((aQ.setNew aI _ _).setNew M _ _).setNew M _ _).setNew M _ _).setNew M _ _).setNew M _ _).setNew M _ _) ?_ (((((((T.setNew ag _ _).setNew L _ _).setNew L _ _).setNew L _ _).setNew L _ _).setNew L _ _).setNew L _ _));unfold Cz Gh;have:(max (d:Int) 1)=((max d 1:Nat):Int):=I
    rw[this]
   .have H2:=O h2;have aE:(0:Int)<(wL [Yb] a.1.spelt:Int):=I
    clear h2;cases P;rotate_left
    .go_wp2_with fail;refine(YJ 7 T.o.at_ rfl rfl).mono ?_;rintro e w1 ⟨⟨r,C,rfl,u⟩,c⟩;exact⟨rfl,Qy.err (aP.o.trans (Tv H1 H2)) (aQ.o.trans (Mod.of_below c)) ⟨r,QE aQ.size C,rfl,u⟩⟩
    go_wp2_with fail;refine Qv (Xe b rfl) ?_;rintro S ak;subst ak;go_wp2_with fail;refine(Km T).mono ?_;rintro e p (⟨y,hy,rfl,hc,c⟩ | ⟨f2,R,⟨r,C,rfl,u⟩,c⟩);rotate_left
    .exact⟨rfl,Qy.err (aP.o.trans (Ss H1 H2 R)) (aQ.o.trans c) ⟨r,QE aQ.size C,rfl,u⟩⟩
    have Y:=J' (l:=t.data.toList) (s:=a) (by simpa using T.le) (aC H2) hy;rw[bal]at Y;have ac:=O (aQ.o.trans c);have aR:=O hc;have Z:=O (QY q c I);have aa:=O (QY D c I);have HY:=O hy;clear hc c hy;go_wp2_with (go_at_call 137;refine Qu (DX) ?_);obtain⟨U,G⟩:=Q3 (((p.alloc (Qe #[.string ⟨#[105,59,111,99,116,101,116]⟩,.string ⟨#[105,59,97,115,99,105,105,45,99,97,115,101,109,97,112]⟩] 9)).alloc (Qe #[Qa 7] 33)).alloc (Qe #[Qs p.heap.size 2 2] 61))
    have ay:Hid (UK U (p.heap.size+1+1) (p.heap.size+1) p.heap.size 2 2 7 [XR,Ko]):=by
     rw[G];refine⟨?_,?_,?_,rfl,Qb⟩
     .exact Qj (ZB Qh) 0
     .exact Qj (QJ (ZB Qh)) 0
     .exact((Ju p [XR,Ko] rfl).below (QH _)).below (QH _)
    have ap:Hid (RC U b t y k i j):=by rw[G];exact((aR.o.alloc _).alloc _).alloc _
    have ae:Hid (Mod b w U):=by rw[G];exact((ac.o.alloc _).alloc _).alloc _
    have az:Hid (U.heap[w.heap.size+1+1]?=some (Qe (Gh hw x d n) 227)):=by rw[G];exact QJ (QJ (QJ Z))
    have aA:Hid (U.heap[w.heap.size+1]?=some (Qe #[.string ⟨#[]⟩,Qa 0,Qa 0,.bool false,Qp,Qp] 227)):=by rw[G];exact QJ (QJ (QJ aa))
    rw[<-G];clear G;refine(FV ap ay).mono ?_;intro e w3 h3;rcases h3.cases with⟨z,v,ao,rfl,hv,aq,N⟩ | ⟨f3,aH,⟨r,C,rfl,u⟩,N⟩
    rotate_left
    .exact⟨rfl,Qy.err (aP.o.trans (Tz H1 H2 HY aH)) (ae.o.trans N) ⟨r,QE ae.size C,rfl,u⟩⟩
    unfold Ut at hv;subst hv;have ai:=GS (l:=t.data.toList) (by simpa using ap.le) ao;rw[bal]at ai;replace ai:=ai.1;have ax:=O (ae.o.trans N);have aU:=O aq;have ab:=O (QY az N I);have aw:=O (QY aA N I);have aW:=O ao;have m3:=XU ab;have mf:=QQ ab;clear h3 ao aq N;have ag:b<w.heap.size+1+1:=I
    go_wp2;have aK:((sA z.1).toList==[105,59,111,99,116,101,116])=decide (z.1=XR):=K9 z.1 XR;rw[aK];have au:=aU.setNew ag 3 (.bool (decide (z.1=XR)));refine⟨⟨z.2,d,decide (z.1=XR),true,f,rfl,QM ab,CV aw I,au,ax.setNew I _ _,I,aM,aP.o.trans (Qw5 H1 H2 HY aW)⟩,?_⟩;rw[au.muEq,HR.muEq];omega
  .have H1:=O h1;have aD:(0:Int)<(wL [tIs,ZW,ZX] a.1.spelt:Int):=I
   have aG:(wr.alloc (.cells (QW [tIs,ZW,ZX]).toArray 9)).cell? ⟨w.heap.size+1+1,2,none⟩=some (Qa d):=Qj (QJ HM) 2;have R:(wr.alloc (.cells (QW [tIs,ZW,ZX]).toArray 9)).frozen? ⟨w.heap.size+1+1,2,none⟩=false:=QQ (QJ HM) 2;have aJ:(wL [tIs,ZW,ZX] a.1.spelt)<=3:=ah;obtain⟨W,m⟩:=Q3 (wr.alloc (.cells (QW [tIs,ZW,ZX]).toArray 9));rw[<-m]at aG R ⊢;have J:Hid (RC W b t a k i j):=by rw[m];exact HR.o.alloc _
   have E:Hid (Mod b w W):=by rw[m];exact aS.o.alloc _
   have ad:Hid (W.heap[w.heap.size+1+1]?=some (Qe (Gh hw x d n) 227)):=by rw[m];exact QJ HM
   have af:Hid (W.heap[w.heap.size+1]?=some (Qe #[.string ⟨#[]⟩,Qa 0,Qa 0,.bool false,Qp,Qp] 227)):=by rw[m];exact QJ aT
   have HZ:Hid (w.heap.size<=W.heap.size):=E.size;clear h1 aj m ah;by_cases ht:d=0
   .have aL:((d:Int)==0)=true:=by simp;omega
    have HT:=O ht;clear ht;go_wp2_with fail;refine Qu (Xe b rfl) ?_;go_wp2_with fail;have aF:b<w.heap.size+1+1:=I
    refine(Km (J.setNew aF _ _)).mono ?_;rintro e p (⟨y,hy,rfl,hc,c⟩ | ⟨f2,R,⟨r,C,rfl,u⟩,c⟩);rotate_left
    .exact⟨rfl,Qy.err (aP.o.trans (Sr H1 HT R)) ((E.setNew I _ _).trans c) ⟨r,QE (E.setNew I _ _).size C,rfl,u⟩⟩
    have Y:=J' (l:=t.data.toList) (s:=a) (by simpa using J.le) (aB H1) hy;rw[bal]at Y;have ar:muW p b t.size<muW wr b t.size:=by rw[hc.muEq,HR.muEq];exact Y
    have aV:=O ar;have aR:=O hc;have ac:=O ((E.setNew (g:=w.heap.size+1+1) I 2 (Qa (wL [tIs,ZW,ZX] a.1.spelt))).trans c);have Z:=O (QY (b:=b) (g:=w.heap.size+1+1) (QM (b:=w.heap.size+1+1) (o:=2) (v:=Qa (wL [tIs,ZW,ZX] a.1.spelt)) ad) c I);have aa:=O (QY (CV af (by omega:w.heap.size+1≠w.heap.size+1+1) (k:=2) (v:=Qa (wL [tIs,ZW,ZX] a.1.spelt))) c I);have HY:=O hy;clear hc c ar hy;go_wp2;go_roundw
    case rel=>exact⟨y,wL [tIs,ZW,ZX] a.1.spelt,n,P,f,rfl,Z,aa,aR,ac,I,aJ,aP.o.trans (Qx3 H1 HT HY)⟩
    case measure=>exact aV
   .have aL:((d:Int)==0)=false:=by simp;omega
    have HT:=O ht;clear ht;go_wp2_with fail;refine(YJ 7 J.o.at_ rfl rfl).mono ?_;rintro e w1 ⟨⟨r,C,rfl,u⟩,c⟩;exact⟨rfl,Qy.err (aP.o.trans (Tf H1 HT)) (E.o.trans (Mod.of_below c)) ⟨r,QE HZ C,rfl,u⟩⟩
theorem Vg.mod(h:Vg w b t rv mc mt cv chk)(hm:Mod b w w'):Vg w' b t rv mc mt cv chk:=
 fun W s hW hr=>h W s (hm.trans hW) hr
theorem BJ:Vg w b t rv mc mt (QA 134 #[] #[]) (fun _=>0):=
 fun W s _ hr=>CG hr
def mtV(B:Nat)(hw:L8)(x:Zk)(w:World)(v:Value):Prop:=
 ∃fv kv,v=.agg #[Qf hw,Qa x.pos,Qa x.tag,.bool x.octet,fv,kv]/\slB B x.fr w fv/\slB B x.keys w kv
theorem RC.mu_lt{d:Value}(h:RC w b t s d a c)(hF:2*t.size+1<F):mu t.size s<F:=by
 unfold mu;split<;>omega
theorem DC{W:Value}(k:Nat)(a:Nat){i:Value}{d:Nat}(h:RC w b t s i c d)(X:Vg w b t i c d W chk)(hF:2*t.size+1<F):Calls prog 133 #[Qc b,.agg #[Qf hw,Qa a],W] w (Qy (Xr t.data.toList F chk k a s) b t i c d w (mtV w.heap.size hw)):=by
 have H:=O h;have HO:=O X;have aA:=h.at_.lt;clear h X;go_enter func133,ntmps133;go_wp2_with fail;have Q:=O (((Mod.refl b w).alloc (Qe #[Qf hw,Qa a] 216)).alloc (Qe #[.string ⟨#[]⟩,Qa 0,Qa 0,.bool false,Qp,Qp] 227));refine(T0 a ((H.o.alloc _).alloc _) (H.mu_lt hF)).mono ?_;intro e Z h1;rcases h1.cases with⟨o,v,N,rfl,hv,J,C⟩ | ⟨f,B,⟨z,D,rfl,A⟩,C⟩
 rotate_left
 .exact⟨rfl,Qy.err (QC B) (Q.o.trans C) ⟨z,QE Q.size D,rfl,A⟩⟩
 unfold Cz Gh at hv;subst hv;have HY:=O N;have HC:=O J;have aa:=O (Q.o.trans C);have T:=O (QY (g:=w.heap.size+1) (o:=Qe #[.string ⟨#[]⟩,Qa 0,Qa 0,.bool false,Qp,Qp] 227) (ZB Qh) C I);have aB:=QI T;clear h1 N J C;go_wp2_with fail;obtain⟨V,q⟩:=Q3 (Z.alloc (Qe #[Qf hw,Qa a,Qa o.1.1,.bool o.1.2,Qp,Qp] 227));have ac:Hid (RC V b t o.2 i c d):=by rw[q];exact HC.o.alloc _
 have E:Hid (Mod b w V):=by rw[q];exact aa.o.alloc _
 have ax:Hid (V.heap[w.heap.size+1]?=some (Qe #[.string ⟨#[]⟩,Qa 0,Qa 0,.bool false,Qp,Qp] 227)):=by rw[q];exact QJ T
 have ae:Hid (V.heap[Z.heap.size]?=some (Qe #[Qf hw,Qa a,Qa o.1.1,.bool o.1.2,Qp,Qp] 227)):=by rw[q];exact Q0
 rw[<-q];have ao:=QI ae;generalize Z.heap.size=M at *;clear q HC aa T;refine(Bm ac (HO.o.mod E) (ac.mu_lt hF)).mono ?_;intro e w2 h2;rcases h2.cases with⟨y2,v2,Y,rfl,ai,ag,x⟩ | ⟨f,B,⟨z,D,rfl,A⟩,x⟩
 rotate_left
 .exact⟨rfl,Qy.err ((Qx HY).trans (QC B)) (E.o.trans x) ⟨z,QE E.size D,rfl,A⟩⟩
 have K:=ai;obtain⟨g2,P,G,rfl⟩:=K.form;have aF:=O K;have aC:=O Y;have aD:=O ag;have ap:=O (E.o.trans x);have ar:=O (QY ax x I);have R:=O (QY ae x I);have m4:=Qj R 4;have mf:=QQ R;have af:b<M:=I
 clear h2 Y ag x K ai;go_wp2_with fail;obtain⟨U,m⟩:=Q3 (w2.setCell ⟨M,4,none⟩ (Qs g2 P G));have ab:Hid (RC U b t y2.2 i c d):=by rw[m];exact aD.setNew af _ _
 have S:Hid (Mod b w U):=by rw[m];exact ap.setNew I _ _
 have aw:Hid (U.heap[w.heap.size+1]?=some (Qe #[.string ⟨#[]⟩,Qa 0,Qa 0,.bool false,Qp,Qp] 227)):=by rw[m];exact CV ar I
 have ad:Hid (U.heap[M]?=some (Qe #[Qf hw,Qa a,Qa o.1.1,.bool o.1.2,Qs g2 P G,Qp] 227)):=by rw[m];exact QM R
 have av:Hid (slB V.heap.size y2.1 U (Qs g2 P G)):=by
  rw[m];exact aF.o.keep (Abv.set ao _ _)
 rw[<-m];clear m mf m4;have az:=QI ad;refine(Bm ab (BJ) (ab.mu_lt hF)).mono ?_;intro e w3 h3;rcases h3.cases with⟨y3,v3,ak,rfl,aj,ah,n⟩ | ⟨f,B,⟨z,D,rfl,A⟩,n⟩
 rotate_left
 .exact⟨rfl,Qy.err ((Qx HY).trans ((Qx aC).trans (QC B))) (S.o.trans n) ⟨z,QE S.size D,rfl,A⟩⟩
 have L:=aj;obtain⟨g3,n3,c3,rfl⟩:=L.form;have aG:=O L;have au:=O (av.o.keep (n.abv I));have aH:=O ak;have aE:=O ah;have aq:=O (S.o.trans n);have l:=O (QY aw n I);have j:=O (QY ad n I);have m0:=Qj j 0;have m1:=Qj j 1;have m2:=Qj j 2;have m3:=Qj j 3;have m4:=Qj j 4;have m5:=Qj j 5;have mf:=QQ j;have r0:=Qj l 0;have r1:=Qj l 1;have r2:=Qj l 2;have r3:=Qj l 3;have r4:=Qj l 4;have r5:=Qj l 5;have rf:=QQ l;clear h3 ak ah n L aj;go_wp2;have u:b<w.heap.size+1:=I
 have y:w.heap.size<=w.heap.size+1:=I
 have ay:w.heap.size<=M:=I
 have r:w.heap.size+1<V.heap.size:=I
 have p:w.heap.size+1<U.heap.size:=I
 refine Q_ (v:=.agg #[Qf hw,Qa a,Qa o.1.1,.bool o.1.2,Qs g2 P G,Qs g3 n3 c3]) (by simp[results,results133,go_sem,r0,r1,r2,r3,r4,r5]) rfl (Qy.ok ((Qx HY).trans ((Qx aC).trans (Qx aH))) (((((((aq.setNew ay _ _).setNew y _ _).setNew y _ _).setNew y _ _).setNew y _ _).setNew y _ _).setNew y _ _) ⟨_,_,rfl,?_,?_⟩ (((((((aE.setNew af _ _).setNew u _ _).setNew u _ _).setNew u _ _).setNew u _ _).setNew u _ _).setNew u _ _))
 .exact(((((((au.o.keep (Abv.set ao _ _)).keep (Abv.set r _ _)).keep (Abv.set r _ _)).keep (Abv.set r _ _)).keep (Abv.set r _ _)).keep (Abv.set r _ _)).keep (Abv.set r _ _)).weak I
 .exact(((((((aG.o.keep (Abv.set az _ _)).keep (Abv.set p _ _)).keep (Abv.set p _ _)).keep (Abv.set p _ _)).keep (Abv.set p _ _)).keep (Abv.set p _ _)).keep (Abv.set p _ _)).weak I
section
attribute [local go_sem ↓] Zt Zu
def Xn(hw:L8)(hp:Nat):Value:=.agg #[Qf hw,Qa hp]
def JP(w:World)(pr b:Nat):Prop:=w.cell? (Ql pr 0)=some (Qc b)/\pr≠b
theorem JP.mod(h:JP w pr b)(hm:Mod b w w'):JP w' pr b:=
 ⟨by rw[hm.cell (p:=⟨pr,0,none⟩) (QX h.1) h.2];exact h.1,h.2⟩
theorem JP.lt(h:JP w pr b):pr<w.heap.size:=QX (a:=⟨pr,0,none⟩) h.1
theorem YR:type_of%@Go.World.cell?_alloc_past:=@Go.World.cell?_alloc_past
theorem Ih(d:Int)(pt:Nat)(B:Bool)(h:w.cell? (Ql pt 0)=some (.bool B)):Calls prog 185 #[Xn hw a,Qa d,Qc pt] w fun e w'=>e=.returned (.iface 302 (.agg #[Qf hw,Qa a,.bool B]))/\Qo w w':=by
 have b:=QX h;have c:(w.alloc (Qe #[Qf hw,Qa a] 216)).cell? (Ql pt 0)=some (.bool B):=by rw[YR _ _ _ b];exact h
 unfold Xn;go_enter func185,ntmps185;go_wp2;go_ret;exact⟨rfl,QH _⟩
theorem QtX(d:Int){l:Nat}(h:RC w b t s m k l)(j:JP w pr b)(hF:2*t.size+1<F):Calls prog 132 #[Xn hw c,Qa d,Qc pr] w (Qy (Xr t.data.toList F (fun _=>0) 5 c s) b t m k l w (fun x w' v=>∃u,v=.iface 231 u/\mtV w.heap.size hw x w' u)):=by
 have E:=j.lt;have N:(w.alloc (Qe #[Qf hw,Qa c] 216)).cell? (Ql pr 0)=some (Qc b):=by rw[YR _ _ _ E];exact j.1
 have H:=O h;clear h j;unfold Xn;go_enter func132,ntmps132;go_wp2_with fail;refine(DC 5 c (H.o.alloc _) (BJ) hF).mono ?_;intro e S n;rcases n.cases with⟨y,v,q,rfl,⟨K,P,rfl,g,i⟩,p,a⟩ | ⟨f,D,⟨B,G,rfl,C⟩,a⟩
 rotate_left
 .exact⟨rfl,Qy.err D (((Mod.refl b w).alloc _).trans a) ⟨B,by simp at G;omega,rfl,C⟩⟩
 have U:=O q;have T:=O p;have A:=O (((Mod.refl b w).alloc _).trans a);have r:=O (g.weak (B':=w.heap.size) Qh);have z:=O (i.weak (B':=w.heap.size) Qh);clear n q p a;obtain⟨L,Q,V,rfl⟩:=g.form;obtain⟨M,R,J,rfl⟩:=i.form;clear g i;go_wp2;go_ret;exact Qy.ok U A ⟨_,rfl,_,_,rfl,r,z⟩ T
theorem WQ(d:Int){l:Nat}(h:RC w b t s m k l)(j:JP w pr b)(hF:2*t.size+1<F):Calls prog 138 #[Xn hw c,Qa d,Qc pr] w (Qy (Xr t.data.toList F (fun _=>0) 7 c s) b t m k l w (fun x w' v=>∃u,v=.iface 235 u/\mtV w.heap.size hw x w' u)):=by
 have E:=j.lt;have N:(w.alloc (Qe #[Qf hw,Qa c] 216)).cell? (Ql pr 0)=some (Qc b):=by rw[YR _ _ _ E];exact j.1
 have H:=O h;clear h j;unfold Xn;go_enter func138,ntmps138;go_wp2_with fail;refine(DC 7 c (H.o.alloc _) (BJ) hF).mono ?_;intro e S n;rcases n.cases with⟨y,v,q,rfl,⟨K,P,rfl,g,i⟩,p,a⟩ | ⟨f,D,⟨B,G,rfl,C⟩,a⟩
 rotate_left
 .exact⟨rfl,Qy.err D (((Mod.refl b w).alloc _).trans a) ⟨B,by simp at G;omega,rfl,C⟩⟩
 have U:=O q;have T:=O p;have A:=O (((Mod.refl b w).alloc _).trans a);have r:=O (g.weak (B':=w.heap.size) Qh);have z:=O (i.weak (B':=w.heap.size) Qh);clear n q p a;obtain⟨L,Q,V,rfl⟩:=g.form;obtain⟨M,R,J,rfl⟩:=i.form;clear g i;go_wp2;go_ret;exact Qy.ok U A ⟨_,rfl,_,_,rfl,r,z⟩ T
theorem Z0(h:Mod b w.drew w'):Mod b w w':=⟨h.os,h.tape,h.output,h.size,h.block⟩
theorem Bz{w1:World}(a:Nat)(c:Mod b (w.alloc (Qe #[Qf hw,Qa a] 216)) w1)(d:b<w.heap.size) :
 w1.cell? (Ql w.heap.size 0)=some (Qf hw)/\w1.cell? (Ql w.heap.size 1)=some (Qa a):=by
 have h:=QY (g:=w.heap.size) (Q0 (w:=w) (o:=Qe #[Qf hw,Qa a] 216)) c I;exact⟨Qj h 0,Qj h 1⟩
theorem Qtf(d:Int){k:Value}(h:RC w b t s k i j)(hF:2*t.size+1<F):Calls prog 139 #[.pointer (some ⟨b,0,none⟩),Xn hw c,.int .i64 d] w (Qy (sLs t.data.toList (fun _=>0) F s) b t k i j w (fun xs w' v=>∃u,v=.iface 309 (.agg #[.string (sA hw),.int .i64 c,u])/\slB w.heap.size xs w' u)):=by
 have H:=O h;have C:=h.at_.lt;clear h;unfold Xn;go_enter func139,ntmps139;go_wp2_with fail;go_region_with (first|(go_at_call 188;refine(Bm (chk:=fun _=>0) (b:=b) (F:=F) (t:=t) (s:=s) (H:=k) (E:=i) (G:=j) ((H.o.alloc _).drew) (BJ) (H.o.mu_lt hF)).mono ?_;intro e L l;rcases l.cases with⟨y,v,n,rfl,g,m,a⟩ | ⟨f,B,⟨z,D,rfl,A⟩,a⟩;rotate_left;exact⟨rfl,Qy.err B (((Mod.refl b w).alloc _).trans (Z0 a)) ⟨z,by simp at D;omega,rfl,A⟩⟩;obtain⟨M,J⟩:=Bz (hw:=hw) c (Z0 a) C;have x:=O n;have p:=O m;have q:=O (((Mod.refl b w).alloc (.cells #[.string (sA hw),.int .i64 c] 216)).trans (Z0 a));have r:=O (g.weak (B':=w.heap.size) (by simp));obtain⟨G,K,E,rfl⟩:=g.form;clear l n m a g;skip))
 all_goals go_wp2
 all_goals go_ret
 all_goals exact Qy.ok x.o q.o ⟨_,rfl,r.o⟩ p.o
def AbvX(X:Nat->Prop)(w w':World):Prop:=∀k,X k->k<w.heap.size->w'.heap[k]?=w.heap[k]?
def fromB(B:Nat)(k:Nat):Prop:=B<=k
theorem Mod.abvX(h:Mod b w w')(hX:¬X b):AbvX X w w':=fun k hk hz=>h.block k hz (fun e=>hX (e ▸ hk))
theorem AbvX.set(hX:¬X g)(o:Nat)(v:Value):AbvX X w (w.setCell ⟨g,o,none⟩ v):=fun k hk _=>Q' (fun e=>hX (by have e':k=g:=e;rw[<-e'];exact hk))
def Je{α:Type}(fn:Nat)(w:World)(b:Nat)(t:ByteArray)(rv:Value)(mc mt:Nat)(d:Int)(sub:PS->Qq (α×PS))(P:(Nat->Prop)->α->World->Value->Prop):Prop:=
 ∀(W:World) (s:PS),Mod b w W->RC W b t s rv mc mt->Calls prog fn #[Qc b,Qa d] W (Qy (sub s) b t rv mc mt W (P (fromB W.heap.size)))
theorem Je.mod{fn:Nat}(h:Je fn w b t rv mc mt d sub P)(hm:Mod b w w'):Je fn w' b t rv mc mt d sub P:=
 fun W s hW hr=>h W s (hm.trans hW) hr
structure TreeP {α:Type} (P:(Nat->Prop)->α->World->Value->Prop):Prop where
 form:∀X a w v,P X a w v->∃ty x,v=.iface ty x
 keep:∀X a w w' v,P X a w v->AbvX X w w'->P X a w' v
 weak:∀X Y a w v,P X a w v->(∀k,X k->k < w.heap.size->Y k)->P Y a w v
theorem QsJ(a:0<=d)(b:d<=100):IntKind.i64.wrap (d+1)=d+1:=by
 rw[IntKind.wrap_i64];omega
theorem O4{n:Value}{l m:Nat}(h:RC w b t s n l m)(G:0<=d)(H:d<=100)(g:TreeP P)(r:Je 186 w b t n l m (d+1) sub P):Calls prog 128 #[Qc b,Xn hw i,Qa d] w (Qy (sub s) b t n l m w (fun a w' v=>∃u,v=.iface 305 (.agg #[Qf hw,Qa i,u])/\P (fromB w.heap.size) a w' u)):=by
 have L:=h.at_.lt;have R:=QsJ G H;change Qd _ at r;replace h:=O h;replace g:=O g;unfold Xn;go_enter func128,ntmps128;go_wp2_with fail;go_region_with (first|(go_at_call 186;refine(r _ s (((Mod.refl b w).alloc _).drew) ((h.o.alloc _).drew)).mono ?_;intro e T p;rcases p.cases with⟨y,v,z,rfl,j,q,c⟩ | ⟨f,J,⟨E,M,rfl,F⟩,c⟩;rotate_left;exact⟨rfl,Qy.err J (((Mod.refl b w).alloc _).trans (Z0 c)) ⟨E,by simp at M;omega,rfl,F⟩⟩;obtain⟨N,Q⟩:=Bz i (Z0 c) L;have D:=O z;have A:=O q;have B:=O (((Mod.refl b w).alloc (Qe #[Qf hw,Qa i] 216)).trans (Z0 c));have C:=O (g.o.weak _ (fromB w.heap.size) _ _ _ j (fun k K _=>QE Qh K));obtain⟨S,x,rfl⟩:=g.o.form _ _ _ _ j;clear p z q c j;skip))
 all_goals go_wp2
 all_goals go_ret
 all_goals exact Qy.ok D B ⟨_,rfl,C⟩ A
def trX{α:Type}(X:Nat->Prop)(P:(Nat->Prop)->α->World->Value->Prop)(xs:List α)(w:World)(v:Value):Prop:=
 ∃g c,v=Qs g xs.length c/\X g/\∀j (hj:j<xs.length),∃u,w.cell? ⟨g,j,none⟩=some u/\P X xs[j] w u
theorem trX.keep{α:Type}{X:Nat->Prop}{P:(Nat->Prop)->α->World->Value->Prop}(f:TreeP P){xs:List α}{w w':World}{v:Value}(h:trX X P xs w v)(d:AbvX X w w'):trX X P xs w' v:=by
 obtain⟨g,c,l,b,m⟩:=h;refine⟨g,c,l,b,fun j i=>?_⟩;obtain⟨u,e,k⟩:=m j i;refine⟨u,?_,f.keep _ _ _ _ _ k d⟩;rw[Xo (w:=w) (a:=⟨g,j,none⟩) (d g b (QX e))];exact e
theorem trX.weak{α:Type}{X Y:Nat->Prop}{P:(Nat->Prop)->α->World->Value->Prop}(e:TreeP P){xs:List α}{w:World}{v:Value}(l:xs≠[])(h:trX X P xs w v)(b:∀k,X k->k<w.heap.size->Y k):trX Y P xs w v:=by
 obtain⟨g,c,n,f,d⟩:=h;refine⟨g,c,n,?_,fun j i=>?_⟩
 .obtain⟨u,a,_⟩:=d 0 (Xz.2 l);exact b g f (QX a)
 .obtain⟨u,a,m⟩:=d j i;exact⟨u,a,e.weak _ _ _ _ _ m b⟩
theorem trX.form{xs:List α}(h:trX X P xs w v):∃g n c,v=Qs g n c:=by
 obtain⟨g,c,a,_⟩:=h;exact⟨g,_,c,a⟩
def Zz{α:Type}(P:α->Value->Prop):List α->List Value->Prop
 | [],[]=>True
 |a::xs,v::vs=>P a v/\Zz P xs vs
 |_,_=>False
theorem Zz.imp{α:Type}{P Q:α->Value->Prop}(h:∀a v,P a v->Q a v):∀ {xs:List α} {vs:List Value},Zz P xs vs->Zz Q xs vs
 | [],[],_=>trivial
 |a::xs,v::vs,hr=>⟨h _ _ hr.1,Zz.imp h hr.2⟩
 | [],_::_,hr=>hr.elim
 |_::_,[],hr=>hr.elim
theorem Zz.snoc{α:Type}{P:α->Value->Prop}{a:α}{v:Value}(h:P a v):∀ {xs:List α} {vs:List Value},Zz P xs vs->Zz P (xs++[a]) (vs++[v])
 | [],[],_=>⟨h,trivial⟩
 |a'::xs,v'::vs,hr=>⟨hr.1,Zz.snoc h hr.2⟩
 | [],_::_,hr=>hr.elim
 |_::_,[],hr=>hr.elim
theorem Zz.at{α:Type}{P:α->Value->Prop}:∀ {xs:List α} {c:List Value},Zz P xs c->∀j (b:j<xs.length),∃u,c[j]?=some u/\P xs[j] u
 | [],[],_,j,b=>absurd b (XA _)
 |a::xs,v::c,h,0,_=>⟨v,rfl,h.1⟩
 |a::xs,v::c,h,j+1,b=>by
  obtain⟨u,d,e⟩:=Zz.at h.2 j (by simpa using b);exact⟨u,by simpa using d,by simpa using e⟩
 | [],_::_,h,_,_=>h.elim
 |_::_,[],h,_,_=>h.elim
def ZD{α:Type}(P:(Nat->Prop)->α->World->Value->Prop)(base:Nat)(w:World)(v:Value)(a:α)(u:Value):Prop:=
 ∃X,P X a w u/\(∀k,X k->base<=k/\k<w.heap.size)/\∀g,v.ownBlock=some g->¬X g
theorem ZD.mod(j:TreeP P){a:α}(h:ZD P base w v a u)(f:Mod b w w')(l:b<base):ZD P base w' v a u:=by
 obtain⟨X,g,c,i⟩:=h;exact⟨X,j.keep _ _ _ _ _ g (f.abvX (fun e=>by have:=(c b e).1;omega)),fun k d=>⟨(c k d).1,Yq (c k d).2 f.size⟩,i⟩
theorem ZD.grown(n:TreeP P){v':Value}{a:α}(h:ZD P base w v a u)(j:(w.alloc o).grownBy w' v.ownBlock)(hv:v'.ownBlock=v.ownBlock\/v'.ownBlock=some (w.heap.size+1)):ZD P base w' v' a u:=by
 obtain⟨X,l,c,f⟩:=h
 have m:AbvX X w w':=fun k b p=>by
  rw[j.block k (by simp;omega) (fun e=>f k e.symm b)];exact ZL _ _ _ p
 refine⟨X,n.keep _ _ _ _ _ l m,fun k b=>⟨(c k b).1,?_⟩,fun g d i=>?_⟩
 .have:=(c k b).2;have:=j.size;simp at this;omega
 .rcases hv with hv|hv
  .exact f g (hv ▸ d) i
  .rw[hv]at d;have:=(c g i).2;simp at d;omega
theorem ZD.new(c:TreeP P){a:α}(h:P (fromB B) a w u)(b:base<=B)(d:∀g,v.ownBlock=some g->g<B):ZD P base w v a u:=
 ⟨fun k=>B<=k/\k<w.heap.size,c.weak _ _ _ _ _ h (fun k hk hz=>⟨hk,hz⟩),fun k hk=>⟨QE b hk.1,hk.2⟩,fun g hg hX=>by have:=d g hg;omega⟩
theorem trX.of_owns(m:TreeP P){e:TypeId}{xs:List α}{d:List Value}(h:w.ownsRow base e 1 v n d)(t:n=xs.length)(A:xs≠[])(y:Zz (fun a u=>ZD P base w v a u) xs d):trX (fromB base) P xs w v:=by
 subst t;have p:=fun g (b:v.ownBlock=some g)=>h.cells b
 obtain⟨C,i⟩:=h;rcases i with⟨_,l⟩ | ⟨g,f,B,c,b,r⟩
 .exact absurd (XV l) A
 .refine⟨g,f,c,b,fun j q=>?_⟩;obtain⟨u,z,X,x,o,_⟩:=y.at j q;have:=p g (by rw[c];rfl) j u z;rw[J8]at this;exact⟨u,this,m.weak _ _ _ _ _ x (fun k s _=>(o k s).1)⟩
end
theorem Tryz.infoTest:(prog.info? 218).map (fun i=>(i.zero,i.size,i.bytes))=some (some .nilIface,1,16):=Qm
theorem Rq(h:paL l [[44],[41]] s=.error e):gMr l sub (f+1) acc s=.error e:=by rw[gMr];exact QC h
theorem Sf(h:paL l [[44],[41]] s=.ok y)(a:¬y.1=1):gMr l sub (f+1) acc s=.ok (acc,y.2):=by rw[gMr,Qx h,Qg a]
theorem Rv(h:paL l [[44],[41]] s=.ok y)(a:y.1=1)(b:sub y.2=.error e):gMr l sub (f+1) acc s=.error e:=by rw[gMr,Qx h,Qi a];exact QC b
theorem S9{z:α×PS}(h:paL l [[44],[41]] s=.ok y)(a:y.1=1)(b:sub y.2=.ok z):gMr l sub (f+1) acc s=gMr l sub f (acc++[z.1]) z.2:=by rw[gMr,Qx h,Qi a];exact Qx b
theorem Qx2:∀z∈([[44],[41]]:Qn),z≠[]:=Qb
def SubMu{α:Type}(n:Nat)(sub:PS->Qq (α×PS)):Prop:=∀s y,s.2<=n->(s.1.kind=0->s.1.spelt=[])->sub s=.ok y->mu n y.2<mu n s
theorem Kf:type_of%@Go.wpList_append_own_at:=@Go.wpList_append_own_at
theorem Lk(hw:L8)(C:Nat)(h:RC w b t s rv E G)(hF:2*t.size+1<F)(a8:0<=d)(a9:d<=100)(hP:TreeP P)(hS:SubMu t.size sub)(ho:Je 186 w b t rv E G (d+1) sub P):Calls prog 130 #[.pointer (some ⟨b,0,none⟩),Xn hw C,.int .i64 d] w (Qy (groupL t.data.toList F sub s) b t rv E G w (fun xs w' v=>∃u,v=.agg #[.string (sA hw),.int .i64 C,u]/\trX (fromB w.heap.size) P xs w' u/\xs≠[])):=by
 have H:=O h;have HO:=O ho;have HP:=O hP;have bv:=O hS;have ba:=h.at_.lt;clear h ho hP hS;unfold Xn;obtain⟨i0,hi,a4,a5,a6⟩:=ZU Tryz.infoTest;go_enter func130,ntmps130;go_wp2_with fail;obtain⟨V,n⟩:=Q3 ((w.alloc (.cells #[.string (sA hw),.int .i64 C] 216)).alloc (.cells #[.string ⟨#[]⟩,.int .i64 0,.slice none 0 0] 221));have aS:Hid (RC V b t s rv E G):=by rw[n];exact(H.o.alloc _).alloc _
 have ax:Hid (Mod b w V):=by rw[n];exact((Mod.refl b w).alloc _).alloc _
 have aU:Hid (V.heap[w.heap.size]?=some (.cells #[.string (sA hw),.int .i64 C] 216)):=by rw[n];exact QJ (Q0)
 have aV:Hid (V.heap[w.heap.size+1]?=some (.cells #[.string ⟨#[]⟩,.int .i64 0,.slice none 0 0] 221)):=by rw[n];exact ZB (by simp)
 have bi:V.heap.size=w.heap.size+1+1:=by rw[n];simp
 have ab:=O (UG (b:=b) (g:=V.heap.size) 1 1 (zs:=[[40]]) (t:=t) (s:=s) (k:=rv) (i:=E) (j:=G) (aS.o.alloc (.cells (QW [[40]]).toArray 9)) (Ju V [[40]] rfl) rfl (by decide));rw[n]at ab;rw[show((w.alloc (.cells #[.string (sA hw),.int .i64 C] 216)).alloc (.cells #[.string ⟨#[]⟩,.int .i64 0,.slice none 0 0] 221)).heap.size=w.heap.size+1+1 from by simp]at ab;refine ab.o.mono ?_;rw[<-n];intro e w1 m;rcases m.cases with⟨y,v,hy,rfl,hv,i,c⟩ | ⟨f,X,⟨A,hz,rfl,B⟩,c⟩
 rotate_left
 .exact⟨rfl,Qy.err (QC X) ((ax.o.alloc _).trans c) ⟨A,by simp at hz;omega,rfl,B⟩⟩
 unfold YP at hv;subst hv;have HY:=O hy;have HC:=O i;have W:=O ((ax.o.alloc (.cells (QW [[40]]).toArray 9)).trans c);have aJ:=O (QY (QJ aU.o) c (by omega));have ay:=O (QY (QJ aV.o) c (by omega));clear m hy i c n ab;go_wp2_with fail;refine(HO.o _ y.2 W.o HC.o).mono ?_;intro e w2 h2;rcases h2.cases with⟨z,v,au,rfl,hv,i,c⟩ | ⟨f,X,⟨A,hz,rfl,B⟩,c⟩
 rotate_left
 .exact⟨rfl,Qy.err ((Qx HY.o).trans (QC X)) (W.o.trans c) ⟨A,QE W.o.size hz,rfl,B⟩⟩
 have bf:=QI ay.o;have HV2:=O hv;obtain⟨ty,x,rfl⟩:=HP.o.form _ _ _ _ hv;have bo:=O au;have bj:=O i;have aN:=O (W.o.trans c);have aK:=O (QY aJ.o c (by omega));have az:=O (QY ay.o c (by omega));have a3:=QI az.o;have a1:=bj.o.mu_le;have aD:=bj.o.mu_lt hF;clear h2 au i c hv;go_wp2_with fail
 go_loopw [7] (fun v wr=>∃(N:PS) (r:List α) (vs:List Value) (f:Nat),wr.ownsRow (w.heap.size+1+1) 218 1 v r.length vs/\Zz (fun a u=>ZD P (w.heap.size+1+1) wr v a u) r vs/\r≠[]/\RC wr b t N rv E G/\Mod b w wr/\wr.heap[w.heap.size]?=some (.cells #[.string (sA hw),.int .i64 C] 216)/\wr.heap[w.heap.size+1]?=some (.cells #[.string ⟨#[]⟩,.int .i64 0,.slice none 0 0] 221)/\mu t.size N<f/\r.length+mu t.size N<=1300/\groupL t.data.toList F sub s=gMr t.data.toList sub f r N) (fun _ wr=>muW wr b t.size)
 case atStart=>
  have hA:Mod b w2 (w2.alloc (.cells #[.iface ty x] 218)):=(Mod.refl b w2).alloc _
  have hG:ZD P (w.heap.size+1+1) w2 (.slice (some ⟨w2.heap.size,0,none⟩) 1 1) z.1 (.iface ty x):=⟨fun k=>w1.heap.size<=k∧k < w2.heap.size,HP.o.weak _ _ _ _ _ HV2.o (fun k hk hz=>⟨hk,hz⟩),fun k hk=>⟨by omega,hk.2⟩,fun g hg hX=>by
   have:w2.heap.size=g:=by simpa[Value.ownBlock]using hg
   omega⟩
  refine⟨z.2,[z.1],[.iface ty x],F,?_,⟨hG.mod HP.o hA (by omega),trivial⟩,by simp,bj.o.alloc _,aN.o.alloc _,QJ aK.o,QJ az.o,aD,by simp;omega,(Qx HY.o).trans (Qx bo.o)⟩;exact World.ownsRow_lit (e:=218) (size:=1) w2 #[.iface ty x] 1 a3 (by unfold maxLen;omega) rfl
 case round=>
  obtain⟨N,r,vs,f,aF,D,ao,M,aa,aC,ah,X,a7,S⟩:=hrel;obtain⟨f,rfl⟩:∃g,f=g+1:=⟨f-1,by omega⟩;have HR:=O M;have bn:=O aa;have bl:=O S;have bu:=O aF;have aT:=O D;have bp:=O aC;have bq:=O ah;have bd:=QI ah;clear M aa S aF D aC ah HC bj HY bo a1 aD;go_wp2_with fail;refine(UG (b:=b) (g:=wr.heap.size) 2 2 (zs:=[[44],[41]]) (t:=t) (s:=N) (k:=rv) (i:=E) (j:=G) (HR.o.alloc _) (Ju wr [[44],[41]] rfl) rfl (by decide)).mono ?_;intro e w3 h3;rcases h3.cases with⟨U,v3,T,rfl,aH,R,Z⟩ | ⟨f3,aY,⟨A,hz,rfl,B⟩,Z⟩
  rotate_left
  .exact⟨rfl,Qy.err (bl.o.trans (Rq aY)) ((bn.o.alloc _).trans Z) ⟨A,by simp at hz;omega,rfl,B⟩⟩
  have ak:=B7 (l:=t.data.toList) (by simpa using HR.o.le) HR.o.e0 Qx2 T;rw[bal]at ak;replace ak:=ak.1;have K:=((Mod.refl b wr).alloc (.cells #[.string ⟨#[44]⟩,.string ⟨#[41]⟩] 9)).trans Z;have Q:=O (bn.o.trans K);have bm:=O T;have bk:=O R;have ae:=O (XP (b:=b) bu.o K (by omega));have aB:=O (aT.o.imp (fun a u q=>ZD.mod HP.o (b:=b) (w':=w3) q K (by omega)));have ad:=O (QY bp.o K (by omega));have J:=O (QY bq.o K (by omega));unfold YP at aH;subst aH;clear h3 T R Z K;by_cases m:U.1=1;rotate_left
  .have aX:((U.1:Int)==1)=false:=by simp;omega
   have H1:=O m;have HT:=O (trX.of_owns HP.o ae.o rfl ao aB.o);obtain⟨gg,nn,cc,rfl⟩:=HT.o.form;have k0:=Qj ad.o 0;have k1:=Qj ad.o 1;have r0:=Qj J.o 0;have r1:=Qj J.o 1;have r2:=Qj J.o 2;have rf:=QQ J.o;clear m;go_wp2;have ag:b<w.heap.size+1:=by omega
   have ar:w.heap.size<=w.heap.size+1:=by omega
   have hq:¬fromB (w.heap.size+1+1) (w.heap.size+1):=by unfold fromB;omega
   have a2:∀k,fromB (w.heap.size+1+1) k->fromB w.heap.size k:=fun k hk=>by unfold fromB at *;omega
   refine Q_ (v:=.agg #[.string (sA hw),.int .i64 C,.slice (some ⟨gg,0,none⟩) nn cc]) (by simp[results,results130,go_sem,r0,r1,r2]) rfl (Qy.ok (bl.o.trans (Sf bm.o H1.o)) (((Q.o.setNew ar _ _).setNew ar _ _).setNew ar _ _) ⟨_,rfl,?_,ao⟩ (((bk.o.setNew ag _ _).setNew ag _ _).setNew ag _ _));exact trX.weak HP.o ao (((HT.o.keep HP.o (AbvX.set hq _ _)).keep HP.o (AbvX.set hq _ _)).keep HP.o (AbvX.set hq _ _)) (fun k hk _=>a2 k hk)
  have aX:((U.1:Int)==1)=true:=by simp;omega
  have H1:=O m;clear m;go_wp2_with fail;refine(HO.o _ U.2 Q.o bk.o).mono ?_;intro e w4 h4;rcases h4.cases with⟨z4,v4,av,rfl,aq,ai,p⟩ | ⟨f4,aZ,⟨A,hz,rfl,B⟩,p⟩
  rotate_left
  .exact⟨rfl,Qy.err (bl.o.trans (Rv bm.o H1.o aZ)) (Q.o.trans p) ⟨A,QE Q.o.size hz,rfl,B⟩⟩
  have bc:=bv.o U.2 z4 bk.o.le bk.o.e0 av;have bg:=QI J.o;have bw:=O aq;obtain⟨ac,x4,rfl⟩:=HP.o.form _ _ _ _ aq;have aO:=O (Q.o.trans p);have bx:=O av;have br:=O ai;have ap:=XP (b:=b) ae.o p (by omega);have aW:=O (aB.o.imp (fun a u q=>ZD.mod HP.o (b:=b) (w':=w4) q p (by omega)));have a0:=O (fun k hk=>(ae.o.lt k hk).2);have aI:=O (ZD.new HP.o (base:=w.heap.size+1+1) bw.o (by omega) a0.o);have aL:=O (QY ad.o p (by omega));have aA:=O (QY J.o p (by omega));have bh:=QI aA.o;clear h4 av ai p aq;go_wp2_with (at_builtin;refine Kf _ rfl _ _ 219 rfl (w.heap.size+1+1) 218 i0 .nilIface 1 16 underlying219 hi a4 a5 a6 rfl (by decide) _ _ _ rfl (ap.alloc _) ⟨w4.heap.size,0,none⟩ 1 1 [.iface ac x4] rfl rfl ?c1 ?c2 ?c3 ?c4 ?c5 ?_)
  case c1=>
   intro j u Y
   match j,Y with
   |0,Y=>simp at Y;subst Y;simp[Addr.add]
  case c2=>intro u q;simp at q;subst q;rfl
  case c3=>unfold maxLen;omega
  case c4=>omega
  case c5=>simp;omega
  .intro v' w5 aG L _ af;have D:∀k,(u7).ownBlock=some k->w.heap.size+1+1<=k:=fun k hk=>(ap.lt k hk).1
   have aP:=O ((aO.o.alloc (Obj.cells #[.iface ac x4] 218)).grown L (fun k hk=>by have:=D k hk;omega));have aw:=O ((br.o.alloc (Obj.cells #[.iface ac x4] 218)).grown L (fun k hk=>by have:=D k hk;omega));have bt:=O aG;have aQ:=O (Zz.snoc (P:=fun a u=>ZD P (w.heap.size+1+1) w5 v' a u) (aI.o.grown HP.o L af) (aW.o.imp (fun a u q=>ZD.grown HP.o q L af)))
   have aj:∀k,k<w.heap.size+1+1->w5.heap[k]?=w4.heap[k]?:=fun k hk=>by
    rw[L.block k (by simp;omega) (fun e=>by have:=D k e.symm;omega)];exact ZL _ _ _ (by omega)
   have aM:=O ((aj w.heap.size (by omega)).trans aL.o);have aR:=O ((aj (w.heap.size+1) (by omega)).trans aA.o);have aE:muW w5 b t.size<muW wr b t.size:=by rw[aw.o.muEq,HR.o.muEq];omega
   have bs:=O aE;clear aG L aE ap D aj af;go_wp2;go_roundw
   case rel=>exact⟨z4.2,r++[z4.1],vs++[.iface ac x4],f,by simpa using bt.o,aQ.o,by simp,aw.o,aP.o,aM.o,aR.o,by omega,by simp;omega,bl.o.trans (S9 bm.o H1.o bx.o)⟩
   case measure=>exact bs.o
section
attribute [local go_sem ↓] Zt Zu
theorem QvX{j:Value}(h:RC w b t s j g i)(n:JP w pr b)(hF:2*t.size+1<F)(H:0<=d)(J:d<=100)(l:TreeP P)(r:SubMu t.size sub)(z:Je 186 w b t j g i (d+1) sub P):Calls prog 129 #[Xn hw a,Qa d,Qc pr] w (Qy (groupL t.data.toList F sub s) b t j g i w (fun xs w' v=>∃u,v=.iface 224 (.agg #[Qf hw,Qa a,u])/\trX (fromB w.heap.size) P xs w' u/\xs≠[])):=by
 have M:=n.lt;have S:(w.alloc (Qe #[Qf hw,Qa a] 216)).cell? (Ql pr 0)=some (Qc b):=by rw[YR _ _ _ M];exact n.1
 have B:=O (Lk hw a (w:=w.alloc (Qe #[Qf hw,Qa a] 216)) (h.alloc _) hF H J l r (z.mod ((Mod.refl b w).alloc _)));have HP:=O l;clear h n z l r;unfold Xn at *;go_enter func129,ntmps129;go_wp2_with fail;refine B.mono ?_;intro e U q;rcases q.cases with⟨y,v,A,rfl,⟨u,rfl,p,m⟩,x,c⟩ | ⟨f,K,⟨E,N,rfl,G⟩,c⟩
 rotate_left
 .exact⟨rfl,Qy.err K (((Mod.refl b w).alloc _).trans c) ⟨E,by simp at N;omega,rfl,G⟩⟩
 have X:=O A;have V:=O x;have C:=O (((Mod.refl b w).alloc _).trans c);have D:=O (trX.weak HP m p (fun k L _=>QE Qh L:∀k,_->_->fromB w.heap.size k));have W:=O m;obtain⟨R,T,Q,rfl⟩:=p.form;clear q A x c p m;go_wp2;go_ret;exact Qy.ok X C ⟨_,rfl,D,W⟩ V
theorem Qwe{j:Value}(h:RC w b t s j g i)(n:JP w pr b)(hF:2*t.size+1<F)(H:0<=d)(J:d<=100)(l:TreeP P)(r:SubMu t.size sub)(z:Je 186 w b t j g i (d+1) sub P):Calls prog 131 #[Xn hw a,Qa d,Qc pr] w (Qy (groupL t.data.toList F sub s) b t j g i w (fun xs w' v=>∃u,v=.iface 225 (.agg #[Qf hw,Qa a,u])/\trX (fromB w.heap.size) P xs w' u/\xs≠[])):=by
 have M:=n.lt;have S:(w.alloc (Qe #[Qf hw,Qa a] 216)).cell? (Ql pr 0)=some (Qc b):=by rw[YR _ _ _ M];exact n.1
 have B:=O (Lk hw a (w:=w.alloc (Qe #[Qf hw,Qa a] 216)) (h.alloc _) hF H J l r (z.mod ((Mod.refl b w).alloc _)));have HP:=O l;clear h n z l r;unfold Xn at *;go_enter func131,ntmps131;go_wp2_with fail;refine B.mono ?_;intro e U q;rcases q.cases with⟨y,v,A,rfl,⟨u,rfl,p,m⟩,x,c⟩ | ⟨f,K,⟨E,N,rfl,G⟩,c⟩
 rotate_left
 .exact⟨rfl,Qy.err K (((Mod.refl b w).alloc _).trans c) ⟨E,by simp at N;omega,rfl,G⟩⟩
 have X:=O A;have V:=O x;have C:=O (((Mod.refl b w).alloc _).trans c);have D:=O (trX.weak HP m p (fun k L _=>QE Qh L:∀k,_->_->fromB w.heap.size k));have W:=O m;obtain⟨R,T,Q,rfl⟩:=p.form;clear q A x c p m;go_wp2;go_ret;exact Qy.ok X C ⟨_,rfl,D,W⟩ V
def NA(w:World)(hw:L8)(hp:Nat):World:=
 ((((w.alloc (Qe #[Qf hw,Qa hp] 216)).alloc (Qe #[.string ⟨#[102,114,111,109]⟩,.string ⟨#[116,111]⟩] 9)).alloc (Qe #[Qa 7] 33)).alloc (Qe #[.slice (some ⟨w.heap.size+1,0,none⟩) 2 2] 61)).alloc (Qe #[QA 190 #[] #[.pointer (some ⟨w.heap.size+1+1+1,0,none⟩),.pointer (some ⟨w.heap.size+1+1,0,none⟩)]] 229)
theorem Qtt(w:World)(hw:L8)(a:Nat):NP (NA w hw a) (w.heap.size+1+1+1+1) (w.heap.size+1+1+1) (w.heap.size+1+1) (w.heap.size+1) 2 2 7 [JL,kTo]:=by
 refine⟨?_,?_,?_,?_,rfl,Qb⟩
 .exact Qj (ZB Qh) 0
 .exact Qj (QJ (ZB Qh)) 0
 .exact Qj (QJ (QJ (ZB Qh))) 0
 .have h:=Ju (w.alloc (Qe #[Qf hw,Qa a] 216)) [JL,kTo] (b:=#[.string ⟨#[102,114,111,109]⟩,.string ⟨#[116,111]⟩]) (a:=9) rfl;rw[show(w.alloc (Qe #[Qf hw,Qa a] 216)).heap.size=w.heap.size+1 from Qh]at h;exact((h.below (QH _)).below (QH _)).below (QH _)
theorem BZ(w:World)(hw:L8)(hp b:Nat):Mod b w (NA w hw hp):=(((((Mod.refl b w).alloc _).alloc _).alloc _).alloc _).alloc _
theorem Jr{o:Nat}(h:w.cell? ⟨g,o,none⟩=some v)(a:Mod b w w')(c:g≠b):w'.cell? ⟨g,o,none⟩=some v:=by
 rw[a.cell (p:=⟨g,o,none⟩) (QX h) c];exact h
theorem NP.mod{q p1 p2 d:Nat}(h:NP w q p1 p2 g n c d zs)(a:Mod b w w')(o:q≠b)(p:p1≠b)(r:p2≠b)(s:g≠b):NP w' q p1 p2 g n c d zs:=by
 obtain⟨e,f,i,k,l,m⟩:=h;exact⟨Jr e a o,Jr f a p,Jr i a r,fun j t=>Jr (k j t) a s,l,m⟩
theorem Qx8(hw:L8)(hp:Nat)(t:ByteArray)(rv:Value)(mc mt:Nat)(hb:b<w.heap.size):Vg (NA w hw hp) b t rv mc mt (QA 189 #[] #[.pointer (some ⟨w.heap.size+1+1+1+1,0,none⟩)]) (V7 (YK 7 [JL,kTo])):=
 fun W s hm hr=>RG hr ((Qtt w hw hp).mod hm I I I I)
theorem Vg.drew{w:World}{b:Nat}{t:ByteArray}{rv:Value}{mc mt:Nat}{cv:Value}{chk:L8->Nat}(h:Vg w b t rv mc mt cv chk):Vg w.drew b t rv mc mt cv chk:=h.mod ((Mod.refl b w).drew)
theorem SE{hp:Nat}(d:Int)(h:RC w b t s rv mc mt)(n:JP w pr b)(hF:2*t.size+1<F):Calls prog 135 #[Xn hw hp,Qa d,Qc pr] w (Qy (Xr t.data.toList F (V7 (YK 7 [JL,kTo])) 6 hp s) b t rv mc mt w (fun x w' v=>∃u,v=.iface 234 u/\mtV w.heap.size hw x w' u)):=by
 have P:=n.lt;have G:∀o,(w.alloc o).cell? (Ql pr 0)=some (Qc b):=fun o=>by rw[YR _ _ _ P];exact n.1
 have a2:∀o a,((w.alloc o).alloc a).cell? (Ql pr 0)=some (Qc b):=fun o a=>by rw[YR _ _ _ (by simp;omega)];exact G o
 have J:∀o a c,(((w.alloc o).alloc a).alloc c).cell? (Ql pr 0)=some (Qc b):=fun o a c=>by rw[YR _ _ _ (by simp;omega)];exact a2 o a
 have K:∀o a c g,((((w.alloc o).alloc a).alloc c).alloc g).cell? (Ql pr 0)=some (Qc b):=fun o a c g=>by rw[YR _ _ _ (by simp;omega)];exact J o a c
 have R:∀o a c g z,(((((w.alloc o).alloc a).alloc c).alloc g).alloc z).cell? (Ql pr 0)=some (Qc b):=fun o a c g z=>by rw[YR _ _ _ (by simp;omega)];exact K o a c g
 have H:=O h;have hb:=h.at_.lt;clear h n;unfold Xn
 have HW:=O (DC 6 (hw:=hw) hp ((H.step (BZ w hw hp b) (H.o.at_.mod (⟨rfl,rfl,rfl,(BZ w hw hp b).size,fun k hk=>by
  by_cases e:k=b
  .subst e;unfold NA;rw[ZL _ _ _ (by simp;omega),ZL _ _ _ (by simp;omega),ZL _ _ _ (by simp;omega),ZL _ _ _ (by simp;omega),ZL _ _ _ hk]
  .exact (BZ w hw hp b).block k hk e⟩:Qo w (NA w hw hp))) H.le H.sz H.e0 H.nm).drew) (Qx8 hw hp t rv mc mt hb).drew hF)
 have j:=O (BZ w hw hp b);unfold NA at HW j;go_enter func135,ntmps135;go_wp2_with fail;go_region_with (first|(go_at_call 137;refine Qu (DX) ?_;skip)|(go_at_call 136;refine Qu (WV) ?_;skip)|(go_at_call 133;refine HW.mono ?_;intro e w1 p;rcases p.cases with⟨y,v,r,rfl,⟨U,X,rfl,l,m⟩,q,i⟩ | ⟨f,N,⟨L,Q,rfl,M⟩,i⟩;rotate_left;exact⟨rfl,Qy.err N (j.o.trans (Z0 i)) ⟨L,by simp at Q;omega,rfl,M⟩⟩;have E:=O r;have A:=O q;have D:=O (j.o.trans (Z0 i));have B:=O (l.weak (B':=w.heap.size) (by simp;omega));have C:=O (m.weak (B':=w.heap.size) (by simp;omega));obtain⟨V,Y,S,rfl⟩:=l.form;obtain⟨W,Z,T,rfl⟩:=m.form;clear p r q i l m;skip))
 all_goals go_wp2
 all_goals go_ret
 all_goals exact Qy.ok E D ⟨_,rfl,_,_,rfl,B,C⟩ A
theorem ZQ.alloc{w:World}{g:Nat}{zs:Qn}(h:ZQ w g zs)(o:Obj):ZQ (w.alloc o) g zs:=h.below (QH _)
theorem ZQ.drew{w:World}{g:Nat}{zs:Qn}(h:ZQ w g zs):ZQ w.drew g zs:=h
abbrev Mm:Obj:=Qe #[.string ⟨#[]⟩,Qa 0,Qa 0,Qa 0] 311
theorem QyV(d:Int){q:Value}{p:Nat}(h:RC w b t s q n p):Calls prog 140 #[Qc b,Xn hw k,Qa d] w (Qy (sizeL t.data.toList k s) b t q n p w (fun x w' v=>v=.iface 311 (.agg #[Qf hw,Qa k,Qa x.tag,Qa x.num]))):=by
 have H:=O h;have ad:=h.at_.lt;have W:¬w.heap.size=b:=I
 have X:¬w.heap.size+1=b:=I
 have Y:¬w.heap.size+1+1=b:=I
 clear h;unfold Xn;go_enter func140,ntmps140;go_upto_region 1 with fail
 go_cut [7] (fun v wc=>∃(T:Nat) (y:Nat×PS),v=(Qc T)/\paL t.data.toList [JI,JE] s=.ok y/\RC wc b t y.2 q n p/\Mod b w wc/\w.heap.size<=T/\wc.heap[T]?=some (Qe #[Qf hw,Qa k,Qa y.1,Qa 0] 311))
 case first=>
  go_region_with (first|(go_at_call 191;refine Qu (Tc) ?_;skip)|(go_at_call 177;refine(UG (b:=b) 2 2 (zs:=[JI,JE]) (t:=t) (s:=s) (k:=q) (i:=n) (j:=p) (by first|exact((H.o.alloc _).alloc _).drew|exact(((H.o.alloc _).alloc _).alloc _).drew) (by first|exact(K' Qh).drew|exact((K' Qh).alloc _).drew) rfl Qb).mono ?_;intro e c D;rcases D.cases with⟨y,v,m,rfl,L,j,a⟩ | ⟨f,R,⟨u,l,rfl,C⟩,a⟩;rotate_left;exact⟨rfl,Qy.err (QC R) (by first|exact(((Mod.refl b w).alloc _).alloc _).trans (Z0 a)|exact((((Mod.refl b w).alloc _).alloc _).alloc _).trans (Z0 a)) ⟨u,by simp at l;omega,rfl,C⟩⟩;unfold YP at L;subst L;have G:=QY (g:=w.heap.size) (o:=Qe #[Qf hw,Qa k] 216) (by first|exact QJ (Q0)|exact QJ (QJ (Q0))) (Z0 a) W;have S:=Zs G;have U:=Q9 G;clear G;(first|(have i:=QY (g:=w.heap.size+1) (o:=Mm) (QJ (ZB Qh)) (Z0 a) X;have t0:=Zs i;have t1:=Q9 i;have t2:=Xx i;have t3:=XU i;have J:=QQ i;have P:=O i;clear i)|(have i:=QY (g:=w.heap.size+1+1) (o:=Mm) (ZB Qh) (Z0 a) Y;have t0:=Zs i;have t1:=Q9 i;have t2:=Xx i;have t3:=XU i;have J:=QQ i;have P:=O i;clear i)|skip);have aa:=a.size;simp at aa;have M:w.heap.size<c.heap.size:=I;have ab:∀o,(c.alloc o).cell? (Ql w.heap.size 0)=some (Qf hw):=(fun o=>by rw[YR _ _ _ M];exact S);have ac:∀o,(c.alloc o).cell? (Ql w.heap.size 1)=some (Qa k):=(fun o=>by rw[YR _ _ _ M];exact U);have HY:=O m;have HC:=O j;have K:Hid (Mod b w c):=(by first|exact(((Mod.refl b w).alloc _).alloc _).trans (Z0 a)|exact((((Mod.refl b w).alloc _).alloc _).alloc _).trans (Z0 a));clear D m j a;skip))
  all_goals (go_wp2_with fail;go_meet)
  all_goals first
   |exact⟨_,y,rfl,HY,HC.o.alloc _,K.o.alloc _,I,Q0⟩
   |exact⟨_,y,rfl,HY,(((HC.setNew I _ _).setNew I _ _).setNew I _ _).setNew I _ _,(((K.setNew I _ _).setNew I _ _).setNew I _ _).setNew I _ _,I,QM (QM (QM (QM P)))⟩
 case rest=>
  obtain⟨T,y,rfl,m,j,a,F,A⟩:=hcut;have ae:=QI A;have D:=Q9 j.at_;have Q:=J1 j.at_;have t3:=XU A;have J:=QQ A;have HY:=O m;have HC:=O j;have r:=O a;have HB:=O A;clear m j a A;by_cases hk:y.2.1.kind=4;rotate_left
  .have V:((y.2.1.kind:Int)==4)=false:=by simp;omega
   have HK:=O hk;clear hk;go_wp2_with fail;refine(YJ 4 HC.o.at_ rfl rfl).mono ?_;rintro e c ⟨⟨u,l,rfl,C⟩,a⟩;exact⟨rfl,Qy.err ((Qx HY).trans (Qg HK)) (r.o.trans (Mod.of_below a)) ⟨u,QE r.size l,rfl,C⟩⟩
  have V:((y.2.1.kind:Int)==4)=true:=by simp;omega
  have HK:=O hk;clear hk;go_wp2_with fail;refine Qv (Xe b rfl) ?_;rintro w' Z;subst Z;go_wp2_with fail;refine(Km (HC.setNew I _ _)).mono ?_;rintro e E (⟨z,l,rfl,hc2,hm2⟩ | ⟨f2,hf2,⟨u,l,rfl,C⟩,hm2⟩);rotate_left
  .exact⟨rfl,Qy.err ((Qx HY).trans ((Qi HK).trans (Jv hf2))) ((r.setNew F _ _).trans hm2) ⟨u,QE (r.setNew F _ _).size l,rfl,C⟩⟩
  have B:=QY (QM (b:=T) (o:=3) (v:=Qa y.2.1.num) HB) hm2 I;have q0:=Zs B;have q1:=Q9 B;have q2:=Xx B;have q3:=XU B;have N:=O ((r.setNew F 3 (Qa y.2.1.num)).trans hm2);have af:=O hc2;have HZ:=O l;clear B hm2 hc2 l J t3 D Q;go_wp2;go_ret;exact Qy.ok ((Qx HY).trans ((Qi HK).trans (YV HZ))) N rfl af
theorem Qxn(d:Int){l:Value}(h:RC w b t s l j k):Calls prog 121 #[.pointer (some ⟨b,0,none⟩),Xn hw c,.int .i64 d] w (Qy (paL t.data.toList [[59]] s) b t l j k w (fun _ _ v=>v=.iface 269 (.agg #[.string (sA hw),.int .i64 c,.int .i64 1,.string ⟨#[]⟩]))):=by
 have H:=O h;have D:=h.at_.lt;clear h;unfold Xn;go_enter func121,ntmps121;go_wp2_with fail;have HP:=O (UG (b:=b) (g:=w.heap.size+1) 1 1 (zs:=[[59]]) (t:=t) (s:=s) (k:=l) (i:=j) (j:=k) ((H.o.alloc (.cells #[.string (sA hw),.int .i64 c] 216)).alloc (.cells (QW [[59]]).toArray 9)) (K' (by simp)) rfl (by decide));refine HP.o.mono ?_;intro e E m;rcases m.cases with⟨y,v,q,rfl,p,n,a⟩ | ⟨f,z,⟨u,A,rfl,x⟩,a⟩
 rotate_left
 .exact⟨rfl,Qy.err z ((((Mod.refl b w).alloc _).alloc _).trans a) ⟨u,by simp at A;omega,rfl,x⟩⟩
 unfold YP at p;subst p;have i:=QY (g:=w.heap.size) (o:=.cells #[.string (sA hw),.int .i64 c] 216) (QJ (Q0)) a (by omega);have B:=Qj i 0;have C:=Qj i 1;have G:=O q;have F:=O n;have r:=O ((((Mod.refl b w).alloc _).alloc _).trans a);clear m q n a i HP;go_wp2;go_ret;exact Qy.ok G.o r.o rfl F.o
theorem T7(d:Int){l:Value}(h:RC w b t s l j k):Calls prog 122 #[.pointer (some ⟨b,0,none⟩),Xn hw c,.int .i64 d] w (Qy (paL t.data.toList [[59]] s) b t l j k w (fun _ _ v=>v=.iface 294 (.agg #[.string (sA hw),.int .i64 c]))):=by
 have H:=O h;have D:=h.at_.lt;clear h;unfold Xn;go_enter func122,ntmps122;go_wp2_with fail;have HP:=O (UG (b:=b) (g:=w.heap.size+1) 1 1 (zs:=[[59]]) (t:=t) (s:=s) (k:=l) (i:=j) (j:=k) ((H.o.alloc (.cells #[.string (sA hw),.int .i64 c] 216)).alloc (.cells (QW [[59]]).toArray 9)) (K' (by simp)) rfl (by decide));refine HP.o.mono ?_;intro e E m;rcases m.cases with⟨y,v,q,rfl,p,n,a⟩ | ⟨f,z,⟨u,A,rfl,x⟩,a⟩
 rotate_left
 .exact⟨rfl,Qy.err z ((((Mod.refl b w).alloc _).alloc _).trans a) ⟨u,by simp at A;omega,rfl,x⟩⟩
 unfold YP at p;subst p;have i:=QY (g:=w.heap.size) (o:=.cells #[.string (sA hw),.int .i64 c] 216) (QJ (Q0)) a (by omega);have B:=Qj i 0;have C:=Qj i 1;have G:=O q;have F:=O n;have r:=O ((((Mod.refl b w).alloc _).alloc _).trans a);clear m q n a i HP;go_wp2;go_ret;exact Qy.ok G.o r.o rfl F.o
theorem QxU(d:Int){l:Value}(h:RC w b t s l j k):Calls prog 123 #[.pointer (some ⟨b,0,none⟩),Xn hw c,.int .i64 d] w (Qy (paL t.data.toList [[59]] s) b t l j k w (fun _ _ v=>v=.iface 295 (.agg #[.string (sA hw),.int .i64 c]))):=by
 have H:=O h;have D:=h.at_.lt;clear h;unfold Xn;go_enter func123,ntmps123;go_wp2_with fail;have HP:=O (UG (b:=b) (g:=w.heap.size+1) 1 1 (zs:=[[59]]) (t:=t) (s:=s) (k:=l) (i:=j) (j:=k) ((H.o.alloc (.cells #[.string (sA hw),.int .i64 c] 216)).alloc (.cells (QW [[59]]).toArray 9)) (K' (by simp)) rfl (by decide));refine HP.o.mono ?_;intro e E m;rcases m.cases with⟨y,v,q,rfl,p,n,a⟩ | ⟨f,z,⟨u,A,rfl,x⟩,a⟩
 rotate_left
 .exact⟨rfl,Qy.err z ((((Mod.refl b w).alloc _).alloc _).trans a) ⟨u,by simp at A;omega,rfl,x⟩⟩
 unfold YP at p;subst p;have i:=QY (g:=w.heap.size) (o:=.cells #[.string (sA hw),.int .i64 c] 216) (QJ (Q0)) a (by omega);have B:=Qj i 0;have C:=Qj i 1;have G:=O q;have F:=O n;have r:=O ((((Mod.refl b w).alloc _).alloc _).trans a);clear m q n a i HP;go_wp2;go_ret;exact Qy.ok G.o r.o rfl F.o
def Af(l:L8)(s:PS):Qq (L8×PS):=QL (sL l (fun _=>0) s) fun x s1=>semi l s1 x
theorem D7(d:Int)(M:Nat){n:Value}{l m:Nat}(h:RC w b t s n l m)(j:JP w pr b)(H:w.cell? (Ql C 0)=some (Qa M))(T:C≠b):Calls prog 178 #[Xn hw a,Qa d,Qc pr,Qc C] w (Qy (Af t.data.toList s) b t n l m w (fun x _ v=>v=.iface 269 (.agg #[Qf hw,Qa a,Qa M,Qf x]))):=by
 have R:=j.lt;have V:=h.at_.lt;have Q:(w.alloc (Qe #[Qf hw,Qa a] 216)).cell? (Ql pr 0)=some (Qc b):=by rw[YR _ _ _ R];exact j.1
 replace h:=O h;replace j:=O j;unfold Xn;go_enter func178,ntmps178;go_wp2_with fail;refine(CG (h.o.alloc _)).mono ?_;intro e U E;rcases E.cases with⟨y,v,A,rfl,J,q,c⟩ | ⟨f,u,⟨p,B,rfl,r⟩,c⟩
 rotate_left
 .exact⟨rfl,Qy.err (QC u) (((Mod.refl b w).alloc _).trans c) ⟨p,by simp at B;omega,rfl,r⟩⟩
 unfold Ut at J;subst J;have k:=O (((Mod.refl b w).alloc (Qe #[Qf hw,Qa a] 216)).trans c);have P:=O (QY (g:=w.heap.size) (Q0 (w:=w) (o:=Qe #[Qf hw,Qa a] 216)) c I);have S:=(j.o.mod k).1;clear E c Q;change Qd _ at A H;replace q:=O q;go_wp2_with fail;have HP:=O (UG 1 1 (q.o.alloc (.cells (QW [[59]]).toArray 9)) (K' rfl) rfl Qb);refine HP.mono ?_;intro e N F;rcases F.cases with⟨y2,Z,L,rfl,K,G,i⟩ | ⟨f,u,⟨p,B,rfl,r⟩,i⟩
 rotate_left
 .exact⟨rfl,Qy.err ((Qx A).trans (QC u)) ((k.o.alloc _).trans i) ⟨p,QE (k.o.alloc _).size B,rfl,r⟩⟩
 unfold YP at K;subst K;have z:=QY (QJ P) i I;have W:=Zs z;have X:=Q9 z;have D:=O ((k.o.alloc (.cells (QW [[59]]).toArray 9)).trans i);have Y:=Jr H D T;clear F i z HP S;change Qd _ at L G;go_wp2;go_ret;exact Qy.ok ((Qx A).trans (Qx L)) D rfl G
end
theorem Tryz.infoCommand:(prog.info? 179).map (fun i=>(i.zero,i.size,i.bytes))=some (some .nilIface,1,16):=Qm
def blX{α:Type}(X:Nat->Prop)(P:(Nat->Prop)->α->World->Value->Prop)(xs:List α)(w:World)(v:Value):Prop:=
 (xs=[]/\v=.slice none 0 0)\/(xs≠[]/\trX X P xs w v)
theorem blX.keep{α:Type}{X:Nat->Prop}{P:(Nat->Prop)->α->World->Value->Prop}(c:TreeP P){xs:List α}{w w':World}{v:Value}(h:blX X P xs w v)(d:AbvX X w w'):blX X P xs w' v:=by
 rcases h with h | ⟨a,b⟩
 .exact Qt h
 .exact Qr ⟨a,b.keep c d⟩
theorem blX.weak{α:Type}{X Y:Nat->Prop}{P:(Nat->Prop)->α->World->Value->Prop}(d:TreeP P){xs:List α}{w:World}{v:Value}(h:blX X P xs w v)(c:∀k,X k->k<w.heap.size->Y k):blX Y P xs w v:=by
 rcases h with h | ⟨a,b⟩
 .exact Qt h
 .exact Qr ⟨a,trX.weak d a b c⟩
theorem blX.of_owns{α:Type}{P:(Nat->Prop)->α->World->Value->Prop}(c:TreeP P){w:World}{base n:Nat}{e:TypeId}{v:Value}{xs:List α}{b:List Value}(h:w.ownsRow base e 1 v n b)(d:n=xs.length)(f:xs=[]->v=.slice none 0 0)(g:Zz (fun a u=>ZD P base w v a u) xs b):blX (fromB base) P xs w v:=by
 by_cases hx:xs=[]
 .exact Qt ⟨hx,f hx⟩
 .exact Qr ⟨hx,trX.of_owns c h d hx g⟩
theorem blX.form{α:Type}{X:Nat->Prop}{P:(Nat->Prop)->α->World->Value->Prop}{xs:List α}{w:World}{v:Value}(h:blX X P xs w v):∃a n c,v=.slice a n c:=by
 rcases h with⟨_,h⟩ | ⟨_,h⟩
 .exact⟨_,_,_,h⟩
 .obtain⟨g,n,c,h⟩:=h.form;exact⟨_,_,_,h⟩
theorem Rs(h:mayL l [[125]] s=.error e):bMr l sub (f+1) acc s=.error e:=by rw[bMr];exact QC h
theorem Sl(h:mayL l [[125]] s=.ok y)(a:¬y.1=0):bMr l sub (f+1) acc s=.ok (acc,y.2):=by rw[bMr,Qx h,Qg a]
theorem Rr(h:mayL l [[125]] s=.ok y)(a:y.1=0)(b:sub y.2=.error e):bMr l sub (f+1) acc s=.error e:=by rw[bMr,Qx h,Qi a];exact QC b
theorem TK{z:α×PS}(h:mayL l [[125]] s=.ok y)(a:y.1=0)(b:sub y.2=.ok z):bMr l sub (f+1) acc s=bMr l sub f (acc++[z.1]) z.2:=by rw[bMr,Qx h,Qi a];exact Qx b
theorem QxD:∀z∈([[125]]:Qn),z≠[]:=Qb
theorem Lh{C:Value}{A:Nat}(h:RC w b t s C A B)(hF:2*t.size+1<F)(c:TreeP P)(hS:SubMu t.size sub)(ho:Je 143 w b t C A B d sub P):Calls prog 184 #[.pointer (some ⟨b,0,none⟩),.int .i64 d] w (Qy (blockL t.data.toList F sub s) b t C A B w (blX (fromB w.heap.size) P)):=by
 have H:=O h;have HO:=O ho;have HP:=O c;have aY:=O hS;have aK:=h.at_.lt;clear h ho c hS;obtain⟨i0,hi,aG,aH,aI⟩:=ZU Tryz.infoCommand;go_enter func184,ntmps184;go_wp2_with fail;have ar:=O (UG (b:=b) (g:=w.heap.size) 1 1 (zs:=[[123]]) (t:=t) (s:=s) (k:=C) (i:=A) (j:=B) (H.o.alloc (.cells (QW [[123]]).toArray 9)) (K' rfl) rfl (by decide));refine ar.o.mono ?_;intro e w1 i;rcases i.cases with⟨y,v,hy,rfl,hv,G,U⟩ | ⟨f,hf,⟨E,Q,rfl,J⟩,U⟩
 rotate_left
 .exact⟨rfl,Qy.err (QC hf) (((Mod.refl b w).alloc _).trans U) ⟨E,by simp at Q;omega,rfl,J⟩⟩
 unfold YP at hv;subst hv;have HY:=O hy;have HC:=O G;have aw:=O (((Mod.refl b w).alloc (.cells (QW [[123]]).toArray 9)).trans U);have aF:=HC.o.mu_le;have aj:=HC.o.mu_lt hF;clear i hy G U ar;go_wp2_with fail
 go_loopw [5] (fun v wr=>∃(D:PS) (n:List α) (X:List Value) (f:Nat),wr.ownsRow w.heap.size 179 1 v n.length X/\Zz (fun a u=>ZD P w.heap.size wr v a u) n X/\(n=[]->v=.slice none 0 0)/\RC wr b t D C A B/\Mod b w wr/\mu t.size D<f/\n.length+mu t.size D<=1300/\blockL t.data.toList F sub s=bMr t.data.toList sub f n D) (fun _ wr=>muW wr b t.size)
 case atStart=>
  exact⟨y.2,[],[],F,Z5,trivial,fun _=>rfl,HC.o,aw.o,aj,by simp;omega,Qx HY.o⟩
 case round=>
  obtain⟨D,n,X,f,ap,z,ao,x,L,hf,aJ,M⟩:=hrel;obtain⟨f,rfl⟩:∃g,f=g+1:=⟨f-1,by omega⟩;have HR:=O x;have aR:=O L;have aP:=O M;have aX:=O ap;have az:=O z;have aV:=O ao;have aM:=L.size;clear x L M ap z ao HC HY aF aj;go_wp2_with fail;refine(NS (b:=b) (g:=wr.heap.size) 1 1 (zs:=[[125]]) (t:=t) (s:=D) (j:=C) (d:=A) (i:=B) (HR.o.alloc _) (Ju wr [[125]] rfl) rfl (by decide)).mono ?_;intro e w3 h3;rcases h3.cases with⟨R,v3,N,rfl,au,aS,V⟩ | ⟨f3,aC,⟨E,Q,rfl,J⟩,V⟩
  rotate_left
  .exact⟨rfl,Qy.err (aP.o.trans (Rs aC)) ((aR.o.alloc _).trans V) ⟨E,by simp at Q;omega,rfl,J⟩⟩
  have ac:=AN (l:=t.data.toList) (by simpa using HR.o.le) HR.o.e0 QxD N;rw[bal]at ac;replace ac:=ac.1;have S:=((Mod.refl b wr).alloc (.cells #[.string ⟨#[125]⟩] 9)).trans V;have q:=O (aR.o.trans S);have aQ:=O N;have aO:=O aS;have Z:=O (XP (b:=b) aX.o S (by omega));have ai:=O (az.o.imp (fun a u m=>ZD.mod HP.o (b:=b) (w':=w3) m S (by omega)));unfold YP at au;subst au;clear h3 N aS V S;by_cases i:R.1=0;rotate_left
  .have aB:((R.1:Int)==0)=false:=by simp;omega
   have H1:=O i;have HT:=O (blX.of_owns HP.o Z.o rfl aV.o ai.o);clear i;go_wp2;go_ret;exact Qy.ok (aP.o.trans (Sl aQ.o H1.o)) q.o HT.o aO.o
  have aB:((R.1:Int)==0)=true:=by simp;omega
  have H1:=O i;clear i;go_wp2_with fail;refine(HO.o _ R.2 q.o aO.o).mono ?_;intro e w4 h4;rcases h4.cases with⟨z4,v4,af,rfl,ae,ab,r⟩ | ⟨f4,aD,⟨E,Q,rfl,J⟩,r⟩
  rotate_left
  .exact⟨rfl,Qy.err (aP.o.trans (Rr aQ.o H1.o aD)) (q.o.trans r) ⟨E,QE q.o.size Q,rfl,J⟩⟩
  have aL:=aY.o R.2 z4 aO.o.le aO.o.e0 af;have aZ:=O ae;obtain⟨W,Y,rfl⟩:=HP.o.form _ _ _ _ ae;have ah:=O (q.o.trans r);have a0:=O af;have aT:=O ab;have ad:=XP (b:=b) Z.o r (by omega);have aA:=O (ai.o.imp (fun a u m=>ZD.mod HP.o (b:=b) (w':=w4) m r (by omega)));have aE:=O (fun k p=>(Z.o.lt k p).2);have av:=O (ZD.new HP.o (base:=w.heap.size) aZ.o q.o.size aE.o);have aN:=ah.o.size;clear h4 af ab r ae;go_wp2_with (at_builtin;refine Kf _ rfl _ _ 89 rfl w.heap.size 179 i0 .nilIface 1 16 underlying89 hi aG aH aI rfl (by decide) _ _ _ rfl (ad.alloc _) ⟨w4.heap.size,0,none⟩ 1 1 [.iface W Y] rfl rfl ?c1 ?c2 ?c3 ?c4 ?c5 ?_)
  case c1=>
   intro j u T
   match j,T with
   |0,T=>simp at T;subst T;simp[Addr.add]
  case c2=>intro u m;simp at m;subst m;rfl
  case c3=>unfold maxLen;omega
  case c4=>omega
  case c5=>simp;omega
  .intro v' w5 aq K _ aa;have z:∀k,(u5).ownBlock=some k->w.heap.size<=k:=fun k p=>(ad.lt k p).1
   have ax:=O ((ah.o.alloc (Obj.cells #[.iface W Y] 179)).grown K (fun k p=>by have:=z k p;omega));have ag:=O ((aT.o.alloc (Obj.cells #[.iface W Y] 179)).grown K (fun k p=>by have:=z k p;omega));have aW:=O aq;have ay:=O (Zz.snoc (P:=fun a u=>ZD P w.heap.size w5 v' a u) (av.o.grown HP.o K aa) (aA.o.imp (fun a u m=>ZD.grown HP.o m K aa)));have ak:muW w5 b t.size<muW wr b t.size:=by rw[ag.o.muEq,HR.o.muEq];omega
   have aU:=O ak;clear aq K ak ad z aa;go_wp2;go_roundw
   case rel=>exact⟨z4.2,n++[z4.1],X++[.iface W Y],f,by simpa using aW.o,ay.o,fun hh=>absurd hh (by simp),ag.o,ax.o,by omega,by simp;omega,aP.o.trans (TK aQ.o H1.o a0.o)⟩
   case measure=>exact aU.o
def Rp{α β:Type}(X:Nat->Prop)(P1:(Nat->Prop)->β->World->Value->Prop)(P2:(Nat->Prop)->α->World->Value->Prop)(a:β×List α)(w:World)(v:Value):Prop:=
 ∃u bv,v=.agg #[u,bv]/\P1 X a.1 w u/\blX X P2 a.2 w bv
theorem IY(h:b<B):¬fromB B b:=by unfold fromB;omega
theorem Oe{β:Type}{tst:PS->Qq (β×PS)}{A:(Nat->Prop)->β->World->Value->Prop}{p:(Nat->Prop)->α->World->Value->Prop}{l:Nat}(h:RC w b t s m j l)(hF:2*t.size+1<F)(aa:0<=d)(ab:d<=100)(a:TreeP A)(g:TreeP p)(P:SubMu t.size sub)(T:Je 186 w b t m j l (d+1) tst A)(E:Je 143 w b t m j l (d+1) sub p):Calls prog 183 #[Qc b,Qa d] w (Qy (armL t.data.toList F tst sub s) b t m j l w (Rp (fromB w.heap.size) A p)):=by
 have H:=O h;have ag:=O T;have ah:=O E;have ad:=O a;have ae:=O g;have ai:=O P;have S:=h.at_.lt;clear h T E a g P;go_enter func183,ntmps183;go_wp2_with fail;have r:=O ((Mod.refl b w).alloc (Qe #[.nilIface,Qp] 298));refine(ag _ s r (H.o.alloc _)).mono ?_;intro e w1 M;rcases M.cases with⟨y,v,hy,rfl,G,Q,i⟩ | ⟨f,D,⟨B,J,rfl,C⟩,i⟩
 rotate_left
 .exact⟨rfl,Qy.err (QC D) (r.o.trans i) ⟨B,by simp at J;omega,rfl,C⟩⟩
 have HV:=O G;obtain⟨ty,x,rfl⟩:=ad.o.form _ _ _ _ G;have HY:=O hy;have HC:=O Q;have n:=O (r.o.trans i);have K:=O (QY (Q0 (w:=w) (o:=Qe #[.nilIface,Qp] 298)) i I);have ac:=QI K;clear M hy Q i G;go_wp2_with fail;refine(Lh HC hF ae ai (ah.o.mod n)).mono ?_;intro e w2 N;rcases N.cases with⟨z,v2,W,rfl,q,R,c⟩ | ⟨f,D,⟨B,J,rfl,C⟩,c⟩
 rotate_left
 .exact⟨rfl,Qy.err ((Qx HY).trans (QC D)) (n.o.trans c) ⟨B,QE n.size J,rfl,C⟩⟩
 have aj:=O q;obtain⟨Z,bn,bc,rfl⟩:=q.form;have Y:=O (ad.o.keep _ _ _ _ _ HV (c.abvX (IY (by simp;omega))));have ak:=O W;have af:=O R;have X:=O (n.o.trans c);have u:=O (QY K c I);have r0:=Qj u 0;have r1:=Qj u 1;have rf:=QQ u;clear N W R c q;go_wp2;have U:¬fromB (w.heap.size+1) w.heap.size:=by unfold fromB;omega
 have V:¬fromB w1.heap.size w.heap.size:=by unfold fromB;omega
 have L:=Y.o;rw[show(w.alloc (Qe #[.nilIface,Qp] 298)).heap.size=w.heap.size+1 from Qh]at L;refine Q_ (v:=.agg #[.iface ty x,.slice Z bn bc]) (by simp[results,results183,go_sem,r0,r1]) rfl (Qy.ok ((Qx HY).trans (Qx ak)) ((X.setNew QF _ _).setNew QF _ _) ⟨_,_,rfl,?_,?_⟩ ((af.setNew S _ _).setNew S _ _))
 .exact ad.o.weak _ _ _ _ _ (ad.o.keep _ _ _ _ _ (ad.o.keep _ _ _ _ _ L (AbvX.set U _ _)) (AbvX.set U _ _)) (fun k hk _=>by unfold fromB at *;omega)
 .exact blX.weak ae ((aj.o.keep ae (AbvX.set V _ _)).keep ae (AbvX.set V _ _)) (fun k hk _=>by unfold fromB at *;omega)
section
attribute [local go_sem ↓] Zt Zu
abbrev MW:Obj:=Qe #[.string ⟨#[]⟩,Qa 0,Qa 0,.string ⟨#[]⟩,.string ⟨#[]⟩] 264
def Ad(l:L8)(s:PS):Qq ((Nat×L8×L8)×PS):=
 QL (mayL l [Yn,Ym,Yj] s) fun tag s1=>QL (sL l (fun x=>if isNameL x then 0 else 7) s1) fun v s2=>
  QL (sL l (fun _=>0) s2) fun x s3=>semi l s3 (tag,zL v,x)
theorem O2(d:Int){A:Value}{u z:Nat}(h:RC w b t s A u z):Calls prog 125 #[.pointer (some ⟨b,0,none⟩),Xn hw C,.int .i64 d] w (Qy (Ad t.data.toList s) b t A u z w (fun x w' v=>v=.iface 264 (.agg #[.string (sA hw),.int .i64 C,.int .i64 x.1,.string (sA x.2.1),.string (sA x.2.2)]))):=by
 have H:=O h;have aE:=h.at_.lt;have aw:¬w.heap.size=b:=by omega
 have ax:¬w.heap.size+1=b:=by omega
 have ay:¬w.heap.size+1+1=b:=by omega
 clear h;unfold Xn;go_enter func125,ntmps125;go_upto_region 1 with fail
 go_cut [7] (fun v wc=>∃(T:Nat) (y:Nat×PS),v=.pointer (some ⟨T,0,none⟩)/\mayL t.data.toList [Yn,Ym,Yj] s=.ok y/\RC wc b t y.2 A u z/\Mod b w wc/\w.heap.size<=T/\wc.heap[T]?=some (.cells #[.string (sA hw),.int .i64 C,.int .i64 y.1,.string ⟨#[]⟩,.string ⟨#[]⟩] 264))
 case first=>
  go_region_with (first|(go_at_call 152;refine(S6).mono ?_;rintro e w' ⟨rfl,rfl⟩;skip)|(go_at_call 180;refine(NS (b:=b) 3 3 (zs:=[Yn,Ym,Yj]) (t:=t) (s:=s) (j:=A) (d:=u) (i:=z) (by first|exact((H.o.alloc _).alloc _).drew|exact(((H.o.alloc _).alloc _).alloc _).drew) (by first|exact(K' (by simp)).drew|exact((K' (by simp)).alloc _).drew) rfl (by decide)).mono ?_;intro e a k;rcases k.cases with⟨y,v,q,rfl,hv,m,i⟩ | ⟨f,p,⟨j,r,rfl,n⟩,i⟩;rotate_left;exact⟨rfl,Qy.err (QC p) (by first|exact(((Mod.refl b w).alloc _).alloc _).trans (Z0 i)|exact((((Mod.refl b w).alloc _).alloc _).alloc _).trans (Z0 i)) ⟨j,by simp at r;omega,rfl,n⟩⟩;unfold YP at hv;subst hv;have S:=QY (g:=w.heap.size) (o:=.cells #[.string (sA hw),.int .i64 C] 216) (by first|exact QJ (Q0)|exact QJ (QJ (Q0))) (Z0 i) aw;have au:=Zs S;have av:=Q9 S;clear S;(first|(have c:=QY (g:=w.heap.size+1) (o:=MW) (QJ (ZB (by simp))) (Z0 i) ax;have t0:=Zs c;have t1:=Q9 c;have t2:=Xx c;have V:=XU c;have W:=YF c;have X:=QQ c;have TB:=O c;clear c)|(have c:=QY (g:=w.heap.size+1+1) (o:=MW) (ZB (by simp)) (Z0 i) ay;have t0:=Zs c;have t1:=Q9 c;have t2:=Xx c;have V:=XU c;have W:=YF c;have X:=QQ c;have TB:=O c;clear c)|skip);have az:=i.size;simp at az;have ah:w.heap.size<a.heap.size:=(by omega);have aC:∀o,(a.alloc o).cell? ⟨w.heap.size,0,none⟩=some (.string (sA hw)):=(fun o=>by rw[YR _ _ _ ah];exact au);have aD:∀o,(a.alloc o).cell? ⟨w.heap.size,1,none⟩=some (.int .i64 C):=(fun o=>by rw[YR _ _ _ ah];exact av);have HY:=O q;have Y:=O m;have Z:Hid (Mod b w a):=(by first|exact(((Mod.refl b w).alloc _).alloc _).trans (Z0 i)|exact((((Mod.refl b w).alloc _).alloc _).alloc _).trans (Z0 i));clear k q m i;skip))
  all_goals (go_wp2_with fail;go_meet)
  all_goals first
   |(have aB:=TB;exact⟨_,y,rfl,HY.o,((((Y.o.setNew (by omega) _ _).setNew (by omega) _ _).setNew (by omega) _ _).setNew (by omega) _ _).setNew (by omega) _ _,((((Z.o.setNew (by omega) _ _).setNew (by omega) _ _).setNew (by omega) _ _).setNew (by omega) _ _).setNew (by omega) _ _,by omega,QM (QM (QM (QM (QM TB.o))))⟩)
   |exact⟨a.heap.size,y,rfl,HY.o,Y.o.alloc _,Z.o.alloc _,by omega,Q0⟩
 case rest=>
  obtain⟨T,y,rfl,q,m,i,J,hb⟩:=hcut;have aa:b<T:=by omega
  have HY:=O q;have Y:=O m;have HM:=O i;have HB:=O hb;clear q m i hb;go_wp2_with fail;refine(SW (b:=b) (t:=t) (s:=y.2) (k:=A) (i:=u) (j:=z) Y.o).mono ?_;intro e a k;rcases k.cases with⟨y1,v1,G,rfl,ad,R,D⟩ | ⟨f,p,⟨j,r,rfl,n⟩,D⟩
  rotate_left
  .exact⟨rfl,Qy.err ((Qx HY.o).trans (QC p)) (HM.o.trans D) ⟨j,QE HM.o.size r,rfl,n⟩⟩
  unfold Ut at ad;subst ad;have aG:=O G;have aK:=O R;have ap:=O (HM.o.trans D);have ai:=O (QY HB.o D (by omega))
  have aF:y1.1.length<=600:=by
   have k:=(GS (l:=t.data.toList) (by simpa using Y.o.le) G).2;have h2:=Y.o.sz.1;rw[k];exact h2
  clear k G R D;go_wp2_with fail;refine(AF (sA y1.1) _ (by rw[Zc];omega)).mono ?_;rintro e w2 ⟨rfl,M⟩;have K:=QY ai.o (Mod.of_below (b:=b) M) (by omega);have V:=Qj K 3;have X:=QQ K;have ak:=O (aK.o.below M);have P:=O (ap.o.trans (Mod.of_below (b:=b) M));have aI:=O K;clear K M;go_wp2_with fail;refine(CG (b:=b) (t:=t) (s:=y1.2) (g:=A) (c:=u) (d:=z) (ak.o.setNew aa _ _)).mono ?_;intro e w3 h3;rcases h3.cases with⟨N,v3,U,rfl,ae,ab,E⟩ | ⟨f,p,⟨j,r,rfl,n⟩,E⟩
  rotate_left
  .exact⟨rfl,Qy.err ((Qx HY.o).trans ((Qx aG.o).trans (QC p))) ((P.o.setNew J _ _).trans E) ⟨j,QE (P.o.setNew J _ _).size r,rfl,n⟩⟩
  unfold Ut at ae;subst ae;have L:=QY (QM (b:=T) (o:=3) (v:=.string ⟨(zL y1.1).toArray⟩) aI.o) E (by omega);have W:=Qj L 4;have aA:=QQ L;have aH:=O U;have aL:=O ab;have aq:=O ((P.o.setNew J 3 (.string ⟨(zL y1.1).toArray⟩)).trans E);have aJ:=O L;clear L h3 U ab E V X;go_wp2_with fail;have aj:=O (QM (b:=T) (o:=4) (v:=.string (sA N.1)) aJ.o);have ao:=O (aL.o.setNew aa 4 (.string (sA N.1)));have Q:=O (aq.o.setNew J 4 (.string (sA N.1)));have HP:=O (UG (b:=b) (g:=w3.heap.size) 1 1 (zs:=[[59]]) (t:=t) (s:=N.2) (k:=A) (i:=u) (j:=z) (ao.o.alloc (.cells (QW [[59]]).toArray 9)) (K' (by simp[World.setCell])) rfl (by decide));refine HP.o.mono ?_;intro e w5 h5;rcases h5.cases with⟨y5,v5,ag,rfl,af,ac,F⟩ | ⟨f,p,⟨j,r,rfl,n⟩,F⟩
  rotate_left
  .exact⟨rfl,Qy.err ((Qx HY.o).trans ((Qx aG.o).trans ((Qx aH.o).trans (QC p)))) ((Q.o.alloc _).trans F) ⟨j,QE (Q.o.alloc _).size r,rfl,n⟩⟩
  unfold YP at af;subst af;have B:=QY (QJ aj.o) F (by omega);have q0:=Qj B 0;have q1:=Qj B 1;have q2:=Qj B 2;have q3:=Qj B 3;have q4:=Qj B 4;have aN:=O ag;have aM:=O ac;have ar:=O ((Q.o.alloc (.cells (QW [[59]]).toArray 9)).trans F);clear h5 ag ac F B HP W aA;go_wp2;go_ret;exact Qy.ok ((Qx HY.o).trans ((Qx aG.o).trans ((Qx aH.o).trans (Qx aN.o)))) ar.o rfl aM.o
theorem MZ(h:n<10):Lib.decDigits n=[UInt8.ofNat (48+n)]:=by rw[Lib.decDigits,dif_pos h]
theorem Qyk(h:¬n<10):Lib.decDigits n=Lib.decDigits (n / 10)++[UInt8.ofNat (48+n % 10)]:=by rw[Lib.decDigits,dif_neg h]
theorem Em{d:Nat}(h:d<10):((UInt8.ofNat (48+d)).toNat:Int)=48+(d:Int):=by
 have:(UInt8.ofNat (48+d)).toNat=48+d:=by simp;omega
 omega
theorem QxM:∀(m n:Nat),n<=m->n<=2147483647->∀w,Calls prog 82 #[.int .i64 n] w fun e w'=>e=.returned (.string (sA (Lib.decDigits n)))/\Below w.heap.size w w':=by
 intro m
 induction m with
 |zero=>
  intro n k l w;have a:n<10:=by omega
  rw[MZ a];have f:=Em a;have g:decide ((n:Int)<10)=true:=QU (by omega);generalize UInt8.ofNat (48+n)=d at *;have b:=O (A0 w d);go_enter func82,ntmps82;go_wp2;rw[b.o _ (by omega)];go_wp2;go_ret;exact⟨rfl,QH _⟩
 |succ m ih=>
  intro n k l w;by_cases a:n<10
  .rw[MZ a];have f:=Em a;have g:decide ((n:Int)<10)=true:=QU (by omega);generalize UInt8.ofNat (48+n)=d at *;have b:=O (A0 w d);clear ih;go_enter func82,ntmps82;go_wp2;rw[b.o _ (by omega)];go_wp2;go_ret;exact⟨rfl,QH _⟩
  .have i:=O (Qyk a);have f:=Em (Nat.mod_lt n (show 0<10 by decide));have g:decide ((n:Int)<10)=false:=QB (by omega);have j:=O (ih (n / 10) (by omega) (by omega));generalize UInt8.ofNat (48+n % 10)=d at *;have b:=O (fun w=>A0 w d);have p:(Lib.decDigits (n / 10)).length<=100:=by rw[Lib.decDigits_length];have:=Lib.nDigits_le20 (n / 10) (by omega);omega
   clear ih;go_enter func82,ntmps82;go_wp2_with fail;refine(j.o _).mono ?_;rintro e s ⟨rfl,c⟩;have t:=O c;clear c;generalize Lib.decDigits (n / 10)=y at *;have q:=Zc y;have r:(sA [d]).size=1:=rfl;go_wp2;rw[b.o _ _ (by omega)];go_wp2;go_ret;exact⟨by rw[i.o,<-Gc];rfl,t.o.alloc (Below.size t.o) _⟩
end
end Go.Proofs.YtgnkjijocdmniaaGreatDoor
