import Derived.Test.YtgnkjijocdmniaaGreatDoorZPlainQ3
namespace Go.Proofs.YtgnkjijocdmniaaGreatDoor
set_option linter.all false
set_option maxRecDepth 100000
set_option maxHeartbeats 4000000
structure Gp (l:L8) (s:PS):Prop where
 le:s.2<=l.length
 lt:s.1.pos<=s.2
 word:s.1.kind≠0->s.1.pos < s.2
 said:s.1.kind=5->s.1.said.length+2<=s.2-s.1.pos
 spelt:s.1.kind=0->s.1.spelt=[]
 num:s.1.num<=2147483647
 spl:s.1.spelt.length<=s.2-s.1.pos
def ph(l:L8)(s:PS):Nat:=l.length-s.1.pos
variable{α β:Type}{F n p pos:Nat}{P:α->Prop}{chk:L8->Nat}{k:List (Nat×UInt8)}{l u v w x:L8}{req xs zs:Qn}{s:PS}{sub:PS->Qq (α×PS)}{txt:α->L8}{y:Qn×List (Q5 7)}
theorem Qwh{r:L8}{x:PS}(h:Zm r p=.ok x):x.1.spelt.length<=x.2-x.1.pos:=by
 have a:∀(k n:Nat) (t:L8),(Yl k t p n).1.spelt.length<=(Yl k t p n).2-(Yl k t p n).1.pos:=fun k n t=>by
  unfold Yl;simp[zL];omega
 cases r with
 |nil=>unfold Zm at h;dsimp only at h;cases h;simp
 |cons c r=>
  unfold Zm at h;dsimp only at h
  split at h
  .cases h;exact a _ _ _
  .split at h
   .split at h
    .cases h
    .cases h;exact a _ _ _
   .split at h
    .obtain⟨b,d,he⟩:∃b d:Nat,sNL (c::r) p=if Zr ((c::r).getD b 0)then .error ⟨2,p⟩else if 2147483647<d then .error ⟨3,p⟩else .ok (⟨4,p,[],[],d⟩,p+b):=⟨_,_,rfl⟩
     rw[he]at h
     split at h
     .cases h
     .split at h
      .cases h
      .cases h;simp
    .split at h
     .unfold quoteR at h
      cases hq:qL r with
      |none=>rw[hq]at h;cases h
      |some y=>rw[hq]at h;cases h;simp
     .split at h
      .cases h;exact a _ _ _
      .cases h
theorem BX(j:p<=l.length)(x:PS)(h:Zm (l.drop p) p=.ok x):Gp l x/\x.1.pos=p:=by
 obtain⟨f,e,k,g,i⟩:=LX j x h;refine⟨⟨e,I,fun a=>by have:=i a;omega,fun a=>?_,fun a=>(g a).2,(Hn l x h).2,Qwh h⟩,f⟩;generalize l.drop p=r at h
 cases r with
 |nil=>unfold Zm at h;dsimp only at h;cases h;cases a
 |cons c r=>
  unfold Zm at h;dsimp only at h
  split at h
  .cases h;cases a
  .split at h
   .split at h
    .cases h
    .cases h;cases a
   .split at h
    .obtain⟨b,d,he⟩:∃b d:Nat,sNL (c::r) p=if Zr ((c::r).getD b 0)then .error ⟨2,p⟩else if 2147483647<d then .error ⟨3,p⟩else .ok (⟨4,p,[],[],d⟩,p+b):=⟨_,_,rfl⟩
     rw[he]at h
     split at h
     .cases h
     .split at h
      .cases h
      .cases h;cases a
    .split at h
     .unfold quoteR at h
      cases hq:qL r with
      |none=>rw[hq]at h;cases h
      |some y=>
       rw[hq]at h;have e:=Be _ _ hq;cases h;simp;omega
     .split at h
      .cases h;cases a
      .cases h
theorem B0{y:PS}(h:Gp l s)(a:nL l s.2=.ok y):Gp l y/\s.2<=y.1.pos:=by
 unfold nL at a
 cases hs:Zw (l.length+1) (l.drop s.2) s.2 with
 |error f=>rw[hs]at a;cases a
 |ok n=>
  rw[hs]at a;have b:=Vy l _ s.2 n h.le hs;have c:=BX b.2 y a;exact⟨c.1,I⟩
def Bd{α:Type}(c:Nat)(l:L8)(len:α->Nat)(r:Qq (α×PS))(s:PS):Prop:=∀y,r=.ok y->Gp l y.2/\len y.1+c+64*ph l y.2<=64*ph l s
theorem Bd.err{c:Nat}{a:α->Nat}{f:Flt}:Bd c l a (.error f) s:=fun y h=>by cases h
theorem Bd.okk{b:α->Nat}{a:α}(h:Gp l s)(c:b a=0):Bd 0 l b (.ok (a,s)) s:=fun y e=>by cases e;exact⟨h,by simp only[c];omega⟩
theorem Ub{y:PS}(h:Gp l s)(b:s.1.kind≠0)(c:nL l s.2=.ok y):Gp l y/\64+64*ph l y<=64*ph l s:=by
 obtain⟨a,d⟩:=B0 h c;have e:=h.word b;have f:=h.le;have g:=a.le;have i:=a.lt;refine⟨a,?_⟩;unfold ph;omega
theorem UF(h:Gp l s)(hz:∀z∈zs,z≠[])(h0:¬wL zs s.1.spelt=0):s.1.kind≠0:=fun e=>h0 (by rw[h.spelt e];exact Aq hz)
theorem J_(h:Gp l s)(a:∀z∈zs,z≠[]):Bd 64 l (fun _=>0) (paL l zs s) s:=fun y e=>by
 unfold paL at e
 split at e
 .cases e
 .rename_i h0
  cases hn:nL l s.2 with
  |error f=>rw[hn]at e;cases e
  |ok s'=>rw[hn]at e;cases e;have:=Ub h (UF h a h0) hn;exact⟨this.1,by dsimp only;omega⟩
theorem KP(h:Gp l s)(a:∀z∈zs,z≠[]):Bd 0 l (fun i=>if i=0 then 0 else 64) (mayL l zs s) s:=fun y e=>by
 unfold mayL at e
 split at e
 .cases e;exact⟨h,Qh⟩
 .rename_i h0
  cases hn:nL l s.2 with
  |error f=>rw[hn]at e;cases e
  |ok s'=>rw[hn]at e;cases e;have:=Ub h (UF h a h0) hn;exact⟨this.1,by dsimp only;rw[Qg h0];omega⟩
theorem F9(x:L8):(Zd x).length<=2*x.length+2:=by
 unfold Zd;rw[Q1,Qz]
 have:(x.flatMap Va).length<=2*x.length:=by
  induction x with
  |nil=>simp
  |cons c r ih=>
   rw[YS,Qz,Q1];have:(Va c).length<=2:=by unfold Va;split<;>simp
   omega
 simp only[Q1,Zl];omega
theorem Kj(h:Gp l s):Bd 32 l (fun x=>(Zd x).length) (sL l chk s) s:=fun y e=>by
 unfold sL at e
 split at e
 .rename_i hk
  split at e
  .cases hn:nL l s.2 with
   |error f=>rw[hn]at e;cases e
   |ok s'=>
    rw[hn]at e;cases e;obtain⟨a,b⟩:=B0 h hn;have c:=h.said hk;have d:=h.le;have g:=a.le;have i:=a.lt;have j:=F9 s.1.said;have k:=h.lt;refine⟨a,?_⟩;show(Zd s.1.said).length+32+64*ph l s'<=64*ph l s
    unfold ph;omega
  .cases e
 .cases e
def JD(xs:Qn):Nat:=(xs.map fun x=>x.length+2).sum
theorem H7:JD (x::xs)=x.length+2+JD xs:=by simp[JD]
theorem CE{a:Qn}:JD (xs++a)=JD xs+JD a:=by simp[JD]
theorem NJ:JD [x]=x.length+2:=by simp[JD]
theorem Lm(xs:Qn):(JJ [44,32] xs).length<=JD xs:=by
 induction xs with
 |nil=>simp[JJ,JD]
 |cons x r ih=>
  cases r with
  |nil=>simp[JJ,JD]
  |cons y r=>
   rw[H7];simp only[JJ,Qz,Q1,Zl];omega
def X4(xs:Qn):Nat:=JD (xs.map Zd)
theorem J5:type_of%@List.map_nil:=@List.map_nil
theorem Bc(xs:Qn):(XF xs).length<=X4 xs+2:=by
 unfold XF X4;split
 .rw[XZ,J5,NJ];omega
 .have:=Lm (xs.map Zd);simp only[Qz,Q1,Zl];omega
theorem KC:type_of%@List.map_append:=@List.map_append
theorem MT{l:L8}{chk:L8->Nat}:∀(f:Nat) (acc:Qn) (s:PS),Gp l s->∀y,moreL l chk f acc s=.ok y->Gp l y.2/\X4 y.1+64*ph l y.2<=X4 acc+64*ph l s
 |0,acc,s,h=>fun y e=>by cases e;exact⟨h,Q4 _⟩
 |f+1,acc,s,h=>fun y e=>by
  rw[moreL]at e
  cases hp:paL l [[44],[93]] s with
  |error g=>rw[hp]at e;cases e
  |ok z=>
   rw[hp]at e;obtain⟨a,i⟩:=J_ (zs:=[[44],[93]]) h Qb z hp;dsimp only at e
   split at e
   .cases hs:sL l chk z.2 with
    |error g=>rw[hs]at e;cases e
    |ok x=>
     rw[hs]at e;obtain⟨b,j⟩:=Kj a x hs;obtain⟨c,d⟩:=MT f _ x.2 b y e;refine⟨c,?_⟩;unfold X4 at *;rw[KC,CE,XZ,J5,NJ]at d;dsimp only at *;omega
   .cases e;exact⟨a,by dsimp only;omega⟩
theorem An(h:Gp l s):Bd 16 l X4 (sLs l chk F s) s:=fun y e=>by
 unfold sLs at e
 cases hm:mayL l [[91]] s with
 |error g=>rw[hm]at e;cases e
 |ok z=>
  rw[hm]at e;obtain⟨b,d⟩:=KP (zs:=[[91]]) h Qb z hm;dsimp only at e
  cases hs:sL l chk z.2 with
  |error g=>rw[hs]at e;cases e
  |ok x=>
   rw[hs]at e;obtain⟨a,f⟩:=Kj b x hs;dsimp only at e;have j:X4 [x.1]=(Zd x.1).length+2:=by unfold X4;rw[XZ,J5,NJ]
   split at e
   .cases e;exact⟨a,by dsimp only at *;omega⟩
   .obtain⟨c,i⟩:=MT F _ x.2 a y e;exact⟨c,by dsimp only at *;omega⟩
theorem RE(t p:L8):(Jy t p).length<=t.length+1+p.length:=by
 unfold Jy;split<;>simp only[Qz,Q1,Zl]<;>omega
def KH(ps:Qn):Nat:=(ps.map fun p=>p.length+1).sum
theorem KD:type_of%@List.sum_cons:=@List.sum_cons
theorem Hv:∀(ps:Qn) (t:L8),(ps.foldl Jy t).length<=t.length+KH ps
 | [],t=>by simp[KH]
 |p::r,t=>by
  have a:=Hv r (Jy t p);have b:=RE t p;rw[K7];simp only[KH,XZ,KD]at a ⊢;omega
theorem Vx(ps:Qn):(ZC ps).length<=KH ps:=by
 have:=Hv ps [];simpa[ZC]using this
theorem Uv:type_of%@List.mem_of_getElem?:=@List.mem_of_getElem?
theorem CQ(tag:Nat)(a:Qn)(m:Nat)(h:∀z∈a,z.length<=m):(Jp tag a).length<=m:=by
 unfold Jp;split
 .simp
 .rw[Zv]
  cases he:a[tag-1]? with
  |none=>simp
  |some z=>exact h z (Uv he)
theorem EP{l:L8}:∀(f tag:Nat) (oct a:Bool) (s:PS),Gp l s->Bd 0 l (fun _=>0) (ZH l f tag oct a s) s
 |0,tag,oct,a,s,h=>Bd.okk h rfl
 |f+1,tag,oct,a,s,h=>fun y e=>by
  rw[ZH]at e;by_cases h1:wL [tIs,ZW,ZX] s.1.spelt=0
  .rw[Qi h1]at e;by_cases h2:wL [Yb] s.1.spelt=0
   .rw[Qi h2]at e;cases e;exact⟨h,Qh⟩
   .rw[Qg h2]at e;cases a
    .rw[Qg Qb]at e
     cases hn:nL l s.2 with
     |error g=>rw[Jv hn]at e;cases e
     |ok z=>
      rw[YV hn]at e;obtain⟨b,d⟩:=Ub h (UF (zs:=[Yb]) h Qb h2) hn
      cases hs:sL l (fun x=>if 0<wL [XR,Ko] x then 0 else 7) z with
      |error g=>rw[QC hs]at e;cases e
      |ok x=>
       rw[Qx hs]at e;obtain⟨i,k⟩:=Kj b x hs;obtain⟨c,j⟩:=EP f _ _ _ x.2 i y e;exact⟨c,by dsimp only at *;omega⟩
    .rw[Qi rfl]at e;cases e
  .rw[Qg h1]at e;by_cases ht:tag=0
   .rw[Qi ht]at e
    cases hn:nL l s.2 with
    |error g=>rw[Jv hn]at e;cases e
    |ok z=>
     rw[YV hn]at e;obtain⟨b,d⟩:=Ub h (UF (zs:=[tIs,ZW,ZX]) h Qb h1) hn;obtain⟨c,j⟩:=EP f _ _ _ z b y e;exact⟨c,by dsimp only at *;omega⟩
   .rw[Qg ht]at e;cases e
theorem CJ(hw:L8)(x:Zk)(h:hw.length<=8):(Jq hw x).length<=52+X4 x.fr+X4 x.keys:=by
 unfold Jq;have a:=Vx [hw,if x.octet then ZC [Yb,Zd XR]else [],if x.tag≠1 then Jp x.tag [tIs,ZW,ZX]else [],XF x.fr,XF x.keys];have b:=Bc x.fr;have c:=Bc x.keys
 have d:(if x.octet then ZC [Yb,Zd XR]else []).length<=21:=by
  split
  .decide
  .simp
 have e:(if x.tag≠1 then Jp x.tag [tIs,ZW,ZX]else []).length<=9:=by
  split
  .exact CQ _ _ 9 Qb
  .simp
 simp only[KH,XZ,J5,KD,List.sum_nil]at a;omega
theorem BW{k:Nat}(h:Gp l s):Bd 16 l (fun x=>X4 x.fr+X4 x.keys) (Xr l F chk k pos s) s:=fun y e=>by
 unfold Xr at e
 cases h1:ZH l F 0 false false s with
 |error f=>rw[QC h1]at e;cases e
 |ok a=>
  rw[Qx h1]at e;obtain⟨b,j⟩:=EP F 0 false false s h a h1
  cases h2:sLs l chk F a.2 with
  |error f=>rw[QC h2]at e;cases e
  |ok c=>
   rw[Qx h2]at e;obtain⟨g,m⟩:=An b c h2
   cases h3:sLs l (fun _=>0) F c.2 with
   |error f=>rw[QC h3]at e;cases e
   |ok d=>
    rw[Qx h3]at e;obtain⟨i,n⟩:=An g d h3;cases e;exact⟨i,by dsimp only at *;omega⟩
theorem F2{α:Type}{l:L8}{sub:PS->Qq (α×PS)}{txt:α->L8}(b:∀s,Gp l s->Bd 8 l (fun x=>(txt x).length) (sub s) s):∀(f:Nat) (acc:List α) (s:PS),Gp l s->∀y,gMr l sub f acc s=.ok y->Gp l y.2/\JD (y.1.map txt)+64*ph l y.2<=JD (acc.map txt)+64*ph l s
 |0,acc,s,h=>fun y e=>by cases e;exact⟨h,Q4 _⟩
 |f+1,acc,s,h=>fun y e=>by
  rw[gMr]at e
  cases hp:paL l [[44],[41]] s with
  |error g=>rw[QC hp]at e;cases e
  |ok z=>
   rw[Qx hp]at e;obtain⟨a,j⟩:=J_ (zs:=[[44],[41]]) h Qb z hp
   split at e
   .cases hq:sub z.2 with
    |error g=>rw[QC hq]at e;cases e
    |ok x=>
     rw[Qx hq]at e;obtain⟨c,k⟩:=b z.2 a x hq;obtain⟨d,i⟩:=F2 b f _ x.2 c y e;refine⟨d,?_⟩;rw[KC,CE,XZ,J5,NJ]at i;dsimp only at *;omega
   .cases e;exact⟨a,by dsimp only at *;omega⟩
theorem Ms(a:∀s,Gp l s->Bd 8 l (fun x=>(txt x).length) (sub s) s)(h:Gp l s):Bd 16 l (fun xs=>JD (xs.map txt)) (groupL l F sub s) s:=fun y e=>by
 unfold groupL at e
 cases hp:paL l [[40]] s with
 |error g=>rw[QC hp]at e;cases e
 |ok z=>
  rw[Qx hp]at e;obtain⟨b,i⟩:=J_ (zs:=[[40]]) h Qb z hp
  cases hq:sub z.2 with
  |error g=>rw[QC hq]at e;cases e
  |ok x=>
   rw[Qx hq]at e;obtain⟨c,j⟩:=a z.2 b x hq;obtain⟨d,f⟩:=F2 a F _ x.2 c y e;refine⟨d,?_⟩;rw[XZ,J5,NJ]at f;dsimp only at *;omega
theorem Qu6(h:n<=2147483647):(iL n).length<=21:=by
 have:=Lib.itoa_length_le n I I;rw[Lib.itoa_nonneg]at this;exact this
theorem M'(h:Gp l s):∀y,sizeL l pos s=.ok y->Gp l y.2/\64*ph l y.2+16<=64*ph l s/\y.1.kind=9/\y.1.num<=2147483647:=fun y e=>by
 unfold sizeL at e
 cases hp:paL l [JI,JE] s with
 |error g=>rw[QC hp]at e;cases e
 |ok z=>
  rw[Qx hp]at e;obtain⟨a,d⟩:=J_ (zs:=[JI,JE]) h Qb z hp
  split at e
  .rename_i hk
   cases hn:nL l z.2.2 with
   |error g=>rw[Jv hn]at e;cases e
   |ok x=>
    rw[YV hn]at e;obtain⟨b,c⟩:=Ub a I hn;cases e;exact⟨b,by dsimp only at *;omega,rfl,a.num⟩
  .cases e
theorem NE{k:Nat}{y:Zk×PS}(h:Xr l F chk k pos s=.ok y):y.1.kind=k:=by
 unfold Xr at h
 cases h1:ZH l F 0 false false s with
 |error f=>rw[QC h1]at h;cases h
 |ok a=>
  rw[Qx h1]at h
  cases h2:sLs l chk F a.2 with
  |error f=>rw[QC h2]at h;cases h
  |ok c=>
   rw[Qx h2]at h
   cases h3:sLs l (fun _=>0) F c.2 with
   |error f=>rw[QC h3]at h;cases h
   |ok e=>rw[Qx h3]at h;cases h;rfl
theorem Qs8(x:Zk){a:Qn}(h:x.kind=5):Xl x a=Jq Y_ x:=by simp only[Xl,h]
theorem Quo(x:Zk){a:Qn}(h:x.kind=6):Xl x a=Jq Zb x:=by simp only[Xl,h]
theorem QtQ(x:Zk){a:Qn}(h:x.kind=7):Xl x a=Jq Xc x:=by simp only[Xl,h]
theorem Qty(x:Zk){a:Qn}(h:x.kind=9):Xl x a=ZC [JK,Jp x.tag [JI,JE],iL x.num]:=by simp only[Xl,h]
theorem To(n:Nat){sub:PS->Qq (Zn n×PS)}(f:∀s,Gp l s->Bd 8 l (fun x=>(Zx n x).length) (sub s) s){k:Nat}(h:Gp l s):∀y,tBd l F sub k pos s=.ok y->Gp l y.2/\(Zx (n+1) y.1).length+64*ph l y.2<=56+64*ph l s:=by
 intro y e
 have m:∀(i:L8) (d:Qn),i.length<=8->(Y7 i d).length<=12+JD d:=fun i d r=>by
  have:=Lm d;simp only[Y7,Qz,Q1,Zl];omega
 unfold tBd at e
 split at e
 .cases e;exact⟨h,by show(4:Nat)+64*ph l s<=_;omega⟩
 .cases e;exact⟨h,by show(5:Nat)+64*ph l s<=_;omega⟩
 .cases hq:sub s with
  |error g=>rw[QC hq]at e;cases e
  |ok x=>
   rw[Qx hq]at e;obtain⟨a,c⟩:=f s h x hq;cases e;refine⟨a,?_⟩;show(ZC [kNot,Zx n x.1]).length+64*ph l x.2<=_
   have:=Vx [kNot,Zx n x.1];simp only[KH,XZ,J5,KD,List.sum_nil,show kNot.length=3 from rfl]at this;dsimp only at *;omega
 .cases hq:groupL l F sub s with
  |error g=>rw[QC hq]at e;cases e
  |ok x=>
   rw[Qx hq]at e;obtain⟨a,c⟩:=Ms f h x hq;cases e;refine⟨a,?_⟩;show(Y7 JV (x.1.map (Zx n))).length+64*ph l x.2<=_
   have:=m JV (x.1.map (Zx n)) Qb;dsimp only at *;omega
 .cases hq:groupL l F sub s with
  |error g=>rw[QC hq]at e;cases e
  |ok x=>
   rw[Qx hq]at e;obtain⟨a,c⟩:=Ms f h x hq;cases e;refine⟨a,?_⟩;show(Y7 JU (x.1.map (Zx n))).length+64*ph l x.2<=_
   have:=m JU (x.1.map (Zx n)) Qb;dsimp only at *;omega
 .cases hq:Xr l F (fun _=>0) 5 pos s with
  |error g=>rw[QC hq]at e;cases e
  |ok x=>
   rw[Qx hq]at e;obtain⟨a,c⟩:=BW h x hq;have b:=NE hq;cases e;refine⟨a,?_⟩;show(Xl x.1 []).length+64*ph l x.2<=_
   have:=CJ Y_ x.1 Qb;rw[Qs8 _ b];dsimp only at *;omega
 .cases hq:Xr l F (fun x=>if 0<wL [JL,kTo] (zL x)then 0 else 7) 6 pos s with
  |error g=>rw[QC hq]at e;cases e
  |ok x=>
   rw[Qx hq]at e;obtain⟨a,c⟩:=BW h x hq;have b:=NE hq;cases e;refine⟨a,?_⟩;show(Xl x.1 []).length+64*ph l x.2<=_
   have:=CJ Zb x.1 Qb;rw[Quo _ b];dsimp only at *;omega
 .cases hq:Xr l F (fun _=>0) 7 pos s with
  |error g=>rw[QC hq]at e;cases e
  |ok x=>
   rw[Qx hq]at e;obtain⟨a,c⟩:=BW h x hq;have b:=NE hq;cases e;refine⟨a,?_⟩;show(Xl x.1 []).length+64*ph l x.2<=_
   have:=CJ Xc x.1 Qb;rw[QtQ _ b];dsimp only at *;omega
 .cases hq:sLs l (fun _=>0) F s with
  |error g=>rw[QC hq]at e;cases e
  |ok x=>
   rw[Qx hq]at e;obtain⟨a,c⟩:=An h x hq;cases e;refine⟨a,?_⟩;show(ZC [YL,XF x.1]).length+64*ph l x.2<=_
   have b:=Vx [YL,XF x.1];have j:=Bc x.1;simp only[KH,XZ,J5,KD,List.sum_nil,show YL.length=6 from rfl]at b;omega
 .cases hq:sizeL l pos s with
  |error g=>rw[QC hq]at e;cases e
  |ok x=>
   rw[Qx hq]at e;obtain⟨a,c,b,j⟩:=M' h x hq;cases e;refine⟨a,?_⟩;show(Xl x.1 []).length+64*ph l x.2<=_
   have o:=Vx [JK,Jp x.1.tag [JI,JE],iL x.1.num];have p:=CQ x.1.tag [JI,JE] 6 Qb;have q:=Qu6 j;simp only[KH,XZ,J5,KD,List.sum_nil,show JK.length=4 from rfl]at o;rw[Qty _ b];omega
theorem B8{l:L8}{req:Qn}{F:Nat}:∀(n:Nat) (s:PS),Gp l s->Bd 8 l (fun x=>(Zx n x).length) (QP l req F n s) s
 |0,s,h=>by
  rw[QP];split<;>exact Bd.err
 |n+1,s,h=>fun y e=>by
  rw[QP]at e;by_cases h0:wL tNs s.1.spelt=0
  .rw[Qi h0]at e;cases e
  .rw[Qg h0]at e;cases hu:Z4 req s.1.spelt
   .rw[hu,Qg Qb]at e;cases e
   .rw[hu,Qi rfl]at e
    cases hn:nL l s.2 with
    |error g=>cases(Jv hn).symm.trans e
    |ok z=>
     replace e:=(YV hn).symm.trans e;obtain⟨a,c⟩:=Ub h (UF (zs:=tNs) h Qb h0) hn;obtain⟨b,d⟩:=To n (fun s g=>B8 n s g) a y e;exact⟨b,by dsimp only at *;omega⟩
def Zh{α:Type}(c:α->Nat)(xs:List α):Nat:=(xs.map c).sum
theorem NI(c:α->Nat){xs:List α}(x:α):Zh c (xs++[x])=Zh c xs+c x:=by simp[Zh]
theorem BA{α:Type}(txt:α->L8->L8)(i:L8):∀cs:List α,(ZJ txt cs i).length=Zh (fun c=>i.length+(txt c i).length+1) cs
 | []=>rfl
 |c::r=>by
  have:=BA txt i r;simp only[ZJ,Zh,YS,Qz,XZ,KD,Q1,Zl]at this ⊢;omega
def Ct{α:Type}(k:Nat)(l:L8)(c:α->Nat)(r:Qq (α×PS))(s:PS):Prop:=∀y,r=.ok y->Gp l y.2/\c y.1+k+64*ph l y.2<=64*ph l s
theorem FT{α:Type}{l:L8}{sub:PS->Qq (α×PS)}{c:α->Nat}(b:∀s,Gp l s->Ct 0 l c (sub s) s):∀(f:Nat) (acc:List α) (s:PS),Gp l s->∀y,bMr l sub f acc s=.ok y->Gp l y.2/\Zh c y.1+64*ph l y.2<=Zh c acc+64*ph l s
 |0,acc,s,h=>fun y e=>by cases e;exact⟨h,Q4 _⟩
 |f+1,acc,s,h=>fun y e=>by
  rw[bMr]at e
  cases hp:mayL l [[125]] s with
  |error g=>rw[QC hp]at e;cases e
  |ok z=>
   rw[Qx hp]at e;obtain⟨a,k⟩:=KP (zs:=[[125]]) h Qb z hp
   split at e
   .cases hq:sub z.2 with
    |error g=>rw[QC hq]at e;cases e
    |ok x=>
     rw[Qx hq]at e;obtain⟨d,m⟩:=b z.2 a x hq;obtain⟨i,j⟩:=FT b f _ x.2 d y e;refine⟨i,?_⟩;rw[NI]at j;dsimp only at *;omega
   .cases e;exact⟨a,by dsimp only at *;omega⟩
theorem LZ{c:α->Nat}(d:∀s,Gp l s->Ct 0 l c (sub s) s)(h:Gp l s):Ct 64 l (Zh c) (blockL l F sub s) s:=fun y e=>by
 unfold blockL at e
 cases hp:paL l [[123]] s with
 |error g=>rw[QC hp]at e;cases e
 |ok z=>
  rw[Qx hp]at e;obtain⟨a,f⟩:=J_ (zs:=[[123]]) h Qb z hp;obtain⟨b,i⟩:=FT d F _ z.2 a y e;refine⟨b,?_⟩;have:Zh c ([]:List α)=0:=rfl;dsimp only at *;omega
theorem Ou{tst:PS->Qq (β×PS)}{b:β->Nat}{c:α->Nat}(j:∀s,Gp l s->Ct 0 l b (tst s) s)(i:∀s,Gp l s->Ct 0 l c (sub s) s)(h:Gp l s):Ct 0 l (fun a=>64+b a.1+Zh c a.2) (armL l F tst sub s) s:=fun y e=>by
 unfold armL at e
 cases hp:tst s with
 |error g=>rw[QC hp]at e;cases e
 |ok z=>
  rw[Qx hp]at e;obtain⟨d,k⟩:=j s h z hp
  cases hq:blockL l F sub z.2 with
  |error g=>rw[QC hq]at e;cases e
  |ok x=>
   rw[Qx hq]at e;obtain⟨f,m⟩:=LZ i d x hq;cases e;exact⟨f,by dsimp only at *;omega⟩
theorem M2{α β:Type}{l:L8}{F:Nat}{tst:PS->Qq (β×PS)}{sub:PS->Qq (α×PS)}{b:β->Nat}{c:α->Nat}(j:∀s,Gp l s->Ct 0 l b (tst s) s)(i:∀s,Gp l s->Ct 0 l c (sub s) s):∀(f:Nat) (acc:List (β×List α)) (s:PS),Gp l s->∀y,aMr l F tst sub f acc s=.ok y->Gp l y.2/\Zh (fun a=>64+b a.1+Zh c a.2) y.1+64*ph l y.2<=Zh (fun a=>64+b a.1+Zh c a.2) acc+64*ph l s
 |0,acc,s,h=>fun y e=>by cases e;exact⟨h,Q4 _⟩
 |f+1,acc,s,h=>fun y e=>by
  rw[aMr]at e
  cases hp:mayL l [YB] s with
  |error g=>rw[QC hp]at e;cases e
  |ok z=>
   rw[Qx hp]at e;obtain⟨d,o⟩:=KP (zs:=[YB]) h Qb z hp
   split at e
   .cases e;exact⟨d,by dsimp only at *;omega⟩
   .cases hq:armL l F tst sub z.2 with
    |error g=>rw[QC hq]at e;cases e
    |ok x=>
     rw[Qx hq]at e;obtain⟨k,p⟩:=Ou j i d x hq;obtain⟨m,n⟩:=M2 j i f _ x.2 k y e;refine⟨m,?_⟩;rw[NI]at n;dsimp only at *;omega
theorem Qtc{a i:L8}(t b:L8)(hw:a.length<=7)(hi:i.length<=14):(Kq a i t b).length<=32+t.length+b.length:=by
 have:=Vx [a,t,KS];simp only[KH,XZ,J5,KD,List.sum_nil,show KS.length=2 from rfl]at this;simp only[Kq,Qz];omega
theorem H4{i:L8}(hi:i.length<=14):∀(as:List (L8×L8)) (b:L8),b.length<=7->(X7 i b as).length<=Zh (fun a=>32+a.1.length+a.2.length) as
 | [],b,_=>by simp[X7,Zh]
 |a::r,b,hw=>by
  have d:=Qtc a.1 a.2 hw hi;have c:=H4 hi r U7 Qb;simp only[X7,Zh,Qz,XZ,KD]at c ⊢;omega
theorem FL{α β:Type}(f:α->β)(c:β->Nat)(d:α->Nat)(h:∀a,c (f a)<=d a):∀xs:List α,Zh c (xs.map f)<=Zh d xs
 | []=>Q4 _
 |x::r=>by
  have b:=FL f c d h r;have e:=h x;simp only[Zh,XZ,KD,List.map_map]at b ⊢;omega
def KM(n:Nat)(i:L8)(x:Q5 n):Nat:=i.length+(ZR n x i).length+1
theorem G7{a:α}(h:Gp l s):∀y,semi l s a=.ok y->y.1=a/\Gp l y.2/\64*ph l y.2<=64*ph l s:=fun y e=>by
 unfold semi at e
 cases hp:paL l [[59]] s with
 |error g=>rw[QC hp]at e;cases e
 |ok z=>
  rw[Qx hp]at e;obtain⟨b,c⟩:=J_ (zs:=[[59]]) h Qb z hp;cases e;exact⟨rfl,b,by dsimp only at *;omega⟩
theorem Si(x:L8):(Zd (zL x)).length<=2*x.length+2:=by
 have:=F9 (zL x);simpa[zL]using this
theorem Ts(h:Gp l s):∀y,sL l chk s=.ok y->2*y.1.length+2+32+64*ph l y.2<=64*ph l s:=fun y e=>by
 unfold sL at e
 split at e
 .rename_i hk
  split at e
  .cases hn:nL l s.2 with
   |error f=>rw[hn]at e;cases e
   |ok s'=>
    rw[hn]at e;cases e;obtain⟨a,b⟩:=B0 h hn;have c:=h.said hk;have d:=h.le;have g:=a.le;have i:=a.lt;have j:=h.lt;show 2*s.1.said.length+2+32+64*ph l s'<=64*ph l s
    unfold ph;omega
  .cases e
 .cases e
theorem Qul(n:Nat){tst:PS->Qq (Zn n×PS)}{sub:PS->Qq (Q5 n×PS)}(i:L8)(hi:i.length<=14)(A:∀s,Gp l s->Ct 0 l (fun x=>(Zx n x).length) (tst s) s)(t:∀s,Gp l s->Ct 0 l (KM n (i++[32,32])) (sub s) s){k:Nat}(h:Gp l s):∀y,cBd l F tst sub k pos s=.ok y->Gp l y.2/\KM (n+1) i y.1+64*ph l y.2<=64+64*ph l s:=by
 intro y e;unfold cBd at e
 split at e
 .obtain⟨b,d,p⟩:=G7 h y e;refine⟨d,?_⟩;rw[b];show i.length+5+1+64*ph l y.2<=_
  omega
 .obtain⟨b,d,p⟩:=G7 h y e;refine⟨d,?_⟩;rw[b];show i.length+8+1+64*ph l y.2<=_
  omega
 .obtain⟨b,d,p⟩:=G7 h y e;refine⟨d,?_⟩;rw[b];show i.length+5+1+64*ph l y.2<=_
  omega
 .cases hq:sL l (fun _=>0) s with
  |error g=>rw[QC hq]at e;cases e
  |ok x=>
   rw[Qx hq]at e;obtain⟨f,j⟩:=Kj h x hq;obtain⟨b,d,p⟩:=G7 f y e;refine⟨d,?_⟩;rw[b];show i.length+(ZC [ZN,Zd x.1]++[59]).length+1+64*ph l y.2<=_
   have o:=Vx [ZN,Zd x.1];simp only[KH,XZ,J5,KD,List.sum_nil,show ZN.length=8 from rfl]at o;simp only[Qz,Q1,Zl];dsimp only at j;omega
 .cases hq:sL l (fun _=>0) s with
  |error g=>rw[QC hq]at e;cases e
  |ok x=>
   rw[Qx hq]at e;obtain⟨f,j⟩:=Kj h x hq;obtain⟨b,d,p⟩:=G7 f y e;refine⟨d,?_⟩;rw[b];show i.length+(ZC [Jt,Zd x.1]++[59]).length+1+64*ph l y.2<=_
   have o:=Vx [Jt,Zd x.1];simp only[KH,XZ,J5,KD,List.sum_nil,show Jt.length=8 from rfl]at o;simp only[Qz,Q1,Zl];dsimp only at j;omega
 .cases hq:sL l (fun _=>0) s with
  |error g=>rw[QC hq]at e;cases e
  |ok x=>
   rw[Qx hq]at e;obtain⟨f,j⟩:=Kj h x hq;obtain⟨b,d,p⟩:=G7 f y e;refine⟨d,?_⟩;rw[b];show i.length+(ZC [ZM,Zd x.1]++[59]).length+1+64*ph l y.2<=_
   have o:=Vx [ZM,Zd x.1];simp only[KH,XZ,J5,KD,List.sum_nil,show ZM.length=6 from rfl]at o;simp only[Qz,Q1,Zl];dsimp only at j;omega
 .cases hm:mayL l [Yn,Ym,Yj] s with
  |error g=>rw[QC hm]at e;cases e
  |ok m=>
   rw[Qx hm]at e;obtain⟨u,B⟩:=KP (zs:=[Yn,Ym,Yj]) h Qb m hm
   cases hv:sL l (fun x=>if isNameL x then 0 else 7) m.2 with
   |error g=>rw[QC hv]at e;cases e
   |ok v=>
    rw[Qx hv]at e;obtain⟨q,w⟩:=Kj u v hv;have r:=Ts u v hv
    cases hq:sL l (fun _=>0) v.2 with
    |error g=>rw[QC hq]at e;cases e
    |ok x=>
     rw[Qx hq]at e;obtain⟨f,j⟩:=Kj q x hq;obtain⟨b,d,p⟩:=G7 f y e;refine⟨d,?_⟩;rw[b];show i.length+(ZC [Xw,Jp m.1 [Yn,Ym,Yj],Zd (zL v.1),Zd x.1]++[59]).length+1+64*ph l y.2<=_
     have o:=Vx [Xw,Jp m.1 [Yn,Ym,Yj],Zd (zL v.1),Zd x.1];have G:=CQ m.1 [Yn,Ym,Yj] 7 Qb;have H:=Si v.1;simp only[KH,XZ,J5,KD,List.sum_nil,show Xw.length=3 from rfl]at o;simp only[Qz,Q1,Zl];dsimp only at j B w;omega
 .cases ha:armL l F tst sub s with
  |error g=>rw[QC ha]at e;cases e
  |ok a=>
   rw[Qx ha]at e;obtain⟨f,j⟩:=Ou A t h a ha
   cases hb:aMr l F tst sub F [a.1] a.2 with
   |error g=>rw[QC hb]at e;cases e
   |ok bb=>
    rw[Qx hb]at e;obtain⟨q,w⟩:=M2 A t F _ a.2 f bb hb;have K:Zh (fun a:Zn n×List (Q5 n)=>64+(Zx n a.1).length+Zh (KM n (i++[32,32])) a.2) [a.1]=64+(Zx n a.1.1).length+Zh (KM n (i++[32,32])) a.1.2:=by simp[Zh]
    cases hm:mayL l [Yv] bb.2 with
    |error g=>rw[QC hm]at e;cases e
    |ok m=>
     rw[Qx hm]at e;obtain⟨r,D⟩:=KP (zs:=[Yv]) q Qb m hm
     have J:(X7 i kIf (bb.1.map fun a:Zn n×List (Q5 n)=>(Zx n a.1,ZJ (ZR n) a.2 (i++[32,32])))).length<=Zh (fun a:Zn n×List (Q5 n)=>64+(Zx n a.1).length+Zh (KM n (i++[32,32])) a.2) bb.1:=by
      refine QE (H4 hi _ kIf Qb) (FL _ _ _ (fun a=>?_) bb.1);dsimp only;have:=BA (ZR n) (i++[32,32]) a.2;rw[this];unfold KM;omega
     split at e
     .cases e;refine⟨r,?_⟩;show i.length+(X7 i kIf (bb.1.map fun a:Zn n×List (Q5 n)=>(Zx n a.1,ZJ (ZR n) a.2 (i++[32,32])))++(if false then Nh++ZJ (ZR n) [] (i++[32,32])++i else [])++[125]).length+1+64*ph l m.2<=_
      simp only[J2,if_false,Qz,Q1,Zl];dsimp only at *;omega
     .rename_i hm0
      cases hc:blockL l F sub m.2 with
      |error g=>rw[QC hc]at e;cases e
      |ok cs=>
       rw[Qx hc]at e;obtain⟨C,E⟩:=LZ t r cs hc;cases e;refine⟨C,?_⟩;show i.length+(X7 i kIf (bb.1.map fun a:Zn n×List (Q5 n)=>(Zx n a.1,ZJ (ZR n) a.2 (i++[32,32])))++(if true then Nh++ZJ (ZR n) cs.1 (i++[32,32])++i else [])++[125]).length+1+64*ph l cs.2<=_
       have z:=BA (ZR n) (i++[32,32]) cs.1;simp only[if_true,Qz,Q1,Zl,show Nh.length=9 from rfl]at z ⊢;rw[z]
       have:Zh (fun c=>i.length+(0+1+1)+(ZR n c (i++[32,32])).length+1) cs.1=Zh (KM n (i++[32,32])) cs.1:=by
        congr 1;funext c;simp[KM]
       dsimp only at *;omega
theorem Ck{l:L8}{req:Qn}{F:Nat}:∀(n:Nat) (i:L8),i.length+2*n<=14->∀(s:PS),Gp l s->Ct 0 l (KM n i) (cmdL l req F n s) s
 |0,i,hi,s,h=>by
  rw[cmdL];split<;>exact fun y e=>by cases e
 |n+1,i,hi,s,h=>fun y e=>by
  rw[cmdL]at e;by_cases h0:wL cNs s.1.spelt=0
  .rw[Qi h0]at e;cases e
  .rw[Qg h0]at e;cases hu:Z4 req s.1.spelt
   .rw[hu,Qg Qb]at e;cases e
   .rw[hu,Qi rfl]at e
    cases hn:nL l s.2 with
    |error g=>cases(Jv hn).symm.trans e
    |ok z=>
     replace e:=(YV hn).symm.trans e;obtain⟨b,f⟩:=Ub h (UF (zs:=cNs) h Qb h0) hn;obtain⟨c,j⟩:=Qul n i I (fun s g y e=>by obtain⟨a,d⟩:=B8 n s g y e;exact⟨a,by dsimp only at *;omega⟩) (fun s g=>Ck n (i++[32,32]) (by simp only[Qz,Q1,Zl];omega) s g) b y e;exact⟨c,I⟩
theorem Qtm(req:Qn)(x:L8):X4 (Xf req x)<=X4 req+(Zd x).length+2:=by
 unfold Xf;split
 .omega
 .unfold X4;rw[KC,CE,XZ,J5,NJ];omega
theorem Hc:∀(xs req:Qn),X4 (xs.foldl Xf req)<=X4 req+X4 xs
 | [],req=>Qh
 |x::r,req=>by
  have a:=Hc r (Xf req x);have b:=Qtm req x;have c:X4 (x::r)=(Zd x).length+2+X4 r:=by unfold X4;rw[XZ,H7]
  rw[K7];omega
theorem Bt{l:L8}{F:Nat}:∀(f:Nat) (req:Qn) (s:PS),Gp l s->∀y,reqMore l F f req s=.ok y->Gp l y.2/\X4 y.1+64*ph l y.2<=X4 req+64*ph l s
 |0,req,s,h=>fun y e=>by cases e;exact⟨h,Q4 _⟩
 |f+1,req,s,h=>fun y e=>by
  rw[reqMore]at e
  cases hp:mayL l [Kn] s with
  |error g=>rw[QC hp]at e;cases e
  |ok z=>
   rw[Qx hp]at e;obtain⟨a,i⟩:=KP (zs:=[Kn]) h Qb z hp
   split at e
   .cases e;exact⟨a,by dsimp only at *;omega⟩
   .cases hq:sLs l (fun x=>if 0<wL [Zb,ZN,ZM,Z8] x then 0 else 6) F z.2 with
    |error g=>rw[QC hq]at e;cases e
    |ok x=>
     rw[Qx hq]at e;obtain⟨b,j⟩:=An a x hq
     cases hr:paL l [[59]] x.2 with
     |error g=>rw[QC hr]at e;cases e
     |ok v=>
      rw[Qx hr]at e;obtain⟨c,k⟩:=J_ (zs:=[[59]]) b Qb v hr;obtain⟨d,m⟩:=Bt f _ v.2 c y e;have n:=Hc x.1 req;refine⟨d,?_⟩;dsimp only at *;omega
theorem C_{α:Type}{l:L8}{sub:PS->Qq (α×PS)}{c:α->Nat}(a:∀s,Gp l s->Ct 0 l c (sub s) s):∀(f:Nat) (acc:List α) (s:PS),Gp l s->∀y,cMr sub f acc s=.ok y->Zh c y<=Zh c acc+64*ph l s
 |0,acc,s,h=>fun y e=>by cases e;omega
 |f+1,acc,s,h=>fun y e=>by
  rw[cMr]at e
  split at e
  .cases e;omega
  .cases hq:sub s with
   |error g=>rw[hq]at e;cases e
   |ok x=>
    rw[hq]at e;obtain⟨b,i⟩:=a s h x hq;have d:=C_ a f _ x.2 b y e;rw[NI]at d;omega
theorem Qvj(h:prL l=.ok y):(KU y).length<=64*l.length+64:=by
 unfold prL at h;dsimp only at h;generalize 2*l.length+10=F at h
 cases h1:nL l 0 with
 |error f=>rw[h1]at h;cases h
 |ok s=>
  rw[h1]at h;dsimp only at h
  have b:Gp l s:=by
   unfold nL at h1
   cases hs:Zw (l.length+1) (l.drop 0) 0 with
   |error f=>rw[hs]at h1;cases h1
   |ok n=>
    rw[hs]at h1;exact(BX (Vy l _ 0 n QR hs).2 s h1).1
  cases h3:reqMore l F F [] s with
  |error f=>rw[h3]at h;cases h
  |ok z=>
   rw[h3]at h;dsimp only at h;obtain⟨a,d⟩:=Bt F [] s b z h3
   cases h4:cMr (cmdL l z.1 F 7) F [] z.2 with
   |error f=>rw[h4]at h;cases h
   |ok cs=>
    rw[h4]at h;have e:=C_ (c:=KM 7 []) (fun s g=>Ck 7 [] Qb s g) F [] z.2 a cs h4;cases h;have i:=BA (ZR 7) [] cs;have j:Zh (fun c=>([]:L8).length+(ZR 7 c []).length+1) cs=Zh (KM 7 []) cs:=rfl
    have k:(NF z.1).length<=X4 z.1+12:=by
     unfold NF;split
     .simp
     .have:=Bc z.1;simp only[Qz,Q1,Zl,show Kn.length=7 from rfl];omega
    have m:X4 ([]:Qn)=0:=rfl;have o:Zh (KM 7 []) ([]:List (Q5 7))=0:=rfl;have p:ph l s<=l.length:=by unfold ph;omega
    show(NF z.1++ZJ (ZR 7) cs []).length<=_
    rw[Qz];omega
structure WfT (req:Qn) (x:Zk) (m:Nat):Prop where
 kind:x.kind<=9
 use:Z4 req (tNs.getD x.kind [])=true
 one:x.kind=2->m=1
 many:x.kind=3∨x.kind=4->0 < m
 leaf:x.kind<=1∨5<=x.kind->m=0
 tag:5<=x.kind->x.kind<=7->1<=x.tag∧x.tag<=3
 frm:5<=x.kind->x.kind<=8->x.fr≠[]
 keys:5<=x.kind->x.kind<=7->x.keys≠[]
 env:x.kind=6->∀z∈x.fr,0 < wL [JL,kTo] (zL z)
 size:x.kind=9->1<=x.tag∧x.tag<=2
 num:x.num<=2147483647
 num0:x.kind≠9->x.num=0
 tag0:x.kind<=4∨x.kind=8->x.tag=0
 oct0:x.kind<=4∨8<=x.kind->x.octet=false
 fr0:x.kind<=4∨x.kind=9->x.fr=[]
 keys0:x.kind<=4∨8<=x.kind->x.keys=[]
structure WfC (req:Qn) (x:Xa) (a e:Nat):Prop where
 kind:x.kind<=7
 use:Z4 req (cNs.getD x.kind [])=true
 tag:x.tag<=3
 tag0:x.kind≠6->x.tag=0
 arg0:x.kind<=2∨x.kind=7->x.arg=[]
 var0:x.kind≠6->x.var=[]
 var:x.kind=6->∃v,isNameL v=true∧x.var=zL v
 els0:x.kind≠7->x.els=false
 arms:x.kind=7->0 < a
 arms0:x.kind≠7->a=0
 else0:x.els=false->e=0
def JQ(p:Zk->Nat->Prop):(n:Nat)->Zn n->Prop
 |0,_=>False
 |n+1,x=>p x.1 x.2.length/\∀a∈x.2,JQ p n a
def YE(p:Zk->Nat->Prop)(q:Xa->Nat->Nat->Prop):(n:Nat)->Q5 n->Prop
 |0,_=>False
 |n+1,x=>q x.1 x.2.1.length x.2.2.length/\(∀a∈x.2.1,JQ p n a.1/\∀c∈a.2,YE p q n c)/\∀c∈x.2.2,YE p q n c
theorem By:∀(zs:Qn) (x:L8),¬wL zs x=0->zs.getD (wL zs x-1) []=x
 | [],x,h=>absurd rfl h
 |s::r,x,h=>by
  unfold wL at h ⊢;split
  .rename_i e;simp[e]
  .rename_i e;rw[Qg e]at h;split
   .rename_i e0;rw[Qi e0]at h;exact absurd rfl h
   .rename_i e0;have b:=By r x e0;have a:wL r x+1-1=(wL r x-1)+1:=I
    rw[a];simpa using b
def Has{α:Type}(P:α->Prop)(r:Qq (α×PS)):Prop:=∀y,r=.ok y->P y.1
theorem Db:Has (fun x=>chk x=0) (sL l chk s):=fun y e=>by
 unfold sL at e
 split at e
 .split at e
  .rename_i hc
   cases hn:nL l s.2 with
   |error f=>rw[hn]at e;cases e
   |ok s'=>rw[hn]at e;cases e;exact hc
  .cases e
 .cases e
theorem Z6:type_of%@List.mem_append:=@List.mem_append
theorem Mt{l:L8}{chk:L8->Nat}:∀(f:Nat) (acc:Qn) (s:PS),acc≠[]->(∀z∈acc,chk z=0)->Has (fun xs=>xs≠[]/\∀z∈xs,chk z=0) (moreL l chk f acc s)
 |0,acc,s,h,hc=>fun y e=>by cases e;exact⟨h,hc⟩
 |f+1,acc,s,h,hc=>fun y e=>by
  rw[moreL]at e
  cases hp:paL l [[44],[93]] s with
  |error g=>rw[hp]at e;cases e
  |ok z=>
   rw[hp]at e;dsimp only at e
   split at e
   .cases hs:sL l chk z.2 with
    |error g=>rw[hs]at e;cases e
    |ok x=>
     rw[hs]at e;have a:=Db x hs;refine Mt f _ x.2 Qh (fun u hu=>?_) y e;rcases Z6.1 hu with hu|hu
     .exact hc u hu
     .rw[ZV hu];exact a
   .cases e;exact⟨h,hc⟩
theorem Bl:Has (fun xs=>xs≠[]/\∀z∈xs,chk z=0) (sLs l chk F s):=fun y e=>by
 unfold sLs at e
 cases hm:mayL l [[91]] s with
 |error g=>rw[hm]at e;cases e
 |ok z=>
  rw[hm]at e;dsimp only at e
  cases hs:sL l chk z.2 with
  |error g=>rw[hs]at e;cases e
  |ok x=>
   rw[hs]at e;have b:=Db x hs;dsimp only at e
   split at e
   .cases e;exact⟨Qh,fun u a=>by rw[ZV a];exact b⟩
   .exact Mt F [x.1] x.2 Qh (fun u a=>by rw[ZV a];exact b) y e
theorem Qy1:Has (fun i=>1<=i/\i<=zs.length) (paL l zs s):=fun y e=>by
 unfold paL at e
 split at e
 .cases e
 .rename_i h0
  cases hn:nL l s.2 with
  |error f=>rw[hn]at e;cases e
  |ok s'=>rw[hn]at e;cases e;have:=KK zs s.1.spelt;dsimp only;omega
theorem QzQ:Has (fun i=>i<=zs.length) (mayL l zs s):=fun y e=>by
 unfold mayL at e
 split at e
 .cases e;exact QR
 .cases hn:nL l s.2 with
  |error f=>rw[hn]at e;cases e
  |ok s'=>rw[hn]at e;cases e;exact KK zs s.1.spelt
theorem Eu{l:L8}:∀(f tag:Nat) (oct a:Bool) (s:PS),Gp l s->ph l s<f->tag<=3->Has (fun o=>1<=o.1/\o.1<=3) (ZH l f tag oct a s)
 |0,tag,oct,a,s,h,hf,ht=>I
 |f+1,tag,oct,a,s,h,hf,ht=>fun y e=>by
  rw[ZH]at e;by_cases h1:wL [tIs,ZW,ZX] s.1.spelt=0
  .rw[Qi h1]at e;by_cases h2:wL [Yb] s.1.spelt=0
   .rw[Qi h2]at e;cases e;dsimp only;omega
   .rw[Qg h2]at e;cases a
    .rw[Qg Qb]at e
     cases hn:nL l s.2 with
     |error g=>rw[Jv hn]at e;cases e
     |ok z=>
      rw[YV hn]at e;obtain⟨b,c⟩:=Ub h (UF (zs:=[Yb]) h Qb h2) hn
      cases hs:sL l (fun x=>if 0<wL [XR,Ko] x then 0 else 7) z with
      |error g=>rw[QC hs]at e;cases e
      |ok x=>
       rw[Qx hs]at e;obtain⟨d,i⟩:=Kj b x hs;exact Eu f _ _ _ x.2 d I ht y e
    .rw[Qi rfl]at e;cases e
  .rw[Qg h1]at e;by_cases h3:tag=0
   .rw[Qi h3]at e
    cases hn:nL l s.2 with
    |error g=>rw[Jv hn]at e;cases e
    |ok z=>
     rw[YV hn]at e;obtain⟨b,c⟩:=Ub h (UF (zs:=[tIs,ZW,ZX]) h Qb h1) hn;exact Eu f _ _ _ z b I (KK [tIs,ZW,ZX] s.1.spelt) y e
   .rw[Qg h3]at e;cases e
theorem DQ{k:Nat}(h:Gp l s)(hF:l.length<F):Has (fun x=>x=⟨k,pos,x.tag,x.octet,x.fr,x.keys,0⟩/\1<=x.tag/\x.tag<=3/\x.fr≠[]/\x.keys≠[]/\∀z∈x.fr,chk z=0) (Xr l F chk k pos s):=fun y e=>by
 unfold Xr at e
 cases h1:ZH l F 0 false false s with
 |error f=>rw[QC h1]at e;cases e
 |ok a=>
  rw[Qx h1]at e;have b:=Eu F 0 false false s h (by unfold ph;omega) I a h1
  cases h2:sLs l chk F a.2 with
  |error f=>rw[QC h2]at e;cases e
  |ok c=>
   rw[Qx h2]at e;have g:=Bl c h2
   cases h3:sLs l (fun _=>0) F c.2 with
   |error f=>rw[QC h3]at e;cases e
   |ok d=>
    rw[Qx h3]at e;have i:=Bl d h3;cases e;exact⟨rfl,b.1,b.2,g.1,i.1,g.2⟩
theorem FG{α:Type}{l:L8}{sub:PS->Qq (α×PS)}{P:α->Prop}(c:∀s,Gp l s->∀y,sub s=.ok y->Gp l y.2)(d:∀s,Gp l s->Has P (sub s)):∀(f:Nat) (acc:List α) (s:PS),Gp l s->acc≠[]->(∀a∈acc,P a)->Has (fun xs=>xs≠[]/\∀a∈xs,P a) (gMr l sub f acc s)
 |0,acc,s,g,h,hc=>fun y e=>by cases e;exact⟨h,hc⟩
 |f+1,acc,s,g,h,hc=>fun y e=>by
  rw[gMr]at e
  cases hp:paL l [[44],[41]] s with
  |error g=>rw[QC hp]at e;cases e
  |ok z=>
   rw[Qx hp]at e;obtain⟨b,i⟩:=J_ (zs:=[[44],[41]]) g Qb z hp
   split at e
   .cases hq:sub z.2 with
    |error g=>rw[QC hq]at e;cases e
    |ok x=>
     rw[Qx hq]at e;refine FG c d f _ x.2 (c _ b x hq) Qh (fun u hu=>?_) y e;rcases Z6.1 hu with hu|hu
     .exact hc u hu
     .rw[ZV hu];exact d _ b x hq
   .cases e;exact⟨h,hc⟩
theorem LA(c:∀s,Gp l s->∀y,sub s=.ok y->Gp l y.2)(d:∀s,Gp l s->Has P (sub s))(h:Gp l s):Has (fun xs=>xs≠[]/\∀a∈xs,P a) (groupL l F sub s):=fun y e=>by
 unfold groupL at e
 cases hp:paL l [[40]] s with
 |error g=>rw[QC hp]at e;cases e
 |ok z=>
  rw[Qx hp]at e;obtain⟨b,i⟩:=J_ (zs:=[[40]]) h Qb z hp
  cases hq:sub z.2 with
  |error g=>rw[QC hq]at e;cases e
  |ok x=>
   rw[Qx hq]at e;exact FG c d F [x.1] x.2 (c _ b x hq) Qh (fun u f=>by rw[ZV f];exact d _ b x hq) y e
theorem Xz:type_of%@List.length_pos_iff:=@List.length_pos_iff
theorem S'{sub:PS->Qq (Zn n×PS)}(hF:l.length<F)(t:∀s,Gp l s->∀y,sub s=.ok y->Gp l y.2)(q:∀s,Gp l s->Has (JQ (WfT req) n) (sub s)){k:Nat}(Q:k<=9)(c:Z4 req (tNs.getD k [])=true)(h:Gp l s):Has (fun x:Zk×List (Zn n)=>WfT req x.1 x.2.length/\∀a∈x.2,JQ (WfT req) n a) (tBd l F sub k pos s):=fun y e=>by
 unfold tBd at e
 split at e
 .cases e;exact⟨by constructor<;>simp<;>(first|exact c|skip),Qh⟩
 .cases e;exact⟨by constructor<;>simp<;>(first|exact c|skip),Qh⟩
 .cases hq:sub s with
  |error g=>rw[QC hq]at e;cases e
  |ok x=>
   rw[Qx hq]at e;cases e;exact⟨by constructor<;>simp<;>(first|exact c|skip),fun a A=>by rw[ZV A];exact q _ h x hq⟩
 .cases hq:groupL l F sub s with
  |error g=>rw[QC hq]at e;cases e
  |ok x=>
   rw[Qx hq]at e;have b:=LA t q h x hq;cases e;exact⟨by constructor<;>simp<;>(first|exact c|exact Xz.2 b.1|skip),b.2⟩
 .cases hq:groupL l F sub s with
  |error g=>rw[QC hq]at e;cases e
  |ok x=>
   rw[Qx hq]at e;have b:=LA t q h x hq;cases e;exact⟨by constructor<;>simp<;>(first|exact c|exact Xz.2 b.1|skip),b.2⟩
 .cases hq:Xr l F (fun _=>0) 5 pos s with
  |error g=>rw[QC hq]at e;cases e
  |ok x=>
   rw[Qx hq]at e;obtain⟨b,d,j,o,p,m⟩:=DQ h hF x hq;cases e;dsimp only;rw[b];exact⟨by constructor<;>simp<;>(first|exact c|exact⟨d,j⟩|assumption|skip),Qh⟩
 .cases hq:Xr l F (fun x=>if 0<wL [JL,kTo] (zL x)then 0 else 7) 6 pos s with
  |error g=>rw[QC hq]at e;cases e
  |ok x=>
   rw[Qx hq]at e;obtain⟨b,d,j,o,p,m⟩:=DQ h hF x hq
   have r:∀z∈x.1.fr,0<wL [JL,kTo] (zL z):=fun z C=>by
    have:=m z C
    split at this
    .assumption
    .cases this
   cases e;dsimp only;rw[b];exact⟨by constructor<;>simp<;>(first|exact c|exact⟨d,j⟩|assumption|skip),Qh⟩
 .cases hq:Xr l F (fun _=>0) 7 pos s with
  |error g=>rw[QC hq]at e;cases e
  |ok x=>
   rw[Qx hq]at e;obtain⟨b,d,j,o,p,m⟩:=DQ h hF x hq;cases e;dsimp only;rw[b];exact⟨by constructor<;>simp<;>(first|exact c|exact⟨d,j⟩|assumption|skip),Qh⟩
 .cases hq:sLs l (fun _=>0) F s with
  |error g=>rw[QC hq]at e;cases e
  |ok x=>
   rw[Qx hq]at e;have b:=Bl x hq;cases e;exact⟨by constructor<;>simp<;>(first|exact c|exact b.1|skip),Qh⟩
 .rename_i h0 b d j o p m r h8
  cases hq:sizeL l pos s with
  |error g=>rw[QC hq]at e;cases e
  |ok x=>
   rw[Qx hq]at e
   have B:k=9:=by
    have D:k≠0:=h0;have E:k≠1:=b;have G:k≠2:=d;have H:k≠3:=j;have J:k≠4:=o;have K:k≠5:=p;have L:k≠6:=m;have M:k≠7:=r;have N:k≠8:=h8;omega
   subst B;unfold sizeL at hq
   cases hp:paL l [JI,JE] s with
   |error g=>rw[QC hp]at hq;cases hq
   |ok i=>
    rw[Qx hp]at hq;have u:=Qy1 i hp;obtain⟨v,P⟩:=J_ (zs:=[JI,JE]) h Qb i hp;have w:=v.num
    split at hq
    .cases hn:nL l i.2.2 with
     |error f=>rw[Jv hn]at hq;cases hq
     |ok z=>
      rw[YV hn]at hq;cases hq;cases e;exact⟨by constructor<;>simp<;>(first|exact c|exact w|exact u|skip),Qh⟩
    .cases hq
theorem Mo{l:L8}{req:Qn}{F:Nat}(hF:l.length<F):∀(n:Nat) (s:PS),Gp l s->Has (JQ (WfT req) n) (QP l req F n s)
 |0,s,h=>fun y e=>by rw[QP]at e;split at e<;>cases e
 |n+1,s,h=>fun y e=>by
  rw[QP]at e;by_cases h0:wL tNs s.1.spelt=0
  .rw[Qi h0]at e;cases e
  .rw[Qg h0]at e;cases hu:Z4 req s.1.spelt
   .rw[hu,Qg Qb]at e;cases e
   .rw[hu,Qi rfl]at e
    cases hn:nL l s.2 with
    |error g=>cases(Jv hn).symm.trans e
    |ok z=>
     replace e:=(YV hn).symm.trans e;obtain⟨a,b⟩:=Ub h (UF (zs:=tNs) h Qb h0) hn;exact S' hF (fun s g y e=>(B8 n s g y e).1) (fun s g=>Mo hF n s g) (by have:=KK tNs s.1.spelt;have:tNs.length=10:=rfl;omega) (by rw[By _ _ h0];exact hu) a y e
theorem Fz{α:Type}{l:L8}{sub:PS->Qq (α×PS)}{P:α->Prop}(c:∀s,Gp l s->∀y,sub s=.ok y->Gp l y.2)(d:∀s,Gp l s->Has P (sub s)):∀(f:Nat) (acc:List α) (s:PS),Gp l s->(∀a∈acc,P a)->∀y,bMr l sub f acc s=.ok y->Gp l y.2/\∀a∈y.1,P a
 |0,acc,s,g,hc=>fun y e=>by cases e;exact⟨g,hc⟩
 |f+1,acc,s,g,hc=>fun y e=>by
  rw[bMr]at e
  cases hp:mayL l [[125]] s with
  |error g=>rw[QC hp]at e;cases e
  |ok z=>
   rw[Qx hp]at e;obtain⟨b,i⟩:=KP (zs:=[[125]]) g Qb z hp
   split at e
   .cases hq:sub z.2 with
    |error g=>rw[QC hq]at e;cases e
    |ok x=>
     rw[Qx hq]at e;refine Fz c d f _ x.2 (c _ b x hq) (fun u hu=>?_) y e;rcases Z6.1 hu with hu|hu
     .exact hc u hu
     .rw[ZV hu];exact d _ b x hq
   .cases e;exact⟨b,hc⟩
theorem I7(c:∀s,Gp l s->∀y,sub s=.ok y->Gp l y.2)(d:∀s,Gp l s->Has P (sub s))(h:Gp l s):∀y,blockL l F sub s=.ok y->Gp l y.2/\∀a∈y.1,P a:=fun y e=>by
 unfold blockL at e
 cases hp:paL l [[123]] s with
 |error g=>rw[QC hp]at e;cases e
 |ok z=>
  rw[Qx hp]at e;obtain⟨b,f⟩:=J_ (zs:=[[123]]) h Qb z hp;exact Fz c d F [] z.2 b Qh y e
theorem M9{tst:PS->Qq (β×PS)}{Q:β->Prop}(j:∀s,Gp l s->∀y,tst s=.ok y->Gp l y.2)(i:∀s,Gp l s->Has Q (tst s))(d:∀s,Gp l s->∀y,sub s=.ok y->Gp l y.2)(f:∀s,Gp l s->Has P (sub s))(h:Gp l s):∀y,armL l F tst sub s=.ok y->Gp l y.2/\Q y.1.1/\∀a∈y.1.2,P a:=fun y e=>by
 unfold armL at e
 cases hp:tst s with
 |error g=>rw[QC hp]at e;cases e
 |ok z=>
  rw[Qx hp]at e
  cases hq:blockL l F sub z.2 with
  |error g=>rw[QC hq]at e;cases e
  |ok x=>
   rw[Qx hq]at e;have b:=I7 d f (j _ h z hp) x hq;have c:=i _ h z hp;cases e;exact⟨b.1,c,b.2⟩
theorem LR{α β:Type}{l:L8}{F:Nat}{tst:PS->Qq (β×PS)}{sub:PS->Qq (α×PS)}{P:α->Prop}{Q:β->Prop}(k:∀s,Gp l s->∀y,tst s=.ok y->Gp l y.2)(j:∀s,Gp l s->Has Q (tst s))(d:∀s,Gp l s->∀y,sub s=.ok y->Gp l y.2)(i:∀s,Gp l s->Has P (sub s)):∀(f:Nat) (acc:List (β×List α)) (s:PS),Gp l s->acc≠[]->(∀a∈acc,Q a.1/\∀c∈a.2,P c)->∀y,aMr l F tst sub f acc s=.ok y->Gp l y.2/\y.1≠[]/\∀a∈y.1,Q a.1/\∀c∈a.2,P c
 |0,acc,s,g,h,hc=>fun y e=>by cases e;exact⟨g,h,hc⟩
 |f+1,acc,s,g,h,hc=>fun y e=>by
  rw[aMr]at e
  cases hp:mayL l [YB] s with
  |error g=>rw[QC hp]at e;cases e
  |ok z=>
   rw[Qx hp]at e;obtain⟨b,p⟩:=KP (zs:=[YB]) g Qb z hp
   split at e
   .cases e;exact⟨b,h,hc⟩
   .cases hq:armL l F tst sub z.2 with
    |error g=>rw[QC hq]at e;cases e
    |ok x=>
     rw[Qx hq]at e;obtain⟨m,n,o⟩:=M9 k j d i b x hq;refine LR k j d i f _ x.2 m Qh (fun u hu=>?_) y e;rcases Z6.1 hu with hu|hu
     .exact hc u hu
     .rw[ZV hu];exact⟨n,o⟩
theorem G4{a:α}:Has (fun x=>x=a) (semi l s a):=fun y e=>by
 unfold semi at e
 cases hp:paL l [[59]] s with
 |error g=>rw[QC hp]at e;cases e
 |ok z=>rw[Qx hp]at e;cases e;rfl
theorem Wk{tst:PS->Qq (Zn n×PS)}{sub:PS->Qq (Q5 n×PS)}(r:∀s,Gp l s->∀y,tst s=.ok y->Gp l y.2)(q:∀s,Gp l s->Has (JQ (WfT req) n) (tst s))(i:∀s,Gp l s->∀y,sub s=.ok y->Gp l y.2)(j:∀s,Gp l s->Has (YE (WfT req) (WfC req) n) (sub s)){k:Nat}(N:k<=7)(b:Z4 req (cNs.getD k [])=true)(h:Gp l s):Has (fun x:Xa×List (Zn n×List (Q5 n))×List (Q5 n)=>WfC req x.1 x.2.1.length x.2.2.length/\(∀a∈x.2.1,JQ (WfT req) n a.1/\∀c∈a.2,YE (WfT req) (WfC req) n c)/\∀c∈x.2.2,YE (WfT req) (WfC req) n c) (cBd l F tst sub k pos s):=fun y e=>by
 unfold cBd at e
 split at e
 .rw[G4 y e];exact⟨by constructor<;>simp<;>(first|exact b|skip),Qh,Qh⟩
 .rw[G4 y e];exact⟨by constructor<;>simp<;>(first|exact b|skip),Qh,Qh⟩
 .rw[G4 y e];exact⟨by constructor<;>simp<;>(first|exact b|skip),Qh,Qh⟩
 .cases hq:sL l (fun _=>0) s with
  |error g=>rw[QC hq]at e;cases e
  |ok x=>rw[Qx hq]at e;rw[G4 y e];exact⟨by constructor<;>simp<;>(first|exact b|skip),Qh,Qh⟩
 .cases hq:sL l (fun _=>0) s with
  |error g=>rw[QC hq]at e;cases e
  |ok x=>rw[Qx hq]at e;rw[G4 y e];exact⟨by constructor<;>simp<;>(first|exact b|skip),Qh,Qh⟩
 .cases hq:sL l (fun _=>0) s with
  |error g=>rw[QC hq]at e;cases e
  |ok x=>rw[Qx hq]at e;rw[G4 y e];exact⟨by constructor<;>simp<;>(first|exact b|skip),Qh,Qh⟩
 .cases hm:mayL l [Yn,Ym,Yj] s with
  |error g=>rw[QC hm]at e;cases e
  |ok m=>
   rw[Qx hm]at e;have t:=QzQ m hm
   cases hv:sL l (fun x=>if isNameL x then 0 else 7) m.2 with
   |error g=>rw[QC hv]at e;cases e
   |ok v=>
    rw[Qx hv]at e;have d:=Db v hv
    have f:isNameL v.1=true:=by
     dsimp only at d
     split at d
     .assumption
     .cases d
    cases hq:sL l (fun _=>0) v.2 with
    |error g=>rw[QC hq]at e;cases e
    |ok x=>
     rw[Qx hq]at e;rw[G4 y e];exact⟨by constructor<;>simp<;>(first|exact b|exact t|exact⟨v.1,f,rfl⟩|skip),Qh,Qh⟩
 .rename_i h0 h1 h2 h3 h4 h5 h6
  have C:k=7:=by
   have D:k≠0:=h0;have E:k≠1:=h1;have G:k≠2:=h2;have H:k≠3:=h3;have J:k≠4:=h4;have K:k≠5:=h5;have L:k≠6:=h6;omega
  subst C
  cases ha:armL l F tst sub s with
  |error g=>rw[QC ha]at e;cases e
  |ok a=>
   rw[Qx ha]at e;obtain⟨d,f,w⟩:=M9 r q i j h a ha
   cases hb:aMr l F tst sub F [a.1] a.2 with
   |error g=>rw[QC hb]at e;cases e
   |ok bb=>
    rw[Qx hb]at e;obtain⟨z,o,p⟩:=LR r q i j F [a.1] a.2 d Qh (fun u b=>by rw[ZV b];exact⟨f,w⟩) bb hb
    cases hm:mayL l [Yv] bb.2 with
    |error g=>rw[QC hm]at e;cases e
    |ok m=>
     rw[Qx hm]at e;obtain⟨A,M⟩:=KP (zs:=[Yv]) z Qb m hm
     split at e
     .cases e;exact⟨by constructor<;>simp<;>(first|exact b|exact Xz.2 o|skip),p,Qh⟩
     .cases hc:blockL l F sub m.2 with
      |error g=>rw[QC hc]at e;cases e
      |ok cs=>
       rw[Qx hc]at e;have B:=I7 i j A cs hc;cases e;exact⟨by constructor<;>simp<;>(first|exact b|exact Xz.2 o|skip),p,B.2⟩
theorem Ol:∀(n:Nat) (hn:n<=7) (s:PS),Gp l s->∀y,cmdL l req F n s=.ok y->Gp l y.2:=fun n hn s h y e=>(Ck n [] (by simp;omega) s h y e).1
theorem MJ{l:L8}{req:Qn}{F:Nat}(hF:l.length<F):∀(n:Nat) (a:n<=7) (s:PS),Gp l s->Has (YE (WfT req) (WfC req) n) (cmdL l req F n s)
 |0,a,s,h=>fun y e=>by rw[cmdL]at e;split at e<;>cases e
 |n+1,hn7,s,h=>fun y e=>by
  rw[cmdL]at e;by_cases h0:wL cNs s.1.spelt=0
  .rw[Qi h0]at e;cases e
  .rw[Qg h0]at e;cases hu:Z4 req s.1.spelt
   .rw[hu,Qg Qb]at e;cases e
   .rw[hu,Qi rfl]at e
    cases a:nL l s.2 with
    |error g=>cases(Jv a).symm.trans e
    |ok z=>
     replace e:=(YV a).symm.trans e;obtain⟨b,c⟩:=Ub h (UF (zs:=cNs) h Qb h0) a;exact Wk (fun s g y e=>(B8 n s g y e).1) (fun s g=>Mo hF n s g) (Ol n I) (fun s g=>MJ hF n I s g) (by have:=KK cNs s.1.spelt;have:cNs.length=8:=rfl;omega) (by rw[By _ _ h0];exact hu) b y e
def WfR(req:Qn):Prop:=req.Nodup/\∀z∈req,0<wL [Zb,ZN,ZM,Z8] z
theorem La:∀(zs:Qn) (x:L8),x∈zs->0<wL zs x
 | [],x,h=>by cases h
 |s::r,x,h=>by
  unfold wL;split
  .omega
  .rename_i e;rcases XW.1 h with h|h
   .exact absurd h.symm e
   .have:=La r x h;rw[Q8];omega
theorem Hw:∀(xs req:Qn),WfR req->(∀z∈xs,0<wL [Zb,ZN,ZM,Z8] z)->WfR (xs.foldl Xf req)
 | [],req,h,hx=>h
 |x::r,req,h,hx=>by
  rw[K7];refine Hw r _ ?_ (fun z hz=>hx z (by simp[hz]));unfold Xf;split
  .exact h
  .rename_i h0;refine⟨?_,fun z hz=>?_⟩
   .rw[List.nodup_append];refine⟨h.1,Qh,fun a c b d=>?_⟩;rw[ZV d];intro e;subst e;exact h0 (La _ _ c)
   .rcases Z6.1 hz with hz|hz
    .exact h.2 z hz
    .rw[ZV hz];exact hx x Qh
theorem IA{l:L8}{F:Nat}:∀(f:Nat) (req:Qn) (s:PS),WfR req->Has WfR (reqMore l F f req s)
 |0,req,s,h=>fun y e=>by cases e;exact h
 |f+1,req,s,h=>fun y e=>by
  rw[reqMore]at e
  cases hp:mayL l [Kn] s with
  |error g=>rw[QC hp]at e;cases e
  |ok z=>
   rw[Qx hp]at e
   split at e
   .cases e;exact h
   .cases hq:sLs l (fun x=>if 0<wL [Zb,ZN,ZM,Z8] x then 0 else 6) F z.2 with
    |error g=>rw[QC hq]at e;cases e
    |ok x=>
     rw[Qx hq]at e;have a:=Bl x hq
     cases hr:paL l [[59]] x.2 with
     |error g=>rw[QC hr]at e;cases e
     |ok v=>
      rw[Qx hr]at e;refine IA f _ v.2 (Hw x.1 req h (fun z b=>?_)) y e;have:=a.2 z b
      split at this
      .assumption
      .cases this
theorem F3{α:Type}{l:L8}{sub:PS->Qq (α×PS)}{P:α->Prop}(b:∀s,Gp l s->∀y,sub s=.ok y->Gp l y.2)(c:∀s,Gp l s->Has P (sub s)):∀(f:Nat) (acc:List α) (s:PS),Gp l s->(∀a∈acc,P a)->∀y,cMr sub f acc s=.ok y->∀a∈y,P a
 |0,acc,s,h,hc=>fun y e=>by cases e;exact hc
 |f+1,acc,s,h,hc=>fun y e=>by
  rw[cMr]at e
  split at e
  .cases e;exact hc
  .cases hq:sub s with
   |error g=>rw[hq]at e;cases e
   |ok x=>
    rw[hq]at e;refine F3 b c f _ x.2 (b _ h x hq) (fun u hu=>?_) y e;rcases Z6.1 hu with hu|hu
    .exact hc u hu
    .rw[ZV hu];exact c _ h x hq
theorem Qxi(h:prL l=.ok y):WfR y.1/\∀c∈y.2,YE (WfT y.1) (WfC y.1) 7 c:=by
 unfold prL at h;dsimp only at h;have hF:l.length<2*l.length+10:=I
 generalize 2*l.length+10=F at h hF
 cases h1:nL l 0 with
 |error f=>rw[h1]at h;cases h
 |ok s=>
  rw[h1]at h;dsimp only at h
  have e:Gp l s:=by
   unfold nL at h1
   cases hs:Zw (l.length+1) (l.drop 0) 0 with
   |error f=>rw[hs]at h1;cases h1
   |ok n=>
    rw[hs]at h1;exact(BX (Vy l _ 0 n QR hs).2 s h1).1
  cases h3:reqMore l F F [] s with
  |error f=>rw[h3]at h;cases h
  |ok z=>
   rw[h3]at h;dsimp only at h;have a:=(Bt F [] s e z h3).1;have b:=IA F [] s ⟨Qh,Qh⟩ z h3
   cases h4:cMr (cmdL l z.1 F 7) F [] z.2 with
   |error f=>rw[h4]at h;cases h
   |ok cs=>
    rw[h4]at h;have d:=F3 (P:=YE (WfT z.1) (WfC z.1) 7) (Ol 7 I) (fun s g=>MJ hF 7 I s g) F [] z.2 a Qh cs h4;cases h;exact⟨b,d⟩
section
def pcL:L8->List (Nat×UInt8)
 | []=>[]
 | [c]=>[if c=42 then(2,0)else if c=63 then(1,0)else(0,c)]
 |c::d::r=>if c=42 then(2,0)::pcL (d::r)else if c=63 then(1,0)::pcL (d::r)else if c=92 then(0,d)::pcL r else(0,c)::pcL (d::r)
def Vc(p:Nat×UInt8)(c:UInt8):Bool:=p.1==1 || (p.1==0&&p.2==c)
def Q6:List (Nat×UInt8)->L8->Bool
 | [],v=>v.isEmpty
 |p::k,[]=>p.1==2&&Q6 k []
 |p::k,c::v=>if p.1=2 then Q6 k (c::v) || Q6 (p::k) v else Vc p c&&Q6 k v
termination_by k v=>k.length+v.length
def XI:List (Nat×UInt8)->L8->Bool
 | [],[]=>true
 |p::k,c::v=>p.1 != 2&&(Vc p c&&XI k v)
 |_,_=>false
theorem Jl:type_of%@Bool.and_eq_true:=@Bool.and_eq_true
theorem AA:∀(k:List (Nat×UInt8)) (v:L8),XI k v=true->k.length=v.length
 | [],[],_=>rfl
 | [],_::_,h=>by simp[XI]at h
 |_::_,[],h=>by simp[XI]at h
 |p::k,c::v,h=>by
  simp only[XI,Jl]at h;simp[AA k v h.2.2]
theorem K6:type_of%@List.cons_append:=@List.cons_append
theorem IE:∀(k:List (Nat×UInt8)) (v:L8) (p:Nat×UInt8) (c:UInt8),XI k v=true->p.1≠2->Vc p c=true->XI (k++[p]) (v++[c])=true
 | [],[],p,c,_,h1,h2=>by simp[XI,h1,h2]
 | [],_::_,_,_,h,_,_=>by simp[XI]at h
 |_::_,[],_,_,h,_,_=>by simp[XI]at h
 |p::k,c::v,q,d,h,h1,h2=>by
  simp only[XI,Jl,K6]at h ⊢;exact⟨h.1,h.2.1,IE k v q d h.2.2 h1 h2⟩
theorem KE:type_of%@Bool.true_and:=@Bool.true_and
theorem Dc:∀(k:List (Nat×UInt8)) (v:L8) (a:List (Nat×UInt8)) (v':L8),XI k v=true->Q6 (k++a) (v++v')=Q6 a v'
 | [],[],_,_,_=>rfl
 | [],_::_,_,_,h=>by simp[XI]at h
 |_::_,[],_,_,h=>by simp[XI]at h
 |p::k,c::v,a,v',h=>by
  simp only[XI,Jl,bne_iff_ne,ne_eq]at h;rw[K6,K6,Q6,Qg h.1,h.2.1,KE];exact Dc k v a v' h.2.2
theorem RT(x:UInt8)(k:List (Nat×UInt8))(c:UInt8)(h:Q6 ((2,x)::k) v=true):Q6 ((2,x)::k) (c::v)=true:=by
 rw[Q6,Qi rfl,h,Bool.or_true]
theorem RL(x:UInt8)(k:List (Nat×UInt8))(h:Q6 ((2,x)::k) v=true):Q6 ((2,x)::k) (u++v)=true:=by
 induction u with
 |nil=>exact h
 |cons c u ih=>exact RT x k c ih
theorem Fl(x:UInt8)(h:Q6 k v=true):Q6 ((2,x)::k) v=true:=by
 cases v with
 |nil=>rw[Q6];simp[h]
 |cons c v=>rw[Q6,Qi rfl,h,Bool.true_or]
theorem Kz:type_of%@List.mem_cons_of_mem:=@List.mem_cons_of_mem
theorem Kh:type_of%@List.mem_cons_self:=@List.mem_cons_self
theorem Df:∀(k:List (Nat×UInt8)) (d:List (Nat×UInt8)) (v:L8),(∀p,p∈k->p.1≠2)->Q6 (k++d) v=true->∃u v',v=u++v'/\XI k u=true/\Q6 d v'=true
 | [],d,v,_,h=>⟨[],v,rfl,rfl,h⟩
 |p::k,d,[],hk,h=>by
  rw[K6,Q6]at h;simp[hk p (Kh ..)]at h
 |p::k,d,c::v,hk,h=>by
  rw[K6,Q6,Qg (hk p (Kh ..)),Jl]at h;obtain⟨u,v',e,a,b⟩:=Df k d v (fun q f=>hk q (Kz _ f)) h.2;exact⟨c::u,v',by rw[e];rfl,by simp[XI,hk p (Kh ..),h.1,a],b⟩
theorem CP:∀(k:List (Nat×UInt8)) (v:L8),XI k v=true->∀p,p∈k->p.1≠2
 | [],_,_,p,hp=>by cases hp
 |_::_,[],h,_,_=>by simp[XI]at h
 |q::k,c::v,h,p,hp=>by
  simp only[XI,Jl,bne_iff_ne,ne_eq]at h;rcases XW.1 hp with rfl|hp
  .exact h.1
  .exact CP k v h.2.2 p hp
theorem IN(x:UInt8)(h:Q6 ((2,x)::k) v=true):∃u v',v=u++v'/\Q6 k v'=true:=by
 induction v with
 |nil=>rw[Q6]at h;simp at h;exact⟨[],[],rfl,h⟩
 |cons c v ih=>
  rw[Q6,Qi rfl,Bool.or_eq_true]at h;rcases h with h|h
  .exact⟨[],c::v,rfl,h⟩
  .obtain⟨u,v',e,a⟩:=ih h;exact⟨c::u,v',by rw[e];rfl,a⟩
theorem W4(x y:UInt8){g:List (Nat×UInt8)}(h:XI k u=true):Q6 ((2,x)::(k++(2,y)::g)) (u++v)=Q6 ((2,y)::g) v:=by
 rw[Xb];constructor
 .intro f;obtain⟨a,b,e,j⟩:=IN x f;obtain⟨c,d,i,l,m⟩:=Df k _ b (CP k u h) j;have n:c.length=u.length:=by rw[<-AA _ _ l,AA _ _ h]
  have:v=((a++c).drop u.length)++d:=by
   have:=ZI (List.drop u.length) e;rw[List.drop_left,i,<-YG,List.drop_append_of_le_length (by rw[Qz];omega)]at this;exact this
  rw[this];exact RL y g m
 .intro f;exact Fl x (by rw[Dc k u _ _ h];exact f)
theorem FJ(x:UInt8)(k:List (Nat×UInt8))(c:UInt8)(v:L8)(h:Q6 k (c::v)=false):Q6 ((2,x)::k) (c::v)=Q6 ((2,x)::k) v:=by
 rw[Q6,Qi rfl,h,Bool.false_or]
theorem WM(x:UInt8){p:Nat×UInt8}{k':List (Nat×UInt8)}(h:XI k u=true)(hp:p.1≠2):Q6 ((2,x)::(k++p::k')) u=false:=by
 rw[Bool.eq_false_iff];intro j;obtain⟨a,b,e,i⟩:=IN x j;have hb':Q6 ((k++[p])++k') b=true:=by rw[YG];exact i
 obtain ⟨c,d,e2,hc,_⟩:=Df (k++[p]) k' b (fun q hq=>by
  rcases Z6.1 hq with hq|hq
  .exact CP k u h q hq
  .rw [ZV hq];exact hp) hb'
 have g:=AA _ _ hc;have l:=AA _ _ h;have f:=ZI List.length e;rw[e2]at f;simp only[Qz,Q1,Zl]at g f;omega
def X'(k:List (Nat×UInt8)):L8->Nat
 | []=>0
 |c::v=>if Q6 k (c::v)=true then 0 else X' k v+1
def plL:List (Nat×UInt8)->L8->Nat->List Nat
 | [],_,o=>[o]
 |p::k,v,o=>o::(if p.1=2 then plL k (v.drop (X' k v)) (o+X' k v)else plL k (v.drop 1) (o+1))
theorem HD(h:Q6 k v=true):X' k v=0:=by
 cases v with
 |nil=>rfl
 |cons c v=>rw[X',Qi h]
theorem Jm:type_of%@List.drop_zero:=@List.drop_zero
theorem F6:∀(k:List (Nat×UInt8)) (v:L8) (a:List (Nat×UInt8)) (v':L8) (o:Nat),XI k v=true->plL (k++a) (v++v') o=List.range' o k.length++plL a v' (o+k.length)
 | [],[],_,_,_,_=>rfl
 | [],_::_,_,_,_,h=>by simp[XI]at h
 |_::_,[],_,_,_,h=>by simp[XI]at h
 |p::k,c::v,a,v',o,h=>by
  simp only[XI,Jl,bne_iff_ne,ne_eq]at h;rw[K6,K6,plL,Qg h.1,Q1,List.range'_succ,K6];rw[V1,Jm,F6 k v a v' (o+1) h.2.2,Nat.add_assoc,Nat.add_comm 1]
structure Z' (v:L8) (key:List (Nat×UInt8)) (s e a k:Nat) (pl:List Nat):Prop where
 sk:s<=k
 kl:k<=key.length
 ea:e+(k-s)=a
 al:a<=v.length
 just:XI ((key.drop s).take (k-s)) ((v.drop e).take (k-s))=true
 pll:pl.length=key.length+1
 last:pl[key.length]?=some v.length
 run:∀i,i < k-s->pl[s+i]?=some (e+i)
 same:Q6 key v=if s=0 then Q6 (key.drop s) (v.drop e) else Q6 ((2,0) :: key.drop s) (v.drop e)
 places:Q6 key v=true->plL key v 0=pl.take s++(if s=0 then plL (key.drop s) (v.drop e) e else plL (key.drop s) ((v.drop e).drop (X' (key.drop s) (v.drop e))) (e+X' (key.drop s) (v.drop e)))
theorem QxX{a:List (Nat×UInt8)}{b:List Nat}(c:b.length=a.length+1)(d:b[a.length]?=some v.length):Z' v a 0 0 0 0 b:=
 ⟨Q4 _,QR,rfl,QR,rfl,c,d,fun i h=>absurd h (XA _),Qh,fun _=>Qh⟩
variable {v:L8} {key:List (Nat×UInt8)} {s e a k:Nat} {pl:List Nat}
theorem Z'.keyEq(h:Z' v key s e a k pl):key.drop s=(key.drop s).take (k-s)++key.drop k:=by
 have:=(List.take_append_drop (k-s) (key.drop s)).symm;rwa [XN,Nat.add_sub_cancel' h.sk]at this
theorem Z'.valEq(h:Z' v key s e a k pl):v.drop e=(v.drop e).take (k-s)++v.drop a:=by
 have:=(List.take_append_drop (k-s) (v.drop e)).symm;rwa [XN,h.ea]at this
theorem Z'.keyLen(h:Z' v key s e a k pl):((key.drop s).take (k-s)).length=k-s:=by
 rw[YT,Xq];have:=h.sk;have:=h.kl;omega
theorem Z'.rest(h:Z' v key s e a k pl):Q6 (key.drop s) (v.drop e)=Q6 (key.drop k) (v.drop a):=by
 conv=>lhs;rw[h.keyEq,h.valEq]
 exact Dc _ _ _ _ h.just
theorem Z'.restPlaces(h:Z' v key s e a k pl):plL (key.drop s) (v.drop e) e=List.range' e (k-s)++plL (key.drop k) (v.drop a) a:=by
 conv=>lhs;rw[h.keyEq,h.valEq]
 rw[F6 _ _ _ _ _ h.just,h.keyLen,h.ea]
theorem Z'.takeEq(h:Z' v key s e a k pl):pl.take s++List.range' e (k-s)=pl.take k:=by
 apply List.ext_getElem?;intro i;have c:=h.sk;have d:=h.kl;have f:=h.pll;have b:(pl.take s).length=s:=by rw[YT];omega
 rw[List.getElem?_append,b];split
 .next hi=>rw[List.getElem?_take,List.getElem?_take,Qi hi,Xy]
 .next hi=>
  rw[List.getElem?_take];split
  .next hk=>
   rw[List.getElem?_range' I];have:=h.run (i-s) I;rw[Nat.add_sub_cancel' I]at this;rw[this,Nat.one_mul]
  .next hk=>rw[GI];rw[List.length_range'];omega
theorem Y4:type_of%@List.take_succ_eq_append_getElem:=@List.take_succ_eq_append_getElem
theorem Yh:type_of%@Nat.succ_ne_zero:=@Nat.succ_ne_zero
theorem UW:type_of%@List.length_set:=@List.length_set
theorem Z'.star(h:Z' v key s e a k pl)(c:k<key.length)(j:key[k]=(2,0)):Z' v key (k+1) a a (k+1) (pl.set k a):=by
 have b:key.drop k=(2,0)::key.drop (k+1):=by rw[Xt c,j]
 have f:Q6 key v=Q6 ((2,0)::key.drop (k+1)) (v.drop a):=by
  rw[h.same];split
  .rw[h.rest,b]
  .conv=>lhs;rw[h.keyEq,h.valEq,b]
   exact W4 0 0 h.just
 refine⟨Q4 _,c,Qh,h.al,by simp[XI],by simp[h.pll],?_,fun i m=>I,?_,fun d=>?_⟩
 .rw[List.getElem?_set_ne I];exact h.last
 .rw[Qg (Yh _)];exact f
 .rw[Qg (Yh _),h.places d];have l:Q6 (key.drop s) (v.drop e)=true:=by rw[h.rest,b,<-f,d]
  rw[HD l,Jm,Nat.add_zero,ite_self,h.restPlaces,b,plL,Qi rfl,<-YG,h.takeEq]
  have:(pl.set k a).take (k+1)=pl.take k++[a]:=by
   have g:k<(pl.set k a).length:=by rw[UW,h.pll];omega
   rw[Y4 g,List.getElem_set_self,List.take_set_of_le QF]
  rw[this,YG];rfl
theorem Z'.take(h:Z' v key s e a k pl)(g:k<key.length)(f:a<v.length)(l:key[k].1≠2)(m:Vc key[k] v[a]=true):Z' v key s e (a+1) (k+1) (pl.set k a):=by
 have b:=h.sk;have d:=h.ea;have c:k+1-s=(k-s)+1:=I
 refine⟨I,g,I,f,?_,by simp[h.pll],?_,fun i n=>?_,h.same,fun j=>?_⟩
 .rw[c,Y4 (by rw[Xq];omega),Y4 (by rw[Xq];omega)];apply IE _ _ _ _ h.just
  .simp only[List.getElem_drop,Nat.add_sub_cancel' b];exact l
  .simp only[List.getElem_drop,Nat.add_sub_cancel' b,d];exact m
 .rw[List.getElem?_set_ne I];exact h.last
 .by_cases hi':i<k-s
  .rw[List.getElem?_set_ne I];exact h.run i hi'
  .have:s+i=k:=I
   rw[this,List.getElem?_set_self (by rw[h.pll];omega)];congr 1;omega
 .rw[List.take_set_of_le b];exact h.places j
theorem Z'.no(h:Z' v key s e a k pl)(g:(k=key.length/\a<v.length)\/∃(c:k<key.length),key[k].1≠2/\∀(b:a<v.length),Vc key[k] v[a]=false):Q6 (key.drop s) (v.drop e)=false:=by
 rw[h.rest];rcases g with⟨f,b⟩ | ⟨c,d,i⟩
 .rw[f,List.drop_length,Xt b,Q6];rfl
 .rw[Xt c];by_cases b:a<v.length
  .rw[Xt b,Q6,Qg d,i b,Bool.false_and]
  .rw[List.drop_eq_nil_of_le (show v.length<=a by omega),Q6];simp[d]
theorem Z'.longer(h:Z' v key s e a k pl)(b:s≠0)(f:a<v.length)(g:k=key.length\/∃(hk:k<key.length),key[k].1≠2/\Vc key[k] v[a]=false):Z' v key s (e+1) (e+1) s pl:=by
 have hno:Q6 (key.drop s) (v.drop e)=false:=h.no (by
  rcases g with d | ⟨hk,hn,ht⟩
  .exact .inl ⟨d,f⟩
  .exact .inr ⟨hk,hn,fun _=>ht⟩)
 have l:=h.ea;have c:v.drop e=v[e]::v.drop (e+1):=Xt I;rw[c]at hno;refine⟨Q4 _,QE h.sk h.kl,Qh,I,by simp[XI],h.pll,h.last,fun i m=>I,?_,fun j=>?_⟩
 .rw[h.same,Qg b,Qg b,c,FJ 0 _ _ _ hno]
 .rw[h.places j,Qg b,Qg b,c,X',hno];simp only[J2,if_false,V1];rw[Nat.add_assoc,Nat.add_comm 1]
theorem ZK:type_of%@Option.some.inj:=@Option.some.inj
theorem Zi:type_of%@List.getElem?_eq_getElem:=@List.getElem?_eq_getElem
theorem Z7:type_of%@List.take_of_length_le:=@List.take_of_length_le
theorem Z'.yes(h:Z' v key s e a k pl)(j:¬a<v.length)(l:¬k<key.length):Q6 key v=true/\pl=plL key v 0:=by
 have c:=Nat.le_antisymm h.al (Nat.not_lt.1 j);have d:=Nat.le_antisymm h.kl (Nat.not_lt.1 l)
 have b:Q6 (key.drop s) (v.drop e)=true:=by
  rw[h.rest,c,d,List.drop_length,List.drop_length,Q6];rfl
 have g:Q6 key v=true:=by
  rw[h.same];split
  .exact b
  .exact Fl 0 b
 refine⟨g,?_⟩;rw[h.places g,HD b,Jm,Nat.add_zero,ite_self,h.restPlaces,<-YG,h.takeEq,c,d,List.drop_length,plL];have f:key.length<pl.length:=by rw[h.pll];omega
 have i:pl[key.length]=v.length:=by
  have:=h.last;rw[Zi f]at this;exact ZK this
 have:=Y4 f;rw[i,Z7 (by rw[h.pll];omega)]at this;exact this
theorem J3:type_of%@List.append_nil:=@List.append_nil
theorem Z'.never(h:Z' v key s e a k pl)(j:a<v.length\/k<key.length)(c:∀(b:k<key.length),key[k].1≠2)(f:∀(b:k<key.length)(i:a<v.length),Vc key[k] v[a]=false)(g:¬(s≠0/\a<v.length)):Q6 key v=false:=by
 rw[h.same];split
 .apply h.no;by_cases b:k<key.length
  .exact .inr ⟨b,c b,f b⟩
  .have:=h.kl;exact .inl ⟨I,I⟩
 .next hs=>
  have i:¬a<v.length:=fun x=>g ⟨hs,x⟩
  have b:k<key.length:=I
  have d:=h.valEq;rw[List.drop_eq_nil_of_le (show v.length<=a by omega),J3]at d;rw[h.keyEq,Xt b,d];exact WM 0 h.just (c b)
def Um(v:L8)(key:List (Nat×UInt8))(s e a:Nat):Nat:=(key.length+v.length-(s+e))*(v.length+1)+(v.length-(a-e))
theorem Z'.muTake(h:Z' v key s e a k pl)(b:a<v.length):Um v key s e (a+1)<Um v key s e a:=by
 have:=h.ea;unfold Um;omega
theorem MY{x y q:Nat}(h:x<y)(a:p<=n):x*(n+1)+p<y*(n+1)+q:=by
 have:(x+1)*(n+1)<=y*(n+1):=Nat.mul_le_mul_right _ h;rw[Nat.add_mul]at this;omega
theorem Z'.muStar(h:Z' v key s e a k pl)(b:k<key.length):Um v key (k+1) a a<Um v key s e a:=by
 have:=h.ea;have:=h.sk;have:=h.al;exact MY I (Nat.sub_le _ _)
theorem Z'.muLonger(h:Z' v key s e a k pl)(b:a<v.length):Um v key s (e+1) (e+1)<Um v key s e a:=by
 have:=h.ea;have:=h.sk;have:=h.kl;exact MY I (Nat.sub_le _ _)
end
theorem LH(x:UInt8)(k:List (Nat×UInt8))(h:Q6 ((2,x)::k) v=true):X' k v<=v.length/\Q6 k (v.drop (X' k v))=true:=by
 induction v with
 |nil=>rw[Q6]at h;simp at h;exact⟨Q4 _,h⟩
 |cons c v ih=>
  rw[X'];split
  .next hm=>exact⟨QR,hm⟩
  .next hm=>
   rw[FJ x k c v (by simpa using hm)]at h;exact⟨Nat.succ_le_succ (ih h).1,by rw[V1];exact(ih h).2⟩
theorem Dr:∀(k:List (Nat×UInt8)) (v:L8) (o:Nat),(plL k v o).length=k.length+1
 | [],_,_=>rfl
 |p::k,v,o=>by
  rw[plL,Q1,Q1];split
  .rw[Dr k]
  .rw[Dr k]
theorem Wa(k:List (Nat×UInt8))(v:L8)(o:Nat):(plL k v o)[0]?=some o:=by
 cases k<;>rfl
theorem Y5:type_of%@List.getElem?_cons_succ:=@List.getElem?_cons_succ
theorem Lp:∀(k:List (Nat×UInt8)) (v:L8) (o:Nat),Q6 k v=true->∀i,i<k.length->∃x y,(plL k v o)[i]?=some x/\(plL k v o)[i+1]?=some y/\o<=x/\x<=y/\y<=o+v.length
 | [],_,_,_,i,hi=>absurd hi (XA _)
 |p::k,v,o,h,i,hi=>by
  have j:∃n,plL (p::k) v o=o::plL k (v.drop n) (o+n)/\n<=v.length/\Q6 k (v.drop n)=true:=by
   by_cases hp:p.1=2
   .obtain⟨q,x⟩:=p;subst hp;obtain⟨a,b⟩:=LH x k h;exact⟨X' k v,by rw[plL,Qi rfl],a,b⟩
   .cases v with
    |nil=>rw[Q6]at h;simp[hp]at h
    |cons c v=>
     rw[Q6,Qg hp,Jl]at h;exact⟨1,by rw[plL,Qg hp],Nat.succ_le_succ QR,h.2⟩
  obtain⟨n,e,m,g⟩:=j;rw[e];have l:(v.drop n).length=v.length-n:=Xq ..
  cases i with
  |zero=>exact⟨o,o+n,rfl,by rw[Y5];exact Wa ..,Q4 _,I,I⟩
  |succ i=>
   obtain⟨x,y,a,b,c,d,f⟩:=Lp k (v.drop n) (o+n) g i (Nat.lt_of_succ_lt_succ hi);exact⟨x,y,by rw[Y5];exact a,by rw[Y5];exact b,I,d,I⟩
def toldTo(v:L8)(key:List (Nat×UInt8))(pl:List Nat):Nat->Qn
 |0=>[v]
 |n+1=>toldTo v key pl n++(if(key.getD n (0,0)).1=0 then []else [(v.drop (pl.getD n 0)).take (pl.getD (n+1) 0-pl.getD n 0)])
theorem TE(v:L8)(a:List (Nat×UInt8))(b:List Nat)(n:Nat):∃r,toldTo v a b n=v::r:=by
 induction n with
 |zero=>exact⟨[],rfl⟩
 |succ n ih=>
  obtain⟨r,e⟩:=ih;exact⟨_,by rw[toldTo,e,K6]⟩
theorem Hm:pcL (42::w)=(2,0)::pcL w:=by
 cases w with
 |nil=>rfl
 |cons d r=>rw[pcL,Qi rfl]
theorem QtR:pcL (63::w)=(1,0)::pcL w:=by
 cases w with
 |nil=>rfl
 |cons d r=>rw[pcL,Qg Qb,Qi rfl]
structure Msg where
 fr:L8
 to:L8
 size:Int
 hdrs:List (L8×L8)
structure SS where
 vs:Bool
 vals:L8->Option (L8)
 told:Qn
 met:List (Int×L8)
 disc:Bool
abbrev FZ:=Int×Int
def VS(s:SS)(t:Qn):SS:=⟨s.vs,s.vals,t,s.met,s.disc⟩
def Y2(s:SS)(l:List (Int×L8)):SS:=⟨s.vs,s.vals,s.told,l,s.disc⟩
def Gl(s:SS):SS:=⟨s.vs,s.vals,s.told,s.met,true⟩
def ss0(v:Bool):SS:=⟨v,fun _=>none,[],[],false⟩
def nmLen(l:L8):Nat:=
 match l with
 | []=>0
 |c::r=>if Q7 c.toNat then 1 else nameLen (c::r)
def Nb(s:SS)(name:L8):L8:=
 match name with
 | []=>[]
 |c::r=>if Q7 c.toNat then s.told.getD (c.toNat-48) []else(s.vals (zL (c::r))).getD []
def X2(l:L8):Nat:=
 if l.take 2=[36,123]/\((l.drop 2).drop (nmLen (l.drop 2))).take 1=[125]then nmLen (l.drop 2)else 0
def standL(s:SS)(l:L8):L8×Nat:=
 if X2 l=0 then(l.take 1,1)else(Nb s ((l.drop 2).take (X2 l)),3+X2 l)
def J0(s:SS):Nat->L8->L8->L8
 |0,_,acc=>acc
 |n+1,l,acc=>if l≠[]/\acc.length<1024 then J0 s n (l.drop (standL s l).2) (acc++(standL s l).1.take (1024-acc.length))else acc
def expL(s:SS)(l:L8):L8:=if s.vs then J0 s (l.length+1) l []else l
def lookL(oct:Bool)(x:L8):L8:=if oct then x else zL x
def X5(k:L8):L8->Bool
 | []=>k.isPrefixOf []
 |c::v=>k.isPrefixOf (c::v) || X5 k v
def wayB(tag:Int)(oct:Bool)(v k:L8):Bool:=
 if tag=1 then decide (lookL oct v=lookL oct k)
 else if tag=2 then X5 (lookL oct k) (lookL oct v)
 else Q6 (pcL (lookL oct k)) (lookL oct v)
def wayT(tag:Int)(oct:Bool)(v k:L8):Option (Qn):=
 if tag=3 then some (toldTo v (pcL (lookL oct k)) (plL (pcL (lookL oct k)) (lookL oct v) 0) (pcL (lookL oct k)).length)else none
def Jh(tag:Int)(oct:Bool)(v:L8):Qn->Option (L8)
 | []=>none
 |k::r=>if wayB tag oct v k then some k else Jh tag oct v r
def Yz(tag:Int)(oct:Bool)(keys:Qn):Qn->Option (L8×L8)
 | []=>none
 |v::r=>match Jh tag oct v keys with
  |some k=>some (v,k)
  |none=>Yz tag oct keys r
def askL(s:SS)(tag:Int)(oct:Bool)(vals keys:Qn):Bool×SS:=
 match Yz tag oct (keys.map (expL s)) vals with
 |none=>(false,s)
 | some (v,k)=>(true,match wayT tag oct v k with
  |some t=>VS s t
  | none=>s)
def X9(h:L8×L8)(n:L8):Bool:=decide (zL h.1=zL n)
def fieldsL(M:Msg)(names:Qn):Qn:=names.flatMap fun n=>(M.hdrs.filter (X9 · n)).map (·.2)
def envL(M:Msg)(parts:Qn):Qn:=parts.flatMap fun p=>if zL p=[102,114,111,109]then [M.fr]else if zL p=[116,111]then [M.to]else []
def existsL(M:Msg)(names:Qn):Bool:=names.all fun n=>M.hdrs.any (X9 · n)
def sizeB(M:Msg)(tag n:Int):Bool:=if tag=2 then decide (M.size<n)else decide (n<M.size)
def US(c:UInt8):Bool:=Zr c || c==45 || c==46
def isBoxL(x:L8):Bool:=!x.isEmpty&&(decide (x.length<=16)&&(x.head? != some 46&&x.all US))
def isAddrL(x:L8):Bool:=decide (3<=x.length)&&(decide (x.length<=32)&&(decide (x.count 64=1)&&(x.all (fun c=>!ZZ c.toNat)&&(x.head? != some 64&&x.getLast? != some 64))))
def cutArg(kind:Int)(arg:L8):L8:=if kind=4 then arg.take 48 else arg
def addL(met:List (Int×L8))(kind:Int)(arg:L8):Int×List (Int×L8):=
 if kind=2/\isBoxL arg=false then(8,met)
 else if kind=3/\isAddrL arg=false then(9,met)
 else if(kind,cutArg kind arg)∈met then(0,met)
 else if met≠[]/\(kind=4\/(met.headD (0,[])).1=4)then(10,met)
 else if met.length=6 then(11,met)
 else(0,met++[(kind,cutArg kind arg)])
def K1(s:SS):List (Int×L8):=if s.met=[]/\s.disc=false then [(1,[])]else s.met
def Uu(c:UInt8):UInt8:=if Ku c.toNat then c-97+65 else c
def capL(l:L8):L8:=l.map Uu
def turnL(tag:Int)(x:L8):L8:=
 if tag=1 then zL x else if tag=2 then capL x else if tag=3 then Lib.decDigits x.length else x
def Ur(s:SS)(name:L8)(tag:Int)(said:L8):SS:=
 ⟨s.vs,fun x=>if x=name then some ((turnL tag (expL s said)).take 48)else s.vals x,s.told,s.met,s.disc⟩
structure Ins where
 op:Int
 n:Int
 tag:Int
 oct:Bool
 a:Qn
 b:Qn
 at_:Int
variable{a:List Ins}{i:Ins}{r:List Ins×List Nat}{tst:β->List Ins->List Ins}
structure MS where
 st:SS
 stack:List Bool
 now:Nat
 next:Nat
variable{m:MS}
def JM(v:Bool)(m:MS):Except FZ MS:=if m.stack.length<8 then .ok ⟨m.st,m.stack++[v],m.now,m.next⟩else .error (12,m.now)
def KV(m:MS):MS:=⟨m.st,m.stack.dropLast,m.now,m.next⟩
def goL(m:MS)(n:Nat):MS:=⟨m.st,m.stack,m.now,n⟩
def stL(m:MS)(s:SS):MS:=⟨s,m.stack,m.now,m.next⟩
def atL(m:MS):MS:=⟨m.st,m.stack,m.next,m.next+1⟩
def topL(m:MS):Bool:=m.stack.getLastD false
def Un(count:Nat)(m:MS)(n:Int):Bool:=decide (0<=n)&&decide (n<=(count:Int)-m.next)
def Vl(i:Ins)(m:MS)(arg:L8):Except FZ MS:=
 if(addL m.st.met i.tag (expL m.st arg)).1=0 then .ok (stL m (Y2 m.st (addL m.st.met i.tag (expL m.st arg)).2))else .error ((addL m.st.met i.tag (expL m.st arg)).1,i.at_)
def ES(r:Bool×SS)(m:MS):Except FZ MS:=JM r.1 (stL m r.2)
def XJ(m:MS):Except FZ MS:=.error (12,m.now)
def G_(i:Ins)(m:MS):Except FZ MS:=if i.n=0\/i.n=1 then JM (decide (i.n=1)) m else XJ m
def Nf(m:MS):Except FZ MS:=if m.stack=[]then XJ m else JM (!topL m) (KV m)
def VL(count:Nat)(i:Ins)(m:MS):Except FZ MS:=if Un count m i.n then .ok (goL m (m.next+i.n.toNat))else XJ m
def doCond(taken:Bool)(count:Nat)(i:Ins)(m:MS):Except FZ MS:=
 if Un count m i.n then
  (if m.stack=[]then XJ m else .ok (if topL m=taken then goL (KV m) (m.next+i.n.toNat)else KV m))
 else XJ m
def doAsk(vals:Qn)(i:Ins)(m:MS):Except FZ MS:=
 if 1<=i.tag/\i.tag<=3 then ES (askL m.st i.tag i.oct vals i.b) m else XJ m
def VK(M:Msg)(i:Ins)(m:MS):Except FZ MS:=if i.tag=1\/i.tag=2 then JM (sizeB M i.tag i.n) m else XJ m
def UI(i:Ins)(m:MS):Except FZ MS:=
 if i.tag=1 then Vl i m []else if 2<=i.tag/\i.tag<=4/\i.a≠[]then Vl i m (i.a.headD [])else XJ m
def VO(i:Ins)(m:MS):Except FZ MS:=
 if 0<=i.tag/\i.tag<=3/\i.a≠[]/\i.b≠[]then .ok (stL m (Ur m.st (i.a.headD []) i.tag (i.b.headD [])))else XJ m
def stepL(M:Msg)(count:Nat)(i:Ins)(m:MS):Except FZ MS:=
 if i.op=1 then G_ i m
 else if i.op=2 then Nf m
 else if i.op=3 then VL count i m
 else if i.op=4 then doCond true count i m
 else if i.op=5 then doCond false count i m
 else if i.op=6 then doAsk (fieldsL M (i.a.map (expL m.st))) i m
 else if i.op=7 then doAsk (envL M i.a) i m
 else if i.op=8 then doAsk (i.a.map (expL m.st)) i m
 else if i.op=9 then JM (existsL M (i.a.map (expL m.st))) m
 else if i.op=10 then VK M i m
 else if i.op=11 then UI i m
 else if i.op=12 then VO i m
 else if i.op=13 then .ok (stL m (Gl m.st))
 else if i.op=14 then .ok (goL m count)
 else XJ m
def A6:Ins:=⟨0,0,0,false,[],[],0⟩
def Yd(M:Msg)(code:List Ins):Nat->MS->Nat->Except FZ MS×Nat
 |0,m,d=>(.ok m,d)
 |f+1,m,d=>
  if m.next<code.length then
   (match stepL M code.length (code.getD m.next A6) (atL m) with
    | .error e=>(.error e,d+1)
    | .ok m'=>Yd M code f m' (d+1))
  else(.ok m,d)
def ms0(v:Bool):MS:=⟨ss0 v,[],0,0⟩
def execL(v:Bool)(code:List Ins)(M:Msg):List (Int×L8)×Nat×Option FZ:=
 if 400<code.length then([(1,[])],0,some (12,400))
 else match Yd M code code.length (ms0 v) 0 with
  |(.error e,d)=>([(1,[])],d,some e)
  |(.ok m,d)=>(K1 m.st,d,none)
theorem AG{v:Bool}{a:MS}(h:JM v m=.ok a):a.next=m.next:=by
 unfold JM at h
 split at h
 .cases h;rfl
 .cases h
theorem Lf{a:MS}(h:Vl i m x=.ok a):a.next=m.next:=by
 unfold Vl at h
 split at h
 .cases h;rfl
 .cases h
theorem Cn{a:Nat}{n:Int}(h:Un a m n=true):m.next+n.toNat<=a:=by
 unfold Un at h;simp at h;omega
theorem Dv{M:Msg}{c:Nat}{b:MS}(h:stepL M c i m=.ok b)(e:m.next<=c):m.next<=b.next/\b.next<=c:=by
 have d:∀k:Nat,k=m.next->k=b.next->m.next<=b.next/\b.next<=c:=fun k a n=>I
 unfold stepL at h;by_cases a:i.op=1
 .rw[Qi a]at h;unfold G_ XJ at h
  split at h
  .exact d _ rfl (AG h).symm
  .cases h
 rw[Qg a]at h;by_cases a:i.op=2
 .rw[Qi a]at h;unfold Nf XJ at h
  split at h
  .cases h
  .exact d _ rfl (AG h).symm
 rw[Qg a]at h;by_cases a:i.op=3
 .rw[Qi a]at h;unfold VL XJ at h
  split at h
  .next hm=>cases h;exact⟨Nat.le_add_right _ _,Cn hm⟩
  .cases h
 rw[Qg a]at h
 have g:∀j,doCond j c i m=.ok b->m.next<=b.next/\b.next<=c:=fun j h=>by
  unfold doCond XJ at h
  split at h
  .next hm=>
   split at h
   .cases h
   .cases h;split
    .exact⟨Nat.le_add_right _ _,Cn hm⟩
    .exact⟨Q4 _,e⟩
  .cases h
 by_cases a:i.op=4
 .rw[Qi a]at h;exact g _ h
 rw[Qg a]at h;by_cases a:i.op=5
 .rw[Qi a]at h;exact g _ h
 rw[Qg a]at h
 have f:∀l,doAsk l i m=.ok b->m.next<=b.next/\b.next<=c:=fun l h=>by
  unfold doAsk XJ ES at h
  split at h
  .exact d _ rfl (AG h).symm
  .cases h
 by_cases a:i.op=6
 .rw[Qi a]at h;exact f _ h
 rw[Qg a]at h;by_cases a:i.op=7
 .rw[Qi a]at h;exact f _ h
 rw[Qg a]at h;by_cases a:i.op=8
 .rw[Qi a]at h;exact f _ h
 rw[Qg a]at h;by_cases a:i.op=9
 .rw[Qi a]at h;exact d _ rfl (AG h).symm
 rw[Qg a]at h;by_cases a:i.op=10
 .rw[Qi a]at h;unfold VK XJ at h
  split at h
  .exact d _ rfl (AG h).symm
  .cases h
 rw[Qg a]at h;by_cases a:i.op=11
 .rw[Qi a]at h;unfold UI XJ at h
  split at h
  .exact d _ rfl (Lf h).symm
  .split at h
   .exact d _ rfl (Lf h).symm
   .cases h
 rw[Qg a]at h;by_cases a:i.op=12
 .rw[Qi a]at h;unfold VO XJ at h
  split at h
  .cases h;exact⟨Q4 _,e⟩
  .cases h
 rw[Qg a]at h;by_cases a:i.op=13
 .rw[Qi a]at h;cases h;exact⟨Q4 _,e⟩
 rw[Qg a]at h;by_cases a:i.op=14
 .rw[Qi a]at h;cases h;exact⟨e,Q4 _⟩
 rw[Qg a]at h;cases h
def insOp(op:Int):Ins:=⟨op,0,0,false,[],[],0⟩
def pushI(h:Bool):Ins:=⟨1,if h then 1 else 0,0,false,[],[],0⟩
def Xu(op:Int)(x:Zk):Ins:=⟨op,0,x.tag,x.octet,x.fr,x.keys,0⟩
def Xs(kind:Int)(pos:Nat)(a:Qn):Ins:=⟨11,0,kind,false,a,[],pos⟩
def Jc(n:Int)(i:Ins):Ins:=⟨i.op,n,i.tag,i.oct,i.a,i.b,i.at_⟩
def landL(js:List Nat)(cs:List Ins):List Ins:=js.foldl (fun c j=>c.modify j (Jc ((c.length:Int)-((j:Int)+1)))) cs
def blockC{α:Type}(sub:α->List Ins->List Ins)(ts:List α)(cs:List Ins):List Ins:=ts.foldl (fun c t=>sub t c) cs
def YZ{α:Type}(sub:α->List Ins->List Ins)(jump:Int)(p:List Ins×List Nat)(t:α):List Ins×List Nat:=(sub t p.1++[insOp jump],p.2++[(sub t p.1).length])
def NO(settled:Bool)(r:List Ins×List Nat):List Ins:=
 landL [r.1.length+1] (landL r.2 (r.1++[pushI (!settled),insOp 3])++[pushI settled])
def Ja{α:Type}(sub:α->List Ins->List Ins)(jump:Int)(settled:Bool)(ts:List α)(cs:List Ins):List Ins:=
 NO settled (ts.foldl (YZ sub jump) (cs,[]))
def XE{α:Type}(sub:α->List Ins->List Ins)(x:Zk)(ts:List α)(cs:List Ins):List Ins:=
 match x.kind with
 |0=>cs++[pushI true]
 |1=>cs++[pushI false]
 |2=>blockC sub ts cs++[insOp 2]
 |3=>Ja sub 5 false ts cs
 |4=>Ja sub 4 true ts cs
 |5=>cs++[Xu 6 x]
 |6=>cs++[Xu 7 x]
 |7=>cs++[Xu 8 x]
 |8=>cs++[⟨9,0,0,false,x.fr,[],0⟩]
 |_=>cs++[⟨10,x.num,x.tag,false,[],[],0⟩]
def ZS:(n:Nat)->Zn n->List Ins->List Ins
 |0,_,cs=>cs
 |n+1,x,cs=>XE (ZS n) x.1 x.2 cs
def Ji{α β:Type}(tst:β->List Ins->List Ins)(cmd:α->List Ins->List Ins)(p:List Ins×List Nat)(a:β×List α):List Ins×List Nat:=
 (landL [(tst a.1 p.1).length] (blockC cmd a.2 (tst a.1 p.1++[insOp 5])++[insOp 3]),p.2++[(blockC cmd a.2 (tst a.1 p.1++[insOp 5])).length])
def GY{α:Type}(cmd:α->List Ins->List Ins)(els:List α)(r:List Ins×List Nat):List Ins:=landL r.2 (blockC cmd els r.1)
def U5{α β:Type}(tst:β->List Ins->List Ins)(cmd:α->List Ins->List Ins)(arms:List (β×List α))(els:List α)(cs:List Ins):List Ins:=
 GY cmd els (arms.foldl (Ji tst cmd) (cs,[]))
def X8{α β:Type}(tst:β->List Ins->List Ins)(cmd:α->List Ins->List Ins)(x:Xa)(arms:List (β×List α))(els:List α)(cs:List Ins):List Ins:=
 match x.kind with
 |0=>cs++[Xs 1 x.pos []]
 |1=>cs++[⟨13,0,0,false,[],[],x.pos⟩]
 |2=>cs++[⟨14,0,0,false,[],[],x.pos⟩]
 |3=>cs++[Xs 2 x.pos [x.arg]]
 |4=>cs++[Xs 3 x.pos [x.arg]]
 |5=>cs++[Xs 4 x.pos [x.arg]]
 |6=>cs++[⟨12,0,x.tag,false,[x.var],[x.arg],x.pos⟩]
 |_=>U5 tst cmd arms els cs
def Yp:(n:Nat)->Q5 n->List Ins->List Ins
 |0,_,cs=>cs
 |n+1,x,cs=>X8 (ZS n) (Yp n) x.1 x.2.1 x.2.2 cs
def XH(cs:List (Q5 7)):List Ins:=blockC (Yp 7) cs []
theorem KF:∀(b:List Nat) (a:List Ins),(landL b a).length=a.length
 | [],_=>rfl
 |j::r,a=>by
  show(landL r (a.modify j _)).length=_
  rw[KF r,List.length_modify]
theorem V_{α:Type}{sub:α->List Ins->List Ins}(h:∀t cs,cs.length<=(sub t cs).length):∀(ts:List α) (cs:List Ins),cs.length<=(blockC sub ts cs).length
 | [],_=>Q4 _
 |t::r,cs=>QE (h t cs) (V_ h r (sub t cs))
theorem Ei{α:Type}{sub:α->List Ins->List Ins}(h:∀t cs,cs.length<=(sub t cs).length)(a:Int):∀(b:List α) (p:List Ins×List Nat),p.1.length<=(b.foldl (YZ sub a) p).1.length
 | [],_=>Q4 _
 |t::r,p=>by
  have c:=Ei h a r (YZ sub a p t);have d:=h t p.1;have e:(YZ sub a p t).1.length=(sub t p.1).length+1:=by unfold YZ;simp
  rw[K7];omega
theorem CH{b:Bool}:(NO b r).length=r.1.length+3:=by
 unfold NO;rw[KF,Qz,KF,Qz];rfl
theorem SF{sub:α->List Ins->List Ins}(h:∀t a,a.length<=(sub t a).length)(x:Zk)(c:List α):a.length<=(XE sub x c a).length:=by
 have e:∀d b,a.length<=(Ja sub d b c a).length:=fun d b=>by
  unfold Ja;rw[CH];have:=Ei h d c (a,[]);dsimp only at this;omega
 unfold XE;split
 all_goals first|exact e _ _|(rw[Qz];first|(have:=V_ h c a;omega)|omega)
theorem BV:∀(n:Nat) (t:Zn n) (cs:List Ins),cs.length<=(ZS n t cs).length
 |0,_,_=>Q4 _
 |n+1,x,cs=>SF (BV n) x.1 x.2
theorem PF{b:α->List Ins->List Ins}(e:∀t cs,cs.length<=(tst t cs).length)(d:∀t cs,cs.length<=(b t cs).length)(p:List Ins×List Nat)(a:β×List α):p.1.length<=(Ji tst b p a).1.length:=by
 unfold Ji;dsimp only;rw[KF,Qz];have f:=e a.1 p.1;have c:=V_ d a.2 (tst a.1 p.1++[insOp 5]);rw[Qz]at c;omega
theorem Ds{α β:Type}{tst:β->List Ins->List Ins}{cmd:α->List Ins->List Ins}(ht:∀t cs,cs.length<=(tst t cs).length)(hc:∀t cs,cs.length<=(cmd t cs).length):∀(as_:List (β×List α)) (p:List Ins×List Nat),p.1.length<=(as_.foldl (Ji tst cmd) p).1.length
 | [],_=>Q4 _
 |a::r,p=>QE (PF ht hc p a) (Ds ht hc r _)
theorem FP{a:α->List Ins->List Ins}(c:∀t cs,cs.length<=(a t cs).length)(b:List α):r.1.length<=(GY a b r).length:=by
 unfold GY;rw[KF];exact V_ c b r.1
theorem Wn{c:α->List Ins->List Ins}(g:∀t a,a.length<=(tst t a).length)(e:∀t a,a.length<=(c t a).length)(x:Xa)(b:List (β×List α))(d:List α):a.length<=(X8 tst c x b d a).length:=by
 have f:=QE (Ds g e b (a,[])) (FP e d);unfold X8;split
 all_goals first|exact f|(rw[Qz];omega)
theorem EB:∀(n:Nat) (t:Q5 n) (cs:List Ins),cs.length<=(Yp n t cs).length
 |0,_,_=>Q4 _
 |n+1,x,cs=>Wn (BV n) (EB n) x.1 x.2.1 x.2.2
def Kv(xs:Qn):Nat:=(xs.map List.length).sum
theorem U0:Kv (x::xs)=x.length+Kv xs:=by simp[Kv]
theorem Lj:∀(ps:Qn) (t:L8),t.length+Kv ps<=(ps.foldl Jy t).length
 | [],t=>by simp[Kv]
 |p::r,t=>by
  have a:=Lj r (Jy t p)
  have b:t.length+p.length<=(Jy t p).length:=by
   unfold Jy;split<;>simp only[Qz,Q1,Zl]<;>omega
  rw[K7,U0];omega
theorem De(ps:Qn):Kv ps<=(ZC ps).length:=by
 have:=Lj ps [];unfold ZC;simp only[Zl]at this;omega
theorem LW:∀(xs:Qn),Kv xs+2*xs.length<=(JJ [44,32] xs).length+2
 | []=>by simp[Kv,JJ]
 | [x]=>by simp[Kv,JJ]
 |x::y::r=>by
  have:=LW (y::r);rw[U0];simp only[JJ,Qz,Q1,Zl]at this ⊢;omega
theorem AE{α:Type}{sub:α->List Ins->List Ins}{txt:α->L8}:∀(b:List α) (a:List Ins),(∀t∈b,∀a,(sub t a).length<=a.length+4*(txt t).length)->(blockC sub b a).length<=a.length+4*Kv (b.map txt)
 | [],a,_=>by simp[blockC]
 |t::r,a,h=>by
  have d:=h t Qh a;have e:=AE r (sub t a) (fun t c=>h t (by simp[c]));rw[XZ,U0];show(blockC sub r (sub t a)).length<=_
  omega
theorem Mg{α:Type}{sub:α->List Ins->List Ins}{txt:α->L8}(h:∀t cs,(sub t cs).length<=cs.length+4*(txt t).length)(a:Int):∀(b:List α) (p:List Ins×List Nat),(b.foldl (YZ sub a) p).1.length<=p.1.length+4*Kv (b.map txt)+b.length
 | [],p=>Qh
 |t::r,p=>by
  have c:=Mg h a r (YZ sub a p t);have d:=h t p.1;have e:(YZ sub a p t).1.length=(sub t p.1).length+1:=by unfold YZ;simp
  rw[K7,XZ,U0,Q1];omega
theorem S_{sub:α->List Ins->List Ins}(h:∀t a,(sub t a).length<=a.length+4*(txt t).length)(x:Zk)(c:List α):(XE sub x c a).length<=a.length+4*(Xl x (c.map txt)).length:=by
 have l:∀j b f,(Ja sub j b c a).length<=a.length+4*(Y7 f (c.map txt)).length:=fun j b f=>by
  unfold Ja Y7;rw[CH];have e:=Mg h j c (a,[]);have d:=LW (c.map txt);simp only[Qz,Q1,Zl,XB]at e d ⊢;omega
 have i:∀(w:L8) (r:Qn),w.length<=(ZC (w::r)).length:=fun w r=>by
  have:=De (w::r);rw[U0]at this;omega
 have g:∀f:L8,f.length<=(Jq f x).length:=fun f=>i _ _
 unfold XE Xl;generalize x.kind=k
 match k with
 |0=>
  show(a++[pushI true]).length<=a.length+4*(Uj).length
  rw[Qz];show _<=_+4*4;simp
 |1=>
  show(a++[pushI false]).length<=a.length+4*(Ud).length
  rw[Qz];show _<=_+4*5;simp
 |2=>
  show(blockC sub c a++[insOp 2]).length<=a.length+4*(ZC (kNot::c.map txt)).length
  rw[Qz];have e:=AE (txt:=txt) c a (fun t _=>h t);have d:=De (kNot::c.map txt);rw[U0]at d;have m:kNot.length=3:=rfl;simp only[Q1,Zl];omega
 |3=>
  show(Ja sub 5 false c a).length<=a.length+4*(Y7 JV (c.map txt)).length
  exact l _ _ _
 |4=>
  show(Ja sub 4 true c a).length<=a.length+4*(Y7 JU (c.map txt)).length
  exact l _ _ _
 |5=>
  show(a++[Xu 6 x]).length<=a.length+4*(Jq Y_ x).length
  rw[Qz];have e:=g Y_;have d:Y_.length=6:=rfl;simp only[Q1,Zl];omega
 |6=>
  show(a++[Xu 7 x]).length<=a.length+4*(Jq Zb x).length
  rw[Qz];have e:=g Zb;have d:Zb.length=8:=rfl;simp only[Q1,Zl];omega
 |7=>
  show(a++[Xu 8 x]).length<=a.length+4*(Jq Xc x).length
  rw[Qz];have e:=g Xc;have d:Xc.length=6:=rfl;simp only[Q1,Zl];omega
 |8=>
  show(a++[(⟨9,0,0,false,x.fr,[],0⟩:Ins)]).length<=a.length+4*(ZC [YL,XF x.fr]).length
  rw[Qz];have e:=i YL [XF x.fr];have d:YL.length=6:=rfl;simp only[Q1,Zl];omega
 |_+9=>
  show(a++[(⟨10,x.num,x.tag,false,[],[],0⟩:Ins)]).length<=a.length+4*(ZC [JK,Jp x.tag [JI,JE],iL x.num]).length
  rw[Qz];have e:=i JK [Jp x.tag [JI,JE],iL x.num];have d:JK.length=4:=rfl;simp only[Q1,Zl];omega
theorem Md:∀(n:Nat) (t:Zn n) (a:List Ins),(ZS n t a).length<=a.length+4*(Zx n t).length
 |0,_,a=>by show a.length<=_;omega
 |n+1,x,a=>S_ (Md n) x.1 x.2
theorem DM(txt:α->L8->L8)(a:List α)(i:L8):Kv (a.map fun c=>txt c i)<=(ZJ txt a i).length:=by
 induction a with
 |nil=>simp[Kv]
 |cons c r ih=>
  unfold ZJ at ih ⊢;rw[XZ,U0,YS];simp only[Qz];omega
theorem Il{α β:Type}{tst:β->List Ins->List Ins}{d:α->List Ins->List Ins}{e:β->L8}{b:α->L8->L8}(j i:L8)(k:∀t cs,(tst t cs).length<=cs.length+4*(e t).length):∀(g:List (β×List α)) (f:L8) (p:List Ins×List Nat),(∀a∈g,∀t∈a.2,∀cs i,(d t cs).length<=cs.length+4*(b t i).length)->(g.foldl (Ji tst d) p).1.length<=p.1.length+4*(X7 j f (g.map fun a=>(e a.1,ZJ b a.2 i))).length
 | [],_,p,_=>by simp[X7]
 |a::r,f,p,hc=>by
  have o:=Il j i k r U7 (Ji tst d p a) (fun a n=>hc a (by simp[n]));have q:=k a.1 p.1;have l:=AE (txt:=fun c=>b c i) a.2 (tst a.1 p.1++[insOp 5]) (fun t h cs=>hc a Qh t h cs i);have s:(Ji tst d p a).1.length=(blockC d a.2 (tst a.1 p.1++[insOp 5])).length+1:=by unfold Ji;dsimp only;rw[KF,Qz];rfl
  have u:=DM b a.2 i;have m:=De [f,e a.1,KS];rw[U0,U0,U0]at m;have v:KS.length=2:=rfl;rw[K7,XZ];show _<=p.1.length+4*(Kq f j (e a.1) (ZJ b a.2 i)++X7 j U7 (r.map fun a=>(e a.1,ZJ b a.2 i))).length
  unfold Kq;simp only[Qz,Q1,Zl]at l ⊢;omega
theorem Wu{g:α->List Ins->List Ins}{l:β->L8}{d:α->L8->L8}{j i:L8}(q:∀t b,(tst t b).length<=b.length+4*(l t).length)(x:Xa){f:List (β×List α)}{e:List α}{b:List Ins}(n:∀a∈f,∀t∈a.2,∀b i,(g t b).length<=b.length+4*(d t i).length)(o:∀t∈e,∀b i,(g t b).length<=b.length+4*(d t i).length)(he:x.els=false->e=[]) :
 (X8 tst g x f e b).length<=b.length+4*(YM x j (f.map fun a=>(l a.1,ZJ d a.2 i)) (ZJ d e i)).length:=by
 unfold X8 YM;generalize x.kind=k
 match k with
 |0=>
  show(b++[Xs 1 x.pos []]).length<=b.length+4*(Ul++[59]).length
  rw[Qz,Qz];simp only[Q1,Zl];omega
 |1=>
  show(b++[(⟨13,0,0,false,[],[],x.pos⟩:Ins)]).length<=b.length+4*(K_++[59]).length
  rw[Qz,Qz];simp only[Q1,Zl];omega
 |2=>
  show(b++[(⟨14,0,0,false,[],[],x.pos⟩:Ins)]).length<=b.length+4*(Uk++[59]).length
  rw[Qz,Qz];simp only[Q1,Zl];omega
 |3=>
  show(b++[Xs 2 x.pos [x.arg]]).length<=b.length+4*(ZC [ZN,Zd x.arg]++[59]).length
  rw[Qz,Qz];simp only[Q1,Zl];omega
 |4=>
  show(b++[Xs 3 x.pos [x.arg]]).length<=b.length+4*(ZC [Jt,Zd x.arg]++[59]).length
  rw[Qz,Qz];simp only[Q1,Zl];omega
 |5=>
  show(b++[Xs 4 x.pos [x.arg]]).length<=b.length+4*(ZC [ZM,Zd x.arg]++[59]).length
  rw[Qz,Qz];simp only[Q1,Zl];omega
 |6=>
  show(b++[(⟨12,0,x.tag,false,[x.var],[x.arg],x.pos⟩:Ins)]).length<=b.length+4*(ZC [Xw,Jp x.tag [Yn,Ym,Yj],Zd x.var,Zd x.arg]++[59]).length
  rw[Qz,Qz];simp only[Q1,Zl];omega
 |_+7=>
  show(U5 tst g f e b).length<=b.length+4*(X7 j kIf (f.map fun(a:β×List α)=>(l a.1,ZJ d a.2 i))++(if x.els then Nh++ZJ d e i++j else [])++[125]).length
  unfold U5 GY;rw[KF];have m:=Il j i q f kIf (b,[]) n;have r:=AE (txt:=fun c=>d c i) e (f.foldl (Ji tst g) (b,[])).1 (fun t h b=>o t h b i);have s:=DM d e i;dsimp only at m;rw[Qz,Qz];by_cases hx:x.els=true
  .rw[Qi hx];simp only[Qz];omega
  .have p:=he (by cases h:x.els with|false=>rfl|true=>exact absurd h hx);subst p;have u:Kv (([]:List α).map fun c=>d c i)=0:=rfl;omega
theorem EF(req:Qn):∀(n:Nat) (t:Q5 n),YE (WfT req) (WfC req) n t->∀(b:List Ins) (i:L8),(Yp n t b).length<=b.length+4*(ZR n t i).length
 |0,_,h,b,i=>h.elim
 |n+1,x,h,b,i=>by
  obtain⟨d,e,f⟩:=h;refine Wu (Md n) x.1 (fun a g t c b i=>EF req n t ((e a g).2 t c) b i) (fun t c b i=>EF req n t (f t c) b i) (fun he=>?_);exact XV (d.else0 he)
theorem MH(h:∀c∈y.2,YE (WfT y.1) (WfC y.1) 7 c):(XH y.2).length<=4*(KU y).length:=by
 have b:=AE (txt:=fun c=>ZR 7 c []) y.2 [] (fun t d a=>EF y.1 7 t (h t d) a []);have e:=DM (ZR 7) y.2 [];unfold XH KU;rw[Qz];simp only[Zl]at b;omega
end Go.Proofs.YtgnkjijocdmniaaGreatDoor
