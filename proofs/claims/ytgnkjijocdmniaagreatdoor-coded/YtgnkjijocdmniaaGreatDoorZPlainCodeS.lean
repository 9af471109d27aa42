import Derived.Test.YtgnkjijocdmniaaGreatDoorZLSame
namespace Go.Proofs.YtgnkjijocdmniaaGreatDoor
set_option linter.unusedVariables false
set_option linter.unusedSimpArgs false
set_option maxRecDepth 100000
set_option maxHeartbeats 4000000
variable{α:Type}{F:Nat}{c:α->Nat}{l:L8}{s:PS}{sub:PS->Qb (α×PS)}{y:Qa×List (QF 7)}
theorem Ri{y:PS}(h:Gp l s)(b:nL l s.2=.ok y):Gp l y/\64*s.1.spelt.length+64*ph l y<=64*ph l s:=by
 obtain⟨a,c⟩:=V8 h b;have d:=h.spl;have e:=h.le;have f:=a.le;have g:=a.lt;have i:=h.lt;refine⟨a,?_⟩;unfold ph;omega
theorem BK(c:α->Nat)(x:α)(xs:List α):QU c (x::xs)=c x+QU c xs:=by simp[QU]
theorem EJ(c:α->Nat)(x:α):QU c [x]=c x:=by simp[QU]
theorem EK{α:Type}{l:L8}{sub:PS->Qb (α×PS)}{c:α->Nat}(b:∀ s,Gp l s->Ct 32 l c (sub s) s):∀(f:Nat) (acc:List α) (s:PS),Gp l s->ph l s<f->∀ y,gMr l sub f acc s=.ok y->Gp l y.2/\QU (fun x=>c x+96) y.1+64+64*ph l y.2<=QU (fun x=>c x+96) acc+64*ph l s
 |0,acc,s,h,hf=>absurd hf (Nat.not_lt_zero _)
 |f+1,acc,s,h,hf=>fun y e=>by
  rw[gMr]at e
  cases hp:paL l [[44],[41]] s with
  |error g=>rw[Qi hp]at e;cases e
  |ok z=>
   rw[Qe hp]at e;obtain⟨a,k⟩:=Xj (zs:=[[44],[41]]) h (by decide) z hp
   split at e
   ·cases hq:sub z.2 with
    |error g=>rw[Qi hq]at e;cases e
    |ok x=>
     rw[Qe hq]at e;obtain⟨d,m⟩:=b z.2 a x hq;obtain⟨i,j⟩:=EK b f _ x.2 d (by dsimp only at *;omega) y e;refine⟨i,?_⟩;rw[V9]at j;dsimp only at *;omega
   ·cases e;exact⟨a,by dsimp only at *;omega⟩
theorem EL(hF:l.length<F)(a:∀ s,Gp l s->Ct 32 l c (sub s) s)(h:Gp l s):Ct 64 l (QU (fun x=>c x+96)) (groupL l F sub s) s:=fun y e=>by
 unfold groupL at e
 cases hp:paL l [[40]] s with
 |error g=>rw[Qi hp]at e;cases e
 |ok z=>
  rw[Qe hp]at e;obtain⟨b,j⟩:=Xj (zs:=[[40]]) h (by decide) z hp
  cases hq:sub z.2 with
  |error g=>rw[Qi hq]at e;cases e
  |ok x=>
   rw[Qe hq]at e;obtain⟨d,k⟩:=a z.2 b x hq;have m:ph l x.2<=l.length:=by unfold ph;omega
   obtain⟨f,i⟩:=EK a F _ x.2 d (by omega) y e;refine⟨f,?_⟩;rw[EJ]at i;dsimp only at *;omega
theorem EM{α:Type}(tc:α->List Ins)(j:Int):∀ ts:List α,96*(ZG tc j ts).length=QU (fun x=>96*(tc x).length+96) ts
 | []=>rfl
 |t::r=>by
  have:=EM tc j r;rw[BK];simp only[ZG,Qk,QD];omega
theorem EN(tc:α->List Ins)(j:Int)(b:Bool)(a:List α):96*(Xx tc j b a).length=QU (fun x=>96*(tc x).length+96) a+288:=by
 have c:=EM tc j a;unfold Xx;simp only[Qk,QD,Q4,GO];omega
theorem BL{chk:L8->Nat}{k pos:Nat}{y:QX×PS}(h:Gp l s)(e:ZR l F chk k pos s=.ok y):Gp l y.2/\64*ph l y.2<=64*ph l s:=by
 obtain⟨a,b⟩:=Vg h y e;exact⟨a,by omega⟩
def Aa(k:Nat):Nat:=if k=2 then 3 else if k=3\/k=4 then 5 else 4
theorem Rj(n:Nat){sub:PS->Qb (QQ n×PS)}(hF:l.length<F)(j:∀ s,Gp l s->Ct 32 l (fun x=>96*(ZD n x).length) (sub s) s)(k pos:Nat)(h:Gp l s):∀ y,tBd l F sub k pos s=.ok y->Gp l y.2/\96*(ZD (n+1) y.1).length+32+64*ph l y.2<=64*Aa k+64*ph l s:=by
 intro y e;unfold tBd at e
 split at e
 ·cases e;exact⟨h,by show 96*1+32+64*ph l s<=64*4+_;omega⟩
 ·cases e;exact⟨h,by show 96*1+32+64*ph l s<=64*4+_;omega⟩
 ·cases hq:sub s with
  |error g=>rw[Qi hq]at e;cases e
  |ok x=>
   rw[Qe hq]at e;obtain⟨c,d⟩:=j s h x hq;cases e;refine⟨c,?_⟩;show 96*(QB (ZD n) [x.1]++[insOp 2]).length+32+64*ph l x.2<=64*3+_
   simp only[QB,List.flatMap_cons,List.flatMap_nil,List.append_nil,Qk,QD,Q4];dsimp only at *;omega
 ·cases hq:groupL l F sub s with
  |error g=>rw[Qi hq]at e;cases e
  |ok x=>
   rw[Qe hq]at e;obtain⟨c,d⟩:=EL hF j h x hq;cases e;refine⟨c,?_⟩;show 96*(Xx (ZD n) 5 false x.1).length+32+64*ph l x.2<=64*5+_
   rw[EN];omega
 ·cases hq:groupL l F sub s with
  |error g=>rw[Qi hq]at e;cases e
  |ok x=>
   rw[Qe hq]at e;obtain⟨c,d⟩:=EL hF j h x hq;cases e;refine⟨c,?_⟩;show 96*(Xx (ZD n) 4 true x.1).length+32+64*ph l x.2<=64*5+_
   rw[EN];omega
 ·cases hq:ZR l F (fun _=>0) 5 pos s with
  |error g=>rw[Qi hq]at e;cases e
  |ok x=>
   rw[Qe hq]at e;obtain⟨c,d⟩:=BL h hq;have f:=Ga hq;cases e;refine⟨c,?_⟩
   have i:(ZD (n+1) ((x.1,[]):QQ (n+1))).length=1:=by
    show(Jc (ZD n) x.1 []).length=1
    unfold Jc;rw[f];rfl
   rw[i];show 96*1+32+64*ph l x.2<=64*4+_
   omega
 ·cases hq:ZR l F (fun x=>if 0<wL [Yy,kTo] (zL x)then 0 else 7) 6 pos s with
  |error g=>rw[Qi hq]at e;cases e
  |ok x=>
   rw[Qe hq]at e;obtain⟨c,d⟩:=BL h hq;have f:=Ga hq;cases e;refine⟨c,?_⟩
   have i:(ZD (n+1) ((x.1,[]):QQ (n+1))).length=1:=by
    show(Jc (ZD n) x.1 []).length=1
    unfold Jc;rw[f];rfl
   rw[i];show 96*1+32+64*ph l x.2<=64*4+_
   omega
 ·cases hq:ZR l F (fun _=>0) 7 pos s with
  |error g=>rw[Qi hq]at e;cases e
  |ok x=>
   rw[Qe hq]at e;obtain⟨c,d⟩:=BL h hq;have f:=Ga hq;cases e;refine⟨c,?_⟩
   have i:(ZD (n+1) ((x.1,[]):QQ (n+1))).length=1:=by
    show(Jc (ZD n) x.1 []).length=1
    unfold Jc;rw[f];rfl
   rw[i];show 96*1+32+64*ph l x.2<=64*4+_
   omega
 ·cases hq:sLs l (fun _=>0) F s with
  |error g=>rw[Qi hq]at e;cases e
  |ok x=>
   rw[Qe hq]at e;obtain⟨c,d⟩:=K9 h x hq;cases e;refine⟨c,?_⟩;show 96*1+32+64*ph l x.2<=64*4+_
   omega
 ·next hk0 hk1 hk2 hk3 hk4 hk5 hk6 hk7 hk8=>
  cases hq:sizeL l pos s with
  |error g=>rw[Qi hq]at e;cases e
  |ok x=>
   rw[Qe hq]at e;obtain⟨c,d,f,i⟩:=EO h x hq;cases e;refine⟨c,?_⟩
   have m:(ZD (n+1) ((x.1,[]):QQ (n+1))).length=1:=by
    show(Jc (ZD n) x.1 []).length=1
    unfold Jc;rw[f];rfl
   rw[m]
   have o:3<=Aa k:=by
    unfold Aa;by_cases a:k=2
    ·rw[if_pos a];omega
    ·rw[if_neg a];by_cases b:k=3\/k=4
     ·rw[if_pos b];omega
     ·rw[if_neg b];omega
   show 96*1+32+64*ph l x.2<=_
   omega
theorem Rk:∀ k,k<10->Aa k<=(tNs.getD k []).length:=by decide
theorem EP{l:L8}{req:Qa}{F:Nat}(hF:l.length<F):∀(n:Nat) (s:PS),Gp l s->Ct 32 l (fun x=>96*(ZD n x).length) (Qq l req F n s) s
 |0,s,h=>fun y e=>by
  rw[Qq]at e
  split at e<;>cases e
 |n+1,s,h=>fun y e=>by
  rw[Qq]at e;by_cases h0:wL tNs s.1.spelt=0
  ·rw[if_pos h0]at e;cases e
  ·rw[if_neg h0]at e;cases hu:Zw req s.1.spelt
   ·rw[hu,if_neg (by decide)]at e;cases e
   ·rw[hu,if_pos rfl]at e
    cases hn:nL l s.2 with
    |error g=>cases(Yd hn).symm.trans e
    |ok z=>
     replace e:=(XV hn).symm.trans e;obtain⟨a,d⟩:=Ri h hn;obtain⟨b,f⟩:=Rj n hF (fun s g=>EP hF n s g) _ _ a y e;have i:=YU tNs s.1.spelt;have j:tNs.length=10:=by decide
     have c:=Rk (wL tNs s.1.spelt - 1) (by omega);rw[Ab tNs s.1.spelt h0]at c;exact⟨b,by dsimp only at *;omega⟩
theorem EQ{α:Type}{l:L8}{sub:PS->Qb (α×PS)}{c:α->Nat}(d:∀ s,Gp l s->∀ y,sub s=.ok y->Gp l y.2/\ph l y.2<ph l s)(i:∀ s,Gp l s->Ct 0 l c (sub s) s):∀(f:Nat) (acc:List α) (s:PS),Gp l s->ph l s<f->∀ y,bMr l sub f acc s=.ok y->Gp l y.2/\QU c y.1+64+64*ph l y.2<=QU c acc+64*ph l s
 |0,acc,s,h,hf=>absurd hf (Nat.not_lt_zero _)
 |f+1,acc,s,h,hf=>fun y e=>by
  rw[bMr]at e
  cases hp:mayL l [[125]] s with
  |error g=>rw[Qi hp]at e;cases e
  |ok z=>
   rw[Qe hp]at e;obtain⟨b,a⟩:=XW (zs:=[[125]]) h (by decide) z hp
   split at e
   ·cases hq:sub z.2 with
    |error g=>rw[Qi hq]at e;cases e
    |ok x=>
     rw[Qe hq]at e;obtain⟨j,n⟩:=i z.2 b x hq;have o:=(d z.2 b x hq).2;obtain⟨k,m⟩:=EQ d i f _ x.2 j (by dsimp only at *;split at a<;>omega) y e;refine⟨k,?_⟩;rw[V9]at m;dsimp only at *
     split at a<;>omega
   ·next hi=>
    cases e;dsimp only at a;rw[if_neg hi]at a;exact⟨b,by dsimp only at *;omega⟩
theorem ER(hF:l.length<F)(d:∀ s,Gp l s->∀ y,sub s=.ok y->Gp l y.2/\ph l y.2<ph l s)(f:∀ s,Gp l s->Ct 0 l c (sub s) s)(h:Gp l s):Ct 128 l (QU c) (blockL l F sub s) s:=fun y e=>by
 unfold blockL at e
 cases hp:paL l [[123]] s with
 |error g=>rw[Qi hp]at e;cases e
 |ok z=>
  rw[Qe hp]at e;obtain⟨a,i⟩:=Xj (zs:=[[123]]) h (by decide) z hp;have k:ph l z.2<=l.length:=by unfold ph;omega
  obtain⟨b,j⟩:=EQ d f F _ z.2 a (by omega) y e;refine⟨b,?_⟩;have:QU c ([]:List α)=0:=rfl;dsimp only at *;omega
theorem ES{β:Type}{tst:PS->Qb (β×PS)}{b:β->Nat}(hF:l.length<F)(k:∀ s,Gp l s->Ct 32 l b (tst s) s)(i:∀ s,Gp l s->∀ y,sub s=.ok y->Gp l y.2/\ph l y.2<ph l s)(j:∀ s,Gp l s->Ct 0 l c (sub s) s)(h:Gp l s):Ct 0 l (fun a=>160+b a.1+QU c a.2) (armL l F tst sub s) s:=fun y e=>by
 unfold armL at e
 cases hp:tst s with
 |error g=>rw[Qi hp]at e;cases e
 |ok z=>
  rw[Qe hp]at e;obtain⟨d,m⟩:=k s h z hp
  cases hq:blockL l F sub z.2 with
  |error g=>rw[Qi hq]at e;cases e
  |ok x=>
   rw[Qe hq]at e;obtain⟨f,n⟩:=ER hF i j d x hq;cases e;exact⟨f,by dsimp only at *;omega⟩
theorem ET{α β:Type}{l:L8}{F:Nat}{tst:PS->Qb (β×PS)}{sub:PS->Qb (α×PS)}{b:β->Nat}{c:α->Nat}(hF:l.length<F)(m:∀ s,Gp l s->Ct 32 l b (tst s) s)(j:∀ s,Gp l s->∀ y,sub s=.ok y->Gp l y.2/\ph l y.2<ph l s)(k:∀ s,Gp l s->Ct 0 l c (sub s) s):∀(f:Nat) (acc:List (β×List α)) (s:PS),Gp l s->∀ y,aMr l F tst sub f acc s=.ok y->Gp l y.2/\QU (fun a=>192+b a.1+QU c a.2) y.1+64*ph l y.2<=QU (fun a=>192+b a.1+QU c a.2) acc+64*ph l s
 |0,acc,s,h=>fun y e=>by cases e;exact⟨h,Nat.le_refl _⟩
 |f+1,acc,s,h=>fun y e=>by
  rw[aMr]at e
  cases hp:mayL l [Xe] s with
  |error g=>rw[Qi hp]at e;cases e
  |ok z=>
   rw[Qe hp]at e;obtain⟨i,d⟩:=XW (zs:=[Xe]) h (by decide) z hp
   split at e
   ·cases e;exact⟨i,by dsimp only at *;split at d<;>omega⟩
   ·next hi=>
    dsimp only at d;rw[if_neg hi]at d
    cases hq:armL l F tst sub z.2 with
    |error g=>rw[Qi hq]at e;cases e
    |ok x=>
     rw[Qe hq]at e;obtain⟨n,q⟩:=ES hF m j k i x hq;obtain⟨o,p⟩:=ET hF m j k f _ x.2 n y e;refine⟨o,?_⟩;rw[V9]at p;dsimp only at *;omega
theorem Ac{α:Type}(cc:α->List Ins):∀ ts:List α,96*(QB cc ts).length=QU (fun x=>96*(cc x).length) ts
 | []=>rfl
 |t::r=>by
  have:=Ac cc r;rw[BK];simp only[QB,List.flatMap_cons,Qk]at this ⊢;omega
theorem BM{α β:Type}(tc:β->List Ins)(cc:α->List Ins)(b:List α):∀ arms:List (β×List α),96*(ZX tc cc b arms).length=QU (fun a=>192+96*(tc a.1).length+QU (fun x=>96*(cc x).length) a.2) arms+QU (fun x=>96*(cc x).length) b
 | []=>by have:=Ac cc b;simp only[ZX];rw[this];simp[QU]
 |a::r=>by
  have c:=BM tc cc b r;have d:=Ac cc a.2;rw[BK];simp only[ZX,Qk,QD];omega
theorem Vh{a:α}(h:Gp l s):∀ y,semi l s a=.ok y->y.1=a/\Gp l y.2/\64+64*ph l y.2<=64*ph l s:=fun y e=>by
 unfold semi at e
 cases hp:paL l [[59]] s with
 |error g=>rw[Qi hp]at e;cases e
 |ok z=>
  rw[Qe hp]at e;obtain⟨b,c⟩:=Xj (zs:=[[59]]) h (by decide) z hp;cases e;exact⟨rfl,b,by dsimp only at *;omega⟩
theorem Rl(n:Nat){tst:PS->Qb (QQ n×PS)}{sub:PS->Qb (QF n×PS)}(hF:l.length<F)(u:∀ s,Gp l s->Ct 32 l (fun x=>96*(ZD n x).length) (tst s) s)(o:∀ s,Gp l s->∀ y,sub s=.ok y->Gp l y.2/\ph l y.2<ph l s)(p:∀ s,Gp l s->Ct 0 l (fun x=>96*(Zy n x).length) (sub s) s)(k pos:Nat)(h:Gp l s):∀ y,cBd l F tst sub k pos s=.ok y->Gp l y.2/\96*(Zy (n+1) y.1).length+64*ph l y.2<=64+64*ph l s:=by
 intro y e;unfold cBd at e
 split at e
 ·obtain⟨b,c,f⟩:=Vh h y e;refine⟨c,?_⟩;rw[b];show 96*1+64*ph l y.2<=_
  omega
 ·obtain⟨b,c,f⟩:=Vh h y e;refine⟨c,?_⟩;rw[b];show 96*1+64*ph l y.2<=_
  omega
 ·obtain⟨b,c,f⟩:=Vh h y e;refine⟨c,?_⟩;rw[b];show 96*1+64*ph l y.2<=_
  omega
 ·cases hq:sL l (fun _=>0) s with
  |error g=>rw[Qi hq]at e;cases e
  |ok x=>
   rw[Qe hq]at e;obtain⟨d,i⟩:=XN h x hq;obtain⟨b,c,f⟩:=Vh d y e;refine⟨c,?_⟩;rw[b];show 96*1+64*ph l y.2<=_
   omega
 ·cases hq:sL l (fun _=>0) s with
  |error g=>rw[Qi hq]at e;cases e
  |ok x=>
   rw[Qe hq]at e;obtain⟨d,i⟩:=XN h x hq;obtain⟨b,c,f⟩:=Vh d y e;refine⟨c,?_⟩;rw[b];show 96*1+64*ph l y.2<=_
   omega
 ·cases hq:sL l (fun _=>0) s with
  |error g=>rw[Qi hq]at e;cases e
  |ok x=>
   rw[Qe hq]at e;obtain⟨d,i⟩:=XN h x hq;obtain⟨b,c,f⟩:=Vh d y e;refine⟨c,?_⟩;rw[b];show 96*1+64*ph l y.2<=_
   omega
 ·cases hm:mayL l [Xs,Xt,Xu] s with
  |error g=>rw[Qi hm]at e;cases e
  |ok m=>
   rw[Qe hm]at e;obtain⟨w,A⟩:=XW (zs:=[Xs,Xt,Xu]) h (by decide) m hm
   cases hv:sL l (fun x=>if isNameL x then 0 else 7) m.2 with
   |error g=>rw[Qi hv]at e;cases e
   |ok v=>
    rw[Qe hv]at e;obtain⟨j,q⟩:=XN w v hv
    cases hq:sL l (fun _=>0) v.2 with
    |error g=>rw[Qi hq]at e;cases e
    |ok x=>
     rw[Qe hq]at e;obtain⟨d,i⟩:=XN j x hq;obtain⟨b,c,f⟩:=Vh d y e;refine⟨c,?_⟩;rw[b];show 96*1+64*ph l y.2<=_
     omega
 ·cases ha:armL l F tst sub s with
  |error g=>rw[Qi ha]at e;cases e
  |ok a=>
   rw[Qe ha]at e;obtain⟨d,i⟩:=ES hF u o p h a ha
   cases hb:aMr l F tst sub F [a.1] a.2 with
   |error g=>rw[Qi hb]at e;cases e
   |ok bb=>
    rw[Qe hb]at e;obtain⟨j,q⟩:=ET hF u o p F _ a.2 d bb hb;rw[EJ]at q
    cases hm:mayL l [Xv] bb.2 with
    |error g=>rw[Qi hm]at e;cases e
    |ok m=>
     rw[Qe hm]at e;obtain⟨r,t⟩:=XW (zs:=[Xv]) j (by decide) m hm;have B:64*ph l m.2<=64*ph l bb.2:=by dsimp only at t;split at t<;>omega
     split at e
     ·cases e;refine⟨r,?_⟩;show 96*(ZX (ZD n) (Zy n) [] bb.1).length+64*ph l m.2<=_
      rw[BM];have:QU (fun x=>96*(Zy n x).length) ([]:List (QF n))=0:=rfl;rw[this];dsimp only at *;omega
     ·cases hc:blockL l F sub m.2 with
      |error g=>rw[Qi hc]at e;cases e
      |ok cs=>
       rw[Qe hc]at e;obtain⟨z,C⟩:=ER hF o p r cs hc;cases e;refine⟨z,?_⟩;show 96*(ZX (ZD n) (Zy n) cs.1 bb.1).length+64*ph l cs.2<=_
       rw[BM];dsimp only at *;omega
theorem EU{l:L8}{req:Qa}{F:Nat}(hF:l.length<F):∀(n:Nat) (b:n<=7) (s:PS),Gp l s->Ct 0 l (fun x=>96*(Zy n x).length) (cmdL l req F n s) s
 |0,b,s,h=>fun y e=>by
  rw[cmdL]at e
  split at e<;>cases e
 |n+1,b,s,h=>fun y e=>by
  rw[cmdL]at e;by_cases h0:wL cNs s.1.spelt=0
  ·rw[if_pos h0]at e;cases e
  ·rw[if_neg h0]at e;cases hu:Zw req s.1.spelt
   ·rw[hu,if_neg (by decide)]at e;cases e
   ·rw[hu,if_pos rfl]at e
    cases hq:nL l s.2 with
    |error g=>cases(Yd hq).symm.trans e
    |ok z=>
     replace e:=(XV hq).symm.trans e;obtain⟨g1,d⟩:=J5 h (Km (zs:=cNs) h (by decide) h0) hq
     obtain ⟨g3,g4⟩:=Rl n hF (fun s g=>EP hF n s g) (fun s g y e=>by
      have a:=GT n [] (by simp;omega) s g y e;refine⟨a.1,?_⟩;have c:=a.2;unfold JL at c
      omega) (fun s g=>EU hF n (by omega) s g) _ _ g1 y e
     exact⟨g3,by dsimp only at *;omega⟩
theorem Rm(h:prL l=.ok y):3*(codeL y.2).length<=2*l.length:=by
 unfold prL at h;dsimp only at h;obtain⟨F,a⟩:=QE (2*l.length+10);rw[<-a]at h;have hF:l.length<F:=by omega
 clear a
 cases h1:nL l 0 with
 |error f=>rw[h1]at h;cases h
 |ok s=>
  rw[h1]at h;dsimp only at h
  have d:Gp l s:=by
   unfold nL at h1
   cases hs:QW (l.length+1) (l.drop 0) 0 with
   |error f=>rw[hs]at h1;cases h1
   |ok n=>
    rw[hs]at h1;exact(GU l n (Kb l _ 0 n QC hs).2 s h1).1
  cases h3:reqMore l F F [] s with
  |error f=>rw[h3]at h;cases h
  |ok z=>
   rw[h3]at h;dsimp only at h;obtain⟨b,e⟩:=GV F [] s d z h3
   cases h4:cMr (cmdL l z.1 F 7) F [] z.2 with
   |error f=>rw[h4]at h;cases h
   |ok cs=>
    rw[h4]at h;have i:=BN (c:=fun x=>96*(Zy 7 x).length) (fun s g=>EU hF 7 (by omega) s g) F [] z.2 b cs h4;cases h;have j:=Ac (Zy 7) cs;have k:ph l s<=l.length:=by unfold ph;omega
    have m:QU (fun x=>96*(Zy 7 x).length) ([]:List (QF 7))=0:=rfl;have o:Xk ([]:Qa)=0:=rfl;rw[GQ];dsimp only;omega
def Ye(i:Ins):Prop:=i.a.length<=100000/\i.b.length<=100000
theorem JM{i:Ins}(c:i.a=[])(d:i.b=[]):Ye i:=by unfold Ye;rw[c,d];exact⟨QC,QC⟩
theorem EV{α:Type}{tc:α->List Ins}(a:Int)(k:Nat):∀ ts:List α,(∀ t∈ts,∀ i∈tc t,Ye i)->∀ i∈Yv tc a k ts,Ye i
 | [],_,i,hi=>by cases hi
 |t::r,h,i,hi=>by
  unfold Yv at hi;rcases List.mem_append.1 hi with hi|hi
  ·exact h t List.mem_cons_self i hi
  ·rcases List.mem_cons.1 hi with hi|hi
   ·rw[hi];exact JM rfl rfl
   ·exact EV a k r (fun x b=>h x (List.mem_cons_of_mem _ b)) i hi
theorem EW{tc:α->List Ins}(c:Int)(b:Bool)(a:List α)(h:∀ t∈a,∀ i∈tc t,Ye i):∀ i∈Xx tc c b a,Ye i:=fun i hi=>by
 unfold Xx at hi;rcases List.mem_append.1 hi with hi|hi
 ·exact EV c 2 a h i hi
 ·simp at hi;rcases hi with rfl|rfl|rfl
  ·exact JM (by cases b<;>rfl) (by cases b<;>rfl)
  ·exact JM rfl rfl
  ·exact JM (by cases b<;>rfl) (by cases b<;>rfl)
theorem Ad{cc:α->List Ins}(a:List α)(h:∀ t∈a,∀ i∈cc t,Ye i):∀ i∈QB cc a,Ye i:=fun i hi=>by
 obtain⟨t,b,hi⟩:=List.mem_flatMap.1 hi;exact h t b i hi
def FkS(x:QX)(_:Nat):Prop:=x.fr.length<=100000/\x.keys.length<=100000
theorem EX:∀(n:Nat) (x:QQ n),Yl FkS n x->∀ i∈ZD n x,Ye i
 |0,x,h,i,hi=>h.elim
 |n+1,x,⟨h1,h2⟩,i,hi=>by
  have hi:i∈Jc (ZD n) x.1 x.2:=hi;have a:∀ t∈x.2,∀ i∈ZD n t,Ye i:=fun t b=>EX n t (h2 t b)
  unfold Jc at hi
  split at hi
  ·rw[QY hi];exact JM rfl rfl
  ·rw[QY hi];exact JM rfl rfl
  ·rcases List.mem_append.1 hi with hi|hi
   ·exact Ad x.2 a i hi
   ·rw[QY hi];exact JM rfl rfl
  ·exact EW _ _ x.2 a i hi
  ·exact EW _ _ x.2 a i hi
  ·rw[QY hi];exact h1
  ·rw[QY hi];exact h1
  ·rw[QY hi];exact h1
  ·rw[QY hi];exact⟨h1.1,QC⟩
  ·rw[QY hi];exact JM rfl rfl
theorem EY{α β:Type}{tc:β->List Ins}{cc:α->List Ins}(b:List α)(he:∀ c∈b,∀ i∈cc c,Ye i):∀ arms:List (β×List α),(∀ a∈arms,(∀ i∈tc a.1,Ye i)/\∀ c∈a.2,∀ i∈cc c,Ye i)->∀ i∈ZX tc cc b arms,Ye i
 | [],_,i,hi=>Ad b he i hi
 |a::r,h,i,hi=>by
  unfold ZX at hi;obtain⟨d,e⟩:=h a List.mem_cons_self;rcases List.mem_append.1 hi with hi|hi
  ·exact d i hi
  ·rcases List.mem_cons.1 hi with hi|hi
   ·rw[hi];exact JM rfl rfl
   ·rcases List.mem_append.1 hi with hi|hi
    ·exact Ad a.2 e i hi
    ·rcases List.mem_cons.1 hi with hi|hi
     ·rw[hi];exact JM rfl rfl
     ·exact EY b he r (fun x f=>h x (List.mem_cons_of_mem _ f)) i hi
theorem BO(req:Qa):∀(n:Nat) (c:QF n) (i:L8),XU (WfT req) (WfC req) n c->(Q8 n c i).length<=90000->∀ k∈Zy n c,Ye k
 |0,c,i,h,_,k,hk=>h.elim
 |n+1,c,i,⟨hwf,harm,hels⟩,hl,k,hk=>by
  have hk:k∈KJ (ZD n) (Zy n) c.1 c.2.1 c.2.2:=hk;have hl:(XM c.1 i (c.2.1.map fun(a:QQ n×List (QF n))=>(Q3 n a.1,Q7 (Q8 n) a.2 (i++[32,32]))) (Q7 (Q8 n) c.2.2 (i++[32,32]))).length<=90000:=hl;have w:=hwf.kind;have s:c.1.kind=0\/c.1.kind=1\/c.1.kind=2\/c.1.kind=3\/c.1.kind=4\/c.1.kind=5\/c.1.kind=6\/c.1.kind=7:=by omega
  have t:∀(x y:L8),Ye ⟨12,0,c.1.tag,false,[x],[y],c.1.pos⟩:=fun x y=>⟨by show 1<=100000;decide,by show 1<=100000;decide⟩
  have j:∀(k:Int) (p:Nat) (x:L8),Ye (ZL k p [x]):=fun k p x=>⟨by show 1<=100000;decide,QC⟩
  unfold KJ at hk;rcases s with e|e|e|e|e|e|e|e
  ·rw[e]at hk;rw[QY hk];exact JM rfl rfl
  ·rw[e]at hk;rw[QY hk];exact JM rfl rfl
  ·rw[e]at hk;rw[QY hk];exact JM rfl rfl
  ·rw[e]at hk;rw[QY hk];exact j _ _ _
  ·rw[e]at hk;rw[QY hk];exact j _ _ _
  ·rw[e]at hk;rw[QY hk];exact j _ _ _
  ·rw[e]at hk;rw[QY hk];exact t _ _
  ·rw[e]at hk;have hk:k∈ZX (ZD n) (Zy n) c.2.2 c.2.1:=hk;unfold XM at hl;rw[e]at hl;have hl:(Xh i kIf (c.2.1.map fun(a:QQ n×List (QF n))=>(Q3 n a.1,Q7 (Q8 n) a.2 (i++[32,32])))++(if c.1.els then UC++Q7 (Q8 n) c.2.2 (i++[32,32])++i else [])++[125]).length<=90000:=hl;simp only[Qk]at hl;obtain⟨_,r⟩:=BP i (c.2.1.map fun(a:QQ n×List (QF n))=>(Q3 n a.1,Q7 (Q8 n) a.2 (i++[32,32]))) kIf;refine EY c.2.2 (fun d b=>?_) c.2.1 (fun a l=>?_) k hk
   ·cases hel:c.1.els with
    |false=>
     have:=hwf.else0 hel;rw[XB this]at b;cases b
    |true=>
     rw[if_pos hel]at hl;simp only[Qk]at hl;have g:=(GW (Q8 n) (i++[32,32]) c.2.2).2 d b;exact BO req n d (i++[32,32]) (hels d b) (by omega)
   ·have g:=r _ (List.mem_map_of_mem (f:=fun(a:QQ n×List (QF n))=>(Q3 n a.1,Q7 (Q8 n) a.2 (i++[32,32]))) l);dsimp only at g;refine⟨EX n a.1 (Ae (fun x m g o q u v=>⟨g,q⟩) n _ (harm a l).1 (by omega)),fun d b=>?_⟩;have o:=(GW (Q8 n) (i++[32,32]) a.2).2 d b;exact BO req n d (i++[32,32]) ((harm a l).2 d b) (by omega)
theorem Rn(h:∀ c∈y.2,XU (WfT y.1) (WfC y.1) 7 c)(b:(JK y).length<=90000):∀ k∈codeL y.2,Ye k:=fun k hk=>by
 rw[GQ]at hk;refine Ad y.2 (fun c a=>BO y.1 7 c [] (h c a) ?_) k hk;have d:=(GW (Q8 7) [] y.2).2 c a;unfold JK at b;rw[Qk]at b;omega
end Go.Proofs.YtgnkjijocdmniaaGreatDoor
