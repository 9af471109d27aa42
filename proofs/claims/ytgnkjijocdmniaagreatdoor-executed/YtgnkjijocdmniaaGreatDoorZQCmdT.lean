import Derived.Test.YtgnkjijocdmniaaGreatDoorQTestS
namespace Go.Proofs.YtgnkjijocdmniaaGreatDoor
set_option linter.unusedVariables false
set_option linter.unusedSimpArgs false
set_option maxRecDepth 100000
set_option maxHeartbeats 4000000
open Go.Proofs.Tryz
open Go.RowKit
attribute [local go_sem ↓] Go.wp_at_zero Go.wp_at_succ
variable{α β:Type}{l:L8}{pos tb v:Nat}{st:Qb PS}{w:World}
theorem Bd{mk:L8->α}(h:TSt w tb l (stOf (bindS st (sL l (Qz 0))))):stOf (bindS st fun s=>Qo (sL l (fun _=>0) s) fun x s1=>ZK l s1 (mk x))=signS l 59 (stOf (bindS st (sL l (Qz 0))))/\∀ y,(bindS st fun s=>Qo (sL l (fun _=>0) s) fun x s1=>ZK l s1 (mk x))=.ok y->∃ z,bindS st (sL l (Qz 0))=.ok z/\y.1=mk z.1:=by
 rw[Bm]at h ⊢
 cases st with
 |error g=>exact⟨by simp only[bindS,stOf];unfold signS;split<;>rfl,fun y e=>by cases e⟩
 |ok s=>
  simp only[bindS]at h ⊢
  cases hz:sL l (fun _=>0) s with
  |error g=>exact⟨by simp only[Qo,stOf];unfold signS;split<;>rfl,fun y e=>by cases e⟩
  |ok z=>
   rw[hz]at h;have e:=Et (a:=mk z.1) h;have b:bindS (stOf (Except.ok z)) (fun s=>ZK l s (mk z.1))=ZK l z.2 (mk z.1):=rfl;rw[b]at e;simp only[Qo];rw[e];exact⟨Nk,fun y c=>⟨z,rfl,Nf c⟩⟩
theorem EF(c:Nat)(E:L8)(rb tb:Nat)(nv:Value)(rq:Qa)(l:L8)(F n J:Nat)(st:Qb PS)(w:World)(C:RdI w rb tb nv rq)(h:TSt w tb l st)(A:l.length<=600)(hF:2*l.length+2<=F)(hd:J+n=6)(hk:(O l st).1=119)(i:(O l st).2.1=E)(hc:(E=ZB/\c=3)\/(E=ZD/\c=5)) :
 Calls prog 115 #[.pointer (some ⟨rb,0,none⟩),.int .i64 J] w (QY (bindS st (QG l rq F (n+1))) tb l w (ZU (n+1) (fromB w.heap.size)) XL):=by
 have Z:Hid (bindS st (QG l rq F (n+1))=bindS (nextS l (Xx l rq E st)) fun s=>Qo (sL l (fun _=>0) s) fun x s1=>ZK l s1 (⟨c,(O l st).2.2.2,0,x,[],false⟩,[],[])):=by
  show _=_
  rcases hc with⟨rfl,rfl⟩ | ⟨rfl,rfl⟩
  all_goals
   rw[Gc h hk (by rw[i];decide),i]
   first|(rw[show Uf l rq ZB st=Xx l rq ZB st from if_pos (by decide)];rfl)|(rw[show Uf l rq ZD st=Xx l rq ZD st from if_pos (by decide)];rfl)
 have r0:=Qk C.r;obtain⟨c2,c4,c5,c6,c7⟩:=h.cells;have H:=I h;have f:=I C;have aG:=Qg C.r;have aH:=h.lt;have p:w.heap.size≠tb:=by omega
 have aF:w.heap.size≠rb:=by omega
 have aD:decide ((6:Int)<(J:Int))=false:=Qh (by omega);obtain⟨a,aa⟩:=Qe ((O l st).2.1);rw[aa]at c5 i;rcases hc with⟨rfl,m⟩ | ⟨rfl,m⟩
 all_goals
  have ae:=I m;clear m;have d:=i;have e0:=QO [107,101,101,112] d rfl
  have e1:=QO [100,105,115,99,97,114,100] d rfl
  have e2:=QO [115,116,111,112] d rfl
  first|(have e3:((sA a).toList==[102,105,108,101,105,110,116,111])=true:=(by rw[Zg,d];decide))|(have e3:((sA a).toList==[102,105,108,101,105,110,116,111])=false:=(by rw[Zg,d];decide))
  first|(have e5:((sA a).toList==[114,101,106,101,99,116])=true:=(by rw[Zg,d];decide))|(have e5:((sA a).toList==[114,101,106,101,99,116])=false:=(by rw[Zg,d];decide))
  have e4:=QO [114,101,100,105,114,101,99,116] d rfl
  have aC:((sA a).toList != [114,101,100,105,114,101,99,116])=true:=by show(!((sA a).toList==[114,101,100,105,114,101,99,116]))=true;rw[Zg,d];decide
  obtain⟨b,k⟩:=QF ((w.alloc (.cells #[.string (sA a),.slice none 0 0,.int .i64 0,.slice none 0 0,.slice none 0 0,.int .i64 (O l st).2.2.2] 155)).drew);have az:=I k;have t:Hid (Mod tb w b):=by show Mod _ _ _;rw[k];exact((Mod.refl _ _).alloc _).drew
  have G:Hid (CNode b w.heap.size a (.slice none 0 0) 0 (.slice none 0 0) (.slice none 0 0) (O l st).2.2.2):=by show b.heap[w.heap.size]?=_;rw[k];exact QC _ _
  have aq:Hid (TSt b tb l st):=by show TSt _ _ _ _;rw[k];exact(h.below (Qp (.cells #[.string (sA a),.slice none 0 0,.int .i64 0,.slice none 0 0,.slice none 0 0,.int .i64 (O l st).2.2.2] 155))).block rfl
  clear h C k hk aa;have Y:=I i;clear i d;go_enter func115,ntmps115;go_wp2_with fail;go_region;rw[<-az.o];have d0:=Qk (w:=b) (f.o.r.mod t.o f.o.n);have n0:=Qk G.o;have n5:=Q9 G.o;go_wp2_with fail;refine(GQ rb tb nv rq l a st b (f.o.mod t.o).r (f.o.mod t.o).txl f.o.z aq.o A).mono ?_;rintro e w0 ⟨rfl,N,T⟩;rw[Y.o]at T;have V:=I (t.o.trans N);have ag:=I (QA G.o N p);have ar:=I T;have q0:w0.cell? ⟨rb,0,none⟩=some (.pointer (some ⟨tb,0,none⟩)):=Qi (f.o.mod V.o).r 0;clear N T;go_wp2_with fail;refine(Z2 tb l _ _ ar.o A).mono ?_;rintro e w1 ⟨rfl,P,ab⟩;have W:=I (V.o.trans P);have ah:=I (QA ag.o P p);have au:=I ab;clear P ab;go_wp2_with fail;refine(UA rb tb nv l 0 _ _ (f.o.mod W.o).r f.o.n au.o A QE).mono ?_;rintro e g h2;obtain⟨Q,D,v,rfl,⟨x,rfl,aI⟩,ad⟩:=h2.st;have ax:=I ad;have U:=I (Bd (α:=Xj×List (Yn n×List (Zt n))×List (Zt n)) (mk:=fun x=>(⟨c,(O l st).2.2.2,0,x,[],false⟩,[],[])) D);have m:=ae.o;subst m;have q:=QA ah.o Q p;have aA:w.heap.size<g.heap.size:=Qg q;obtain⟨u,K⟩:=QF ((g.setCell ⟨w.heap.size,1,none⟩ (.slice (some ⟨g.heap.size,0,none⟩) 1 1)).alloc (.cells #[.string (sA x)] 9));have ay:=I K;obtain⟨R,S,M,L⟩:=GZ (W.o.trans Q) q 1 (.slice (some ⟨g.heap.size,0,none⟩) 1 1) (.cells #[.string (sA x)] 9);rw[<-K]at R S M L;have X:=I R;have ai:Hid (CNode u w.heap.size a (.slice (some ⟨g.heap.size,0,none⟩) 1 1) 0 (.slice none 0 0) (.slice none 0 0) (O l st).2.2.2):=S;have av:=I (D.block (L tb D.lt (Ne.symm p)))
  have ak:Hid (slX (fromB w.heap.size) [x] u (.slice (some ⟨g.heap.size,0,none⟩) 1 1)):=by
   refine⟨g.heap.size,1,rfl,Nat.le_of_lt aA,fun j hj=>?_,by simp⟩;have h0:j=0:=by simpa using hj
   subst h0;exact Qi M 0
  have aE:=fun o=>Qu q o
  have d2:=Qr q;have ao:=I (YQ rb tb nv l 59 _ _ (f.o.mod X.o).r av.o A);clear h2 Q D ad q R S M L K;go_wp2_with fail;rw[<-ay.o];refine ao.o.mono ?_;rintro e w4 ⟨rfl,B,ac⟩;have af:=I (X.o.trans B);have aj:=I (QA ai.o B p);have ap:=I (ak.o.keep (B.abvX (fun e=>by have e':w.heap.size<=tb:=e;omega)));have aw:=I ac;clear B ac;go_wp2;go_ret;refine QY.mk af.o (by rw[(congrArg stOf Z.o).trans U.o.1];exact aw.o) ⟨_,rfl⟩ (fun y hy=>?_);obtain⟨z,hz,aB⟩:=U.o.2 y (Z.o.symm.trans hy);have:=K3 (ax.o z hz);subst this;rw[aB];exact V8 Ql aj.o Y.o.symm (Qc ap.o) (Qd ⟨rfl,rfl⟩) (Qd ⟨rfl,rfl⟩)
theorem F0(rb tb:Nat)(nv:Value)(rq:Qa)(l:L8)(F n B:Nat)(st:Qb PS)(w:World)(t:RdI w rb tb nv rq)(h:TSt w tb l st)(G:l.length<=600)(hF:2*l.length+2<=F)(hd:B+n=6)(U:(O l st).1=119)(f:(O l st).2.1=Kk) :
 Calls prog 115 #[.pointer (some ⟨rb,0,none⟩),.int .i64 B] w (QY (bindS st (QG l rq F (n+1))) tb l w (ZU (n+1) (fromB w.heap.size)) XL):=by
 have S:Hid (bindS st (QG l rq F (n+1))=bindS (nextS l st) fun s=>Qo (sL l (fun _=>0) s) fun x s1=>ZK l s1 (⟨4,(O l st).2.2.2,0,x,[],false⟩,[],[])):=by
  show _=_
  rw[Gc h U (by rw[f];decide),f];rw[Av (by decide) (by decide)];rfl
 have r0:=Qk t.r;obtain⟨c2,c4,c5,c6,c7⟩:=h.cells;have H:=I h;have g:=I t;have az:=Qg t.r;have aA:=h.lt;have p:w.heap.size≠tb:=by omega
 have ay:w.heap.size≠rb:=by omega
 have aw:decide ((6:Int)<(B:Int))=false:=Qh (by omega);obtain⟨a,V⟩:=Qe ((O l st).2.1);rw[V]at c5 f;have d:=f;have e0:=QO [107,101,101,112] d rfl
 have e1:=QO [100,105,115,99,97,114,100] d rfl
 have e2:=QO [115,116,111,112] d rfl
 have e3:=QO [102,105,108,101,105,110,116,111] d rfl
 have e4:=Jl [114,101,100,105,114,101,99,116] d rfl
 have av:((sA a).toList != [114,101,100,105,114,101,99,116])=false:=by show(!((sA a).toList==[114,101,100,105,114,101,99,116]))=false;rw[Zg,d];decide
 obtain⟨b,i⟩:=QF ((w.alloc (.cells #[.string (sA a),.slice none 0 0,.int .i64 0,.slice none 0 0,.slice none 0 0,.int .i64 (O l st).2.2.2] 155)).drew);have aq:=I i;have P:Hid (Mod tb w b):=by show Mod _ _ _;rw[i];exact((Mod.refl _ _).alloc _).drew
 have A:Hid (CNode b w.heap.size a (.slice none 0 0) 0 (.slice none 0 0) (.slice none 0 0) (O l st).2.2.2):=by show b.heap[w.heap.size]?=_;rw[i];exact QC _ _
 have ag:Hid (TSt b tb l st):=by show TSt _ _ _ _;rw[i];exact(h.below (Qp (.cells #[.string (sA a),.slice none 0 0,.int .i64 0,.slice none 0 0,.slice none 0 0,.int .i64 (O l st).2.2.2] 155))).block rfl
 clear h t i U V;have ap:=I f;clear f d;go_enter func115,ntmps115;go_wp2_with fail;go_region;rw[<-aq.o];have d0:=Qk (w:=b) (g.o.r.mod P.o g.o.n);have n0:=Qk A.o;have n5:=Q9 A.o;go_wp2_with fail;refine(Z2 tb l st b ag.o G).mono ?_;rintro e w1 ⟨rfl,J,W⟩;have Q:=I (P.o.trans J);have aa:=I (QA A.o J p);have ah:=I W;clear J W;go_wp2_with fail;refine(UA rb tb nv l 0 _ _ (g.o.mod Q.o).r g.o.n ah.o G QE).mono ?_;rintro e c T;obtain⟨K,u,v,rfl,⟨x,rfl,aB⟩,Y⟩:=T.st;have ak:=I Y;have N:=I (Bd (α:=Xj×List (Yn n×List (Zt n))×List (Zt n)) (mk:=fun x=>(⟨4,(O l st).2.2.2,0,x,[],false⟩,[],[])) u);have k:=QA aa.o K p;have ar:w.heap.size<c.heap.size:=Qg k;obtain⟨m,C⟩:=QF ((c.setCell ⟨w.heap.size,1,none⟩ (.slice (some ⟨c.heap.size,0,none⟩) 1 1)).alloc (.cells #[.string (sA x)] 9));have ao:=I C;obtain⟨L,M,E,D⟩:=GZ (Q.o.trans K) k 1 (.slice (some ⟨c.heap.size,0,none⟩) 1 1) (.cells #[.string (sA x)] 9);rw[<-C]at L M E D;have R:=I L;have ab:Hid (CNode m w.heap.size a (.slice (some ⟨c.heap.size,0,none⟩) 1 1) 0 (.slice none 0 0) (.slice none 0 0) (O l st).2.2.2):=M;have ai:=I (u.block (D tb u.lt (Ne.symm p)))
 have ad:Hid (slX (fromB w.heap.size) [x] m (.slice (some ⟨c.heap.size,0,none⟩) 1 1)):=by
  refine⟨c.heap.size,1,rfl,Nat.le_of_lt ar,fun j hj=>?_,by simp⟩;have h0:j=0:=by simpa using hj
  subst h0;exact Qi E 0
 have ax:=fun o=>Qu k o
 have d2:=Qr k;have ae:=I (YQ rb tb nv l 59 _ _ (g.o.mod R.o).r ai.o G);clear T K u Y k L M E D C;go_wp2_with fail;rw[<-ao.o];refine ae.o.mono ?_;rintro e w4 ⟨rfl,q,X⟩;have Z:=I (R.o.trans q);have ac:=I (QA ab.o q p);have af:=I (ad.o.keep (q.abvX (fun e=>by have e':w.heap.size<=tb:=e;omega)));have aj:=I X;clear q X;go_wp2;go_ret;refine QY.mk Z.o (by rw[(congrArg stOf S.o).trans N.o.1];exact aj.o) ⟨_,rfl⟩ (fun y hy=>?_);obtain⟨z,hz,au⟩:=N.o.2 y (S.o.symm.trans hy);have:=K3 (ak.o z hz);subst this;rw[au];exact V8 Ql ac.o ap.o.symm (Qc af.o) (Qd ⟨rfl,rfl⟩) (Qd ⟨rfl,rfl⟩)
theorem Wk:Qz 4=fun x=>if Z3 x then 0 else 7:=rfl
theorem TR{F:Nat}{tst:PS->Qb (β×PS)}{sub:PS->Qb (α×PS)}{c:Qb PS}(h:TSt w tb l st)(b:v=if(O l st).1=58 then wL [KA,Ky,Kq] (O l st).2.1 else 0)(a:c=if(O l st).1=58 then nextS l (if v=0 then failS st ⟨4,(O l st).2.2.2⟩else st)else st) :
 bindS st (Zp l F tst sub 6 pos)=bindS c fun s1=>Qo (sL l (Qz 4) s1) fun vn s2=>Qo (sL l (fun _=>0) s2) fun x s3=>ZK l s3 (⟨6,pos,v,x,zL vn,false⟩,[],[]):=by
 rw[Wk]
 cases st with
 |error f=>
  rw[if_neg (by show ¬(0:Nat)=58;decide)]at a;subst a;rfl
 |ok s=>
  have i:wL [J5,J7,JS] s.1.spelt=v:=by
   rw[b];by_cases hk:s.1.kind=2
   ·have:(O l (.ok s)).1=58:=(Ua h.wd).2 hk;rw[if_pos this,Ax h.wd hk,Fi,VQ];rfl
   ·have:¬(O l (.ok s)).1=58:=fun e=>hk ((Ua h.wd).1 e)
    rw[if_neg this,Fi,GK h.wd hk _ neT]
  simp only[bindS,Zp];by_cases hk:s.1.kind=2
  ·have d:(O l (.ok s)).1=58:=(Ua h.wd).2 hk;rw[if_pos d]at a;by_cases h0:v=0
   ·rw[if_pos h0]at a;have g:c=.error ⟨4,s.1.pos⟩:=a;subst g;unfold mayL;rw[i,if_pos h0];simp only[Qo];unfold sL;rw[if_neg (by omega)]
   ·rw[if_neg h0]at a;have g:c=nL l s.2:=a;subst g;unfold mayL;rw[i,if_neg h0];cases nL l s.2<;>rfl
  ·have d:¬(O l (.ok s)).1=58:=fun e=>hk ((Ua h.wd).1 e)
   rw[if_neg d]at a b;subst a
   have j:mayL l [J5,J7,JS] s=.ok (0,s):=by
    unfold mayL;rw[i,if_pos b]
   rw[j,b];rfl
theorem TX{a:Qb PS}(h:TSt w tb l (stOf (bindS (stOf (bindS a (sL l (Qz 4)))) (sL l (Qz 0))))) :
 stOf (bindS a fun s1=>Qo (sL l (Qz 4) s1) fun vn s2=>Qo (sL l (fun _=>0) s2) fun x s3=>ZK l s3 ((⟨6,pos,v,x,zL vn,false⟩:Xj),([]:List (β×List α)),([]:List α)))=signS l 59 (stOf (bindS (stOf (bindS a (sL l (Qz 4)))) (sL l (Qz 0))))/\∀ y,(bindS a fun s1=>Qo (sL l (Qz 4) s1) fun vn s2=>Qo (sL l (fun _=>0) s2) fun x s3=>ZK l s3 ((⟨6,pos,v,x,zL vn,false⟩:Xj),([]:List (β×List α)),([]:List α)))=.ok y->∃ z1 z2,bindS a (sL l (Qz 4))=.ok z1/\bindS (stOf (bindS a (sL l (Qz 4)))) (sL l (Qz 0))=.ok z2/\y.1=(⟨6,pos,v,z2.1,zL z1.1,false⟩,[],[]):=by
 cases a with
 |error g=>exact⟨by simp only[bindS,stOf];unfold signS;split<;>rfl,fun y e=>by cases e⟩
 |ok s=>
  simp only[bindS]at h ⊢
  cases hz:sL l (Qz 4) s with
  |error g=>exact⟨by simp only[Qo,stOf];unfold signS;split<;>rfl,fun y e=>by cases e⟩
  |ok z=>
   rw[hz]at h;obtain⟨b,c⟩:=Bd (st:=.ok z.2) (mk:=fun x=>((⟨6,pos,v,x,zL z.1,false⟩:Xj),([]:List (β×List α)),([]:List α))) h;refine⟨b,fun y i=>?_⟩;obtain⟨z2,d,f⟩:=c y i;exact⟨z,z2,rfl,d,f⟩
theorem RY(rb tb:Nat)(nv:Value)(rq:Qa)(l:L8)(F n af:Nat)(st:Qb PS)(w:World)(hr:RdI w rb tb nv rq)(h:TSt w tb l st)(p:l.length<=600)(hF:2*l.length+2<=F)(hd:af+n=6)(s:(O l st).1=119)(D:(O l st).2.1=Xy) :
 Calls prog 115 #[.pointer (some ⟨rb,0,none⟩),.int .i64 af] w (QY (bindS st (QG l rq F (n+1))) tb l w (ZU (n+1) (fromB w.heap.size)) XL):=by
 have HX:Hid (bindS st (QG l rq F (n+1))=bindS (nextS l (Xx l rq Xc st)) (Zp l F (Qy l rq F n) (QG l rq F n) 6 (O l st).2.2.2)):=by
  show _=_
  rw[Gc h s (by rw[D];decide),D];rw[show Uf l rq Xy st=Xx l rq Xc st from(if_neg (by decide)).trans (if_pos rfl)];rfl
 have r0:=Qk hr.r;obtain⟨c2,c4,c5,c6,c7⟩:=h.cells;have H:=I h;have c:=I hr;have a6:=Qg hr.r;have a7:=h.lt;have i:w.heap.size≠tb:=by omega
 have a4:w.heap.size≠rb:=by omega
 have a2:decide ((6:Int)<(af:Int))=false:=Qh (by omega);obtain⟨a,aC⟩:=Qe ((O l st).2.1);rw[aC]at c5 D;have q:=D;have e0:=QO [107,101,101,112] q rfl
 have e1:=QO [100,105,115,99,97,114,100] q rfl
 have e2:=QO [115,116,111,112] q rfl
 have e3:=QO [102,105,108,101,105,110,116,111] q rfl
 have e4:=QO [114,101,100,105,114,101,99,116] q rfl
 have e5:=QO [114,101,106,101,99,116] q rfl
 have e6:=Jl [115,101,116] q rfl
 obtain⟨g,P⟩:=QF ((w.alloc (.cells #[.string (sA a),.slice none 0 0,.int .i64 0,.slice none 0 0,.slice none 0 0,.int .i64 (O l st).2.2.2] 155)).drew);have aX:=I P;have E:Hid (Mod tb w g):=by show Mod _ _ _;rw[P];exact((Mod.refl _ _).alloc _).drew
 have T:Hid (CNode g w.heap.size a (.slice none 0 0) 0 (.slice none 0 0) (.slice none 0 0) (O l st).2.2.2):=by show g.heap[w.heap.size]?=_;rw[P];exact QC _ _
 have ay:Hid (TSt g tb l st):=by show TSt _ _ _ _;rw[P];exact(h.below (Qp (.cells #[.string (sA a),.slice none 0 0,.int .i64 0,.slice none 0 0,.slice none 0 0,.int .i64 (O l st).2.2.2] 155))).block rfl
 clear h hr P s aC;have aW:=I D;clear D q;go_enter func115,ntmps115;go_wp2_with fail;go_region;rw[<-aX.o];have d0:=Qk (w:=g) (c.o.r.mod E.o c.o.n);have n0:=Qk T.o;have n5:=Q9 T.o;go_wp2_with fail;refine(GQ rb tb nv rq l Xc st g (c.o.mod E.o).r (c.o.mod E.o).txl c.o.z ay.o p).mono ?_;rintro e w0 ⟨rfl,ai,aE⟩;have ac:=I (E.o.trans ai);have av:=I (QA T.o ai i);have az:=I aE;have q0:w0.cell? ⟨rb,0,none⟩=some (.pointer (some ⟨tb,0,none⟩)):=Qi (c.o.mod ac.o).r 0;clear ai aE;go_wp2_with fail;refine(Z2 tb l _ _ az.o p).mono ?_;rintro e w1 ⟨rfl,C,S⟩;have ad:=I (ac.o.trans C);have J:=I (QA av.o C i);have L:=I S;clear C S;obtain⟨b,aD⟩:=Qe (nextS l (Xx l rq Xc st));rw[aD]at L HX;clear aD E T ay ac av az;have qr:w1.cell? ⟨rb,0,none⟩=some (.pointer (some ⟨tb,0,none⟩)):=Qi (c.o.mod ad.o).r 0;obtain⟨q2,q4,q5,q6,q7⟩:=L.o.cells;have f5:=fun o=>Qu J.o o
 have t2:=QJ J.o;have a5:w.heap.size<w1.heap.size:=Qg J.o;obtain⟨v,u⟩:=QF (if(O l b).1=58 then wL [KA,Ky,Kq] (O l b).2.1 else 0)
 obtain⟨ar,t⟩:=QF (if(O l b).1=58 then nextS l (if v=0 then failS b ⟨4,(O l b).2.2.2⟩else b)else b)
 have ax:=I (TR (F:=F) (pos:=(O l st).2.2.2) (tst:=Qy l rq F n) (sub:=QG l rq F n) L.o u t);have V:=I (fun W=>PQ (O l b).2.1 W);go_upto_if 106 with fail
 go_cut [] (fun wx=>Mod tb w wx/\CNode wx w.heap.size a (.slice none 0 0) v (.slice none 0 0) (.slice none 0 0) (O l st).2.2.2/\TSt wx tb l ar)
 case first=>
  by_cases s:(O l b).1=58;rotate_left
  ·have aZ:(((O l b).1:Int)==58)=false:=by simp;omega
   rw[if_neg s]at u t;subst u t;clear s;go_wp2;go_meet;exact⟨ad.o,J.o,L.o⟩
  ·have aZ:(((O l b).1:Int)==58)=true:=by simp;omega
   rw[if_pos s]at u t;rw[<-u]at V;have U:=I t;clear s u t;obtain⟨d,Q⟩:=QF (w1.setCell ⟨w.heap.size,2,none⟩ (.int .i64 v));have aA:=I Q;have x:Hid (Mod tb w d):=by show Mod _ _ _;rw[Q];exact ad.o.setNew Ql _ _
   have B:Hid (CNode d w.heap.size a (.slice none 0 0) v (.slice none 0 0) (.slice none 0 0) (O l st).2.2.2):=by show d.heap[w.heap.size]?=_;rw[Q];exact Qt _ _ _ _ _ _ J.o
   have M:Hid (TSt d tb l b):=by show TSt _ _ _ _;rw[Q];exact L.o.block (QK (Ne.symm i))
   clear Q;by_cases h0:v=0
   ·have aY:((v:Int)==0)=true:=by simp;omega
    rw[if_pos h0]at U;have HF:=I (Yu tb l b ⟨4,(O l b).2.2.2⟩ d.drew (M.o.block rfl) p (Nat.succ_ne_zero 3));have g0:d.cell? ⟨rb,0,none⟩=some (.pointer (some ⟨tb,0,none⟩)):=Qi (c.o.mod x.o).r 0;have g2:=QJ B.o;obtain⟨y2,y4,y5,y6,y7⟩:=M.o.cells;clear h0;go_wp2_with fail;refine(V.o _).mono ?_;rintro e wt ⟨rfl,rfl⟩;go_wp2_with (rw[<-aA.o]);go_wp2_with fail;go_region_with (first|(go_at_call 70;refine HF.o.mono ?_;rintro e w2 h1;obtain⟨rfl,C,S⟩:=h1;have G:=I C;have ae:=I S;clear C S;skip))
    all_goals
     have au:=I (x.o.trans (Y8 G.o));have aL:=I (QA B.o (Y8 G.o) i);have k0:w2.cell? ⟨rb,0,none⟩=some (.pointer (some ⟨tb,0,none⟩)):=Qi (c.o.mod au.o).r 0;go_wp2_with fail;refine(Z2 tb l _ _ (ae.o.block rfl) p).mono ?_;rintro e f ⟨rfl,k,m⟩;have A:=I (au.o.trans k);have K:=I (QA aL.o k i);have N:=I m;clear k m;go_wp2;go_meet;exact⟨A.o,K.o,by rw[U.o];exact N.o⟩
   ·have aY:((v:Int)==0)=false:=by simp;omega
    rw[if_neg h0]at U;have g0:d.cell? ⟨rb,0,none⟩=some (.pointer (some ⟨tb,0,none⟩)):=Qi (c.o.mod x.o).r 0;have g2:=QJ B.o;clear h0;go_wp2_with fail;refine(V.o _).mono ?_;rintro e wt ⟨rfl,rfl⟩;go_wp2_with (rw[<-aA.o]);go_wp2_with fail;refine(Z2 tb l _ _ (M.o.block rfl) p).mono ?_;rintro e f ⟨rfl,k,m⟩;have A:=I (x.o.trans k);have K:=I (QA B.o k i);have N:=I m;clear k m;go_wp2;go_meet;exact⟨A.o,K.o,by rw[U.o];exact N.o⟩
 case rest=>
  obtain⟨hm,aB,ht⟩:=hcut;have HM:=I hm;have aN:=I aB;have aS:=I ht;clear hm aB ht u t q2 q4 q5 q6 q7 f5 t2 qr V;go_wp2_with fail;refine(UA rb tb nv l 4 _ _ (c.o.mod HM.o).r c.o.n aS.o p (by decide)).mono ?_;rintro e w2 Y;obtain⟨aj,aF,v2,rfl,⟨x2,rfl,a8⟩,aH⟩:=Y.st;have G:=I (HM.o.trans aj);have aK:=I (QA aN.o aj i);have ae:=I aF;have aT:=I aH;clear Y aj aF aH;go_wp2_with fail;refine(UA rb tb nv l 0 _ _ (c.o.mod G.o).r c.o.n ae.o p (by decide)).mono ?_;rintro e w3 h3;obtain⟨ak,aq,v3,rfl,⟨x3,rfl,a9⟩,aI⟩:=h3.st;have x:=I (G.o.trans ak);have B:=I (QA aK.o ak i);have M:=I aq;have aU:=I aI;have aw:=I (TX (α:=Zt n) (β:=Yn n) (pos:=(O l st).2.2.2) (v:=v) aq);clear h3 ak aq aI;go_wp2_with fail;refine(Yv x2 _ (by omega)).mono ?_;rintro e f ⟨rfl,Z⟩;have k:Mod tb w f:=x.o.trans (Mod.of_below Z);have R:=QP B.o Z;have m:=M.o.below Z;have a0:w.heap.size<f.heap.size:=Qg R;obtain⟨X,ag⟩:=QF ((f.setCell ⟨w.heap.size,1,none⟩ (.slice (some ⟨f.heap.size,0,none⟩) 2 2)).alloc (.cells #[.string (sA (zL x2)),.string (sA x3)] 9));have aV:=I ag;obtain⟨ao,ap,aa,ah⟩:=GZ k R 1 (.slice (some ⟨f.heap.size,0,none⟩) 2 2) (.cells #[.string (sA (zL x2)),.string (sA x3)] 9);rw[<-ag]at ao ap aa ah;have A:=I ao;have K:Hid (CNode X w.heap.size a (.slice (some ⟨f.heap.size,0,none⟩) 2 2) v (.slice none 0 0) (.slice none 0 0) (O l st).2.2.2):=ap;have N:=I (m.block (ah tb m.lt (Ne.symm i)))
  have aO:Hid (slX (fromB w.heap.size) [zL x2,x3] X (.slice (some ⟨f.heap.size,0,none⟩) 2 2)):=by
   refine⟨f.heap.size,2,rfl,Nat.le_of_lt a0,fun j hj=>?_,by simp⟩
   match j,hj with
   |0,_=>exact Qi aa 0
   |1,_=>exact Qi aa 1
  have a3:=fun o=>Qu R o
  have d2:=Qr R;have aQ:=I (YQ rb tb nv l 59 _ _ (c.o.mod A.o).r N.o p);clear Z k R m ao ap aa ah ag;go_wp2_with fail;rw[<-aV.o];refine aQ.o.mono ?_;rintro e w6 ⟨rfl,ab,aG⟩;have aJ:=I (A.o.trans ab);have aM:=I (QA K.o ab i);have aP:=I (aO.o.keep (ab.abvX (fun e=>by have e':w.heap.size<=tb:=e;omega)));have aR:=I aG;clear ab aG;go_wp2;go_ret;refine QY.mk aJ.o (by rw[((congrArg stOf HX.o).trans (congrArg stOf ax.o)).trans aw.o.1];exact aR.o) ⟨_,rfl⟩ (fun y hy=>?_);obtain⟨z1,z2,h1,Y,a1⟩:=aw.o.2 y ((HX.o.trans ax.o).symm.trans hy);have e1:=K3 (aT.o z1 h1);have e2:=K3 (aU.o z2 Y);subst e1 e2;rw[a1];exact V8 Ql aM.o aW.o.symm (Qc aP.o) (Qd ⟨rfl,rfl⟩) (Qd ⟨rfl,rfl⟩)
end Go.Proofs.YtgnkjijocdmniaaGreatDoor
