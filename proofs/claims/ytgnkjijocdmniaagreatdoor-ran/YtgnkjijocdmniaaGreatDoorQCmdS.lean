import Derived.Test.YtgnkjijocdmniaaGreatDoorZQCmdL
namespace Go.Proofs.YtgnkjijocdmniaaGreatDoor
set_option linter.all false
set_option maxRecDepth 100000
set_option maxHeartbeats 4000000
open Go.Proofs.Tryz
open Go.RowKit
attribute [local go_sem ↓] Zt Zu
variable{F tb:Nat}{l:L8}{rq:Qn}{st:Qq PS}{w:World}
theorem EN{α:Type}{mk:L8->α}(h:TSt w tb l (stOf (bindS st (sL l (QV 0))))):stOf (bindS st fun s=>QL (sL l (fun _=>0) s) fun x s1=>semi l s1 (mk x))=signS l 59 (stOf (bindS st (sL l (QV 0))))/\∀y,(bindS st fun s=>QL (sL l (fun _=>0) s) fun x s1=>semi l s1 (mk x))=.ok y->∃z,bindS st (sL l (QV 0))=.ok z/\y.1=mk z.1:=by
 rw[EU]at h ⊢
 cases st with
 |error g=>exact⟨by simp only[bindS,stOf];unfold signS;split<;>rfl,fun y e=>by cases e⟩
 |ok s=>
  simp only[bindS]at h ⊢
  cases hz:sL l (fun _=>0) s with
  |error g=>exact⟨by simp only[QL,stOf];unfold signS;split<;>rfl,fun y e=>by cases e⟩
  |ok z=>
   rw[hz]at h;have e:=M8 (a:=mk z.1) h;have b:bindS (stOf (Except.ok z)) (fun s=>semi l s (mk z.1))=semi l z.2 (mk z.1):=rfl;rw[b]at e;simp only[QL];rw[e];exact⟨Ce,fun y c=>⟨z,rfl,B_ c⟩⟩
theorem MQ(c:Nat){C:L8}{p:Nat}{D:Value}(n X:Nat)(Q:RdI w p tb D rq)(h:TSt w tb l st)(t:l.length<=600)(hF:2*l.length+2<=F)(hd:X+n=6)(hk:(Qk l st).1=119)(hw:(Qk l st).2.1=C)(Z:(C=ZN/\c=3)\/(C=ZM/\c=5)):Calls prog 115 #[Qc p,Qa X] w (Zq (bindS st (cmdL l rq F (n+1))) tb l w (RCmd (n+1) (fromB w.heap.size)) YW):=by
 have W:Hid (bindS st (cmdL l rq F (n+1))=bindS (nextS l (YC l rq C st)) fun s=>QL (sL l (fun _=>0) s) fun x s1=>semi l s1 (⟨c,(Qk l st).2.2.2,0,x,[],false⟩,[],[])):=by
  show _=_
  rcases Z with⟨rfl,rfl⟩ | ⟨rfl,rfl⟩
  all_goals
   rw[AT h hk (by rw[hw];decide),hw]
   first|(rw[show Gs l rq ZN st=YC l rq ZN st from Qi Qb];rfl)|(rw[show Gs l rq ZM st=YC l rq ZM st from Qi Qb];rfl)
 have r0:=Qj Q.r 0;obtain⟨c2,c4,c5,c6,c7⟩:=h.cells;have d:=O Q;have ay:=h.lt;have k:w.heap.size≠tb:=I
 have aw:=QB I;obtain⟨a,aa⟩:=Qw ((Qk l st).2.1);rw[aa]at c5 hw;rcases Z with⟨rfl,i⟩ | ⟨rfl,i⟩
 all_goals
  have ae:=O i;clear i;have b:=hw;have e0:=QG [107,101,101,112] b rfl
  have e1:=QG [100,105,115,99,97,114,100] b rfl
  have e2:=QG [115,116,111,112] b rfl
  first|(have e3:((sA a).toList==[102,105,108,101,105,110,116,111])=true:=(by rw[Z3,b];decide))|(have e3:((sA a).toList==[102,105,108,101,105,110,116,111])=false:=(by rw[Z3,b];decide))
  first|(have e5:((sA a).toList==[114,101,106,101,99,116])=true:=(by rw[Z3,b];decide))|(have e5:((sA a).toList==[114,101,106,101,99,116])=false:=(by rw[Z3,b];decide))
  have e4:=QG [114,101,100,105,114,101,99,116] b rfl
  obtain⟨f,g⟩:=Q3 ((w.alloc (Qe #[Qf a,Qp,Qa 0,Qp,Qp,Qa (Qk l st).2.2.2] 155)).drew);have aH:=O g;have E:Hid (Mod tb w f):=by show Mod _ _ _;rw[g];exact((Mod.refl _ _).alloc _).drew
  have V:Hid (CNode f w.heap.size a Qp 0 Qp Qp (Qk l st).2.2.2):=by show f.heap[w.heap.size]?=_;rw[g];exact Q0
  have aq:Hid (TSt f tb l st):=by show TSt _ _ _ _;rw[g];exact(h.below (QH (Qe #[Qf a,Qp,Qa 0,Qp,Qp,Qa (Qk l st).2.2.2] 155))).block rfl
  clear h Q g hk aa;have aB:=O hw;clear hw b;go_enter func115,ntmps115;go_wp2_with fail;go_region;rw[<-aH.o];have n0:=Qj V 0;go_wp2_with fail;refine Qv (BM a (d.o.mod E).r (d.o.mod E).txl d.z aq t) ?_;rintro w0 ⟨L,R⟩;rw[aB.o]at R;have T:=O (E.o.trans L);have ag:=O (QY V L k);have aC:=O R;have q0:=Qj (d.o.mod T).r 0;clear L R;go_wp2_with fail;refine Qv (X0 aC t) ?_;rintro w1 ⟨M,ab⟩;have U:=O (T.o.trans M);have ah:=O (QY ag M k);have aD:=O ab;clear M ab;go_wp2_with fail;refine(G0 0 (d.o.mod U).r d.n aD t QR).mono ?_;rintro e q Y;obtain⟨N,B,v,rfl,⟨x,rfl,az⟩,ad⟩:=Y.st;have aF:=O ad;have S:=O (EN (α:=Xa×List (Zn n×List (Q5 n))×List (Q5 n)) (mk:=fun x=>(⟨c,(Qk l st).2.2.2,0,x,[],false⟩,[],[])) B);have i:=ae.o;subst i;have m:=QY ah N k;have au:=QI m;obtain⟨G,H⟩:=Q3 ((q.setCell ⟨w.heap.size,1,none⟩ (Qs q.heap.size 1 1)).alloc (Qe #[Qf x] 9));have aG:=O H;obtain⟨u,P,K,J⟩:=BP (U.o.trans N) m 1 (Qs q.heap.size 1 1) (Qe #[Qf x] 9);rw[<-H]at u P K J;have aA:=O u;have ai:=O (P);have ar:=O (B.block (J tb B.lt (Ne.symm k)))
  have ak:Hid (slX (fromB w.heap.size) [x] G (Qs q.heap.size 1 1)):=by
   refine⟨q.heap.size,1,rfl,Xj au,fun j hj=>?_,Qh⟩;have h0:j=0:=by simpa using hj
   subst h0;exact Qj K 0
  have ax:=fun o=>QQ m o
  have d2:=Qj m 1;have ao:=O (KJ 59 (d.o.mod aA).r ar t);clear Y N B ad m u P K J H;go_wp2_with fail;rw[<-aG.o];refine ao.mono ?_;rintro e w4 ⟨rfl,A,ac⟩;have af:=O (aA.o.trans A);have aj:=O (QY ai A k);have ap:=O (ak.o.keep (A.abvX (fun e=>by have e':w.heap.size<=tb:=e;omega)));have aE:=O ac;clear A ac;go_wp2;go_ret;refine Zq.mk af (by rw[(ZI stOf W).trans S.1];exact aE) ⟨_,rfl⟩ (fun y hy=>?_);obtain⟨z,hz,av⟩:=S.2 y (W.symm.trans hy);have:=Gb (aF z hz);subst this;rw[av];exact AP QF aj aB.symm (Qr ap) (Qt ⟨rfl,rfl⟩) (Qt ⟨rfl,rfl⟩)
theorem Sd{t:Nat}{J:Value}(n Q:Nat)(b:RdI w t tb J rq)(h:TSt w tb l st)(D:l.length<=600)(hF:2*l.length+2<=F)(hd:Q+n=6)(S:(Qk l st).1=119)(hw:(Qk l st).2.1=Jt):Calls prog 115 #[Qc t,Qa Q] w (Zq (bindS st (cmdL l rq F (n+1))) tb l w (RCmd (n+1) (fromB w.heap.size)) YW):=by
 have P:Hid (bindS st (cmdL l rq F (n+1))=bindS (nextS l st) fun s=>QL (sL l (fun _=>0) s) fun x s1=>semi l s1 (⟨4,(Qk l st).2.2.2,0,x,[],false⟩,[],[])):=by
  show _=_
  rw[AT h S (by rw[hw];decide),hw];rw[DK Qb Qb];rfl
 have r0:=Qj b.r 0;obtain⟨c2,c4,c5,c6,c7⟩:=h.cells;have HR:=O b;have ak:=h.lt;have k:w.heap.size≠tb:=I
 have ai:=QB I;obtain⟨a,T⟩:=Qw ((Qk l st).2.1);rw[T]at c5 hw;have d:=hw;have e0:=QG [107,101,101,112] d rfl
 have e1:=QG [100,105,115,99,97,114,100] d rfl
 have e2:=QG [115,116,111,112] d rfl
 have e3:=QG [102,105,108,101,105,110,116,111] d rfl
 have e4:=XK [114,101,100,105,114,101,99,116] d rfl
 obtain⟨c,f⟩:=Q3 ((w.alloc (Qe #[Qf a,Qp,Qa 0,Qp,Qp,Qa (Qk l st).2.2.2] 155)).drew);have ax:=O f;have L:Hid (Mod tb w c):=by show Mod _ _ _;rw[f];exact((Mod.refl _ _).alloc _).drew
 have N:Hid (CNode c w.heap.size a Qp 0 Qp Qp (Qk l st).2.2.2):=by show c.heap[w.heap.size]?=_;rw[f];exact Q0
 have ae:Hid (TSt c tb l st):=by show TSt _ _ _ _;rw[f];exact(h.below (QH (Qe #[Qf a,Qp,Qa 0,Qp,Qp,Qa (Qk l st).2.2.2] 155))).block rfl
 clear h b f S T;have aw:=O hw;clear hw d;go_enter func115,ntmps115;go_wp2_with fail;go_region;rw[<-ax.o];have d0:=Qj (HR.r.mod L HR.n) 0;have n0:=Qj N 0;go_wp2_with fail;refine Qv (X0 ae D) ?_;rintro w1 ⟨E,U⟩;have M:=O (L.o.trans E);have Y:=O (QY N E k);have aq:=O U;clear E U;go_wp2_with fail;refine(G0 0 (HR.o.mod M).r HR.n aq D QR).mono ?_;rintro e i R;obtain⟨G,q,v,rfl,⟨x,rfl,ao⟩,W⟩:=R.st;have au:=O W;have K:=O (EN (α:=Xa×List (Zn n×List (Q5 n))×List (Q5 n)) (mk:=fun x=>(⟨4,(Qk l st).2.2.2,0,x,[],false⟩,[],[])) q);have g:=QY Y G k;have ag:=QI g;obtain⟨u,A⟩:=Q3 ((i.setCell ⟨w.heap.size,1,none⟩ (Qs i.heap.size 1 1)).alloc (Qe #[Qf x] 9));have av:=O A;obtain⟨m,H,C,B⟩:=BP (M.o.trans G) g 1 (Qs i.heap.size 1 1) (Qe #[Qf x] 9);rw[<-A]at m H C B;have ap:=O m;have Z:=O (H);have af:=O (q.block (B tb q.lt (Ne.symm k)))
 have ab:Hid (slX (fromB w.heap.size) [x] u (Qs i.heap.size 1 1)):=by
  refine⟨i.heap.size,1,rfl,Xj ag,fun j hj=>?_,Qh⟩;have h0:j=0:=by simpa using hj
  subst h0;exact Qj C 0
 have aj:=fun o=>QQ g o
 have d2:=Qj g 1;have ac:=O (KJ 59 (HR.o.mod ap).r af D);clear R G q W g m H C B A;go_wp2_with fail;rw[<-av.o];refine ac.mono ?_;rintro e w4 ⟨rfl,p,V⟩;have X:=O (ap.o.trans p);have aa:=O (QY Z p k);have ad:=O (ab.o.keep (p.abvX (fun e=>by have e':w.heap.size<=tb:=e;omega)));have ar:=O V;clear p V;go_wp2;go_ret;refine Zq.mk X (by rw[(ZI stOf P).trans K.1];exact ar) ⟨_,rfl⟩ (fun y hy=>?_);obtain⟨z,hz,ah⟩:=K.2 y (P.symm.trans hy);have:=Gb (au z hz);subst this;rw[ah];exact AP QF aa aw.symm (Qr ad) (Qt ⟨rfl,rfl⟩) (Qt ⟨rfl,rfl⟩)
end Go.Proofs.YtgnkjijocdmniaaGreatDoor
