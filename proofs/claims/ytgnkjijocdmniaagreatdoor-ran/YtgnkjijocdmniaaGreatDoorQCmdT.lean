import Derived.Test.YtgnkjijocdmniaaGreatDoorQCmdS
import Derived.Test.YtgnkjijocdmniaaGreatDoorQTestS
namespace Go.Proofs.YtgnkjijocdmniaaGreatDoor
set_option linter.all false
set_option maxRecDepth 100000
set_option maxHeartbeats 4000000
open Go.Proofs.Tryz
open Go.RowKit
attribute [local go_sem ↓] Zt Zu
variable{α β:Type}{F pos tb v:Nat}{l:L8}{st:Qq PS}{w:World}
theorem PM:QV 4=fun x=>if isNameL x then 0 else 7:=rfl
theorem P3{tst:PS->Qq (β×PS)}{sub:PS->Qq (α×PS)}{c:Qq PS}(h:TSt w tb l st)(b:v=if(Qk l st).1=58 then wL [VJ,VN,VI] (Qk l st).2.1 else 0)(a:c=if(Qk l st).1=58 then nextS l (if v=0 then failS st ⟨4,(Qk l st).2.2.2⟩else st)else st) :
 bindS st (cBd l F tst sub 6 pos)=bindS c fun s1=>QL (sL l (QV 4) s1) fun vn s2=>QL (sL l (fun _=>0) s2) fun x s3=>semi l s3 (⟨6,pos,v,x,zL vn,false⟩,[],[]):=by
 rw[PM]
 cases st with
 |error f=>
  rw[Qg (by show ¬(0:Nat)=58;decide)]at a;subst a;rfl
 |ok s=>
  have i:wL [Yn,Ym,Yj] s.1.spelt=v:=by
   rw[b];by_cases hk:s.1.kind=2
   .have:(Qk l (.ok s)).1=58:=(Gj h.wd).2 hk;rw[Qi this,DP h.wd hk,Fa,Az];rfl
   .have:¬(Qk l (.ok s)).1=58:=fun e=>hk ((Gj h.wd).1 e)
    rw[Qg this,Fa,Bj h.wd hk neT]
  simp only[bindS,cBd];by_cases hk:s.1.kind=2
  .have d:(Qk l (.ok s)).1=58:=(Gj h.wd).2 hk;rw[Qi d]at a;by_cases h0:v=0
   .rw[Qi h0]at a;have g:c=.error ⟨4,s.1.pos⟩:=a;subst g;unfold mayL;rw[i,Qi h0];simp only[QL];unfold sL;rw[Q8]
   .rw[Qg h0]at a;have g:c=nL l s.2:=a;subst g;unfold mayL;rw[i,Qg h0];cases nL l s.2<;>rfl
  .have d:¬(Qk l (.ok s)).1=58:=fun e=>hk ((Gj h.wd).1 e)
   rw[Qg d]at a b;subst a
   have j:mayL l [Yn,Ym,Yj] s=.ok (0,s):=by
    unfold mayL;rw[i,Qi b]
   rw[j,b];rfl
theorem O1{a:Qq PS}(h:TSt w tb l (stOf (bindS (stOf (bindS a (sL l (QV 4)))) (sL l (QV 0))))) :
 stOf (bindS a fun s1=>QL (sL l (QV 4) s1) fun vn s2=>QL (sL l (fun _=>0) s2) fun x s3=>semi l s3 ((⟨6,pos,v,x,zL vn,false⟩:Xa),([]:List (β×List α)),([]:List α)))=signS l 59 (stOf (bindS (stOf (bindS a (sL l (QV 4)))) (sL l (QV 0))))/\∀y,(bindS a fun s1=>QL (sL l (QV 4) s1) fun vn s2=>QL (sL l (fun _=>0) s2) fun x s3=>semi l s3 ((⟨6,pos,v,x,zL vn,false⟩:Xa),([]:List (β×List α)),([]:List α)))=.ok y->∃z1 z2,bindS a (sL l (QV 4))=.ok z1/\bindS (stOf (bindS a (sL l (QV 4)))) (sL l (QV 0))=.ok z2/\y.1=(⟨6,pos,v,z2.1,zL z1.1,false⟩,[],[]):=by
 cases a with
 |error g=>exact⟨by simp only[bindS,stOf];unfold signS;split<;>rfl,fun y e=>by cases e⟩
 |ok s=>
  simp only[bindS]at h ⊢
  cases hz:sL l (QV 4) s with
  |error g=>exact⟨by simp only[QL,stOf];unfold signS;split<;>rfl,fun y e=>by cases e⟩
  |ok z=>
   rw[hz]at h;obtain⟨b,c⟩:=EN (st:=.ok z.2) (mk:=fun x=>((⟨6,pos,v,x,zL z.1,false⟩:Xa),([]:List (β×List α)),([]:List α))) h;refine⟨b,fun y i=>?_⟩;obtain⟨z2,d,f⟩:=c y i;exact⟨z,z2,rfl,d,f⟩
theorem Qy4{C:Nat}{M:Value}{rq:Qn}(n aw:Nat)(a:RdI w C tb M rq)(h:TSt w tb l st)(k:l.length<=600)(hF:2*l.length+2<=F)(hd:aw+n=6)(s:(Qk l st).1=119)(hw:(Qk l st).2.1=Xw):Calls prog 115 #[Qc C,Qa aw] w (Zq (bindS st (cmdL l rq F (n+1))) tb l w (RCmd (n+1) (fromB w.heap.size)) YW):=by
 have HX:Hid (bindS st (cmdL l rq F (n+1))=bindS (nextS l (YC l rq Z8 st)) (cBd l F (QP l rq F n) (cmdL l rq F n) 6 (Qk l st).2.2.2)):=by
  show _=_
  rw[AT h s (by rw[hw];decide),hw];rw[show Gs l rq Xw st=YC l rq Z8 st from(Qg Qb).trans (Qi rfl)];rfl
 have r0:=Qj a.r 0;obtain⟨c2,c4,c5,c6,c7⟩:=h.cells;have HR:=O a;have aU:=h.lt;have d:w.heap.size≠tb:=I
 have aR:=QB I;obtain⟨c,ay⟩:=Qw ((Qk l st).2.1);rw[ay]at c5 hw;have m:=hw;have e0:=QG [107,101,101,112] m rfl
 have e1:=QG [100,105,115,99,97,114,100] m rfl
 have e2:=QG [115,116,111,112] m rfl
 have e3:=QG [102,105,108,101,105,110,116,111] m rfl
 have e4:=QG [114,101,100,105,114,101,99,116] m rfl
 have e5:=QG [114,101,106,101,99,116] m rfl
 have e6:=XK [115,101,116] m rfl
 obtain⟨p,H⟩:=Q3 ((w.alloc (Qe #[Qf c,Qp,Qa 0,Qp,Qp,Qa (Qk l st).2.2.2] 155)).drew);have a7:=O H;have N:Hid (Mod tb w p):=by show Mod _ _ _;rw[H];exact((Mod.refl _ _).alloc _).drew
 have ac:Hid (CNode p w.heap.size c Qp 0 Qp Qp (Qk l st).2.2.2):=by show p.heap[w.heap.size]?=_;rw[H];exact Q0
 have av:Hid (TSt p tb l st):=by show TSt _ _ _ _;rw[H];exact(h.below (QH (Qe #[Qf c,Qp,Qa 0,Qp,Qp,Qa (Qk l st).2.2.2] 155))).block rfl
 clear h a H s ay;have a6:=O hw;clear hw m;go_enter func115,ntmps115;go_wp2_with fail;go_region;rw[<-a7.o];have n0:=Qj ac 0;go_wp2_with fail;refine Qv (BM Z8 (HR.o.mod N).r (HR.o.mod N).txl HR.z av k) ?_;rintro w0 ⟨ag,ak⟩;have Z:=O (N.o.trans ag);have aq:=O (QY ac ag d);have aY:=O ak;have q0:=Qj (HR.o.mod Z).r 0;clear ag ak;go_wp2_with fail;refine Qv (X0 aY k) ?_;rintro w1 ⟨J,L⟩;have aa:=O (Z.o.trans J);have D:=O (QY aq J d);have G:=O L;clear J L;obtain⟨b,az⟩:=Qw (nextS l (YC l rq Z8 st));rw[az]at G HX;clear az N ac av Z aq aY;have qr:=Qj (HR.o.mod aa).r 0;obtain⟨q2,q4,q5,q6,q7⟩:=G.o.cells;have f5:=fun o=>QQ D o
 have t2:=Qj D 2;have aT:=QI D;obtain⟨v,t⟩:=Q3 (if(Qk l b).1=58 then wL [VJ,VN,VI] (Qk l b).2.1 else 0)
 obtain⟨ao,g⟩:=Q3 (if(Qk l b).1=58 then nextS l (if v=0 then failS b ⟨4,(Qk l b).2.2.2⟩else b)else b)
 have au:=O (P3 (F:=F) (pos:=(Qk l st).2.2.2) (tst:=QP l rq F n) (sub:=cmdL l rq F n) G t g);have Q:=O (fun W=>Qwo (Qk l b).2.1 W);go_upto_if 106 with fail
 go_cut [] (fun wx=>Mod tb w wx/\CNode wx w.heap.size c Qp v Qp Qp (Qk l st).2.2.2/\TSt wx tb l ao)
 case first=>
  by_cases s:(Qk l b).1=58;rotate_left
  .have aO:(((Qk l b).1:Int)==58)=false:=by simp;omega
   rw[Qg s]at t g;subst t g;clear s;go_wp2;go_meet;exact⟨aa,D,G⟩
  .have aO:(((Qk l b).1:Int)==58)=true:=by simp;omega
   rw[Qi s]at t g;rw[<-t]at Q;have aX:=O g;clear s t g;obtain⟨q,B⟩:=Q3 (w1.setCell ⟨w.heap.size,2,none⟩ (Qa v));have aZ:=O B;have x:Hid (Mod tb w q):=by show Mod _ _ _;rw[B];exact aa.setNew QF _ _
   have A:Hid (CNode q w.heap.size c Qp v Qp Qp (Qk l st).2.2.2):=by show q.heap[w.heap.size]?=_;rw[B];exact QM D
   have ad:Hid (TSt q tb l b):=by show TSt _ _ _ _;rw[B];exact G.o.block (Q' (Ne.symm d))
   clear B;by_cases h0:v=0
   .have aN:((v:Int)==0)=true:=by simp;omega
    rw[Qi h0]at aX;have HF:=O (Ka ⟨4,(Qk l b).2.2.2⟩ (w:=q.drew) (ad.o.block rfl) k (Yh 3));have g0:=Qj (HR.o.mod x).r 0;have g2:=Qj A 2;obtain⟨y2,y4,y5,y6,y7⟩:=ad.o.cells;clear h0;go_wp2_with fail;refine Qu (Q _) ?_;go_wp2_with (rw[<-aZ.o]);go_wp2_with fail;go_region_with (first|(go_at_call 70;refine HF.mono ?_;rintro e w2 h1;obtain⟨rfl,J,L⟩:=h1;have P:=O J;have aL:=O L;clear J L;skip))
    all_goals
     have ap:=O (x.o.trans (Uc P));have aG:=O (QY A (Uc P) d);have k0:=Qj (HR.o.mod ap).r 0;go_wp2_with fail;refine Qv (X0 (aL.o.block rfl) k) ?_;rintro u ⟨f,i⟩;have ab:=O (ap.o.trans f);have E:=O (QY aG f d);have aM:=O i;clear f i;go_wp2;go_meet;exact⟨ab,E,by rw[aX.o];exact aM⟩
   .have aN:((v:Int)==0)=false:=by simp;omega
    rw[Qg h0]at aX;have g0:=Qj (HR.o.mod x).r 0;have g2:=Qj A 2;clear h0;go_wp2_with fail;refine Qu (Q _) ?_;go_wp2_with (rw[<-aZ.o]);go_wp2_with fail;refine Qv (X0 (ad.o.block rfl) k) ?_;rintro u ⟨f,i⟩;have ab:=O (x.o.trans f);have E:=O (QY A f d);have aM:=O i;clear f i;go_wp2;go_meet;exact⟨ab,E,by rw[aX.o];exact aM⟩
 case rest=>
  obtain⟨hm,ax,ht⟩:=hcut;have HM:=O hm;have a0:=O ax;have a2:=O ht;clear hm ax ht t g q2 q4 q5 q6 q7 f5 t2 qr Q;go_wp2_with fail;refine(G0 4 (HR.o.mod HM).r HR.n a2 k Qb).mono ?_;rintro e w2 R;obtain⟨ah,aA,v2,rfl,⟨Y,rfl,aV⟩,aC⟩:=R.st;have P:=O (HM.o.trans ah);have aF:=O (QY a0 ah d);have aL:=O aA;have a3:=O aC;clear R ah aA aC;go_wp2_with fail;refine(G0 0 (HR.o.mod P).r HR.n aL k Qb).mono ?_;rintro e w3 h3;obtain⟨ai,X,v3,rfl,⟨x3,rfl,aW⟩,aD⟩:=h3.st;have x:=O (P.o.trans ai);have A:=O (QY aF ai d);have ad:=O X;have a4:=O aD;have ar:=O (O1 (α:=Q5 n) (β:=Zn n) (pos:=(Qk l st).2.2.2) (v:=v) X);clear h3 ai X aD;go_wp2_with fail;refine Qv (J6 _ I) ?_;rintro u S;have f:=x.o.trans (Mod.of_below S);have K:=Ze A S;have i:=ad.o.below S;have aP:=QI K;obtain⟨W5,ae⟩:=Q3 ((u.setCell ⟨w.heap.size,1,none⟩ (Qs u.heap.size 2 2)).alloc (Qe #[Qf (zL Y),Qf x3] 9));have a5:=O ae;obtain⟨U,aj,T,af⟩:=BP f K 1 (Qs u.heap.size 2 2) (Qe #[Qf (zL Y),Qf x3] 9);rw[<-ae]at U aj T af;have ab:=O U;have E:=O (aj);have aM:=O (i.block (af tb i.lt (Ne.symm d)))
  have aI:Hid (slX (fromB w.heap.size) [zL Y,x3] W5 (Qs u.heap.size 2 2)):=by
   refine⟨u.heap.size,2,rfl,Xj aP,fun j hj=>?_,Qh⟩
   match j,hj with
   |0,_=>exact Qj T 0
   |1,_=>exact Qj T 1
  have aS:=fun o=>QQ K o
  have d2:=Qj K 1;have aK:=O (KJ 59 (HR.o.mod ab).r aM k);clear S f K i U aj T af ae;go_wp2_with fail;rw[<-a5.o];refine aK.mono ?_;rintro e w6 ⟨rfl,V,aB⟩;have aE:=O (ab.o.trans V);have aH:=O (QY E V d);have aJ:=O (aI.o.keep (V.abvX (fun e=>by have e':w.heap.size<=tb:=e;omega)));have a1:=O aB;clear V aB;go_wp2;go_ret;refine Zq.mk aE (by rw[((ZI stOf HX).trans (ZI stOf au)).trans ar.1];exact a1) ⟨_,rfl⟩ (fun y hy=>?_);obtain⟨z1,z2,h1,R,aQ⟩:=ar.2 y ((HX.o.trans au).symm.trans hy);have e1:=Gb (a3 z1 h1);have e2:=Gb (a4 z2 R);subst e1 e2;rw[aQ];exact AP QF aH a6.symm (Qr aJ) (Qt ⟨rfl,rfl⟩) (Qt ⟨rfl,rfl⟩)
end Go.Proofs.YtgnkjijocdmniaaGreatDoor
