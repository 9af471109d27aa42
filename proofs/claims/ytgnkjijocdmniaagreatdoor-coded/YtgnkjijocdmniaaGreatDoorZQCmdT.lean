import Derived.Test.YtgnkjijocdmniaaGreatDoorQTestS
namespace Go.Proofs.YtgnkjijocdmniaaGreatDoor
set_option linter.unusedVariables false
set_option linter.unusedSimpArgs false
set_option maxRecDepth 100000
set_option maxHeartbeats 4000000
open Go.Proofs.Tryz
variable{α β:Type}{l:L8}{pos tb v:Nat}{st:Qb PS}{w:World}
section
open Go.RowKit
attribute [local go_sem ↓] Go.wp_at_zero Go.wp_at_succ
theorem NI{mk:L8->α}(h:TSt w tb l (stOf (bindS st (sL l (Qx 0))))):stOf (bindS st fun s=>Qp (sL l (fun _=>0) s) fun x s1=>semi l s1 (mk x))=signS l 59 (stOf (bindS st (sL l (Qx 0))))/\∀ y,(bindS st fun s=>Qp (sL l (fun _=>0) s) fun x s1=>semi l s1 (mk x))=.ok y->∃ z,bindS st (sL l (Qx 0))=.ok z/\y.1=mk z.1:=by
 rw[A8]at h ⊢
 cases st with
 |error g=>exact⟨by simp only[bindS,stOf];unfold signS;split<;>rfl,fun y e=>by cases e⟩
 |ok s=>
  simp only[bindS]at h ⊢
  cases hz:sL l (fun _=>0) s with
  |error g=>exact⟨by simp only[Qp,stOf];unfold signS;split<;>rfl,fun y e=>by cases e⟩
  |ok z=>
   rw[hz]at h;have e:=NJ (a:=mk z.1) h;have b:bindS (stOf (Except.ok z)) (fun s=>semi l s (mk z.1))=semi l z.2 (mk z.1):=rfl;rw[b]at e;simp only[Qp];rw[e];exact⟨VL,fun y c=>⟨z,rfl,VM c⟩⟩
theorem M2(rb tb:Nat)(nv:Value)(rq:Qa)(l:L8)(F n C:Nat)(st:Qb PS)(w:World)(u:RdI w rb tb nv rq)(h:TSt w tb l st)(q:l.length<=600)(hF:2*l.length+2<=F)(hd:C+n=6)(X:(O l st).1=119)(hw:(O l st).2.1=Ze) :
 Calls prog 115 #[.pointer (some ⟨rb,0,none⟩),.int .i64 C] w (QS (bindS st (cmdL l rq F (n+1))) tb l w (RCmd (n+1) (fromB w.heap.size)) XA):=by
 have V:Hid (bindS st (cmdL l rq F (n+1))=bindS (nextS l (XH l rq Ze st)) fun s=>Qp (sL l (fun _=>0) s) fun x s1=>semi l s1 (⟨3,(O l st).2.2.2,0,x,[],false⟩,[],[])):=by
  show _=_
  rw[Uq h X (by rw[hw];decide),hw];rw[show Ur l rq Ze st=XH l rq Ze st from if_pos (by decide)];rfl
 have r0:=Qj u.r;obtain⟨c2,c4,c5,c6,c7⟩:=h.cells;have H:=I h;have c:=I u;have aD:=Qh u.r;have aE:=h.lt;have i:w.heap.size≠tb:=by omega
 have aC:w.heap.size≠rb:=by omega
 have aA:decide ((6:Int)<(C:Int))=false:=Qr (by omega);obtain⟨a,Y⟩:=Qf ((O l st).2.1);rw[Y]at c5 hw;have f:=hw;have e0:=Ql [107,101,101,112] f rfl
 have e1:=Ql [100,105,115,99,97,114,100] f rfl
 have e2:=Ql [115,116,111,112] f rfl
 have e3:=Zz [102,105,108,101,105,110,116,111] f rfl
 have e4:=Ql [114,101,100,105,114,101,99,116] f rfl
 have az:((sA a).toList != [114,101,100,105,114,101,99,116])=true:=by show(!((sA a).toList==[114,101,100,105,114,101,99,116]))=true;rw[Z7,f];decide
 obtain⟨b,g⟩:=QE ((w.alloc (.cells #[.string (sA a),.slice none 0 0,.int .i64 0,.slice none 0 0,.slice none 0 0,.int .i64 (O l st).2.2.2] 155)).drew);have aw:=I g;have m:Hid (Mod tb w b):=by show Mod _ _ _;rw[g];exact((Mod.refl _ _).alloc _).drew
 have B:Hid (CNode b w.heap.size a (.slice none 0 0) 0 (.slice none 0 0) (.slice none 0 0) (O l st).2.2.2):=by show b.heap[w.heap.size]?=_;rw[g];exact QA _ _
 have ak:Hid (TSt b tb l st):=by show TSt _ _ _ _;rw[g];exact(h.below (Qs (.cells #[.string (sA a),.slice none 0 0,.int .i64 0,.slice none 0 0,.slice none 0 0,.int .i64 (O l st).2.2.2] 155))).block rfl
 clear h u g X Y;have U:=I hw;clear hw f;go_enter func115,ntmps115;go_wp2_with fail;go_region;rw[<-aw.o];have d0:=Qj (w:=b) (c.o.r.mod m.o c.o.n);have n0:=Qj B.o;have n5:=QM B.o;go_wp2_with fail;refine(GA rb tb nv rq l a st b (c.o.mod m.o).r (c.o.mod m.o).txl c.o.z ak.o q).mono ?_;rintro e w0 ⟨rfl,J,P⟩;rw[U.o]at P;have R:=I (m.o.trans J);have ad:=I (Qu B.o J i);have ao:=I P;have q0:w0.cell? ⟨rb,0,none⟩=some (.pointer (some ⟨tb,0,none⟩)):=Qn (c.o.mod R.o).r 0;clear J P;go_wp2_with fail;refine(ZU tb l _ _ ao.o q).mono ?_;rintro e w1 ⟨rfl,K,Z⟩;have S:=I (R.o.trans K);have ae:=I (Qu ad.o K i);have ap:=I Z;clear K Z;go_wp2_with fail;refine(Up rb tb nv l 0 _ _ (c.o.mod S.o).r c.o.n ap.o q QC).mono ?_;rintro e d W;obtain⟨L,A,v,rfl,⟨x,rfl,aF⟩,ab⟩:=W.st;have au:=I ab;have Q:=I (NI (α:=Zx×List (QQ n×List (QF n))×List (QF n)) (mk:=fun x=>(⟨3,(O l st).2.2.2,0,x,[],false⟩,[],[])) A);have k:=Qu ae.o L i;have ax:w.heap.size<d.heap.size:=Qh k;obtain⟨p,D⟩:=QE ((d.setCell ⟨w.heap.size,1,none⟩ (.slice (some ⟨d.heap.size,0,none⟩) 1 1)).alloc (.cells #[.string (sA x)] 9));have av:=I D;obtain⟨M,N,G,E⟩:=GG (S.o.trans L) k 1 (.slice (some ⟨d.heap.size,0,none⟩) 1 1) (.cells #[.string (sA x)] 9);rw[<-D]at M N G E;have T:=I M;have af:Hid (CNode p w.heap.size a (.slice (some ⟨d.heap.size,0,none⟩) 1 1) 0 (.slice none 0 0) (.slice none 0 0) (O l st).2.2.2):=N;have aq:=I (A.block (E tb A.lt (Ne.symm i)))
 have ah:Hid (slX (fromB w.heap.size) [x] p (.slice (some ⟨d.heap.size,0,none⟩) 1 1)):=by
  refine⟨d.heap.size,1,rfl,Nat.le_of_lt ax,fun j hj=>?_,by simp⟩;have h0:j=0:=by simpa using hj
  subst h0;exact Qn G 0
 have aB:=fun o=>Qz k o
 have d2:=Qo k;have ai:=I (Yi rb tb nv l 59 _ _ (c.o.mod T.o).r aq.o q);clear W L A ab k M N G E D;go_wp2_with fail;rw[<-av.o];refine ai.o.mono ?_;rintro e w4 ⟨rfl,t,aa⟩;have ac:=I (T.o.trans t);have ag:=I (Qu af.o t i);have aj:=I (ah.o.keep (t.abvX (fun e=>by have e':w.heap.size<=tb:=e;omega)));have ar:=I aa;clear t aa;go_wp2;go_ret;refine QS.mk ac.o (by rw[(congrArg stOf V.o).trans Q.o.1];exact ar.o) ⟨_,rfl⟩ (fun y hy=>?_);obtain⟨z,hz,ay⟩:=Q.o.2 y (V.o.symm.trans hy);have:=KZ (au.o z hz);subst this;rw[ay];exact Us Qt ag.o U.o.symm (Qc aj.o) (Qd ⟨rfl,rfl⟩) (Qd ⟨rfl,rfl⟩)
theorem M3(rb tb:Nat)(nv:Value)(rq:Qa)(l:L8)(F n A:Nat)(st:Qb PS)(w:World)(q:RdI w rb tb nv rq)(h:TSt w tb l st)(E:l.length<=600)(hF:2*l.length+2<=F)(hd:A+n=6)(T:(O l st).1=119)(hw:(O l st).2.1=Yn) :
 Calls prog 115 #[.pointer (some ⟨rb,0,none⟩),.int .i64 A] w (QS (bindS st (cmdL l rq F (n+1))) tb l w (RCmd (n+1) (fromB w.heap.size)) XA):=by
 have R:Hid (bindS st (cmdL l rq F (n+1))=bindS (nextS l st) fun s=>Qp (sL l (fun _=>0) s) fun x s1=>semi l s1 (⟨4,(O l st).2.2.2,0,x,[],false⟩,[],[])):=by
  show _=_
  rw[Uq h T (by rw[hw];decide),hw];rw[GH (by decide) (by decide)];rfl
 have r0:=Qj q.r;obtain⟨c2,c4,c5,c6,c7⟩:=h.cells;have H:=I h;have f:=I q;have ay:=Qh q.r;have az:=h.lt;have m:w.heap.size≠tb:=by omega
 have ax:w.heap.size≠rb:=by omega
 have av:decide ((6:Int)<(A:Int))=false:=Qr (by omega);obtain⟨a,U⟩:=Qf ((O l st).2.1);rw[U]at c5 hw;have d:=hw;have e0:=Ql [107,101,101,112] d rfl
 have e1:=Ql [100,105,115,99,97,114,100] d rfl
 have e2:=Ql [115,116,111,112] d rfl
 have e3:=Ql [102,105,108,101,105,110,116,111] d rfl
 have e4:=Zz [114,101,100,105,114,101,99,116] d rfl
 have au:((sA a).toList != [114,101,100,105,114,101,99,116])=false:=by show(!((sA a).toList==[114,101,100,105,114,101,99,116]))=false;rw[Z7,d];decide
 obtain⟨b,g⟩:=QE ((w.alloc (.cells #[.string (sA a),.slice none 0 0,.int .i64 0,.slice none 0 0,.slice none 0 0,.int .i64 (O l st).2.2.2] 155)).drew);have ap:=I g;have N:Hid (Mod tb w b):=by show Mod _ _ _;rw[g];exact((Mod.refl _ _).alloc _).drew
 have u:Hid (CNode b w.heap.size a (.slice none 0 0) 0 (.slice none 0 0) (.slice none 0 0) (O l st).2.2.2):=by show b.heap[w.heap.size]?=_;rw[g];exact QA _ _
 have af:Hid (TSt b tb l st):=by show TSt _ _ _ _;rw[g];exact(h.below (Qs (.cells #[.string (sA a),.slice none 0 0,.int .i64 0,.slice none 0 0,.slice none 0 0,.int .i64 (O l st).2.2.2] 155))).block rfl
 clear h q g T U;have ao:=I hw;clear hw d;go_enter func115,ntmps115;go_wp2_with fail;go_region;rw[<-ap.o];have d0:=Qj (w:=b) (f.o.r.mod N.o f.o.n);have n0:=Qj u.o;have n5:=QM u.o;go_wp2_with fail;refine(ZU tb l st b af.o E).mono ?_;rintro e w1 ⟨rfl,G,V⟩;have P:=I (N.o.trans G);have Z:=I (Qu u.o G m);have ag:=I V;clear G V;go_wp2_with fail;refine(Up rb tb nv l 0 _ _ (f.o.mod P.o).r f.o.n ag.o E QC).mono ?_;rintro e c S;obtain⟨J,t,v,rfl,⟨x,rfl,aA⟩,X⟩:=S.st;have aj:=I X;have M:=I (NI (α:=Zx×List (QQ n×List (QF n))×List (QF n)) (mk:=fun x=>(⟨4,(O l st).2.2.2,0,x,[],false⟩,[],[])) t);have i:=Qu Z.o J m;have aq:w.heap.size<c.heap.size:=Qh i;obtain⟨k,B⟩:=QE ((c.setCell ⟨w.heap.size,1,none⟩ (.slice (some ⟨c.heap.size,0,none⟩) 1 1)).alloc (.cells #[.string (sA x)] 9));have ak:=I B;obtain⟨K,L,D,C⟩:=GG (P.o.trans J) i 1 (.slice (some ⟨c.heap.size,0,none⟩) 1 1) (.cells #[.string (sA x)] 9);rw[<-B]at K L D C;have Q:=I K;have aa:Hid (CNode k w.heap.size a (.slice (some ⟨c.heap.size,0,none⟩) 1 1) 0 (.slice none 0 0) (.slice none 0 0) (O l st).2.2.2):=L;have ah:=I (t.block (C tb t.lt (Ne.symm m)))
 have ac:Hid (slX (fromB w.heap.size) [x] k (.slice (some ⟨c.heap.size,0,none⟩) 1 1)):=by
  refine⟨c.heap.size,1,rfl,Nat.le_of_lt aq,fun j hj=>?_,by simp⟩;have h0:j=0:=by simpa using hj
  subst h0;exact Qn D 0
 have aw:=fun o=>Qz i o
 have d2:=Qo i;have ad:=I (Yi rb tb nv l 59 _ _ (f.o.mod Q.o).r ah.o E);clear S J t X i K L D C B;go_wp2_with fail;rw[<-ak.o];refine ad.o.mono ?_;rintro e w4 ⟨rfl,p,W⟩;have Y:=I (Q.o.trans p);have ab:=I (Qu aa.o p m);have ae:=I (ac.o.keep (p.abvX (fun e=>by have e':w.heap.size<=tb:=e;omega)));have ai:=I W;clear p W;go_wp2;go_ret;refine QS.mk Y.o (by rw[(congrArg stOf R.o).trans M.o.1];exact ai.o) ⟨_,rfl⟩ (fun y hy=>?_);obtain⟨z,hz,ar⟩:=M.o.2 y (R.o.symm.trans hy);have:=KZ (aj.o z hz);subst this;rw[ar];exact Us Qt ab.o ao.o.symm (Qc ae.o) (Qd ⟨rfl,rfl⟩) (Qd ⟨rfl,rfl⟩)
theorem M4(rb tb:Nat)(nv:Value)(rq:Qa)(l:L8)(F n C:Nat)(st:Qb PS)(w:World)(u:RdI w rb tb nv rq)(h:TSt w tb l st)(q:l.length<=600)(hF:2*l.length+2<=F)(hd:C+n=6)(X:(O l st).1=119)(hw:(O l st).2.1=Zf) :
 Calls prog 115 #[.pointer (some ⟨rb,0,none⟩),.int .i64 C] w (QS (bindS st (cmdL l rq F (n+1))) tb l w (RCmd (n+1) (fromB w.heap.size)) XA):=by
 have V:Hid (bindS st (cmdL l rq F (n+1))=bindS (nextS l (XH l rq Zf st)) fun s=>Qp (sL l (fun _=>0) s) fun x s1=>semi l s1 (⟨5,(O l st).2.2.2,0,x,[],false⟩,[],[])):=by
  show _=_
  rw[Uq h X (by rw[hw];decide),hw];rw[show Ur l rq Zf st=XH l rq Zf st from if_pos (by decide)];rfl
 have r0:=Qj u.r;obtain⟨c2,c4,c5,c6,c7⟩:=h.cells;have H:=I h;have c:=I u;have aD:=Qh u.r;have aE:=h.lt;have i:w.heap.size≠tb:=by omega
 have aC:w.heap.size≠rb:=by omega
 have aA:decide ((6:Int)<(C:Int))=false:=Qr (by omega);obtain⟨a,Y⟩:=Qf ((O l st).2.1);rw[Y]at c5 hw;have d:=hw;have e0:=Ql [107,101,101,112] d rfl
 have e1:=Ql [100,105,115,99,97,114,100] d rfl
 have e2:=Ql [115,116,111,112] d rfl
 have e3:=Ql [102,105,108,101,105,110,116,111] d rfl
 have e4:=Ql [114,101,100,105,114,101,99,116] d rfl
 have e5:=Zz [114,101,106,101,99,116] d rfl
 have az:((sA a).toList != [114,101,100,105,114,101,99,116])=true:=by show(!((sA a).toList==[114,101,100,105,114,101,99,116]))=true;rw[Z7,d];decide
 obtain⟨b,g⟩:=QE ((w.alloc (.cells #[.string (sA a),.slice none 0 0,.int .i64 0,.slice none 0 0,.slice none 0 0,.int .i64 (O l st).2.2.2] 155)).drew);have aw:=I g;have m:Hid (Mod tb w b):=by show Mod _ _ _;rw[g];exact((Mod.refl _ _).alloc _).drew
 have B:Hid (CNode b w.heap.size a (.slice none 0 0) 0 (.slice none 0 0) (.slice none 0 0) (O l st).2.2.2):=by show b.heap[w.heap.size]?=_;rw[g];exact QA _ _
 have ak:Hid (TSt b tb l st):=by show TSt _ _ _ _;rw[g];exact(h.below (Qs (.cells #[.string (sA a),.slice none 0 0,.int .i64 0,.slice none 0 0,.slice none 0 0,.int .i64 (O l st).2.2.2] 155))).block rfl
 clear h u g X Y;have U:=I hw;clear hw d;go_enter func115,ntmps115;go_wp2_with fail;go_region;rw[<-aw.o];have d0:=Qj (w:=b) (c.o.r.mod m.o c.o.n);have n0:=Qj B.o;have n5:=QM B.o;go_wp2_with fail;refine(GA rb tb nv rq l a st b (c.o.mod m.o).r (c.o.mod m.o).txl c.o.z ak.o q).mono ?_;rintro e w0 ⟨rfl,J,P⟩;rw[U.o]at P;have R:=I (m.o.trans J);have ad:=I (Qu B.o J i);have ao:=I P;have q0:w0.cell? ⟨rb,0,none⟩=some (.pointer (some ⟨tb,0,none⟩)):=Qn (c.o.mod R.o).r 0;clear J P;go_wp2_with fail;refine(ZU tb l _ _ ao.o q).mono ?_;rintro e w1 ⟨rfl,K,Z⟩;have S:=I (R.o.trans K);have ae:=I (Qu ad.o K i);have ap:=I Z;clear K Z;go_wp2_with fail;refine(Up rb tb nv l 0 _ _ (c.o.mod S.o).r c.o.n ap.o q QC).mono ?_;rintro e f W;obtain⟨L,A,v,rfl,⟨x,rfl,aF⟩,ab⟩:=W.st;have au:=I ab;have Q:=I (NI (α:=Zx×List (QQ n×List (QF n))×List (QF n)) (mk:=fun x=>(⟨5,(O l st).2.2.2,0,x,[],false⟩,[],[])) A);have k:=Qu ae.o L i;have ax:w.heap.size<f.heap.size:=Qh k;obtain⟨p,D⟩:=QE ((f.setCell ⟨w.heap.size,1,none⟩ (.slice (some ⟨f.heap.size,0,none⟩) 1 1)).alloc (.cells #[.string (sA x)] 9));have av:=I D;obtain⟨M,N,G,E⟩:=GG (S.o.trans L) k 1 (.slice (some ⟨f.heap.size,0,none⟩) 1 1) (.cells #[.string (sA x)] 9);rw[<-D]at M N G E;have T:=I M;have af:Hid (CNode p w.heap.size a (.slice (some ⟨f.heap.size,0,none⟩) 1 1) 0 (.slice none 0 0) (.slice none 0 0) (O l st).2.2.2):=N;have aq:=I (A.block (E tb A.lt (Ne.symm i)))
 have ah:Hid (slX (fromB w.heap.size) [x] p (.slice (some ⟨f.heap.size,0,none⟩) 1 1)):=by
  refine⟨f.heap.size,1,rfl,Nat.le_of_lt ax,fun j hj=>?_,by simp⟩;have h0:j=0:=by simpa using hj
  subst h0;exact Qn G 0
 have aB:=fun o=>Qz k o
 have d2:=Qo k;have ai:=I (Yi rb tb nv l 59 _ _ (c.o.mod T.o).r aq.o q);clear W L A ab k M N G E D;go_wp2_with fail;rw[<-av.o];refine ai.o.mono ?_;rintro e w4 ⟨rfl,t,aa⟩;have ac:=I (T.o.trans t);have ag:=I (Qu af.o t i);have aj:=I (ah.o.keep (t.abvX (fun e=>by have e':w.heap.size<=tb:=e;omega)));have ar:=I aa;clear t aa;go_wp2;go_ret;refine QS.mk ac.o (by rw[(congrArg stOf V.o).trans Q.o.1];exact ar.o) ⟨_,rfl⟩ (fun y hy=>?_);obtain⟨z,hz,ay⟩:=Q.o.2 y (V.o.symm.trans hy);have:=KZ (au.o z hz);subst this;rw[ay];exact Us Qt ag.o U.o.symm (Qc aj.o) (Qd ⟨rfl,rfl⟩) (Qd ⟨rfl,rfl⟩)
theorem M5:Qx 4=fun x=>if isNameL x then 0 else 7:=rfl
theorem M6{F:Nat}{tst:PS->Qb (β×PS)}{sub:PS->Qb (α×PS)}{c:Qb PS}(h:TSt w tb l st)(b:v=if(O l st).1=58 then wL [K0,K1,K2] (O l st).2.1 else 0)(a:c=if(O l st).1=58 then nextS l (if v=0 then failS st ⟨4,(O l st).2.2.2⟩else st)else st) :
 bindS st (cBd l F tst sub 6 pos)=bindS c fun s1=>Qp (sL l (Qx 4) s1) fun vn s2=>Qp (sL l (fun _=>0) s2) fun x s3=>semi l s3 (⟨6,pos,v,x,zL vn,false⟩,[],[]):=by
 rw[M5]
 cases st with
 |error f=>
  rw[if_neg (by show ¬(0:Nat)=58;decide)]at a;subst a;rfl
 |ok s=>
  have i:wL [Xs,Xt,Xu] s.1.spelt=v:=by
   rw[b];by_cases hk:s.1.kind=2
   ·have:(O l (.ok s)).1=58:=(Ut h.wd).2 hk;rw[if_pos this,A9 h.wd hk,Dt,GI];rfl
   ·have:¬(O l (.ok s)).1=58:=fun e=>hk ((Ut h.wd).1 e)
    rw[if_neg this,Dt,NK h.wd hk _ neT]
  simp only[bindS,cBd];by_cases hk:s.1.kind=2
  ·have d:(O l (.ok s)).1=58:=(Ut h.wd).2 hk;rw[if_pos d]at a;by_cases h0:v=0
   ·rw[if_pos h0]at a;have g:c=.error ⟨4,s.1.pos⟩:=a;subst g;unfold mayL;rw[i,if_pos h0];simp only[Qp];unfold sL;rw[if_neg (by omega)]
   ·rw[if_neg h0]at a;have g:c=nL l s.2:=a;subst g;unfold mayL;rw[i,if_neg h0];cases nL l s.2<;>rfl
  ·have d:¬(O l (.ok s)).1=58:=fun e=>hk ((Ut h.wd).1 e)
   rw[if_neg d]at a b;subst a
   have j:mayL l [Xs,Xt,Xu] s=.ok (0,s):=by
    unfold mayL;rw[i,if_pos b]
   rw[j,b];rfl
theorem M7{a:Qb PS}(h:TSt w tb l (stOf (bindS (stOf (bindS a (sL l (Qx 4)))) (sL l (Qx 0))))) :
 stOf (bindS a fun s1=>Qp (sL l (Qx 4) s1) fun vn s2=>Qp (sL l (fun _=>0) s2) fun x s3=>semi l s3 ((⟨6,pos,v,x,zL vn,false⟩:Zx),([]:List (β×List α)),([]:List α)))=signS l 59 (stOf (bindS (stOf (bindS a (sL l (Qx 4)))) (sL l (Qx 0))))/\∀ y,(bindS a fun s1=>Qp (sL l (Qx 4) s1) fun vn s2=>Qp (sL l (fun _=>0) s2) fun x s3=>semi l s3 ((⟨6,pos,v,x,zL vn,false⟩:Zx),([]:List (β×List α)),([]:List α)))=.ok y->∃ z1 z2,bindS a (sL l (Qx 4))=.ok z1/\bindS (stOf (bindS a (sL l (Qx 4)))) (sL l (Qx 0))=.ok z2/\y.1=(⟨6,pos,v,z2.1,zL z1.1,false⟩,[],[]):=by
 cases a with
 |error g=>exact⟨by simp only[bindS,stOf];unfold signS;split<;>rfl,fun y e=>by cases e⟩
 |ok s=>
  simp only[bindS]at h ⊢
  cases hz:sL l (Qx 4) s with
  |error g=>exact⟨by simp only[Qp,stOf];unfold signS;split<;>rfl,fun y e=>by cases e⟩
  |ok z=>
   rw[hz]at h;obtain⟨b,c⟩:=NI (st:=.ok z.2) (mk:=fun x=>((⟨6,pos,v,x,zL z.1,false⟩:Zx),([]:List (β×List α)),([]:List α))) h;refine⟨b,fun y i=>?_⟩;obtain⟨z2,d,f⟩:=c y i;exact⟨z,z2,rfl,d,f⟩
theorem M8(rb tb:Nat)(nv:Value)(rq:Qa)(l:L8)(F n ae:Nat)(st:Qb PS)(w:World)(hr:RdI w rb tb nv rq)(h:TSt w tb l st)(p:l.length<=600)(hF:2*l.length+2<=F)(hd:ae+n=6)(s:(O l st).1=119)(hw:(O l st).2.1=ZW) :
 Calls prog 115 #[.pointer (some ⟨rb,0,none⟩),.int .i64 ae] w (QS (bindS st (cmdL l rq F (n+1))) tb l w (RCmd (n+1) (fromB w.heap.size)) XA):=by
 have HX:Hid (bindS st (cmdL l rq F (n+1))=bindS (nextS l (XH l rq ZJ st)) (cBd l F (Qq l rq F n) (cmdL l rq F n) 6 (O l st).2.2.2)):=by
  show _=_
  rw[Uq h s (by rw[hw];decide),hw];rw[show Ur l rq ZW st=XH l rq ZJ st from(if_neg (by decide)).trans (if_pos rfl)];rfl
 have r0:=Qj hr.r;obtain⟨c2,c4,c5,c6,c7⟩:=h.cells;have H:=I h;have c:=I hr;have a5:=Qh hr.r;have a6:=h.lt;have i:w.heap.size≠tb:=by omega
 have a3:w.heap.size≠rb:=by omega
 have a1:decide ((6:Int)<(ae:Int))=false:=Qr (by omega);obtain⟨a,aB⟩:=Qf ((O l st).2.1);rw[aB]at c5 hw;have q:=hw;have e0:=Ql [107,101,101,112] q rfl
 have e1:=Ql [100,105,115,99,97,114,100] q rfl
 have e2:=Ql [115,116,111,112] q rfl
 have e3:=Ql [102,105,108,101,105,110,116,111] q rfl
 have e4:=Ql [114,101,100,105,114,101,99,116] q rfl
 have e5:=Ql [114,101,106,101,99,116] q rfl
 have e6:=Zz [115,101,116] q rfl
 obtain⟨g,N⟩:=QE ((w.alloc (.cells #[.string (sA a),.slice none 0 0,.int .i64 0,.slice none 0 0,.slice none 0 0,.int .i64 (O l st).2.2.2] 155)).drew);have aW:=I N;have D:Hid (Mod tb w g):=by show Mod _ _ _;rw[N];exact((Mod.refl _ _).alloc _).drew
 have S:Hid (CNode g w.heap.size a (.slice none 0 0) 0 (.slice none 0 0) (.slice none 0 0) (O l st).2.2.2):=by show g.heap[w.heap.size]?=_;rw[N];exact QA _ _
 have ax:Hid (TSt g tb l st):=by show TSt _ _ _ _;rw[N];exact(h.below (Qs (.cells #[.string (sA a),.slice none 0 0,.int .i64 0,.slice none 0 0,.slice none 0 0,.int .i64 (O l st).2.2.2] 155))).block rfl
 clear h hr N s aB;have aV:=I hw;clear hw q;go_enter func115,ntmps115;go_wp2_with fail;go_region;rw[<-aW.o];have d0:=Qj (w:=g) (c.o.r.mod D.o c.o.n);have n0:=Qj S.o;have n5:=QM S.o;go_wp2_with fail;refine(GA rb tb nv rq l ZJ st g (c.o.mod D.o).r (c.o.mod D.o).txl c.o.z ax.o p).mono ?_;rintro e w0 ⟨rfl,ah,aD⟩;have ab:=I (D.o.trans ah);have au:=I (Qu S.o ah i);have ay:=I aD;have q0:w0.cell? ⟨rb,0,none⟩=some (.pointer (some ⟨tb,0,none⟩)):=Qn (c.o.mod ab.o).r 0;clear ah aD;go_wp2_with fail;refine(ZU tb l _ _ ay.o p).mono ?_;rintro e w1 ⟨rfl,C,R⟩;have ac:=I (ab.o.trans C);have G:=I (Qu au.o C i);have K:=I R;clear C R;obtain⟨b,aC⟩:=Qf (nextS l (XH l rq ZJ st));rw[aC]at K HX;clear aC D S ax ab au ay;have qr:w1.cell? ⟨rb,0,none⟩=some (.pointer (some ⟨tb,0,none⟩)):=Qn (c.o.mod ac.o).r 0;obtain⟨q2,q4,q5,q6,q7⟩:=K.o.cells;have f5:=fun o=>Qz G.o o
 have t2:=QG G.o;have a4:w.heap.size<w1.heap.size:=Qh G.o;obtain⟨v,u⟩:=QE (if(O l b).1=58 then wL [K0,K1,K2] (O l b).2.1 else 0)
 obtain⟨aq,t⟩:=QE (if(O l b).1=58 then nextS l (if v=0 then failS b ⟨4,(O l b).2.2.2⟩else b)else b)
 have aw:=I (M6 (F:=F) (pos:=(O l st).2.2.2) (tst:=Qq l rq F n) (sub:=cmdL l rq F n) K.o u t);have U:=I (fun W=>M9 (O l b).2.1 W);go_upto_if 106 with fail
 go_cut [] (fun wx=>Mod tb w wx/\CNode wx w.heap.size a (.slice none 0 0) v (.slice none 0 0) (.slice none 0 0) (O l st).2.2.2/\TSt wx tb l aq)
 case first=>
  by_cases s:(O l b).1=58;rotate_left
  ·have aY:(((O l b).1:Int)==58)=false:=by simp;omega
   rw[if_neg s]at u t;subst u t;clear s;go_wp2;go_meet;exact⟨ac.o,G.o,K.o⟩
  ·have aY:(((O l b).1:Int)==58)=true:=by simp;omega
   rw[if_pos s]at u t;rw[<-u]at U;have T:=I t;clear s u t;obtain⟨d,P⟩:=QE (w1.setCell ⟨w.heap.size,2,none⟩ (.int .i64 v));have az:=I P;have x:Hid (Mod tb w d):=by show Mod _ _ _;rw[P];exact ac.o.setNew Qt _ _
   have B:Hid (CNode d w.heap.size a (.slice none 0 0) v (.slice none 0 0) (.slice none 0 0) (O l st).2.2.2):=by show d.heap[w.heap.size]?=_;rw[P];exact Qv _ _ _ _ _ _ G.o
   have L:Hid (TSt d tb l b):=by show TSt _ _ _ _;rw[P];exact K.o.block (Below.heap_setCell _ _ _ _ (Ne.symm i))
   clear P;by_cases h0:v=0
   ·have aX:((v:Int)==0)=true:=by simp;omega
    rw[if_pos h0]at T;have HF:=I (Y3 tb l b ⟨4,(O l b).2.2.2⟩ d.drew (L.o.block rfl) p (Nat.succ_ne_zero 3));have g0:d.cell? ⟨rb,0,none⟩=some (.pointer (some ⟨tb,0,none⟩)):=Qn (c.o.mod x.o).r 0;have g2:=QG B.o;obtain⟨y2,y4,y5,y6,y7⟩:=L.o.cells;clear h0;go_wp2_with fail;refine(U.o _).mono ?_;rintro e wt ⟨rfl,rfl⟩;go_wp2_with (rw[<-az.o]);go_wp2_with fail;go_region_with (first|(go_at_call 70;refine HF.o.mono ?_;rintro e w2 h1;obtain⟨rfl,C,R⟩:=h1;have E:=I C;have ad:=I R;clear C R;skip))
    all_goals
     have ar:=I (x.o.trans (JS E.o));have aK:=I (Qu B.o (JS E.o) i);have k0:w2.cell? ⟨rb,0,none⟩=some (.pointer (some ⟨tb,0,none⟩)):=Qn (c.o.mod ar.o).r 0;go_wp2_with fail;refine(ZU tb l _ _ (ad.o.block rfl) p).mono ?_;rintro e f ⟨rfl,k,m⟩;have A:=I (ar.o.trans k);have J:=I (Qu aK.o k i);have M:=I m;clear k m;go_wp2;go_meet;exact⟨A.o,J.o,by rw[T.o];exact M.o⟩
   ·have aX:((v:Int)==0)=false:=by simp;omega
    rw[if_neg h0]at T;have g0:d.cell? ⟨rb,0,none⟩=some (.pointer (some ⟨tb,0,none⟩)):=Qn (c.o.mod x.o).r 0;have g2:=QG B.o;clear h0;go_wp2_with fail;refine(U.o _).mono ?_;rintro e wt ⟨rfl,rfl⟩;go_wp2_with (rw[<-az.o]);go_wp2_with fail;refine(ZU tb l _ _ (L.o.block rfl) p).mono ?_;rintro e f ⟨rfl,k,m⟩;have A:=I (x.o.trans k);have J:=I (Qu B.o k i);have M:=I m;clear k m;go_wp2;go_meet;exact⟨A.o,J.o,by rw[T.o];exact M.o⟩
 case rest=>
  obtain⟨hm,aA,ht⟩:=hcut;have HM:=I hm;have aM:=I aA;have aR:=I ht;clear hm aA ht u t q2 q4 q5 q6 q7 f5 t2 qr U;go_wp2_with fail;refine(Up rb tb nv l 4 _ _ (c.o.mod HM.o).r c.o.n aR.o p (by decide)).mono ?_;rintro e w2 X;obtain⟨ai,aE,v2,rfl,⟨x2,rfl,a7⟩,aG⟩:=X.st;have E:=I (HM.o.trans ai);have aJ:=I (Qu aM.o ai i);have ad:=I aE;have aS:=I aG;clear X ai aE aG;go_wp2_with fail;refine(Up rb tb nv l 0 _ _ (c.o.mod E.o).r c.o.n ad.o p (by decide)).mono ?_;rintro e w3 h3;obtain⟨aj,ap,v3,rfl,⟨x3,rfl,a8⟩,aH⟩:=h3.st;have x:=I (E.o.trans aj);have B:=I (Qu aJ.o aj i);have L:=I ap;have aT:=I aH;have av:=I (M7 (α:=QF n) (β:=QQ n) (pos:=(O l st).2.2.2) (v:=v) ap);clear h3 aj ap aH;go_wp2_with fail;refine(Y6 x2 _ (by omega)).mono ?_;rintro e f ⟨rfl,Y⟩;have k:Mod tb w f:=x.o.trans (Mod.of_below Y);have Q:=Zk B.o Y;have m:=L.o.below Y;have aZ:w.heap.size<f.heap.size:=Qh Q;obtain⟨V,af⟩:=QE ((f.setCell ⟨w.heap.size,1,none⟩ (.slice (some ⟨f.heap.size,0,none⟩) 2 2)).alloc (.cells #[.string (sA (zL x2)),.string (sA x3)] 9));have aU:=I af;obtain⟨ak,ao,Z,ag⟩:=GG k Q 1 (.slice (some ⟨f.heap.size,0,none⟩) 2 2) (.cells #[.string (sA (zL x2)),.string (sA x3)] 9);rw[<-af]at ak ao Z ag;have A:=I ak;have J:Hid (CNode V w.heap.size a (.slice (some ⟨f.heap.size,0,none⟩) 2 2) v (.slice none 0 0) (.slice none 0 0) (O l st).2.2.2):=ao;have M:=I (m.block (ag tb m.lt (Ne.symm i)))
  have aN:Hid (slX (fromB w.heap.size) [zL x2,x3] V (.slice (some ⟨f.heap.size,0,none⟩) 2 2)):=by
   refine⟨f.heap.size,2,rfl,Nat.le_of_lt aZ,fun j hj=>?_,by simp⟩
   match j,hj with
   |0,_=>exact Qn Z 0
   |1,_=>exact Qn Z 1
  have a2:=fun o=>Qz Q o
  have d2:=Qo Q;have aP:=I (Yi rb tb nv l 59 _ _ (c.o.mod A.o).r M.o p);clear Y k Q m ak ao Z ag af;go_wp2_with fail;rw[<-aU.o];refine aP.o.mono ?_;rintro e w6 ⟨rfl,aa,aF⟩;have aI:=I (A.o.trans aa);have aL:=I (Qu J.o aa i);have aO:=I (aN.o.keep (aa.abvX (fun e=>by have e':w.heap.size<=tb:=e;omega)));have aQ:=I aF;clear aa aF;go_wp2;go_ret;refine QS.mk aI.o (by rw[((congrArg stOf HX.o).trans (congrArg stOf aw.o)).trans av.o.1];exact aQ.o) ⟨_,rfl⟩ (fun y hy=>?_);obtain⟨z1,z2,h1,X,a0⟩:=av.o.2 y ((HX.o.trans aw.o).symm.trans hy);have e1:=KZ (aS.o z1 h1);have e2:=KZ (aT.o z2 X);subst e1 e2;rw[a0];exact Us Qt aL.o aV.o.symm (Qc aO.o) (Qd ⟨rfl,rfl⟩) (Qd ⟨rfl,rfl⟩)
end
end Go.Proofs.YtgnkjijocdmniaaGreatDoor
