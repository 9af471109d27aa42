import Derived.Test.YtgnkjijocdmniaaGreatDoorZQCmds
namespace Go.Proofs.YtgnkjijocdmniaaGreatDoor
set_option linter.all false
set_option maxRecDepth 100000
set_option maxHeartbeats 4000000
open Go.Proofs.Tryz
open Go.RowKit
variable{α:Type}{F gb n pos t tb:Nat}{G:Value}{a:α}{l:L8}{rq:Qn}{st:Qq PS}{sub:PS->Qq (α×PS)}{w:World}
section
attribute [local go_sem ↓] Zt Zu
theorem GW{a:L8}(b:¬a=Zb)(c:¬a=Xc):preS l rq a st=st:=by unfold preS;rw[Qg b,Qg c]
theorem Ce:stOf (bindS st fun s=>.ok (a,s))=st:=by cases st<;>rfl
theorem B_{y:α×PS}(h:(bindS st fun s=>.ok (a,s))=.ok y):y.1=a:=by
 cases st with
 |ok s=>cases h;rfl
 |error f=>cases h
theorem Que(n j:Nat)(g:RdI w t tb G rq)(h:TSt w tb l st)(D:l.length<=600)(hF:2*l.length+2<=F)(N:j+n=6)(d:(Qk l st).1=119)(hw:(Qk l st).2.1=Uj):Calls prog 214 #[Qc t,Qa j] w (Zq (bindS st (QP l rq F (n+1))) tb l w (RTest (n+1) (fromB w.heap.size)) YW):=by
 have i:Hid (bindS st (QP l rq F (n+1))=bindS (nextS l st) fun s=>.ok ((⟨0,(Qk l st).2.2.2,0,false,[],[],0⟩,[]),s)):=by
  show _=_
  rw[U9 h d (by rw[hw];decide),hw,GW Qb Qb];rfl
 have U:=Qj g.r 0;obtain⟨H,J,B,K,L⟩:=h.cells;have S:=QI g.r;have T:=h.lt;have C:w.heap.size≠tb:=I
 obtain⟨V,m,_,_⟩:=XS h d;have he:errS st=0:=by rw[m];rfl
 have Q:((errS st:Int) != 0)=false:=by simp;omega
 have R:(((Qk l st).1:Int) != 119)=false:=by simp;omega
 have P:=QB I;obtain⟨c,k⟩:=Qw ((Qk l st).2.1);rw[k]at B hw;have q:=hw;have M:=XK [116,114,117,101] q rfl
 obtain⟨a,b⟩:=Q3 (w.alloc (Qe #[Qf c,Qp,Qp,Qp,Qa 0,.bool false,Qa 0] 200));have Z:=O b;have u:Hid (Mod tb w a):=by show Mod _ _ _;rw[b];exact(Mod.refl _ _).alloc _
 have x:Hid (YD a w.heap.size c 0 false):=by show a.heap[w.heap.size]?=_;rw[b];exact Q0
 have A:Hid (TSt a tb l st):=by show TSt _ _ _ _;rw[b];exact h.below (QH _)
 clear h g b m he d k;have Y:=O hw;clear hw q;go_enter func214,ntmps214;go_wp2_with fail;rw[<-Z.o];refine Qv (X0 A D) ?_;rintro W ⟨f,p⟩;have v:=O (u.o.trans f);have z:=O (QY x f C);have X:=O p;clear f p;go_wp2;go_ret;exact Zq.mk v (by rw[(ZI stOf i).trans Ce];exact X) ⟨_,rfl⟩ (fun y E=>by rw[show y.1=_ from B_ (i.symm.trans E)];exact Vz QF z Y.symm (Qt ⟨rfl,rfl⟩) (Qt ⟨rfl,rfl⟩) (Qt ⟨rfl,rfl⟩))
theorem Ww(n k:Nat)(g:RdI w t tb G rq)(h:TSt w tb l st)(D:l.length<=600)(hF:2*l.length+2<=F)(P:k+n=6)(d:(Qk l st).1=119)(hw:(Qk l st).2.1=Ud):Calls prog 214 #[Qc t,Qa k] w (Zq (bindS st (QP l rq F (n+1))) tb l w (RTest (n+1) (fromB w.heap.size)) YW):=by
 have j:Hid (bindS st (QP l rq F (n+1))=bindS (nextS l st) fun s=>.ok ((⟨1,(Qk l st).2.2.2,0,false,[],[],0⟩,[]),s)):=by
  show _=_
  rw[U9 h d (by rw[hw];decide),hw,GW Qb Qb];rfl
 have V:=Qj g.r 0;obtain⟨H,J,B,K,L⟩:=h.cells;have T:=QI g.r;have U:=h.lt;have C:w.heap.size≠tb:=I
 obtain⟨W,p,_,_⟩:=XS h d;have he:errS st=0:=by rw[p];rfl
 have R:((errS st:Int) != 0)=false:=by simp;omega
 have S:(((Qk l st).1:Int) != 119)=false:=by simp;omega
 have Q:=QB I;obtain⟨b,m⟩:=Qw ((Qk l st).2.1);rw[m]at B hw;have i:=hw;have M:=QG [116,114,117,101] i rfl
 have N:=XK [102,97,108,115,101] i rfl
 obtain⟨a,c⟩:=Q3 (w.alloc (Qe #[Qf b,Qp,Qp,Qp,Qa 0,.bool false,Qa 0] 200));have aa:=O c;have u:Hid (Mod tb w a):=by show Mod _ _ _;rw[c];exact(Mod.refl _ _).alloc _
 have x:Hid (YD a w.heap.size b 0 false):=by show a.heap[w.heap.size]?=_;rw[c];exact Q0
 have A:Hid (TSt a tb l st):=by show TSt _ _ _ _;rw[c];exact h.below (QH _)
 clear h g c p he d m;have Z:=O hw;clear hw i;go_enter func214,ntmps214;go_wp2_with fail;rw[<-aa.o];refine Qv (X0 A D) ?_;rintro X ⟨f,q⟩;have v:=O (u.o.trans f);have z:=O (QY x f C);have Y:=O q;clear f q;go_wp2;go_ret;exact Zq.mk v (by rw[(ZI stOf j).trans Ce];exact Y) ⟨_,rfl⟩ (fun y E=>by rw[show y.1=_ from B_ (j.symm.trans E)];exact Vz QF z Z.symm (Qt ⟨rfl,rfl⟩) (Qt ⟨rfl,rfl⟩) (Qt ⟨rfl,rfl⟩))
theorem Ll:stOf (bindS st (tBd l F sub 8 pos))=stOf (bindS st (sLs l (QV 0) F))/\∀y,bindS st (tBd l F sub 8 pos)=.ok y->∃z,bindS st (sLs l (QV 0) F)=.ok z/\y.1=(⟨8,pos,0,false,z.1,[],0⟩,[]):=by
 rw[EU]
 cases st with
 |error g=>exact⟨rfl,fun y e=>by cases e⟩
 |ok s=>
  simp only[bindS,tBd]
  cases sLs l (fun _=>0) F s with
  |error g=>exact⟨rfl,fun y e=>by cases e⟩
  |ok z=>exact⟨rfl,fun y e=>⟨z,rfl,by cases e;rfl⟩⟩
theorem So{B:Nat}{P:Value}(n E:Nat)(f:RdI w B tb P rq)(h:TSt w tb l st)(H:l.length<=600)(hF:2*l.length+2<=F)(hd:E+n=6)(i:(Qk l st).1=119)(hw:(Qk l st).2.1=YL):Calls prog 214 #[Qc B,Qa E] w (Zq (bindS st (QP l rq F (n+1))) tb l w (RTest (n+1) (fromB w.heap.size)) YW):=by
 have D:Hid (bindS st (QP l rq F (n+1))=bindS (nextS l st) (tBd l F (QP l rq F n) 8 (Qk l st).2.2.2)):=by
  show _=_
  rw[U9 h i (by rw[hw];decide),hw,GW Qb Qb];rfl
 have r0:=Qj f.r 0;obtain⟨c2,c4,X,c6,c7⟩:=h.cells;have HR:=O f;have af:=QI f.r;have ag:=h.lt;have q:w.heap.size≠tb:=I
 obtain⟨s0,K,_,_⟩:=XS h i;have he:errS st=0:=by rw[K];rfl
 have ac:((errS st:Int) != 0)=false:=by simp;omega
 have ae:(((Qk l st).1:Int) != 119)=false:=by simp;omega
 have ab:=QB I;obtain⟨a,J⟩:=Qw ((Qk l st).2.1);rw[J]at X hw;have b:=hw;have e0:=QG [116,114,117,101] b rfl
 have e1:=QG [102,97,108,115,101] b rfl
 have e2:=QG [110,111,116] b rfl
 have e3:=QG [97,108,108,111,102] b rfl
 have e4:=QG [97,110,121,111,102] b rfl
 have e5:=QG [104,101,97,100,101,114] b rfl
 have e6:=QG [101,110,118,101,108,111,112,101] b rfl
 have e7:=QG [115,116,114,105,110,103] b rfl
 have e8:=XK [101,120,105,115,116,115] b rfl
 obtain⟨d,g⟩:=Q3 (w.alloc (Qe #[Qf a,Qp,Qp,Qp,Qa 0,.bool false,Qa 0] 200));have ak:=O g;have R:Hid (Mod tb w d):=by show Mod _ _ _;rw[g];exact(Mod.refl _ _).alloc _
 have T:Hid (YD d w.heap.size a 0 false):=by show d.heap[w.heap.size]?=_;rw[g];exact Q0
 have V:Hid (TSt d tb l st):=by show TSt _ _ _ _;rw[g];exact h.below (QH _)
 clear h f g K he i J;have aj:=O hw;clear hw b;go_enter func214,ntmps214;go_wp2_with fail;rw[<-ak.o];refine Qv (X0 V H) ?_;rintro w1 ⟨s,L⟩;have m:=O (R.o.trans s);have C:=O (QY T s q);have ah:=O L;clear s L;go_wp2_with fail;refine(Ak 0 (HR.o.mod m).r HR.n ah H QR hF).mono ?_;rintro e w2 G;obtain⟨t,M,v,rfl,⟨xs,u⟩,N⟩:=G.st;obtain⟨p,A,x,rfl⟩:=u.form;have j:=QY C t q;have Y:=QI C;have S:=O ((m.o.trans t).setNew QF 2 (Qs p A x));have U:=O (QM (o:=2) (v:=Qs p A x) j);have W:=O (TSt.block (w':=w2.setCell ⟨w.heap.size,2,none⟩ (Qs p A x)) M (Q' (Ne.symm q)));have ai:=O N;have ad:=fun o=>QQ j o
 have d2:=Qj j 2;have Z:=m.size;have Q:=O u.c;clear G t M N u j;go_wp2;go_ret;refine Zq.mk S (by rw[(ZI stOf D).trans Ll.1];exact W) ⟨_,rfl⟩ (fun y hy=>?_);obtain⟨z,hz,aa⟩:=Ll.2 y (D.symm.trans hy);rw[aa];exact Vz QF U aj.symm (Qt ⟨rfl,rfl⟩) (Qr (((ai z hz).keep (Abv.set Y _ _)).toX.weak (fun k i _=>QE Z i))) (Qt ⟨rfl,rfl⟩) (fun _=>Q)
def CNode(w:World)(gb:Nat)(nm:L8)(av:Value)(tag:Nat)(tv bv:Value)(pos:Nat):Prop:=w.heap[gb]?=some (Qe #[Qf nm,av,Qa tag,tv,bv,Qa pos] 155)
theorem AP{X:Nat->Prop}{x:Xa}{a:List (Zn n×List (Q5 n))}{e:List (Q5 n)}{b d c:Value}{f:L8}(g:X gb)(k:CNode w gb f b x.tag d c x.pos)(l:cNs.getD x.kind []=f)(i:slY X (Gq x) w b)(m:trY (RTest n) X (a.map Prod.fst) w d)(j:trY (trY (RCmd n)) X (YN (x,a,e)) w c):RCmd (n+1) X (x,a,e) w (Qc gb):=by
 subst l;exact⟨gb,b,d,c,rfl,g,k,i,m,j⟩
theorem M8(h:TSt w tb l st):bindS st (fun s=>semi l s a)=bindS (signS l 59 st) fun s=>.ok (a,s):=BR h 59 rfl fun s=>.ok (a,s)
theorem QvN{u:Nat}{J:Value}(k:Nat)(d:RdI w u tb J rq)(h:TSt w tb l st)(G:l.length<=600)(hF:2*l.length+2<=F)(Q:k=7)(f:(Qk l st).1=119):Calls prog 115 #[Qc u,Qa k] w (Zq (bindS st (cmdL l rq F 0)) tb l w (RCmd 0 (fromB w.heap.size)) YW):=by
 have S:=Qj d.r 0;obtain⟨K,L,D,M,N⟩:=h.cells;have U:=O d;obtain⟨c,p⟩:=Qw ((Qk l st).2.1);rw[p]at D;have j:=O (Qyo (rq:=rq) (F:=F) h f);have v:Hid (∀g,failS st g=.error g):=by intro g;obtain⟨s,H,_⟩:=XS h f;rw[H];rfl
 obtain⟨a,b⟩:=Q3 ((w.alloc (Qe #[Qf c,Qp,Qa 0,Qp,Qp,Qa (Qk l st).2.2.2] 155)).drew);have V:=O b;have i:Hid (Mod tb w a):=by show Mod _ _ _;rw[b];exact((Mod.refl _ _).alloc _).drew
 have A:Hid (CNode a w.heap.size c Qp 0 Qp Qp (Qk l st).2.2.2):=by show a.heap[w.heap.size]?=_;rw[b];exact Q0
 have B:Hid (TSt a tb l st):=by show TSt _ _ _ _;rw[b];exact(h.below (QH (Qe #[Qf c,Qp,Qa 0,Qp,Qp,Qa (Qk l st).2.2.2] 155))).block rfl
 clear h d b f p;have x:=O (Ka ⟨5,(Qk l st).2.2.2⟩ (w:=a.drew) (B.o.block rfl) G (Yh 4));go_enter func115,ntmps115;go_wp2_with fail;go_region;rw[<-V.o];have P:=Qj (U.r.mod i U.n) 0;have R:=Qj A 5;go_wp2_with fail;go_region_with (first|(go_at_call 70;refine x.mono ?_;rintro e T E;obtain⟨rfl,m,q⟩:=E;have z:=O m;have C:=O q;clear m q;skip))
 all_goals go_wp2
 all_goals go_ret
 all_goals exact Zq.mk (i.o.trans (Uc z)) (by rw[j.o];have:=C.o;rw[v.o]at this;exact this) ⟨_,rfl⟩ (fun y t=>by rw[j.o]at t;cases t)
theorem Qxw{x:Nat}{M:Value}(n i:Nat)(f:RdI w x tb M rq)(h:TSt w tb l st)(J:l.length<=600)(hF:2*l.length+2<=F)(hd:i+n=6)(j:(Qk l st).1=119)(hw:wL cNs (Qk l st).2.1=0):Calls prog 115 #[Qc x,Qa i] w (Zq (bindS st (cmdL l rq F (n+1))) tb l w (RCmd (n+1) (fromB w.heap.size)) YW):=by
 have p:=O (T6 (rq:=rq) (F:=F) (n:=n) h j hw);have A:Hid (∀g,failS st g=.error g):=by intro g;obtain⟨s,K,_⟩:=XS h j;rw[K];rfl
 have r0:=Qj f.r 0;obtain⟨N,P,G,Q,R⟩:=h.cells;have HR:=O f;have aa:decide ((6:Int)<(i:Int))=false:=QB I;obtain⟨a,t⟩:=Qw ((Qk l st).2.1);rw[t]at G hw;have b:∀z∈cNs,¬a=z:=fun z L e=>by have:=(Jn a cNs).2 (by rw[e];exact L);omega
 have T:((sA a).toList==[107,101,101,112])=false:=by rw[Z3];exact QB (b Ul (by simp[cNs]))
 have U:((sA a).toList==[100,105,115,99,97,114,100])=false:=by rw[Z3];exact QB (b K_ (by simp[cNs]))
 have V:((sA a).toList==[115,116,111,112])=false:=by rw[Z3];exact QB (b Uk (by simp[cNs]))
 have W:((sA a).toList==[102,105,108,101,105,110,116,111])=false:=by rw[Z3];exact QB (b ZN (by simp[cNs]))
 have X:((sA a).toList==[114,101,100,105,114,101,99,116])=false:=by rw[Z3];exact QB (b Jt (by simp[cNs]))
 have Y:((sA a).toList==[114,101,106,101,99,116])=false:=by rw[Z3];exact QB (b ZM (by simp[cNs]))
 have Z:((sA a).toList==[115,101,116])=false:=by rw[Z3];exact QB (b Xw (by simp[cNs]))
 have e7:((sA a).toList==[105,102])=false:=by rw[Z3];exact QB (b kIf (by simp[cNs]))
 obtain⟨c,d⟩:=Q3 ((w.alloc (Qe #[Qf a,Qp,Qa 0,Qp,Qp,Qa (Qk l st).2.2.2] 155)).drew);have ab:=O d;have k:Hid (Mod tb w c):=by show Mod _ _ _;rw[d];exact((Mod.refl _ _).alloc _).drew
 have m:Hid (CNode c w.heap.size a Qp 0 Qp Qp (Qk l st).2.2.2):=by show c.heap[w.heap.size]?=_;rw[d];exact Q0
 have D:Hid (TSt c tb l st):=by show TSt _ _ _ _;rw[d];exact(h.below (QH (Qe #[Qf a,Qp,Qa 0,Qp,Qp,Qa (Qk l st).2.2.2] 155))).block rfl
 clear h f d j t;have B:=O (Ka ⟨4,(Qk l st).2.2.2⟩ (w:=c.drew) (D.o.block rfl) J (Yh 3));clear b hw;go_enter func115,ntmps115;go_wp2_with fail;go_region;rw[<-ab.o];have S:=Qj (HR.r.mod k HR.n) 0;have n0:=Qj m 0;have n5:=Qj m 5;go_wp2_with fail;go_region_with (first|(go_at_call 70;refine B.mono ?_;rintro e w1 H;obtain⟨rfl,q,u⟩:=H;have C:=O q;have E:=O u;clear q u;skip))
 all_goals go_wp2
 all_goals go_ret
 all_goals exact Zq.mk (k.o.trans (Uc C)) (by rw[p.o];have:=E.o;rw[A.o]at this;exact this) ⟨_,rfl⟩ (fun y v=>by rw[p.o]at v;cases v)
theorem DK{a:L8}(b:¬(a=ZN\/a=ZM))(c:¬a=Xw):Gs l rq a st=st:=by unfold Gs;rw[Qg b,Qg c]
theorem Dq(c:Nat){H:Value}(n z:Nat)(p:RdI w t tb H rq)(h:TSt w tb l st)(D:l.length<=600)(hF:2*l.length+2<=F)(Z:z+n=6)(C:(Qk l st).1=119)(j:((Qk l st).2.1=Ul/\c=0)\/((Qk l st).2.1=K_/\c=1)\/((Qk l st).2.1=Uk/\c=2)):Calls prog 115 #[Qc t,Qa z] w (Zq (bindS st (cmdL l rq F (n+1))) tb l w (RCmd (n+1) (fromB w.heap.size)) YW):=by
 have N:Hid (bindS st (cmdL l rq F (n+1))=bindS (nextS l st) fun s=>semi l s (⟨c,(Qk l st).2.2.2,0,[],[],false⟩,[],[])):=by
  show _=_
  rcases j with⟨b,rfl⟩ | ⟨b,rfl⟩ | ⟨b,rfl⟩
  all_goals
   rw[AT h C (by rw[b];decide),b,DK Qb Qb];rfl
 have r0:=Qj p.r 0;obtain⟨U,V,P,W,X⟩:=h.cells;have i:=O p;have ab:=h.lt;have B:w.heap.size≠tb:=I
 have aa:=QB I;obtain⟨a,E⟩:=Qw ((Qk l st).2.1);rw[E]at P j;rcases j with⟨b,rfl⟩ | ⟨b,rfl⟩ | ⟨b,rfl⟩
 all_goals
  have f:=b
  first|(have Q:((sA a).toList==[107,101,101,112])=true:=(by rw[Z3,f];decide))|(have Q:((sA a).toList==[107,101,101,112])=false:=(by rw[Z3,f];decide))
  first|(have R:((sA a).toList==[100,105,115,99,97,114,100])=true:=(by rw[Z3,f];decide))|(have R:((sA a).toList==[100,105,115,99,97,114,100])=false:=(by rw[Z3,f];decide))
  first|(have S:((sA a).toList==[115,116,111,112])=true:=(by rw[Z3,f];decide))|(have S:((sA a).toList==[115,116,111,112])=false:=(by rw[Z3,f];decide))
  obtain⟨d,g⟩:=Q3 ((w.alloc (Qe #[Qf a,Qp,Qa 0,Qp,Qp,Qa (Qk l st).2.2.2] 155)).drew);have af:=O g;have u:Hid (Mod tb w d):=by show Mod _ _ _;rw[g];exact((Mod.refl _ _).alloc _).drew
  have x:Hid (CNode d w.heap.size a Qp 0 Qp Qp (Qk l st).2.2.2):=by show d.heap[w.heap.size]?=_;rw[g];exact Q0
  have M:Hid (TSt d tb l st):=by show TSt _ _ _ _;rw[g];exact(h.below (QH (Qe #[Qf a,Qp,Qa 0,Qp,Qp,Qa (Qk l st).2.2.2] 155))).block rfl
  clear h p g C E;have ae:=O b;clear b f;go_enter func115,ntmps115;go_wp2_with fail;go_region;rw[<-af.o];have Y:=Qj (i.r.mod u i.n) 0;have n0:=Qj x 0;go_wp2_with fail;refine Qv (X0 M D) ?_;rintro w1 ⟨k,q⟩;have v:=O (u.o.trans k);have K:=O (QY x k B);have ac:=O q;clear k q;go_wp2_with fail;refine Qv (KJ 59 (i.o.mod v).r ac D) ?_;rintro w2 ⟨m,G⟩;have J:=O (v.o.trans m);have L:=O (QY K m B);have ad:=O G;clear m G;go_wp2;go_ret;have A:=N.o.trans (M8 ac);exact Zq.mk J (by rw[(ZI stOf A).trans Ce];exact ad) ⟨_,rfl⟩ (fun y T=>by rw[show y.1=_ from B_ (A.symm.trans T)];exact AP QF L ae.symm (Qt ⟨rfl,rfl⟩) (Qt ⟨rfl,rfl⟩) (Qt ⟨rfl,rfl⟩))
theorem Og:stOf (bindS st (tBd l F sub 2 pos))=stOf (bindS st sub)/\∀y,bindS st (tBd l F sub 2 pos)=.ok y->∃z,bindS st sub=.ok z/\y.1=(⟨2,pos,0,false,[],[],0⟩,[z.1]):=by
 cases st with
 |error g=>exact⟨rfl,fun y e=>by cases e⟩
 |ok s=>
  simp only[bindS,tBd]
  cases sub s with
  |error g=>exact⟨rfl,fun y e=>by cases e⟩
  |ok z=>exact⟨rfl,fun y e=>⟨z,rfl,by cases e;rfl⟩⟩
theorem BP{a:World}{d:Array Value}{f:TypeId}(l:Mod tb w a)(e:a.heap[gb]?=some (Qe d f))(o:Nat)(v:Value)(b:Obj)(g:w.heap.size<=gb:=by omega):Mod tb w ((a.setCell ⟨gb,o,none⟩ v).alloc b)/\((a.setCell ⟨gb,o,none⟩ v).alloc b).heap[gb]?=some (Qe (d.setIfInBounds o v) f)/\((a.setCell ⟨gb,o,none⟩ v).alloc b).heap[a.heap.size]?=some b/\∀k,k<a.heap.size->k≠gb->((a.setCell ⟨gb,o,none⟩ v).alloc b).heap[k]?=a.heap[k]?:=by
 have j:=QI e;have c:(a.setCell ⟨gb,o,none⟩ v).heap.size=a.heap.size:=Vo _ _ _;refine⟨(l.setNew g _ _).alloc _,?_,?_,fun k i m=>?_⟩
 .rw[ZL _ _ _ (by rw[c];exact j)];exact QM e
 .rw[<-c];exact Q0
 .rw[ZL _ _ _ (by rw[c];exact i)];exact Q' m
def TOk(rb tb:Nat)(nv:Value)(rq:Qn)(l:L8)(F n deep:Nat):Prop:=
 ∀st w,RdI w rb tb nv rq->TSt w tb l st->Calls prog 214 #[Qc rb,Qa deep] w (Zq (bindS st (QP l rq F n)) tb l w (RTest n (fromB w.heap.size)) YW)
theorem Qwt{L:Nat}{V:Value}(m:Nat)(g:RdI w L tb V rq)(h:TSt w tb l st)(hl:l.length<=600)(hF:2*l.length+2<=F)(hd:m+n=6)(P:TOk L tb V rq l F n (m+1))(b:(Qk l st).1=119)(hw:(Qk l st).2.1=kNot):Calls prog 214 #[Qc L,Qa m] w (Zq (bindS st (QP l rq F (n+1))) tb l w (RTest (n+1) (fromB w.heap.size)) YW):=by
 have M:Hid (bindS st (QP l rq F (n+1))=bindS (nextS l st) (tBd l F (QP l rq F n) 2 (Qk l st).2.2.2)):=by
  show _=_
  rw[U9 h b (by rw[hw];decide),hw,GW Qb Qb];rfl
 have r0:=Qj g.r 0;obtain⟨c2,c4,c5,c6,c7⟩:=h.cells;have HR:=O g;have ap:=QI g.r;have aq:=h.lt;have D:w.heap.size≠tb:=I
 obtain⟨s0,S,_,_⟩:=XS h b;have he:errS st=0:=by rw[S];rfl
 have ag:((errS st:Int) != 0)=false:=by simp;omega
 have aj:(((Qk l st).1:Int) != 119)=false:=by simp;omega
 have af:decide ((6:Int)<(m:Int))=false:=QB I;obtain⟨c,Q⟩:=Qw ((Qk l st).2.1);rw[Q]at c5 hw;have s:=hw;have e0:=QG [116,114,117,101] s rfl
 have e1:=QG [102,97,108,115,101] s rfl
 have e2:=XK [110,111,116] s rfl
 obtain⟨a,d⟩:=Q3 (w.alloc (Qe #[Qf c,Qp,Qp,Qp,Qa 0,.bool false,Qa 0] 200));have ay:=O d;have X:Hid (Mod tb w a):=by show Mod _ _ _;rw[d];exact(Mod.refl _ _).alloc _
 have Y:Hid (YD a w.heap.size c 0 false):=by show a.heap[w.heap.size]?=_;rw[d];exact Q0
 have Z:Hid (TSt a tb l st):=by show TSt _ _ _ _;rw[d];exact h.below (QH _)
 clear h g d S he b Q;have ax:=O hw;clear hw s;have HI:=O P;clear P;go_enter func214,ntmps214;go_wp2_with fail;rw[<-ay.o];refine Qv (X0 Z hl) ?_;rintro W ⟨E,T⟩;have t:=O (X.o.trans E);have u:=O (QY Y E D);have av:=O T;clear E T;go_wp2_with fail;refine(HI (nextS l st) _ (HR.o.mod t) av).mono ?_;rintro e i N;obtain⟨q,J,v,rfl,⟨A,rfl⟩,U⟩:=N.st;have ao:=QI u;have f:=QY u q D;have ak:=QI f;have R:=t.size;have ad:=q.size;obtain⟨x,B⟩:=Q3 ((i.setCell ⟨w.heap.size,1,none⟩ (Qs i.heap.size 1 1)).alloc (Qe #[Qc A] 158));have aw:=O B;obtain⟨G,H,C,p⟩:=BP (t.o.trans q) f 1 (Qs i.heap.size 1 1) (Qe #[Qc A] 158);rw[<-B]at G H C p;have ar:=O G;have au:=O H;have aa:=O (J.block (p tb J.lt (Ne.symm D)))
 have ab:Hid (∀z,bindS (nextS l st) (QP l rq F n)=.ok z->trY (RTest n) (fromB w.heap.size) [z.1] x (Qs i.heap.size 1 1)):=by
  intro z K;refine Qr ⟨Qh,i.heap.size,1,rfl,QE R ad,fun j hj=>?_⟩;have h0:j=0:=by simpa using hj
  subst h0;refine⟨(Qc A),Qj C 0,?_⟩;refine(XX n).weak (fromB W.heap.size) _ _ _ _ ((XX n).keep _ _ _ _ _ (U z K) ?_) (fun k b _=>QE R b);intro k b ac;have ai:W.heap.size<=k:=b;have:=QI u;exact p k ac I
 have ah:=fun o=>QQ f o
 have d2:=Qj f 1;clear N q J U f G H C p B;go_wp2;go_ret;rw[<-aw.o];refine Zq.mk ar (by rw[(ZI stOf M).trans Og.1];exact aa) ⟨_,rfl⟩ (fun y hy=>?_);obtain⟨z,K,ae⟩:=Og.2 y (M.symm.trans hy);rw[ae];exact Vz QF au ax.symm (ab z K) (Qt ⟨rfl,rfl⟩) (Qt ⟨rfl,rfl⟩)
end
end Go.Proofs.YtgnkjijocdmniaaGreatDoor
