import Derived.Test.YtgnkjijocdmniaaGreatDoorZQCmds
namespace Go.Proofs.YtgnkjijocdmniaaGreatDoor
set_option linter.unusedVariables false
set_option linter.unusedSimpArgs false
set_option maxRecDepth 100000
set_option maxHeartbeats 4000000
open Go.Proofs.Tryz
open Go.RowKit
attribute [local go_sem ↓] Go.wp_at_zero Go.wp_at_succ
variable{α:Type}{F gb pos tb:Nat}{a:α}{l:L8}{rq:Qa}{st:Qb PS}{sub:PS->Qb (α×PS)}{w:World}
theorem UE{a:L8}(b:¬ a=QX)(c:¬ a=Z4):preS l rq a st=st:=by unfold preS;rw[if_neg b,if_neg c]
theorem Nk:stOf (bindS st fun s=>.ok (a,s))=st:=by cases st<;>rfl
theorem Nf{y:α×PS}(h:(bindS st fun s=>.ok (a,s))=.ok y):y.1=a:=by
 cases st with
 |ok s=>cases h;rfl
 |error f=>cases h
theorem OQ(rb tb:Nat)(nv:Value)(rq:Qa)(l:L8)(F n g:Nat)(st:Qb PS)(w:World)(f:RdI w rb tb nv rq)(h:TSt w tb l st)(J:l.length<=600)(hF:2*l.length+2<=F)(S:g+n=6)(i:(O l st).1=119)(b:(O l st).2.1=KF) :
 Calls prog 214 #[.pointer (some ⟨rb,0,none⟩),.int .i64 g] w (QY (bindS st (Qy l rq F (n+1))) tb l w (ZG (n+1) (fromB w.heap.size)) XL):=by
 have k:Hid (bindS st (Qy l rq F (n+1))=bindS (nextS l st) fun s=>.ok ((⟨0,(O l st).2.2.2,0,false,[],[],0⟩,[]),s)):=by
  show _=_
  rw[JX h i (by rw[b];decide),b,UE (by decide) (by decide)];rfl
 have Y:=Qk f.r;obtain⟨M,N,E,P,Q⟩:=h.cells;have H:=I h;have L:=I f;have W:=Qg f.r;have X:=h.lt;have G:w.heap.size≠tb:=by omega
 obtain⟨Z,p,_,_⟩:=ZR h i;have he:errS st=0:=by rw[p];rfl
 have U:((errS st:Int) != 0)=false:=by simp;omega
 have V:(((O l st).1:Int) != 119)=false:=by simp;omega
 have T:decide ((6:Int)<(g:Int))=false:=Qh (by omega);obtain⟨d,m⟩:=Qe ((O l st).2.1);rw[m]at E b;have t:=b;have R:=Jl [116,114,117,101] t rfl
 obtain⟨a,c⟩:=QF (w.alloc (.cells #[.string (sA d),.slice none 0 0,.slice none 0 0,.slice none 0 0,.int .i64 0,.bool false,.int .i64 0] 200));have D:=I c;have u:Hid (Mod tb w a):=by show Mod _ _ _;rw[c];exact(Mod.refl _ _).alloc _
 have x:Hid (Xw a w.heap.size d 0 false):=by show a.heap[w.heap.size]?=_;rw[c];exact QC _ _
 have A:Hid (TSt a tb l st):=by show TSt _ _ _ _;rw[c];exact h.below (Qp _)
 clear h f c p he i m;have C:=I b;clear b t;go_enter func214,ntmps214;go_wp2_with fail;rw[<-D.o];refine(Z2 tb l st a A.o J).mono ?_;rintro e w1 ⟨rfl,j,q⟩;have v:=I (u.o.trans j);have z:=I (QA x.o j G);have B:=I q;clear j q;go_wp2;go_ret;exact QY.mk v.o (by rw[(congrArg stOf k.o).trans Nk];exact B.o) ⟨_,rfl⟩ (fun y K=>by rw[show y.1=_ from Nf (k.o.symm.trans K)];exact Kr Ql z.o C.o.symm (Qd ⟨rfl,rfl⟩) (Qd ⟨rfl,rfl⟩) (Qd ⟨rfl,rfl⟩))
theorem La(rb tb:Nat)(nv:Value)(rq:Qa)(l:L8)(F n g:Nat)(st:Qb PS)(w:World)(f:RdI w rb tb nv rq)(h:TSt w tb l st)(J:l.length<=600)(hF:2*l.length+2<=F)(T:g+n=6)(i:(O l st).1=119)(b:(O l st).2.1=KD) :
 Calls prog 214 #[.pointer (some ⟨rb,0,none⟩),.int .i64 g] w (QY (bindS st (Qy l rq F (n+1))) tb l w (ZG (n+1) (fromB w.heap.size)) XL):=by
 have m:Hid (bindS st (Qy l rq F (n+1))=bindS (nextS l st) fun s=>.ok ((⟨1,(O l st).2.2.2,0,false,[],[],0⟩,[]),s)):=by
  show _=_
  rw[JX h i (by rw[b];decide),b,UE (by decide) (by decide)];rfl
 have Z:=Qk f.r;obtain⟨M,N,E,P,Q⟩:=h.cells;have H:=I h;have L:=I f;have X:=Qg f.r;have Y:=h.lt;have G:w.heap.size≠tb:=by omega
 obtain⟨s0,q,_,_⟩:=ZR h i;have he:errS st=0:=by rw[q];rfl
 have V:((errS st:Int) != 0)=false:=by simp;omega
 have W:(((O l st).1:Int) != 119)=false:=by simp;omega
 have U:decide ((6:Int)<(g:Int))=false:=Qh (by omega);obtain⟨c,p⟩:=Qe ((O l st).2.1);rw[p]at E b;have k:=b;have R:=QO [116,114,117,101] k rfl
 have S:=Jl [102,97,108,115,101] k rfl
 obtain⟨a,d⟩:=QF (w.alloc (.cells #[.string (sA c),.slice none 0 0,.slice none 0 0,.slice none 0 0,.int .i64 0,.bool false,.int .i64 0] 200));have D:=I d;have u:Hid (Mod tb w a):=by show Mod _ _ _;rw[d];exact(Mod.refl _ _).alloc _
 have x:Hid (Xw a w.heap.size c 0 false):=by show a.heap[w.heap.size]?=_;rw[d];exact QC _ _
 have A:Hid (TSt a tb l st):=by show TSt _ _ _ _;rw[d];exact h.below (Qp _)
 clear h f d q he i p;have C:=I b;clear b k;go_enter func214,ntmps214;go_wp2_with fail;rw[<-D.o];refine(Z2 tb l st a A.o J).mono ?_;rintro e w1 ⟨rfl,j,t⟩;have v:=I (u.o.trans j);have z:=I (QA x.o j G);have B:=I t;clear j t;go_wp2;go_ret;exact QY.mk v.o (by rw[(congrArg stOf m.o).trans Nk];exact B.o) ⟨_,rfl⟩ (fun y K=>by rw[show y.1=_ from Nf (m.o.symm.trans K)];exact Kr Ql z.o C.o.symm (Qd ⟨rfl,rfl⟩) (Qd ⟨rfl,rfl⟩) (Qd ⟨rfl,rfl⟩))
theorem DC:stOf (bindS st (Zl l F sub 8 pos))=stOf (bindS st (sLs l (Qz 0) F))/\∀ y,bindS st (Zl l F sub 8 pos)=.ok y->∃ z,bindS st (sLs l (Qz 0) F)=.ok z/\y.1=(⟨8,pos,0,false,z.1,[],0⟩,[]):=by
 rw[Bm]
 cases st with
 |error g=>exact⟨rfl,fun y e=>by cases e⟩
 |ok s=>
  simp only[bindS,Zl]
  cases sLs l (fun _=>0) F s with
  |error g=>exact⟨rfl,fun y e=>by cases e⟩
  |ok z=>exact⟨rfl,fun y e=>⟨z,rfl,by cases e;rfl⟩⟩
theorem H5(rb tb:Nat)(nv:Value)(rq:Qa)(l:L8)(F n q:Nat)(st:Qb PS)(w:World)(m:RdI w rb tb nv rq)(h:TSt w tb l st)(K:l.length<=600)(hF:2*l.length+2<=F)(hd:q+n=6)(i:(O l st).1=119)(f:(O l st).2.1=Kw) :
 Calls prog 214 #[.pointer (some ⟨rb,0,none⟩),.int .i64 q] w (QY (bindS st (Qy l rq F (n+1))) tb l w (ZG (n+1) (fromB w.heap.size)) XL):=by
 have G:Hid (bindS st (Qy l rq F (n+1))=bindS (nextS l st) (Zl l F (Qy l rq F n) 8 (O l st).2.2.2)):=by
  show _=_
  rw[JX h i (by rw[f];decide),f,UE (by decide) (by decide)];rfl
 have r0:=Qk m.r;obtain⟨c2,c4,c5,c6,c7⟩:=h.cells;have H:=I h;have E:=I m;have ak:=Qg m.r;have ao:=h.lt;have t:w.heap.size≠tb:=by omega
 obtain⟨s0,M,_,_⟩:=ZR h i;have he:errS st=0:=by rw[M];rfl
 have ah:((errS st:Int) != 0)=false:=by simp;omega
 have aj:(((O l st).1:Int) != 119)=false:=by simp;omega
 have ag:decide ((6:Int)<(q:Int))=false:=Qh (by omega);obtain⟨a,L⟩:=Qe ((O l st).2.1);rw[L]at c5 f;have b:=f;have e0:=QO [116,114,117,101] b rfl
 have e1:=QO [102,97,108,115,101] b rfl
 have e2:=QO [110,111,116] b rfl
 have e3:=QO [97,108,108,111,102] b rfl
 have e4:=QO [97,110,121,111,102] b rfl
 have e5:=QO [104,101,97,100,101,114] b rfl
 have e6:=QO [101,110,118,101,108,111,112,101] b rfl
 have e7:=QO [115,116,114,105,110,103] b rfl
 have e8:=Jl [101,120,105,115,116,115] b rfl
 obtain⟨d,g⟩:=QF (w.alloc (.cells #[.string (sA a),.slice none 0 0,.slice none 0 0,.slice none 0 0,.int .i64 0,.bool false,.int .i64 0] 200));have ac:=I g;have T:Hid (Mod tb w d):=by show Mod _ _ _;rw[g];exact(Mod.refl _ _).alloc _
 have V:Hid (Xw d w.heap.size a 0 false):=by show d.heap[w.heap.size]?=_;rw[g];exact QC _ _
 have X:Hid (TSt d tb l st):=by show TSt _ _ _ _;rw[g];exact h.below (Qp _)
 clear h m g M he i L;have ab:=I f;clear f b;go_enter func214,ntmps214;go_wp2_with fail;rw[<-ac.o];refine(Z2 tb l st d X.o K).mono ?_;rintro e w1 ⟨rfl,u,N⟩;have p:=I (T.o.trans u);have D:=I (QA V.o u t);have Y:=I N;clear u N;go_wp2_with fail;refine(VG rb tb nv l 0 F _ _ (E.o.mod p.o).r E.o.n Y.o K QE hF).mono ?_;rintro e R J;obtain⟨x,P,v,rfl,⟨xs,A⟩,Q⟩:=J.st;obtain⟨s,C,B,rfl⟩:=A.form;have j:=QA D.o x t;have ad:=Qg D.o;have U:=I ((p.o.trans x).setNew Ql 2 (.slice (some ⟨s,0,none⟩) C B));have W:=I (Qt _ _ 2 (.slice (some ⟨s,0,none⟩) C B) _ _ j);have Z:=I (TSt.block (w':=R.setCell ⟨w.heap.size,2,none⟩ (.slice (some ⟨s,0,none⟩) C B)) P (QK (Ne.symm t)));have aa:=I Q;have ai:=fun o=>Qu j o
 have d2:=QJ j;have ae:=p.o.size;have S:=I A.c;clear J x P Q A j;go_wp2;go_ret;refine QY.mk U.o (by rw[(congrArg stOf G.o).trans DC.1];exact Z.o) ⟨_,rfl⟩ (fun y hy=>?_);obtain⟨z,hz,af⟩:=DC.2 y (G.o.symm.trans hy);rw[af];exact Kr Ql W.o ab.o.symm (Qd ⟨rfl,rfl⟩) (Qc (((aa.o z hz).keep (Abv.set ad _ _)).toX.weak (fun k i _=>Qs ae i))) (Qd ⟨rfl,rfl⟩) (fun _=>S.o)
def CNode(w:World)(gb:Nat)(nm:L8)(av:Value)(tag:Nat)(tv bv:Value)(pos:Nat):Prop:=w.heap[gb]?=some (.cells #[.string (sA nm),av,.int .i64 tag,tv,bv,.int .i64 pos] 155)
theorem V8{n:Nat}{X:Nat->Prop}{x:Xj}{a:List (Yn n×List (Zt n))}{e:List (Zt n)}{b d c:Value}{f:L8}(g:X gb)(k:CNode w gb f b x.tag d c x.pos)(l:cNs.getD x.kind []=f)(i:slY X (Ff x) w b)(m:trY (ZG n) X (a.map Prod.fst) w d)(j:trY (trY (ZU n)) X (A3 (x,a,e)) w c):ZU (n+1) X (x,a,e) w (.pointer (some ⟨gb,0,none⟩)):=by
 subst l;exact⟨gb,b,d,c,rfl,g,k,i,m,j⟩
theorem Et(h:TSt w tb l st):bindS st (fun s=>ZK l s a)=bindS (signS l 59 st) fun s=>.ok (a,s):=GR h 59 rfl fun s=>.ok (a,s)
theorem Pv(rb tb:Nat)(nv:Value)(rq:Qa)(l:L8)(F f:Nat)(st:Qb PS)(w:World)(d:RdI w rb tb nv rq)(h:TSt w tb l st)(J:l.length<=600)(hF:2*l.length+2<=F)(R:f=7)(i:(O l st).1=119) :
 Calls prog 115 #[.pointer (some ⟨rb,0,none⟩),.int .i64 f] w (QY (bindS st (QG l rq F 0)) tb l w (ZU 0 (fromB w.heap.size)) XL):=by
 have Z:=Qk d.r;obtain⟨L,M,E,N,P⟩:=h.cells;have H:=I h;have m:=I d;have V:=Qg d.r;have W:=h.lt;have U:w.heap.size≠tb:=by omega
 have T:w.heap.size≠rb:=by omega
 have S:decide ((6:Int)<(f:Int))=true:=Qw (by omega);obtain⟨b,t⟩:=Qe ((O l st).2.1);rw[t]at E;have p:=I (SN (rq:=rq) (F:=F) h i);have x:Hid (∀ g,failS st g=.error g):=by intro g;obtain⟨s,K,_⟩:=ZR h i;rw[K];rfl
 obtain⟨a,c⟩:=QF ((w.alloc (.cells #[.string (sA b),.slice none 0 0,.int .i64 0,.slice none 0 0,.slice none 0 0,.int .i64 (O l st).2.2.2] 155)).drew);have D:=I c;have j:Hid (Mod tb w a):=by show Mod _ _ _;rw[c];exact((Mod.refl _ _).alloc _).drew
 have k:Hid (CNode a w.heap.size b (.slice none 0 0) 0 (.slice none 0 0) (.slice none 0 0) (O l st).2.2.2):=by show a.heap[w.heap.size]?=_;rw[c];exact QC _ _
 have B:Hid (TSt a tb l st):=by show TSt _ _ _ _;rw[c];exact(h.below (Qp (.cells #[.string (sA b),.slice none 0 0,.int .i64 0,.slice none 0 0,.slice none 0 0,.int .i64 (O l st).2.2.2] 155))).block rfl
 clear h d c i t;have z:=I (Yu tb l st ⟨5,(O l st).2.2.2⟩ a.drew (B.o.block rfl) J (Nat.succ_ne_zero 4));go_enter func115,ntmps115;go_wp2_with fail;go_region;rw[<-D.o];have Q:=Qk (w:=a) (m.o.r.mod j.o m.o.n);have X:=Qk k.o;have Y:=Q9 k.o;go_wp2_with fail;go_region_with (first|(go_at_call 70;refine z.o.mono ?_;rintro e w1 G;obtain⟨rfl,q,u⟩:=G;have A:=I q;have C:=I u;clear q u;skip))
 all_goals go_wp2
 all_goals go_ret
 all_goals exact QY.mk (j.o.trans (Y8 A.o)) (by rw[p.o];have:=C.o;rw[x.o]at this;exact this) ⟨_,rfl⟩ (fun y v=>by rw[p.o]at v;cases v)
theorem RN(rb tb:Nat)(nv:Value)(rq:Qa)(l:L8)(F n i:Nat)(st:Qb PS)(w:World)(f:RdI w rb tb nv rq)(h:TSt w tb l st)(M:l.length<=600)(hF:2*l.length+2<=F)(hd:i+n=6)(j:(O l st).1=119)(k:wL cNs (O l st).2.1=0) :
 Calls prog 115 #[.pointer (some ⟨rb,0,none⟩),.int .i64 i] w (QY (bindS st (QG l rq F (n+1))) tb l w (ZU (n+1) (fromB w.heap.size)) XL):=by
 have t:=I (IP (rq:=rq) (F:=F) (n:=n) h j k);have B:Hid (∀ g,failS st g=.error g):=by intro g;obtain⟨s,N,_⟩:=ZR h j;rw[N];rfl
 have r0:=Qk f.r;obtain⟨Q,R,K,S,T⟩:=h.cells;have H:=I h;have q:=I f;have ad:=Qg f.r;have ae:=h.lt;have ac:w.heap.size≠tb:=by omega
 have ab:w.heap.size≠rb:=by omega
 have aa:decide ((6:Int)<(i:Int))=false:=Qh (by omega);obtain⟨a,v⟩:=Qe ((O l st).2.1);rw[v]at K k;have c:∀ z∈cNs,¬ a=z:=fun z P e=>by have:=(X1 a cNs).2 (by rw[e];exact P);omega
 have V:((sA a).toList==[107,101,101,112])=false:=by rw[Zg];exact Qh (c KM (by simp[cNs]))
 have W:((sA a).toList==[100,105,115,99,97,114,100])=false:=by rw[Zg];exact Qh (c Kt (by simp[cNs]))
 have X:((sA a).toList==[115,116,111,112])=false:=by rw[Zg];exact Qh (c KH (by simp[cNs]))
 have Y:((sA a).toList==[102,105,108,101,105,110,116,111])=false:=by rw[Zg];exact Qh (c ZB (by simp[cNs]))
 have Z:((sA a).toList==[114,101,100,105,114,101,99,116])=false:=by rw[Zg];exact Qh (c Kk (by simp[cNs]))
 have e5:((sA a).toList==[114,101,106,101,99,116])=false:=by rw[Zg];exact Qh (c ZD (by simp[cNs]))
 have e6:((sA a).toList==[115,101,116])=false:=by rw[Zg];exact Qh (c Xy (by simp[cNs]))
 have e7:((sA a).toList==[105,102])=false:=by rw[Zg];exact Qh (c kIf (by simp[cNs]))
 obtain⟨b,d⟩:=QF ((w.alloc (.cells #[.string (sA a),.slice none 0 0,.int .i64 0,.slice none 0 0,.slice none 0 0,.int .i64 (O l st).2.2.2] 155)).drew);have J:=I d;have m:Hid (Mod tb w b):=by show Mod _ _ _;rw[d];exact((Mod.refl _ _).alloc _).drew
 have p:Hid (CNode b w.heap.size a (.slice none 0 0) 0 (.slice none 0 0) (.slice none 0 0) (O l st).2.2.2):=by show b.heap[w.heap.size]?=_;rw[d];exact QC _ _
 have E:Hid (TSt b tb l st):=by show TSt _ _ _ _;rw[d];exact(h.below (Qp (.cells #[.string (sA a),.slice none 0 0,.int .i64 0,.slice none 0 0,.slice none 0 0,.int .i64 (O l st).2.2.2] 155))).block rfl
 clear h f d j v;have C:=I (Yu tb l st ⟨4,(O l st).2.2.2⟩ b.drew (E.o.block rfl) M (Nat.succ_ne_zero 3));clear c k;go_enter func115,ntmps115;go_wp2_with fail;go_region;rw[<-J.o];have U:=Qk (w:=b) (q.o.r.mod m.o q.o.n);have n0:=Qk p.o;have n5:=Q9 p.o;go_wp2_with fail;go_region_with (first|(go_at_call 70;refine C.o.mono ?_;rintro e w1 L;obtain⟨rfl,u,x⟩:=L;have D:=I u;have G:=I x;clear u x;skip))
 all_goals go_wp2
 all_goals go_ret
 all_goals exact QY.mk (m.o.trans (Y8 D.o)) (by rw[t.o];have:=G.o;rw[B.o]at this;exact this) ⟨_,rfl⟩ (fun y A=>by rw[t.o]at A;cases A)
theorem Av{a:L8}(b:¬(a=ZB\/a=ZD))(c:¬ a=Xy):Uf l rq a st=st:=by unfold Uf;rw[if_neg b,if_neg c]
theorem Af(c:Nat)(rb tb:Nat)(nv:Value)(rq:Qa)(l:L8)(F n m:Nat)(st:Qb PS)(w:World)(i:RdI w rb tb nv rq)(h:TSt w tb l st)(C:l.length<=600)(hF:2*l.length+2<=F)(hd:m+n=6)(B:(O l st).1=119)(p:((O l st).2.1=KM/\c=0)\/((O l st).2.1=Kt/\c=1)\/((O l st).2.1=KH/\c=2)) :
 Calls prog 115 #[.pointer (some ⟨rb,0,none⟩),.int .i64 m] w (QY (bindS st (QG l rq F (n+1))) tb l w (ZU (n+1) (fromB w.heap.size)) XL):=by
 have R:Hid (bindS st (QG l rq F (n+1))=bindS (nextS l st) fun s=>ZK l s (⟨c,(O l st).2.2.2,0,[],[],false⟩,[],[])):=by
  show _=_
  rcases p with⟨d,rfl⟩ | ⟨d,rfl⟩ | ⟨d,rfl⟩
  all_goals
   rw[Gc h B (by rw[d];decide),d,Av (by decide) (by decide)];rfl
 have r0:=Qk i.r;obtain⟨X,Y,S,Z,c7⟩:=h.cells;have H:=I h;have k:=I i;have ac:=Qg i.r;have ad:=h.lt;have A:w.heap.size≠tb:=by omega
 have ab:w.heap.size≠rb:=by omega
 have aa:decide ((6:Int)<(m:Int))=false:=Qh (by omega);obtain⟨a,D⟩:=Qe ((O l st).2.1);rw[D]at S p;rcases p with⟨d,rfl⟩ | ⟨d,rfl⟩ | ⟨d,rfl⟩
 all_goals
  have f:=d
  first|(have T:((sA a).toList==[107,101,101,112])=true:=(by rw[Zg,f];decide))|(have T:((sA a).toList==[107,101,101,112])=false:=(by rw[Zg,f];decide))
  first|(have U:((sA a).toList==[100,105,115,99,97,114,100])=true:=(by rw[Zg,f];decide))|(have U:((sA a).toList==[100,105,115,99,97,114,100])=false:=(by rw[Zg,f];decide))
  first|(have V:((sA a).toList==[115,116,111,112])=true:=(by rw[Zg,f];decide))|(have V:((sA a).toList==[115,116,111,112])=false:=(by rw[Zg,f];decide))
  obtain⟨b,g⟩:=QF ((w.alloc (.cells #[.string (sA a),.slice none 0 0,.int .i64 0,.slice none 0 0,.slice none 0 0,.int .i64 (O l st).2.2.2] 155)).drew);have Q:=I g;have u:Hid (Mod tb w b):=by show Mod _ _ _;rw[g];exact((Mod.refl _ _).alloc _).drew
  have j:Hid (CNode b w.heap.size a (.slice none 0 0) 0 (.slice none 0 0) (.slice none 0 0) (O l st).2.2.2):=by show b.heap[w.heap.size]?=_;rw[g];exact QC _ _
  have M:Hid (TSt b tb l st):=by show TSt _ _ _ _;rw[g];exact(h.below (Qp (.cells #[.string (sA a),.slice none 0 0,.int .i64 0,.slice none 0 0,.slice none 0 0,.int .i64 (O l st).2.2.2] 155))).block rfl
  clear h i g B D;have P:=I d;clear d f;go_enter func115,ntmps115;go_wp2_with fail;go_region;rw[<-Q.o];have d0:=Qk (w:=b) (k.o.r.mod u.o k.o.n);have n0:=Qk j.o;have n5:=Q9 j.o;go_wp2_with fail;refine(Z2 tb l st b M.o C).mono ?_;rintro e w1 ⟨rfl,q,E⟩;have v:=I (u.o.trans q);have K:=I (QA j.o q A);have x:=I E;clear q E;go_wp2_with fail;refine(YQ rb tb nv l 59 _ _ (k.o.mod v.o).r x.o C).mono ?_;rintro e w2 ⟨rfl,t,G⟩;have J:=I (v.o.trans t);have L:=I (QA K.o t A);have N:=I G;clear t G;go_wp2;go_ret;have z:=R.o.trans (Et x.o);exact QY.mk J.o (by rw[(congrArg stOf z).trans Nk];exact N.o) ⟨_,rfl⟩ (fun y W=>by rw[show y.1=_ from Nf (z.symm.trans W)];exact V8 Ql L.o P.o.symm (Qd ⟨rfl,rfl⟩) (Qd ⟨rfl,rfl⟩) (Qd ⟨rfl,rfl⟩))
theorem ER:stOf (bindS st (Zl l F sub 2 pos))=stOf (bindS st sub)/\∀ y,bindS st (Zl l F sub 2 pos)=.ok y->∃ z,bindS st sub=.ok z/\y.1=(⟨2,pos,0,false,[],[],0⟩,[z.1]):=by
 cases st with
 |error g=>exact⟨rfl,fun y e=>by cases e⟩
 |ok s=>
  simp only[bindS,Zl]
  cases sub s with
  |error g=>exact⟨rfl,fun y e=>by cases e⟩
  |ok z=>exact⟨rfl,fun y e=>⟨z,rfl,by cases e;rfl⟩⟩
theorem GZ{a:World}{d:Array Value}{f:TypeId}(l:Mod tb w a)(e:a.heap[gb]?=some (.cells d f))(o:Nat)(v:Value)(b:Obj)(g:w.heap.size<=gb:=by omega):Mod tb w ((a.setCell ⟨gb,o,none⟩ v).alloc b)/\((a.setCell ⟨gb,o,none⟩ v).alloc b).heap[gb]?=some (.cells (d.setIfInBounds o v) f)/\((a.setCell ⟨gb,o,none⟩ v).alloc b).heap[a.heap.size]?=some b/\∀ k,k<a.heap.size->k≠gb->((a.setCell ⟨gb,o,none⟩ v).alloc b).heap[k]?=a.heap[k]?:=by
 have j:=Qg e;have c:(a.setCell ⟨gb,o,none⟩ v).heap.size=a.heap.size:=World.size_setCell _ _ _;refine⟨(l.setNew g _ _).alloc _,?_,?_,fun k i m=>?_⟩
 ·rw[Below.heap_alloc _ _ _ (by rw[c];exact j)];exact Qt _ _ _ _ _ _ e
 ·rw[<-c];exact QC _ _
 ·rw[Below.heap_alloc _ _ _ (by rw[c];exact i)];exact QK m
def TOk(rb tb:Nat)(nv:Value)(rq:Qa)(l:L8)(F n deep:Nat):Prop:=
 ∀ st w,RdI w rb tb nv rq->TSt w tb l st->Calls prog 214 #[.pointer (some ⟨rb,0,none⟩),.int .i64 deep] w (QY (bindS st (Qy l rq F n)) tb l w (ZG n (fromB w.heap.size)) XL)
theorem Pw(rb tb:Nat)(nv:Value)(rq:Qa)(l:L8)(F n g:Nat)(st:Qb PS)(w:World)(s:RdI w rb tb nv rq)(h:TSt w tb l st)(hl:l.length<=600)(hF:2*l.length+2<=F)(hd:g+n=6)(Q:TOk rb tb nv rq l F n (g+1))(b:(O l st).1=119)(f:(O l st).2.1=KS) :
 Calls prog 214 #[.pointer (some ⟨rb,0,none⟩),.int .i64 g] w (QY (bindS st (Qy l rq F (n+1))) tb l w (ZG (n+1) (fromB w.heap.size)) XL):=by
 have N:Hid (bindS st (Qy l rq F (n+1))=bindS (nextS l st) (Zl l F (Qy l rq F n) 2 (O l st).2.2.2)):=by
  show _=_
  rw[JX h b (by rw[f];decide),f,UE (by decide) (by decide)];rfl
 have r0:=Qk s.r;obtain⟨c2,c4,c5,c6,c7⟩:=h.cells;have H:=I h;have HR:=I s;have az:=Qg s.r;have aA:=h.lt;have E:w.heap.size≠tb:=by omega
 obtain⟨s0,T,_,_⟩:=ZR h b;have he:errS st=0:=by rw[T];rfl
 have ar:((errS st:Int) != 0)=false:=by simp;omega
 have aw:(((O l st).1:Int) != 119)=false:=by simp;omega
 have aq:decide ((6:Int)<(g:Int))=false:=Qh (by omega);obtain⟨c,R⟩:=Qe ((O l st).2.1);rw[R]at c5 f;have t:=f;have e0:=QO [116,114,117,101] t rfl
 have e1:=QO [102,97,108,115,101] t rfl
 have e2:=Jl [110,111,116] t rfl
 obtain⟨a,i⟩:=QF (w.alloc (.cells #[.string (sA c),.slice none 0 0,.slice none 0 0,.slice none 0 0,.int .i64 0,.bool false,.int .i64 0] 200));have ai:=I i;have Y:Hid (Mod tb w a):=by show Mod _ _ _;rw[i];exact(Mod.refl _ _).alloc _
 have aa:Hid (Xw a w.heap.size c 0 false):=by show a.heap[w.heap.size]?=_;rw[i];exact QC _ _
 have ac:Hid (TSt a tb l st):=by show TSt _ _ _ _;rw[i];exact h.below (Qp _)
 clear h s i T he b R;have ah:=I f;clear f t;have X:=I Q;clear Q;have ap:g<=6:=by omega
 go_enter func214,ntmps214;go_wp2_with fail;rw[<-ai.o];refine(Z2 tb l st a ac.o hl).mono ?_;rintro e W ⟨rfl,G,U⟩;have u:=I (Y.o.trans G);have x:=I (QA aa.o G E);have ad:=I U;clear G U;go_wp2_with fail;refine(X.o (nextS l st) _ (HR.o.mod u.o) ad.o).mono ?_;rintro e d P;obtain⟨q,L,v,rfl,⟨B,rfl⟩,V⟩:=P.st;have ay:=Qg x.o;have m:=QA x.o q E;have ax:w.heap.size<d.heap.size:=Qg m;have S:=u.o.size;have ak:=q.size;obtain⟨A,C⟩:=QF ((d.setCell ⟨w.heap.size,1,none⟩ (.slice (some ⟨d.heap.size,0,none⟩) 1 1)).alloc (.cells #[.pointer (some ⟨B,0,none⟩)] 158));have ag:=I C;obtain⟨J,K,D,p⟩:=GZ (u.o.trans q) m 1 (.slice (some ⟨d.heap.size,0,none⟩) 1 1) (.cells #[.pointer (some ⟨B,0,none⟩)] 158);rw[<-C]at J K D p;have Z:=I J;have ab:=I K;have ae:=I (L.block (p tb L.lt (Ne.symm E)))
 have af:Hid (∀ z,bindS (nextS l st) (Qy l rq F n)=.ok z->trY (ZG n) (fromB w.heap.size) [z.1] A (.slice (some ⟨d.heap.size,0,none⟩) 1 1)):=by
  intro z M;refine Qc ⟨by simp,d.heap.size,1,rfl,Qs S ak,fun j hj=>?_⟩;have h0:j=0:=by simpa using hj
  subst h0;refine⟨.pointer (some ⟨B,0,none⟩),Qi D 0,?_⟩;refine(Z0 n).weak (fromB W.heap.size) _ _ _ _ ((Z0 n).keep _ _ _ _ _ (V z M) ?_) (fun k b _=>Qs S b);intro k b aj;have av:W.heap.size<=k:=b;have:=Qg x.o;exact p k aj (by omega)
 have au:=fun o=>Qu m o
 have d2:=Qr m;clear P q L V m J K D p C;go_wp2;go_ret;rw[<-ag.o];refine QY.mk Z.o (by rw[(congrArg stOf N.o).trans ER.1];exact ae.o) ⟨_,rfl⟩ (fun y hy=>?_);obtain⟨z,M,ao⟩:=ER.2 y (N.o.symm.trans hy);rw[ao];exact Kr Ql ab.o ah.o.symm (af.o z M) (Qd ⟨rfl,rfl⟩) (Qd ⟨rfl,rfl⟩)
end Go.Proofs.YtgnkjijocdmniaaGreatDoor
