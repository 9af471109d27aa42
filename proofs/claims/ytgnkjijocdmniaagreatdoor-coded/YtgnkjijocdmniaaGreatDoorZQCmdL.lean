import Derived.Test.YtgnkjijocdmniaaGreatDoorZQCmds
namespace Go.Proofs.YtgnkjijocdmniaaGreatDoor
set_option linter.unusedVariables false
set_option linter.unusedSimpArgs false
set_option maxRecDepth 100000
set_option maxHeartbeats 4000000
open Go.Proofs.Tryz
variable{α:Type}{F gb pos tb:Nat}{a:α}{l:L8}{rq:Qa}{st:Qb PS}{sub:PS->Qb (α×PS)}{w:World}
section
open Go.RowKit
attribute [local go_sem ↓] Go.wp_at_zero Go.wp_at_succ
theorem UV{a:L8}(b:¬ a=QN)(c:¬ a=ZA):preS l rq a st=st:=by unfold preS;rw[if_neg b,if_neg c]
theorem VL:stOf (bindS st fun s=>.ok (a,s))=st:=by cases st<;>rfl
theorem VM{y:α×PS}(h:(bindS st fun s=>.ok (a,s))=.ok y):y.1=a:=by
 cases st with
 |ok s=>cases h;rfl
 |error f=>cases h
theorem Oh(rb tb:Nat)(nv:Value)(rq:Qa)(l:L8)(F n f:Nat)(st:Qb PS)(w:World)(d:RdI w rb tb nv rq)(h:TSt w tb l st)(G:l.length<=600)(hF:2*l.length+2<=F)(R:f+n=6)(g:(O l st).1=119)(hw:(O l st).2.1=Jv) :
 Calls prog 214 #[.pointer (some ⟨rb,0,none⟩),.int .i64 f] w (QS (bindS st (Qq l rq F (n+1))) tb l w (RTest (n+1) (fromB w.heap.size)) XA):=by
 have j:Hid (bindS st (Qq l rq F (n+1))=bindS (nextS l st) fun s=>.ok ((⟨0,(O l st).2.2.2,0,false,[],[],0⟩,[]),s)):=by
  show _=_
  rw[Kq h g (by rw[hw];decide),hw,UV (by decide) (by decide)];rfl
 have X:=Qj d.r;obtain⟨L,M,D,N,P⟩:=h.cells;have H:=I h;have K:=I d;have V:=Qh d.r;have W:=h.lt;have E:w.heap.size≠tb:=by omega
 obtain⟨Y,m,_,_⟩:=ZZ h g;have he:errS st=0:=by rw[m];rfl
 have T:((errS st:Int) != 0)=false:=by simp;omega
 have U:(((O l st).1:Int) != 119)=false:=by simp;omega
 have S:decide ((6:Int)<(f:Int))=false:=Qr (by omega);obtain⟨c,k⟩:=Qf ((O l st).2.1);rw[k]at D hw;have q:=hw;have Q:=Zz [116,114,117,101] q rfl
 obtain⟨a,b⟩:=QE (w.alloc (.cells #[.string (sA c),.slice none 0 0,.slice none 0 0,.slice none 0 0,.int .i64 0,.bool false,.int .i64 0] 200));have C:=I b;have t:Hid (Mod tb w a):=by show Mod _ _ _;rw[b];exact(Mod.refl _ _).alloc _
 have v:Hid (XF a w.heap.size c 0 false):=by show a.heap[w.heap.size]?=_;rw[b];exact QA _ _
 have z:Hid (TSt a tb l st):=by show TSt _ _ _ _;rw[b];exact h.below (Qs _)
 clear h d b m he g k;have B:=I hw;clear hw q;go_enter func214,ntmps214;go_wp2_with fail;rw[<-C.o];refine(ZU tb l st a z.o G).mono ?_;rintro e Z ⟨rfl,i,p⟩;have u:=I (t.o.trans i);have x:=I (Qu v.o i E);have A:=I p;clear i p;go_wp2;go_ret;exact QS.mk u.o (by rw[(congrArg stOf j.o).trans VL];exact A.o) ⟨_,rfl⟩ (fun y J=>by rw[show y.1=_ from VM (j.o.symm.trans J)];exact Kt Qt x.o B.o.symm (Qd ⟨rfl,rfl⟩) (Qd ⟨rfl,rfl⟩) (Qd ⟨rfl,rfl⟩))
theorem Oi(rb tb:Nat)(nv:Value)(rq:Qa)(l:L8)(F n f:Nat)(st:Qb PS)(w:World)(d:RdI w rb tb nv rq)(h:TSt w tb l st)(G:l.length<=600)(hF:2*l.length+2<=F)(S:f+n=6)(g:(O l st).1=119)(hw:(O l st).2.1=Jw) :
 Calls prog 214 #[.pointer (some ⟨rb,0,none⟩),.int .i64 f] w (QS (bindS st (Qq l rq F (n+1))) tb l w (RTest (n+1) (fromB w.heap.size)) XA):=by
 have k:Hid (bindS st (Qq l rq F (n+1))=bindS (nextS l st) fun s=>.ok ((⟨1,(O l st).2.2.2,0,false,[],[],0⟩,[]),s)):=by
  show _=_
  rw[Kq h g (by rw[hw];decide),hw,UV (by decide) (by decide)];rfl
 have Y:=Qj d.r;obtain⟨L,M,D,N,P⟩:=h.cells;have H:=I h;have K:=I d;have W:=Qh d.r;have X:=h.lt;have E:w.heap.size≠tb:=by omega
 obtain⟨Z,p,_,_⟩:=ZZ h g;have he:errS st=0:=by rw[p];rfl
 have U:((errS st:Int) != 0)=false:=by simp;omega
 have V:(((O l st).1:Int) != 119)=false:=by simp;omega
 have T:decide ((6:Int)<(f:Int))=false:=Qr (by omega);obtain⟨b,m⟩:=Qf ((O l st).2.1);rw[m]at D hw;have j:=hw;have Q:=Ql [116,114,117,101] j rfl
 have R:=Zz [102,97,108,115,101] j rfl
 obtain⟨a,c⟩:=QE (w.alloc (.cells #[.string (sA b),.slice none 0 0,.slice none 0 0,.slice none 0 0,.int .i64 0,.bool false,.int .i64 0] 200));have C:=I c;have t:Hid (Mod tb w a):=by show Mod _ _ _;rw[c];exact(Mod.refl _ _).alloc _
 have v:Hid (XF a w.heap.size b 0 false):=by show a.heap[w.heap.size]?=_;rw[c];exact QA _ _
 have z:Hid (TSt a tb l st):=by show TSt _ _ _ _;rw[c];exact h.below (Qs _)
 clear h d c p he g m;have B:=I hw;clear hw j;go_enter func214,ntmps214;go_wp2_with fail;rw[<-C.o];refine(ZU tb l st a z.o G).mono ?_;rintro e w1 ⟨rfl,i,q⟩;have u:=I (t.o.trans i);have x:=I (Qu v.o i E);have A:=I q;clear i q;go_wp2;go_ret;exact QS.mk u.o (by rw[(congrArg stOf k.o).trans VL];exact A.o) ⟨_,rfl⟩ (fun y J=>by rw[show y.1=_ from VM (k.o.symm.trans J)];exact Kt Qt x.o B.o.symm (Qd ⟨rfl,rfl⟩) (Qd ⟨rfl,rfl⟩) (Qd ⟨rfl,rfl⟩))
theorem H6:stOf (bindS st (tBd l F sub 8 pos))=stOf (bindS st (sLs l (Qx 0) F))/\∀ y,bindS st (tBd l F sub 8 pos)=.ok y->∃ z,bindS st (sLs l (Qx 0) F)=.ok z/\y.1=(⟨8,pos,0,false,z.1,[],0⟩,[]):=by
 rw[A8]
 cases st with
 |error g=>exact⟨rfl,fun y e=>by cases e⟩
 |ok s=>
  simp only[bindS,tBd]
  cases sLs l (fun _=>0) F s with
  |error g=>exact⟨rfl,fun y e=>by cases e⟩
  |ok z=>exact⟨rfl,fun y e=>⟨z,rfl,by cases e;rfl⟩⟩
theorem Om(rb tb:Nat)(nv:Value)(rq:Qa)(l:L8)(F n p:Nat)(st:Qb PS)(w:World)(j:RdI w rb tb nv rq)(h:TSt w tb l st)(J:l.length<=600)(hF:2*l.length+2<=F)(hd:p+n=6)(g:(O l st).1=119)(hw:(O l st).2.1=XO) :
 Calls prog 214 #[.pointer (some ⟨rb,0,none⟩),.int .i64 p] w (QS (bindS st (Qq l rq F (n+1))) tb l w (RTest (n+1) (fromB w.heap.size)) XA):=by
 have E:Hid (bindS st (Qq l rq F (n+1))=bindS (nextS l st) (tBd l F (Qq l rq F n) 8 (O l st).2.2.2)):=by
  show _=_
  rw[Kq h g (by rw[hw];decide),hw,UV (by decide) (by decide)];rfl
 have r0:=Qj j.r;obtain⟨c2,c4,c5,c6,c7⟩:=h.cells;have H:=I h;have D:=I j;have aj:=Qh j.r;have ak:=h.lt;have s:w.heap.size≠tb:=by omega
 obtain⟨s0,L,_,_⟩:=ZZ h g;have he:errS st=0:=by rw[L];rfl
 have ag:((errS st:Int) != 0)=false:=by simp;omega
 have ai:(((O l st).1:Int) != 119)=false:=by simp;omega
 have af:decide ((6:Int)<(p:Int))=false:=Qr (by omega);obtain⟨a,K⟩:=Qf ((O l st).2.1);rw[K]at c5 hw;have b:=hw;have e0:=Ql [116,114,117,101] b rfl
 have e1:=Ql [102,97,108,115,101] b rfl
 have e2:=Ql [110,111,116] b rfl
 have e3:=Ql [97,108,108,111,102] b rfl
 have e4:=Ql [97,110,121,111,102] b rfl
 have e5:=Ql [104,101,97,100,101,114] b rfl
 have e6:=Ql [101,110,118,101,108,111,112,101] b rfl
 have e7:=Ql [115,116,114,105,110,103] b rfl
 have e8:=Zz [101,120,105,115,116,115] b rfl
 obtain⟨d,f⟩:=QE (w.alloc (.cells #[.string (sA a),.slice none 0 0,.slice none 0 0,.slice none 0 0,.int .i64 0,.bool false,.int .i64 0] 200));have ab:=I f;have S:Hid (Mod tb w d):=by show Mod _ _ _;rw[f];exact(Mod.refl _ _).alloc _
 have U:Hid (XF d w.heap.size a 0 false):=by show d.heap[w.heap.size]?=_;rw[f];exact QA _ _
 have W:Hid (TSt d tb l st):=by show TSt _ _ _ _;rw[f];exact h.below (Qs _)
 clear h j f L he g K;have aa:=I hw;clear hw b;go_enter func214,ntmps214;go_wp2_with fail;rw[<-ab.o];refine(ZU tb l st d W.o J).mono ?_;rintro e w1 ⟨rfl,t,M⟩;have m:=I (S.o.trans t);have C:=I (Qu U.o t s);have X:=I M;clear t M;go_wp2_with fail;refine(GB rb tb nv l 0 F _ _ (D.o.mod m.o).r D.o.n X.o J QC hF).mono ?_;rintro e Q G;obtain⟨u,N,v,rfl,⟨xs,x⟩,P⟩:=G.st;obtain⟨q,B,A,rfl⟩:=x.form;have i:=Qu C.o u s;have ac:=Qh C.o;have T:=I ((m.o.trans u).setNew Qt 2 (.slice (some ⟨q,0,none⟩) B A));have V:=I (Qv _ _ 2 (.slice (some ⟨q,0,none⟩) B A) _ _ i);have Y:=I (TSt.block (w':=Q.setCell ⟨w.heap.size,2,none⟩ (.slice (some ⟨q,0,none⟩) B A)) N (Below.heap_setCell _ _ _ _ (Ne.symm s)));have Z:=I P;have ah:=fun o=>Qz i o
 have d2:=QG i;have ad:=m.o.size;have R:=I x.c;clear G u N P x i;go_wp2;go_ret;refine QS.mk T.o (by rw[(congrArg stOf E.o).trans H6.1];exact Y.o) ⟨_,rfl⟩ (fun y hy=>?_);obtain⟨z,hz,ae⟩:=H6.2 y (E.o.symm.trans hy);rw[ae];exact Kt Qt V.o aa.o.symm (Qd ⟨rfl,rfl⟩) (Qc (((Z.o z hz).keep (Abv.set ac _ _)).toX.weak (fun k g _=>Qm ad g))) (Qd ⟨rfl,rfl⟩) (fun _=>R.o)
def CNode(w:World)(gb:Nat)(nm:L8)(av:Value)(tag:Nat)(tv bv:Value)(pos:Nat):Prop:=w.heap[gb]?=some (.cells #[.string (sA nm),av,.int .i64 tag,tv,bv,.int .i64 pos] 155)
theorem Us{n:Nat}{X:Nat->Prop}{x:Zx}{a:List (QQ n×List (QF n))}{e:List (QF n)}{b d c:Value}{f:L8}(g:X gb)(k:CNode w gb f b x.tag d c x.pos)(l:cNs.getD x.kind []=f)(i:slY X (UF x) w b)(m:trY (RTest n) X (a.map Prod.fst) w d)(j:trY (trY (RCmd n)) X (XR (x,a,e)) w c):RCmd (n+1) X (x,a,e) w (.pointer (some ⟨gb,0,none⟩)):=by
 subst l;exact⟨gb,b,d,c,rfl,g,k,i,m,j⟩
theorem NJ(h:TSt w tb l st):bindS st (fun s=>semi l s a)=bindS (signS l 59 st) fun s=>.ok (a,s):=NO h 59 rfl fun s=>.ok (a,s)
theorem Oq(rb tb:Nat)(nv:Value)(rq:Qa)(l:L8)(F f:Nat)(st:Qb PS)(w:World)(d:RdI w rb tb nv rq)(h:TSt w tb l st)(J:l.length<=600)(hF:2*l.length+2<=F)(R:f=7)(i:(O l st).1=119) :
 Calls prog 115 #[.pointer (some ⟨rb,0,none⟩),.int .i64 f] w (QS (bindS st (cmdL l rq F 0)) tb l w (RCmd 0 (fromB w.heap.size)) XA):=by
 have Z:=Qj d.r;obtain⟨L,M,E,N,P⟩:=h.cells;have H:=I h;have m:=I d;have V:=Qh d.r;have W:=h.lt;have U:w.heap.size≠tb:=by omega
 have T:w.heap.size≠rb:=by omega
 have S:decide ((6:Int)<(f:Int))=true:=QO (by omega);obtain⟨b,t⟩:=Qf ((O l st).2.1);rw[t]at E;have p:=I (Ru (rq:=rq) (F:=F) h i);have x:Hid (∀ g,failS st g=.error g):=by intro g;obtain⟨s,K,_⟩:=ZZ h i;rw[K];rfl
 obtain⟨a,c⟩:=QE ((w.alloc (.cells #[.string (sA b),.slice none 0 0,.int .i64 0,.slice none 0 0,.slice none 0 0,.int .i64 (O l st).2.2.2] 155)).drew);have D:=I c;have j:Hid (Mod tb w a):=by show Mod _ _ _;rw[c];exact((Mod.refl _ _).alloc _).drew
 have k:Hid (CNode a w.heap.size b (.slice none 0 0) 0 (.slice none 0 0) (.slice none 0 0) (O l st).2.2.2):=by show a.heap[w.heap.size]?=_;rw[c];exact QA _ _
 have B:Hid (TSt a tb l st):=by show TSt _ _ _ _;rw[c];exact(h.below (Qs (.cells #[.string (sA b),.slice none 0 0,.int .i64 0,.slice none 0 0,.slice none 0 0,.int .i64 (O l st).2.2.2] 155))).block rfl
 clear h d c i t;have z:=I (Y3 tb l st ⟨5,(O l st).2.2.2⟩ a.drew (B.o.block rfl) J (Nat.succ_ne_zero 4));go_enter func115,ntmps115;go_wp2_with fail;go_region;rw[<-D.o];have Q:=Qj (w:=a) (m.o.r.mod j.o m.o.n);have X:=Qj k.o;have Y:=QM k.o;go_wp2_with fail;go_region_with (first|(go_at_call 70;refine z.o.mono ?_;rintro e w1 G;obtain⟨rfl,q,u⟩:=G;have A:=I q;have C:=I u;clear q u;skip))
 all_goals go_wp2
 all_goals go_ret
 all_goals exact QS.mk (j.o.trans (JS A.o)) (by rw[p.o];have:=C.o;rw[x.o]at this;exact this) ⟨_,rfl⟩ (fun y v=>by rw[p.o]at v;cases v)
theorem Ot(rb tb:Nat)(nv:Value)(rq:Qa)(l:L8)(F n i:Nat)(st:Qb PS)(w:World)(f:RdI w rb tb nv rq)(h:TSt w tb l st)(L:l.length<=600)(hF:2*l.length+2<=F)(hd:i+n=6)(j:(O l st).1=119)(hw:wL cNs (O l st).2.1=0) :
 Calls prog 115 #[.pointer (some ⟨rb,0,none⟩),.int .i64 i] w (QS (bindS st (cmdL l rq F (n+1))) tb l w (RCmd (n+1) (fromB w.heap.size)) XA):=by
 have q:=I (Rv (rq:=rq) (F:=F) (n:=n) h j hw);have A:Hid (∀ g,failS st g=.error g):=by intro g;obtain⟨s,M,_⟩:=ZZ h j;rw[M];rfl
 have r0:=Qj f.r;obtain⟨P,Q,J,R,S⟩:=h.cells;have H:=I h;have p:=I f;have ad:=Qh f.r;have ae:=h.lt;have ac:w.heap.size≠tb:=by omega
 have ab:w.heap.size≠rb:=by omega
 have aa:decide ((6:Int)<(i:Int))=false:=Qr (by omega);obtain⟨a,u⟩:=Qf ((O l st).2.1);rw[u]at J hw;have c:∀ z∈cNs,¬ a=z:=fun z N e=>by have:=(YH a cNs).2 (by rw[e];exact N);omega
 have U:((sA a).toList==[107,101,101,112])=false:=by rw[Z7];exact Qr (c JH (by simp[cNs]))
 have V:((sA a).toList==[100,105,115,99,97,114,100])=false:=by rw[Z7];exact Qr (c JI (by simp[cNs]))
 have W:((sA a).toList==[115,116,111,112])=false:=by rw[Z7];exact Qr (c JJ (by simp[cNs]))
 have X:((sA a).toList==[102,105,108,101,105,110,116,111])=false:=by rw[Z7];exact Qr (c Ze (by simp[cNs]))
 have Y:((sA a).toList==[114,101,100,105,114,101,99,116])=false:=by rw[Z7];exact Qr (c Yn (by simp[cNs]))
 have Z:((sA a).toList==[114,101,106,101,99,116])=false:=by rw[Z7];exact Qr (c Zf (by simp[cNs]))
 have e6:((sA a).toList==[115,101,116])=false:=by rw[Z7];exact Qr (c ZW (by simp[cNs]))
 have e7:((sA a).toList==[105,102])=false:=by rw[Z7];exact Qr (c kIf (by simp[cNs]))
 obtain⟨b,d⟩:=QE ((w.alloc (.cells #[.string (sA a),.slice none 0 0,.int .i64 0,.slice none 0 0,.slice none 0 0,.int .i64 (O l st).2.2.2] 155)).drew);have G:=I d;have k:Hid (Mod tb w b):=by show Mod _ _ _;rw[d];exact((Mod.refl _ _).alloc _).drew
 have m:Hid (CNode b w.heap.size a (.slice none 0 0) 0 (.slice none 0 0) (.slice none 0 0) (O l st).2.2.2):=by show b.heap[w.heap.size]?=_;rw[d];exact QA _ _
 have D:Hid (TSt b tb l st):=by show TSt _ _ _ _;rw[d];exact(h.below (Qs (.cells #[.string (sA a),.slice none 0 0,.int .i64 0,.slice none 0 0,.slice none 0 0,.int .i64 (O l st).2.2.2] 155))).block rfl
 clear h f d j u;have B:=I (Y3 tb l st ⟨4,(O l st).2.2.2⟩ b.drew (D.o.block rfl) L (Nat.succ_ne_zero 3));clear c hw;go_enter func115,ntmps115;go_wp2_with fail;go_region;rw[<-G.o];have T:=Qj (w:=b) (p.o.r.mod k.o p.o.n);have n0:=Qj m.o;have n5:=QM m.o;go_wp2_with fail;go_region_with (first|(go_at_call 70;refine B.o.mono ?_;rintro e w1 K;obtain⟨rfl,t,v⟩:=K;have C:=I t;have E:=I v;clear t v;skip))
 all_goals go_wp2
 all_goals go_ret
 all_goals exact QS.mk (k.o.trans (JS C.o)) (by rw[q.o];have:=E.o;rw[A.o]at this;exact this) ⟨_,rfl⟩ (fun y x=>by rw[q.o]at x;cases x)
theorem GH{a:L8}(b:¬(a=Ze\/a=Zf))(c:¬ a=ZW):Ur l rq a st=st:=by unfold Ur;rw[if_neg b,if_neg c]
theorem Ou(rb tb:Nat)(nv:Value)(rq:Qa)(l:L8)(F n i:Nat)(st:Qb PS)(w:World)(d:RdI w rb tb nv rq)(h:TSt w tb l st)(x:l.length<=600)(hF:2*l.length+2<=F)(X:i+n=6)(v:(O l st).1=119)(hw:(O l st).2.1=JH) :
 Calls prog 115 #[.pointer (some ⟨rb,0,none⟩),.int .i64 i] w (QS (bindS st (cmdL l rq F (n+1))) tb l w (RCmd (n+1) (fromB w.heap.size)) XA):=by
 have N:Hid (bindS st (cmdL l rq F (n+1))=bindS (nextS l st) fun s=>semi l s (⟨0,(O l st).2.2.2,0,[],[],false⟩,[],[])):=by
  show _=_
  rw[Uq h v (by rw[hw];decide),hw,GH (by decide) (by decide)];rfl
 have r0:=Qj d.r;obtain⟨R,S,P,T,U⟩:=h.cells;have H:=I h;have g:=I d;have aa:=Qh d.r;have ab:=h.lt;have u:w.heap.size≠tb:=by omega
 have Z:w.heap.size≠rb:=by omega
 have Y:decide ((6:Int)<(i:Int))=false:=Qr (by omega);obtain⟨b,z⟩:=Qf ((O l st).2.1);rw[z]at P hw;have C:=hw;have W:=Zz [107,101,101,112] C rfl
 obtain⟨a,c⟩:=QE ((w.alloc (.cells #[.string (sA b),.slice none 0 0,.int .i64 0,.slice none 0 0,.slice none 0 0,.int .i64 (O l st).2.2.2] 155)).drew);have M:=I c;have m:Hid (Mod tb w a):=by show Mod _ _ _;rw[c];exact((Mod.refl _ _).alloc _).drew
 have f:Hid (CNode a w.heap.size b (.slice none 0 0) 0 (.slice none 0 0) (.slice none 0 0) (O l st).2.2.2):=by show a.heap[w.heap.size]?=_;rw[c];exact QA _ _
 have J:Hid (TSt a tb l st):=by show TSt _ _ _ _;rw[c];exact(h.below (Qs (.cells #[.string (sA b),.slice none 0 0,.int .i64 0,.slice none 0 0,.slice none 0 0,.int .i64 (O l st).2.2.2] 155))).block rfl
 clear h d c v z;have L:=I hw;clear hw C;go_enter func115,ntmps115;go_wp2_with fail;go_region;rw[<-M.o];have V:=Qj (w:=a) (g.o.r.mod m.o g.o.n);have n0:=Qj f.o;have n5:=QM f.o;go_wp2_with fail;refine(ZU tb l st a J.o x).mono ?_;rintro e w1 ⟨rfl,j,A⟩;have p:=I (m.o.trans j);have E:=I (Qu f.o j u);have q:=I A;clear j A;go_wp2_with fail;refine(Yi rb tb nv l 59 _ _ (g.o.mod p.o).r q.o x).mono ?_;rintro e w2 ⟨rfl,k,B⟩;have D:=I (p.o.trans k);have G:=I (Qu E.o k u);have K:=I B;clear k B;go_wp2;go_ret;have t:=N.o.trans (NJ q.o);exact QS.mk D.o (by rw[(congrArg stOf t).trans VL];exact K.o) ⟨_,rfl⟩ (fun y Q=>by rw[show y.1=_ from VM (t.symm.trans Q)];exact Us Qt G.o L.o.symm (Qd ⟨rfl,rfl⟩) (Qd ⟨rfl,rfl⟩) (Qd ⟨rfl,rfl⟩))
theorem Ov(rb tb:Nat)(nv:Value)(rq:Qa)(l:L8)(F n i:Nat)(st:Qb PS)(w:World)(d:RdI w rb tb nv rq)(h:TSt w tb l st)(z:l.length<=600)(hF:2*l.length+2<=F)(Y:i+n=6)(x:(O l st).1=119)(hw:(O l st).2.1=JI) :
 Calls prog 115 #[.pointer (some ⟨rb,0,none⟩),.int .i64 i] w (QS (bindS st (cmdL l rq F (n+1))) tb l w (RCmd (n+1) (fromB w.heap.size)) XA):=by
 have N:Hid (bindS st (cmdL l rq F (n+1))=bindS (nextS l st) fun s=>semi l s (⟨1,(O l st).2.2.2,0,[],[],false⟩,[],[])):=by
  show _=_
  rw[Uq h x (by rw[hw];decide),hw,GH (by decide) (by decide)];rfl
 have r0:=Qj d.r;obtain⟨R,S,P,T,U⟩:=h.cells;have H:=I h;have g:=I d;have ab:=Qh d.r;have ac:=h.lt;have v:w.heap.size≠tb:=by omega
 have aa:w.heap.size≠rb:=by omega
 have Z:decide ((6:Int)<(i:Int))=false:=Qr (by omega);obtain⟨b,A⟩:=Qf ((O l st).2.1);rw[A]at P hw;have m:=hw;have W:=Ql [107,101,101,112] m rfl
 have X:=Zz [100,105,115,99,97,114,100] m rfl
 obtain⟨a,c⟩:=QE ((w.alloc (.cells #[.string (sA b),.slice none 0 0,.int .i64 0,.slice none 0 0,.slice none 0 0,.int .i64 (O l st).2.2.2] 155)).drew);have M:=I c;have p:Hid (Mod tb w a):=by show Mod _ _ _;rw[c];exact((Mod.refl _ _).alloc _).drew
 have f:Hid (CNode a w.heap.size b (.slice none 0 0) 0 (.slice none 0 0) (.slice none 0 0) (O l st).2.2.2):=by show a.heap[w.heap.size]?=_;rw[c];exact QA _ _
 have J:Hid (TSt a tb l st):=by show TSt _ _ _ _;rw[c];exact(h.below (Qs (.cells #[.string (sA b),.slice none 0 0,.int .i64 0,.slice none 0 0,.slice none 0 0,.int .i64 (O l st).2.2.2] 155))).block rfl
 clear h d c x A;have L:=I hw;clear hw m;go_enter func115,ntmps115;go_wp2_with fail;go_region;rw[<-M.o];have V:=Qj (w:=a) (g.o.r.mod p.o g.o.n);have n0:=Qj f.o;have n5:=QM f.o;go_wp2_with fail;refine(ZU tb l st a J.o z).mono ?_;rintro e w1 ⟨rfl,j,B⟩;have q:=I (p.o.trans j);have E:=I (Qu f.o j v);have t:=I B;clear j B;go_wp2_with fail;refine(Yi rb tb nv l 59 _ _ (g.o.mod q.o).r t.o z).mono ?_;rintro e w2 ⟨rfl,k,C⟩;have D:=I (q.o.trans k);have G:=I (Qu E.o k v);have K:=I C;clear k C;go_wp2;go_ret;have u:=N.o.trans (NJ t.o);exact QS.mk D.o (by rw[(congrArg stOf u).trans VL];exact K.o) ⟨_,rfl⟩ (fun y Q=>by rw[show y.1=_ from VM (u.symm.trans Q)];exact Us Qt G.o L.o.symm (Qd ⟨rfl,rfl⟩) (Qd ⟨rfl,rfl⟩) (Qd ⟨rfl,rfl⟩))
theorem Ow(rb tb:Nat)(nv:Value)(rq:Qa)(l:L8)(F n j:Nat)(st:Qb PS)(w:World)(d:RdI w rb tb nv rq)(h:TSt w tb l st)(z:l.length<=600)(hF:2*l.length+2<=F)(Z:j+n=6)(x:(O l st).1=119)(hw:(O l st).2.1=JJ) :
 Calls prog 115 #[.pointer (some ⟨rb,0,none⟩),.int .i64 j] w (QS (bindS st (cmdL l rq F (n+1))) tb l w (RCmd (n+1) (fromB w.heap.size)) XA):=by
 have N:Hid (bindS st (cmdL l rq F (n+1))=bindS (nextS l st) fun s=>semi l s (⟨2,(O l st).2.2.2,0,[],[],false⟩,[],[])):=by
  show _=_
  rw[Uq h x (by rw[hw];decide),hw,GH (by decide) (by decide)];rfl
 have r0:=Qj d.r;obtain⟨R,S,P,T,U⟩:=h.cells;have H:=I h;have i:=I d;have ac:=Qh d.r;have ad:=h.lt;have v:w.heap.size≠tb:=by omega
 have ab:w.heap.size≠rb:=by omega
 have aa:decide ((6:Int)<(j:Int))=false:=Qr (by omega);obtain⟨b,A⟩:=Qf ((O l st).2.1);rw[A]at P hw;have f:=hw;have W:=Ql [107,101,101,112] f rfl
 have X:=Ql [100,105,115,99,97,114,100] f rfl
 have Y:=Zz [115,116,111,112] f rfl
 obtain⟨a,c⟩:=QE ((w.alloc (.cells #[.string (sA b),.slice none 0 0,.int .i64 0,.slice none 0 0,.slice none 0 0,.int .i64 (O l st).2.2.2] 155)).drew);have M:=I c;have p:Hid (Mod tb w a):=by show Mod _ _ _;rw[c];exact((Mod.refl _ _).alloc _).drew
 have g:Hid (CNode a w.heap.size b (.slice none 0 0) 0 (.slice none 0 0) (.slice none 0 0) (O l st).2.2.2):=by show a.heap[w.heap.size]?=_;rw[c];exact QA _ _
 have J:Hid (TSt a tb l st):=by show TSt _ _ _ _;rw[c];exact(h.below (Qs (.cells #[.string (sA b),.slice none 0 0,.int .i64 0,.slice none 0 0,.slice none 0 0,.int .i64 (O l st).2.2.2] 155))).block rfl
 clear h d c x A;have L:=I hw;clear hw f;go_enter func115,ntmps115;go_wp2_with fail;go_region;rw[<-M.o];have V:=Qj (w:=a) (i.o.r.mod p.o i.o.n);have n0:=Qj g.o;have n5:=QM g.o;go_wp2_with fail;refine(ZU tb l st a J.o z).mono ?_;rintro e w1 ⟨rfl,k,B⟩;have q:=I (p.o.trans k);have E:=I (Qu g.o k v);have t:=I B;clear k B;go_wp2_with fail;refine(Yi rb tb nv l 59 _ _ (i.o.mod q.o).r t.o z).mono ?_;rintro e w2 ⟨rfl,m,C⟩;have D:=I (q.o.trans m);have G:=I (Qu E.o m v);have K:=I C;clear m C;go_wp2;go_ret;have u:=N.o.trans (NJ t.o);exact QS.mk D.o (by rw[(congrArg stOf u).trans VL];exact K.o) ⟨_,rfl⟩ (fun y Q=>by rw[show y.1=_ from VM (u.symm.trans Q)];exact Us Qt G.o L.o.symm (Qd ⟨rfl,rfl⟩) (Qd ⟨rfl,rfl⟩) (Qd ⟨rfl,rfl⟩))
theorem H7:stOf (bindS st (tBd l F sub 2 pos))=stOf (bindS st sub)/\∀ y,bindS st (tBd l F sub 2 pos)=.ok y->∃ z,bindS st sub=.ok z/\y.1=(⟨2,pos,0,false,[],[],0⟩,[z.1]):=by
 cases st with
 |error g=>exact⟨rfl,fun y e=>by cases e⟩
 |ok s=>
  simp only[bindS,tBd]
  cases sub s with
  |error g=>exact⟨rfl,fun y e=>by cases e⟩
  |ok z=>exact⟨rfl,fun y e=>⟨z,rfl,by cases e;rfl⟩⟩
theorem GG{w2:World}{c:Array Value}{e:TypeId}(j:Mod tb w w2)(d:w2.heap[gb]?=some (.cells c e))(o:Nat)(v:Value)(a:Obj)(f:w.heap.size<=gb:=by omega):Mod tb w ((w2.setCell ⟨gb,o,none⟩ v).alloc a)/\((w2.setCell ⟨gb,o,none⟩ v).alloc a).heap[gb]?=some (.cells (c.setIfInBounds o v) e)/\((w2.setCell ⟨gb,o,none⟩ v).alloc a).heap[w2.heap.size]?=some a/\∀ k,k<w2.heap.size->k≠gb->((w2.setCell ⟨gb,o,none⟩ v).alloc a).heap[k]?=w2.heap[k]?:=by
 have i:=Qh d;have b:(w2.setCell ⟨gb,o,none⟩ v).heap.size=w2.heap.size:=World.size_setCell _ _ _;refine⟨(j.setNew f _ _).alloc _,?_,?_,fun k g l=>?_⟩
 ·rw[Below.heap_alloc _ _ _ (by rw[b];exact i)];exact Qv _ _ _ _ _ _ d
 ·rw[<-b];exact QA _ _
 ·rw[Below.heap_alloc _ _ _ (by rw[b];exact g)];exact Below.heap_setCell _ _ _ _ l
def TOk(rb tb:Nat)(nv:Value)(rq:Qa)(l:L8)(F n deep:Nat):Prop:=
 ∀ st w,RdI w rb tb nv rq->TSt w tb l st->Calls prog 214 #[.pointer (some ⟨rb,0,none⟩),.int .i64 deep] w (QS (bindS st (Qq l rq F n)) tb l w (RTest n (fromB w.heap.size)) XA)
theorem Oj(rb tb:Nat)(nv:Value)(rq:Qa)(l:L8)(F n f:Nat)(st:Qb PS)(w:World)(q:RdI w rb tb nv rq)(h:TSt w tb l st)(hl:l.length<=600)(hF:2*l.length+2<=F)(hd:f+n=6)(P:TOk rb tb nv rq l F n (f+1))(b:(O l st).1=119)(hw:(O l st).2.1=kNot) :
 Calls prog 214 #[.pointer (some ⟨rb,0,none⟩),.int .i64 f] w (QS (bindS st (Qq l rq F (n+1))) tb l w (RTest (n+1) (fromB w.heap.size)) XA):=by
 have M:Hid (bindS st (Qq l rq F (n+1))=bindS (nextS l st) (tBd l F (Qq l rq F n) 2 (O l st).2.2.2)):=by
  show _=_
  rw[Kq h b (by rw[hw];decide),hw,UV (by decide) (by decide)];rfl
 have r0:=Qj q.r;obtain⟨c2,c4,c5,c6,c7⟩:=h.cells;have H:=I h;have HR:=I q;have ay:=Qh q.r;have az:=h.lt;have D:w.heap.size≠tb:=by omega
 obtain⟨s0,S,_,_⟩:=ZZ h b;have he:errS st=0:=by rw[S];rfl
 have aq:((errS st:Int) != 0)=false:=by simp;omega
 have av:(((O l st).1:Int) != 119)=false:=by simp;omega
 have ap:decide ((6:Int)<(f:Int))=false:=Qr (by omega);obtain⟨c,Q⟩:=Qf ((O l st).2.1);rw[Q]at c5 hw;have s:=hw;have e0:=Ql [116,114,117,101] s rfl
 have e1:=Ql [102,97,108,115,101] s rfl
 have e2:=Zz [110,111,116] s rfl
 obtain⟨a,g⟩:=QE (w.alloc (.cells #[.string (sA c),.slice none 0 0,.slice none 0 0,.slice none 0 0,.int .i64 0,.bool false,.int .i64 0] 200));have ah:=I g;have X:Hid (Mod tb w a):=by show Mod _ _ _;rw[g];exact(Mod.refl _ _).alloc _
 have Z:Hid (XF a w.heap.size c 0 false):=by show a.heap[w.heap.size]?=_;rw[g];exact QA _ _
 have ab:Hid (TSt a tb l st):=by show TSt _ _ _ _;rw[g];exact h.below (Qs _)
 clear h q g S he b Q;have ag:=I hw;clear hw s;have W:=I P;clear P;have ao:f<=6:=by omega
 go_enter func214,ntmps214;go_wp2_with fail;rw[<-ah.o];refine(ZU tb l st a ab.o hl).mono ?_;rintro e V ⟨rfl,E,T⟩;have t:=I (X.o.trans E);have u:=I (Qu Z.o E D);have ac:=I T;clear E T;go_wp2_with fail;refine(W.o (nextS l st) _ (HR.o.mod t.o) ac.o).mono ?_;rintro e d N;obtain⟨p,K,v,rfl,⟨A,rfl⟩,U⟩:=N.st;have ax:=Qh u.o;have i:=Qu u.o p D;have aw:w.heap.size<d.heap.size:=Qh i;have R:=t.o.size;have aj:=p.size;obtain⟨x,B⟩:=QE ((d.setCell ⟨w.heap.size,1,none⟩ (.slice (some ⟨d.heap.size,0,none⟩) 1 1)).alloc (.cells #[.pointer (some ⟨A,0,none⟩)] 158));have af:=I B;obtain⟨G,J,C,m⟩:=GG (t.o.trans p) i 1 (.slice (some ⟨d.heap.size,0,none⟩) 1 1) (.cells #[.pointer (some ⟨A,0,none⟩)] 158);rw[<-B]at G J C m;have Y:=I G;have aa:=I J;have ad:=I (K.block (m tb K.lt (Ne.symm D)))
 have ae:Hid (∀ z,bindS (nextS l st) (Qq l rq F n)=.ok z->trY (RTest n) (fromB w.heap.size) [z.1] x (.slice (some ⟨d.heap.size,0,none⟩) 1 1)):=by
  intro z L;refine Qc ⟨by simp,d.heap.size,1,rfl,Qm R aj,fun j hj=>?_⟩;have h0:j=0:=by simpa using hj
  subst h0;refine⟨.pointer (some ⟨A,0,none⟩),Qn C 0,?_⟩;refine(ZB n).weak (fromB V.heap.size) _ _ _ _ ((ZB n).keep _ _ _ _ _ (U z L) ?_) (fun k b _=>Qm R b);intro k b ai;have au:V.heap.size<=k:=b;have:=Qh u.o;exact m k ai (by omega)
 have ar:=fun o=>Qz i o
 have d2:=Qo i;clear N p K U i G J C m B;go_wp2;go_ret;rw[<-af.o];refine QS.mk Y.o (by rw[(congrArg stOf M.o).trans H7.1];exact ad.o) ⟨_,rfl⟩ (fun y hy=>?_);obtain⟨z,L,ak⟩:=H7.2 y (M.o.symm.trans hy);rw[ak];exact Kt Qt aa.o ag.o.symm (ae.o z L) (Qd ⟨rfl,rfl⟩) (Qd ⟨rfl,rfl⟩)
end
end Go.Proofs.YtgnkjijocdmniaaGreatDoor
