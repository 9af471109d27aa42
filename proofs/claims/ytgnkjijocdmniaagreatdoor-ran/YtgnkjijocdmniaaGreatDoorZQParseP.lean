import Derived.Test.YtgnkjijocdmniaaGreatDoorZQBrB
import Derived.Test.YtgnkjijocdmniaaGreatDoorQCmdT
namespace Go.Proofs.YtgnkjijocdmniaaGreatDoor
set_option linter.all false
set_option maxRecDepth 100000
set_option maxHeartbeats 4000000
open Go.Proofs.Tryz
open Go.RowKit
variable{α β:Type}{C:Value}{F gb n pos q tb:Nat}{R:Qq (Qn×PS)}{l:L8}{rq:Qn}{st:Qq PS}{u w:World}
section
attribute [local go_sem ↓] Zt Zu
theorem Tryz.infoSlCmd:(prog.info? 113).map (fun i=>(i.zero,i.size,i.bytes))=some (some Qp,1,24):=Qm
structure E9 (n:Nat) (M:Qq ((Xa×List (Zn n×List (Q5 n))×List (Q5 n))×PS)) (u:World) (tb gb:Nat) (l nm:L8) (pos:Nat) (e:Ending) (w':World):Prop where
 e:e=.returned (.tuple #[])
 m:Mod tb u w'
 t:TSt w' tb l (stOf M)
 ok:∀y,M=.ok y->∃tv bv,CNode w' gb nm Qp 0 tv bv pos∧trY (RTest n) (fromB u.heap.size) (y.1.2.1.map Prod.fst) w' tv∧trY (trY (RCmd n)) (fromB u.heap.size) (YN y.1) w' bv
theorem BrR.done{o:L8}{f c:Value}{b:List (Zn n×List (Q5 n))}{d:List (List (Q5 n))}{i j:List Value}(g:b≠[])(h:BrI u tb gb o pos w f c i j)(hu:u.heap.size<=gb)(hr:BrR n gb w f c b d i j):trY (RTest n) (fromB u.heap.size) (b.map Prod.fst) w f/\trY (trY (RCmd n)) (fromB u.heap.size) (b.map Prod.snd++d) w c:=by
 have h1:b.map Prod.fst≠[]:=by simpa using g
 have h2:b.map Prod.snd++d≠[]:=by simp;exact fun e=>absurd e g
 have l:=U8 hr.r1;have m:=U8 hr.r2;have o1:=h.o1;have o2:=h.o2;rw[<-l]at o1;rw[<-m]at o2
 exact ⟨Qr ⟨h1,trX.weakQ (XX n) h1 (trX.of_ownsQ (XX n) o1 rfl h1 (hr.r1.imp (fun a u hu=>hu.left))) (fun k hk _=>QE (Nat.le_succ_of_le hu) hk)⟩,
  Qr ⟨h2,trX.weakQ (Xk (XD n)) h2 (trX.of_ownsQ (Xk (XD n)) o2 rfl h2 (hr.r2.imp (fun a u hu=>hu.swap.left))) (fun k hk _=>QE (Nat.le_succ_of_le hu) hk)⟩⟩
theorem R9{rb:Nat}{nv:Value}{ao:Nat}{nm:L8}(hr:RdI u rb tb nv rq)(hm:Mod tb u w)(ae:u.heap.size<=gb)(bk:tb<u.heap.size)(aE:CNode w gb nm Qp 0 Qp Qp pos)(h:TSt w tb l st)(hl:l.length<=600)(hF:2*l.length+2<=F)(hd:ao<=6)(hT:TOk rb tb nv rq l F n (ao+1))(hC:COk rb tb nv rq l F n (ao+1)):Calls prog 173 #[Qc rb,Qc gb,Qa ao] w (E9 n (bindS st (cBd l F (QP l rq F n) (cmdL l rq F n) 7 pos)) u tb gb l nm pos):=by
 have aK:gb≠tb:=I
 obtain⟨R,aJ,aC⟩:=P5 (F:=F) (pos:=pos) (tst:=QP l rq F n) (sub:=cmdL l rq F n) h hl hF;generalize bindS st (cBd l F (QP l rq F n) (cmdL l rq F n) 7 pos)=M at aC ⊢;have bx:=O aJ;have bz:=O aC;have HR:=O hr;have HM:=O hm;have bu:=O aE;have H:=O h;have HT:=O hT;have HC:=O hC;have a4:=O (fun s V=>NQ (l:=l) (req:=rq) (F:=F) n s V);have a3:=O (fun s V=>Na (l:=l) (req:=rq) (F:=F) n s V);have a8:=AV h hl;obtain⟨i0,hi,bc,bd,bf⟩:=ZU Tryz.infoPtrTest;obtain⟨j0,G,aX,aY,aZ⟩:=ZU Tryz.infoSlCmd;clear aJ aC hr hm aE h hT hC;go_enter func173,ntmps173;go_upto_block 0 with fail
 go_cut [] (fun wx=>∃(d:Qq PS) (A q:Value) (B t:List Value),BrI u tb gb nm pos wx A q B t/\TSt wx tb l d/\stOf R=d/\t.length<=1301/\∀y,R=.ok y->y.1≠[]/\BrR n gb wx A q y.1 [] B t)
 case first=>
  go_wp2_with fail
  go_loopg [6,7] (muS l st) (fun k _ _ wr=>∃(d:Qq PS) (W:List (Zn n×List (Q5 n))) (A q:Value) (B t:List Value),k=muS l d/\BrI u tb gb nm pos wr A q B t/\TSt wr tb l d/\ArmI R l F (QP l rq F n) (cmdL l rq F n) d W/\B.length+muS l d<=1300/\t.length+muS l d<=1300/\∀s,d=.ok s->BrR n gb wr A q W [] B t)
  case atStart=>exact⟨st,[],_,_,[],[],rfl,⟨bu,Z5,Z5,fun g h=>(by cases h),HM⟩,H,bx,by simp;omega,by simp;omega,fun _ _=>⟨trivial,trivial⟩⟩
  case round=>
   obtain⟨d,W,A,q,B,t,rfl,C,L,aL,bi,bj,aF⟩:=hrel;have bl:=O C;have bp:=O L;have bA:=O aL;have bw:=O aF;have bb:=QI C.nd;have aS:=O (HT d wr (HR.o.mod C.m) L);clear C L aL aF a8 bu H HM;go_wp2_with fail;refine aS.mono ?_;rintro e w2 h2;obtain⟨Z,aj,v,rfl,⟨g2,rfl⟩,aW⟩:=h2.st;have J:=bl.o.mod Z I;have bm:=O J;have bB:=O aj;have aO:=J.o1;have ba:=QI J.nd;have t1:=Qj J.nd 3
   have aG:Hid (∀z,bindS d (QP l rq F n)=.ok z->Zz (fun a u=>Zo (RTest n) (gb+1) w2 A q a u) ((W.map Prod.fst)++[z.1]) (B++[Qc g2])/\Zz (fun a u=>Zo (trY (RCmd n)) (gb+1) w2 A q a u) (W.map Prod.snd++[]) t):=by
    intro z p
    obtain⟨s,V⟩:∃s,d=.ok s:=by
     cases d with
     |ok s=>exact⟨s,rfl⟩
     |error f=>cases p
    exact⟨Zz.snoc (P:=fun a u=>Zo (RTest n) (gb+1) w2 A q a u) (Zo.new (XX n) (aW z p) bb (fun k i=>(bl.o1.lt k i).2) (fun k i=>(bl.o2.lt k i).2)) ((bw s V).r1.imp (fun a u c=>Zo.mod (XX n) (b:=tb) c Z I)),(bw s V).r2.imp (fun a u c=>Zo.mod (Xk (XD n)) (b:=tb) c Z I)⟩
   clear h2 Z aj aW J bl aS;go_wp2_with (at_builtin;refine Kf _ rfl _ _ 152 rfl (gb+1) 158 i0 (.pointer none) 1 8 underlying152 hi bc bd bf rfl Qb _ _ _ rfl (aO.alloc _) ⟨w2.heap.size,0,none⟩ 1 1 [Qc g2] rfl rfl ?c1 ?c2 ?c3 ?c4 ?c5 ?_)
   case c1=>
    intro j u G
    match j,G with
    |0,G=>simp at G;subst G;simp[Addr.add]
   case c2=>intro u c;simp at c;subst c;rfl
   case c3=>unfold maxLen;omega
   case c4=>omega
   case c5=>simp;omega
   .intro v' w5 aP E _ S;have aM:=VB (gb:=gb) aO ba E;have aN:=(aM gb (Xp _)).trans bm.nd;obtain⟨p5,m5,ab,rfl⟩:=G2 aP;obtain⟨W6,ax⟩:=Q3 (w5.setCell ⟨gb,3,none⟩ (.slice p5 m5 ab));have bD:=O ax;have Y:=bm.app1 ae E aP S;rw[<-ax]at Y;have br:=O Y
    have aT:Hid (TSt W6 tb l (stOf (bindS d (QP l rq F n)))):=by
     show TSt _ _ _ _
     rw[ax];exact(bB.o.block (aM tb I)).block (Q' (Ne.symm aK))
    have aH:Hid (∀z,bindS d (QP l rq F n)=.ok z->Zz (fun a u=>Zo (RTest n) (gb+1) W6 (.slice p5 m5 ab) q a u) ((W.map Prod.fst)++[z.1]) (B++[Qc g2])/\Zz (fun a u=>Zo (trY (RCmd n)) (gb+1) W6 (.slice p5 m5 ab) q a u) (W.map Prod.snd++[]) t):=by
     intro z p;rw[ax];exact⟨(aG z p).1.imp (fun a u c=>Zo.set (XX n) (Zo.grown (XX n) c E S) (Xp _) _ _),(aG z p).2.imp (fun a u c=>Zo.set (Xk (XD n)) (Zo.grown (Xk (XD n)) c E S) (Xp _) _ _)⟩
    have f5:=fun o=>QQ aN o
    have t5:=Qj aN 3;have a7:=QI Y.nd;have aq:=O (Ip (HR.o.mod Y.m) aT hl hF hd HC);clear aP E aO S aM aN ax Y bm bB aG bw;go_wp2_with (rw[<-bD.o]);go_wp2_with fail;refine aq.mono ?_;rintro e w7 h7;obtain⟨aa,ac,v,rfl,⟨p7,m7,c7,rfl⟩,aA⟩:=h7.st;have ap:=O (QxP a4 a3 bA bp rfl ac);have K:=br.o.mod aa I;have bn:=O K;have aI:=O ac;have ah:=K.o2;have aQ:=QI K.nd;have t7:=Qj K.nd 4
    have ad:Hid (∀z x,bindS d (QP l rq F n)=.ok z->bindS (stOf (bindS d (QP l rq F n))) (blockL l F (cmdL l rq F n))=.ok x->Zz (fun a u=>Zo (RTest n) (gb+1) w7 (.slice p5 m5 ab) q a u) ((W.map Prod.fst)++[z.1]) (B++[Qc g2])/\Zz (fun a u=>Zo (trY (RCmd n)) (gb+1) w7 (.slice p5 m5 ab) q a u) ((W.map Prod.snd++[])++[x.1]) (t++[.slice p7 m7 c7])):=by
     intro z x p N;exact⟨(aH z p).1.imp (fun a u c=>Zo.mod (XX n) (b:=tb) c aa I),Zz.snoc (P:=fun a u=>Zo (trY (RCmd n)) (gb+1) w7 (.slice p5 m5 ab) q a u) (Zo.new (Xk (XD n)) (aA x N) a7 (fun k i=>(br.o1.lt k i).2) (fun k i=>(br.o2.lt k i).2)) ((aH z p).2.imp (fun a u c=>Zo.mod (Xk (XD n)) (b:=tb) c aa I))⟩
    obtain⟨D,aU⟩:=Qw (stOf (bindS (stOf (bindS d (QP l rq F n))) (blockL l F (cmdL l rq F n))));rw[aU]at ap aI;clear h7 aa ac aA K br aq aT aH aU bp bA;go_wp2_with (at_builtin;refine Kf _ rfl _ _ 153 rfl (gb+1) 113 j0 Qp 1 24 underlying153 G aX aY aZ rfl Qb _ _ _ rfl (ah.alloc _) ⟨w7.heap.size,0,none⟩ 1 1 [.slice p7 m7 c7] rfl rfl ?c1 ?c2 ?c3 ?c4 ?c5 ?_)
    case c1=>
     intro j u G
     match j,G with
     |0,G=>simp at G;subst G;simp[Addr.add]
    case c2=>intro u c;simp at c;subst c;rfl
    case c3=>unfold maxLen;omega
    case c4=>omega
    case c5=>simp;omega
    .intro bg w8 ai E _ S;have af:=VB (gb:=gb) ah aQ E;have ag:=(af gb (Xp _)).trans bn.nd;obtain⟨p8,m8,c8,rfl⟩:=G2 ai;obtain⟨U,Q⟩:=Q3 (w8.setCell ⟨gb,4,none⟩ (.slice p8 m8 c8));have bq:=O Q;have T:=bn.app2 ae E ai S;rw[<-Q]at T;have bo:=O T
     have ak:Hid (TSt U tb l D):=by
      show TSt _ _ _ _
      rw[Q];exact(aI.o.block (af tb I)).block (Q' (Ne.symm aK))
     have au:Hid (∀z x,bindS d (QP l rq F n)=.ok z->bindS (stOf (bindS d (QP l rq F n))) (blockL l F (cmdL l rq F n))=.ok x->BrR n gb U (.slice p5 m5 ab) (.slice p8 m8 c8) (W++[(z.1,x.1)]) [] (B++[Qc g2]) (t++[.slice p7 m7 c7])):=by
      intro z x p N;rw[Q];refine⟨?_,?_⟩
      .rw[KC];exact(ad z x p N).1.imp (fun a u c=>Zo.set (XX n) (Zo.grown (XX n) c.swap E S).swap (Xp _) _ _)
      .rw[KC,J3];have:=(ad z x p N).2;rw[J3]at this;exact this.imp (fun a u c=>Zo.set (Xk (XD n)) (Zo.grown (Xk (XD n)) c.swap E S).swap (Xp _) _ _)
     have f8:=fun o=>QQ ag o
     have t8:=Qj ag 4;obtain⟨q2,q4,q5,_,_⟩:=ak.o.cells;have qr:=Qj (HR.o.mod T.m).r 0;have e5:((sA (Qk l D).2.1).toList==[101,108,115,105,102])=decide ((Qk l D).2.1=YB):=Z3;clear ai E ah S af ag Q T bn aI ad;by_cases i:(Qk l D).1=119/\(Qk l D).2.1=YB
     .obtain⟨he,a9,z1,z2,a0,a1,N⟩:=ap.1 i;have az:(((Qk l D).1:Int) != 119)=false:=by simp;omega
      have ay:((errS D:Int) != 0)=false:=by simp;omega
      rw[QU i.2]at e5;have HX:=O N;have HZ:=O (au z1 z2 a0 a1);clear N a0 a1 ap i;go_wp2_with (rw[<-bq.o]);go_wp2_with fail;refine Qv (X0 (ak.o.block rfl) hl) ?_;rintro wa ⟨aD,aV⟩;have bC:=O aV;have a2:=O (bo.o.mod aD I);have a5:Hid (BrR n gb wa (.slice p5 m5 ab) (.slice p8 m8 c8) (W++[(z1.1,z2.1)]) [] (B++[Qc g2]) (t++[.slice p7 m7 c7])):=⟨HZ.r1.imp (fun a u c=>Zo.mod (XX n) (b:=tb) c aD I),HZ.r2.imp (fun a u c=>Zo.mod (Xk (XD n)) (b:=tb) c aD I)⟩;clear aD aV;go_wp2;go_roundg (muS l (nextS l D))
      case measure=>exact a9
      case rel=>exact⟨nextS l D,_,_,_,_,_,rfl,a2,bC,HX,by simp;omega,by simp;omega,fun _ _=>a5⟩
     .obtain⟨hR,hy⟩:=ap.2 i;have X:=O hy
      have ar:Hid (∃(d:Qq PS) (A q:Value) (B t:List Value),BrI u tb gb nm pos U A q B t/\TSt U tb l d/\stOf R=d/\t.length<=1301/\∀y,R=.ok y->y.1≠[]/\BrR n gb U A q y.1 [] B t):=by
       refine⟨D,_,_,_,_,bo,ak,hR,by simp;omega,fun y e=>?_⟩;obtain⟨z1,z2,h1,h2,hh⟩:=X y e;rw[hh];exact⟨Qh,au z1 z2 h1 h2⟩
      clear hy ap X hR;by_cases hk1:(Qk l D).1=119
      .have az:(((Qk l D).1:Int) != 119)=false:=by simp;omega
       have ay:((errS D:Int) != 0)=false:=by obtain⟨s,V,_,_⟩:=XS ak hk1;rw[V];rfl
       rw[QB (fun e=>i ⟨hk1,e⟩)]at e5;clear i hk1;go_wp2_with (rw[<-bq.o]);go_wp2;go_meet;exact ar
      .have az:(((Qk l D).1:Int) != 119)=true:=by simp;omega
       clear i hk1 e5;cases ay:((errS D:Int) != 0)
       all_goals go_wp2_with (rw[<-bq.o])
       all_goals go_wp2
       all_goals go_meet
       all_goals exact ar
 case rest=>
  obtain⟨d,A,q,B,t,C,L,hR,bh,hy⟩:=hcut;rw[<-hR]at L;obtain⟨av,aw⟩:=bz wc L;rw[hR]at av aw L;have bl:=O C;have bp:=O L;have X:=O hy;have e5:((sA (Qk l d).2.1).toList==[101,108,115,101])=decide ((Qk l d).2.1=Yv):=Z3;obtain⟨q2,q4,q5,_,_⟩:=L.cells;have qr:=Qj (HR.o.mod C.m).r 0;have bs:=O av;have bt:=O aw;clear C L hy hR av aw bz bx HM bu H HT;by_cases i:(Qk l d).1=119/\(Qk l d).2.1=Yv
  .obtain⟨hS,hO⟩:=bs i;have az:(((Qk l d).1:Int)==119)=true:=by simp;omega
   have ay:((errS d:Int)==0)=true:=by obtain⟨s,V,_,_⟩:=XS bp i.1;rw[V];rfl
   rw[QU i.2]at e5;have HS:=O hS;have HO:=O hO;clear hS hO bs bt i;go_wp2_with fail;refine Qv (X0 (bp.o.block rfl) hl) ?_;rintro w2 ⟨Z,aj⟩;have J:=bl.o.mod Z I;have bm:=O J;have aB:Hid (∀y,R=.ok y->y.1≠[]/\BrR n gb w2 A q y.1 [] B t):=fun y e=>⟨(X y e).1,(X y e).2.r1.imp (fun a u c=>Zo.mod (XX n) (b:=tb) c Z I),(X y e).2.r2.imp (fun a u c=>Zo.mod (Xk (XD n)) (b:=tb) c Z I)⟩
   have a6:=QI J.nd;have aq:=O (Ip (HR.o.mod J.m) aj hl hF hd HC);clear Z aj J bl X;go_wp2_with fail;refine aq.mono ?_;rintro e w7 h7;obtain⟨aa,ac,v,rfl,⟨p7,m7,c7,rfl⟩,aA⟩:=h7.st;have K:=bm.o.mod aa I;have bn:=O K;have aI:=O ac;have ah:=K.o2;have aQ:=QI K.nd;have t7:=Qj K.nd 4
   have ad:Hid (∀y x,R=.ok y->bindS (nextS l d) (blockL l F (cmdL l rq F n))=.ok x->Zz (fun a u=>Zo (RTest n) (gb+1) w7 A q a u) (y.1.map Prod.fst) B/\Zz (fun a u=>Zo (trY (RCmd n)) (gb+1) w7 A q a u) ((y.1.map Prod.snd++[])++[x.1]) (t++[.slice p7 m7 c7])):=by
    intro z x p N;exact⟨(aB z p).2.r1.imp (fun a u c=>Zo.mod (XX n) (b:=tb) c aa I),Zz.snoc (P:=fun a u=>Zo (trY (RCmd n)) (gb+1) w7 A q a u) (Zo.new (Xk (XD n)) (aA x N) a6 (fun k i=>(bm.o1.lt k i).2) (fun k i=>(bm.o2.lt k i).2)) ((aB z p).2.r2.imp (fun a u c=>Zo.mod (Xk (XD n)) (b:=tb) c aa I))⟩
   clear h7 aa ac aA K bm aq;go_wp2_with (at_builtin;refine Kf _ rfl _ _ 153 rfl (gb+1) 113 j0 Qp 1 24 underlying153 G aX aY aZ rfl Qb _ _ _ rfl (ah.alloc _) ⟨w7.heap.size,0,none⟩ 1 1 [.slice p7 m7 c7] rfl rfl ?c1 ?c2 ?c3 ?c4 ?c5 ?_)
   case c1=>
    intro j u G
    match j,G with
    |0,G=>simp at G;subst G;simp[Addr.add]
   case c2=>intro u c;simp at c;subst c;rfl
   case c3=>unfold maxLen;omega
   case c4=>omega
   case c5=>simp;omega
   .intro bg w8 ai E _ S;have af:=VB (gb:=gb) ah aQ E;have ag:=(af gb (Xp _)).trans bn.nd;obtain⟨p8,m8,c8,rfl⟩:=G2 ai;obtain⟨U,Q⟩:=Q3 (w8.setCell ⟨gb,4,none⟩ (.slice p8 m8 c8));have bq:=O Q;have T:=bn.app2 ae E ai S;rw[<-Q]at T;have bo:=O T
    have ak:Hid (TSt U tb l (stOf (bindS (nextS l d) (blockL l F (cmdL l rq F n))))):=by
     show TSt _ _ _ _
     rw[Q];exact(aI.o.block (af tb I)).block (Q' (Ne.symm aK))
    have au:Hid (∀y x,R=.ok y->bindS (nextS l d) (blockL l F (cmdL l rq F n))=.ok x->BrR n gb U A (.slice p8 m8 c8) y.1 [x.1] B (t++[.slice p7 m7 c7])):=by
     intro z x p N;rw[Q];refine⟨(ad z x p N).1.imp (fun a u c=>Zo.set (XX n) (Zo.grown (XX n) c.swap E S).swap (Xp _) _ _),?_⟩;have:=(ad z x p N).2;rw[J3]at this;exact this.imp (fun a u c=>Zo.set (Xk (XD n)) (Zo.grown (Xk (XD n)) c.swap E S).swap (Xp _) _ _)
    have f8:=fun o=>QQ ag o
    have t8:=Qj ag 4;clear ai E ah S af ag Q T bn aI ad;go_wp2_with (rw[<-bq.o]);go_wp2;go_end0
    try rw[<-bq.o]
    refine⟨rfl,bo.m,by rw[HS.o];exact ak,fun y hy=>?_⟩;obtain⟨z,x,p,N,aR⟩:=HO y hy;rw[aR];exact⟨A,_,bo.nd,(BrR.done (aB z p).1 bo ae (au z x p N)).1,(BrR.done (aB z p).1 bo ae (au z x p N)).2⟩
  .obtain⟨hS,hO⟩:=bt i
   have ar:Hid (E9 n M u tb gb l nm pos (.returned (.tuple #[])) wc):=by
    refine⟨rfl,bl.m,by rw[hS];exact bp,fun y hy=>?_⟩;obtain⟨z,p,aR⟩:=hO y hy;rw[aR];exact⟨A,q,bl.nd,(BrR.done (X z p).1 bl ae (X z p).2).1,(BrR.done (X z p).1 bl ae (X z p).2).2⟩
   clear hS hO bs bt;by_cases hk1:(Qk l d).1=119
   .have az:(((Qk l d).1:Int)==119)=true:=by simp;omega
    have ay:((errS d:Int)==0)=true:=by obtain⟨s,V,_,_⟩:=XS bp hk1;rw[V];rfl
    rw[QB (fun e=>i ⟨hk1,e⟩)]at e5;clear i hk1;go_wp2;go_end0;exact ar
   .have az:(((Qk l d).1:Int)==119)=false:=by simp;omega
    clear i hk1 e5;cases ay:((errS d:Int)==0)
    all_goals go_wp2
    all_goals go_end0
    all_goals exact ar
theorem N0{R:Qq (Zk×PS)}:stOf (QL R fun x s1=>.ok ((x,([]:List α)),s1))=stOf R/\∀y,(QL R fun x s1=>.ok ((x,([]:List α)),s1))=.ok y->∃z,R=.ok z/\y.1=(z.1,[]):=by
 cases R with
 |error g=>exact⟨rfl,fun y e=>by cases e⟩
 |ok z=>exact⟨rfl,fun y e=>⟨z,rfl,by cases e;rfl⟩⟩
theorem DY{g:PS->Qq (α×PS)}{k:α->PS->Qq (β×PS)}:bindS st (fun s=>QL (g s) k)=QL (bindS st g) k:=by cases st<;>rfl
theorem C3{chk:L8->Nat}{k:Nat}{R:Qq ((Nat×Bool)×PS)}{y:Zk×PS}(h:matchM l F chk k pos R=.ok y):y.1.kind=k/\y.1.num=0:=by
 unfold matchM at h
 cases R with
 |error g=>cases h
 |ok o=>
  simp only[QL]at h
  cases h1:sLs l chk F o.2 with
  |error g=>rw[h1]at h;cases h
  |ok a=>
   rw[h1]at h;simp only at h
   cases h2:sLs l (fun _=>0) F a.2 with
   |error g=>rw[h2]at h;cases h
   |ok b=>rw[h2]at h;cases h;exact⟨rfl,rfl⟩
theorem Su(n k:Nat)(b:RdI w q tb C rq)(h:TSt w tb l st)(M:l.length<=600)(hF:2*l.length+2<=F)(hd:k+n=6)(p:(Qk l st).1=119)(hw:(Qk l st).2.1=Y_):Calls prog 214 #[Qc q,Qa k] w (Zq (bindS st (QP l rq F (n+1))) tb l w (RTest (n+1) (fromB w.heap.size)) YW):=by
 have j:Hid (bindS st (QP l rq F (n+1))=QL (matchM l F (QV 0) 5 (Qk l st).2.2.2 (bindS (nextS l (preS l rq Y_ st)) (ZH l F 0 false false))) fun x R=>.ok ((x,[]),R)):=by
  show _=_
  rw[U9 h p (by rw[hw];decide),hw,<-Ep,<-DY];rfl
 have r0:=Qj b.r 0;obtain⟨S,T,H,U,V⟩:=h.cells;have HR:=O b;have ad:=QI b.r;have N:=h.lt;obtain⟨s0,A,_,_⟩:=XS h p;have he:errS st=0:=by rw[A];rfl
 have ab:((errS st:Int) != 0)=false:=by simp;omega
 have ac:(((Qk l st).1:Int) != 119)=false:=by simp;omega
 have aa:decide ((6:Int)<(k:Int))=false:=QB I;obtain⟨a,v⟩:=Qw ((Qk l st).2.1);rw[v]at H hw;have d:=hw;have W:=QG [116,114,117,101] d rfl
 have X:=QG [102,97,108,115,101] d rfl
 have Y:=QG [110,111,116] d rfl
 have Z:=QG [97,108,108,111,102] d rfl
 have e4:=QG [97,110,121,111,102] d rfl
 have e5:=XK [104,101,97,100,101,114] d rfl
 obtain⟨c,g⟩:=Q3 (w.alloc (Qe #[Qf a,Qp,Qp,Qp,Qa 0,.bool false,Qa 0] 200));have af:=O g;have s:Hid (Mod tb w c):=by show Mod _ _ _;rw[g];exact(Mod.refl _ _).alloc _
 have E:Hid (YD c w.heap.size a 0 false):=by show c.heap[w.heap.size]?=_;rw[g];exact Q0
 have G:Hid (TSt c tb l st):=by show TSt _ _ _ _;rw[g];exact h.below (QH _)
 clear h b g A he p v;have D:=O (CB 5 (Qk l st).2.2.2 0 HR.r HR.n s QF E (HR.o.mod s).txl HR.z G N M hF (by rw[hw];rfl));rw[<-hw]at j;have ae:=O hw;clear hw d;go_enter func214,ntmps214;go_wp2_with fail;rw[<-af.o];refine D.mono ?_;rintro e w2 f;have i:=O f;obtain rfl:=f.e;clear f;go_wp2;go_ret;refine Zq.mk i.m (by rw[(ZI stOf j).trans N0.1];exact i.t) ⟨_,rfl⟩ (fun y P=>?_);obtain⟨z,B,Q⟩:=N0.2 y (j.symm.trans P);rw[Q];obtain⟨u,L⟩:=C3 B;obtain⟨fv,kv,K,J,f⟩:=i.o.ok z B;exact Vz QF (by rw[L];exact K) (by rw[u];exact ae.symm) (Qt ⟨rfl,rfl⟩) (Qr J) (Qr f) (fun e=>absurd (u.symm.trans e) Qb)
theorem RF(n k:Nat)(b:RdI w q tb C rq)(h:TSt w tb l st)(M:l.length<=600)(hF:2*l.length+2<=F)(hd:k+n=6)(p:(Qk l st).1=119)(hw:(Qk l st).2.1=Zb):Calls prog 214 #[Qc q,Qa k] w (Zq (bindS st (QP l rq F (n+1))) tb l w (RTest (n+1) (fromB w.heap.size)) YW):=by
 have j:Hid (bindS st (QP l rq F (n+1))=QL (matchM l F (QV 3) 6 (Qk l st).2.2.2 (bindS (nextS l (preS l rq Zb st)) (ZH l F 0 false false))) fun x R=>.ok ((x,[]),R)):=by
  show _=_
  rw[U9 h p (by rw[hw];decide),hw,<-Ep,<-DY];rfl
 have r0:=Qj b.r 0;obtain⟨S,T,H,U,V⟩:=h.cells;have HR:=O b;have ad:=QI b.r;have N:=h.lt;obtain⟨s0,A,_,_⟩:=XS h p;have he:errS st=0:=by rw[A];rfl
 have ab:((errS st:Int) != 0)=false:=by simp;omega
 have ac:(((Qk l st).1:Int) != 119)=false:=by simp;omega
 have aa:decide ((6:Int)<(k:Int))=false:=QB I;obtain⟨a,v⟩:=Qw ((Qk l st).2.1);rw[v]at H hw;have c:=hw;have W:=QG [116,114,117,101] c rfl
 have X:=QG [102,97,108,115,101] c rfl
 have Y:=QG [110,111,116] c rfl
 have Z:=QG [97,108,108,111,102] c rfl
 have e4:=QG [97,110,121,111,102] c rfl
 have e5:=QG [104,101,97,100,101,114] c rfl
 have e6:=XK [101,110,118,101,108,111,112,101] c rfl
 obtain⟨d,g⟩:=Q3 (w.alloc (Qe #[Qf a,Qp,Qp,Qp,Qa 0,.bool false,Qa 0] 200));have af:=O g;have s:Hid (Mod tb w d):=by show Mod _ _ _;rw[g];exact(Mod.refl _ _).alloc _
 have E:Hid (YD d w.heap.size a 0 false):=by show d.heap[w.heap.size]?=_;rw[g];exact Q0
 have G:Hid (TSt d tb l st):=by show TSt _ _ _ _;rw[g];exact h.below (QH _)
 clear h b g A he p v;have D:=O (CB 6 (Qk l st).2.2.2 3 HR.r HR.n s QF E (HR.o.mod s).txl HR.z G N M hF (by rw[hw];rfl));rw[<-hw]at j;have ae:=O hw;clear hw c;go_enter func214,ntmps214;go_wp2_with fail;rw[<-af.o];refine D.mono ?_;rintro e w2 f;have i:=O f;obtain rfl:=f.e;clear f;go_wp2;go_ret;refine Zq.mk i.m (by rw[(ZI stOf j).trans N0.1];exact i.t) ⟨_,rfl⟩ (fun y P=>?_);obtain⟨z,B,Q⟩:=N0.2 y (j.symm.trans P);rw[Q];obtain⟨u,L⟩:=C3 B;obtain⟨fv,kv,K,J,f⟩:=i.o.ok z B;exact Vz QF (by rw[L];exact K) (by rw[u];exact ae.symm) (Qt ⟨rfl,rfl⟩) (Qr J) (Qr f) (fun e=>absurd (u.symm.trans e) Qb)
theorem SY(n k:Nat)(c:RdI w q tb C rq)(h:TSt w tb l st)(M:l.length<=600)(hF:2*l.length+2<=F)(hd:k+n=6)(p:(Qk l st).1=119)(hw:(Qk l st).2.1=Xc):Calls prog 214 #[Qc q,Qa k] w (Zq (bindS st (QP l rq F (n+1))) tb l w (RTest (n+1) (fromB w.heap.size)) YW):=by
 have j:Hid (bindS st (QP l rq F (n+1))=QL (matchM l F (QV 0) 7 (Qk l st).2.2.2 (bindS (nextS l (preS l rq Xc st)) (ZH l F 0 false false))) fun x R=>.ok ((x,[]),R)):=by
  show _=_
  rw[U9 h p (by rw[hw];decide),hw,<-Ep,<-DY];rfl
 have r0:=Qj c.r 0;obtain⟨S,T,H,U,V⟩:=h.cells;have HR:=O c;have ad:=QI c.r;have N:=h.lt;obtain⟨s0,A,_,_⟩:=XS h p;have he:errS st=0:=by rw[A];rfl
 have ab:((errS st:Int) != 0)=false:=by simp;omega
 have ac:(((Qk l st).1:Int) != 119)=false:=by simp;omega
 have aa:decide ((6:Int)<(k:Int))=false:=QB I;obtain⟨a,v⟩:=Qw ((Qk l st).2.1);rw[v]at H hw;have b:=hw;have W:=QG [116,114,117,101] b rfl
 have X:=QG [102,97,108,115,101] b rfl
 have Y:=QG [110,111,116] b rfl
 have Z:=QG [97,108,108,111,102] b rfl
 have e4:=QG [97,110,121,111,102] b rfl
 have e5:=QG [104,101,97,100,101,114] b rfl
 have e6:=QG [101,110,118,101,108,111,112,101] b rfl
 have e7:=XK [115,116,114,105,110,103] b rfl
 obtain⟨d,g⟩:=Q3 (w.alloc (Qe #[Qf a,Qp,Qp,Qp,Qa 0,.bool false,Qa 0] 200));have af:=O g;have s:Hid (Mod tb w d):=by show Mod _ _ _;rw[g];exact(Mod.refl _ _).alloc _
 have E:Hid (YD d w.heap.size a 0 false):=by show d.heap[w.heap.size]?=_;rw[g];exact Q0
 have G:Hid (TSt d tb l st):=by show TSt _ _ _ _;rw[g];exact h.below (QH _)
 clear h c g A he p v;have D:=O (CB 7 (Qk l st).2.2.2 0 HR.r HR.n s QF E (HR.o.mod s).txl HR.z G N M hF (by rw[hw];rfl));rw[<-hw]at j;have ae:=O hw;clear hw b;go_enter func214,ntmps214;go_wp2_with fail;rw[<-af.o];refine D.mono ?_;rintro e w2 f;have i:=O f;obtain rfl:=f.e;clear f;go_wp2;go_ret;refine Zq.mk i.m (by rw[(ZI stOf j).trans N0.1];exact i.t) ⟨_,rfl⟩ (fun y P=>?_);obtain⟨z,B,Q⟩:=N0.2 y (j.symm.trans P);rw[Q];obtain⟨u,L⟩:=C3 B;obtain⟨fv,kv,K,J,f⟩:=i.o.ok z B;exact Vz QF (by rw[L];exact K) (by rw[u];exact ae.symm) (Qt ⟨rfl,rfl⟩) (Qr J) (Qr f) (fun e=>absurd (u.symm.trans e) Qb)
end
theorem QvQ(f tb:Nat)(d:Value)(rq:Qn)(g:l.length<=600)(hF:2*l.length+2<=F):∀(n a:Nat),a+n=7->TOk f tb d rq l F n a:=by
 intro n
 induction n with
 |zero=>
  intro a j b w c h;by_cases hk:(Qk l b).1=119
  .exact Bo (n:=0) a c h g hF j (Qr (Qt ⟨rfl,hk⟩))
  .exact Bo (n:=0) a c h g hF j (Qt hk)
 |succ n ih=>
  intro a j b w c h;have k:=ih (a+1) I;have i:a+n=6:=I
  by_cases hk:(Qk l b).1=119
  .by_cases hw:wL tNs (Qk l b).2.1=0
   .exact Bo a c h g hF j (Qr (Qr ⟨hk,Vr n,hw⟩))
   .have m:=(Jn (Qk l b).2.1 tNs).1 I;simp only[tNs,XW,List.not_mem_nil,or_false]at m;rcases m with e|e|e|e|e|e|e|e|e|e
    .exact Que n a c h g hF i hk e
    .exact Ww n a c h g hF i hk e
    .exact Qwt a c h g hF i k hk e
    .exact Hd a c h g hF i k hk (Qt e)
    .exact Hd a c h g hF i k hk (Qr e)
    .exact Su n a c h g hF i hk e
    .exact RF n a c h g hF i hk e
    .exact SY n a c h g hF i hk e
    .exact So n a c h g hF i hk e
    .exact QsQ n a c h g hF i hk e
  .exact Bo a c h g hF j (Qt hk)
section
attribute [local go_sem ↓] Zt Zu
theorem PY{tst:PS->Qq (β×PS)}{sub:PS->Qq (α×PS)}{y:(Xa×List (β×List α)×List α)×PS}(h:bindS st (cBd l F tst sub 7 pos)=.ok y):∃els,y.1.1=⟨7,pos,0,[],[],els⟩:=by
 cases st with
 |error f=>cases h
 |ok s=>
  simp only[bindS,cBd]at h
  cases h1:armL l F tst sub s with
  |error f=>rw[h1]at h;cases h
  |ok a=>
   rw[h1]at h;simp only[QL]at h
   cases h2:aMr l F tst sub F [a.1] a.2 with
   |error f=>rw[h2]at h;cases h
   |ok b=>
    rw[h2]at h;simp only at h
    cases h3:mayL l [Yv] b.2 with
    |error f=>rw[h3]at h;cases h
    |ok c=>
     rw[h3]at h;simp only at h;by_cases hc:c.1=0
     .rw[Qi hc]at h;cases h;exact⟨false,rfl⟩
     .rw[Qg hc]at h
      cases h4:blockL l F sub c.2 with
      |error f=>rw[h4]at h;cases h
      |ok d=>rw[h4]at h;cases h;exact⟨true,rfl⟩
theorem QzU{j:Nat}{k:Value}(d:Nat)(i:RdI w j tb k rq)(h:TSt w tb l st)(C:l.length<=600)(hF:2*l.length+2<=F)(hd:d+n=6)(B:(Qk l st).1=119)(A:TOk j tb k rq l F n (d+1))(z:COk j tb k rq l F n (d+1))(hw:(Qk l st).2.1=kIf):Calls prog 115 #[Qc j,Qa d] w (Zq (bindS st (cmdL l rq F (n+1))) tb l w (RCmd (n+1) (fromB w.heap.size)) YW):=by
 have v:Hid (bindS st (cmdL l rq F (n+1))=bindS (nextS l st) (cBd l F (QP l rq F n) (cmdL l rq F n) 7 (Qk l st).2.2.2)):=by
  show _=_
  rw[AT h B (by rw[hw];decide),hw,DK Qb Qb];rfl
 have r0:=Qj i.r 0;obtain⟨Z,c4,N,c6,c7⟩:=h.cells;have HR:=O i;have U:=h.lt;have S:w.heap.size≠tb:=I
 have ab:=QB I;obtain⟨a,E⟩:=Qw ((Qk l st).2.1);rw[E]at N hw;have b:=hw;have e0:=QG [107,101,101,112] b rfl
 have e1:=QG [100,105,115,99,97,114,100] b rfl
 have e2:=QG [115,116,111,112] b rfl
 have e3:=QG [102,105,108,101,105,110,116,111] b rfl
 have e4:=QG [114,101,100,105,114,101,99,116] b rfl
 have e5:=QG [114,101,106,101,99,116] b rfl
 have e6:=QG [115,101,116] b rfl
 have e7:=XK [105,102] b rfl
 obtain⟨c,g⟩:=Q3 ((w.alloc (Qe #[Qf a,Qp,Qa 0,Qp,Qp,Qa (Qk l st).2.2.2] 155)).drew);have af:=O g;have q:Hid (Mod tb w c):=by show Mod _ _ _;rw[g];exact((Mod.refl _ _).alloc _).drew
 have u:Hid (CNode c w.heap.size a Qp 0 Qp Qp (Qk l st).2.2.2):=by show c.heap[w.heap.size]?=_;rw[g];exact Q0
 have M:Hid (TSt c tb l st):=by show TSt _ _ _ _;rw[g];exact(h.below (QH (Qe #[Qf a,Qp,Qa 0,Qp,Qp,Qa (Qk l st).2.2.2] 155))).block rfl
 clear h i g B E;have ae:=O hw;have ad:=O A;have ac:=O z;clear hw b A z;have R:d<=6:=I
 go_enter func115,ntmps115;go_wp2_with fail;go_region;rw[<-af.o];have d0:=Qj (HR.r.mod q HR.n) 0;have n0:=Qj u 0;go_wp2_with fail;refine Qv (X0 M C) ?_;rintro W ⟨p,G⟩;have K:=O (q.o.trans p);have L:=O (QY u p S);have J:=O (R9 HR K QF U L G C hF R ad ac);clear p G;go_wp2_with fail;refine J.mono ?_;rintro e w2 f;obtain rfl:=f.e;have H2:=O f;clear f;go_wp2;go_ret;refine Zq.mk H2.m (by rw[ZI stOf v];exact H2.t) ⟨_,rfl⟩ (fun y V=>?_);have H:=v.symm.trans V;obtain⟨tv,Y,Q,T,P⟩:=H2.o.ok y H;obtain⟨aa,D⟩:=PY H;obtain⟨⟨x,X,el⟩,s⟩:=y;simp only at D;subst D;exact AP QF Q ae.symm (Qt ⟨rfl,rfl⟩) T P
theorem TJ(d tb:Nat)(c:Value)(rq:Qn)(g:l.length<=600)(hF:2*l.length+2<=F):∀(n a:Nat),a+n=7->COk d tb c rq l F n a:=by
 intro n
 induction n with
 |zero=>
  intro a p b w i h f;exact QvN a i h g hF I f
 |succ n ih=>
  intro a p b w i h f;have m:=ih (a+1) I;have o:=QvQ d tb c rq g hF n (a+1) I;have j:a+n=6:=I
  by_cases hw:wL cNs (Qk l b).2.1=0
  .exact Qxw n a i h g hF j f hw
  .have k:=(Jn (Qk l b).2.1 cNs).1 I;simp only[cNs,XW,List.not_mem_nil,or_false]at k;rcases k with e|e|e|e|e|e|e|e
   .exact Dq 0 n a i h g hF j f (Qt ⟨e,rfl⟩)
   .exact Dq 1 n a i h g hF j f (Qr (Qt ⟨e,rfl⟩))
   .exact Dq 2 n a i h g hF j f (Qr (Qr ⟨e,rfl⟩))
   .exact MQ 3 n a i h g hF j f e (Qt ⟨rfl,rfl⟩)
   .exact Sd n a i h g hF j f e
   .exact MQ 5 n a i h g hF j f e (Qr ⟨rfl,rfl⟩)
   .exact Qy4 n a i h g hF j f e
   .exact QzU a i h g hF j f o m e
end
theorem PJ:QV 1=fun x=>if 0<wL [Zb,ZN,ZM,Z8] x then 0 else 6:=rfl
structure Ag (R:Qq (Qn×PS)) (l:L8) (F:Nat) (st:Qq PS) (rq:Qn):Prop where
 r:∃f,(∀s,st=.ok s->mu l.length s < f)∧R=bindS st (reqMore l F f rq)
theorem QzL(h:Ag R l F st rq)(i:TSt w tb l st)(d:¬((Qk l st).1=119/\(Qk l st).2.1=Kn)):R=bindS st fun s=>.ok (rq,s):=by
 obtain⟨⟨f,c,a⟩⟩:=h
 cases st with
 |error g=>exact a
 |ok s=>
  have j:=c s rfl;obtain⟨f,rfl⟩:∃g,f=g+1:=⟨f-1,I⟩;have b:=i;simp only[bindS]at a ⊢;rw[reqMore,B3 b Kn ⟨_,_,rfl,rfl⟩,Qg (fun e=>d ⟨(VH b.wd).2 e.1,e.2⟩)]at a;exact a
theorem QyX{p:World}{rq':Qn}(h:Ag R l F st rq)(B:TSt w tb l st)(n:(Qk l st).1=119/\(Qk l st).2.1=Kn)(c:TSt p tb l (stOf (bindS (nextS l st) (sLs l (QV 1) F))))(i:∀z,bindS (nextS l st) (sLs l (QV 1) F)=.ok z->rq'=z.1.foldl Xf rq) :
 muS l (signS l 59 (stOf (bindS (nextS l st) (sLs l (QV 1) F))))<muS l st/\Ag R l F (signS l 59 (stOf (bindS (nextS l st) (sLs l (QV 1) F)))) rq':=by
 obtain⟨⟨f,u,d⟩⟩:=h;obtain⟨s,rfl,r,k⟩:=XS B n.1;have G:=u s rfl;obtain⟨f,rfl⟩:∃g,f=g+1:=⟨f-1,I⟩;simp only[bindS]at d;rw[reqMore,B3 k Kn ⟨_,_,rfl,rfl⟩,Qi ⟨r,n.2⟩]at d;rw[PJ]at c i ⊢;have he:∀g,signS l 59 (.error g)=.error g:=fun g=>by unfold signS;split<;>rfl
 have y:nextS l (.ok s)=nL l s.2:=rfl;rw[y]at c i ⊢
 cases hx:nL l s.2 with
 |error g=>
  rw[hx]at d;rw[show stOf (bindS (.error g) (sLs l (fun x=>if 0<wL [Zb,ZN,ZM,Z8] x then 0 else 6) F))=.error g from rfl,he];exact⟨Vr _,⟨0,(fun s e=>by cases e),d⟩⟩
 |ok s1=>
  rw[hx]at d c i;simp only[bindS]at c i ⊢
  have j:R=QL (sLs l (fun x=>if 0<wL [Zb,ZN,ZM,Z8] x then 0 else 6) F s1) fun D C=>QL (paL l [[59]] C) fun _ a=>reqMore l F f (D.foldl Xf rq) a:=by
   rw[d];simp only[QL];rw[Qg Qb]
  have H:=J' k.le I hx;have v:Gd l s1:=AQ k.gd hx
  cases hz:sLs l (fun x=>if 0<wL [Zb,ZN,ZM,Z8] x then 0 else 6) F s1 with
  |error g=>
   rw[hz]at j;rw[show stOf (Except.error g:Qq (Qn×PS))=.error g from rfl,he];exact⟨Vr _,⟨0,(fun s e=>by cases e),j⟩⟩
  |ok z=>
   rw[hz]at j c;have m:Y0 p tb l z.2:=c;have J:=(Bp v z hz).2;rw[i z hz];have A:=BR (β:=Qn) c 59 rfl (fun a=>reqMore l F f (z.1.foldl Xf rq) a);have t:=j.trans A;rw[show stOf (Except.ok z)=.ok z.2 from rfl]
   have o:∀a,signS l 59 (.ok z.2)=.ok a->mu l.length a<mu l.length z.2:=by
    intro a b;unfold signS at b;by_cases h59:(Qk l (.ok z.2)).1=59
    .rw[Qi h59]at b;have E:kQ z.2.1=59:=h59;exact J' m.le (fun q=>by have:kQ z.2.1=0:=(NY m.wd).2 q;omega) b
    .rw[Qg h59]at b;cases b
   refine⟨?_,⟨f,fun a b=>?_,t⟩⟩
   .cases b:signS l 59 (.ok z.2)with
    |error g=>exact Vr _
    |ok a=>have:=o a b;show mu l.length a+1<mu l.length s+1;omega
   .have:=o a b;omega
theorem Qxu(h:bindS (nL l 0) (reqMore l (2*l.length+10) (2*l.length+10) [])=bindS st fun s=>.ok (rq,s)):prL l=match bindS st (cMr (cmdL l rq (2*l.length+10) 7) (2*l.length+10) [])with | .ok cs=>.ok (rq,cs) | .error f=>.error f:=by
 have a:prL l=match bindS (nL l 0) (reqMore l (2*l.length+10) (2*l.length+10) [])with
  | .error f=>.error f
  | .ok y=>match cMr (cmdL l y.1 (2*l.length+10) 7) (2*l.length+10) [] y.2 with
   | .error f=>.error f
   | .ok cs=>.ok (y.1,cs):=by
  unfold prL
  cases nL l 0 with
  |error f=>rfl
  |ok s=>rfl
 rw[a,h]
 cases st with
 |error f=>rfl
 |ok s=>
  simp only[bindS];cases cMr (cmdL l rq (2*l.length+10) 7) (2*l.length+10) [] s<;>rfl
theorem QsI(rq:Qn){xs:Qn}{k:Nat}(h:k<xs.length):(xs.take (k+1)).foldl Xf rq=Xf ((xs.take k).foldl Xf rq) (xs.getD k []):=by
 rw[Y4 h,List.foldl_append,Zv,Zi h];rfl
theorem RdI.of_owns{b base:Nat}{a:Value}(o:RdQ w b tb a)(n:b≠tb)(e:w.ownsRow base 9 1 a rq.length (QW rq))(s:tb<base)(p:rq.length<=140737488355328):RdI w b tb a rq:=by
 refine⟨o,n,?_,p⟩;have m:=fun g (c:a.ownBlock=some g)=>e.cells c
 rcases e.2 with⟨k,l⟩ | ⟨g,i,q,f,c,r⟩
 .exact Qt ⟨XV l,k⟩
 .refine Qr ⟨g,i,f,fun j d=>?_,I⟩;have:=m g (by rw[f];rfl) j (Qf (rq.getD j [])) (by unfold QW;rw[List.getElem?_map,Zi d,Zv,Zi d];rfl);rw[J8]at this;exact this
end Go.Proofs.YtgnkjijocdmniaaGreatDoor
