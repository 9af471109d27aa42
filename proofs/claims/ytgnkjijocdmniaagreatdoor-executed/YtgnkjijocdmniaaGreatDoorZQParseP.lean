import Derived.Test.YtgnkjijocdmniaaGreatDoorZQBrB
import Derived.Test.YtgnkjijocdmniaaGreatDoorZQCmdT
namespace Go.Proofs.YtgnkjijocdmniaaGreatDoor
set_option linter.unusedVariables false
set_option linter.unusedSimpArgs false
set_option maxRecDepth 100000
set_option maxHeartbeats 4000000
open Go.Proofs.Tryz
open Go.RowKit
attribute [local go_sem ↓] Go.wp_at_zero Go.wp_at_succ
variable{α β:Type}{F pos tb:Nat}{R:Qb (Qa×PS)}{l:L8}{rq:Qa}{st:Qb PS}{w:World}
theorem Tryz.infoSlCmd:(prog.info? 113).map (fun i=>(i.zero,i.size,i.bytes))=some (some (.slice none 0 0),1,24):=by kernel_rfl
structure Fg (n:Nat) (M:Qb ((Xj×List (Yn n×List (Zt n))×List (Zt n))×PS)) (u:World) (tb gb:Nat) (l nm:L8) (pos:Nat) (e:Ending) (w':World):Prop where
 e:e=.returned (.tuple #[])
 m:Mod tb u w'
 t:TSt w' tb l (stOf M)
 ok:∀ y,M=.ok y->∃ tv bv,CNode w' gb nm (.slice none 0 0) 0 tv bv pos∧trY (ZG n) (fromB u.heap.size) (y.1.2.1.map Prod.fst) w' tv∧trY (trY (ZU n)) (fromB u.heap.size) (A3 y.1) w' bv
theorem BrR.done{n gb:Nat}{u:World}{o:L8}{f c:Value}{b:List (Yn n×List (Zt n))}{d:List (List (Zt n))}{i j:List Value}(g:b≠[])(h:BrI u tb gb o pos w f c i j)(hu:u.heap.size<=gb)(hr:BrR n gb w f c b d i j):trY (ZG n) (fromB u.heap.size) (b.map Prod.fst) w f/\trY (trY (ZU n)) (fromB u.heap.size) (b.map Prod.snd++d) w c:=by
 have h1:b.map Prod.fst≠[]:=by simpa using g
 have h2:b.map Prod.snd++d≠[]:=by simp;exact fun e=>absurd e g
 have l:=JU hr.r1;have m:=JU hr.r2;have o1:=h.o1;have o2:=h.o2;rw[<-l]at o1;rw[<-m]at o2
 exact ⟨Qc ⟨h1,trX.weakQ (Z0 n) h1 (trX.of_ownsQ (Z0 n) o1 rfl h1 (hr.r1.imp (fun a u hu=>hu.left))) (fun k hk _=>Qs (Nat.le_succ_of_le hu) hk)⟩,
  Qc ⟨h2,trX.weakQ (ZL (ZZ n)) h2 (trX.of_ownsQ (ZL (ZZ n)) o2 rfl h2 (hr.r2.imp (fun a u hu=>hu.swap.left))) (fun k hk _=>Qs (Nat.le_succ_of_le hu) hk)⟩⟩
theorem Hm(u:World)(rb tb gb:Nat)(nv:Value)(rq:Qa)(l:L8)(F n aw:Nat)(nm:L8)(pos:Nat)(st:Qb PS)(w:World)(hr:RdI u rb tb nv rq)(hm:Mod tb u w)(ak:u.heap.size<=gb)(bK:tb<u.heap.size)(a9:CNode w gb nm (.slice none 0 0) 0 (.slice none 0 0) (.slice none 0 0) pos)(h:TSt w tb l st)(hl:l.length<=600)(hF:2*l.length+2<=F)(hd:aw<=6)(hT:TOk rb tb nv rq l F n (aw+1))(hC:COk rb tb nv rq l F n (aw+1)) :
 Calls prog 173 #[.pointer (some ⟨rb,0,none⟩),.pointer (some ⟨gb,0,none⟩),.int .i64 aw] w (Fg n (bindS st (Zp l F (Qy l rq F n) (QG l rq F n) 7 pos)) u tb gb l nm pos):=by
 have aV:gb≠tb:=by omega
 have bJ:rb<u.heap.size:=Qg hr.r;have bE:gb≠rb:=by omega
 obtain⟨R,a7,aU⟩:=TM (F:=F) (pos:=pos) (tst:=Qy l rq F n) (sub:=QG l rq F n) h hl hF;generalize bindS st (Zp l F (Qy l rq F n) (QG l rq F n) 7 pos)=M at aU ⊢;have a1:=I a7;have a3:=I aU;have HR:=I hr;have HM:=I hm;have aO:=I a9;have H:=I h;have HT:=I hT;have HC:=I hC;have bm:=I (fun s N=>Va (l:=l) (req:=rq) (F:=F) n s N);have bl:=I (fun s N=>UJ (l:=l) (req:=rq) (F:=F) n s N);have bt:=Gb h hl;obtain⟨i0,hi,bz,bA,bB⟩:=info_parts Tryz.infoPtrTest;obtain⟨j0,E,bf,bg,bh⟩:=info_parts Tryz.infoSlCmd;clear a7 aU hr hm a9 h hT hC;go_enter func173,ntmps173;go_upto_block 0 with fail
 go_cut [] (fun wx=>∃(d:Qb PS) (t p:Value) (C B:List Value),BrI u tb gb nm pos wx t p C B/\TSt wx tb l d/\stOf R=d/\B.length<=1301/\∀ y,R=.ok y->y.1≠[]/\BrR n gb wx t p y.1 [] C B)
 case first=>
  go_wp2_with fail
  go_loopg [6,7] (muS l st) (fun k _ _ wr=>∃(d:Qb PS) (T:List (Yn n×List (Zt n))) (t p:Value) (C B:List Value),k=muS l d/\BrI u tb gb nm pos wr t p C B/\TSt wr tb l d/\ArmI R l F (Qy l rq F n) (QG l rq F n) d T/\C.length+muS l d<=1300/\B.length+muS l d<=1300/\∀ s,d=.ok s->BrR n gb wr t p T [] C B)
  case atStart=>exact⟨st,[],_,_,[],[],rfl,⟨aO.o,Zj,Zj,fun g h=>(by cases h),HM.o⟩,H.o,a1.o,by simp;omega,by simp;omega,fun _ _=>⟨trivial,trivial⟩⟩
  case round=>
   obtain⟨d,T,t,p,C,B,rfl,Z,X,a8,bH,bI,ba⟩:=hrel;have Q:=I Z;have aj:=I X;have a4:=I a8;have aP:=I ba;have bx:gb<wr.heap.size:=Qg Z.nd;have a2:=I (HT.o d wr (HR.o.mod Z.m) X);clear Z X a8 ba bt aO H HM;go_wp2_with fail;refine a2.o.mono ?_;rintro e Y h2;obtain⟨aa,aG,v,rfl,⟨g2,rfl⟩,bd⟩:=h2.st;have W:=Q.o.mod aa (by omega);have ad:=I W;have a5:=I aG;have aX:=W.o1;have bw:gb<Y.heap.size:=Qg W.nd;have t1:=QR W.nd
   have aQ:Hid (∀ z,bindS d (Qy l rq F n)=.ok z->Q3 (fun a u=>QU (ZG n) (gb+1) Y t p a u) ((T.map Prod.fst)++[z.1]) (C++[.pointer (some ⟨g2,0,none⟩)])/\Q3 (fun a u=>QU (trY (ZU n)) (gb+1) Y t p a u) (T.map Prod.snd++[]) B):=by
    intro z q
    obtain⟨s,N⟩:∃ s,d=.ok s:=by
     cases d with
     |ok s=>exact⟨s,rfl⟩
     |error f=>cases q
    exact⟨Q3.snoc (P:=fun a u=>QU (ZG n) (gb+1) Y t p a u) (QU.new (Z0 n) (bd z q) bx (fun k i=>(Q.o.o1.lt k i).2) (fun k i=>(Q.o.o2.lt k i).2)) ((aP.o s N).r1.imp (fun a u c=>QU.mod (Z0 n) (b:=tb) c aa (by omega))),(aP.o s N).r2.imp (fun a u c=>QU.mod (ZL (ZZ n)) (b:=tb) c aa (by omega))⟩
   clear h2 aa aG bd W Q a2;go_wp2_with (at_builtin;refine wpList_append_own_at _ rfl _ _ 152 rfl (gb+1) 158 i0 (.pointer none) 1 8 underlying152 hi bz bA bB rfl (by decide) _ _ _ rfl (aX.alloc _) ⟨Y.heap.size,0,none⟩ 1 1 [.pointer (some ⟨g2,0,none⟩)] rfl rfl ?c1 ?c2 ?c3 ?c4 ?c5 ?_)
   case c1=>
    intro j u E
    match j,E with
    |0,E=>simp at E;subst E;simp[Addr.add]
   case c2=>intro u c;simp at c;subst c;rfl
   case c3=>unfold maxLen;omega
   case c4=>omega
   case c5=>simp;omega
   ·intro v' w5 aY D _ J;have aW:=Kn (gb:=gb) aX bw D;have aL:=(aW gb (Nat.lt_succ_self _)).trans ad.o.nd;obtain⟨p5,m5,ae,rfl⟩:=Uz aY;obtain⟨W6,aC⟩:=QF (w5.setCell ⟨gb,3,none⟩ (.slice p5 m5 ae));have bp:=I aC;have aD:=ad.o.app1 ak D aY J;rw[<-aC]at aD;have aI:=I aD
    have a6:Hid (TSt W6 tb l (stOf (bindS d (Qy l rq F n)))):=by
     show TSt _ _ _ _
     rw[aC];exact(a5.o.block (aW tb (by omega))).block (QK (Ne.symm aV))
    have aR:Hid (∀ z,bindS d (Qy l rq F n)=.ok z->Q3 (fun a u=>QU (ZG n) (gb+1) W6 (.slice p5 m5 ae) p a u) ((T.map Prod.fst)++[z.1]) (C++[.pointer (some ⟨g2,0,none⟩)])/\Q3 (fun a u=>QU (trY (ZU n)) (gb+1) W6 (.slice p5 m5 ae) p a u) (T.map Prod.snd++[]) B):=by
     intro z q;rw[aC];exact⟨(aQ.o z q).1.imp (fun a u c=>QU.set (Z0 n) (QU.grown (Z0 n) c D J) (Nat.lt_succ_self _) _ _),(aQ.o z q).2.imp (fun a u c=>QU.set (ZL (ZZ n)) (QU.grown (ZL (ZZ n)) c D J) (Nat.lt_succ_self _) _ _)⟩
    have f5:=fun o=>Qu aL o
    have t5:=QR aL;have bF:gb<w5.heap.size:=Qg aL;have br:gb<W6.heap.size:=Qg aD.nd;have az:=I (CB rb tb nv rq l F n aw _ W6 (HR.o.mod aD.m) a6.o hl hF hd HC.o);clear aY D aX J aW aL aC aD ad a5 aQ aP;go_wp2_with (rw[<-bp.o]);go_wp2_with fail;refine az.o.mono ?_;rintro e L h7;obtain⟨ab,ax,v,rfl,⟨p7,m7,c7,rfl⟩,aH⟩:=h7.st;have ay:=I (RZ bm.o bl.o a4.o aj.o rfl ax);have V:=aI.o.mod ab (by omega);have ag:=I V;have ar:=I ax;have ap:=V.o2;have aZ:gb<L.heap.size:=Qg V.nd;have t7:=QV V.nd
    have ai:Hid (∀ z x,bindS d (Qy l rq F n)=.ok z->bindS (stOf (bindS d (Qy l rq F n))) (blockL l F (QG l rq F n))=.ok x->Q3 (fun a u=>QU (ZG n) (gb+1) L (.slice p5 m5 ae) p a u) ((T.map Prod.fst)++[z.1]) (C++[.pointer (some ⟨g2,0,none⟩)])/\Q3 (fun a u=>QU (trY (ZU n)) (gb+1) L (.slice p5 m5 ae) p a u) ((T.map Prod.snd++[])++[x.1]) (B++[.slice p7 m7 c7])):=by
     intro z x q G;exact⟨(aR.o z q).1.imp (fun a u c=>QU.mod (Z0 n) (b:=tb) c ab (by omega)),Q3.snoc (P:=fun a u=>QU (trY (ZU n)) (gb+1) L (.slice p5 m5 ae) p a u) (QU.new (ZL (ZZ n)) (aH x G) br (fun k i=>(aI.o.o1.lt k i).2) (fun k i=>(aI.o.o2.lt k i).2)) ((aR.o z q).2.imp (fun a u c=>QU.mod (ZL (ZZ n)) (b:=tb) c ab (by omega)))⟩
    obtain⟨A,bb⟩:=Qe (stOf (bindS (stOf (bindS d (Qy l rq F n))) (blockL l F (QG l rq F n))));rw[bb]at ay ar;clear h7 ab ax aH V aI az a6 aR bb aj a4;go_wp2_with (at_builtin;refine wpList_append_own_at _ rfl _ _ 153 rfl (gb+1) 113 j0 (.slice none 0 0) 1 24 underlying153 E bf bg bh rfl (by decide) _ _ _ rfl (ap.alloc _) ⟨L.heap.size,0,none⟩ 1 1 [.slice p7 m7 c7] rfl rfl ?c1 ?c2 ?c3 ?c4 ?c5 ?_)
    case c1=>
     intro j u E
     match j,E with
     |0,E=>simp at E;subst E;simp[Addr.add]
    case c2=>intro u c;simp at c;subst c;rfl
    case c3=>unfold maxLen;omega
    case c4=>omega
    case c5=>simp;omega
    ·intro bC w8 aq D _ J;have ao:=Kn (gb:=gb) ap aZ D;have ac:=(ao gb (Nat.lt_succ_self _)).trans ag.o.nd;obtain⟨p8,m8,c8,rfl⟩:=Uz aq;obtain⟨K,U⟩:=QF (w8.setCell ⟨gb,4,none⟩ (.slice p8 m8 c8));have av:=I U;have af:=ag.o.app2 ak D aq J;rw[<-U]at af;have ah:=I af
     have au:Hid (TSt K tb l A):=by
      show TSt _ _ _ _
      rw[U];exact(ar.o.block (ao tb (by omega))).block (QK (Ne.symm aV))
     have aB:Hid (∀ z x,bindS d (Qy l rq F n)=.ok z->bindS (stOf (bindS d (Qy l rq F n))) (blockL l F (QG l rq F n))=.ok x->BrR n gb K (.slice p5 m5 ae) (.slice p8 m8 c8) (T++[(z.1,x.1)]) [] (C++[.pointer (some ⟨g2,0,none⟩)]) (B++[.slice p7 m7 c7])):=by
      intro z x q G;rw[U];refine⟨?_,?_⟩
      ·rw[List.map_append];exact(ai.o z x q G).1.imp (fun a u c=>QU.set (Z0 n) (QU.grown (Z0 n) c.swap D J).swap (Nat.lt_succ_self _) _ _)
      ·rw[List.map_append,List.append_nil];have:=(ai.o z x q G).2;rw[List.append_nil]at this;exact this.imp (fun a u c=>QU.set (ZL (ZZ n)) (QU.grown (ZL (ZZ n)) c.swap D J).swap (Nat.lt_succ_self _) _ _)
     have f8:=fun o=>Qu ac o
     have t8:=QV ac;have bs:gb<w8.heap.size:=Qg ac;obtain⟨q2,q4,q5,_,_⟩:=au.o.cells;have qr:K.cell? ⟨rb,0,none⟩=some (.pointer (some ⟨tb,0,none⟩)):=Qi (HR.o.mod af.m).r 0;have e5:((sA (O l A).2.1).toList==[101,108,115,105,102])=decide ((O l A).2.1=Yi):=Zg _ _;have e6:((sA (O l A).2.1).toList != [101,108,115,105,102])=!decide ((O l A).2.1=Yi):=by show(!((sA (O l A).2.1).toList==_))=_;rw[Zg];rfl
     clear aq D ap J ao ac U af ag ar ai;by_cases i:(O l A).1=119/\(O l A).2.1=Yi
     ·obtain⟨he,bu,z1,z2,bi,bj,G⟩:=ay.o.1 i;have aF:(((O l A).1:Int) != 119)=false:=by simp;omega
      have aE:((errS A:Int) != 0)=false:=by simp;omega
      rw[Qw i.2]at e5 e6;have HX:=I G;have HZ:=I (aB.o z1 z2 bi bj);clear G bi bj ay i;go_wp2_with (rw[<-av.o]);go_wp2_with fail;refine(Z2 tb l A _ (au.o.block rfl) hl).mono ?_;rintro e wa ⟨rfl,aK,bc⟩;have bo:=I bc;have bk:=I (ah.o.mod aK (by omega));have bn:Hid (BrR n gb wa (.slice p5 m5 ae) (.slice p8 m8 c8) (T++[(z1.1,z2.1)]) [] (C++[.pointer (some ⟨g2,0,none⟩)]) (B++[.slice p7 m7 c7])):=⟨HZ.o.r1.imp (fun a u c=>QU.mod (Z0 n) (b:=tb) c aK (by omega)),HZ.o.r2.imp (fun a u c=>QU.mod (ZL (ZZ n)) (b:=tb) c aK (by omega))⟩;clear aK bc;go_wp2;go_roundg (muS l (nextS l A))
      case measure=>exact bu
      case rel=>exact⟨nextS l A,_,_,_,_,_,rfl,bk.o,bo.o,HX.o,by simp;omega,by simp;omega,fun _ _=>bn.o⟩
     ·obtain⟨hR,hy⟩:=ay.o.2 i;have S:=I hy
      have aA:Hid (∃(d:Qb PS) (t p:Value) (C B:List Value),BrI u tb gb nm pos K t p C B/\TSt K tb l d/\stOf R=d/\B.length<=1301/\∀ y,R=.ok y->y.1≠[]/\BrR n gb K t p y.1 [] C B):=by
       refine⟨A,_,_,_,_,ah.o,au.o,hR,by simp;omega,fun y e=>?_⟩;obtain⟨z1,z2,h1,h2,hh⟩:=S.o y e;rw[hh];exact⟨by simp,aB.o z1 z2 h1 h2⟩
      clear hy ay S hR;by_cases hk1:(O l A).1=119
      ·have aF:(((O l A).1:Int) != 119)=false:=by simp;omega
       have aE:((errS A:Int) != 0)=false:=by obtain⟨s,N,_,_⟩:=ZR au.o hk1;rw[N];rfl
       rw[Qh (fun e=>i ⟨hk1,e⟩)]at e5 e6;clear i hk1;go_wp2_with (rw[<-av.o]);go_wp2;go_meet;exact aA.o
      ·have aF:(((O l A).1:Int) != 119)=true:=by simp;omega
       clear i hk1 e5 e6;cases aE:((errS A:Int) != 0)
       all_goals go_wp2_with (rw[<-av.o])
       all_goals go_wp2
       all_goals go_meet
       all_goals exact aA.o
 case rest=>
  obtain⟨d,t,p,C,B,Z,X,hR,bG,hy⟩:=hcut;rw[<-hR]at X;obtain⟨aS,aT⟩:=a3.o wc X;rw[hR]at aS aT X;have Q:=I Z;have aj:=I X;have S:=I hy;have bL:gb<wc.heap.size:=Qg Z.nd;have e5:((sA (O l d).2.1).toList==[101,108,115,101])=decide ((O l d).2.1=Yk):=Zg _ _;obtain⟨q2,q4,q5,_,_⟩:=X.cells;have qr:wc.cell? ⟨rb,0,none⟩=some (.pointer (some ⟨tb,0,none⟩)):=Qi (HR.o.mod Z.m).r 0;have bD:=I hR;have aM:=I aS;have aN:=I aT;clear Z X hy hR aS aT a3 a1 HM aO H HT;by_cases i:(O l d).1=119/\(O l d).2.1=Yk
  ·obtain⟨hS,hO⟩:=aM.o i;have aF:(((O l d).1:Int)==119)=true:=by simp;omega
   have aE:((errS d:Int)==0)=true:=by obtain⟨s,N,_,_⟩:=ZR aj.o i.1;rw[N];rfl
   rw[Qw i.2]at e5;have HS:=I hS;have HO:=I hO;clear hS hO aM aN i;go_wp2_with fail;refine(Z2 tb l d _ (aj.o.block rfl) hl).mono ?_;rintro e Y ⟨rfl,aa,aG⟩;have W:=Q.o.mod aa (by omega);have ad:=I W;have aJ:Hid (∀ y,R=.ok y->y.1≠[]/\BrR n gb Y t p y.1 [] C B):=fun y e=>⟨(S.o y e).1,(S.o y e).2.r1.imp (fun a u c=>QU.mod (Z0 n) (b:=tb) c aa (by omega)),(S.o y e).2.r2.imp (fun a u c=>QU.mod (ZL (ZZ n)) (b:=tb) c aa (by omega))⟩
   have bq:gb<Y.heap.size:=Qg W.nd;have az:=I (CB rb tb nv rq l F n aw _ Y (HR.o.mod W.m) aG hl hF hd HC.o);clear aa aG W Q S;go_wp2_with fail;refine az.o.mono ?_;rintro e L h7;obtain⟨ab,ax,v,rfl,⟨p7,m7,c7,rfl⟩,aH⟩:=h7.st;have V:=ad.o.mod ab (by omega);have ag:=I V;have ar:=I ax;have ap:=V.o2;have aZ:gb<L.heap.size:=Qg V.nd;have t7:=QV V.nd
   have ai:Hid (∀ y x,R=.ok y->bindS (nextS l d) (blockL l F (QG l rq F n))=.ok x->Q3 (fun a u=>QU (ZG n) (gb+1) L t p a u) (y.1.map Prod.fst) C/\Q3 (fun a u=>QU (trY (ZU n)) (gb+1) L t p a u) ((y.1.map Prod.snd++[])++[x.1]) (B++[.slice p7 m7 c7])):=by
    intro z x q G;exact⟨(aJ.o z q).2.r1.imp (fun a u c=>QU.mod (Z0 n) (b:=tb) c ab (by omega)),Q3.snoc (P:=fun a u=>QU (trY (ZU n)) (gb+1) L t p a u) (QU.new (ZL (ZZ n)) (aH x G) bq (fun k i=>(ad.o.o1.lt k i).2) (fun k i=>(ad.o.o2.lt k i).2)) ((aJ.o z q).2.r2.imp (fun a u c=>QU.mod (ZL (ZZ n)) (b:=tb) c ab (by omega)))⟩
   clear h7 ab ax aH V ad az;go_wp2_with (at_builtin;refine wpList_append_own_at _ rfl _ _ 153 rfl (gb+1) 113 j0 (.slice none 0 0) 1 24 underlying153 E bf bg bh rfl (by decide) _ _ _ rfl (ap.alloc _) ⟨L.heap.size,0,none⟩ 1 1 [.slice p7 m7 c7] rfl rfl ?c1 ?c2 ?c3 ?c4 ?c5 ?_)
   case c1=>
    intro j u E
    match j,E with
    |0,E=>simp at E;subst E;simp[Addr.add]
   case c2=>intro u c;simp at c;subst c;rfl
   case c3=>unfold maxLen;omega
   case c4=>omega
   case c5=>simp;omega
   ·intro bC w8 aq D _ J;have ao:=Kn (gb:=gb) ap aZ D;have ac:=(ao gb (Nat.lt_succ_self _)).trans ag.o.nd;obtain⟨p8,m8,c8,rfl⟩:=Uz aq;obtain⟨K,U⟩:=QF (w8.setCell ⟨gb,4,none⟩ (.slice p8 m8 c8));have av:=I U;have af:=ag.o.app2 ak D aq J;rw[<-U]at af;have ah:=I af
    have au:Hid (TSt K tb l (stOf (bindS (nextS l d) (blockL l F (QG l rq F n))))):=by
     show TSt _ _ _ _
     rw[U];exact(ar.o.block (ao tb (by omega))).block (QK (Ne.symm aV))
    have aB:Hid (∀ y x,R=.ok y->bindS (nextS l d) (blockL l F (QG l rq F n))=.ok x->BrR n gb K t (.slice p8 m8 c8) y.1 [x.1] C (B++[.slice p7 m7 c7])):=by
     intro z x q G;rw[U];refine⟨(ai.o z x q G).1.imp (fun a u c=>QU.set (Z0 n) (QU.grown (Z0 n) c.swap D J).swap (Nat.lt_succ_self _) _ _),?_⟩;have:=(ai.o z x q G).2;rw[List.append_nil]at this;exact this.imp (fun a u c=>QU.set (ZL (ZZ n)) (QU.grown (ZL (ZZ n)) c.swap D J).swap (Nat.lt_succ_self _) _ _)
    have f8:=fun o=>Qu ac o
    have t8:=QV ac;have bs:gb<w8.heap.size:=Qg ac;clear aq D ap J ao ac U af ag ar ai;go_wp2_with (rw[<-av.o]);go_wp2;go_end0
    try rw[<-av.o]
    refine⟨rfl,ah.o.m,by rw[HS.o];exact au.o,fun y hy=>?_⟩;obtain⟨z,x,q,G,a0⟩:=HO.o y hy;rw[a0];exact⟨t,_,ah.o.nd,(BrR.done (aJ.o z q).1 ah.o ak (aB.o z x q G)).1,(BrR.done (aJ.o z q).1 ah.o ak (aB.o z x q G)).2⟩
  ·obtain⟨hS,hO⟩:=aN.o i
   have aA:Hid (Fg n M u tb gb l nm pos (.returned (.tuple #[])) wc):=by
    refine⟨rfl,Q.o.m,by rw[hS];exact aj.o,fun y hy=>?_⟩;obtain⟨z,q,a0⟩:=hO y hy;rw[a0];exact⟨t,p,Q.o.nd,(BrR.done (S.o z q).1 Q.o ak (S.o z q).2).1,(BrR.done (S.o z q).1 Q.o ak (S.o z q).2).2⟩
   clear hS hO aM aN;by_cases hk1:(O l d).1=119
   ·have aF:(((O l d).1:Int)==119)=true:=by simp;omega
    have aE:((errS d:Int)==0)=true:=by obtain⟨s,N,_,_⟩:=ZR aj.o hk1;rw[N];rfl
    rw[Qh (fun e=>i ⟨hk1,e⟩)]at e5;clear i hk1;go_wp2;go_end0;exact aA.o
   ·have aF:(((O l d).1:Int)==119)=false:=by simp;omega
    clear i hk1 e5;cases aE:((errS d:Int)==0)
    all_goals go_wp2
    all_goals go_end0
    all_goals exact aA.o
theorem Vh{R:Qb (ZV×PS)}:stOf (Qo R fun x s1=>.ok ((x,([]:List α)),s1))=stOf R/\∀ y,(Qo R fun x s1=>.ok ((x,([]:List α)),s1))=.ok y->∃ z,R=.ok z/\y.1=(z.1,[]):=by
 cases R with
 |error g=>exact⟨rfl,fun y e=>by cases e⟩
 |ok z=>exact⟨rfl,fun y e=>⟨z,rfl,by cases e;rfl⟩⟩
theorem Am{g:PS->Qb (α×PS)}{k:α->PS->Qb (β×PS)}:bindS st (fun s=>Qo (g s) k)=Qo (bindS st g) k:=by cases st<;>rfl
theorem N2{chk:L8->Nat}{k:Nat}{R:Qb ((Nat×Bool)×PS)}{y:ZV×PS}(h:matchM l F chk k pos R=.ok y):y.1.kind=k/\y.1.num=0:=by
 unfold matchM at h
 cases R with
 |error g=>cases h
 |ok o=>
  simp only[Qo]at h
  cases h1:sLs l chk F o.2 with
  |error g=>rw[h1]at h;cases h
  |ok a=>
   rw[h1]at h;simp only at h
   cases h2:sLs l (fun _=>0) F a.2 with
   |error g=>rw[h2]at h;cases h
   |ok b=>rw[h2]at h;cases h;exact⟨rfl,rfl⟩
theorem Ia(rb tb:Nat)(nv:Value)(rq:Qa)(l:L8)(F n q:Nat)(st:Qb PS)(w:World)(j:RdI w rb tb nv rq)(h:TSt w tb l st)(Q:l.length<=600)(hF:2*l.length+2<=F)(hd:q+n=6)(s:(O l st).1=119)(b:(O l st).2.1=JR) :
 Calls prog 214 #[.pointer (some ⟨rb,0,none⟩),.int .i64 q] w (QY (bindS st (Qy l rq F (n+1))) tb l w (ZG (n+1) (fromB w.heap.size)) XL):=by
 have p:Hid (bindS st (Qy l rq F (n+1))=Qo (matchM l F (Qz 0) 5 (O l st).2.2.2 (bindS (nextS l (preS l rq JR st)) (Zi l F 0 false false))) fun x U=>.ok ((x,[]),U)):=by
  show _=_
  rw[JX h s (by rw[b];decide),b,<-AG,<-Am];rfl
 have r0:=Qk j.r;obtain⟨V,W,L,X,Y⟩:=h.cells;have H:=I h;have i:=I j;have ae:=Qg j.r;have R:=h.lt;have ac:w.heap.size≠tb:=by omega
 obtain⟨s0,B,_,_⟩:=ZR h s;have he:errS st=0:=by rw[B];rfl
 have ab:((errS st:Int) != 0)=false:=by simp;omega
 have ad:(((O l st).1:Int) != 119)=false:=by simp;omega
 have aa:decide ((6:Int)<(q:Int))=false:=Qh (by omega);obtain⟨a,A⟩:=Qe ((O l st).2.1);rw[A]at L b;have d:=b;have Z:=QO [116,114,117,101] d rfl
 have e1:=QO [102,97,108,115,101] d rfl
 have e2:=QO [110,111,116] d rfl
 have e3:=QO [97,108,108,111,102] d rfl
 have e4:=QO [97,110,121,111,102] d rfl
 have e5:=Jl [104,101,97,100,101,114] d rfl
 obtain⟨c,g⟩:=QF (w.alloc (.cells #[.string (sA a),.slice none 0 0,.slice none 0 0,.slice none 0 0,.int .i64 0,.bool false,.int .i64 0] 200));have K:=I g;have u:Hid (Mod tb w c):=by show Mod _ _ _;rw[g];exact(Mod.refl _ _).alloc _
 have E:Hid (Xw c w.heap.size a 0 false):=by show c.heap[w.heap.size]?=_;rw[g];exact QC _ _
 have G:Hid (TSt c tb l st):=by show TSt _ _ _ _;rw[g];exact h.below (Qp _)
 clear h j g B he s A;have D:=I (NE w rb tb w.heap.size nv rq l a 5 (O l st).2.2.2 F 0 st c i.o.r i.o.n u.o Ql E.o (i.o.mod u.o).txl i.o.z G.o R Q hF (by rw[b];rfl));rw[<-b]at p;have J:=I b;clear b d;go_enter func214,ntmps214;go_wp2_with fail;rw[<-K.o];refine D.o.mono ?_;rintro e w2 f;have k:=I f;obtain rfl:=f.e;clear f;go_wp2;go_ret;refine QY.mk k.o.m (by rw[(congrArg stOf p.o).trans Vh.1];exact k.o.t) ⟨_,rfl⟩ (fun y S=>?_);obtain⟨z,C,T⟩:=Vh.2 y (p.o.symm.trans S);rw[T];obtain⟨v,P⟩:=N2 C;obtain⟨fv,kv,N,M,f⟩:=k.o.ok z C;exact Kr Ql (by rw[P];exact N) (by rw[v];exact J.o.symm) (Qd ⟨rfl,rfl⟩) (Qc M) (Qc f) (fun e=>absurd (v.symm.trans e) (by decide))
theorem FE(rb tb:Nat)(nv:Value)(rq:Qa)(l:L8)(F n q:Nat)(st:Qb PS)(w:World)(j:RdI w rb tb nv rq)(h:TSt w tb l st)(Q:l.length<=600)(hF:2*l.length+2<=F)(hd:q+n=6)(s:(O l st).1=119)(b:(O l st).2.1=QX) :
 Calls prog 214 #[.pointer (some ⟨rb,0,none⟩),.int .i64 q] w (QY (bindS st (Qy l rq F (n+1))) tb l w (ZG (n+1) (fromB w.heap.size)) XL):=by
 have p:Hid (bindS st (Qy l rq F (n+1))=Qo (matchM l F (Qz 3) 6 (O l st).2.2.2 (bindS (nextS l (preS l rq QX st)) (Zi l F 0 false false))) fun x U=>.ok ((x,[]),U)):=by
  show _=_
  rw[JX h s (by rw[b];decide),b,<-AG,<-Am];rfl
 have r0:=Qk j.r;obtain⟨V,W,L,X,Y⟩:=h.cells;have H:=I h;have i:=I j;have ae:=Qg j.r;have R:=h.lt;have ac:w.heap.size≠tb:=by omega
 obtain⟨s0,B,_,_⟩:=ZR h s;have he:errS st=0:=by rw[B];rfl
 have ab:((errS st:Int) != 0)=false:=by simp;omega
 have ad:(((O l st).1:Int) != 119)=false:=by simp;omega
 have aa:decide ((6:Int)<(q:Int))=false:=Qh (by omega);obtain⟨a,A⟩:=Qe ((O l st).2.1);rw[A]at L b;have c:=b;have Z:=QO [116,114,117,101] c rfl
 have e1:=QO [102,97,108,115,101] c rfl
 have e2:=QO [110,111,116] c rfl
 have e3:=QO [97,108,108,111,102] c rfl
 have e4:=QO [97,110,121,111,102] c rfl
 have e5:=QO [104,101,97,100,101,114] c rfl
 have e6:=Jl [101,110,118,101,108,111,112,101] c rfl
 obtain⟨d,g⟩:=QF (w.alloc (.cells #[.string (sA a),.slice none 0 0,.slice none 0 0,.slice none 0 0,.int .i64 0,.bool false,.int .i64 0] 200));have K:=I g;have u:Hid (Mod tb w d):=by show Mod _ _ _;rw[g];exact(Mod.refl _ _).alloc _
 have E:Hid (Xw d w.heap.size a 0 false):=by show d.heap[w.heap.size]?=_;rw[g];exact QC _ _
 have G:Hid (TSt d tb l st):=by show TSt _ _ _ _;rw[g];exact h.below (Qp _)
 clear h j g B he s A;have D:=I (NE w rb tb w.heap.size nv rq l a 6 (O l st).2.2.2 F 3 st d i.o.r i.o.n u.o Ql E.o (i.o.mod u.o).txl i.o.z G.o R Q hF (by rw[b];rfl));rw[<-b]at p;have J:=I b;clear b c;go_enter func214,ntmps214;go_wp2_with fail;rw[<-K.o];refine D.o.mono ?_;rintro e w2 f;have k:=I f;obtain rfl:=f.e;clear f;go_wp2;go_ret;refine QY.mk k.o.m (by rw[(congrArg stOf p.o).trans Vh.1];exact k.o.t) ⟨_,rfl⟩ (fun y S=>?_);obtain⟨z,C,T⟩:=Vh.2 y (p.o.symm.trans S);rw[T];obtain⟨v,P⟩:=N2 C;obtain⟨fv,kv,N,M,f⟩:=k.o.ok z C;exact Kr Ql (by rw[P];exact N) (by rw[v];exact J.o.symm) (Qd ⟨rfl,rfl⟩) (Qc M) (Qc f) (fun e=>absurd (v.symm.trans e) (by decide))
theorem I1(rb tb:Nat)(nv:Value)(rq:Qa)(l:L8)(F n q:Nat)(st:Qb PS)(w:World)(j:RdI w rb tb nv rq)(h:TSt w tb l st)(Q:l.length<=600)(hF:2*l.length+2<=F)(hd:q+n=6)(s:(O l st).1=119)(c:(O l st).2.1=Z4) :
 Calls prog 214 #[.pointer (some ⟨rb,0,none⟩),.int .i64 q] w (QY (bindS st (Qy l rq F (n+1))) tb l w (ZG (n+1) (fromB w.heap.size)) XL):=by
 have p:Hid (bindS st (Qy l rq F (n+1))=Qo (matchM l F (Qz 0) 7 (O l st).2.2.2 (bindS (nextS l (preS l rq Z4 st)) (Zi l F 0 false false))) fun x U=>.ok ((x,[]),U)):=by
  show _=_
  rw[JX h s (by rw[c];decide),c,<-AG,<-Am];rfl
 have r0:=Qk j.r;obtain⟨V,W,L,X,Y⟩:=h.cells;have H:=I h;have i:=I j;have ae:=Qg j.r;have R:=h.lt;have ac:w.heap.size≠tb:=by omega
 obtain⟨s0,B,_,_⟩:=ZR h s;have he:errS st=0:=by rw[B];rfl
 have ab:((errS st:Int) != 0)=false:=by simp;omega
 have ad:(((O l st).1:Int) != 119)=false:=by simp;omega
 have aa:decide ((6:Int)<(q:Int))=false:=Qh (by omega);obtain⟨a,A⟩:=Qe ((O l st).2.1);rw[A]at L c;have b:=c;have Z:=QO [116,114,117,101] b rfl
 have e1:=QO [102,97,108,115,101] b rfl
 have e2:=QO [110,111,116] b rfl
 have e3:=QO [97,108,108,111,102] b rfl
 have e4:=QO [97,110,121,111,102] b rfl
 have e5:=QO [104,101,97,100,101,114] b rfl
 have e6:=QO [101,110,118,101,108,111,112,101] b rfl
 have e7:=Jl [115,116,114,105,110,103] b rfl
 obtain⟨d,g⟩:=QF (w.alloc (.cells #[.string (sA a),.slice none 0 0,.slice none 0 0,.slice none 0 0,.int .i64 0,.bool false,.int .i64 0] 200));have K:=I g;have u:Hid (Mod tb w d):=by show Mod _ _ _;rw[g];exact(Mod.refl _ _).alloc _
 have E:Hid (Xw d w.heap.size a 0 false):=by show d.heap[w.heap.size]?=_;rw[g];exact QC _ _
 have G:Hid (TSt d tb l st):=by show TSt _ _ _ _;rw[g];exact h.below (Qp _)
 clear h j g B he s A;have D:=I (NE w rb tb w.heap.size nv rq l a 7 (O l st).2.2.2 F 0 st d i.o.r i.o.n u.o Ql E.o (i.o.mod u.o).txl i.o.z G.o R Q hF (by rw[c];rfl));rw[<-c]at p;have J:=I c;clear c b;go_enter func214,ntmps214;go_wp2_with fail;rw[<-K.o];refine D.o.mono ?_;rintro e w2 f;have k:=I f;obtain rfl:=f.e;clear f;go_wp2;go_ret;refine QY.mk k.o.m (by rw[(congrArg stOf p.o).trans Vh.1];exact k.o.t) ⟨_,rfl⟩ (fun y S=>?_);obtain⟨z,C,T⟩:=Vh.2 y (p.o.symm.trans S);rw[T];obtain⟨v,P⟩:=N2 C;obtain⟨fv,kv,N,M,f⟩:=k.o.ok z C;exact Kr Ql (by rw[P];exact N) (by rw[v];exact J.o.symm) (Qd ⟨rfl,rfl⟩) (Qc M) (Qc f) (fun e=>absurd (v.symm.trans e) (by decide))
theorem OY(rb tb:Nat)(nv:Value)(rq:Qa)(l:L8)(F:Nat)(d:l.length<=600)(hF:2*l.length+2<=F):∀(n a:Nat),a+n=7->TOk rb tb nv rq l F n a:=by
 intro n
 induction n with
 |zero=>
  intro a g b w c h;by_cases hk:(O l b).1=119
  ·exact GT rb tb nv rq l F 0 a b w c h d hF g (Qc (Qd ⟨rfl,hk⟩))
  ·exact GT rb tb nv rq l F 0 a b w c h d hF g (Qd hk)
 |succ n ih=>
  intro a g b w c h;have i:=ih (a+1) (by omega);have f:a+n=6:=by omega
  by_cases hk:(O l b).1=119
  ·by_cases hw:wL tNs (O l b).2.1=0
   ·exact GT rb tb nv rq l F (n+1) a b w c h d hF g (Qc (Qc ⟨hk,Nat.succ_pos n,hw⟩))
   ·have j:=(X1 (O l b).2.1 tNs).1 (by omega);simp only[tNs,List.mem_cons,List.not_mem_nil,or_false]at j;rcases j with e|e|e|e|e|e|e|e|e|e
    ·exact OQ rb tb nv rq l F n a b w c h d hF f hk e
    ·exact La rb tb nv rq l F n a b w c h d hF f hk e
    ·exact Pw rb tb nv rq l F n a b w c h d hF f i hk e
    ·exact Cd rb tb nv rq l F n a b w c h d hF f i hk (Qd e)
    ·exact Cd rb tb nv rq l F n a b w c h d hF f i hk (Qc e)
    ·exact Ia rb tb nv rq l F n a b w c h d hF f hk e
    ·exact FE rb tb nv rq l F n a b w c h d hF f hk e
    ·exact I1 rb tb nv rq l F n a b w c h d hF f hk e
    ·exact H5 rb tb nv rq l F n a b w c h d hF f hk e
    ·exact Oj rb tb nv rq l F n a b w c h d hF f hk e
  ·exact GT rb tb nv rq l F (n+1) a b w c h d hF g (Qd hk)
theorem Wr{tst:PS->Qb (β×PS)}{sub:PS->Qb (α×PS)}{y:(Xj×List (β×List α)×List α)×PS}(h:bindS st (Zp l F tst sub 7 pos)=.ok y):∃ els,y.1.1=⟨7,pos,0,[],[],els⟩:=by
 cases st with
 |error f=>cases h
 |ok s=>
  simp only[bindS,Zp]at h
  cases h1:armL l F tst sub s with
  |error f=>rw[h1]at h;cases h
  |ok a=>
   rw[h1]at h;simp only[Qo]at h
   cases h2:Z9 l F tst sub F [a.1] a.2 with
   |error f=>rw[h2]at h;cases h
   |ok b=>
    rw[h2]at h;simp only at h
    cases h3:mayL l [Yk] b.2 with
    |error f=>rw[h3]at h;cases h
    |ok c=>
     rw[h3]at h;simp only at h;by_cases hc:c.1=0
     ·rw[if_pos hc]at h;cases h;exact⟨false,rfl⟩
     ·rw[if_neg hc]at h
      cases h4:blockL l F sub c.2 with
      |error f=>rw[h4]at h;cases h
      |ok d=>rw[h4]at h;cases h;exact⟨true,rfl⟩
theorem T1(rb tb:Nat)(nv:Value)(rq:Qa)(l:L8)(F n d:Nat)(st:Qb PS)(w:World)(i:RdI w rb tb nv rq)(h:TSt w tb l st)(D:l.length<=600)(hF:2*l.length+2<=F)(hd:d+n=6)(C:(O l st).1=119)(B:TOk rb tb nv rq l F n (d+1))(A:COk rb tb nv rq l F n (d+1))(f:(O l st).2.1=kIf) :
 Calls prog 115 #[.pointer (some ⟨rb,0,none⟩),.int .i64 d] w (QY (bindS st (QG l rq F (n+1))) tb l w (ZU (n+1) (fromB w.heap.size)) XL):=by
 have z:Hid (bindS st (QG l rq F (n+1))=bindS (nextS l st) (Zp l F (Qy l rq F n) (QG l rq F n) 7 (O l st).2.2.2)):=by
  show _=_
  rw[Gc h C (by rw[f];decide),f,Av (by decide) (by decide)];rfl
 have r0:=Qk i.r;obtain⟨c2,c4,V,c6,c7⟩:=h.cells;have H:=I h;have p:=I i;have af:=Qg i.r;have aa:=h.lt;have Z:w.heap.size≠tb:=by omega
 have ae:w.heap.size≠rb:=by omega
 have ad:decide ((6:Int)<(d:Int))=false:=Qh (by omega);obtain⟨a,G⟩:=Qe ((O l st).2.1);rw[G]at V f;have c:=f;have e0:=QO [107,101,101,112] c rfl
 have e1:=QO [100,105,115,99,97,114,100] c rfl
 have e2:=QO [115,116,111,112] c rfl
 have e3:=QO [102,105,108,101,105,110,116,111] c rfl
 have e4:=QO [114,101,100,105,114,101,99,116] c rfl
 have e5:=QO [114,101,106,101,99,116] c rfl
 have e6:=QO [115,101,116] c rfl
 have e7:=Jl [105,102] c rfl
 obtain⟨b,g⟩:=QF ((w.alloc (.cells #[.string (sA a),.slice none 0 0,.int .i64 0,.slice none 0 0,.slice none 0 0,.int .i64 (O l st).2.2.2] 155)).drew);have U:=I g;have v:Hid (Mod tb w b):=by show Mod _ _ _;rw[g];exact((Mod.refl _ _).alloc _).drew
 have k:Hid (CNode b w.heap.size a (.slice none 0 0) 0 (.slice none 0 0) (.slice none 0 0) (O l st).2.2.2):=by show b.heap[w.heap.size]?=_;rw[g];exact QC _ _
 have R:Hid (TSt b tb l st):=by show TSt _ _ _ _;rw[g];exact(h.below (Qp (.cells #[.string (sA a),.slice none 0 0,.int .i64 0,.slice none 0 0,.slice none 0 0,.int .i64 (O l st).2.2.2] 155))).block rfl
 clear h i g C G;have T:=I f;have S:=I B;have N:=I A;clear f c B A;have Y:d<=6:=by omega
 go_enter func115,ntmps115;go_wp2_with fail;go_region;rw[<-U.o];have d0:=Qk (w:=b) (p.o.r.mod v.o p.o.n);have n0:=Qk k.o;have n5:=Q9 k.o;go_wp2_with fail;refine(Z2 tb l _ _ R.o D).mono ?_;rintro e L ⟨rfl,u,J⟩;have P:=I (v.o.trans u);have Q:Hid (CNode L w.heap.size a (.slice none 0 0) 0 (.slice none 0 0) (.slice none 0 0) (O l st).2.2.2):=QA k.o u Z;have M:=I (Hm w rb tb w.heap.size nv rq l F n d a (O l st).2.2.2 (nextS l st) L p.o P.o Ql aa Q.o J D hF Y S.o N.o);clear u J;go_wp2_with fail;refine M.o.mono ?_;rintro e w2 q;obtain rfl:=q.e;have j:=I q;clear q;go_wp2;go_ret;refine QY.mk j.o.m (by rw[congrArg stOf z.o];exact j.o.t) ⟨_,rfl⟩ (fun y hy=>?_);have K:=z.o.symm.trans hy;obtain⟨tv,bv,X,ht,W⟩:=j.o.ok y K;obtain⟨ac,E⟩:=Wr K;obtain⟨⟨x,ab,el⟩,s⟩:=y;simp only at E;subst E;exact V8 Ql X T.o.symm (Qd ⟨rfl,rfl⟩) ht W
theorem Ie(rb tb:Nat)(nv:Value)(rq:Qa)(l:L8)(F:Nat)(d:l.length<=600)(hF:2*l.length+2<=F):∀(n a:Nat),a+n=7->COk rb tb nv rq l F n a:=by
 intro n
 induction n with
 |zero=>
  intro a m b w f h c;exact Pv rb tb nv rq l F a b w f h d hF (by omega) c
 |succ n ih=>
  intro a m b w f h c;have j:=ih (a+1) (by omega);have k:=OY rb tb nv rq l F d hF n (a+1) (by omega);have g:a+n=6:=by omega
  by_cases hw:wL cNs (O l b).2.1=0
  ·exact RN rb tb nv rq l F n a b w f h d hF g c hw
  ·have i:=(X1 (O l b).2.1 cNs).1 (by omega);simp only[cNs,List.mem_cons,List.not_mem_nil,or_false]at i;rcases i with e|e|e|e|e|e|e|e
   ·exact Af 0 rb tb nv rq l F n a b w f h d hF g c (Qd ⟨e,rfl⟩)
   ·exact Af 1 rb tb nv rq l F n a b w f h d hF g c (Qc (Qd ⟨e,rfl⟩))
   ·exact Af 2 rb tb nv rq l F n a b w f h d hF g c (Qc (Qc ⟨e,rfl⟩))
   ·exact EF 3 _ rb tb nv rq l F n a b w f h d hF g c e (Qd ⟨rfl,rfl⟩)
   ·exact F0 rb tb nv rq l F n a b w f h d hF g c e
   ·exact EF 5 _ rb tb nv rq l F n a b w f h d hF g c e (Qc ⟨rfl,rfl⟩)
   ·exact RY rb tb nv rq l F n a b w f h d hF g c e
   ·exact T1 rb tb nv rq l F n a b w f h d hF g c k j e
theorem Wj:Qz 1=fun x=>if 0<wL [QX,ZB,ZD,Xc] x then 0 else 6:=rfl
structure Gn (R:Qb (Qa×PS)) (l:L8) (F:Nat) (st:Qb PS) (rq:Qa):Prop where
 r:∃ f,(∀ s,st=.ok s->mu l.length s < f)∧R=bindS st (X2 l F f rq)
theorem T5(h:Gn R l F st rq)(i:TSt w tb l st)(d:¬((O l st).1=119/\(O l st).2.1=JN)):R=bindS st fun s=>.ok (rq,s):=by
 obtain⟨⟨f,c,a⟩⟩:=h
 cases st with
 |error g=>exact a
 |ok s=>
  have j:=c s rfl;obtain⟨f,rfl⟩:∃ g,f=g+1:=⟨f - 1,by omega⟩;have b:Xr w tb l s:=i;simp only[bindS]at a ⊢;rw[X2,G9 b JN ⟨_,_,rfl,rfl⟩,if_neg (fun e=>d ⟨(Kv b.wd).2 e.1,e.2⟩)]at a;exact a
theorem So{p:World}{rq':Qa}(h:Gn R l F st rq)(B:TSt w tb l st)(n:(O l st).1=119/\(O l st).2.1=JN)(c:TSt p tb l (stOf (bindS (nextS l st) (sLs l (Qz 1) F))))(i:∀ z,bindS (nextS l st) (sLs l (Qz 1) F)=.ok z->rq'=z.1.foldl ZQ rq) :
 muS l (signS l 59 (stOf (bindS (nextS l st) (sLs l (Qz 1) F))))<muS l st/\Gn R l F (signS l 59 (stOf (bindS (nextS l st) (sLs l (Qz 1) F)))) rq':=by
 obtain⟨⟨f,u,d⟩⟩:=h;obtain⟨s,rfl,r,k⟩:=ZR B n.1;have G:=u s rfl;obtain⟨f,rfl⟩:∃ g,f=g+1:=⟨f - 1,by omega⟩;simp only[bindS]at d;rw[X2,G9 k JN ⟨_,_,rfl,rfl⟩,if_pos ⟨r,n.2⟩]at d;rw[Wj]at c i ⊢;have he:∀ g,signS l 59 (.error g)=.error g:=fun g=>by unfold signS;split<;>rfl
 have y:nextS l (.ok s)=nL l s.2:=rfl;rw[y]at c i ⊢
 cases hx:nL l s.2 with
 |error g=>
  rw[hx]at d;rw[show stOf (bindS (.error g) (sLs l (fun x=>if 0<wL [QX,ZB,ZD,Xc] x then 0 else 6) F))=.error g from rfl,he];exact⟨Nat.succ_pos _,⟨0,(fun s e=>by cases e),d⟩⟩
 |ok s1=>
  rw[hx]at d c i;simp only[bindS]at c i ⊢
  have j:R=Qo (sLs l (fun x=>if 0<wL [QX,ZB,ZD,Xc] x then 0 else 6) F s1) fun D C=>Qo (paL l [[59]] C) fun _ a=>X2 l F f (D.foldl ZQ rq) a:=by
   rw[d];simp only[Qo];rw[if_neg (by decide)]
  have H:=Yt k.le (by omega) hx;have v:Gd l s1:=V5 k.gd hx
  cases hz:sLs l (fun x=>if 0<wL [QX,ZB,ZD,Xc] x then 0 else 6) F s1 with
  |error g=>
   rw[hz]at j;rw[show stOf (Except.error g:Qb (Qa×PS))=.error g from rfl,he];exact⟨Nat.succ_pos _,⟨0,(fun s e=>by cases e),j⟩⟩
  |ok z=>
   rw[hz]at j c;have m:Xr p tb l z.2:=c;have J:=(GL v z hz).2;rw[i z hz];have A:=GR (β:=Qa) c 59 rfl (fun a=>X2 l F f (z.1.foldl ZQ rq) a);have t:R=bindS (signS l 59 (.ok z.2)) fun a=>X2 l F f (z.1.foldl ZQ rq) a:=j.trans A
   rw[show stOf (Except.ok z)=.ok z.2 from rfl]
   have o:∀ a,signS l 59 (.ok z.2)=.ok a->mu l.length a<mu l.length z.2:=by
    intro a b;unfold signS at b;by_cases h59:(O l (.ok z.2)).1=59
    ·rw[if_pos h59]at b;have E:kQ z.2.1=59:=h59;exact Yt m.le (fun q=>by have:kQ z.2.1=0:=(Vi m.wd).2 q;omega) b
    ·rw[if_neg h59]at b;cases b
   refine⟨?_,⟨f,fun a b=>?_,t⟩⟩
   ·cases b:signS l 59 (.ok z.2)with
    |error g=>exact Nat.succ_pos _
    |ok a=>have:=o a b;show mu l.length a+1<mu l.length s+1;omega
   ·have:=o a b;omega
theorem R6(h:bindS (nL l 0) (X2 l (2*l.length+10) (2*l.length+10) [])=bindS st fun s=>.ok (rq,s)):prL l=match bindS st (cMr (QG l rq (2*l.length+10) 7) (2*l.length+10) [])with | .ok cs=>.ok (rq,cs) | .error f=>.error f:=by
 have a:prL l=match bindS (nL l 0) (X2 l (2*l.length+10) (2*l.length+10) [])with
  | .error f=>.error f
  | .ok y=>match cMr (QG l y.1 (2*l.length+10) 7) (2*l.length+10) [] y.2 with
   | .error f=>.error f
   | .ok cs=>.ok (y.1,cs):=by
  unfold prL
  cases nL l 0 with
  |error f=>rfl
  |ok s=>rfl
 rw[a,h]
 cases st with
 |error f=>rfl
 |ok s=>
  simp only[bindS];cases cMr (QG l rq (2*l.length+10) 7) (2*l.length+10) [] s<;>rfl
theorem M0(rq:Qa)(xs:Qa)(k:Nat)(h:k<xs.length):(xs.take (k+1)).foldl ZQ rq=ZQ ((xs.take k).foldl ZQ rq) (xs.getD k []):=by
 rw[List.take_succ_eq_append_getElem h,List.foldl_append,List.getD_eq_getElem?_getD,List.getElem?_eq_getElem h];rfl
theorem RdI.of_owns{rb base:Nat}{nv:Value}(m:RdQ w rb tb nv)(l:rb≠tb)(c:w.ownsRow base 9 1 nv rq.length (Qv rq))(p:tb<base)(n:rq.length<=140737488355328):RdI w rb tb nv rq:=by
 refine⟨m,l,?_,n⟩;have k:=fun g (a:nv.ownBlock=some g)=>c.cells a
 rcases c.2 with⟨f,i⟩ | ⟨g,e,o,d,a,r⟩
 ·exact Qd ⟨Xz i,f⟩
 ·refine Qc ⟨g,e,d,fun j b=>?_,by omega⟩;have:=k g (by rw[d];rfl) j (.string (sA (rq.getD j []))) (by unfold Qv;rw[List.getElem?_map,List.getElem?_eq_getElem b,List.getD_eq_getElem?_getD,List.getElem?_eq_getElem b];rfl);rw[Ys]at this;exact this
end Go.Proofs.YtgnkjijocdmniaaGreatDoor
