import Derived.Test.YtgnkjijocdmniaaGreatDoorZQBrB
import Derived.Test.YtgnkjijocdmniaaGreatDoorZQCmdT
namespace Go.Proofs.YtgnkjijocdmniaaGreatDoor
set_option linter.unusedVariables false
set_option linter.unusedSimpArgs false
set_option maxRecDepth 100000
set_option maxHeartbeats 4000000
open Go.Proofs.Tryz
variable{α β:Type}{F pos tb:Nat}{R:Qb (Qa×PS)}{l:L8}{rq:Qa}{st:Qb PS}{w:World}
section
open Go.RowKit
attribute [local go_sem ↓] Go.wp_at_zero Go.wp_at_succ
theorem Tryz.infoSlCmd:(prog.info? 113).map (fun i=>(i.zero,i.size,i.bytes))=some (some (.slice none 0 0),1,24):=by kernel_rfl
structure Du (n:Nat) (M:Qb ((Zx×List (QQ n×List (QF n))×List (QF n))×PS)) (u:World) (tb gb:Nat) (l nm:L8) (pos:Nat) (e:Ending) (w':World):Prop where
 e:e=.returned (.tuple #[])
 m:Mod tb u w'
 t:TSt w' tb l (stOf M)
 ok:∀ y,M=.ok y->∃ tv bv,CNode w' gb nm (.slice none 0 0) 0 tv bv pos∧trY (RTest n) (fromB u.heap.size) (y.1.2.1.map Prod.fst) w' tv∧trY (trY (RCmd n)) (fromB u.heap.size) (XR y.1) w' bv
theorem BrR.done{n gb:Nat}{u:World}{o:L8}{f c:Value}{b:List (QQ n×List (QF n))}{d:List (List (QF n))}{i j:List Value}(g:b≠[])(h:BrI u tb gb o pos w f c i j)(hu:u.heap.size<=gb)(hr:BrR n gb w f c b d i j):trY (RTest n) (fromB u.heap.size) (b.map Prod.fst) w f/\trY (trY (RCmd n)) (fromB u.heap.size) (b.map Prod.snd++d) w c:=by
 have h1:b.map Prod.fst≠[]:=by simpa using g
 have h2:b.map Prod.snd++d≠[]:=by simp;exact fun e=>absurd e g
 have l:=Kj hr.r1;have m:=Kj hr.r2;have o1:=h.o1;have o2:=h.o2;rw[<-l]at o1;rw[<-m]at o2
 exact ⟨Qc ⟨h1,trX.weakQ (ZB n) h1 (trX.of_ownsQ (ZB n) o1 rfl h1 (hr.r1.imp (fun a u hu=>hu.left))) (fun k hk _=>Qm (Nat.le_succ_of_le hu) hk)⟩,
  Qc ⟨h2,trX.weakQ (ZO (Z1 n)) h2 (trX.of_ownsQ (ZO (Z1 n)) o2 rfl h2 (hr.r2.imp (fun a u hu=>hu.swap.left))) (fun k hk _=>Qm (Nat.le_succ_of_le hu) hk)⟩⟩
theorem Oa(u:World)(rb tb gb:Nat)(nv:Value)(rq:Qa)(l:L8)(F n aw:Nat)(nm:L8)(pos:Nat)(st:Qb PS)(w:World)(hr:RdI u rb tb nv rq)(hm:Mod tb u w)(ak:u.heap.size<=gb)(bK:tb<u.heap.size)(a9:CNode w gb nm (.slice none 0 0) 0 (.slice none 0 0) (.slice none 0 0) pos)(h:TSt w tb l st)(hl:l.length<=600)(hF:2*l.length+2<=F)(hd:aw<=6)(hT:TOk rb tb nv rq l F n (aw+1))(hC:COk rb tb nv rq l F n (aw+1)) :
 Calls prog 173 #[.pointer (some ⟨rb,0,none⟩),.pointer (some ⟨gb,0,none⟩),.int .i64 aw] w (Du n (bindS st (cBd l F (Qq l rq F n) (cmdL l rq F n) 7 pos)) u tb gb l nm pos):=by
 have aV:gb≠tb:=by omega
 have bJ:rb<u.heap.size:=Qh hr.r;have bE:gb≠rb:=by omega
 obtain⟨R,a7,aU⟩:=Ob (F:=F) (pos:=pos) (tst:=Qq l rq F n) (sub:=cmdL l rq F n) h hl hF;generalize bindS st (cBd l F (Qq l rq F n) (cmdL l rq F n) 7 pos)=M at aU ⊢;have a1:=I a7;have a3:=I aU;have HR:=I hr;have HM:=I hm;have aO:=I a9;have H:=I h;have HT:=I hT;have HC:=I hC;have bm:=I (fun s N=>U4 (l:=l) (req:=rq) (F:=F) n s N);have bl:=I (fun s N=>U3 (l:=l) (req:=rq) (F:=F) n s N);have bt:=VK h hl;obtain⟨i0,hi,bz,bA,bB⟩:=info_parts Tryz.infoPtrTest;obtain⟨j0,E,bf,bg,bh⟩:=info_parts Tryz.infoSlCmd;clear a7 aU hr hm a9 h hT hC;go_enter func173,ntmps173;go_upto_block 0 with fail
 go_cut [] (fun wx=>∃(d:Qb PS) (t p:Value) (C B:List Value),BrI u tb gb nm pos wx t p C B/\TSt wx tb l d/\stOf R=d/\B.length<=1301/\∀ y,R=.ok y->y.1≠[]/\BrR n gb wx t p y.1 [] C B)
 case first=>
  go_wp2_with fail
  go_loopg [6,7] (muS l st) (fun k _ _ wr=>∃(d:Qb PS) (T:List (QQ n×List (QF n))) (t p:Value) (C B:List Value),k=muS l d/\BrI u tb gb nm pos wr t p C B/\TSt wr tb l d/\ArmI R l F (Qq l rq F n) (cmdL l rq F n) d T/\C.length+muS l d<=1300/\B.length+muS l d<=1300/\∀ s,d=.ok s->BrR n gb wr t p T [] C B)
  case atStart=>exact⟨st,[],_,_,[],[],rfl,⟨aO.o,World.ownsRow_nil _ _ _ _,World.ownsRow_nil _ _ _ _,fun g h=>(by cases h),HM.o⟩,H.o,a1.o,by simp;omega,by simp;omega,fun _ _=>⟨trivial,trivial⟩⟩
  case round=>
   obtain⟨d,T,t,p,C,B,rfl,Z,X,a8,bH,bI,ba⟩:=hrel;have Q:=I Z;have aj:=I X;have a4:=I a8;have aP:=I ba;have bx:gb<wr.heap.size:=Qh Z.nd;have a2:=I (HT.o d wr (HR.o.mod Z.m) X);clear Z X a8 ba bt aO H HM;go_wp2_with fail;refine a2.o.mono ?_;rintro e Y h2;obtain⟨aa,aG,v,rfl,⟨g2,rfl⟩,bd⟩:=h2.st;have W:=Q.o.mod aa (by omega);have ad:=I W;have a5:=I aG;have aX:=W.o1;have bw:gb<Y.heap.size:=Qh W.nd;have t1:=QH W.nd
   have aQ:Hid (∀ z,bindS d (Qq l rq F n)=.ok z->QZ (fun a u=>Q0 (RTest n) (gb+1) Y t p a u) ((T.map Prod.fst)++[z.1]) (C++[.pointer (some ⟨g2,0,none⟩)])/\QZ (fun a u=>Q0 (trY (RCmd n)) (gb+1) Y t p a u) (T.map Prod.snd++[]) B):=by
    intro z q
    obtain⟨s,N⟩:∃ s,d=.ok s:=by
     cases d with
     |ok s=>exact⟨s,rfl⟩
     |error f=>cases q
    exact⟨QZ.snoc (P:=fun a u=>Q0 (RTest n) (gb+1) Y t p a u) (Q0.new (ZB n) (bd z q) bx (fun k i=>(Q.o.o1.lt k i).2) (fun k i=>(Q.o.o2.lt k i).2)) ((aP.o s N).r1.imp (fun a u c=>Q0.mod (ZB n) (b:=tb) c aa (by omega))),(aP.o s N).r2.imp (fun a u c=>Q0.mod (ZO (Z1 n)) (b:=tb) c aa (by omega))⟩
   clear h2 aa aG bd W Q a2;go_wp2_with (at_builtin;refine wpList_append_own_at _ rfl _ _ 152 rfl (gb+1) 158 i0 (.pointer none) 1 8 underlying152 hi bz bA bB rfl (by decide) _ _ _ rfl (aX.alloc _) ⟨Y.heap.size,0,none⟩ 1 1 [.pointer (some ⟨g2,0,none⟩)] rfl rfl ?c1 ?c2 ?c3 ?c4 ?c5 ?_)
   case c1=>
    intro j u E
    match j,E with
    |0,E=>simp at E;subst E;simp[Addr.add]
   case c2=>intro u c;simp at c;subst c;rfl
   case c3=>unfold maxLen;omega
   case c4=>omega
   case c5=>simp;omega
   ·intro v' w5 aY D _ J;have aW:=K3 (gb:=gb) aX bw D;have aL:=(aW gb (Nat.lt_succ_self _)).trans ad.o.nd;obtain⟨p5,m5,ae,rfl⟩:=Uu aY;obtain⟨W6,aC⟩:=QE (w5.setCell ⟨gb,3,none⟩ (.slice p5 m5 ae));have bp:=I aC;have aD:=ad.o.app1 ak D aY J;rw[<-aC]at aD;have aI:=I aD
    have a6:Hid (TSt W6 tb l (stOf (bindS d (Qq l rq F n)))):=by
     show TSt _ _ _ _
     rw[aC];exact(a5.o.block (aW tb (by omega))).block (Below.heap_setCell _ _ _ _ (Ne.symm aV))
    have aR:Hid (∀ z,bindS d (Qq l rq F n)=.ok z->QZ (fun a u=>Q0 (RTest n) (gb+1) W6 (.slice p5 m5 ae) p a u) ((T.map Prod.fst)++[z.1]) (C++[.pointer (some ⟨g2,0,none⟩)])/\QZ (fun a u=>Q0 (trY (RCmd n)) (gb+1) W6 (.slice p5 m5 ae) p a u) (T.map Prod.snd++[]) B):=by
     intro z q;rw[aC];exact⟨(aQ.o z q).1.imp (fun a u c=>Q0.set (ZB n) (Q0.grown (ZB n) c D J) (Nat.lt_succ_self _) _ _),(aQ.o z q).2.imp (fun a u c=>Q0.set (ZO (Z1 n)) (Q0.grown (ZO (Z1 n)) c D J) (Nat.lt_succ_self _) _ _)⟩
    have f5:=fun o=>Qz aL o
    have t5:=QH aL;have bF:gb<w5.heap.size:=Qh aL;have br:gb<W6.heap.size:=Qh aD.nd;have az:=I (Dv rb tb nv rq l F n aw _ W6 (HR.o.mod aD.m) a6.o hl hF hd HC.o);clear aY D aX J aW aL aC aD ad a5 aQ aP;go_wp2_with (rw[<-bp.o]);go_wp2_with fail;refine az.o.mono ?_;rintro e L h7;obtain⟨ab,ax,v,rfl,⟨p7,m7,c7,rfl⟩,aH⟩:=h7.st;have ay:=I (Oc bm.o bl.o a4.o aj.o rfl ax);have V:=aI.o.mod ab (by omega);have ag:=I V;have ar:=I ax;have ap:=V.o2;have aZ:gb<L.heap.size:=Qh V.nd;have t7:=QJ V.nd
    have ai:Hid (∀ z x,bindS d (Qq l rq F n)=.ok z->bindS (stOf (bindS d (Qq l rq F n))) (blockL l F (cmdL l rq F n))=.ok x->QZ (fun a u=>Q0 (RTest n) (gb+1) L (.slice p5 m5 ae) p a u) ((T.map Prod.fst)++[z.1]) (C++[.pointer (some ⟨g2,0,none⟩)])/\QZ (fun a u=>Q0 (trY (RCmd n)) (gb+1) L (.slice p5 m5 ae) p a u) ((T.map Prod.snd++[])++[x.1]) (B++[.slice p7 m7 c7])):=by
     intro z x q G;exact⟨(aR.o z q).1.imp (fun a u c=>Q0.mod (ZB n) (b:=tb) c ab (by omega)),QZ.snoc (P:=fun a u=>Q0 (trY (RCmd n)) (gb+1) L (.slice p5 m5 ae) p a u) (Q0.new (ZO (Z1 n)) (aH x G) br (fun k i=>(aI.o.o1.lt k i).2) (fun k i=>(aI.o.o2.lt k i).2)) ((aR.o z q).2.imp (fun a u c=>Q0.mod (ZO (Z1 n)) (b:=tb) c ab (by omega)))⟩
    obtain⟨A,bb⟩:=Qf (stOf (bindS (stOf (bindS d (Qq l rq F n))) (blockL l F (cmdL l rq F n))));rw[bb]at ay ar;clear h7 ab ax aH V aI az a6 aR bb aj a4;go_wp2_with (at_builtin;refine wpList_append_own_at _ rfl _ _ 153 rfl (gb+1) 113 j0 (.slice none 0 0) 1 24 underlying153 E bf bg bh rfl (by decide) _ _ _ rfl (ap.alloc _) ⟨L.heap.size,0,none⟩ 1 1 [.slice p7 m7 c7] rfl rfl ?c1 ?c2 ?c3 ?c4 ?c5 ?_)
    case c1=>
     intro j u E
     match j,E with
     |0,E=>simp at E;subst E;simp[Addr.add]
    case c2=>intro u c;simp at c;subst c;rfl
    case c3=>unfold maxLen;omega
    case c4=>omega
    case c5=>simp;omega
    ·intro bC w8 aq D _ J;have ao:=K3 (gb:=gb) ap aZ D;have ac:=(ao gb (Nat.lt_succ_self _)).trans ag.o.nd;obtain⟨p8,m8,c8,rfl⟩:=Uu aq;obtain⟨K,U⟩:=QE (w8.setCell ⟨gb,4,none⟩ (.slice p8 m8 c8));have av:=I U;have af:=ag.o.app2 ak D aq J;rw[<-U]at af;have ah:=I af
     have au:Hid (TSt K tb l A):=by
      show TSt _ _ _ _
      rw[U];exact(ar.o.block (ao tb (by omega))).block (Below.heap_setCell _ _ _ _ (Ne.symm aV))
     have aB:Hid (∀ z x,bindS d (Qq l rq F n)=.ok z->bindS (stOf (bindS d (Qq l rq F n))) (blockL l F (cmdL l rq F n))=.ok x->BrR n gb K (.slice p5 m5 ae) (.slice p8 m8 c8) (T++[(z.1,x.1)]) [] (C++[.pointer (some ⟨g2,0,none⟩)]) (B++[.slice p7 m7 c7])):=by
      intro z x q G;rw[U];refine⟨?_,?_⟩
      ·rw[List.map_append];exact(ai.o z x q G).1.imp (fun a u c=>Q0.set (ZB n) (Q0.grown (ZB n) c.swap D J).swap (Nat.lt_succ_self _) _ _)
      ·rw[List.map_append,List.append_nil];have:=(ai.o z x q G).2;rw[List.append_nil]at this;exact this.imp (fun a u c=>Q0.set (ZO (Z1 n)) (Q0.grown (ZO (Z1 n)) c.swap D J).swap (Nat.lt_succ_self _) _ _)
     have f8:=fun o=>Qz ac o
     have t8:=QJ ac;have bs:gb<w8.heap.size:=Qh ac;obtain⟨q2,q4,q5,_,_⟩:=au.o.cells;have qr:K.cell? ⟨rb,0,none⟩=some (.pointer (some ⟨tb,0,none⟩)):=Qn (HR.o.mod af.m).r 0;have e5:((sA (O l A).2.1).toList==[101,108,115,105,102])=decide ((O l A).2.1=Xe):=Z7 _ _;have e6:((sA (O l A).2.1).toList != [101,108,115,105,102])=!decide ((O l A).2.1=Xe):=by show(!((sA (O l A).2.1).toList==_))=_;rw[Z7];rfl
     clear aq D ap J ao ac U af ag ar ai;by_cases i:(O l A).1=119/\(O l A).2.1=Xe
     ·obtain⟨he,bu,z1,z2,bi,bj,G⟩:=ay.o.1 i;have aF:(((O l A).1:Int) != 119)=false:=by simp;omega
      have aE:((errS A:Int) != 0)=false:=by simp;omega
      rw[QO i.2]at e5 e6;have HX:=I G;have HZ:=I (aB.o z1 z2 bi bj);clear G bi bj ay i;go_wp2_with (rw[<-av.o]);go_wp2_with fail;refine(ZU tb l A _ (au.o.block rfl) hl).mono ?_;rintro e wa ⟨rfl,aK,bc⟩;have bo:=I bc;have bk:=I (ah.o.mod aK (by omega));have bn:Hid (BrR n gb wa (.slice p5 m5 ae) (.slice p8 m8 c8) (T++[(z1.1,z2.1)]) [] (C++[.pointer (some ⟨g2,0,none⟩)]) (B++[.slice p7 m7 c7])):=⟨HZ.o.r1.imp (fun a u c=>Q0.mod (ZB n) (b:=tb) c aK (by omega)),HZ.o.r2.imp (fun a u c=>Q0.mod (ZO (Z1 n)) (b:=tb) c aK (by omega))⟩;clear aK bc;go_wp2;go_roundg (muS l (nextS l A))
      case measure=>exact bu
      case rel=>exact⟨nextS l A,_,_,_,_,_,rfl,bk.o,bo.o,HX.o,by simp;omega,by simp;omega,fun _ _=>bn.o⟩
     ·obtain⟨hR,hy⟩:=ay.o.2 i;have S:=I hy
      have aA:Hid (∃(d:Qb PS) (t p:Value) (C B:List Value),BrI u tb gb nm pos K t p C B/\TSt K tb l d/\stOf R=d/\B.length<=1301/\∀ y,R=.ok y->y.1≠[]/\BrR n gb K t p y.1 [] C B):=by
       refine⟨A,_,_,_,_,ah.o,au.o,hR,by simp;omega,fun y e=>?_⟩;obtain⟨z1,z2,h1,h2,hh⟩:=S.o y e;rw[hh];exact⟨by simp,aB.o z1 z2 h1 h2⟩
      clear hy ay S hR;by_cases hk1:(O l A).1=119
      ·have aF:(((O l A).1:Int) != 119)=false:=by simp;omega
       have aE:((errS A:Int) != 0)=false:=by obtain⟨s,N,_,_⟩:=ZZ au.o hk1;rw[N];rfl
       rw[Qr (fun e=>i ⟨hk1,e⟩)]at e5 e6;clear i hk1;go_wp2_with (rw[<-av.o]);go_wp2;go_meet;exact aA.o
      ·have aF:(((O l A).1:Int) != 119)=true:=by simp;omega
       clear i hk1 e5 e6;cases aE:((errS A:Int) != 0)
       all_goals go_wp2_with (rw[<-av.o])
       all_goals go_wp2
       all_goals go_meet
       all_goals exact aA.o
 case rest=>
  obtain⟨d,t,p,C,B,Z,X,hR,bG,hy⟩:=hcut;rw[<-hR]at X;obtain⟨aS,aT⟩:=a3.o wc X;rw[hR]at aS aT X;have Q:=I Z;have aj:=I X;have S:=I hy;have bL:gb<wc.heap.size:=Qh Z.nd;have e5:((sA (O l d).2.1).toList==[101,108,115,101])=decide ((O l d).2.1=Xv):=Z7 _ _;obtain⟨q2,q4,q5,_,_⟩:=X.cells;have qr:wc.cell? ⟨rb,0,none⟩=some (.pointer (some ⟨tb,0,none⟩)):=Qn (HR.o.mod Z.m).r 0;have bD:=I hR;have aM:=I aS;have aN:=I aT;clear Z X hy hR aS aT a3 a1 HM aO H HT;by_cases i:(O l d).1=119/\(O l d).2.1=Xv
  ·obtain⟨hS,hO⟩:=aM.o i;have aF:(((O l d).1:Int)==119)=true:=by simp;omega
   have aE:((errS d:Int)==0)=true:=by obtain⟨s,N,_,_⟩:=ZZ aj.o i.1;rw[N];rfl
   rw[QO i.2]at e5;have HS:=I hS;have HO:=I hO;clear hS hO aM aN i;go_wp2_with fail;refine(ZU tb l d _ (aj.o.block rfl) hl).mono ?_;rintro e Y ⟨rfl,aa,aG⟩;have W:=Q.o.mod aa (by omega);have ad:=I W;have aJ:Hid (∀ y,R=.ok y->y.1≠[]/\BrR n gb Y t p y.1 [] C B):=fun y e=>⟨(S.o y e).1,(S.o y e).2.r1.imp (fun a u c=>Q0.mod (ZB n) (b:=tb) c aa (by omega)),(S.o y e).2.r2.imp (fun a u c=>Q0.mod (ZO (Z1 n)) (b:=tb) c aa (by omega))⟩
   have bq:gb<Y.heap.size:=Qh W.nd;have az:=I (Dv rb tb nv rq l F n aw _ Y (HR.o.mod W.m) aG hl hF hd HC.o);clear aa aG W Q S;go_wp2_with fail;refine az.o.mono ?_;rintro e L h7;obtain⟨ab,ax,v,rfl,⟨p7,m7,c7,rfl⟩,aH⟩:=h7.st;have V:=ad.o.mod ab (by omega);have ag:=I V;have ar:=I ax;have ap:=V.o2;have aZ:gb<L.heap.size:=Qh V.nd;have t7:=QJ V.nd
   have ai:Hid (∀ y x,R=.ok y->bindS (nextS l d) (blockL l F (cmdL l rq F n))=.ok x->QZ (fun a u=>Q0 (RTest n) (gb+1) L t p a u) (y.1.map Prod.fst) C/\QZ (fun a u=>Q0 (trY (RCmd n)) (gb+1) L t p a u) ((y.1.map Prod.snd++[])++[x.1]) (B++[.slice p7 m7 c7])):=by
    intro z x q G;exact⟨(aJ.o z q).2.r1.imp (fun a u c=>Q0.mod (ZB n) (b:=tb) c ab (by omega)),QZ.snoc (P:=fun a u=>Q0 (trY (RCmd n)) (gb+1) L t p a u) (Q0.new (ZO (Z1 n)) (aH x G) bq (fun k i=>(ad.o.o1.lt k i).2) (fun k i=>(ad.o.o2.lt k i).2)) ((aJ.o z q).2.r2.imp (fun a u c=>Q0.mod (ZO (Z1 n)) (b:=tb) c ab (by omega)))⟩
   clear h7 ab ax aH V ad az;go_wp2_with (at_builtin;refine wpList_append_own_at _ rfl _ _ 153 rfl (gb+1) 113 j0 (.slice none 0 0) 1 24 underlying153 E bf bg bh rfl (by decide) _ _ _ rfl (ap.alloc _) ⟨L.heap.size,0,none⟩ 1 1 [.slice p7 m7 c7] rfl rfl ?c1 ?c2 ?c3 ?c4 ?c5 ?_)
   case c1=>
    intro j u E
    match j,E with
    |0,E=>simp at E;subst E;simp[Addr.add]
   case c2=>intro u c;simp at c;subst c;rfl
   case c3=>unfold maxLen;omega
   case c4=>omega
   case c5=>simp;omega
   ·intro bC w8 aq D _ J;have ao:=K3 (gb:=gb) ap aZ D;have ac:=(ao gb (Nat.lt_succ_self _)).trans ag.o.nd;obtain⟨p8,m8,c8,rfl⟩:=Uu aq;obtain⟨K,U⟩:=QE (w8.setCell ⟨gb,4,none⟩ (.slice p8 m8 c8));have av:=I U;have af:=ag.o.app2 ak D aq J;rw[<-U]at af;have ah:=I af
    have au:Hid (TSt K tb l (stOf (bindS (nextS l d) (blockL l F (cmdL l rq F n))))):=by
     show TSt _ _ _ _
     rw[U];exact(ar.o.block (ao tb (by omega))).block (Below.heap_setCell _ _ _ _ (Ne.symm aV))
    have aB:Hid (∀ y x,R=.ok y->bindS (nextS l d) (blockL l F (cmdL l rq F n))=.ok x->BrR n gb K t (.slice p8 m8 c8) y.1 [x.1] C (B++[.slice p7 m7 c7])):=by
     intro z x q G;rw[U];refine⟨(ai.o z x q G).1.imp (fun a u c=>Q0.set (ZB n) (Q0.grown (ZB n) c.swap D J).swap (Nat.lt_succ_self _) _ _),?_⟩;have:=(ai.o z x q G).2;rw[List.append_nil]at this;exact this.imp (fun a u c=>Q0.set (ZO (Z1 n)) (Q0.grown (ZO (Z1 n)) c.swap D J).swap (Nat.lt_succ_self _) _ _)
    have f8:=fun o=>Qz ac o
    have t8:=QJ ac;have bs:gb<w8.heap.size:=Qh ac;clear aq D ap J ao ac U af ag ar ai;go_wp2_with (rw[<-av.o]);go_wp2;go_end0
    try rw[<-av.o]
    refine⟨rfl,ah.o.m,by rw[HS.o];exact au.o,fun y hy=>?_⟩;obtain⟨z,x,q,G,a0⟩:=HO.o y hy;rw[a0];exact⟨t,_,ah.o.nd,(BrR.done (aJ.o z q).1 ah.o ak (aB.o z x q G)).1,(BrR.done (aJ.o z q).1 ah.o ak (aB.o z x q G)).2⟩
  ·obtain⟨hS,hO⟩:=aN.o i
   have aA:Hid (Du n M u tb gb l nm pos (.returned (.tuple #[])) wc):=by
    refine⟨rfl,Q.o.m,by rw[hS];exact aj.o,fun y hy=>?_⟩;obtain⟨z,q,a0⟩:=hO y hy;rw[a0];exact⟨t,p,Q.o.nd,(BrR.done (S.o z q).1 Q.o ak (S.o z q).2).1,(BrR.done (S.o z q).1 Q.o ak (S.o z q).2).2⟩
   clear hS hO aM aN;by_cases hk1:(O l d).1=119
   ·have aF:(((O l d).1:Int)==119)=true:=by simp;omega
    have aE:((errS d:Int)==0)=true:=by obtain⟨s,N,_,_⟩:=ZZ aj.o hk1;rw[N];rfl
    rw[Qr (fun e=>i ⟨hk1,e⟩)]at e5;clear i hk1;go_wp2;go_end0;exact aA.o
   ·have aF:(((O l d).1:Int)==119)=false:=by simp;omega
    clear i hk1 e5;cases aE:((errS d:Int)==0)
    all_goals go_wp2
    all_goals go_end0
    all_goals exact aA.o
theorem VN{R:Qb (QX×PS)}:stOf (Qp R fun x s1=>.ok ((x,([]:List α)),s1))=stOf R/\∀ y,(Qp R fun x s1=>.ok ((x,([]:List α)),s1))=.ok y->∃ z,R=.ok z/\y.1=(z.1,[]):=by
 cases R with
 |error g=>exact⟨rfl,fun y e=>by cases e⟩
 |ok z=>exact⟨rfl,fun y e=>⟨z,rfl,by cases e;rfl⟩⟩
theorem Ba{g:PS->Qb (α×PS)}{k:α->PS->Qb (β×PS)}:bindS st (fun s=>Qp (g s) k)=Qp (bindS st g) k:=by cases st<;>rfl
theorem Bb{chk:L8->Nat}{k:Nat}{R:Qb ((Nat×Bool)×PS)}{y:QX×PS}(h:matchM l F chk k pos R=.ok y):y.1.kind=k/\y.1.num=0:=by
 unfold matchM at h
 cases R with
 |error g=>cases h
 |ok o=>
  simp only[Qp]at h
  cases h1:sLs l chk F o.2 with
  |error g=>rw[h1]at h;cases h
  |ok a=>
   rw[h1]at h;simp only at h
   cases h2:sLs l (fun _=>0) F a.2 with
   |error g=>rw[h2]at h;cases h
   |ok b=>rw[h2]at h;cases h;exact⟨rfl,rfl⟩
theorem Od(rb tb:Nat)(nv:Value)(rq:Qa)(l:L8)(F n p:Nat)(st:Qb PS)(w:World)(i:RdI w rb tb nv rq)(h:TSt w tb l st)(P:l.length<=600)(hF:2*l.length+2<=F)(hd:p+n=6)(q:(O l st).1=119)(hw:(O l st).2.1=X7) :
 Calls prog 214 #[.pointer (some ⟨rb,0,none⟩),.int .i64 p] w (QS (bindS st (Qq l rq F (n+1))) tb l w (RTest (n+1) (fromB w.heap.size)) XA):=by
 have k:Hid (bindS st (Qq l rq F (n+1))=Qp (matchM l F (Qx 0) 5 (O l st).2.2.2 (bindS (nextS l (preS l rq X7 st)) (Zb l F 0 false false))) fun x T=>.ok ((x,[]),T)):=by
  show _=_
  rw[Kq h q (by rw[hw];decide),hw,<-Bc,<-Ba];rfl
 have r0:=Qj i.r;obtain⟨U,V,K,W,X⟩:=h.cells;have H:=I h;have g:=I i;have ae:=Qh i.r;have Q:=h.lt;have ac:w.heap.size≠tb:=by omega
 obtain⟨s0,A,_,_⟩:=ZZ h q;have he:errS st=0:=by rw[A];rfl
 have ab:((errS st:Int) != 0)=false:=by simp;omega
 have ad:(((O l st).1:Int) != 119)=false:=by simp;omega
 have aa:decide ((6:Int)<(p:Int))=false:=Qr (by omega);obtain⟨a,v⟩:=Qf ((O l st).2.1);rw[v]at K hw;have c:=hw;have Y:=Ql [116,114,117,101] c rfl
 have Z:=Ql [102,97,108,115,101] c rfl
 have e2:=Ql [110,111,116] c rfl
 have e3:=Ql [97,108,108,111,102] c rfl
 have e4:=Ql [97,110,121,111,102] c rfl
 have e5:=Zz [104,101,97,100,101,114] c rfl
 obtain⟨b,f⟩:=QE (w.alloc (.cells #[.string (sA a),.slice none 0 0,.slice none 0 0,.slice none 0 0,.int .i64 0,.bool false,.int .i64 0] 200));have J:=I f;have s:Hid (Mod tb w b):=by show Mod _ _ _;rw[f];exact(Mod.refl _ _).alloc _
 have D:Hid (XF b w.heap.size a 0 false):=by show b.heap[w.heap.size]?=_;rw[f];exact QA _ _
 have E:Hid (TSt b tb l st):=by show TSt _ _ _ _;rw[f];exact h.below (Qs _)
 clear h i f A he q v;have C:=I (A5 w rb tb w.heap.size nv rq l a 5 (O l st).2.2.2 F 0 st b g.o.r g.o.n s.o Qt D.o (g.o.mod s.o).txl g.o.z E.o Q P hF (by rw[hw];rfl));rw[<-hw]at k;have G:=I hw;clear hw c;go_enter func214,ntmps214;go_wp2_with fail;rw[<-J.o];refine C.o.mono ?_;rintro e w2 d;have j:=I d;obtain rfl:=d.e;clear d;go_wp2;go_ret;refine QS.mk j.o.m (by rw[(congrArg stOf k.o).trans VN.1];exact j.o.t) ⟨_,rfl⟩ (fun y R=>?_);obtain⟨z,B,S⟩:=VN.2 y (k.o.symm.trans R);rw[S];obtain⟨u,N⟩:=Bb B;obtain⟨fv,kv,M,L,d⟩:=j.o.ok z B;exact Kt Qt (by rw[N];exact M) (by rw[u];exact G.o.symm) (Qd ⟨rfl,rfl⟩) (Qc L) (Qc d) (fun e=>absurd (u.symm.trans e) (by decide))
theorem Oe(rb tb:Nat)(nv:Value)(rq:Qa)(l:L8)(F n p:Nat)(st:Qb PS)(w:World)(i:RdI w rb tb nv rq)(h:TSt w tb l st)(P:l.length<=600)(hF:2*l.length+2<=F)(hd:p+n=6)(q:(O l st).1=119)(hw:(O l st).2.1=QN) :
 Calls prog 214 #[.pointer (some ⟨rb,0,none⟩),.int .i64 p] w (QS (bindS st (Qq l rq F (n+1))) tb l w (RTest (n+1) (fromB w.heap.size)) XA):=by
 have k:Hid (bindS st (Qq l rq F (n+1))=Qp (matchM l F (Qx 3) 6 (O l st).2.2.2 (bindS (nextS l (preS l rq QN st)) (Zb l F 0 false false))) fun x T=>.ok ((x,[]),T)):=by
  show _=_
  rw[Kq h q (by rw[hw];decide),hw,<-Bc,<-Ba];rfl
 have r0:=Qj i.r;obtain⟨U,V,K,W,X⟩:=h.cells;have H:=I h;have g:=I i;have ae:=Qh i.r;have Q:=h.lt;have ac:w.heap.size≠tb:=by omega
 obtain⟨s0,A,_,_⟩:=ZZ h q;have he:errS st=0:=by rw[A];rfl
 have ab:((errS st:Int) != 0)=false:=by simp;omega
 have ad:(((O l st).1:Int) != 119)=false:=by simp;omega
 have aa:decide ((6:Int)<(p:Int))=false:=Qr (by omega);obtain⟨a,v⟩:=Qf ((O l st).2.1);rw[v]at K hw;have b:=hw;have Y:=Ql [116,114,117,101] b rfl
 have Z:=Ql [102,97,108,115,101] b rfl
 have e2:=Ql [110,111,116] b rfl
 have e3:=Ql [97,108,108,111,102] b rfl
 have e4:=Ql [97,110,121,111,102] b rfl
 have e5:=Ql [104,101,97,100,101,114] b rfl
 have e6:=Zz [101,110,118,101,108,111,112,101] b rfl
 obtain⟨c,f⟩:=QE (w.alloc (.cells #[.string (sA a),.slice none 0 0,.slice none 0 0,.slice none 0 0,.int .i64 0,.bool false,.int .i64 0] 200));have J:=I f;have s:Hid (Mod tb w c):=by show Mod _ _ _;rw[f];exact(Mod.refl _ _).alloc _
 have D:Hid (XF c w.heap.size a 0 false):=by show c.heap[w.heap.size]?=_;rw[f];exact QA _ _
 have E:Hid (TSt c tb l st):=by show TSt _ _ _ _;rw[f];exact h.below (Qs _)
 clear h i f A he q v;have C:=I (A5 w rb tb w.heap.size nv rq l a 6 (O l st).2.2.2 F 3 st c g.o.r g.o.n s.o Qt D.o (g.o.mod s.o).txl g.o.z E.o Q P hF (by rw[hw];rfl));rw[<-hw]at k;have G:=I hw;clear hw b;go_enter func214,ntmps214;go_wp2_with fail;rw[<-J.o];refine C.o.mono ?_;rintro e w2 d;have j:=I d;obtain rfl:=d.e;clear d;go_wp2;go_ret;refine QS.mk j.o.m (by rw[(congrArg stOf k.o).trans VN.1];exact j.o.t) ⟨_,rfl⟩ (fun y R=>?_);obtain⟨z,B,S⟩:=VN.2 y (k.o.symm.trans R);rw[S];obtain⟨u,N⟩:=Bb B;obtain⟨fv,kv,M,L,d⟩:=j.o.ok z B;exact Kt Qt (by rw[N];exact M) (by rw[u];exact G.o.symm) (Qd ⟨rfl,rfl⟩) (Qc L) (Qc d) (fun e=>absurd (u.symm.trans e) (by decide))
theorem Of(rb tb:Nat)(nv:Value)(rq:Qa)(l:L8)(F n p:Nat)(st:Qb PS)(w:World)(i:RdI w rb tb nv rq)(h:TSt w tb l st)(P:l.length<=600)(hF:2*l.length+2<=F)(hd:p+n=6)(q:(O l st).1=119)(hw:(O l st).2.1=ZA) :
 Calls prog 214 #[.pointer (some ⟨rb,0,none⟩),.int .i64 p] w (QS (bindS st (Qq l rq F (n+1))) tb l w (RTest (n+1) (fromB w.heap.size)) XA):=by
 have k:Hid (bindS st (Qq l rq F (n+1))=Qp (matchM l F (Qx 0) 7 (O l st).2.2.2 (bindS (nextS l (preS l rq ZA st)) (Zb l F 0 false false))) fun x T=>.ok ((x,[]),T)):=by
  show _=_
  rw[Kq h q (by rw[hw];decide),hw,<-Bc,<-Ba];rfl
 have r0:=Qj i.r;obtain⟨U,V,K,W,X⟩:=h.cells;have H:=I h;have g:=I i;have ae:=Qh i.r;have Q:=h.lt;have ac:w.heap.size≠tb:=by omega
 obtain⟨s0,A,_,_⟩:=ZZ h q;have he:errS st=0:=by rw[A];rfl
 have ab:((errS st:Int) != 0)=false:=by simp;omega
 have ad:(((O l st).1:Int) != 119)=false:=by simp;omega
 have aa:decide ((6:Int)<(p:Int))=false:=Qr (by omega);obtain⟨a,v⟩:=Qf ((O l st).2.1);rw[v]at K hw;have b:=hw;have Y:=Ql [116,114,117,101] b rfl
 have Z:=Ql [102,97,108,115,101] b rfl
 have e2:=Ql [110,111,116] b rfl
 have e3:=Ql [97,108,108,111,102] b rfl
 have e4:=Ql [97,110,121,111,102] b rfl
 have e5:=Ql [104,101,97,100,101,114] b rfl
 have e6:=Ql [101,110,118,101,108,111,112,101] b rfl
 have e7:=Zz [115,116,114,105,110,103] b rfl
 obtain⟨c,f⟩:=QE (w.alloc (.cells #[.string (sA a),.slice none 0 0,.slice none 0 0,.slice none 0 0,.int .i64 0,.bool false,.int .i64 0] 200));have J:=I f;have s:Hid (Mod tb w c):=by show Mod _ _ _;rw[f];exact(Mod.refl _ _).alloc _
 have D:Hid (XF c w.heap.size a 0 false):=by show c.heap[w.heap.size]?=_;rw[f];exact QA _ _
 have E:Hid (TSt c tb l st):=by show TSt _ _ _ _;rw[f];exact h.below (Qs _)
 clear h i f A he q v;have C:=I (A5 w rb tb w.heap.size nv rq l a 7 (O l st).2.2.2 F 0 st c g.o.r g.o.n s.o Qt D.o (g.o.mod s.o).txl g.o.z E.o Q P hF (by rw[hw];rfl));rw[<-hw]at k;have G:=I hw;clear hw b;go_enter func214,ntmps214;go_wp2_with fail;rw[<-J.o];refine C.o.mono ?_;rintro e w2 d;have j:=I d;obtain rfl:=d.e;clear d;go_wp2;go_ret;refine QS.mk j.o.m (by rw[(congrArg stOf k.o).trans VN.1];exact j.o.t) ⟨_,rfl⟩ (fun y R=>?_);obtain⟨z,B,S⟩:=VN.2 y (k.o.symm.trans R);rw[S];obtain⟨u,N⟩:=Bb B;obtain⟨fv,kv,M,L,d⟩:=j.o.ok z B;exact Kt Qt (by rw[N];exact M) (by rw[u];exact G.o.symm) (Qd ⟨rfl,rfl⟩) (Qc L) (Qc d) (fun e=>absurd (u.symm.trans e) (by decide))
end
section
open Go.RowKit
theorem Og(rb tb:Nat)(nv:Value)(rq:Qa)(l:L8)(F:Nat)(d:l.length<=600)(hF:2*l.length+2<=F):∀(n a:Nat),a+n=7->TOk rb tb nv rq l F n a:=by
 intro n
 induction n with
 |zero=>
  intro a g b w c h;by_cases hk:(O l b).1=119
  ·exact NL rb tb nv rq l F 0 a b w c h d hF g (Qc (Qd ⟨rfl,hk⟩))
  ·exact NL rb tb nv rq l F 0 a b w c h d hF g (Qd hk)
 |succ n ih=>
  intro a g b w c h;have i:=ih (a+1) (by omega);have f:a+n=6:=by omega
  by_cases hk:(O l b).1=119
  ·by_cases hw:wL tNs (O l b).2.1=0
   ·exact NL rb tb nv rq l F (n+1) a b w c h d hF g (Qc (Qc ⟨hk,Nat.succ_pos n,hw⟩))
   ·have j:=(YH (O l b).2.1 tNs).1 (by omega);simp only[tNs,List.mem_cons,List.not_mem_nil,or_false]at j;rcases j with e|e|e|e|e|e|e|e|e|e
    ·exact Oh rb tb nv rq l F n a b w c h d hF f hk e
    ·exact Oi rb tb nv rq l F n a b w c h d hF f hk e
    ·exact Oj rb tb nv rq l F n a b w c h d hF f i hk e
    ·exact Ok rb tb nv rq l F n a b w c h d hF f i hk e
    ·exact Ol rb tb nv rq l F n a b w c h d hF f i hk e
    ·exact Od rb tb nv rq l F n a b w c h d hF f hk e
    ·exact Oe rb tb nv rq l F n a b w c h d hF f hk e
    ·exact Of rb tb nv rq l F n a b w c h d hF f hk e
    ·exact Om rb tb nv rq l F n a b w c h d hF f hk e
    ·exact Le rb tb nv rq l F n a b w c h d hF f hk e
  ·exact NL rb tb nv rq l F (n+1) a b w c h d hF g (Qd hk)
end
section
open Go.RowKit
attribute [local go_sem ↓] Go.wp_at_zero Go.wp_at_succ
theorem On{tst:PS->Qb (β×PS)}{sub:PS->Qb (α×PS)}{y:(Zx×List (β×List α)×List α)×PS}(h:bindS st (cBd l F tst sub 7 pos)=.ok y):∃ els,y.1.1=⟨7,pos,0,[],[],els⟩:=by
 cases st with
 |error f=>cases h
 |ok s=>
  simp only[bindS,cBd]at h
  cases h1:armL l F tst sub s with
  |error f=>rw[h1]at h;cases h
  |ok a=>
   rw[h1]at h;simp only[Qp]at h
   cases h2:aMr l F tst sub F [a.1] a.2 with
   |error f=>rw[h2]at h;cases h
   |ok b=>
    rw[h2]at h;simp only at h
    cases h3:mayL l [Xv] b.2 with
    |error f=>rw[h3]at h;cases h
    |ok c=>
     rw[h3]at h;simp only at h;by_cases hc:c.1=0
     ·rw[if_pos hc]at h;cases h;exact⟨false,rfl⟩
     ·rw[if_neg hc]at h
      cases h4:blockL l F sub c.2 with
      |error f=>rw[h4]at h;cases h
      |ok d=>rw[h4]at h;cases h;exact⟨true,rfl⟩
theorem Oo(rb tb:Nat)(nv:Value)(rq:Qa)(l:L8)(F n d:Nat)(st:Qb PS)(w:World)(g:RdI w rb tb nv rq)(h:TSt w tb l st)(C:l.length<=600)(hF:2*l.length+2<=F)(hd:d+n=6)(B:(O l st).1=119)(A:TOk rb tb nv rq l F n (d+1))(z:COk rb tb nv rq l F n (d+1))(hw:(O l st).2.1=kIf) :
 Calls prog 115 #[.pointer (some ⟨rb,0,none⟩),.int .i64 d] w (QS (bindS st (cmdL l rq F (n+1))) tb l w (RCmd (n+1) (fromB w.heap.size)) XA):=by
 have v:Hid (bindS st (cmdL l rq F (n+1))=bindS (nextS l st) (cBd l F (Qq l rq F n) (cmdL l rq F n) 7 (O l st).2.2.2)):=by
  show _=_
  rw[Uq h B (by rw[hw];decide),hw,GH (by decide) (by decide)];rfl
 have r0:=Qj g.r;obtain⟨c2,c4,U,c6,c7⟩:=h.cells;have H:=I h;have k:=I g;have af:=Qh g.r;have aa:=h.lt;have Y:w.heap.size≠tb:=by omega
 have ae:w.heap.size≠rb:=by omega
 have ad:decide ((6:Int)<(d:Int))=false:=Qr (by omega);obtain⟨a,E⟩:=Qf ((O l st).2.1);rw[E]at U hw;have c:=hw;have e0:=Ql [107,101,101,112] c rfl
 have e1:=Ql [100,105,115,99,97,114,100] c rfl
 have e2:=Ql [115,116,111,112] c rfl
 have e3:=Ql [102,105,108,101,105,110,116,111] c rfl
 have e4:=Ql [114,101,100,105,114,101,99,116] c rfl
 have e5:=Ql [114,101,106,101,99,116] c rfl
 have e6:=Ql [115,101,116] c rfl
 have e7:=Zz [105,102] c rfl
 obtain⟨b,f⟩:=QE ((w.alloc (.cells #[.string (sA a),.slice none 0 0,.int .i64 0,.slice none 0 0,.slice none 0 0,.int .i64 (O l st).2.2.2] 155)).drew);have T:=I f;have u:Hid (Mod tb w b):=by show Mod _ _ _;rw[f];exact((Mod.refl _ _).alloc _).drew
 have j:Hid (CNode b w.heap.size a (.slice none 0 0) 0 (.slice none 0 0) (.slice none 0 0) (O l st).2.2.2):=by show b.heap[w.heap.size]?=_;rw[f];exact QA _ _
 have Q:Hid (TSt b tb l st):=by show TSt _ _ _ _;rw[f];exact(h.below (Qs (.cells #[.string (sA a),.slice none 0 0,.int .i64 0,.slice none 0 0,.slice none 0 0,.int .i64 (O l st).2.2.2] 155))).block rfl
 clear h g f B E;have S:=I hw;have R:=I A;have M:=I z;clear hw c A z;have X:d<=6:=by omega
 go_enter func115,ntmps115;go_wp2_with fail;go_region;rw[<-T.o];have d0:=Qj (w:=b) (k.o.r.mod u.o k.o.n);have n0:=Qj j.o;have n5:=QM j.o;go_wp2_with fail;refine(ZU tb l _ _ Q.o C).mono ?_;rintro e K ⟨rfl,q,G⟩;have N:=I (u.o.trans q);have P:Hid (CNode K w.heap.size a (.slice none 0 0) 0 (.slice none 0 0) (.slice none 0 0) (O l st).2.2.2):=Qu j.o q Y;have L:=I (Oa w rb tb w.heap.size nv rq l F n d a (O l st).2.2.2 (nextS l st) K k.o N.o Qt aa P.o G C hF X R.o M.o);clear q G;go_wp2_with fail;refine L.o.mono ?_;rintro e w2 p;obtain rfl:=p.e;have i:=I p;clear p;go_wp2;go_ret;refine QS.mk i.o.m (by rw[congrArg stOf v.o];exact i.o.t) ⟨_,rfl⟩ (fun y hy=>?_);have J:=v.o.symm.trans hy;obtain⟨tv,bv,W,Z,V⟩:=i.o.ok y J;obtain⟨ac,D⟩:=On J;obtain⟨⟨x,ab,el⟩,s⟩:=y;simp only at D;subst D;exact Us Qt W S.o.symm (Qd ⟨rfl,rfl⟩) Z V
theorem MZ(rb tb:Nat)(nv:Value)(rq:Qa)(l:L8)(F:Nat)(d:l.length<=600)(hF:2*l.length+2<=F):∀(n a:Nat),a+n=7->COk rb tb nv rq l F n a:=by
 intro n
 induction n with
 |zero=>
  intro a m b w f h c;exact Oq rb tb nv rq l F a b w f h d hF (by omega) c
 |succ n ih=>
  intro a m b w f h c;have j:=ih (a+1) (by omega);have k:=Og rb tb nv rq l F d hF n (a+1) (by omega);have g:a+n=6:=by omega
  by_cases hw:wL cNs (O l b).2.1=0
  ·exact Ot rb tb nv rq l F n a b w f h d hF g c hw
  ·have i:=(YH (O l b).2.1 cNs).1 (by omega);simp only[cNs,List.mem_cons,List.not_mem_nil,or_false]at i;rcases i with e|e|e|e|e|e|e|e
   ·exact Ou rb tb nv rq l F n a b w f h d hF g c e
   ·exact Ov rb tb nv rq l F n a b w f h d hF g c e
   ·exact Ow rb tb nv rq l F n a b w f h d hF g c e
   ·exact M2 rb tb nv rq l F n a b w f h d hF g c e
   ·exact M3 rb tb nv rq l F n a b w f h d hF g c e
   ·exact M4 rb tb nv rq l F n a b w f h d hF g c e
   ·exact M8 rb tb nv rq l F n a b w f h d hF g c e
   ·exact Oo rb tb nv rq l F n a b w f h d hF g c k j e
end
section
open Go.RowKit
theorem Ox:Qx 1=fun x=>if 0<wL [QN,Ze,Zf,ZJ] x then 0 else 6:=rfl
structure GC (R:Qb (Qa×PS)) (l:L8) (F:Nat) (st:Qb PS) (rq:Qa):Prop where
 r:∃ f,(∀ s,st=.ok s->mu l.length s < f)∧R=bindS st (reqMore l F f rq)
theorem MY(h:GC R l F st rq)(i:TSt w tb l st)(d:¬((O l st).1=119/\(O l st).2.1=YY)):R=bindS st fun s=>.ok (rq,s):=by
 obtain⟨⟨f,c,a⟩⟩:=h
 cases st with
 |error g=>exact a
 |ok s=>
  have j:=c s rfl;obtain⟨f,rfl⟩:∃ g,f=g+1:=⟨f - 1,by omega⟩;have b:XI w tb l s:=i;simp only[bindS]at a ⊢;rw[reqMore,NM b YY ⟨_,_,rfl,rfl⟩,if_neg (fun e=>d ⟨(K4 b.wd).2 e.1,e.2⟩)]at a;exact a
theorem MW{w2:World}{rq':Qa}(h:GC R l F st rq)(A:TSt w tb l st)(n:(O l st).1=119/\(O l st).2.1=YY)(c:TSt w2 tb l (stOf (bindS (nextS l st) (sLs l (Qx 1) F))))(i:∀ z,bindS (nextS l st) (sLs l (Qx 1) F)=.ok z->rq'=z.1.foldl ZF rq) :
 muS l (signS l 59 (stOf (bindS (nextS l st) (sLs l (Qx 1) F))))<muS l st/\GC R l F (signS l 59 (stOf (bindS (nextS l st) (sLs l (Qx 1) F)))) rq':=by
 obtain⟨⟨f,t,d⟩⟩:=h;obtain⟨s,rfl,q,k⟩:=ZZ A n.1;have E:=t s rfl;obtain⟨f,rfl⟩:∃ g,f=g+1:=⟨f - 1,by omega⟩;simp only[bindS]at d;rw[reqMore,NM k YY ⟨_,_,rfl,rfl⟩,if_pos ⟨q,n.2⟩]at d;rw[Ox]at c i ⊢;have he:∀ g,signS l 59 (.error g)=.error g:=fun g=>by unfold signS;split<;>rfl
 have v:nextS l (.ok s)=nL l s.2:=rfl;rw[v]at c i ⊢
 cases hx:nL l s.2 with
 |error g=>
  rw[hx]at d;rw[show stOf (bindS (.error g) (sLs l (fun x=>if 0<wL [QN,Ze,Zf,ZJ] x then 0 else 6) F))=.error g from rfl,he];exact⟨Nat.succ_pos _,⟨0,(fun s e=>by cases e),d⟩⟩
 |ok s1=>
  rw[hx]at d c i;simp only[bindS]at c i ⊢
  have j:R=Qp (sLs l (fun x=>if 0<wL [QN,Ze,Zf,ZJ] x then 0 else 6) F s1) fun C B=>Qp (paL l [[59]] B) fun _ a=>reqMore l F f (C.foldl ZF rq) a:=by
   rw[d];simp only[Qp];rw[if_neg (by decide)]
  have G:=Y8 k.le (by omega) hx;have u:Gd l s1:=GJ k.gd hx
  cases hz:sLs l (fun x=>if 0<wL [QN,Ze,Zf,ZJ] x then 0 else 6) F s1 with
  |error g=>
   rw[hz]at j;rw[show stOf (Except.error g:Qb (Qa×PS))=.error g from rfl,he];exact⟨Nat.succ_pos _,⟨0,(fun s e=>by cases e),j⟩⟩
  |ok z=>
   rw[hz]at j c;have m:XI w2 tb l z.2:=c;have H:=(NN u z hz).2;rw[i z hz];have y:=NO (β:=Qa) c 59 rfl (fun a=>reqMore l F f (z.1.foldl ZF rq) a);have r:R=bindS (signS l 59 (.ok z.2)) fun a=>reqMore l F f (z.1.foldl ZF rq) a:=j.trans y
   rw[show stOf (Except.ok z)=.ok z.2 from rfl]
   have o:∀ a,signS l 59 (.ok z.2)=.ok a->mu l.length a<mu l.length z.2:=by
    intro a b;unfold signS at b;by_cases h59:(O l (.ok z.2)).1=59
    ·rw[if_pos h59]at b;have D:kQ z.2.1=59:=h59;exact Y8 m.le (fun p=>by have:kQ z.2.1=0:=(VO m.wd).2 p;omega) b
    ·rw[if_neg h59]at b;cases b
   refine⟨?_,⟨f,fun a b=>?_,r⟩⟩
   ·cases b:signS l 59 (.ok z.2)with
    |error g=>exact Nat.succ_pos _
    |ok a=>have:=o a b;show mu l.length a+1<mu l.length s+1;omega
   ·have:=o a b;omega
theorem MV(h:bindS (nL l 0) (reqMore l (2*l.length+10) (2*l.length+10) [])=bindS st fun s=>.ok (rq,s)):prL l=match bindS st (cMr (cmdL l rq (2*l.length+10) 7) (2*l.length+10) [])with | .ok cs=>.ok (rq,cs) | .error f=>.error f:=by
 have a:prL l=match bindS (nL l 0) (reqMore l (2*l.length+10) (2*l.length+10) [])with
  | .error f=>.error f
  | .ok y=>match cMr (cmdL l y.1 (2*l.length+10) 7) (2*l.length+10) [] y.2 with
   | .error f=>.error f
   | .ok cs=>.ok (y.1,cs):=by
  unfold prL
  cases nL l 0 with
  |error f=>rfl
  |ok s=>rfl
 rw[a,h]
 cases st with
 |error f=>rfl
 |ok s=>
  simp only[bindS];cases cMr (cmdL l rq (2*l.length+10) 7) (2*l.length+10) [] s<;>rfl
theorem MX(rq:Qa)(xs:Qa)(k:Nat)(h:k<xs.length):(xs.take (k+1)).foldl ZF rq=ZF ((xs.take k).foldl ZF rq) (xs.getD k []):=by
 rw[List.take_succ_eq_append_getElem h,List.foldl_append,List.getD_eq_getElem?_getD,List.getElem?_eq_getElem h];rfl
theorem RdI.of_owns{rb base:Nat}{nv:Value}(m:RdQ w rb tb nv)(l:rb≠tb)(c:w.ownsRow base 9 1 nv rq.length (Qw rq))(p:tb<base)(n:rq.length<=140737488355328):RdI w rb tb nv rq:=by
 refine⟨m,l,?_,n⟩;have k:=fun g (a:nv.ownBlock=some g)=>c.cells a
 rcases c.2 with⟨f,i⟩ | ⟨g,e,o,d,a,r⟩
 ·exact Qd ⟨XB i,f⟩
 ·refine Qc ⟨g,e,d,fun j b=>?_,by omega⟩;have:=k g (by rw[d];rfl) j (.string (sA (rq.getD j []))) (by unfold Qw;rw[List.getElem?_map,List.getElem?_eq_getElem b,List.getD_eq_getElem?_getD,List.getElem?_eq_getElem b];rfl);rw[Jx]at this;exact this
end
end Go.Proofs.YtgnkjijocdmniaaGreatDoor
