import Derived.Test.YtgnkjijocdmniaaGreatDoorZLMarksA
namespace Go.Proofs.YtgnkjijocdmniaaGreatDoor
set_option linter.unusedVariables false
set_option linter.unusedSimpArgs false
set_option maxRecDepth 100000
set_option maxHeartbeats 4000000
open Go.Proofs.Tryz
open Go.RowKit
attribute [local go_sem ↓] Go.wp_at_zero Go.wp_at_succ
theorem Pq(v:Bool)(l:List Ins)(ov:Value)(M:Msg)(hv:Value)(w:World)(ho:UX w ov l)(hl:l.length<=400)(hh:HdR w M hv)(hm:KR M) :
 Calls prog 28 #[.bool v,ov,UZ M hv] w fun e w'=>Below w.heap.size w w'/\∃ lv,e=.returned (.tuple #[Yp lv (execL v l M).2.2,.int .i64 ((execL v l M).2.1:Nat)])/\w'.ownsRow w.heap.size 52 2 lv (execL v l M).1.length (QZ (execL v l M).1)/\(execL v l M).1.length<=7:=by
 obtain⟨oa,oc,cD,b0⟩:=ho;subst cD;obtain⟨bf,bt,cG,_⟩:=id hh;have HH:=I hh;have HM:=I hm;have ck:=I b0;subst cG;have cT:¬(400:Int)<(l.length:Int):=by omega
 unfold UZ;obtain⟨W0,aA⟩:=QF (((w.alloc (.cells #[.string (sA M.fr),.string (sA M.to),.int .i64 M.size,.slice bf M.hdrs.length bt] 28)).alloc (.cells #[.slice none 0 0,.int .i64 0,.int .i64 0] 70)).alloc (.cells #[.string (sA M.fr),.string (sA M.to),.int .i64 M.size,.slice bf M.hdrs.length bt,.bool v,.slice none 0 0,.slice none 0 0,.slice none 0 0,.slice none 0 0,.bool true,.bool false,.int .i64 0,.int .i64 0] 104));have cr:=I aA;have ba:Below w.heap.size w W0:=by rw[aA];exact((Qp _).alloc (by simp) _).alloc (by simp;omega) _
 have a7:Hid (RBk (w.heap.size+1) W0):=by show RBk _ _;unfold RBk;rw[aA];exact Qn (Q5 (by simp))
 obtain⟨B,aS⟩:=Qe (w.heap.size);obtain⟨sb,bw⟩:=Qe (B+1+1);obtain⟨rb,aY⟩:=Qe (B+1);have bd:StI W0 w.heap.size sb M (ss0 v) ⟨.slice bf M.hdrs.length bt,.slice none 0 0,.slice none 0 0,.slice none 0 0,.slice none 0 0,[],[]⟩ 0 true false 0 0:=StI.new v ba (by omega) (by unfold SB;rw[aA];exact Q5 (by simp;omega)) HH.o HM.o;rw[aS]at bd a7;rw[aY]at a7;have cp:=I bd;have b7:Hid (Below B w W0):=by rw[<-aS];exact ba
 have ah:=I aS;have cM:=I bw;have cl:=I aY;clear hh hm b0 aA bd ba aS;go_enter func28,ntmps28;go_upto_block 0 with fail
 rw[<-cr.o,ah.o,bw,aY];clear bw aY;go_cut [9,10,11] (fun _ tv _ wx=>∃ r,∃ d:Nat,tv=.int .i64 d/\RP B sb M d 0 r wx/\ExR (Xh M l l.length (ms0 v) 0) r d/\Below B w wx/\RBk rb wx)
 case first=>
  go_wp2_with fail
  go_loopg [9,10,11,13,17] l.length (fun m sv tv pv _ _ wr=>∃ pc d:Nat,m=l.length - pc/\pc<=l.length/\d<=pc/\tv=.int .i64 d/\pv=.int .i64 pc/\Hid (Below B w wr)/\Hid (RBk rb wr)/\Hid (ExI B sb M l v sv d pc wr))
  case atStart=>exact⟨0,0,by omega,QE,Nat.le_refl _,rfl,rfl,b7,a7,Qd ⟨ss0 v,[],0,l.length,_,cp.o,QE,Zj,Nat.le_refl _,rfl⟩⟩
  case round=>
   obtain⟨pc,d,rfl,cU,cR,rfl,rfl,HB,HR,HX⟩:=hrel;rcases HX.o with⟨s,st,cL,f,z,hS,H,A,hf,bZ⟩ | ⟨r,bV,ai,bW⟩
   rotate_left
   ·have aR:=ai.ends.1;rw[bV]at aR;have aQ:=I ai;have ar:=I bW;clear bV ai bW;by_cases hpl:pc<l.length
    ·have bm:(pc:Int)<(l.length:Int):=by omega
     go_wp2;go_meet;exact⟨r,d,rfl,aQ.o,ar.o,HB.o,HR.o⟩
    ·have bm:¬(pc:Int)<(l.length:Int):=by omega
     go_wp2;go_meet;exact⟨r,d,rfl,aQ.o,ar.o,HB.o,HR.o⟩
   ·have aR:=Gt hS.blk;have HS:=I hS;have bK:=I A;have a5:=I bZ;clear hS A bZ HX;by_cases hpl:pc<l.length;rotate_left
    ·have bm:¬(pc:Int)<(l.length:Int):=by omega
     go_wp2;go_meet;refine⟨.ok (s,false),d,rfl,⟨z,HS.o⟩,?_,HB.o,HR.o⟩;rw[a5.o,D5 (m:=⟨s,st,cL,pc⟩) (by show l.length<=pc;omega)];exact⟨rfl,false,rfl⟩
    ·have bm:(pc:Int)<(l.length:Int):=by omega
     obtain⟨g,cZ,av,bv,rfl,bT,aw⟩:=ck.o pc hpl;have bJ:=I (fun sv nv wx=>ZJ.next (sv:=sv) (nv:=nv) (wr:=wr) (wx:=wx) (B:=B) (sb:=sb) (rb:=rb) hpl hf a5.o);obtain⟨i,hi⟩:=Qe (l[pc]);rw[hi]at bT aw bJ;have cf:=I hi;obtain⟨p1,m1,cx,_⟩:=id aw.a;obtain⟨p2,m2,cy,_⟩:=id aw.b;subst cx cy;obtain⟨k0,L,R,k3,k4,k5,k6⟩:=bT;have cA:g<B:=by have X:g<w.heap.size:=Qq k0;have:=ah.o;omega
     have af:∀ j,wr.cell? ⟨g,j,none⟩=w.cell? ⟨g,j,none⟩:=fun j=>HB.o.cell (p:=⟨g,j,none⟩) cA
     have q0:=(af _).trans k0;have q1:=(af _).trans L;have q2:=(af _).trans R;have q3:=(af _).trans k3;have q4:=(af _).trans k4;have q5:=(af _).trans k5;have q6:=(af _).trans k6;have cg:=I (aw.below (w':=wr) (by rw[ah.o];exact HB.o));obtain⟨t,br⟩:=Qe (wr.heap.size);obtain⟨G,aU⟩:=QF (wr.alloc (.cells #[.int .i64 i.op,.int .i64 i.n,.int .i64 i.tag,.bool i.oct,.slice p1 i.a.length m1,.slice p2 i.b.length m2,.int .i64 i.at_] 63));have bN:=I aU;have cj:=I br;have V:Hid (G.heap[t]?=some (.cells #[.int .i64 i.op,.int .i64 i.n,.int .i64 i.tag,.bool i.oct,.slice p1 i.a.length m1,.slice p2 i.b.length m2,.int .i64 i.at_] 63)):=by show _=_;rw[aU,<-br];exact QC _ _
     have a3:Hid (Below wr.heap.size wr G):=by show Below _ _ _;rw[aU];exact Qp _
     obtain⟨sa,sc,b2⟩:=QQ bK.o;obtain⟨sl,bx⟩:=Qe (st.length);rw[bx]at b2;have az:=I bx;have cX:sl<=8:=by omega
     have a9:=I (Mo i p1 p2 m1 m2 pc l.length sl G hpl (by omega) (by omega));clear bx;have cS:g<wr.heap.size:=by have:=HS.o.hB;have:=HS.o.lt;omega
     have bO:B<=wr.heap.size:=by have:=HS.o.hB;have:=HS.o.lt;omega
     have bH:=I aw;clear k0 L R k3 k4 k5 k6 af aw hi aU br;unfold Vt Zh at a9;subst b2;go_upto_region 12 with fail
     rw[<-bN.o,cj.o];have e0:=Qk V.o;have e1:=Qr V.o;have e2:=QJ V.o;have e3:=QR V.o;have e4:=QV V.o;have e5:=Q9 V.o;have e6:=Zz V.o;clear q0 q1 q2 q3 q4 q5 q6 aR;go_wp2_with fail;refine a9.o.mono ?_;rintro e c ⟨rfl,bg⟩;have aq:=I (a3.o.trans (bg.mono a3.o.size));have ac:=I (QP V.o bg);clear bg e0 e1 e2 e3 e4 e5 e6 a9 V bN a3;have y:=I (HS.o.below aq.o);have J:=I (HR.o.below aq.o);have P:=I (Vl bK.o (X5 aq.o));have aK:=I (cg.o.below aq.o);have a4:Hid (Below B wr c):=aq.o.mono bO;have bL:Hid (∀ wx,Below B c wx->Below B w wx):=fun wx hx=>HB.o.trans (a4.o.trans hx)
     have cu:B<=c.heap.size:=Qs bO aq.o.size;have aZ:sb<c.heap.size:=y.o.lt;have aT:B<=sb:=y.o.hB;have e0:=Qk ac.o;have e1:=Qr ac.o;have e2:=QJ ac.o;have e3:=QR ac.o;have e4:=QV ac.o;have e5:=Q9 ac.o;have e6:=Zz ac.o;obtain⟨a2,bz⟩:=Qe (soundB i pc l.length sl);rw[bz];have Q:Hid (soundB i pc l.length st.length=a2):=by show _=_;rw[az.o];exact bz
     clear bz
     cases a2 with
     |false=>
      have ci:=I (SW (M:=M) (s:=s) Q.o H);go_wp2_with fail;refine(y.o.fail 12 (pc:Int)).mono ?_;rintro e C ⟨rfl,ak,b1⟩;have bI:=I ak;have a8:=I b1;clear ak b1;go_wp2;go_meet;obtain⟨f',rfl⟩:∃ f',f=f'+1:=⟨f - 1,by omega⟩;refine⟨.error (12,(pc:Int)),d+1,rfl,⟨by decide,s,z,Z6 s,a8.o.more (Nat.le_succ _)⟩,?_,bL.o _ (bI.o.below aT aZ),J.o.kb (K8 bI.o y.o.blk (by decide))⟩;rw[a5.o,Dk hpl,cf.o,ci.o];exact⟨rfl,rfl⟩
     |true=>
      have cq:=I (Si (st:=st) Q.o);go_upto_block 2 with fail
      go_cut [9,13,14,17] (fun sv nv _ _ wx=>ZJ B sb rb M l.length i s st pc d sv nv c wx)
      case first=>
       have cV:IntKind.i64.wrap ((pc:Int)+1)=(pc:Int)+1:=by rw[IntKind.wrap_i64]<;>omega
       rcases cq.o with hop|hop|hop|hop|hop|hop|hop|hop|hop|hop
       ·as_aux_lemma=>
         obtain⟨q,h7⟩:=Tv (M:=M) (s:=s) hop Q.o;have x:=I q;have L:(i.op==1)=true:=by rw[hop];rfl
         obtain⟨ib,bk,bC,bD,bE⟩:=info_parts Tryz.infoBoolQ;have A:=P.o;clear q hop;go_wp2_with (at_builtin;refine wpList_append_own_at _ rfl _ _ 106 rfl B 4 ib (.bool false) 1 1 underlying106 bk bC bD bE rfl (by decide) _ _ _ rfl (A.alloc _) ⟨c.heap.size,0,none⟩ 1 1 [.bool (i.n==1)] rfl rfl ?c1 ?c2 ?c3 ?c4 ?c5 ?_)
         case c1=>
          intro j u Y
          match j,Y with
          |0,Y=>simp at Y;subst Y;simp[Addr.add]
         case c2=>intro u hu;simp at hu;subst hu;rfl
         case c3=>unfold maxLen;omega
         case c4=>omega
         case c5=>simp;omega
         ·intro v5 w5 aG aE _ _;have HP:=I (fun nv hn=>ZJ.push (i:=i) (rb:=rb) (s:=s) (s':=s) (M:=M) (n:=l.length) (nv:=nv) (pc:=pc) (d:=d) (Below.refl B c) J.o hn x.o hpl y.o h7 P.o aE aG);clear aG aE A;go_wp2;go_meet;exact HP.o _ (by go_num)
       ·as_aux_lemma=>
         obtain⟨q,X⟩:=WC (M:=M) (s:=s) hop Q.o H;have x:=I q;have L:(i.op==1)=false:=by rw[hop];rfl
         have R:(i.op==2)=true:=by rw[hop];rfl
         obtain⟨S,bo⟩:∃ S,sl=S+1:=⟨sl - 1,by have:=az.o;omega⟩;subst bo;have Z:=az.o;have HN:=I Z;have A:=P.o;rw[Z]at A;obtain⟨g9,c9,bA,cz,cB,aD⟩:=Xo A (Nat.succ_pos _);injection bA with e9 _ e11
         subst e9;subst e11;obtain⟨_,_,aF,_⟩:=G5 Z true;have b9:=aD S (.bool (st.getLastD false)) (by rw[List.getElem?_map,aF];rfl);obtain⟨cN,bU⟩:=U7 A (k:=g9) rfl;have f9:=Qu bU;have a6:=I A;clear q hop X Z A aD aF bU;have HP:=I (fun nv hn=>ZJ.not (i:=i) (rb:=rb) (s:=s) (M:=M) (n:=l.length) (nv:=nv) (pc:=pc) (d:=d) (Below.refl B c) J.o hn x.o hpl y.o H HN.o a6.o);obtain⟨bb,aC⟩:=Qe (st.getLastD false);rw[aC]at b9 HP;clear aC;go_wp2;go_meet;exact HP.o _ (by go_num)
       ·as_aux_lemma=>
         obtain⟨q,X,h1⟩:=S6 (M:=M) (s:=s) hop Q.o;have L:(i.op==1)=false:=by rw[hop];rfl
         have R:(i.op==2)=false:=by rw[hop];rfl
         have k3:(i.op==3)=true:=by rw[hop];rfl
         obtain⟨N,hN⟩:∃ N:Nat,i.n=(N:Int):=⟨i.n.toNat,by omega⟩;rw[hN]at e1 q h1;have x:=I q;have bc:pc+1+N<=l.length:=by omega
         clear q hop X h1 hN;go_wp2;go_meet;exact ZJ.same (pc':=pc+1+N) (Below.refl B c) J.o (by go_num) (by simpa using x.o) (by omega) bc (y.o.more (Nat.le_succ _)) H P.o
       iterate 2
        ·as_aux_lemma=>
          first|(obtain⟨q,X,h1,h2⟩:=EA (M:=M) (s:=s) true hop Q.o)|(obtain⟨q,X,h1,h2⟩:=EA (M:=M) (s:=s) false hop Q.o)
          have L:(i.op==1)=false:=by rw[hop];rfl
          have R:(i.op==2)=false:=by rw[hop];rfl
          have k3:(i.op==3)=false:=by rw[hop];rfl
          first|(have k4:(i.op==4)=true:=(by rw[hop];rfl))|(have k4:(i.op==4)=false:=(by rw[hop];rfl))
          first|(have k5:(i.op==5)=true:=(by rw[hop];rfl))|(have k5:(i.op==5)=false:=(by rw[hop];rfl))
          obtain⟨N,hN⟩:∃ N:Nat,i.n=(N:Int):=⟨i.n.toNat,by omega⟩;rw[hN]at e1 q h2;have bc:pc+1+N<=l.length:=by omega
          obtain⟨S,bo⟩:∃ S,sl=S+1:=⟨sl - 1,by have:=az.o;omega⟩;subst bo;have Z:=az.o;have HN:=I Z;have A:=P.o;rw[Z]at A;obtain⟨g9,c9,bA,cz,cB,aD⟩:=Xo A (Nat.succ_pos _);injection bA with e9 _ e11
          subst e9;subst e11;obtain⟨_,_,aF,_⟩:=G5 Z true;have b9:=aD S (.bool (st.getLastD false)) (by rw[List.getElem?_map,aF];rfl);have cQ:S+1<=sc:=Pu A;have a6:=I A;have aJ:Hid (Below B c c.drew):=(Below.refl _ _).drew;have aN:Hid (c.drew.ownsRow B 4 1 (.slice (some ⟨g9,0,none⟩) (S+1) sc) (S+1) (st.map Value.bool)):=a6.o;have au:=I (y.o.below (w':=c.drew) (Below.refl _ _).drew);have aP:Hid (RBk rb c.drew):=J.o;clear hop X h1 h2 hN Z A aD aF;obtain⟨bb,aC⟩:=Qe (st.getLastD false);rw[aC]at b9 q;clear aC
          cases bb with
          |true=>
           have x:=I q;clear q;go_wp2;go_region;go_wp2;go_meet
           first|(exact ZJ.pop (pc':=pc+1+N) aJ.o aP.o (by go_num) (by simpa using x.o) (by omega) bc au.o H HN.o aN.o)|(exact ZJ.pop (pc':=pc+1) aJ.o aP.o (by go_num) (by simpa using x.o) (by omega) (by omega) au.o H HN.o aN.o)
          |false=>
           have x:=I q;clear q;go_wp2;go_region;go_wp2;go_meet
           first|(exact ZJ.pop (pc':=pc+1) aJ.o aP.o (by go_num) (by simpa using x.o) (by omega) (by omega) au.o H HN.o aN.o)|(exact ZJ.pop (pc':=pc+1+N) aJ.o aP.o (by go_num) (by simpa using x.o) (by omega) (by omega) au.o H HN.o aN.o)
       ·as_aux_lemma=>
         rcases hop with hop|hop|hop|hop|hop
         all_goals as_aux_lemma=>
          obtain⟨q,h7,b3,b4⟩:=Tz (M:=M) (s:=s) (by omega) Q.o;have x:=I q;have L:(i.op==1)=false:=by rw[hop];rfl
          have R:(i.op==2)=false:=by rw[hop];rfl
          have k3:(i.op==3)=false:=by rw[hop];rfl
          have k4:(i.op==4)=false:=by rw[hop];rfl
          have k5:(i.op==5)=false:=by rw[hop];rfl
          first|(have k6:(i.op==6)=true:=(by rw[hop];rfl))|(have k6:(i.op==6)=false:=(by rw[hop];rfl))
          first|(have k7:(i.op==7)=true:=(by rw[hop];rfl))|(have k7:(i.op==7)=false:=(by rw[hop];rfl))
          first|(have k8:(i.op==8)=true:=(by rw[hop];rfl))|(have k8:(i.op==8)=false:=(by rw[hop];rfl))
          first|(have k9:(i.op==9)=true:=(by rw[hop];rfl))|(have k9:(i.op==9)=false:=(by rw[hop];rfl))
          first|(have aI:(i.op==10)=true:=(by rw[hop];rfl))|(have aI:(i.op==10)=false:=(by rw[hop];rfl))
          have HQ:=I (P7 B sb M s z d (Z6 s) false 0 0 i (.slice p1 i.a.length m1) (.slice p2 i.b.length m2) c (by omega) b3 b4 y.o (by omega) aK.o);unfold Zh at HQ;have bM:=I (I5 (OS M i s));obtain⟨ib,bk,bC,bD,bE⟩:=info_parts Tryz.infoBoolQ;obtain⟨r,hr⟩:=Qe (askE M i s);rw[hr]at HQ x bM;obtain⟨rv,rs⟩:=r;clear q b3 b4 hr hop;go_wp2_with fail;refine HQ.o.mono ?_;rintro e C ⟨rfl,ak,z3,bS⟩;have bl:=K8 ak y.o.blk (by decide);have D:=I (ak.below aT aZ);have aO:=I (J.o.kb bl);have A:=Vl P.o bl;have aM:=I A;have a8:Hid (StI C B sb M rs z3 d (Z6 rs) false 0 0):=by show StI _ _ _ _ _ _ _ _ _ _ _;rw[show Z6 rs=Z6 s from bM.o];exact bS
          have cO:B<=C.heap.size:=Qs cu ak.size;clear ak bS bl e0 e1 e2 e3 e4 e5 e6;go_wp2_with (at_builtin;refine wpList_append_own_at _ rfl _ _ 106 rfl B 4 ib (.bool false) 1 1 underlying106 bk bC bD bE rfl (by decide) _ _ _ rfl (A.alloc _) ⟨C.heap.size,0,none⟩ 1 1 [.bool (rv)] rfl rfl ?c1 ?c2 ?c3 ?c4 ?c5 ?_)
          case c1=>
           intro j u Y
           match j,Y with
           |0,Y=>simp at Y;subst Y;simp[Addr.add]
          case c2=>intro u hu;simp at hu;subst hu;rfl
          case c3=>unfold maxLen;omega
          case c4=>omega
          case c5=>simp;omega
          ·intro v5 w5 aG aE _ _;have HP:=I (fun nv hn=>ZJ.push (i:=i) (rb:=rb) (s:=s) (s':=rs) (M:=M) (n:=l.length) (nv:=nv) (pc:=pc) (d:=d) D.o aO.o hn x.o hpl a8.o h7 aM.o aE aG);clear aG aE A;go_wp2;go_meet;exact HP.o _ (by go_num)
       ·as_aux_lemma=>
         obtain⟨q,a0⟩:=Wz (M:=M) (s:=s) hop Q.o;have L:(i.op==1)=false:=by rw[hop];rfl
         have R:(i.op==2)=false:=by rw[hop];rfl
         have k3:(i.op==3)=false:=by rw[hop];rfl
         have k4:(i.op==4)=false:=by rw[hop];rfl
         have k5:(i.op==5)=false:=by rw[hop];rfl
         have k6:(i.op==6)=false:=by rw[hop];rfl
         have k7:(i.op==7)=false:=by rw[hop];rfl
         have k8:(i.op==8)=false:=by rw[hop];rfl
         have k9:(i.op==9)=false:=by rw[hop];rfl
         have aI:(i.op==10)=false:=by rw[hop];rfl
         have bF:(i.op==11)=true:=by rw[hop];rfl
         rcases a0 with⟨ht,aB⟩ | ⟨ht,cF,ad⟩
         ·have g1:(i.tag != 1)=false:=by rw[ht];rfl
          rw[aB,ht]at q;rw[ht]at e2;have x:=I q;clear q aB ht hop;go_wp2_with fail;refine(EQ B sb M s z d (Z6 s) false 0 1 [] i.at_ c y.o (by omega) QE (Qd ⟨rfl,rfl⟩)).mono ?_;rintro e C ⟨rfl,E,ag⟩;have D:=I E;have ay:=I ag;clear E ag;go_wp2;go_meet;exact ZJ.act D.o.1 (J.o.kb D.o.2) (by go_num) x.o hpl ay.o H (Vl P.o D.o.2)
         ·have g1:(i.tag != 1)=true:=by simpa using ht
          obtain⟨F,aa⟩:∃ F,i.a[0]?=some F:=⟨i.a[0],List.getElem?_eq_getElem ad⟩
          have aB:U0 i=F:=by
           unfold U0;rw[if_neg ht,List.headD_eq_head?_getD,List.head?_eq_getElem?,aa];rfl
          rw[aB]at q;have x:=I q;obtain⟨pa,ma,aj,aH⟩:=id aK.o.a;injection aj with aj
          subst aj;obtain⟨K,ab,bs,ae⟩:=aH 0 ad;subst bs;have ax:i.a[0]=F:=by rw[List.getElem?_eq_getElem ad]at aa;injection aa
          rw[ax]at ae;have cH:F.length<=100000:=by rw[<-ax];exact aK.o.sa _ (List.getElem_mem ad)
          have ca:c.cell? ⟨K,ab,none⟩=some (.string (sA F)):=ae;have cw:(0:Int)<(i.a.length:Int):=by omega
          clear q aB ht hop aH ae aa ax;go_wp2_with fail;refine(EQ B sb M s z d (Z6 s) false 0 i.tag F i.at_ c y.o (by omega) cH (Qc cF)).mono ?_;rintro e C ⟨rfl,E,ag⟩;have D:=I E;have ay:=I ag;clear E ag;go_wp2;go_meet;exact ZJ.act D.o.1 (J.o.kb D.o.2) (by go_num) x.o hpl ay.o H (Vl P.o D.o.2)
       ·as_aux_lemma=>
         obtain⟨q,a0,ad,aV⟩:=TL (M:=M) (s:=s) hop Q.o;have L:(i.op==1)=false:=by rw[hop];rfl
         have R:(i.op==2)=false:=by rw[hop];rfl
         have k3:(i.op==3)=false:=by rw[hop];rfl
         have k4:(i.op==4)=false:=by rw[hop];rfl
         have k5:(i.op==5)=false:=by rw[hop];rfl
         have k6:(i.op==6)=false:=by rw[hop];rfl
         have k7:(i.op==7)=false:=by rw[hop];rfl
         have k8:(i.op==8)=false:=by rw[hop];rfl
         have k9:(i.op==9)=false:=by rw[hop];rfl
         have aI:(i.op==10)=false:=by rw[hop];rfl
         have bF:(i.op==11)=false:=by rw[hop];rfl
         have b6:(i.op==12)=true:=by rw[hop];rfl
         obtain⟨F,aa⟩:∃ F,i.a[0]?=some F:=⟨i.a[0],List.getElem?_eq_getElem ad⟩;obtain⟨T,a1⟩:∃ T,i.b[0]?=some T:=⟨i.b[0],List.getElem?_eq_getElem aV⟩;rw[List.headD_eq_head?_getD,List.head?_eq_getElem?,aa,List.headD_eq_head?_getD,List.head?_eq_getElem?,a1]at q;have x:=I q;obtain⟨pa,ma,aj,aH⟩:=id bH.o.a;obtain⟨pb,mb,bh,b5⟩:=id bH.o.b;injection aj with aj
         injection bh with bh
         subst aj bh;obtain⟨K,ab,bs,ae⟩:=aH 0 ad;obtain⟨W,ap,cE,aW⟩:=b5 0 aV;subst bs cE;have ax:i.a[0]=F:=by rw[List.getElem?_eq_getElem ad]at aa;injection aa
         have bB:i.b[0]=T:=by rw[List.getElem?_eq_getElem aV]at a1;injection a1
         rw[ax]at ae;rw[bB]at aW;have cI:T.length<=100000:=by rw[<-bB];exact aK.o.sb _ (List.getElem_mem aV)
         have bX:K<B:=by have X:K<w.heap.size:=Qq ae;have:=ah.o;omega
         have bY:W<B:=by have X:W<w.heap.size:=Qq aW;have:=ah.o;omega
         have bG:=I (HB.o.trans a4.o);have ca:c.cell? ⟨K,ab,none⟩=some (.string (sA F)):=by rw[bG.o.cell (p:=⟨K,ab,none⟩) bX];exact ae
         have cb:c.cell? ⟨W,ap,none⟩=some (.string (sA T)):=by rw[bG.o.cell (p:=⟨W,ap,none⟩) bY];exact aW
         have cw:(0:Int)<(i.a.length:Int):=by omega
         have cP:(0:Int)<(i.b.length:Int):=by omega
         have HA:=I (TN B sb M s z d (Z6 s) false 0 0 F T i.tag c.drew (y.o.below (Below.refl _ _).drew) (by omega) cI a0);clear q hop aH b5 ae aW aa ax a1 bB a0;go_wp2;go_region_held3 (fun w'=>w'.cell? ⟨t,4,none⟩=some (.slice (some ⟨K,ab,none⟩) i.a.length m1)/\w'.cell? ⟨t,5,none⟩=some (.slice (some ⟨W,ap,none⟩) i.b.length m2)/\w'.cell? ⟨t,2,none⟩=some (.int .i64 i.tag)/\w'.cell? ⟨K,ab,none⟩=some (.string (sA F))/\w'.cell? ⟨W,ap,none⟩=some (.string (sA T))) (first|go_keep|exact⟨f1,f2,f3,f4,f5⟩) (first|(go_at_call 50;refine HA.o.mono ?_;rintro e C ⟨rfl,E,ag⟩;have aX:=E.2 t _ _ (show c.drew.heap[t]?=_ from ac.o) (by decide);have f1:=QV aX;have f2:=Q9 aX;have f3:=QJ aX;have f4:C.cell? ⟨K,ab,none⟩=some (.string (sA F)):=(by rw[E.1.cell (p:=⟨K,ab,none⟩) bX];exact ca);have f5:C.cell? ⟨W,ap,none⟩=some (.string (sA T)):=(by rw[E.1.cell (p:=⟨W,ap,none⟩) bY];exact cb);have D:=I E;have ay:=I ag;clear E ag aX;skip))
         all_goals go_wp2
         all_goals go_meet
         all_goals obtain⟨z9,cJ⟩:=ay.o
         all_goals exact ZJ.same (pc':=pc+1) ((Below.refl B c).drew.trans D.o.1) (RBk.kb (w:=c.drew) J.o D.o.2) (by go_num) x.o Ql hpl cJ H (Vl (w:=c.drew) P.o D.o.2)
       ·as_aux_lemma=>
         have x:=I (Tb (M:=M) (s:=s) (st:=st) (pc:=pc) (n:=l.length) hop);have L:(i.op==1)=false:=by rw[hop];rfl
         have R:(i.op==2)=false:=by rw[hop];rfl
         have k3:(i.op==3)=false:=by rw[hop];rfl
         have k4:(i.op==4)=false:=by rw[hop];rfl
         have k5:(i.op==5)=false:=by rw[hop];rfl
         have k6:(i.op==6)=false:=by rw[hop];rfl
         have k7:(i.op==7)=false:=by rw[hop];rfl
         have k8:(i.op==8)=false:=by rw[hop];rfl
         have k9:(i.op==9)=false:=by rw[hop];rfl
         have aI:(i.op==10)=false:=by rw[hop];rfl
         have bF:(i.op==11)=false:=by rw[hop];rfl
         have b6:(i.op==12)=false:=by rw[hop];rfl
         have cK:(i.op==13)=true:=by rw[hop];rfl
         have df:=Qu y.o.blk;have d9:=Jk y.o.blk;have HK:Hid (Z6 (KJ s)=false):=by show(s.met.isEmpty && !true)=false;rw[Bool.not_true,Bool.and_false]
         have aL:=I (Vm y.o.blk (by decide) 9 (.bool false));have au:Hid (StI (c.setCell ⟨sb,9,none⟩ (.bool false)) B sb M (KJ s) z (d+1) (Z6 (KJ s)) false 0 0):=by show StI _ _ _ _ _ _ _ _ _ _ _;rw[HK.o];exact y.o.disc.more (Nat.le_succ _)
         clear hop;go_wp2;go_meet;exact ZJ.same (pc':=pc+1) (((Mod.refl sb c).setCell _ _).below aT aZ) (J.o.kb aL.o) (by go_num) x.o Ql hpl au.o H (Vl P.o aL.o)
       ·as_aux_lemma=>
         have x:=I (TU (M:=M) (s:=s) (st:=st) (pc:=pc) (n:=l.length) hop);have L:(i.op==1)=false:=by rw[hop];rfl
         have R:(i.op==2)=false:=by rw[hop];rfl
         have k3:(i.op==3)=false:=by rw[hop];rfl
         have k4:(i.op==4)=false:=by rw[hop];rfl
         have k5:(i.op==5)=false:=by rw[hop];rfl
         have k6:(i.op==6)=false:=by rw[hop];rfl
         have k7:(i.op==7)=false:=by rw[hop];rfl
         have k8:(i.op==8)=false:=by rw[hop];rfl
         have k9:(i.op==9)=false:=by rw[hop];rfl
         have aI:(i.op==10)=false:=by rw[hop];rfl
         have bF:(i.op==11)=false:=by rw[hop];rfl
         have b6:(i.op==12)=false:=by rw[hop];rfl
         have cK:(i.op==13)=false:=by rw[hop];rfl
         have cY:(i.op==14)=true:=by rw[hop];rfl
         have df:=Qu y.o.blk;have aR:=Gt y.o.blk;have aL:=I (Vm y.o.blk (by decide) 10 (.bool true));clear hop;go_wp2;go_meet;exact ZJ.stop (((Mod.refl sb c).setCell _ _).below aT aZ) (J.o.kb aL.o) (by go_num) x.o y.o.ends
      case rest=>
       obtain⟨pc',rfl,h1,h2,hx⟩:=bJ.o _ _ _ ⟨a4.o.trans hcut.1,hcut.2⟩;have cs:=I hx;have b8:=I (bL.o _ hcut.1);have cn:=I hcut.2.1;clear hx hcut;go_wp2;go_roundg (l.length - pc')
       case measure=>omega
       case rel=>exact⟨pc',d+1,rfl,h2,by omega,by go_num,rfl,b8,cn,cs⟩
 case rest=>
  obtain⟨r,d,rfl,ai,bQ,bP,bR⟩:=hcut;have aQ:=I ai;have ar:=I (Tk hl bQ);have cc:=I bP;have co:=I bR;have cm:=I (Cv B sb M d 0 r wc ai);clear ai bQ bP bR;go_wp2_with fail;refine cm.o.mono ?_;rintro e C ⟨E,lv,rfl,bq⟩;have ao:=co.o.kb E.2;have aO:=I ao;have D:=I (cc.o.trans E.1);have aM:=I bq;have r0:=Qi ao 0;have r1:=Qi ao 1;have r2:=Qi ao 2;have rf:=Qu ao;obtain⟨la,lc,cC⟩:=QQ bq;subst cC;have cW:=Qg ao;have bu:B<=rb:=by have:=cl.o;omega
  unfold Yp;obtain⟨fe,bi⟩:=Qe ((((Y1 r).2).getD (0,0)).1);obtain⟨fp,bj⟩:=Qe ((((Y1 r).2).getD (0,0)).2);obtain⟨ln,bn⟩:=Qe ((Y1 r).1.length);rw[bi,bj,bn];have cd:=I bi;have ce:=I bj;have ch:=I bn;have s0:C.cell? ⟨rb,0,none⟩=some (.slice none 0 0):=r0;have s1:C.cell? ⟨rb,1,none⟩=some (.int .i64 0):=r1;have s2:C.cell? ⟨rb,2,none⟩=some (.int .i64 0):=r2;clear ao E bq bi bj bn r0 r1 r2;go_wp2;obtain⟨U,hU⟩:=QF ((((C.setCell ⟨rb,0,none⟩ (.slice la ln lc)).setCell ⟨rb,1,none⟩ (.int .i64 fe)).setCell ⟨rb,2,none⟩ (.int .i64 fp)));rw[<-hU];have hb:U.heap[rb]?=some (.cells #[.slice la ln lc,.int .i64 fe,.int .i64 fp] 70):=by rw[hU];exact Qt _ _ _ _ _ _ (Qt _ _ _ _ _ _ (Qt _ _ _ _ _ _ aO.o))
  have T:=Qk hb;have y1:=Qr hb;have y2:=QJ hb;have cv:Below B w U:=by rw[hU];exact((D.o.setCell bu _).setCell bu _).setCell bu _
  have bp:(Value.slice la (Y1 r).1.length lc).ownBlock≠some rb:=ZF aM.o aO.o (by decide);have ct:U.ownsRow B 52 2 (.slice la (Y1 r).1.length lc) (Y1 r).1.length (QZ (Y1 r).1):=by rw[hU];exact ZY (ZY (ZY aM.o bp) bp) bp
  refine bodyPost_ret (v:=.tuple #[.agg #[.slice la ln lc,.int .i64 fe,.int .i64 fp],.int .i64 d]) (by simp[results,results28,go_sem,T,y1,y2]) rfl ?_;refine⟨by rw[ah.o];exact cv,.slice la ln lc,?_,?_,by rw[ar.o];exact aQ.o.len⟩
  ·rw[ar.o,<-cd.o,<-ce.o];rfl
  ·rw[ar.o,ah.o,<-ch.o];exact ct
end Go.Proofs.YtgnkjijocdmniaaGreatDoor
