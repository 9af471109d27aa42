import Derived.Deep.RegionLaw
import Derived.Test.YtgnkjijocdmniaaGreatDoorZLSame
namespace Go.Proofs.YtgnkjijocdmniaaGreatDoor
set_option linter.unusedVariables false
set_option linter.unusedSimpArgs false
set_option maxRecDepth 100000
set_option maxHeartbeats 4000000
open Go.Proofs.Tryz
open Go.RowKit
attribute [local go_sem ↓] Go.wp_at_zero Go.wp_at_succ
theorem So(v:Bool)(t:List Ins)(ov:Value)(M:Msg)(hv:Value)(w:World)(ho:B1 w ov t)(hl:t.length<=400)(hh:HdR w M hv)(hm:KU M) :
 Calls prog 28 #[.bool v,ov,Ud M hv] w fun e w'=>Below w.heap.size w w'/\∃ lv,e=.returned (.tuple #[Jq lv (XT v t M).2.2,.int .i64 ((XT v t M).2.1:Nat)])/\w'.ownsRow w.heap.size 52 2 lv (XT v t M).1.length (XZ (XT v t M).1):=by
 obtain⟨oa,oc,cC,b3⟩:=ho;subst cC;obtain⟨bp,bC,cF,_⟩:=id hh;have HH:=I hh;have HM:=I hm;have cl:=I b3;subst cF;have cQ:¬(400:Int)<(t.length:Int):=by omega
 unfold Ud;obtain⟨W0,aW⟩:=QE (((w.alloc (.cells #[.string (sA M.fr),.string (sA M.to),.int .i64 M.size,.slice bp M.hdrs.length bC] 28)).alloc (.cells #[.slice none 0 0,.int .i64 0,.int .i64 0] 70)).alloc (.cells #[.string (sA M.fr),.string (sA M.to),.int .i64 M.size,.slice bp M.hdrs.length bC,.bool v,.slice none 0 0,.slice none 0 0,.slice none 0 0,.slice none 0 0,.bool true,.bool false,.int .i64 0,.int .i64 0] 104));have cs:=I aW;have bn:Below w.heap.size w W0:=by rw[aW];exact((Qs _).alloc (by simp) _).alloc (by simp;omega) _
 have bk:Hid (RBk (w.heap.size+1) W0):=by show RBk _ _;unfold RBk;rw[aW];exact Qy (Zv (by simp))
 obtain⟨B,a4⟩:=Qf (w.heap.size);obtain⟨sb,bE⟩:=Qf (B+1+1);obtain⟨rb,ba⟩:=Qf (B+1);have bo:StI W0 w.heap.size sb M (ss0 v) ⟨.slice bp M.hdrs.length bC,.slice none 0 0,.slice none 0 0,.slice none 0 0,.slice none 0 0,[],[]⟩ 0 true false 0 0:=StI.new v bn (by omega) (by unfold SB;rw[aW];exact Zv (by simp;omega)) HH.o HM.o;rw[a4]at bo bk;rw[ba]at bk;have cq:=I bo;have b8:Hid (Below B w W0):=by rw[<-a4];exact bn
 have aF:=I a4;have cL:=I bE;have cm:=I ba;clear hh hm b3 aW bo bn a4;go_enter func28,ntmps28;go_upto_block 0 with fail
 rw[<-cs.o,aF.o,bE,ba];clear bE ba;go_cut [9,10,11] (fun _ tv _ wx=>∃ r,∃ d:Nat,tv=.int .i64 d/\RP B sb M d 0 r wx/\ExR (Xo M t t.length (ms0 v) 0) r d/\Below B w wx/\RBk rb wx)
 case first=>
  go_wp2_with fail
  go_loopg [9,10,11,13,17] t.length (fun m sv tv pv _ _ wr=>∃ pc d:Nat,m=t.length - pc/\pc<=t.length/\d<=pc/\tv=.int .i64 d/\pv=.int .i64 pc/\Hid (Below B w wr)/\Hid (RBk rb wr)/\Hid (ExI B sb M t v sv d pc wr))
  case atStart=>exact⟨0,0,by omega,QC,Nat.le_refl _,rfl,rfl,b8,bk,Qd ⟨ss0 v,[],0,t.length,_,cq.o,QC,World.ownsRow_nil _ _ _ _,Nat.le_refl _,rfl⟩⟩
  case round=>
   obtain⟨pc,d,rfl,cR,cO,rfl,rfl,HB,HR,HX⟩:=hrel;rcases HX.o with⟨s,st,cK,f,z,hS,h8,q,hf,b2⟩ | ⟨r,bW,aI,bX⟩
   rotate_left
   ·have a2:=aI.ends.1;rw[bW]at a2;have bl:=I aI;have aQ:=I bX;clear bW aI bX;by_cases hpl:pc<t.length
    ·have bu:(pc:Int)<(t.length:Int):=by omega
     go_wp2;go_meet;exact⟨r,d,rfl,bl.o,aQ.o,HB.o,HR.o⟩
    ·have bu:¬(pc:Int)<(t.length:Int):=by omega
     go_wp2;go_meet;exact⟨r,d,rfl,bl.o,aQ.o,HB.o,HR.o⟩
   ·have a2:=Nv hS.blk;have HS:=I hS;have bN:=I q;have bj:=I b2;clear hS q b2 HX;by_cases hpl:pc<t.length;rotate_left
    ·have bu:¬(pc:Int)<(t.length:Int):=by omega
     go_wp2;go_meet;refine⟨.ok (s,false),d,rfl,⟨z,HS.o⟩,?_,HB.o,HR.o⟩;rw[bj.o,Fd (m:=⟨s,st,cK,pc⟩) (by show t.length<=pc;omega)];exact⟨rfl,false,rfl⟩
    ·have bu:(pc:Int)<(t.length:Int):=by omega
     obtain⟨g,cX,av,bv,rfl,bU,aN⟩:=cl.o pc hpl;have bM:=I (fun sv nv wx=>ZH.next (sv:=sv) (nv:=nv) (wr:=wr) (wx:=wx) (B:=B) (sb:=sb) (rb:=rb) hpl hf bj.o);obtain⟨i,hi⟩:=Qf (t[pc]);rw[hi]at bU aN bM;have cg:=I hi;obtain⟨p1,m1,cx,_⟩:=id aN.a;obtain⟨p2,m2,cy,_⟩:=id aN.b;subst cx cy;obtain⟨k0,S,W,k3,k4,k5,k6⟩:=bU;have cA:g<B:=by have h0:g<w.heap.size:=QI k0;have:=aF.o;omega
     have aA:∀ j,wr.cell? ⟨g,j,none⟩=w.cell? ⟨g,j,none⟩:=fun j=>HB.o.cell (p:=⟨g,j,none⟩) cA
     have q0:=(aA _).trans k0;have q1:=(aA _).trans S;have q2:=(aA _).trans W;have q3:=(aA _).trans k3;have q4:=(aA _).trans k4;have q5:=(aA _).trans k5;have q6:=(aA _).trans k6;have ch:=I (aN.below (w':=wr) (by rw[aF.o];exact HB.o));obtain⟨E,bA⟩:=Qf (wr.heap.size);obtain⟨W1,a6⟩:=QE (wr.alloc (.cells #[.int .i64 i.op,.int .i64 i.n,.int .i64 i.tag,.bool i.oct,.slice p1 i.a.length m1,.slice p2 i.b.length m2,.int .i64 i.at_] 63));have bP:=I a6;have ck:=I bA;have ao:Hid (W1.heap[E]?=some (.cells #[.int .i64 i.op,.int .i64 i.n,.int .i64 i.tag,.bool i.oct,.slice p1 i.a.length m1,.slice p2 i.b.length m2,.int .i64 i.at_] 63)):=by show _=_;rw[a6,<-bA];exact QA _ _
     have bh:Hid (Below wr.heap.size wr W1):=by show Below _ _ _;rw[a6];exact Qs _
     obtain⟨sa,sc,b5⟩:=ZC bN.o;obtain⟨sl,bF⟩:=Qf (st.length);rw[bF]at b5;have aH:=I bF;have cU:sl<=8:=by omega
     have bm:=I (Sp i p1 p2 m1 m2 pc t.length sl W1 hpl (by omega) (by omega));clear bF;have cP:g<wr.heap.size:=by have:=HS.o.hB;have:=HS.o.lt;omega
     have bQ:B<=wr.heap.size:=by have:=HS.o.hB;have:=HS.o.lt;omega
     have bK:=I aN;clear k0 S W k3 k4 k5 k6 aA aN hi a6 bA;unfold ZT Za at bm;subst b5;go_upto_region 12 with fail
     rw[<-bP.o,ck.o];have e0:=Qj ao.o;have e1:=Qo ao.o;have e2:=QG ao.o;have e3:=QH ao.o;have e4:=QJ ao.o;have e5:=QM ao.o;have e6:=Zg ao.o;clear q0 q1 q2 q3 q4 q5 q6 a2;go_wp2_with fail;refine bm.o.mono ?_;rintro e l ⟨rfl,bq⟩;have aM:=I (bh.o.trans (bq.mono bh.o.size));have au:=I (Zk ao.o bq);clear bq e0 e1 e2 e3 e4 e5 e6 bm ao bP bh;have A:=I (HS.o.below aM.o);have R:=I (HR.o.below aM.o);have T:=I (KO bN.o (Ym aM.o));have ar:=I (ch.o.below aM.o);have bi:Hid (Below B wr l):=aM.o.mono bQ;have bO:Hid (∀ wx,Below B l wx->Below B w wx):=fun wx hx=>HB.o.trans (bi.o.trans hx)
     have aV:B<=l.heap.size:=Qm bQ aM.o.size;have aE:sb<l.heap.size:=A.o.lt;have aw:B<=sb:=A.o.hB;have e0:=Qj au.o;have e1:=Qo au.o;have e2:=QG au.o;have e3:=QH au.o;have e4:=QJ au.o;have e5:=QM au.o;have e6:=Zg au.o;obtain⟨bg,bG⟩:=Qf (soundB i pc t.length sl);rw[bG];have Y:Hid (soundB i pc t.length st.length=bg):=by show _=_;rw[aH.o];exact bG
     clear bG
     cases bg with
     |false=>
      have cj:=I (Sq (M:=M) (s:=s) Y.o h8);go_wp2_with fail;refine(A.o.fail 12 (pc:Int)).mono ?_;rintro e y ⟨rfl,D,b4⟩;have bL:=I D;have ag:=I b4;clear D b4;go_wp2;go_meet;obtain⟨f',rfl⟩:∃ f',f=f'+1:=⟨f - 1,by omega⟩;refine⟨.error (12,(pc:Int)),d+1,rfl,⟨by decide,s,z,keepB s,ag.o.more (Nat.le_succ _)⟩,?_,bO.o _ (bL.o.below aw aE),R.o.kb (JY bL.o A.o.blk (by decide))⟩;rw[bj.o,Fe hpl,cg.o,cj.o];exact⟨rfl,rfl⟩
     |true=>
      have cr:=I (Sr (st:=st) Y.o);go_upto_block 2 with fail
      go_cut [9,13,14,17] (fun sv nv _ _ wx=>ZH B sb rb M t.length i s st pc d sv nv l wx)
      case first=>
       have cS:IntKind.i64.wrap ((pc:Int)+1)=(pc:Int)+1:=by rw[IntKind.wrap_i64]<;>omega
       rcases cr.o with hop|hop|hop|hop|hop|hop|hop|hop|hop|hop
       ·as_aux_lemma=>
         obtain⟨c,h7⟩:=Ss (M:=M) (s:=s) hop Y.o;have x:=I c;have S:(i.op==1)=true:=by rw[hop];rfl
         obtain⟨ib,ah,ai,aj,ak⟩:=info_parts Tryz.infoBool;have q:=T.o;clear c hop;go_wp2_with (at_builtin;refine wpList_append_own_at _ rfl _ _ 106 rfl B 4 ib (.bool false) 1 1 underlying106 ah ai aj ak rfl (by decide) _ _ _ rfl (q.alloc _) ⟨l.heap.size,0,none⟩ 1 1 [.bool (i.n==1)] rfl rfl ?c1 ?c2 ?c3 ?c4 ?c5 ?_)
         case c1=>
          intro j u C
          match j,C with
          |0,C=>simp at C;subst C;simp[Addr.add]
         case c2=>intro u P;simp at P;subst P;rfl
         case c3=>unfold maxLen;omega
         case c4=>omega
         case c5=>simp;omega
         ·intro v5 w5 L K _ _;have HP:=I (fun nv hn=>ZH.push (i:=i) (rb:=rb) (s:=s) (s':=s) (M:=M) (n:=t.length) (nv:=nv) (pc:=pc) (d:=d) (Below.refl B l) R.o hn x.o hpl A.o h7 T.o K L);clear L K q;go_wp2;go_meet;exact HP.o _ (by go_num)
       ·as_aux_lemma=>
         obtain⟨c,h0⟩:=St (M:=M) (s:=s) hop Y.o h8;have x:=I c;have S:(i.op==1)=false:=by rw[hop];rfl
         have W:(i.op==2)=true:=by rw[hop];rfl
         obtain⟨Q,aY⟩:∃ Q,sl=Q+1:=⟨sl - 1,by have:=aH.o;omega⟩;subst aY;have ab:=aH.o;have HN:=I ab;have q:=T.o;rw[ab]at q;obtain⟨g9,c9,a0,bY,b1,aB⟩:=Y7 q (Nat.succ_pos _);injection a0 with e9 _ e11
         subst e9;subst e11;obtain⟨_,_,aC,_⟩:=G2 ab true;have b9:=aB Q (.bool (st.getLastD false)) (by rw[List.getElem?_map,aC];rfl);obtain⟨cM,bV⟩:=VR q (k:=g9) rfl;have f9:=Qz bV;have aR:=I q;clear c hop h0 ab q aB aC bV;have HP:=I (fun nv hn=>ZH.not (i:=i) (rb:=rb) (s:=s) (M:=M) (n:=t.length) (nv:=nv) (pc:=pc) (d:=d) (Below.refl B l) R.o hn x.o hpl A.o h8 HN.o aR.o);obtain⟨bb,ay⟩:=Qf (st.getLastD false);rw[ay]at b9 HP;clear ay;go_wp2;go_meet;exact HP.o _ (by go_num)
       ·as_aux_lemma=>
         obtain⟨c,h0,h1⟩:=Su (M:=M) (s:=s) hop Y.o;have S:(i.op==1)=false:=by rw[hop];rfl
         have W:(i.op==2)=false:=by rw[hop];rfl
         have k3:(i.op==3)=true:=by rw[hop];rfl
         obtain⟨N,hN⟩:∃ N:Nat,i.n=(N:Int):=⟨i.n.toNat,by omega⟩;rw[hN]at e1 c h1;have x:=I c;have a5:pc+1+N<=t.length:=by omega
         clear c hop h0 h1 hN;go_wp2;go_meet;exact ZH.same (pc':=pc+1+N) (Below.refl B l) R.o (by go_num) (by simpa using x.o) (by omega) a5 (A.o.more (Nat.le_succ _)) h8 T.o
       ·as_aux_lemma=>
         obtain⟨c,h0,h1,h2⟩:=Ff (M:=M) (s:=s) true hop Y.o;have S:(i.op==1)=false:=by rw[hop];rfl
         have W:(i.op==2)=false:=by rw[hop];rfl
         have k3:(i.op==3)=false:=by rw[hop];rfl
         have k4:(i.op==4)=true:=by rw[hop];rfl
         have cW:(i.op==4)=true:=k4;obtain⟨N,hN⟩:∃ N:Nat,i.n=(N:Int):=⟨i.n.toNat,by omega⟩;rw[hN]at e1 c h2;have a5:pc+1+N<=t.length:=by omega
         obtain⟨Q,aY⟩:∃ Q,sl=Q+1:=⟨sl - 1,by have:=aH.o;omega⟩;subst aY;have ab:=aH.o;have HN:=I ab;have q:=T.o;rw[ab]at q;obtain⟨g9,c9,a0,bY,b1,aB⟩:=Y7 q (Nat.succ_pos _);injection a0 with e9 _ e11
         subst e9;subst e11;obtain⟨_,_,aC,_⟩:=G2 ab true;have b9:=aB Q (.bool (st.getLastD false)) (by rw[List.getElem?_map,aC];rfl);have cz:Q+1<=sc:=Fg q;have aR:=I q;have aP:Hid (Below B l l.drew):=(Below.refl _ _).drew;have aS:Hid (l.drew.ownsRow B 4 1 (.slice (some ⟨g9,0,none⟩) (Q+1) sc) (Q+1) (st.map Value.bool)):=aR.o;have aG:=I (A.o.below (w':=l.drew) (Below.refl _ _).drew);have aU:Hid (RBk rb l.drew):=R.o;clear hop h0 h1 h2 hN ab q aB aC;obtain⟨bb,ay⟩:=Qf (st.getLastD false);rw[ay]at b9 c;clear ay
         cases bb with
         |true=>
          have x:=I c;clear c;go_wp2;go_region;go_wp2;go_meet;exact ZH.pop (pc':=pc+1+N) aP.o aU.o (by go_num) (by simpa using x.o) (by omega) a5 aG.o h8 HN.o aS.o
         |false=>
          have x:=I c;clear c;go_wp2;go_region;go_wp2;go_meet;exact ZH.pop (pc':=pc+1) aP.o aU.o (by go_num) (by simpa using x.o) (by omega) (by omega) aG.o h8 HN.o aS.o
       ·as_aux_lemma=>
         obtain⟨c,h0,h1,h2⟩:=Ff (M:=M) (s:=s) false hop Y.o;have S:(i.op==1)=false:=by rw[hop];rfl
         have W:(i.op==2)=false:=by rw[hop];rfl
         have k3:(i.op==3)=false:=by rw[hop];rfl
         have k4:(i.op==4)=false:=by rw[hop];rfl
         have k5:(i.op==5)=true:=by rw[hop];rfl
         obtain⟨N,hN⟩:∃ N:Nat,i.n=(N:Int):=⟨i.n.toNat,by omega⟩;rw[hN]at e1 c h2;have a5:pc+1+N<=t.length:=by omega
         obtain⟨Q,aY⟩:∃ Q,sl=Q+1:=⟨sl - 1,by have:=aH.o;omega⟩;subst aY;have ab:=aH.o;have HN:=I ab;have q:=T.o;rw[ab]at q;obtain⟨g9,c9,a0,bY,b1,aB⟩:=Y7 q (Nat.succ_pos _);injection a0 with e9 _ e11
         subst e9;subst e11;obtain⟨_,_,aC,_⟩:=G2 ab true;have b9:=aB Q (.bool (st.getLastD false)) (by rw[List.getElem?_map,aC];rfl);have cz:Q+1<=sc:=Fg q;have aR:=I q;have aP:Hid (Below B l l.drew):=(Below.refl _ _).drew;have aS:Hid (l.drew.ownsRow B 4 1 (.slice (some ⟨g9,0,none⟩) (Q+1) sc) (Q+1) (st.map Value.bool)):=aR.o;have aG:=I (A.o.below (w':=l.drew) (Below.refl _ _).drew);have aU:Hid (RBk rb l.drew):=R.o;clear hop h0 h1 h2 hN ab q aB aC;obtain⟨bb,ay⟩:=Qf (st.getLastD false);rw[ay]at b9 c;clear ay
         cases bb with
         |true=>
          have x:=I c;clear c;go_wp2;go_region;go_wp2;go_meet;exact ZH.pop (pc':=pc+1) aP.o aU.o (by go_num) (by simpa using x.o) (by omega) (by omega) aG.o h8 HN.o aS.o
         |false=>
          have x:=I c;clear c;go_wp2;go_region;go_wp2;go_meet;exact ZH.pop (pc':=pc+1+N) aP.o aU.o (by go_num) (by simpa using x.o) (by omega) (by omega) aG.o h8 HN.o aS.o
       ·as_aux_lemma=>
         rcases hop with hop|hop|hop|hop|hop
         ·as_aux_lemma=>
           obtain⟨c,h7,ac,ad⟩:=G3 (M:=M) (s:=s) (by omega) Y.o;have x:=I c;have S:(i.op==1)=false:=by rw[hop];rfl
           have W:(i.op==2)=false:=by rw[hop];rfl
           have k3:(i.op==3)=false:=by rw[hop];rfl
           have k4:(i.op==4)=false:=by rw[hop];rfl
           have k5:(i.op==5)=false:=by rw[hop];rfl
           have k6:(i.op==6)=true:=by rw[hop];rfl
           have H:=I (G4 B sb M s z d (keepB s) false 0 0 i (.slice p1 i.a.length m1) (.slice p2 i.b.length m2) l (by omega) ac ad A.o (by omega) ar.o);unfold Za at H;have Z:=I (G5 (G6 M i s));obtain⟨ib,ah,ai,aj,ak⟩:=info_parts Tryz.infoBool;obtain⟨r,hr⟩:=Qf (askE M i s);rw[hr]at H x Z;obtain⟨rv,F⟩:=r;clear c ac ad hr hop;go_wp2_with fail;refine H.o.mono ?_;rintro e y ⟨rfl,D,z3,aa⟩;have J:=JY D A.o.blk (by decide);have G:=I (D.below aw aE);have af:=I (R.o.kb J);have q:=KO T.o J;have ae:=I q;have ag:Hid (StI y B sb M F z3 d (keepB F) false 0 0):=by show StI _ _ _ _ _ _ _ _ _ _ _;rw[show keepB F=keepB s from Z.o];exact aa
           have a3:B<=y.heap.size:=Qm aV D.size;clear D aa J e0 e1 e2 e3 e4 e5 e6;go_wp2_with (at_builtin;refine wpList_append_own_at _ rfl _ _ 106 rfl B 4 ib (.bool false) 1 1 underlying106 ah ai aj ak rfl (by decide) _ _ _ rfl (q.alloc _) ⟨y.heap.size,0,none⟩ 1 1 [.bool (rv)] rfl rfl ?c1 ?c2 ?c3 ?c4 ?c5 ?_)
           case c1=>
            intro j u C
            match j,C with
            |0,C=>simp at C;subst C;simp[Addr.add]
           case c2=>intro u P;simp at P;subst P;rfl
           case c3=>unfold maxLen;omega
           case c4=>omega
           case c5=>simp;omega
           ·intro v5 w5 L K _ _;have HP:=I (fun nv hn=>ZH.push (i:=i) (rb:=rb) (s:=s) (s':=F) (M:=M) (n:=t.length) (nv:=nv) (pc:=pc) (d:=d) G.o af.o hn x.o hpl ag.o h7 ae.o K L);clear L K q;go_wp2;go_meet;exact HP.o _ (by go_num)
         ·as_aux_lemma=>
           obtain⟨c,h7,ac,ad⟩:=G3 (M:=M) (s:=s) (by omega) Y.o;have x:=I c;have S:(i.op==1)=false:=by rw[hop];rfl
           have W:(i.op==2)=false:=by rw[hop];rfl
           have k3:(i.op==3)=false:=by rw[hop];rfl
           have k4:(i.op==4)=false:=by rw[hop];rfl
           have k5:(i.op==5)=false:=by rw[hop];rfl
           have k6:(i.op==6)=false:=by rw[hop];rfl
           have k7:(i.op==7)=true:=by rw[hop];rfl
           have H:=I (G4 B sb M s z d (keepB s) false 0 0 i (.slice p1 i.a.length m1) (.slice p2 i.b.length m2) l (by omega) ac ad A.o (by omega) ar.o);unfold Za at H;have Z:=I (G5 (G6 M i s));obtain⟨ib,ah,ai,aj,ak⟩:=info_parts Tryz.infoBool;obtain⟨r,hr⟩:=Qf (askE M i s);rw[hr]at H x Z;obtain⟨rv,F⟩:=r;clear c ac ad hr hop;go_wp2_with fail;refine H.o.mono ?_;rintro e y ⟨rfl,D,z3,aa⟩;have J:=JY D A.o.blk (by decide);have G:=I (D.below aw aE);have af:=I (R.o.kb J);have q:=KO T.o J;have ae:=I q;have ag:Hid (StI y B sb M F z3 d (keepB F) false 0 0):=by show StI _ _ _ _ _ _ _ _ _ _ _;rw[show keepB F=keepB s from Z.o];exact aa
           have a3:B<=y.heap.size:=Qm aV D.size;clear D aa J e0 e1 e2 e3 e4 e5 e6;go_wp2_with (at_builtin;refine wpList_append_own_at _ rfl _ _ 106 rfl B 4 ib (.bool false) 1 1 underlying106 ah ai aj ak rfl (by decide) _ _ _ rfl (q.alloc _) ⟨y.heap.size,0,none⟩ 1 1 [.bool (rv)] rfl rfl ?c1 ?c2 ?c3 ?c4 ?c5 ?_)
           case c1=>
            intro j u C
            match j,C with
            |0,C=>simp at C;subst C;simp[Addr.add]
           case c2=>intro u P;simp at P;subst P;rfl
           case c3=>unfold maxLen;omega
           case c4=>omega
           case c5=>simp;omega
           ·intro v5 w5 L K _ _;have HP:=I (fun nv hn=>ZH.push (i:=i) (rb:=rb) (s:=s) (s':=F) (M:=M) (n:=t.length) (nv:=nv) (pc:=pc) (d:=d) G.o af.o hn x.o hpl ag.o h7 ae.o K L);clear L K q;go_wp2;go_meet;exact HP.o _ (by go_num)
         ·as_aux_lemma=>
           obtain⟨c,h7,ac,ad⟩:=G3 (M:=M) (s:=s) (by omega) Y.o;have x:=I c;have S:(i.op==1)=false:=by rw[hop];rfl
           have W:(i.op==2)=false:=by rw[hop];rfl
           have k3:(i.op==3)=false:=by rw[hop];rfl
           have k4:(i.op==4)=false:=by rw[hop];rfl
           have k5:(i.op==5)=false:=by rw[hop];rfl
           have k6:(i.op==6)=false:=by rw[hop];rfl
           have k7:(i.op==7)=false:=by rw[hop];rfl
           have k8:(i.op==8)=true:=by rw[hop];rfl
           have H:=I (G4 B sb M s z d (keepB s) false 0 0 i (.slice p1 i.a.length m1) (.slice p2 i.b.length m2) l (by omega) ac ad A.o (by omega) ar.o);unfold Za at H;have Z:=I (G5 (G6 M i s));obtain⟨ib,ah,ai,aj,ak⟩:=info_parts Tryz.infoBool;obtain⟨r,hr⟩:=Qf (askE M i s);rw[hr]at H x Z;obtain⟨rv,F⟩:=r;clear c ac ad hr hop;go_wp2_with fail;refine H.o.mono ?_;rintro e y ⟨rfl,D,z3,aa⟩;have J:=JY D A.o.blk (by decide);have G:=I (D.below aw aE);have af:=I (R.o.kb J);have q:=KO T.o J;have ae:=I q;have ag:Hid (StI y B sb M F z3 d (keepB F) false 0 0):=by show StI _ _ _ _ _ _ _ _ _ _ _;rw[show keepB F=keepB s from Z.o];exact aa
           have a3:B<=y.heap.size:=Qm aV D.size;clear D aa J e0 e1 e2 e3 e4 e5 e6;go_wp2_with (at_builtin;refine wpList_append_own_at _ rfl _ _ 106 rfl B 4 ib (.bool false) 1 1 underlying106 ah ai aj ak rfl (by decide) _ _ _ rfl (q.alloc _) ⟨y.heap.size,0,none⟩ 1 1 [.bool (rv)] rfl rfl ?c1 ?c2 ?c3 ?c4 ?c5 ?_)
           case c1=>
            intro j u C
            match j,C with
            |0,C=>simp at C;subst C;simp[Addr.add]
           case c2=>intro u P;simp at P;subst P;rfl
           case c3=>unfold maxLen;omega
           case c4=>omega
           case c5=>simp;omega
           ·intro v5 w5 L K _ _;have HP:=I (fun nv hn=>ZH.push (i:=i) (rb:=rb) (s:=s) (s':=F) (M:=M) (n:=t.length) (nv:=nv) (pc:=pc) (d:=d) G.o af.o hn x.o hpl ag.o h7 ae.o K L);clear L K q;go_wp2;go_meet;exact HP.o _ (by go_num)
         ·as_aux_lemma=>
           obtain⟨c,h7,ac,ad⟩:=G3 (M:=M) (s:=s) (by omega) Y.o;have x:=I c;have S:(i.op==1)=false:=by rw[hop];rfl
           have W:(i.op==2)=false:=by rw[hop];rfl
           have k3:(i.op==3)=false:=by rw[hop];rfl
           have k4:(i.op==4)=false:=by rw[hop];rfl
           have k5:(i.op==5)=false:=by rw[hop];rfl
           have k6:(i.op==6)=false:=by rw[hop];rfl
           have k7:(i.op==7)=false:=by rw[hop];rfl
           have k8:(i.op==8)=false:=by rw[hop];rfl
           have k9:(i.op==9)=true:=by rw[hop];rfl
           have H:=I (G4 B sb M s z d (keepB s) false 0 0 i (.slice p1 i.a.length m1) (.slice p2 i.b.length m2) l (by omega) ac ad A.o (by omega) ar.o);unfold Za at H;have Z:=I (G5 (G6 M i s));obtain⟨ib,ah,ai,aj,ak⟩:=info_parts Tryz.infoBool;obtain⟨r,hr⟩:=Qf (askE M i s);rw[hr]at H x Z;obtain⟨rv,F⟩:=r;clear c ac ad hr hop;go_wp2_with fail;refine H.o.mono ?_;rintro e y ⟨rfl,D,z3,aa⟩;have J:=JY D A.o.blk (by decide);have G:=I (D.below aw aE);have af:=I (R.o.kb J);have q:=KO T.o J;have ae:=I q;have ag:Hid (StI y B sb M F z3 d (keepB F) false 0 0):=by show StI _ _ _ _ _ _ _ _ _ _ _;rw[show keepB F=keepB s from Z.o];exact aa
           have a3:B<=y.heap.size:=Qm aV D.size;clear D aa J e0 e1 e2 e3 e4 e5 e6;go_wp2_with (at_builtin;refine wpList_append_own_at _ rfl _ _ 106 rfl B 4 ib (.bool false) 1 1 underlying106 ah ai aj ak rfl (by decide) _ _ _ rfl (q.alloc _) ⟨y.heap.size,0,none⟩ 1 1 [.bool (rv)] rfl rfl ?c1 ?c2 ?c3 ?c4 ?c5 ?_)
           case c1=>
            intro j u C
            match j,C with
            |0,C=>simp at C;subst C;simp[Addr.add]
           case c2=>intro u P;simp at P;subst P;rfl
           case c3=>unfold maxLen;omega
           case c4=>omega
           case c5=>simp;omega
           ·intro v5 w5 L K _ _;have HP:=I (fun nv hn=>ZH.push (i:=i) (rb:=rb) (s:=s) (s':=F) (M:=M) (n:=t.length) (nv:=nv) (pc:=pc) (d:=d) G.o af.o hn x.o hpl ag.o h7 ae.o K L);clear L K q;go_wp2;go_meet;exact HP.o _ (by go_num)
         ·as_aux_lemma=>
           obtain⟨c,h7,ac,ad⟩:=G3 (M:=M) (s:=s) (by omega) Y.o;have x:=I c;have S:(i.op==1)=false:=by rw[hop];rfl
           have W:(i.op==2)=false:=by rw[hop];rfl
           have k3:(i.op==3)=false:=by rw[hop];rfl
           have k4:(i.op==4)=false:=by rw[hop];rfl
           have k5:(i.op==5)=false:=by rw[hop];rfl
           have k6:(i.op==6)=false:=by rw[hop];rfl
           have k7:(i.op==7)=false:=by rw[hop];rfl
           have k8:(i.op==8)=false:=by rw[hop];rfl
           have k9:(i.op==9)=false:=by rw[hop];rfl
           have bf:(i.op==10)=true:=by rw[hop];rfl
           have H:=I (G4 B sb M s z d (keepB s) false 0 0 i (.slice p1 i.a.length m1) (.slice p2 i.b.length m2) l (by omega) ac ad A.o (by omega) ar.o);unfold Za at H;have Z:=I (G5 (G6 M i s));obtain⟨ib,ah,ai,aj,ak⟩:=info_parts Tryz.infoBool;obtain⟨r,hr⟩:=Qf (askE M i s);rw[hr]at H x Z;obtain⟨rv,F⟩:=r;clear c ac ad hr hop;go_wp2_with fail;refine H.o.mono ?_;rintro e y ⟨rfl,D,z3,aa⟩;have J:=JY D A.o.blk (by decide);have G:=I (D.below aw aE);have af:=I (R.o.kb J);have q:=KO T.o J;have ae:=I q;have ag:Hid (StI y B sb M F z3 d (keepB F) false 0 0):=by show StI _ _ _ _ _ _ _ _ _ _ _;rw[show keepB F=keepB s from Z.o];exact aa
           have a3:B<=y.heap.size:=Qm aV D.size;clear D aa J e0 e1 e2 e3 e4 e5 e6;go_wp2_with (at_builtin;refine wpList_append_own_at _ rfl _ _ 106 rfl B 4 ib (.bool false) 1 1 underlying106 ah ai aj ak rfl (by decide) _ _ _ rfl (q.alloc _) ⟨y.heap.size,0,none⟩ 1 1 [.bool (rv)] rfl rfl ?c1 ?c2 ?c3 ?c4 ?c5 ?_)
           case c1=>
            intro j u C
            match j,C with
            |0,C=>simp at C;subst C;simp[Addr.add]
           case c2=>intro u P;simp at P;subst P;rfl
           case c3=>unfold maxLen;omega
           case c4=>omega
           case c5=>simp;omega
           ·intro v5 w5 L K _ _;have HP:=I (fun nv hn=>ZH.push (i:=i) (rb:=rb) (s:=s) (s':=F) (M:=M) (n:=t.length) (nv:=nv) (pc:=pc) (d:=d) G.o af.o hn x.o hpl ag.o h7 ae.o K L);clear L K q;go_wp2;go_meet;exact HP.o _ (by go_num)
       ·as_aux_lemma=>
         obtain⟨c,bc⟩:=Sv (M:=M) (s:=s) hop Y.o;have S:(i.op==1)=false:=by rw[hop];rfl
         have W:(i.op==2)=false:=by rw[hop];rfl
         have k3:(i.op==3)=false:=by rw[hop];rfl
         have k4:(i.op==4)=false:=by rw[hop];rfl
         have k5:(i.op==5)=false:=by rw[hop];rfl
         have k6:(i.op==6)=false:=by rw[hop];rfl
         have k7:(i.op==7)=false:=by rw[hop];rfl
         have k8:(i.op==8)=false:=by rw[hop];rfl
         have k9:(i.op==9)=false:=by rw[hop];rfl
         have bf:(i.op==10)=false:=by rw[hop];rfl
         have bI:(i.op==11)=true:=by rw[hop];rfl
         rcases bc with⟨ht,aX⟩ | ⟨ht,cE,ax⟩
         ·have g1:(i.tag != 1)=false:=by rw[ht];rfl
          rw[aX,ht]at c;rw[ht]at e2;have x:=I c;clear c aX ht hop;go_wp2_with fail;refine(A3 B sb M s z d (keepB s) false 0 1 [] i.at_ l A.o (by omega) QC (Qd ⟨rfl,rfl⟩)).mono ?_;rintro e y ⟨rfl,V,aD⟩;have G:=I V;have aT:=I aD;clear V aD;go_wp2;go_meet;exact ZH.act G.o.1 (R.o.kb G.o.2) (by go_num) x.o hpl aT.o h8 (KO T.o G.o.2)
         ·have g1:(i.tag != 1)=true:=by simpa using ht
          obtain⟨X,ap⟩:∃ X,i.a[0]?=some X:=⟨i.a[0],List.getElem?_eq_getElem ax⟩
          have aX:Vj i=X:=by
           unfold Vj;rw[if_neg ht,List.headD_eq_head?_getD,List.head?_eq_getElem?,ap];rfl
          rw[aX]at c;have x:=I c;obtain⟨pa,ma,aJ,aZ⟩:=id ar.o.a;injection aJ with aJ
          subst aJ;obtain⟨ga,aq,bB,az⟩:=aZ 0 ax;subst bB;have aO:i.a[0]=X:=by rw[List.getElem?_eq_getElem ax]at ap;injection ap
          rw[aO]at az;have cG:X.length<=100000:=by rw[<-aO];exact ar.o.sa _ (List.getElem_mem ax)
          have ca:l.cell? ⟨ga,aq,none⟩=some (.string (sA X)):=az;have cw:(0:Int)<(i.a.length:Int):=by omega
          clear c aX ht hop aZ az ap aO;go_wp2_with fail;refine(A3 B sb M s z d (keepB s) false 0 i.tag X i.at_ l A.o (by omega) cG (Qc cE)).mono ?_;rintro e y ⟨rfl,V,aD⟩;have G:=I V;have aT:=I aD;clear V aD;go_wp2;go_meet;exact ZH.act G.o.1 (R.o.kb G.o.2) (by go_num) x.o hpl aT.o h8 (KO T.o G.o.2)
       ·as_aux_lemma=>
         obtain⟨c,bc,ax,a7⟩:=Sw (M:=M) (s:=s) hop Y.o;have S:(i.op==1)=false:=by rw[hop];rfl
         have W:(i.op==2)=false:=by rw[hop];rfl
         have k3:(i.op==3)=false:=by rw[hop];rfl
         have k4:(i.op==4)=false:=by rw[hop];rfl
         have k5:(i.op==5)=false:=by rw[hop];rfl
         have k6:(i.op==6)=false:=by rw[hop];rfl
         have k7:(i.op==7)=false:=by rw[hop];rfl
         have k8:(i.op==8)=false:=by rw[hop];rfl
         have k9:(i.op==9)=false:=by rw[hop];rfl
         have bf:(i.op==10)=false:=by rw[hop];rfl
         have bI:(i.op==11)=false:=by rw[hop];rfl
         have b7:(i.op==12)=true:=by rw[hop];rfl
         obtain⟨X,ap⟩:∃ X,i.a[0]?=some X:=⟨i.a[0],List.getElem?_eq_getElem ax⟩;obtain⟨y0,bd⟩:∃ y0,i.b[0]?=some y0:=⟨i.b[0],List.getElem?_eq_getElem a7⟩;rw[List.headD_eq_head?_getD,List.head?_eq_getElem?,ap,List.headD_eq_head?_getD,List.head?_eq_getElem?,bd]at c;have x:=I c;obtain⟨pa,ma,aJ,aZ⟩:=id bK.o.a;obtain⟨pb,mb,br,b6⟩:=id bK.o.b;injection aJ with aJ
         injection br with br
         subst aJ br;obtain⟨ga,aq,bB,az⟩:=aZ 0 ax;obtain⟨gb,aL,cD,a8⟩:=b6 0 a7;subst bB cD;have aO:i.a[0]=X:=by rw[List.getElem?_eq_getElem ax]at ap;injection ap
         have bH:i.b[0]=y0:=by rw[List.getElem?_eq_getElem a7]at bd;injection bd
         rw[aO]at az;rw[bH]at a8;have cH:y0.length<=100000:=by rw[<-bH];exact ar.o.sb _ (List.getElem_mem a7)
         have bZ:ga<B:=by have h0:ga<w.heap.size:=QI az;have:=aF.o;omega
         have b0:gb<B:=by have h0:gb<w.heap.size:=QI a8;have:=aF.o;omega
         have bJ:=I (HB.o.trans bi.o);have ca:l.cell? ⟨ga,aq,none⟩=some (.string (sA X)):=by rw[bJ.o.cell (p:=⟨ga,aq,none⟩) bZ];exact az
         have cb:l.cell? ⟨gb,aL,none⟩=some (.string (sA y0)):=by rw[bJ.o.cell (p:=⟨gb,aL,none⟩) b0];exact a8
         have cw:(0:Int)<(i.a.length:Int):=by omega
         have cN:(0:Int)<(i.b.length:Int):=by omega
         have HA:=I (Dl B sb M s z d (keepB s) false 0 0 X y0 i.tag l.drew (A.o.below (Below.refl _ _).drew) (by omega) cH bc);clear c hop aZ b6 az a8 ap aO bd bH bc;go_wp2;go_region_held3 (fun w'=>w'.cell? ⟨E,4,none⟩=some (.slice (some ⟨ga,aq,none⟩) i.a.length m1)/\w'.cell? ⟨E,5,none⟩=some (.slice (some ⟨gb,aL,none⟩) i.b.length m2)/\w'.cell? ⟨E,2,none⟩=some (.int .i64 i.tag)/\w'.cell? ⟨ga,aq,none⟩=some (.string (sA X))/\w'.cell? ⟨gb,aL,none⟩=some (.string (sA y0))) (first|go_keep|exact⟨f1,f2,f3,f4,f5⟩) (first|(go_at_call 50;refine HA.o.mono ?_;rintro e y ⟨rfl,V,aD⟩;have a9:=V.2 E _ _ (show l.drew.heap[E]?=_ from au.o) (by decide);have f1:=QJ a9;have f2:=QM a9;have f3:=QG a9;have f4:y.cell? ⟨ga,aq,none⟩=some (.string (sA X)):=(by rw[V.1.cell (p:=⟨ga,aq,none⟩) bZ];exact ca);have f5:y.cell? ⟨gb,aL,none⟩=some (.string (sA y0)):=(by rw[V.1.cell (p:=⟨gb,aL,none⟩) b0];exact cb);have G:=I V;have aT:=I aD;clear V aD a9;skip))
         all_goals go_wp2
         all_goals go_meet
         all_goals obtain⟨z9,cI⟩:=aT.o
         all_goals exact ZH.same (pc':=pc+1) ((Below.refl B l).drew.trans G.o.1) (RBk.kb (w:=l.drew) R.o G.o.2) (by go_num) x.o Qt hpl cI h8 (KO (w:=l.drew) T.o G.o.2)
       ·as_aux_lemma=>
         have x:=I (Sx (M:=M) (s:=s) (st:=st) (pc:=pc) (n:=t.length) hop);have S:(i.op==1)=false:=by rw[hop];rfl
         have W:(i.op==2)=false:=by rw[hop];rfl
         have k3:(i.op==3)=false:=by rw[hop];rfl
         have k4:(i.op==4)=false:=by rw[hop];rfl
         have k5:(i.op==5)=false:=by rw[hop];rfl
         have k6:(i.op==6)=false:=by rw[hop];rfl
         have k7:(i.op==7)=false:=by rw[hop];rfl
         have k8:(i.op==8)=false:=by rw[hop];rfl
         have k9:(i.op==9)=false:=by rw[hop];rfl
         have bf:(i.op==10)=false:=by rw[hop];rfl
         have bI:(i.op==11)=false:=by rw[hop];rfl
         have b7:(i.op==12)=false:=by rw[hop];rfl
         have cJ:(i.op==13)=true:=by rw[hop];rfl
         have df:=Qz A.o.blk;have d9:=JU A.o.blk;have HK:Hid (keepB (KE s)=false):=by show(s.met.isEmpty && !true)=false;rw[Bool.not_true,Bool.and_false]
         have a1:=I (VJ A.o.blk (by decide) 9 (.bool false));have aG:Hid (StI (l.setCell ⟨sb,9,none⟩ (.bool false)) B sb M (KE s) z (d+1) (keepB (KE s)) false 0 0):=by show StI _ _ _ _ _ _ _ _ _ _ _;rw[HK.o];exact A.o.disc.more (Nat.le_succ _)
         clear hop;go_wp2;go_meet;exact ZH.same (pc':=pc+1) (((Mod.refl sb l).setCell _ _).below aw aE) (R.o.kb a1.o) (by go_num) x.o Qt hpl aG.o h8 (KO T.o a1.o)
       ·as_aux_lemma=>
         have x:=I (Sy (M:=M) (s:=s) (st:=st) (pc:=pc) (n:=t.length) hop);have S:(i.op==1)=false:=by rw[hop];rfl
         have W:(i.op==2)=false:=by rw[hop];rfl
         have k3:(i.op==3)=false:=by rw[hop];rfl
         have k4:(i.op==4)=false:=by rw[hop];rfl
         have k5:(i.op==5)=false:=by rw[hop];rfl
         have k6:(i.op==6)=false:=by rw[hop];rfl
         have k7:(i.op==7)=false:=by rw[hop];rfl
         have k8:(i.op==8)=false:=by rw[hop];rfl
         have k9:(i.op==9)=false:=by rw[hop];rfl
         have bf:(i.op==10)=false:=by rw[hop];rfl
         have bI:(i.op==11)=false:=by rw[hop];rfl
         have b7:(i.op==12)=false:=by rw[hop];rfl
         have cJ:(i.op==13)=false:=by rw[hop];rfl
         have cV:(i.op==14)=true:=by rw[hop];rfl
         have df:=Qz A.o.blk;have a2:=Nv A.o.blk;have a1:=I (VJ A.o.blk (by decide) 10 (.bool true));clear hop;go_wp2;go_meet;exact ZH.stop (((Mod.refl sb l).setCell _ _).below aw aE) (R.o.kb a1.o) (by go_num) x.o A.o.ends
      case rest=>
       obtain⟨pc',rfl,h1,h2,hx⟩:=bM.o _ _ _ ⟨bi.o.trans hcut.1,hcut.2⟩;have ct:=I hx;have cc:=I (bO.o _ hcut.1);have co:=I hcut.2.1;clear hx hcut;go_wp2;go_roundg (t.length - pc')
       case measure=>omega
       case rel=>exact⟨pc',d+1,rfl,h2,by omega,by go_num,rfl,cc,co,ct⟩
 case rest=>
  obtain⟨r,d,rfl,aI,bS,bR,bT⟩:=hcut;have bl:=I aI;have aQ:=I (Sz hl bS);have cd:=I bR;have cp:=I bT;have cn:=I (Fh B sb M d 0 r wc aI);clear aI bS bR bT;go_wp2_with fail;refine cn.o.mono ?_;rintro e y ⟨V,lv,rfl,bz⟩;have aK:=cp.o.kb V.2;have af:=I aK;have G:=I (cd.o.trans V.1);have ae:=I bz;have r0:=Qn aK 0;have r1:=Qn aK 1;have r2:=Qn aK 2;have rf:=Qz aK;obtain⟨la,lc,cB⟩:=ZC bz;subst cB;have cT:=Qh aK;have bD:B<=rb:=by have:=cm.o;omega
  unfold Jq;obtain⟨fe,bs⟩:=Qf ((((Xy r).2).getD (0,0)).1);obtain⟨fp,bt⟩:=Qf ((((Xy r).2).getD (0,0)).2);obtain⟨ln,bw⟩:=Qf ((Xy r).1.length);rw[bs,bt,bw];have ce:=I bs;have cf:=I bt;have ci:=I bw;have s0:y.cell? ⟨rb,0,none⟩=some (.slice none 0 0):=r0;have s1:y.cell? ⟨rb,1,none⟩=some (.int .i64 0):=r1;have s2:y.cell? ⟨rb,2,none⟩=some (.int .i64 0):=r2;clear aK V bz bs bt bw r0 r1 r2;go_wp2;obtain⟨U,hU⟩:=QE ((((y.setCell ⟨rb,0,none⟩ (.slice la ln lc)).setCell ⟨rb,1,none⟩ (.int .i64 fe)).setCell ⟨rb,2,none⟩ (.int .i64 fp)));rw[<-hU];have hb:U.heap[rb]?=some (.cells #[.slice la ln lc,.int .i64 fe,.int .i64 fp] 70):=by rw[hU];exact Qv _ _ _ _ _ _ (Qv _ _ _ _ _ _ (Qv _ _ _ _ _ _ af.o))
  have y0:=Qj hb;have y1:=Qo hb;have y2:=QG hb;have cv:Below B w U:=by rw[hU];exact((G.o.setCell bD _).setCell bD _).setCell bD _
  have bx:(Value.slice la (Xy r).1.length lc).ownBlock≠some rb:=ZI ae.o af.o (by decide);have cu:U.ownsRow B 52 2 (.slice la (Xy r).1.length lc) (Xy r).1.length (XZ (Xy r).1):=by rw[hU];exact Xd (Xd (Xd ae.o bx) bx) bx
  refine bodyPost_ret (v:=.tuple #[.agg #[.slice la ln lc,.int .i64 fe,.int .i64 fp],.int .i64 d]) (by simp[results,results28,go_sem,y0,y1,y2]) rfl ?_;refine⟨by rw[aF.o];exact cv,.slice la ln lc,?_,?_⟩
  ·rw[aQ.o,<-ce.o,<-cf.o];rfl
  ·rw[aQ.o,aF.o,<-ci.o];exact cu
end Go.Proofs.YtgnkjijocdmniaaGreatDoor
