import Derived.Test.YtgnkjijocdmniaaGreatDoorZQMatch
namespace Go.Proofs.YtgnkjijocdmniaaGreatDoor
set_option linter.all false
set_option maxRecDepth 100000
set_option maxHeartbeats 4000000
open Go.Proofs.Tryz
open Go.RowKit
attribute [local go_sem ↓] Zt Zu
def YD(w:World)(gb:Nat)(nm:L8)(tag:Nat)(oct:Bool):Prop:=w.heap[gb]?=some (Qe #[Qf nm,Qp,Qp,Qp,Qa tag,.bool oct,Qa 0] 200)
def preS(l:L8)(rq:Qn)(nm:L8)(st:Qq PS):Qq PS:=
 if nm=Zb then YC l rq Zb st else if nm=Xc then YC l rq Z8 st else st
structure Fc (M:Qq (Zk×PS)) (u:World) (tb gb:Nat) (l nm:L8) (e:Ending) (w':World):Prop where
 e:e=.returned (.tuple #[])
 m:Mod tb u w'
 t:TSt w' tb l (stOf M)
 any:∃cs,w'.heap[gb]?=some (Qe cs 200)
 ok:∀y,M=.ok y->∃fv kv,w'.heap[gb]?=some (Qe #[Qf nm,Qp,fv,kv,Qa y.1.tag,.bool y.1.octet,Qa 0] 200)∧slX (fromB u.heap.size) y.1.fr w' fv∧slX (fromB u.heap.size) y.1.keys w' kv
variable{gb tb:Nat}{l:L8}{u w:World}
theorem AC{M:Qq (Zk×PS)}{w':World}{b:L8}{f:Flt}{tag:Nat}{oct:Bool}(d:M=.error f)(c:Mod tb u w)(a:Mod tb w w')(j:TSt w' tb l (.error f))(i:YD w gb b tag oct)(g:gb≠tb):Fc M u tb gb l b (.returned (.tuple #[])) w':=by
 subst d;exact⟨rfl,c.trans a,j,⟨_,QY i a g⟩,fun y e=>by cases e⟩
theorem CB{rb:Nat}{nv:Value}{rq:Qn}{d:L8}(k pos:Nat){F:Nat}(what:Nat){st:Qq PS}(Z:RdQ u rb tb nv)(Q:rb≠tb)(A:Mod tb u w)(hg:u.heap.size<=gb)(aj:YD w gb d 0 false)(hq:TxL w nv rq)(hz:rq.length<=140737488355328)(h:TSt w tb l st)(a8:tb<u.heap.size)(D:l.length<=600)(hF:2*l.length+2<=F)(aw:what=if d=Zb then 3 else 0):Calls prog 254 #[.pointer (some ⟨rb,0,none⟩),.pointer (some ⟨gb,0,none⟩)] w (Fc (matchM l F (QV what) k pos (bindS (nextS l (preS l rq d st)) (ZH l F 0 false false))) u tb gb l d):=by
 have P:((sA d).toList==[101,110,118,101,108,111,112,101])=decide (d=Zb):=by rw[XL];show(d==Zb)=_;rw[Xb];simp
 have h2:((sA d).toList==[115,116,114,105,110,103])=decide (d=Xc):=by rw[XL];show(d==Xc)=_;rw[Xb];simp
 go_enter func254,ntmps254;have c0:=Qj aj 0;obtain⟨b1,ae⟩:=Qw (decide (d=Zb));obtain⟨b2,ao⟩:=Qw (decide (d=Xc));rw[ae]at P;rw[ao]at h2;have bf:=O ae;have bh:=O ao;have H:=O h;have HN:=O aj;have HQ:=O hq;have HM:=O A;have HR:=O Z;clear ae ao h aj hq A Z;have HW:=O aw;clear aw;have a6:=QI HN.o;have p:gb≠tb:=by omega
 go_upto_if 12 with fail
 go_cut [] (fun S=>Mod tb u S/\YD S gb d 0 false/\TSt S tb l (if d=Zb then YC l rq Zb st else st)/\(¬d=Zb->S=w))
 case first=>
  cases b1 with
  |true=>
   have G:d=Zb:=K5 bf.o;have HU:=O (BM (k:=rb) (tb:=tb) (f:=nv) (rq:=rq) (l:=l) Zb (st:=st) (w:=w) (HR.o.mod HM.o Q) HQ.o hz H.o D);have HX:Hid ((if d=Zb then YC l rq Zb st else st)=YC l rq Zb st):=Qi G;have HE:=O G;clear G;go_wp2_with fail;refine HU.o.mono ?_;rintro e w1 ⟨rfl,q,C⟩;have i:=O q;have Y:=O C;clear q C;go_wp2;go_meet;exact⟨HM.o.trans i.o,QY HN.o i.o p,by rw[HX.o];exact Y.o,fun h=>absurd HE.o h⟩
  |false=>
   have G:¬d=Zb:=of_decide_eq_false bf.o;have HX:Hid ((if d=Zb then YC l rq Zb st else st)=st):=Qg G;clear G;go_wp2;go_meet;exact⟨HM.o,HN.o,by rw[HX.o];exact H.o,fun _=>rfl⟩
 case rest=>
  obtain⟨af,ah,E,aa⟩:=hcut;have aG:=O af;have aH:=O ah;have aJ:=O E;have aK:=O aa;have aV:=Qj ah 0;clear af ah E aa c0;go_upto_if 19 with fail
  go_cut [] (fun S=>Mod tb u S/\YD S gb d 0 false/\TSt S tb l (preS l rq d st))
  case first=>
   cases b2 with
   |true=>
    have N:d=Xc:=K5 bh.o;have G:¬d=Zb:=by rw[N];decide
    obtain rfl:=aK.o G;have HU:=O (BM (k:=rb) (tb:=tb) (f:=nv) (rq:=rq) (l:=l) Z8 (st:=st) (w:=wc) (HR.o.mod HM.o Q) HQ.o hz H.o D);have HX:Hid (preS l rq d st=YC l rq Z8 st):=by show _=_;unfold preS;rw[Qg G,Qi N]
    clear G N;go_wp2_with fail;refine HU.o.mono ?_;rintro e w1 ⟨rfl,q,C⟩;have i:=O q;have Y:=O C;clear q C;go_wp2;go_meet;exact⟨HM.o.trans i.o,QY HN.o i.o p,by rw[HX.o];exact Y.o⟩
   |false=>
    have N:¬d=Xc:=of_decide_eq_false bh.o;have HX:Hid (preS l rq d st=if d=Zb then YC l rq Zb st else st):=by show _=_;unfold preS;rw[Qg N]
    clear N;go_wp2;go_meet;exact⟨aG.o,aH.o,by rw[HX.o];exact aJ.o⟩
  case rest=>
   clear aG aH aJ aK aV HN HM H HQ;obtain⟨af,ah,E⟩:=hcut;have aG:=O af;have aH:=O ah;have aA:=O (X0 (tb:=tb) (l:=l) (st:=preS l rq d st) E D);have aO:=Qj (HR.o.mod af Q) 0;clear af ah E;generalize preS l rq d st=st0 at *;go_upto_block 0 with(go_at_call 66;refine aA.o.mono ?_;rintro e w1 ⟨rfl,q,C⟩;have i:=O (aG.o.trans q);have Y:=O C;have az:=O (QY aH.o q p);clear q C)
   have HO:Hid (UT (bindS (nextS l st0) (ZH l F 0 false false)) l (nextS l st0) 0 false false):=⟨⟨F,fun s hs=>by have j:=Y.o;rw[hs]at j;have:=G3 j D;omega,rfl⟩,by omega⟩;generalize bindS (nextS l st0) (ZH l F 0 false false)=R at *;go_cut [] (fun S=>∃(ak:Qq PS) (n:Nat) (J:Bool),Mod tb u S/\YD S gb d n J/\TSt S tb l ak/\n<=3/\R=bindS ak fun s=>.ok ((max n 1,J),s))
   case first=>
    go_wp2_with fail
    go_loopg [4,5,6] (muS l (nextS l st0)) (fun m cv _ _ wr=>∃(c:Qq PS) (n:Nat) (J ai:Bool),m=muS l c/\cv=.bool ai/\Mod tb u wr/\YD wr gb d n J/\TSt wr tb l c/\UT R l c n J ai)
    case atStart=>exact⟨_,0,false,false,rfl,rfl,i.o,az.o,Y.o,HO.o⟩
    case round=>
     clear aG aH aA i Y az HO aO;obtain⟨c,n,J,ai,rfl,rfl,A,r,j,ho⟩:=hrel;have bd:=O A;have bc:=O r;have bb:=O j;have bg:=O ho;obtain⟨c2,c4,c5,_,c7⟩:=j.cells;have r0:=Qj (HR.o.mod A Q) 0;have g4:=Qj r 4;have aX:=fun o=>QQ r o
     have h3:=ho.t;clear A r j ho P h2 bf bh HW;by_cases U:(Qk l c).1=58;rotate_left
     .have a0:(((Qk l c).1:Int)==58)=false:=by simp;omega
      have HE:=O (QzD bg.o bb.o U);clear U;cases aW:((errS c:Int)==0)
      all_goals go_wp2
      all_goals go_meet
      all_goals exact⟨c,n,J,bd.o,bc.o,bb.o,h3,HE.o⟩
     .have a0:(((Qk l c).1:Int)==58)=true:=by simp;omega
      have he:errS c=0:=by obtain⟨s,f,hs,he,_⟩:=Cg bg.o bb.o U;exact he
      have ap:Hid (∀g,failS c g=.error g):=by
       obtain⟨s,hs⟩:=bb.o.err0.1 he;intro g;rw[hs];rfl
      have aW:((errS c:Int)==0)=true:=by simp;omega
      clear he;have HK:=O U;clear U;have G:((sA (Qk l c).2.1).toList==[105,115])=decide ((Qk l c).2.1=qIs):=by rw[XL];show((Qk l c).2.1==qIs)=_;rw[Xb];simp
      have N:((sA (Qk l c).2.1).toList==[99,111,110,116,97,105,110,115])=decide ((Qk l c).2.1=YI):=by rw[XL];show((Qk l c).2.1==YI)=_;rw[Xb];simp
      have e3:((sA (Qk l c).2.1).toList==[109,97,116,99,104,101,115])=decide ((Qk l c).2.1=YH):=by rw[XL];show((Qk l c).2.1==YH)=_;rw[Xb];simp
      have e4:((sA (Qk l c).2.1).toList==[99,111,109,112,97,114,97,116,111,114])=decide ((Qk l c).2.1=V3):=by rw[XL];show((Qk l c).2.1==V3)=_;rw[Xb];simp
      by_cases x4:(Qk l c).2.1=V3
      .have aa:wL [qIs,YI,YH] (Qk l c).2.1=0:=by rw[x4];decide
       have HC:=O (QzG bg.o bb.o HK.o aa x4);rw[QU x4]at e4;rw[QB (by rw[x4];decide)]at G N e3;clear x4 aa
       cases ai with
       |true=>
        have ab:Hid (matchM l F (QV what) k pos R=.error ⟨7,(Qk l c).2.2.2⟩):=by show _=_;rw[HC.o.1 rfl];rfl
        clear HC;have L:=O (Ka (tb:=tb) (l:=l) (st:=c) ⟨7,(Qk l c).2.2.2⟩ (w:=wr.drew) (bb.o.block rfl) D (Yh 6));rw[ap.o]at L;go_wp2_with fail;go_region_with (first|(go_at_call 70;refine L.o.mono ?_;rintro e w1 P;obtain⟨rfl,q,C⟩:=P;have i:=O q;have Y:=O C;clear q C;skip))
        all_goals go_wp2
        all_goals go_end0
        all_goals exact AC ab.o bd.o ⟨i.o.os,i.o.tape,i.o.output,i.o.size,i.o.block⟩ Y.o bc.o p
       |false=>
        have aF:=O (HC.o.2 rfl);clear HC;go_wp2_with fail;refine(X0 (tb:=tb) (l:=l) (st:=c) bb.o D).mono ?_;rintro e w2 ⟨rfl,B,M⟩;have T:=O (bd.o.trans B);have X:=O (QY bc.o B p);have aT:=O M;clear B M;go_wp2_with fail;refine(G0 (t:=rb) (tb:=tb) (F:=nv) (l:=l) 2 (st:=nextS l c) (HR.o.mod T.o Q) Q aT.o D (by decide)).mono ?_;rintro e w3 aL;obtain⟨ag,au,v,rfl,⟨x,rfl,a9⟩,av⟩:=aL.st;have ac:=QY X.o ag p;have d5:=Qj ac 5;have aY:=fun o=>QQ ac o
        have e5:((sA x).toList==[105,59,111,99,116,101,116])=decide (x=XR):=by rw[XL];show(x==XR)=_;rw[Xb];simp
        obtain⟨b5,aE⟩:=Qw (decide (x=XR));rw[aE]at e5
        have ax:Hid (YD (w3.setCell ⟨gb,5,none⟩ (.bool b5)) gb d n b5/\Mod tb u (w3.setCell ⟨gb,5,none⟩ (.bool b5))/\TSt (w3.setCell ⟨gb,5,none⟩ (.bool b5)) tb l (stOf (bindS (nextS l c) (sL l (QV 2))))/\UT R l (stOf (bindS (nextS l c) (sL l (QV 2)))) n b5 true):=by
         refine⟨QM ac,(T.o.trans ag).setNew hg _ _,au.block (Q' (Ne.symm p)),?_⟩;rw[<-aE];exact aF.o.2 x (fun z hz=>(Gb (av z hz)).symm)
        clear aL ag au av ac aE;go_wp2;go_roundg (muS l (stOf (bindS (nextS l c) (sL l (QV 2)))))
        case measure=>exact aF.o.1
        case rel=>exact⟨_,n,b5,true,rfl,rfl,ax.o.2.1,ax.o.1,ax.o.2.2.1,ax.o.2.2.2⟩
      .rw[QB x4]at e4;by_cases aa:wL [qIs,YI,YH] (Qk l c).2.1=0
       .have ab:=O (Qvb (F:=F) (k:=k) (pos:=pos) (chk:=QV what) bg.o bb.o HK.o aa x4);have aN:∀z∈[qIs,YI,YH],¬(Qk l c).2.1=z:=fun z hz e=>by have:=(Jn (Qk l c).2.1 [qIs,YI,YH]).2 (by rw[e];exact hz);omega
        rw[QB (aN _ (by simp))]at G N e3;clear aN aa x4;have L:=O (Ka (tb:=tb) (l:=l) (st:=c) ⟨4,(Qk l c).2.2.2⟩ (w:=wr.drew) (bb.o.block rfl) D (Yh 3));rw[ap.o]at L;go_wp2_with fail;go_region_with (first|(go_at_call 70;refine L.o.mono ?_;rintro e w1 P;obtain⟨rfl,q,C⟩:=P;have i:=O q;have Y:=O C;clear q C;skip))
        all_goals go_wp2
        all_goals go_end0
        all_goals exact AC ab.o bd.o ⟨i.o.os,i.o.tape,i.o.output,i.o.size,i.o.block⟩ Y.o bc.o p
       .have K:=O (P7 (w1:=wr) bg.o bb.o HK.o aa);have a2:(Qk l c).2.1=qIs\/(Qk l c).2.1=YI\/(Qk l c).2.1=YH:=by have:=(Jn (Qk l c).2.1 [qIs,YI,YH]).1 (by omega);simpa using this
        clear aa x4;rcases a2 with hx|hx|hx
        .have V:wL [qIs,YI,YH] (Qk l c).2.1=1:=by rw[hx];decide
         rw[V]at K;rw[QU hx]at G;rw[QB (by rw[hx];decide)]at N;rw[QB (by rw[hx];decide)]at e3;clear V hx;by_cases E:n=0
         .subst E;have ad:=O (K.o.2 rfl);clear K;have ar:=O (X0 (tb:=tb) (l:=l) (st:=c) (w:=wr.setCell ⟨gb,4,none⟩ (.int .i64 1)) (bb.o.block (Q' (Ne.symm p))) D);have aq:Hid (YD (wr.setCell ⟨gb,4,none⟩ (.int .i64 1)) gb d 1 J):=QM bc.o;go_wp2_with fail;refine ar.o.mono ?_;rintro e w2 ⟨rfl,B,M⟩;have T:=O ((bd.o.setNew hg _ _).trans B);have X:=O (QY aq.o B p);have aT:=O M;clear B M;go_wp2;go_roundg (muS l (nextS l c))
          case measure=>exact ad.o.1
          case rel=>exact⟨_,1,J,ai,rfl,rfl,T.o,X.o,aT.o,ad.o.2⟩
         .have aP:((n:Int) != 0)=true:=by simp;omega
          have ab:Hid (matchM l F (QV what) k pos R=.error ⟨7,(Qk l c).2.2.2⟩):=by show _=_;rw[K.o.1 E];rfl
          clear K E;have L:=O (Ka (tb:=tb) (l:=l) (st:=c) ⟨7,(Qk l c).2.2.2⟩ (w:=wr.drew) (bb.o.block rfl) D (Yh 6));rw[ap.o]at L;go_wp2_with fail;go_region_with (first|(go_at_call 70;refine L.o.mono ?_;rintro e w1 P;obtain⟨rfl,q,C⟩:=P;have i:=O q;have Y:=O C;clear q C;skip))
          all_goals go_wp2
          all_goals go_end0
          all_goals exact AC ab.o bd.o ⟨i.o.os,i.o.tape,i.o.output,i.o.size,i.o.block⟩ Y.o bc.o p
        .have V:wL [qIs,YI,YH] (Qk l c).2.1=2:=by rw[hx];decide
         rw[V]at K;rw[QB (by rw[hx];decide)]at G;rw[QU hx]at N;rw[QB (by rw[hx];decide)]at e3;clear V hx;by_cases E:n=0
         .subst E;have ad:=O (K.o.2 rfl);clear K;have ar:=O (X0 (tb:=tb) (l:=l) (st:=c) (w:=wr.setCell ⟨gb,4,none⟩ (.int .i64 2)) (bb.o.block (Q' (Ne.symm p))) D);have aq:Hid (YD (wr.setCell ⟨gb,4,none⟩ (.int .i64 2)) gb d 2 J):=QM bc.o;go_wp2_with fail;refine ar.o.mono ?_;rintro e w2 ⟨rfl,B,M⟩;have T:=O ((bd.o.setNew hg _ _).trans B);have X:=O (QY aq.o B p);have aT:=O M;clear B M;go_wp2;go_roundg (muS l (nextS l c))
          case measure=>exact ad.o.1
          case rel=>exact⟨_,2,J,ai,rfl,rfl,T.o,X.o,aT.o,ad.o.2⟩
         .have aP:((n:Int) != 0)=true:=by simp;omega
          have ab:Hid (matchM l F (QV what) k pos R=.error ⟨7,(Qk l c).2.2.2⟩):=by show _=_;rw[K.o.1 E];rfl
          clear K E;have L:=O (Ka (tb:=tb) (l:=l) (st:=c) ⟨7,(Qk l c).2.2.2⟩ (w:=wr.drew) (bb.o.block rfl) D (Yh 6));rw[ap.o]at L;go_wp2_with fail;go_region_with (first|(go_at_call 70;refine L.o.mono ?_;rintro e w1 P;obtain⟨rfl,q,C⟩:=P;have i:=O q;have Y:=O C;clear q C;skip))
          all_goals go_wp2
          all_goals go_end0
          all_goals exact AC ab.o bd.o ⟨i.o.os,i.o.tape,i.o.output,i.o.size,i.o.block⟩ Y.o bc.o p
        .have V:wL [qIs,YI,YH] (Qk l c).2.1=3:=by rw[hx];decide
         rw[V]at K;rw[QB (by rw[hx];decide)]at G;rw[QB (by rw[hx];decide)]at N;rw[QU hx]at e3;clear V hx;by_cases E:n=0
         .subst E;have ad:=O (K.o.2 rfl);clear K;have ar:=O (X0 (tb:=tb) (l:=l) (st:=c) (w:=wr.setCell ⟨gb,4,none⟩ (.int .i64 3)) (bb.o.block (Q' (Ne.symm p))) D);have aq:Hid (YD (wr.setCell ⟨gb,4,none⟩ (.int .i64 3)) gb d 3 J):=QM bc.o;go_wp2_with fail;refine ar.o.mono ?_;rintro e w2 ⟨rfl,B,M⟩;have T:=O ((bd.o.setNew hg _ _).trans B);have X:=O (QY aq.o B p);have aT:=O M;clear B M;go_wp2;go_roundg (muS l (nextS l c))
          case measure=>exact ad.o.1
          case rel=>exact⟨_,3,J,ai,rfl,rfl,T.o,X.o,aT.o,ad.o.2⟩
         .have aP:((n:Int) != 0)=true:=by simp;omega
          have ab:Hid (matchM l F (QV what) k pos R=.error ⟨7,(Qk l c).2.2.2⟩):=by show _=_;rw[K.o.1 E];rfl
          clear K E;have L:=O (Ka (tb:=tb) (l:=l) (st:=c) ⟨7,(Qk l c).2.2.2⟩ (w:=wr.drew) (bb.o.block rfl) D (Yh 6));rw[ap.o]at L;go_wp2_with fail;go_region_with (first|(go_at_call 70;refine L.o.mono ?_;rintro e w1 P;obtain⟨rfl,q,C⟩:=P;have i:=O q;have Y:=O C;clear q C;skip))
          all_goals go_wp2
          all_goals go_end0
          all_goals exact AC ab.o bd.o ⟨i.o.os,i.o.tape,i.o.output,i.o.size,i.o.block⟩ Y.o bc.o p
   case rest=>
    clear aG aH aA i Y az HO aO;obtain⟨ak,n,J,A,r,j,h3,hR⟩:=hcut
    have a1:(((n:Int)==0)=true/\max n 1=1)\/(((n:Int)==0)=false/\max n 1=n):=by
     rcases Nat.eq_zero_or_pos n with h0|h0
     .left;subst h0;exact⟨rfl,rfl⟩
     .right;exact⟨by simp;omega,by omega⟩
    have a3:(b1=true/\what=3)\/(b1=false/\what=0):=by
     cases b1 with
     |true=>left;exact⟨rfl,by rw[HW.o,Qi (K5 bf.o)]⟩
     |false=>right;exact⟨rfl,by rw[HW.o,Qg (of_decide_eq_false bf.o)]⟩
    have aD:=O (Qv5 (l:=l) (F:=F) (k:=k) (pos:=pos) (what:=what) hR);have bi:=O A;have bc:=O r;have bj:=O j;have c0:=Qj r 0;have c4:=Qj r 4;have aX:=fun o=>QQ r o
    clear A r j hR HW bf bh h2;have aB:Hid (YD (wc.setCell ⟨gb,4,none⟩ (.int .i64 1)) gb d 1 J/\TSt (wc.setCell ⟨gb,4,none⟩ (.int .i64 1)) tb l ak/\Mod tb u (wc.setCell ⟨gb,4,none⟩ (.int .i64 1))):=⟨QM bc.o,bj.o.block (Q' (Ne.symm p)),bi.o.setNew hg _ _⟩;have aC:Hid (YD wc gb d n J/\TSt wc tb l ak/\Mod tb u wc):=⟨bc.o,bj.o,bi.o⟩;rcases a1 with⟨hb,hx⟩ | ⟨hb,hx⟩
    all_goals rw[hx]at aD
    all_goals rcases a3 with⟨rfl,rfl⟩ | ⟨rfl,rfl⟩
    all_goals go_wp2_with fail
    all_goals
     first|(have W:=aB;clear aB aC;refine(Ak (J:=rb) (tb:=tb) (Y:=nv) (l:=l) _ (F:=F) (st:=ak) (HR.o.mod W.o.2.2 Q) Q W.o.2.1 D (by decide) hF).mono ?_)|(have W:=aC;clear aB aC;refine(Ak (J:=rb) (tb:=tb) (Y:=nv) (l:=l) _ (F:=F) (st:=ak) (HR.o.mod W.o.2.2 Q) Q W.o.2.1 D (by decide) hF).mono ?_)
     rintro e w2 h2;obtain⟨B,M,v,rfl,⟨xs,V⟩,aQ⟩:=h2.st;obtain⟨g2,n2,k2,rfl⟩:=V.form;have aM:=QI W.o.1;have ay:=QY W.o.1 B p;have T:=O (W.o.2.2.trans B);have X:=O (QM (o:=2) (v:=.slice (some ⟨g2,0,none⟩) n2 k2) ay);have aT:=O (TSt.block (w':=w2.setCell ⟨gb,2,none⟩ (.slice (some ⟨g2,0,none⟩) n2 k2)) M (Q' (Ne.symm p)));have bk:=O aQ;have a5:=fun o=>QQ ay o
     have d2:=Qj ay 2;clear h2 B M aQ V ay;go_wp2_with fail;refine(Ak (J:=rb) (tb:=tb) (Y:=nv) (l:=l) 0 (F:=F) (HR.o.mod (T.o.setNew hg 2 (.slice (some ⟨g2,0,none⟩) n2 k2)) Q) Q aT.o D (by decide) hF).mono ?_;rintro e w3 h3;obtain⟨ag,au,v3,rfl,⟨ba,av⟩,aR⟩:=h3.st;obtain⟨g3,n3,k3,rfl⟩:=av.form;have ac:=QY X.o ag p;have aS:=O ((T.o.setNew hg 2 (.slice (some ⟨g2,0,none⟩) n2 k2)).trans ag);have aI:=O (QM (o:=3) (v:=.slice (some ⟨g3,0,none⟩) n3 k3) ac);have aU:=O (TSt.block (w':=w3.setCell ⟨gb,3,none⟩ (.slice (some ⟨g3,0,none⟩) n3 k3)) au (Q' (Ne.symm p)));have bl:=O aR;have a7:gb<w2.heap.size:=by have:=QI X.o;rw[Vo]at this;exact this
     have HK:=O ag;have aY:=fun o=>QQ ac o
     have d3:=Qj ac 3;clear h3 ag au aR av ac;go_wp2;go_end0;refine⟨rfl,aS.o.setNew hg _ _,by rw[aD.o.1];exact aU.o,⟨_,aI.o⟩,fun y hy=>?_⟩;obtain⟨a,b,ha,hb,a4⟩:=aD.o.2 y hy;rw[a4];refine⟨_,_,aI.o,?_,?_⟩
     .exact((((bk.o a ha).keep (Abv.set aM _ _)).keep (HK.o.abv (by have:=W.o.2.2.size;omega))).keep (Abv.set aM _ _)).toX.weak (fun k U _=>QE W.o.2.2.size U)
     .exact((bl.o b hb).keep (Abv.set (by rw[Vo];omega) _ _)).toX.weak (fun k U _=>by have aZ:_<=k:=U;rw[Vo]at aZ;show u.heap.size<=k;omega)
end Go.Proofs.YtgnkjijocdmniaaGreatDoor
