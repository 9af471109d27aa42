import Derived.Test.YtgnkjijocdmniaaGreatDoorZQMatch
namespace Go.Proofs.YtgnkjijocdmniaaGreatDoor
set_option linter.unusedVariables false
set_option linter.unusedSimpArgs false
set_option maxRecDepth 100000
set_option maxHeartbeats 4000000
open Go.Proofs.Tryz
open Go.RowKit
attribute [local go_sem ↓] Go.wp_at_zero Go.wp_at_succ
def Xw(w:World)(gb:Nat)(nm:L8)(tag:Nat)(oct:Bool):Prop:=w.heap[gb]?=some (.cells #[.string (sA nm),.slice none 0 0,.slice none 0 0,.slice none 0 0,.int .i64 tag,.bool oct,.int .i64 0] 200)
def preS(l:L8)(rq:Qa)(nm:L8)(st:Qb PS):Qb PS:=
 if nm=QX then Xx l rq QX st else if nm=Z4 then Xx l rq Xc st else st
structure E4 (M:Qb (ZV×PS)) (u:World) (tb gb:Nat) (l nm:L8) (e:Ending) (w':World):Prop where
 e:e=.returned (.tuple #[])
 m:Mod tb u w'
 t:TSt w' tb l (stOf M)
 any:∃ cs,w'.heap[gb]?=some (.cells cs 200)
 ok:∀ y,M=.ok y->∃ fv kv,w'.heap[gb]?=some (.cells #[.string (sA nm),.slice none 0 0,fv,kv,.int .i64 y.1.tag,.bool y.1.octet,.int .i64 0] 200)∧slX (fromB u.heap.size) y.1.fr w' fv∧slX (fromB u.heap.size) y.1.keys w' kv
theorem VR{M:Qb (ZV×PS)}{u w w':World}{tb gb:Nat}{l b:L8}{f:Flt}{tag:Nat}{oct:Bool}(d:M=.error f)(c:Mod tb u w)(a:Mod tb w w')(j:TSt w' tb l (.error f))(i:Xw w gb b tag oct)(g:gb≠tb):E4 M u tb gb l b (.returned (.tuple #[])) w':=by
 subst d;exact⟨rfl,c.trans a,j,⟨_,QA i a g⟩,fun y e=>by cases e⟩
theorem NE(u:World)(rb tb gb:Nat)(nv:Value)(rq:Qa)(l i:L8)(k pos F what:Nat)(st:Qb PS)(w:World)(hr:RdQ u rb tb nv)(S:rb≠tb)(hm:Mod tb u w)(hg:u.heap.size<=gb)(aI:Xw w gb i 0 false)(hq:TxL w nv rq)(hz:rq.length<=140737488355328)(h:TSt w tb l st)(bi:tb<u.heap.size)(C:l.length<=600)(hF:2*l.length+2<=F)(aW:what=if i=QX then 3 else 0) :
 Calls prog 254 #[.pointer (some ⟨rb,0,none⟩),.pointer (some ⟨gb,0,none⟩)] w (E4 (matchM l F (Qz what) k pos (bindS (nextS l (preS l rq i st)) (Zi l F 0 false false))) u tb gb l i):=by
 have Q:((sA i).toList==[101,110,118,101,108,111,112,101])=decide (i=QX):=by rw[ByteArray.toList_eq];show(i==QX)=_;rw[Zo];simp
 have h2:((sA i).toList==[115,116,114,105,110,103])=decide (i=Z4):=by rw[ByteArray.toList_eq];show(i==Z4)=_;rw[Zo];simp
 go_enter func254,ntmps254;have c0:=Qk aI;obtain⟨b1,aF⟩:=Qe (decide (i=QX));obtain⟨b2,aG⟩:=Qe (decide (i=Z4));rw[aF]at Q;rw[aG]at h2;have ah:=I aF;have ax:=I aG;have H:=I h;have HN:=I aI;have HQ:=I hq;have HM:=I hm;have HR:=I hr;clear aF aG h aI hq hm hr;have HW:=I aW;clear aW;have bf:=Qg HN.o;have bh:=Qg HR.o;have bd:gb≠rb:=by omega
 have q:gb≠tb:=by omega
 go_upto_if 12 with fail
 go_cut [] (fun T=>Mod tb u T/\Xw T gb i 0 false/\TSt T tb l (if i=QX then Xx l rq QX st else st)/\(¬ i=QX->T=w))
 case first=>
  cases b1 with
  |true=>
   have G:i=QX:=of_decide_eq_true ah.o;have HU:=I (GQ rb tb nv rq l QX st w (HR.o.mod HM.o S) HQ.o hz H.o C);have HX:Hid ((if i=QX then Xx l rq QX st else st)=Xx l rq QX st):=if_pos G;have HE:=I G;clear G;go_wp2_with fail;refine HU.o.mono ?_;rintro e w1 ⟨rfl,n,p⟩;have d:=I n;have A:=I p;clear n p;go_wp2;go_meet;exact⟨HM.o.trans d.o,QA HN.o d.o q,by rw[HX.o];exact A.o,fun h=>absurd HE.o h⟩
  |false=>
   have G:¬ i=QX:=of_decide_eq_false ah.o;have HX:Hid ((if i=QX then Xx l rq QX st else st)=st):=if_neg G;clear G;go_wp2;go_meet;exact⟨HM.o,HN.o,by rw[HX.o];exact H.o,fun _=>rfl⟩
 case rest=>
  obtain⟨ak,ao,D,Z⟩:=hcut;have ai:=I ak;have aj:=I ao;have aM:=I D;have aO:=I Z;have a1:=Qk ao;clear ak ao D Z c0;go_upto_if 19 with fail
  go_cut [] (fun T=>Mod tb u T/\Xw T gb i 0 false/\TSt T tb l (preS l rq i st))
  case first=>
   cases b2 with
   |true=>
    have P:i=Z4:=of_decide_eq_true ax.o;have G:¬ i=QX:=by rw[P];decide
    obtain rfl:=aO.o G;have HU:=I (GQ rb tb nv rq l Xc st wc (HR.o.mod HM.o S) HQ.o hz H.o C);have HX:Hid (preS l rq i st=Xx l rq Xc st):=by show _=_;unfold preS;rw[if_neg G,if_pos P]
    clear G P;go_wp2_with fail;refine HU.o.mono ?_;rintro e w1 ⟨rfl,n,p⟩;have d:=I n;have A:=I p;clear n p;go_wp2;go_meet;exact⟨HM.o.trans d.o,QA HN.o d.o q,by rw[HX.o];exact A.o⟩
   |false=>
    have P:¬ i=Z4:=of_decide_eq_false ax.o;have HX:Hid (preS l rq i st=if i=QX then Xx l rq QX st else st):=by show _=_;unfold preS;rw[if_neg P]
    clear P;go_wp2;go_meet;exact⟨ai.o,aj.o,by rw[HX.o];exact aM.o⟩
  case rest=>
   clear ai aj aM aO a1 HN HM H HQ;obtain⟨ak,ao,D⟩:=hcut;have ai:=I ak;have aj:=I ao;have aB:=I (Z2 tb l (preS l rq i st) _ D C);have aS:=Qi (HR.o.mod ak S) 0;clear ak ao D;generalize preS l rq i st=st0 at *;go_upto_block 0 with(go_at_call 66;refine aB.o.mono ?_;rintro e w1 ⟨rfl,n,p⟩;have d:=I (ai.o.trans n);have A:=I p;have aA:=I (QA aj.o n q);clear n p)
   have HO:Hid (Jy (bindS (nextS l st0) (Zi l F 0 false false)) l (nextS l st0) 0 false false):=⟨⟨F,fun s hs=>by have ht:=A.o;rw[hs]at ht;have:=UB ht C;omega,rfl⟩,by omega⟩;generalize bindS (nextS l st0) (Zi l F 0 false false)=R at *;go_cut [] (fun T=>∃(ag:Qb PS) (j:Nat) (B:Bool),Mod tb u T/\Xw T gb i j B/\TSt T tb l ag/\j<=3/\R=bindS ag fun s=>.ok ((max j 1,B),s))
   case first=>
    go_wp2_with fail
    go_loopg [4,5,6] (muS l (nextS l st0)) (fun m cv _ _ wr=>∃(c:Qb PS) (j:Nat) (B af:Bool),m=muS l c/\cv=.bool af/\Mod tb u wr/\Xw wr gb i j B/\TSt wr tb l c/\Jy R l c j B af)
    case atStart=>exact⟨_,0,false,false,rfl,rfl,d.o,aA.o,A.o,HO.o⟩
    case round=>
     clear ai aj aB d A aA HO aS;obtain⟨c,j,B,af,rfl,rfl,hm,U,ht,ho⟩:=hrel;have X:=I hm;have M:=I U;have E:=I ht;have au:=I ho;obtain⟨c2,c4,c5,_,c7⟩:=ht.cells;have r0:=Qk (w:=wr) (HR.o.mod hm S);have g4:=QV U;have g5:=Q9 U;have a3:=fun o=>Qu U o
     have h3:=ho.t;clear hm U ht ho Q h2 ah ax HW;by_cases hk:(O l c).1=58;rotate_left
     ·have a6:(((O l c).1:Int)==58)=false:=by simp;omega
      have HE:=I (Te au.o E.o hk);clear hk;cases a2:((errS c:Int)==0)
      all_goals go_wp2
      all_goals go_meet
      all_goals exact⟨c,j,B,X.o,M.o,E.o,h3,HE.o⟩
     ·have a6:(((O l c).1:Int)==58)=true:=by simp;omega
      have he:errS c=0:=by obtain⟨s,f,hs,he,_⟩:=Nh au.o E.o hk;exact he
      have ap:Hid (∀ g,failS c g=.error g):=by
       obtain⟨s,hs⟩:=E.o.err0.1 he;intro g;rw[hs];rfl
      have a2:((errS c:Int)==0)=true:=by simp;omega
      clear he;have HK:=I hk;clear hk;have G:((sA (O l c).2.1).toList==[105,115])=decide ((O l c).2.1=qIs):=by rw[ByteArray.toList_eq];show((O l c).2.1==qIs)=_;rw[Zo];simp
      have P:((sA (O l c).2.1).toList==[99,111,110,116,97,105,110,115])=decide ((O l c).2.1=XA):=by rw[ByteArray.toList_eq];show((O l c).2.1==XA)=_;rw[Zo];simp
      have e3:((sA (O l c).2.1).toList==[109,97,116,99,104,101,115])=decide ((O l c).2.1=XC):=by rw[ByteArray.toList_eq];show((O l c).2.1==XC)=_;rw[Zo];simp
      have e4:((sA (O l c).2.1).toList==[99,111,109,112,97,114,97,116,111,114])=decide ((O l c).2.1=KU):=by rw[ByteArray.toList_eq];show((O l c).2.1==KU)=_;rw[Zo];simp
      by_cases x4:(O l c).2.1=KU
      ·have bb:=I x4;have Z:wL [qIs,XA,XC] (O l c).2.1=0:=by rw[x4];decide
       have HC:=I (T4 au.o E.o HK.o Z x4);rw[Qw x4]at e4;rw[Qh (by rw[x4];decide)]at G P e3;clear x4 Z
       cases af with
       |true=>
        have aa:Hid (matchM l F (Qz what) k pos R=.error ⟨7,(O l c).2.2.2⟩):=by show _=_;rw[HC.o.1 rfl];rfl
        clear HC;have K:=I (Yu tb l c ⟨7,(O l c).2.2.2⟩ wr.drew (E.o.block rfl) C (Nat.succ_ne_zero 6));rw[ap.o]at K;go_wp2_with fail;go_region_with (first|(go_at_call 70;refine K.o.mono ?_;rintro e w1 Q;obtain⟨rfl,n,p⟩:=Q;have d:=I n;have A:=I p;clear n p;skip))
        all_goals go_wp2
        all_goals go_end0
        all_goals exact VR aa.o X.o ⟨d.o.os,d.o.tape,d.o.output,d.o.size,d.o.block⟩ A.o M.o q
       |false=>
        have aJ:=I (HC.o.2 rfl);clear HC;go_wp2_with fail;refine(Z2 tb l c _ E.o C).mono ?_;rintro e w2 ⟨rfl,r,L⟩;have N:=I (X.o.trans r);have Y:=I (QA M.o r q);have ab:=I L;clear r L;go_wp2_with fail;refine(UA rb tb nv l 2 (nextS l c) _ (HR.o.mod N.o S) S ab.o C (by decide)).mono ?_;rintro e w3 aP;obtain⟨ac,av,v,rfl,⟨x,rfl,bj⟩,aw⟩:=aP.st;have ad:=QA Y.o ac q;have d5:=Q9 ad;have a4:=fun o=>Qu ad o
        have e5:((sA x).toList==[105,59,111,99,116,101,116])=decide (x=Xd):=by rw[ByteArray.toList_eq];show(x==Xd)=_;rw[Zo];simp
        obtain⟨b5,aH⟩:=Qe (decide (x=Xd));rw[aH]at e5
        have ay:Hid (Xw (w3.setCell ⟨gb,5,none⟩ (.bool b5)) gb i j b5/\Mod tb u (w3.setCell ⟨gb,5,none⟩ (.bool b5))/\TSt (w3.setCell ⟨gb,5,none⟩ (.bool b5)) tb l (stOf (bindS (nextS l c) (sL l (Qz 2))))/\Jy R l (stOf (bindS (nextS l c) (sL l (Qz 2)))) j b5 true):=by
         refine⟨Qt _ _ _ _ _ _ ad,(N.o.trans ac).setNew hg _ _,av.block (QK (Ne.symm q)),?_⟩;rw[<-aH];exact aJ.o.2 x (fun z hz=>(K3 (aw z hz)).symm)
        clear aP ac av aw ad aH;go_wp2;go_roundg (muS l (stOf (bindS (nextS l c) (sL l (Qz 2)))))
        case measure=>exact aJ.o.1
        case rel=>exact⟨_,j,b5,true,rfl,rfl,ay.o.2.1,ay.o.1,ay.o.2.2.1,ay.o.2.2.2⟩
      ·rw[Qh x4]at e4;by_cases Z:wL [qIs,XA,XC] (O l c).2.1=0
       ·have aa:=I (Pr (F:=F) (k:=k) (pos:=pos) (chk:=Qz what) au.o E.o HK.o Z x4);have aR:∀ z∈[qIs,XA,XC],¬(O l c).2.1=z:=fun z hz e=>by have:=(X1 (O l c).2.1 [qIs,XA,XC]).2 (by rw[e];exact hz);omega
        rw[Qh (aR _ (by simp))]at G P e3;clear aR Z x4;have K:=I (Yu tb l c ⟨4,(O l c).2.2.2⟩ wr.drew (E.o.block rfl) C (Nat.succ_ne_zero 3));rw[ap.o]at K;go_wp2_with fail;go_region_with (first|(go_at_call 70;refine K.o.mono ?_;rintro e w1 Q;obtain⟨rfl,n,p⟩:=Q;have d:=I n;have A:=I p;clear n p;skip))
        all_goals go_wp2
        all_goals go_end0
        all_goals exact VR aa.o X.o ⟨d.o.os,d.o.tape,d.o.output,d.o.size,d.o.block⟩ A.o M.o q
       ·have J:=I (TD (w1:=wr) au.o E.o HK.o Z);have a8:(O l c).2.1=qIs\/(O l c).2.1=XA\/(O l c).2.1=XC:=by have:=(X1 (O l c).2.1 [qIs,XA,XC]).1 (by omega);simpa using this
        clear Z x4;rcases a8 with hx|hx|hx
        ·have V:wL [qIs,XA,XC] (O l c).2.1=1:=by rw[hx];decide
         rw[V]at J;rw[Qw hx]at G;rw[Qh (by rw[hx];decide)]at P;rw[Qh (by rw[hx];decide)]at e3;clear V hx;by_cases D:j=0
         ·subst D;have ae:=I (J.o.2 rfl);clear J;have ar:=I (Z2 tb l c (wr.setCell ⟨gb,4,none⟩ (.int .i64 1)) (E.o.block (QK (Ne.symm q))) C);have aq:Hid (Xw (wr.setCell ⟨gb,4,none⟩ (.int .i64 1)) gb i 1 B):=Qt _ _ _ _ _ _ M.o;go_wp2_with fail;refine ar.o.mono ?_;rintro e w2 ⟨rfl,r,L⟩;have N:=I ((X.o.setNew hg _ _).trans r);have Y:=I (QA aq.o r q);have ab:=I L;clear r L;go_wp2;go_roundg (muS l (nextS l c))
          case measure=>exact ae.o.1
          case rel=>exact⟨_,1,B,af,rfl,rfl,N.o,Y.o,ab.o,ae.o.2⟩
         ·have aT:((j:Int) != 0)=true:=by simp;omega
          have aa:Hid (matchM l F (Qz what) k pos R=.error ⟨7,(O l c).2.2.2⟩):=by show _=_;rw[J.o.1 D];rfl
          clear J D;have K:=I (Yu tb l c ⟨7,(O l c).2.2.2⟩ wr.drew (E.o.block rfl) C (Nat.succ_ne_zero 6));rw[ap.o]at K;go_wp2_with fail;go_region_with (first|(go_at_call 70;refine K.o.mono ?_;rintro e w1 Q;obtain⟨rfl,n,p⟩:=Q;have d:=I n;have A:=I p;clear n p;skip))
          all_goals go_wp2
          all_goals go_end0
          all_goals exact VR aa.o X.o ⟨d.o.os,d.o.tape,d.o.output,d.o.size,d.o.block⟩ A.o M.o q
        ·have V:wL [qIs,XA,XC] (O l c).2.1=2:=by rw[hx];decide
         rw[V]at J;rw[Qh (by rw[hx];decide)]at G;rw[Qw hx]at P;rw[Qh (by rw[hx];decide)]at e3;clear V hx;by_cases D:j=0
         ·subst D;have ae:=I (J.o.2 rfl);clear J;have ar:=I (Z2 tb l c (wr.setCell ⟨gb,4,none⟩ (.int .i64 2)) (E.o.block (QK (Ne.symm q))) C);have aq:Hid (Xw (wr.setCell ⟨gb,4,none⟩ (.int .i64 2)) gb i 2 B):=Qt _ _ _ _ _ _ M.o;go_wp2_with fail;refine ar.o.mono ?_;rintro e w2 ⟨rfl,r,L⟩;have N:=I ((X.o.setNew hg _ _).trans r);have Y:=I (QA aq.o r q);have ab:=I L;clear r L;go_wp2;go_roundg (muS l (nextS l c))
          case measure=>exact ae.o.1
          case rel=>exact⟨_,2,B,af,rfl,rfl,N.o,Y.o,ab.o,ae.o.2⟩
         ·have aT:((j:Int) != 0)=true:=by simp;omega
          have aa:Hid (matchM l F (Qz what) k pos R=.error ⟨7,(O l c).2.2.2⟩):=by show _=_;rw[J.o.1 D];rfl
          clear J D;have K:=I (Yu tb l c ⟨7,(O l c).2.2.2⟩ wr.drew (E.o.block rfl) C (Nat.succ_ne_zero 6));rw[ap.o]at K;go_wp2_with fail;go_region_with (first|(go_at_call 70;refine K.o.mono ?_;rintro e w1 Q;obtain⟨rfl,n,p⟩:=Q;have d:=I n;have A:=I p;clear n p;skip))
          all_goals go_wp2
          all_goals go_end0
          all_goals exact VR aa.o X.o ⟨d.o.os,d.o.tape,d.o.output,d.o.size,d.o.block⟩ A.o M.o q
        ·have V:wL [qIs,XA,XC] (O l c).2.1=3:=by rw[hx];decide
         rw[V]at J;rw[Qh (by rw[hx];decide)]at G;rw[Qh (by rw[hx];decide)]at P;rw[Qw hx]at e3;clear V hx;by_cases D:j=0
         ·subst D;have ae:=I (J.o.2 rfl);clear J;have ar:=I (Z2 tb l c (wr.setCell ⟨gb,4,none⟩ (.int .i64 3)) (E.o.block (QK (Ne.symm q))) C);have aq:Hid (Xw (wr.setCell ⟨gb,4,none⟩ (.int .i64 3)) gb i 3 B):=Qt _ _ _ _ _ _ M.o;go_wp2_with fail;refine ar.o.mono ?_;rintro e w2 ⟨rfl,r,L⟩;have N:=I ((X.o.setNew hg _ _).trans r);have Y:=I (QA aq.o r q);have ab:=I L;clear r L;go_wp2;go_roundg (muS l (nextS l c))
          case measure=>exact ae.o.1
          case rel=>exact⟨_,3,B,af,rfl,rfl,N.o,Y.o,ab.o,ae.o.2⟩
         ·have aT:((j:Int) != 0)=true:=by simp;omega
          have aa:Hid (matchM l F (Qz what) k pos R=.error ⟨7,(O l c).2.2.2⟩):=by show _=_;rw[J.o.1 D];rfl
          clear J D;have K:=I (Yu tb l c ⟨7,(O l c).2.2.2⟩ wr.drew (E.o.block rfl) C (Nat.succ_ne_zero 6));rw[ap.o]at K;go_wp2_with fail;go_region_with (first|(go_at_call 70;refine K.o.mono ?_;rintro e w1 Q;obtain⟨rfl,n,p⟩:=Q;have d:=I n;have A:=I p;clear n p;skip))
          all_goals go_wp2
          all_goals go_end0
          all_goals exact VR aa.o X.o ⟨d.o.os,d.o.tape,d.o.output,d.o.size,d.o.block⟩ A.o M.o q
   case rest=>
    clear ai aj aB d A aA HO aS;obtain⟨ag,j,B,hm,U,ht,h3,hR⟩:=hcut
    have a7:(((j:Int)==0)=true/\max j 1=1)\/(((j:Int)==0)=false/\max j 1=j):=by
     rcases Nat.eq_zero_or_pos j with h0|h0
     ·left;subst h0;exact⟨rfl,rfl⟩
     ·right;exact⟨by simp;omega,by omega⟩
    have a9:(b1=true/\what=3)\/(b1=false/\what=0):=by
     cases b1 with
     |true=>left;exact⟨rfl,by rw[HW.o,if_pos (of_decide_eq_true ah.o)]⟩
     |false=>right;exact⟨rfl,by rw[HW.o,if_neg (of_decide_eq_false ah.o)]⟩
    have aE:=I (Pc (l:=l) (F:=F) (k:=k) (pos:=pos) (what:=what) hR);have aK:=I hm;have M:=I U;have aN:=I ht;have c0:=Qi U 0;have c4:=Qi U 4;have a3:=fun o=>Qu U o
    clear hm U ht hR HW ah ax h2;have aC:Hid (Xw (wc.setCell ⟨gb,4,none⟩ (.int .i64 1)) gb i 1 B/\TSt (wc.setCell ⟨gb,4,none⟩ (.int .i64 1)) tb l ag/\Mod tb u (wc.setCell ⟨gb,4,none⟩ (.int .i64 1))):=⟨Qt _ _ _ _ _ _ M.o,aN.o.block (QK (Ne.symm q)),aK.o.setNew hg _ _⟩;have aD:Hid (Xw wc gb i j B/\TSt wc tb l ag/\Mod tb u wc):=⟨M.o,aN.o,aK.o⟩;rcases a7 with⟨hb,hx⟩ | ⟨hb,hx⟩
    all_goals rw[hx]at aE
    all_goals rcases a9 with⟨rfl,rfl⟩ | ⟨rfl,rfl⟩
    all_goals go_wp2_with fail
    all_goals
     first|(have W:=aC;clear aC aD;refine(VG rb tb nv l _ F ag _ (HR.o.mod W.o.2.2 S) S W.o.2.1 C (by decide) hF).mono ?_)|(have W:=aD;clear aC aD;refine(VG rb tb nv l _ F ag _ (HR.o.mod W.o.2.2 S) S W.o.2.1 C (by decide) hF).mono ?_)
     rintro e w2 h2;obtain⟨r,L,v,rfl,⟨xs,V⟩,aU⟩:=h2.st;obtain⟨g2,n2,k2,rfl⟩:=V.form;have aQ:=Qg W.o.1;have az:=QA W.o.1 r q;have N:=I (W.o.2.2.trans r);have Y:=I (Qt _ _ 2 (.slice (some ⟨g2,0,none⟩) n2 k2) _ _ az);have ab:=I (TSt.block (w':=w2.setCell ⟨gb,2,none⟩ (.slice (some ⟨g2,0,none⟩) n2 k2)) L (QK (Ne.symm q)));have aZ:=I aU;have bc:=fun o=>Qu az o
     have d2:=QJ az;clear h2 r L aU V az;go_wp2_with fail;refine(VG rb tb nv l 0 F _ _ (HR.o.mod (N.o.setNew hg 2 (.slice (some ⟨g2,0,none⟩) n2 k2)) S) S ab.o C (by decide) hF).mono ?_;rintro e w3 h3;obtain⟨ac,av,v3,rfl,⟨bm,aw⟩,aV⟩:=h3.st;obtain⟨g3,n3,k3,rfl⟩:=aw.form;have ad:=QA Y.o ac q;have aX:=I ((N.o.setNew hg 2 (.slice (some ⟨g2,0,none⟩) n2 k2)).trans ac);have aL:=I (Qt _ _ 3 (.slice (some ⟨g3,0,none⟩) n3 k3) _ _ ad);have aY:=I (TSt.block (w':=w3.setCell ⟨gb,3,none⟩ (.slice (some ⟨g3,0,none⟩) n3 k3)) av (QK (Ne.symm q)));have a0:=I aV;have bk:=N.o.size;have bg:gb<w2.heap.size:=by have:=Qg Y.o;rw[World.size_setCell]at this;exact this
     have bl:=ac.size;have HK:=I ac;have a4:=fun o=>Qu ad o
     have d3:=QR ad;clear h3 ac av aV aw ad;go_wp2;go_end0;refine⟨rfl,aX.o.setNew hg _ _,by rw[aE.o.1];exact aY.o,⟨_,aL.o⟩,fun y hy=>?_⟩;obtain⟨a,b,ha,hb,ba⟩:=aE.o.2 y hy;rw[ba];refine⟨_,_,aL.o,?_,?_⟩
     ·exact((((aZ.o a ha).keep (Abv.set aQ _ _)).keep (HK.o.abv (by have:=W.o.2.2.size;omega))).keep (Abv.set aQ _ _)).toX.weak (fun k hk _=>Qs W.o.2.2.size hk)
     ·exact((a0.o b hb).keep (Abv.set (by rw[World.size_setCell];omega) _ _)).toX.weak (fun k hk _=>by have a5:_<=k:=hk;rw[World.size_setCell]at a5;show u.heap.size<=k;omega)
end Go.Proofs.YtgnkjijocdmniaaGreatDoor
