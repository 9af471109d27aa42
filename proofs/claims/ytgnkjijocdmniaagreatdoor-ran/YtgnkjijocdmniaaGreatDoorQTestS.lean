import Derived.Test.YtgnkjijocdmniaaGreatDoorZQCmdL
namespace Go.Proofs.YtgnkjijocdmniaaGreatDoor
set_option linter.all false
set_option maxRecDepth 100000
set_option maxHeartbeats 4000000
open Go.Proofs.Tryz
open Go.RowKit
attribute [local go_sem ↓] Zt Zu
variable{F:Nat}{l:L8}{st:Qq PS}
theorem QvK{f:Flt}:nextS l (failS st f)=failS st f:=by cases st<;>rfl
theorem Li{α:Type}{pos:Nat}{sub:PS->Qq (α×PS)}:stOf (bindS st (tBd l F sub 9 pos))=stOf (bindS st (sizeL l pos))/\∀y,bindS st (tBd l F sub 9 pos)=.ok y->∃z,bindS st (sizeL l pos)=.ok z/\y.1=(z.1,[]):=by
 cases st with
 |error g=>exact⟨rfl,fun y e=>by cases e⟩
 |ok s=>
  simp only[bindS,tBd]
  cases sizeL l pos s with
  |error g=>exact⟨rfl,fun y e=>by cases e⟩
  |ok z=>exact⟨rfl,fun y e=>⟨z,rfl,by cases e;rfl⟩⟩
def E4(w:World)(gb:Nat)(nm:L8)(tag num:Nat):Prop:=w.heap[gb]?=some (Qe #[Qf nm,Qp,Qp,Qp,Qa tag,.bool false,Qa num] 200)
theorem QsQ{U tb:Nat}{nv:Value}{rq:Qn}(n P:Nat){w:World}(j:RdI w U tb nv rq)(h:TSt w tb l st)(D:l.length<=600)(hF:2*l.length+2<=F)(hd:P+n=6)(c:(Qk l st).1=119)(hw:(Qk l st).2.1=JK):Calls prog 214 #[Qc U,Qa P] w (Zq (bindS st (QP l rq F (n+1))) tb l w (RTest (n+1) (fromB w.heap.size)) YW):=by
 have HX:Hid (bindS st (QP l rq F (n+1))=bindS (nextS l st) (tBd l F (QP l rq F n) 9 (Qk l st).2.2.2)):=by
  show _=_
  rw[U9 h c (by rw[hw];decide),hw,GW Qb Qb];rfl
 have r0:=Qj j.r 0;obtain⟨c2,c4,c5,c6,c7⟩:=h.cells;have HR:=O j;have ax:=QI j.r;have ay:=h.lt;have i:w.heap.size≠tb:=I
 obtain⟨s0,ah,_,_⟩:=XS h c;have he:errS st=0:=by rw[ah];rfl
 have aw:((errS st:Int) != 0)=false:=by simp;omega
 have ae:(((Qk l st).1:Int) != 119)=false:=by simp;omega
 have av:decide ((6:Int)<(P:Int))=false:=QB I;obtain⟨b,ag⟩:=Qw ((Qk l st).2.1);rw[ag]at c5 hw;have f:=hw;have e0:=QG [116,114,117,101] f rfl
 have e1:=QG [102,97,108,115,101] f rfl
 have e2:=QG [110,111,116] f rfl
 have e3:=QG [97,108,108,111,102] f rfl
 have e4:=QG [97,110,121,111,102] f rfl
 have e5:=QG [104,101,97,100,101,114] f rfl
 have e6:=QG [101,110,118,101,108,111,112,101] f rfl
 have e7:=QG [115,116,114,105,110,103] f rfl
 have e8:=QG [101,120,105,115,116,115] f rfl
 have e9:=XK [115,105,122,101] f rfl
 obtain⟨m,B⟩:=Q3 (w.alloc (Qe #[Qf b,Qp,Qp,Qp,Qa 0,.bool false,Qa 0] 200));have aF:=O B;have X:Hid (Mod tb w m):=by show Mod _ _ _;rw[B];exact(Mod.refl _ _).alloc _
 have Z:Hid (YD m w.heap.size b 0 false):=by show m.heap[w.heap.size]?=_;rw[B];exact Q0
 have ab:Hid (TSt m tb l st):=by show TSt _ _ _ _;rw[B];exact h.below (QH _)
 clear h j B ah he c ag;have aE:=O hw;clear hw f;go_enter func214,ntmps214;go_wp2_with fail;rw[<-aF.o];refine Qv (X0 ab D) ?_;rintro w1 ⟨q,s⟩;have A:=O (X.o.trans q);have u:=O (QY Z q i);have k:=O s;clear q s;obtain⟨a,T⟩:=Qw (nextS l st);rw[T]at k;have ad:Hid (bindS st (QP l rq F (n+1))=bindS a (tBd l F (QP l rq F n) 9 (Qk l st).2.2.2)):=by show _=_;rw[<-T];exact HX
 clear T HX Z X ab;have qr:=Qj (HR.o.mod A).r 0;obtain⟨q2,q4,q5,q6,q7⟩:=k.o.cells;have f5:=fun o=>QQ u o
 have t4:=Qj u 4;have K:((sA (Qk l a).2.1).toList==[111,118,101,114])=decide ((Qk l a).2.1=Vh):=Z3;have G:((sA (Qk l a).2.1).toList==[117,110,100,101,114])=decide ((Qk l a).2.1=Vb):=Z3;go_upto_block 3 with fail
 go_cut [] (fun W=>∃v:Nat,(v=if(Qk l a).1=58 then wL [Vh,Vb] (Qk l a).2.1 else 0)/\Mod tb w W/\E4 W w.heap.size b v 0/\TSt W tb l (if v=0 then failS a ⟨4,(Qk l a).2.2.2⟩else a))
 case first=>
  by_cases c:(Qk l a).1=58
  .have ae:(((Qk l a).1:Int)==58)=true:=by simp;omega
   by_cases d:(Qk l a).2.1=Vh
   .rw[QU d]at K;have g:Hid (1=if(Qk l a).1=58 then wL [Vh,Vb] (Qk l a).2.1 else 0):=by show _=_;rw[Qi c,d];rfl
    clear c d G;go_wp2;go_meet;exact⟨1,g,A.setNew QF _ _,QM u,k.o.block (Q' (Ne.symm i))⟩
   .rw[QB d]at K;by_cases h2:(Qk l a).2.1=Vb
    .rw[QU h2]at G;have g:Hid (2=if(Qk l a).1=58 then wL [Vh,Vb] (Qk l a).2.1 else 0):=by show _=_;rw[Qi c,h2];rfl
     clear c d h2;go_wp2;go_meet;exact⟨2,g,A.setNew QF _ _,QM u,k.o.block (Q' (Ne.symm i))⟩
    .rw[QB h2]at G;have g:Hid (0=if(Qk l a).1=58 then wL [Vh,Vb] (Qk l a).2.1 else 0):=by show _=_;rw[Qi c,Ef (by intro z E;simp at E;rcases E with rfl|rfl;exact d;exact h2)]
     have L:=O (Ka ⟨4,(Qk l a).2.2.2⟩ (w:=w1.drew) (k.o.block rfl) D (Yh 3));clear c d h2;go_wp2_with fail;go_region_with (first|(go_at_call 70;refine L.mono ?_;rintro e V d;obtain⟨rfl,q,s⟩:=d;have t:=O q;have ac:=O s;clear q s;skip))
     all_goals go_wp2
     all_goals go_meet
     all_goals exact⟨0,g,A.o.trans (Uc t),QY u (Uc t) i,ac⟩
  .have ae:(((Qk l a).1:Int)==58)=false:=by simp;omega
   have g:Hid (0=if(Qk l a).1=58 then wL [Vh,Vb] (Qk l a).2.1 else 0):=by show _=_;rw[Qg c]
   have L:=O (Ka ⟨4,(Qk l a).2.2.2⟩ (w:=w1.drew) (k.o.block rfl) D (Yh 3));clear c K G;go_wp2_with fail;go_region_with (first|(go_at_call 70;refine L.mono ?_;rintro e V d;obtain⟨rfl,q,s⟩:=d;have t:=O q;have ac:=O s;clear q s;skip))
   all_goals go_wp2
   all_goals go_meet
   all_goals exact⟨0,g,A.o.trans (Uc t),QY u (Uc t) i,ac⟩
 case rest=>
  obtain⟨v,hv,Q,af,ht⟩:=hcut;have N:=O (PC (pos:=(Qk l st).2.2.2) k hv)
  have g:Hid (nextS l (if v=0 then failS a ⟨4,(Qk l a).2.2.2⟩else a)=if v=0 then failS a ⟨4,(Qk l a).2.2.2⟩else nextS l a):=by
   show _=_
   by_cases h0:v=0
   .rw[Qi h0,Qi h0];exact QvK
   .rw[Qg h0,Qg h0]
  have HM:=O Q;have aB:=O af;have M:=O (X0 ht D);rw[g.o]at M;have az:=Qj (HR.o.mod Q).r 0;obtain⟨x,ai⟩:=Qw (if v=0 then failS a ⟨4,(Qk l a).2.2.2⟩else nextS l a);rw[ai]at M N;clear Q af ht hv ai g q2 q4 q5 q6 q7 K G f5 t4 qr;go_wp2_with fail;refine M.mono ?_;rintro e V ⟨rfl,R,J⟩;have t:=O (HM.o.trans R);have H:=QY aB R i;have aa:=O (Qxh (pos:=(Qk l st).2.2.2) (v:=v) J);obtain⟨q2,q4,q5,q6,q7⟩:=J.cells;have aA:=Qj (HR.o.mod t).r 0;have f6:=fun o=>QQ H o
  have t6:=Qj H 6;obtain⟨p,C⟩:=Q3 (V.setCell ⟨w.heap.size,6,none⟩ (Qa (Qk l x).2.2.1));have aD:=O C;have Y:Hid (Mod tb w p):=by show Mod _ _ _;rw[C];exact t.setNew QF _ _
  have ao:Hid (E4 p w.heap.size b v (Qk l x).2.2.1):=by show p.heap[w.heap.size]?=_;rw[C];exact QM H
  have ar:Hid (TSt p tb l x):=by show TSt _ _ _ _;rw[C];exact J.block (Q' (Ne.symm i))
  have aq:=O (KJ 48 (HR.o.mod Y).r ar D);clear R J H C;go_wp2_with fail;rw[<-aD.o];refine aq.mono ?_;rintro e w4 ⟨rfl,S,aj⟩;have ak:=O (Y.o.trans S);have ap:=O (QY ao S i);have aC:=O aj;clear S aj;go_wp2;go_ret;refine Zq.mk ak (by rw[(ZI stOf ad).trans Li.1,N.o,aa.1];exact aC) ⟨_,rfl⟩ (fun y hy=>?_);obtain⟨z,E,au⟩:=Li.2 y (ad.symm.trans hy);rw[N.o]at E;rw[au,aa.2 z E];exact Vz QF ap aE.symm (Qt ⟨rfl,rfl⟩) (Qt ⟨rfl,rfl⟩) (Qt ⟨rfl,rfl⟩)
end Go.Proofs.YtgnkjijocdmniaaGreatDoor
