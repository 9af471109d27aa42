import Derived.Test.YtgnkjijocdmniaaGreatDoorZQCmdL
namespace Go.Proofs.YtgnkjijocdmniaaGreatDoor
set_option linter.unusedVariables false
set_option linter.unusedSimpArgs false
set_option maxRecDepth 100000
set_option maxHeartbeats 4000000
open Go.Proofs.Tryz
open Go.RowKit
attribute [local go_sem ↓] Go.wp_at_zero Go.wp_at_succ
variable{l:L8}{st:Qb PS}
theorem PU{f:Flt}:nextS l (failS st f)=failS st f:=by cases st<;>rfl
theorem Dg{α:Type}{F pos:Nat}{sub:PS->Qb (α×PS)}:stOf (bindS st (Zl l F sub 9 pos))=stOf (bindS st (sizeL l pos))/\∀ y,bindS st (Zl l F sub 9 pos)=.ok y->∃ z,bindS st (sizeL l pos)=.ok z/\y.1=(z.1,[]):=by
 cases st with
 |error g=>exact⟨rfl,fun y e=>by cases e⟩
 |ok s=>
  simp only[bindS,Zl]
  cases sizeL l pos s with
  |error g=>exact⟨rfl,fun y e=>by cases e⟩
  |ok z=>exact⟨rfl,fun y e=>⟨z,rfl,by cases e;rfl⟩⟩
def Fk(w:World)(gb:Nat)(nm:L8)(tag num:Nat):Prop:=w.heap[gb]?=some (.cells #[.string (sA nm),.slice none 0 0,.slice none 0 0,.slice none 0 0,.int .i64 tag,.bool false,.int .i64 num] 200)
theorem Oj(rb tb:Nat)(nv:Value)(rq:Qa)(l:L8)(F n V:Nat)(st:Qb PS)(w:World)(N:RdI w rb tb nv rq)(h:TSt w tb l st)(E:l.length<=600)(hF:2*l.length+2<=F)(hd:V+n=6)(c:(O l st).1=119)(u:(O l st).2.1=KI) :
 Calls prog 214 #[.pointer (some ⟨rb,0,none⟩),.int .i64 V] w (QY (bindS st (Qy l rq F (n+1))) tb l w (ZG (n+1) (fromB w.heap.size)) XL):=by
 have HX:Hid (bindS st (Qy l rq F (n+1))=bindS (nextS l st) (Zl l F (Qy l rq F n) 9 (O l st).2.2.2)):=by
  show _=_
  rw[JX h c (by rw[u];decide),u,UE (by decide) (by decide)];rfl
 have r0:=Qk N.r;obtain⟨c2,c4,c5,c6,c7⟩:=h.cells;have H:=I h;have M:=I N;have aG:=Qg N.r;have aH:=h.lt;have k:w.heap.size≠tb:=by omega
 obtain⟨s0,aj,_,_⟩:=ZR h c;have he:errS st=0:=by rw[aj];rfl
 have aD:((errS st:Int) != 0)=false:=by simp;omega
 have ag:(((O l st).1:Int) != 119)=false:=by simp;omega
 have aC:decide ((6:Int)<(V:Int))=false:=Qh (by omega);obtain⟨b,ai⟩:=Qe ((O l st).2.1);rw[ai]at c5 u;have f:=u;have e0:=QO [116,114,117,101] f rfl
 have e1:=QO [102,97,108,115,101] f rfl
 have e2:=QO [110,111,116] f rfl
 have e3:=QO [97,108,108,111,102] f rfl
 have e4:=QO [97,110,121,111,102] f rfl
 have e5:=QO [104,101,97,100,101,114] f rfl
 have e6:=QO [101,110,118,101,108,111,112,101] f rfl
 have e7:=QO [115,116,114,105,110,103] f rfl
 have e8:=QO [101,120,105,115,116,115] f rfl
 have e9:=Jl [115,105,122,101] f rfl
 obtain⟨s,C⟩:=QF (w.alloc (.cells #[.string (sA b),.slice none 0 0,.slice none 0 0,.slice none 0 0,.int .i64 0,.bool false,.int .i64 0] 200));have aA:=I C;have aa:Hid (Mod tb w s):=by show Mod _ _ _;rw[C];exact(Mod.refl _ _).alloc _
 have ac:Hid (Xw s w.heap.size b 0 false):=by show s.heap[w.heap.size]?=_;rw[C];exact QC _ _
 have ae:Hid (TSt s tb l st):=by show TSt _ _ _ _;rw[C];exact h.below (Qp _)
 clear h N C aj he c ai;have az:=I u;clear u f;go_enter func214,ntmps214;go_wp2_with fail;rw[<-aA.o];refine(Z2 tb l st s ae.o E).mono ?_;rintro e L ⟨rfl,i,m⟩;have B:=I (aa.o.trans i);have p:=I (QA ac.o i k);have q:=I m;clear i m;obtain⟨a,Z⟩:=Qe (nextS l st);rw[Z]at q;have af:Hid (bindS st (Qy l rq F (n+1))=bindS a (Zl l F (Qy l rq F n) 9 (O l st).2.2.2)):=by show _=_;rw[<-Z];exact HX.o
 clear Z HX ac aa ae;have qr:L.cell? ⟨rb,0,none⟩=some (.pointer (some ⟨tb,0,none⟩)):=Qi (M.o.mod B.o).r 0;obtain⟨q2,q4,q5,q6,q7⟩:=q.o.cells;have f5:=fun o=>Qu p.o o
 have t4:=QV p.o;have aE:w.heap.size<L.heap.size:=Qg p.o;have Q:((sA (O l a).2.1).toList==[111,118,101,114])=decide ((O l a).2.1=Kc):=Zg _ _;have K:((sA (O l a).2.1).toList==[117,110,100,101,114])=decide ((O l a).2.1=J4):=Zg _ _;go_upto_block 3 with fail
 go_cut [] (fun wx=>∃ v:Nat,(v=if(O l a).1=58 then wL [Kc,J4] (O l a).2.1 else 0)/\Mod tb w wx/\Fk wx w.heap.size b v 0/\TSt wx tb l (if v=0 then failS a ⟨4,(O l a).2.2.2⟩else a))
 case first=>
  by_cases c:(O l a).1=58
  ·have ag:(((O l a).1:Int)==58)=true:=by simp;omega
   by_cases d:(O l a).2.1=Kc
   ·rw[Qw d]at Q;have g:Hid (1=if(O l a).1=58 then wL [Kc,J4] (O l a).2.1 else 0):=by show _=_;rw[if_pos c,d];rfl
    clear c d K;go_wp2;go_meet;exact⟨1,g.o,B.o.setNew Ql _ _,Qt _ _ _ _ _ _ p.o,q.o.block (QK (Ne.symm k))⟩
   ·rw[Qh d]at Q;by_cases h2:(O l a).2.1=J4
    ·rw[Qw h2]at K;have g:Hid (2=if(O l a).1=58 then wL [Kc,J4] (O l a).2.1 else 0):=by show _=_;rw[if_pos c,h2];rfl
     clear c d h2;go_wp2;go_meet;exact⟨2,g.o,B.o.setNew Ql _ _,Qt _ _ _ _ _ _ p.o,q.o.block (QK (Ne.symm k))⟩
    ·rw[Qh h2]at K;have g:Hid (0=if(O l a).1=58 then wL [Kc,J4] (O l a).2.1 else 0):=by show _=_;rw[if_pos c,AU (by intro z J;simp at J;rcases J with rfl|rfl;exact d;exact h2)]
     have R:=I (Yu tb l a ⟨4,(O l a).2.2.2⟩ L.drew (q.o.block rfl) E (Nat.succ_ne_zero 3));clear c d h2;go_wp2_with fail;go_region_with (first|(go_at_call 70;refine R.o.mono ?_;rintro e A d;obtain⟨rfl,i,m⟩:=d;have j:=I i;have U:=I m;clear i m;skip))
     all_goals go_wp2
     all_goals go_meet
     all_goals exact⟨0,g.o,B.o.trans (Y8 j.o),QA p.o (Y8 j.o) k,U.o⟩
  ·have ag:(((O l a).1:Int)==58)=false:=by simp;omega
   have g:Hid (0=if(O l a).1=58 then wL [Kc,J4] (O l a).2.1 else 0):=by show _=_;rw[if_neg c]
   have R:=I (Yu tb l a ⟨4,(O l a).2.2.2⟩ L.drew (q.o.block rfl) E (Nat.succ_ne_zero 3));clear c Q K;go_wp2_with fail;go_region_with (first|(go_at_call 70;refine R.o.mono ?_;rintro e A d;obtain⟨rfl,i,m⟩:=d;have j:=I i;have U:=I m;clear i m;skip))
   all_goals go_wp2
   all_goals go_meet
   all_goals exact⟨0,g.o,B.o.trans (Y8 j.o),QA p.o (Y8 j.o) k,U.o⟩
 case rest=>
  obtain⟨v,hv,W,ah,ht⟩:=hcut;have T:=I (Tu (pos:=(O l st).2.2.2) q.o v hv)
  have g:Hid (nextS l (if v=0 then failS a ⟨4,(O l a).2.2.2⟩else a)=if v=0 then failS a ⟨4,(O l a).2.2.2⟩else nextS l a):=by
   show _=_
   by_cases h0:v=0
   ·rw[if_pos h0,if_pos h0];exact PU
   ·rw[if_neg h0,if_neg h0]
  have HM:=I W;have au:=I ah;have S:=I (Z2 tb l _ wc ht E);rw[g.o]at S;have aI:wc.cell? ⟨rb,0,none⟩=some (.pointer (some ⟨tb,0,none⟩)):=Qi (M.o.mod W).r 0;obtain⟨x,ak⟩:=Qe (if v=0 then failS a ⟨4,(O l a).2.2.2⟩else nextS l a);rw[ak]at S T;clear W ah ht hv ak g q2 q4 q5 q6 q7 Q K f5 t4 qr;go_wp2_with fail;refine S.o.mono ?_;rintro e A ⟨rfl,X,P⟩;have j:=I (HM.o.trans X);have G:=QA au.o X k;have ad:=I (SQ (pos:=(O l st).2.2.2) (v:=v) P);obtain⟨q2,q4,q5,q6,q7⟩:=P.cells;have aJ:A.cell? ⟨rb,0,none⟩=some (.pointer (some ⟨tb,0,none⟩)):=Qi (M.o.mod j.o).r 0;have f6:=fun o=>Qu G o
  have t6:=Zz G;have aF:w.heap.size<A.heap.size:=Qg G;obtain⟨t,D⟩:=QF (A.setCell ⟨w.heap.size,6,none⟩ (.int .i64 (O l x).2.2.1));have ay:=I D;have ab:Hid (Mod tb w t):=by show Mod _ _ _;rw[D];exact j.o.setNew Ql _ _
  have aq:Hid (Fk t w.heap.size b v (O l x).2.2.1):=by show t.heap[w.heap.size]?=_;rw[D];exact Qt _ _ _ _ _ _ G
  have aw:Hid (TSt t tb l x):=by show TSt _ _ _ _;rw[D];exact P.block (QK (Ne.symm k))
  have av:=I (YQ rb tb nv l 48 x t (M.o.mod ab.o).r aw.o E);clear X P G D;go_wp2_with fail;rw[<-ay.o];refine av.o.mono ?_;rintro e w4 ⟨rfl,Y,ao⟩;have ap:=I (ab.o.trans Y);have ar:=I (QA aq.o Y k);have ax:=I ao;clear Y ao;go_wp2;go_ret;refine QY.mk ap.o (by rw[(congrArg stOf af.o).trans Dg.1,T.o,ad.o.1];exact ax.o) ⟨_,rfl⟩ (fun y hy=>?_);obtain⟨z,J,aB⟩:=Dg.2 y (af.o.symm.trans hy);rw[T.o]at J;rw[aB,ad.o.2 z J];exact Kr Ql ar.o az.o.symm (Qd ⟨rfl,rfl⟩) (Qd ⟨rfl,rfl⟩) (Qd ⟨rfl,rfl⟩)
end Go.Proofs.YtgnkjijocdmniaaGreatDoor
