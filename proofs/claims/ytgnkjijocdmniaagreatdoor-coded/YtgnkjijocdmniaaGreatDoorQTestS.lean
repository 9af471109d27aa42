import Derived.Test.YtgnkjijocdmniaaGreatDoorZQCmdL
namespace Go.Proofs.YtgnkjijocdmniaaGreatDoor
set_option linter.unusedVariables false
set_option linter.unusedSimpArgs false
set_option maxRecDepth 100000
set_option maxHeartbeats 4000000
open Go.Proofs.Tryz
open Go.RowKit
attribute [local go_sem ↓] Go.wp_at_zero Go.wp_at_succ
variable{l:L8}{st:Qb PS}
theorem Ld{f:Flt}:nextS l (failS st f)=failS st f:=by cases st<;>rfl
theorem CO{α:Type}{F pos:Nat}{sub:PS->Qb (α×PS)}:stOf (bindS st (tBd l F sub 9 pos))=stOf (bindS st (sizeL l pos))/\∀ y,bindS st (tBd l F sub 9 pos)=.ok y->∃ z,bindS st (sizeL l pos)=.ok z/\y.1=(z.1,[]):=by
 cases st with
 |error g=>exact⟨rfl,fun y e=>by cases e⟩
 |ok s=>
  simp only[bindS,tBd]
  cases sizeL l pos s with
  |error g=>exact⟨rfl,fun y e=>by cases e⟩
  |ok z=>exact⟨rfl,fun y e=>⟨z,rfl,by cases e;rfl⟩⟩
def CP(w:World)(gb:Nat)(nm:L8)(tag num:Nat):Prop:=w.heap[gb]?=some (.cells #[.string (sA nm),.slice none 0 0,.slice none 0 0,.slice none 0 0,.int .i64 tag,.bool false,.int .i64 num] 200)
theorem Le(rb tb:Nat)(nv:Value)(rq:Qa)(l:L8)(F n U:Nat)(st:Qb PS)(w:World)(M:RdI w rb tb nv rq)(h:TSt w tb l st)(D:l.length<=600)(hF:2*l.length+2<=F)(hd:U+n=6)(c:(O l st).1=119)(hw:(O l st).2.1=Yh) :
 Calls prog 214 #[.pointer (some ⟨rb,0,none⟩),.int .i64 U] w (QS (bindS st (Qq l rq F (n+1))) tb l w (RTest (n+1) (fromB w.heap.size)) XA):=by
 have HX:Hid (bindS st (Qq l rq F (n+1))=bindS (nextS l st) (tBd l F (Qq l rq F n) 9 (O l st).2.2.2)):=by
  show _=_
  rw[Kq h c (by rw[hw];decide),hw,UV (by decide) (by decide)];rfl
 have r0:=Qj M.r;obtain⟨c2,c4,c5,c6,c7⟩:=h.cells;have H:=I h;have L:=I M;have aG:=Qh M.r;have aH:=h.lt;have k:w.heap.size≠tb:=by omega
 obtain⟨s0,aj,_,_⟩:=ZZ h c;have he:errS st=0:=by rw[aj];rfl
 have aD:((errS st:Int) != 0)=false:=by simp;omega
 have ag:(((O l st).1:Int) != 119)=false:=by simp;omega
 have aC:decide ((6:Int)<(U:Int))=false:=Qr (by omega);obtain⟨b,ai⟩:=Qf ((O l st).2.1);rw[ai]at c5 hw;have f:=hw;have e0:=Ql [116,114,117,101] f rfl
 have e1:=Ql [102,97,108,115,101] f rfl
 have e2:=Ql [110,111,116] f rfl
 have e3:=Ql [97,108,108,111,102] f rfl
 have e4:=Ql [97,110,121,111,102] f rfl
 have e5:=Ql [104,101,97,100,101,114] f rfl
 have e6:=Ql [101,110,118,101,108,111,112,101] f rfl
 have e7:=Ql [115,116,114,105,110,103] f rfl
 have e8:=Ql [101,120,105,115,116,115] f rfl
 have e9:=Zz [115,105,122,101] f rfl
 obtain⟨s,B⟩:=QE (w.alloc (.cells #[.string (sA b),.slice none 0 0,.slice none 0 0,.slice none 0 0,.int .i64 0,.bool false,.int .i64 0] 200));have aA:=I B;have aa:Hid (Mod tb w s):=by show Mod _ _ _;rw[B];exact(Mod.refl _ _).alloc _
 have ac:Hid (XF s w.heap.size b 0 false):=by show s.heap[w.heap.size]?=_;rw[B];exact QA _ _
 have ae:Hid (TSt s tb l st):=by show TSt _ _ _ _;rw[B];exact h.below (Qs _)
 clear h M B aj he c ai;have az:=I hw;clear hw f;go_enter func214,ntmps214;go_wp2_with fail;rw[<-aA.o];refine(ZU tb l st s ae.o D).mono ?_;rintro e K ⟨rfl,i,m⟩;have A:=I (aa.o.trans i);have p:=I (Qu ac.o i k);have q:=I m;clear i m;obtain⟨a,Y⟩:=Qf (nextS l st);rw[Y]at q;have af:Hid (bindS st (Qq l rq F (n+1))=bindS a (tBd l F (Qq l rq F n) 9 (O l st).2.2.2)):=by show _=_;rw[<-Y];exact HX.o
 clear Y HX ac aa ae;have qr:K.cell? ⟨rb,0,none⟩=some (.pointer (some ⟨tb,0,none⟩)):=Qn (L.o.mod A.o).r 0;obtain⟨q2,q4,q5,q6,q7⟩:=q.o.cells;have f5:=fun o=>Qz p.o o
 have t4:=QJ p.o;have aE:w.heap.size<K.heap.size:=Qh p.o;have P:((sA (O l a).2.1).toList==[111,118,101,114])=decide ((O l a).2.1=Kr):=Z7 _ _;have J:((sA (O l a).2.1).toList==[117,110,100,101,114])=decide ((O l a).2.1=Ks):=Z7 _ _;go_upto_block 3 with fail
 go_cut [] (fun Z=>∃ v:Nat,(v=if(O l a).1=58 then wL [Kr,Ks] (O l a).2.1 else 0)/\Mod tb w Z/\CP Z w.heap.size b v 0/\TSt Z tb l (if v=0 then failS a ⟨4,(O l a).2.2.2⟩else a))
 case first=>
  by_cases c:(O l a).1=58
  ·have ag:(((O l a).1:Int)==58)=true:=by simp;omega
   by_cases d:(O l a).2.1=Kr
   ·rw[QO d]at P;have g:Hid (1=if(O l a).1=58 then wL [Kr,Ks] (O l a).2.1 else 0):=by show _=_;rw[if_pos c,d];rfl
    clear c d J;go_wp2;go_meet;exact⟨1,g.o,A.o.setNew Qt _ _,Qv _ _ _ _ _ _ p.o,q.o.block (Below.heap_setCell _ _ _ _ (Ne.symm k))⟩
   ·rw[Qr d]at P;by_cases h2:(O l a).2.1=Ks
    ·rw[QO h2]at J;have g:Hid (2=if(O l a).1=58 then wL [Kr,Ks] (O l a).2.1 else 0):=by show _=_;rw[if_pos c,h2];rfl
     clear c d h2;go_wp2;go_meet;exact⟨2,g.o,A.o.setNew Qt _ _,Qv _ _ _ _ _ _ p.o,q.o.block (Below.heap_setCell _ _ _ _ (Ne.symm k))⟩
    ·rw[Qr h2]at J;have g:Hid (0=if(O l a).1=58 then wL [Kr,Ks] (O l a).2.1 else 0):=by show _=_;rw[if_pos c,AH (by intro z G;simp at G;rcases G with rfl|rfl;exact d;exact h2)]
     have Q:=I (Y3 tb l a ⟨4,(O l a).2.2.2⟩ K.drew (q.o.block rfl) D (Nat.succ_ne_zero 3));clear c d h2;go_wp2_with fail;go_region_with (first|(go_at_call 70;refine Q.o.mono ?_;rintro e x d;obtain⟨rfl,i,m⟩:=d;have j:=I i;have T:=I m;clear i m;skip))
     all_goals go_wp2
     all_goals go_meet
     all_goals exact⟨0,g.o,A.o.trans (JS j.o),Qu p.o (JS j.o) k,T.o⟩
  ·have ag:(((O l a).1:Int)==58)=false:=by simp;omega
   have g:Hid (0=if(O l a).1=58 then wL [Kr,Ks] (O l a).2.1 else 0):=by show _=_;rw[if_neg c]
   have Q:=I (Y3 tb l a ⟨4,(O l a).2.2.2⟩ K.drew (q.o.block rfl) D (Nat.succ_ne_zero 3));clear c P J;go_wp2_with fail;go_region_with (first|(go_at_call 70;refine Q.o.mono ?_;rintro e x d;obtain⟨rfl,i,m⟩:=d;have j:=I i;have T:=I m;clear i m;skip))
   all_goals go_wp2
   all_goals go_meet
   all_goals exact⟨0,g.o,A.o.trans (JS j.o),Qu p.o (JS j.o) k,T.o⟩
 case rest=>
  obtain⟨v,hv,V,ah,ht⟩:=hcut;have S:=I (Lf (pos:=(O l st).2.2.2) q.o v hv)
  have g:Hid (nextS l (if v=0 then failS a ⟨4,(O l a).2.2.2⟩else a)=if v=0 then failS a ⟨4,(O l a).2.2.2⟩else nextS l a):=by
   show _=_
   by_cases h0:v=0
   ·rw[if_pos h0,if_pos h0];exact Ld
   ·rw[if_neg h0,if_neg h0]
  have HM:=I V;have au:=I ah;have R:=I (ZU tb l _ wc ht D);rw[g.o]at R;have aI:wc.cell? ⟨rb,0,none⟩=some (.pointer (some ⟨tb,0,none⟩)):=Qn (L.o.mod V).r 0;obtain⟨u,ak⟩:=Qf (if v=0 then failS a ⟨4,(O l a).2.2.2⟩else nextS l a);rw[ak]at R S;clear V ah ht hv ak g q2 q4 q5 q6 q7 P J f5 t4 qr;go_wp2_with fail;refine R.o.mono ?_;rintro e x ⟨rfl,W,N⟩;have j:=I (HM.o.trans W);have E:=Qu au.o W k;have ad:=I (Lg (pos:=(O l st).2.2.2) (v:=v) N);obtain⟨q2,q4,q5,q6,q7⟩:=N.cells;have aJ:x.cell? ⟨rb,0,none⟩=some (.pointer (some ⟨tb,0,none⟩)):=Qn (L.o.mod j.o).r 0;have f6:=fun o=>Qz E o
  have t6:=Zg E;have aF:w.heap.size<x.heap.size:=Qh E;obtain⟨t,C⟩:=QE (x.setCell ⟨w.heap.size,6,none⟩ (.int .i64 (O l u).2.2.1));have ay:=I C;have ab:Hid (Mod tb w t):=by show Mod _ _ _;rw[C];exact j.o.setNew Qt _ _
  have aq:Hid (CP t w.heap.size b v (O l u).2.2.1):=by show t.heap[w.heap.size]?=_;rw[C];exact Qv _ _ _ _ _ _ E
  have aw:Hid (TSt t tb l u):=by show TSt _ _ _ _;rw[C];exact N.block (Below.heap_setCell _ _ _ _ (Ne.symm k))
  have av:=I (Yi rb tb nv l 48 u t (L.o.mod ab.o).r aw.o D);clear W N E C;go_wp2_with fail;rw[<-ay.o];refine av.o.mono ?_;rintro e w4 ⟨rfl,X,ao⟩;have ap:=I (ab.o.trans X);have ar:=I (Qu aq.o X k);have ax:=I ao;clear X ao;go_wp2;go_ret;refine QS.mk ap.o (by rw[(congrArg stOf af.o).trans CO.1,S.o,ad.o.1];exact ax.o) ⟨_,rfl⟩ (fun y hy=>?_);obtain⟨z,G,aB⟩:=CO.2 y (af.o.symm.trans hy);rw[S.o]at G;rw[aB,ad.o.2 z G];exact Kt Qt ar.o az.o.symm (Qd ⟨rfl,rfl⟩) (Qd ⟨rfl,rfl⟩) (Qd ⟨rfl,rfl⟩)
end Go.Proofs.YtgnkjijocdmniaaGreatDoor
