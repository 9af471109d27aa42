import Derived.Test.YtgnkjijocdmniaaGreatDoorTests4
namespace Go.Proofs.YtgnkjijocdmniaaGreatDoor
set_option linter.unusedVariables false
set_option linter.unusedSimpArgs false
set_option maxRecDepth 100000
set_option maxHeartbeats 4000000
open Go.Proofs.Tryz
open Go.RowKit
attribute [local go_sem ↓] Go.wp_at_zero Go.wp_at_succ
theorem TxtAt.alloc{w:World}{g:Nat}{zs:List (L8)}(h:TxtAt w g zs)(o:Obj):TxtAt (w.alloc o) g zs:=h.below ((Below.refl _ _).alloc (Nat.le_refl _) _)
theorem TxtAt.drew{w:World}{g:Nat}{zs:List (L8)}(h:TxtAt w g zs):TxtAt w.drew g zs:=h
abbrev QqZ:Obj:=.cells #[.string ⟨#[]⟩,.int .i64 0,.int .i64 0,.int .i64 0] 311
theorem Qvr(hw:L8)(hp:Nat)(d:Int)(b:Nat)(t:ByteArray)(s:PS)(rv:Value)(mc mt:Nat)(w:World)(h:RC w b t s rv mc mt) :
 Calls Tryz.prog 140 #[.pointer (some ⟨b,0,none⟩),QcH hw hp,.int .i64 d] w (Qap (sizeL t.data.toList hp s) b t rv mc mt w (fun x w' v=>v=.iface 311 (.agg #[.string (Qaf hw),.int .i64 hp,.int .i64 x.tag,.int .i64 x.num]))):=by
 have H:=Qab h;have hlt:=h.at_.lt;have ak:¬ w.heap.size=b:=by omega
 have ao:¬ w.heap.size+1=b:=by omega
 have ap:¬ w.heap.size+1+1=b:=by omega
 clear h;unfold QcH;go_enter func140,ntmps140;go_upto_region 1 with fail
 go_cut [7] (fun v wc=>∃(T:Nat) (y:Nat×PS),v=.pointer (some ⟨T,0,none⟩)/\paL t.data.toList [Qdh,Qb9] s=.ok y/\RC wc b t y.2 rv mc mt/\Mod b w wc/\w.heap.size<=T/\wc.heap[T]?=some (.cells #[.string (Qaf hw),.int .i64 hp,.int .i64 y.1,.int .i64 0] 311))
 case first=>
  go_region_with (first|(go_at_call 191;refine(Qis _).mono ?_;rintro e w' ⟨rfl,rfl⟩;skip)|(go_at_call 177;refine(QcV b _ 2 2 [Qdh,Qb9] t s rv mc mt _ (by first|exact((H.o.alloc _).alloc _).drew|exact(((H.o.alloc _).alloc _).alloc _).drew) (by first|exact(QbI _ _ (by simp)).drew|exact((QbI _ _ (by simp)).alloc _).drew) rfl (by decide)).mono ?_;intro e w1 h1;rcases h1.cases with⟨y,v,hy,rfl,hv,hc,hm⟩ | ⟨f,hf,⟨bb,hz,rfl,ab⟩,hm⟩;rotate_left;exact⟨rfl,Qap.err (Qad hf) (by first|exact(((Mod.refl b w).alloc _).alloc _).trans (QaY hm)|exact((((Mod.refl b w).alloc _).alloc _).alloc _).trans (QaY hm)) ⟨bb,by simp at hz;omega,rfl,ab⟩⟩;unfold QlE at hv;subst hv;have ac:=QaU (g:=w.heap.size) (o:=.cells #[.string (Qaf hw),.int .i64 hp] 216) (by first|exact Qae (Qat _ _)|exact Qae (Qae (Qat _ _))) (QaY hm) ak;have ah:w1.cell? ⟨w.heap.size,0,none⟩=some (.string (Qaf hw)):=Qaa ac 0;have ai:w1.cell? ⟨w.heap.size,1,none⟩=some (.int .i64 hp):=Qaa ac 1;clear ac;(first|(have tb:=QaU (g:=w.heap.size+1) (o:=QqZ) (Qae (Qaw (by simp))) (QaY hm) ao;have t0:w1.cell? ⟨w.heap.size+1,0,none⟩=some (.string ⟨#[]⟩):=Qaa tb 0;have t1:w1.cell? ⟨w.heap.size+1,1,none⟩=some (.int .i64 0):=Qaa tb 1;have t2:w1.cell? ⟨w.heap.size+1,2,none⟩=some (.int .i64 0):=Qaa tb 2;have t3:w1.cell? ⟨w.heap.size+1,3,none⟩=some (.int .i64 0):=Qaa tb 3;have tf:=Qao tb;have TB:=Qab tb;clear tb)|(have tb:=QaU (g:=w.heap.size+1+1) (o:=QqZ) (Qaw (by simp)) (QaY hm) ap;have t0:w1.cell? ⟨w.heap.size+1+1,0,none⟩=some (.string ⟨#[]⟩):=Qaa tb 0;have t1:w1.cell? ⟨w.heap.size+1+1,1,none⟩=some (.int .i64 0):=Qaa tb 1;have t2:w1.cell? ⟨w.heap.size+1+1,2,none⟩=some (.int .i64 0):=Qaa tb 2;have t3:w1.cell? ⟨w.heap.size+1+1,3,none⟩=some (.int .i64 0):=Qaa tb 3;have tf:=Qao tb;have TB:=Qab tb;clear tb)|skip);have ar:=hm.size;simp at ar;have ae:w.heap.size<w1.heap.size:=(by omega);have hh0a:∀ o,(w1.alloc o).cell? ⟨w.heap.size,0,none⟩=some (.string (Qaf hw)):=(fun o=>by rw[World.cell?_alloc_past _ _ _ ae];exact ah);have hh1a:∀ o,(w1.alloc o).cell? ⟨w.heap.size,1,none⟩=some (.int .i64 hp):=(fun o=>by rw[World.cell?_alloc_past _ _ _ ae];exact ai);have HY:=Qab hy;have HC:=Qab hc;have ad:Hid (Mod b w w1):=(by first|exact(((Mod.refl b w).alloc _).alloc _).trans (QaY hm)|exact((((Mod.refl b w).alloc _).alloc _).alloc _).trans (QaY hm));clear h1 hy hc hm;skip))
  all_goals (go_wp2_with fail;go_meet)
  all_goals first
   |exact⟨_,y,rfl,HY.o,HC.o.alloc _,ad.o.alloc _,by omega,Qat _ _⟩
   |exact⟨_,y,rfl,HY.o,(((HC.o.setNew (by omega) _ _).setNew (by omega) _ _).setNew (by omega) _ _).setNew (by omega) _ _,(((ad.o.setNew (by omega) _ _).setNew (by omega) _ _).setNew (by omega) _ _).setNew (by omega) _ _,by omega,Qah _ _ _ _ _ _ (Qah _ _ _ _ _ _ (Qah _ _ _ _ _ _ (Qah _ _ _ _ _ _ TB.o)))⟩
 case rest=>
  obtain⟨T,y,rfl,hy,hc,hm,hT,hb⟩:=hcut;have hlt2:=QaI hb;have h1:wc.cell? ⟨b,1,none⟩=some (.int .i64 y.2.1.kind):=hc.at_.cell 1;have h5:wc.cell? ⟨b,5,none⟩=some (.int .i64 y.2.1.num):=hc.at_.cell 5;have t3:wc.cell? ⟨T,3,none⟩=some (.int .i64 0):=Qaa hb 3;have tf:=Qao hb;have HY:=Qab hy;have HC:=Qab hc;have HM:=Qab hm;have HB:=Qab hb;clear hy hc hm hb;by_cases hk:y.2.1.kind=4;rotate_left
  ·have aj:((y.2.1.kind:Int)==4)=false:=by simp;omega
   have HK:=Qab hk;clear hk;go_wp2_with fail;refine(Qbm b 4 _ _ t y.2.1 y.2.2 rv mc mt _ HC.o.at_ rfl rfl).mono ?_;rintro e w1 ⟨⟨bb,hz,rfl,ab⟩,hm⟩;exact⟨rfl,Qap.err ((Qac HY.o).trans (if_neg HK.o)) (HM.o.trans (Mod.of_below hm)) ⟨bb,Nat.le_trans HM.o.size hz,rfl,ab⟩⟩
  have aj:((y.2.1.kind:Int)==4)=true:=by simp;omega
  have HK:=Qab hk;clear hk;go_wp2_with fail;refine(QaF b _ _ _ rfl).mono ?_;rintro e w' ⟨rfl,aq⟩;subst aq;go_wp2_with fail;refine(QcU b t y.2 rv mc mt _ (HC.o.setNew (by omega) _ _)).mono ?_;rintro e w2 (⟨z,hz,rfl,hc2,hm2⟩ | ⟨f2,hf2,⟨bb,hz,rfl,ab⟩,hm2⟩);rotate_left
  ·exact⟨rfl,Qap.err ((Qac HY.o).trans ((if_pos HK.o).trans (QaC hf2))) ((HM.o.setNew hT _ _).trans hm2) ⟨bb,Nat.le_trans (HM.o.setNew hT _ _).size hz,rfl,ab⟩⟩
  have aa:=QaU (Qah _ T 3 (.int .i64 y.2.1.num) _ _ HB.o) hm2 (by omega);have q0:w2.cell? ⟨T,0,none⟩=some (.string (Qaf hw)):=Qaa aa 0;have q1:w2.cell? ⟨T,1,none⟩=some (.int .i64 hp):=Qaa aa 1;have q2:w2.cell? ⟨T,2,none⟩=some (.int .i64 y.1):=Qaa aa 2;have q3:w2.cell? ⟨T,3,none⟩=some (.int .i64 y.2.1.num):=Qaa aa 3;have ag:=Qab ((HM.o.setNew hT 3 (.int .i64 y.2.1.num)).trans hm2);have af:=Qab hc2;have HZ:=Qab hz;clear aa hm2 hc2 hz tf t3 h1 h5;go_wp2;go_ret;exact Qap.ok ((Qac HY.o).trans ((if_pos HK.o).trans (QaE HZ.o))) ag.o rfl af.o
end Go.Proofs.YtgnkjijocdmniaaGreatDoor
