import Derived.Test.YtgnkjijocdmniaaGreatDoorZArm
namespace Go.Proofs.YtgnkjijocdmniaaGreatDoor
set_option linter.unusedVariables false
set_option linter.unusedSimpArgs false
set_option maxRecDepth 100000
set_option maxHeartbeats 4000000
open Go.Proofs.Tryz
open Go.RowKit
attribute [local go_sem ↓] Go.wp_at_zero Go.wp_at_succ
abbrev Quc:Obj:=.cells #[.string ⟨#[]⟩,.int .i64 0,.int .i64 0,.string ⟨#[]⟩,.string ⟨#[]⟩] 264
def QxS (l:L8) (s:PS):Except Flt ((Nat×L8×L8)×PS):=
 Qa2 (mayL l [QbT,QbU,Qbr] s) fun tag s1=>Qa2 (sL l (fun x=>if isNameL x then 0 else 7) s1) fun v s2=>
  Qa2 (sL l (fun _=>0) s2) fun x s3=>semi l s3 (tag,zL v,x)
theorem Qxf(hw:L8)(hp:Nat)(d:Int)(b:Nat)(t:ByteArray)(s:PS)(rv:Value)(mc mt:Nat)(w:World)(h:RC w b t s rv mc mt) :
 Calls Tryz.prog 125 #[.pointer (some ⟨b,0,none⟩),QcH hw hp,.int .i64 d] w (Qap (QxS t.data.toList s) b t rv mc mt w (fun x w' v=>v=.iface 264 (.agg #[.string (Qaf hw),.int .i64 hp,.int .i64 x.1,.string (Qaf x.2.1),.string (Qaf x.2.2)]))):=by
 have H:=Qab h;have hlt:=h.at_.lt;have aT:¬ w.heap.size=b:=by omega
 have aU:¬ w.heap.size+1=b:=by omega
 have aV:¬ w.heap.size+1+1=b:=by omega
 clear h;unfold QcH;go_enter func125,ntmps125;go_upto_region 1 with fail
 go_cut [7] (fun v wc=>∃(T:Nat) (y:Nat×PS),v=.pointer (some ⟨T,0,none⟩)/\mayL t.data.toList [QbT,QbU,Qbr] s=.ok y/\RC wc b t y.2 rv mc mt/\Mod b w wc/\w.heap.size<=T/\wc.heap[T]?=some (.cells #[.string (Qaf hw),.int .i64 hp,.int .i64 y.1,.string ⟨#[]⟩,.string ⟨#[]⟩] 264))
 case first=>
  go_region_with (first|(go_at_call 152;refine(QiF _).mono ?_;rintro e w' ⟨rfl,rfl⟩;skip)|(go_at_call 180;refine(QhT b _ 3 3 [QbT,QbU,Qbr] t s rv mc mt _ (by first|exact((H.o.alloc _).alloc _).drew|exact(((H.o.alloc _).alloc _).alloc _).drew) (by first|exact(QbI _ _ (by simp)).drew|exact((QbI _ _ (by simp)).alloc _).drew) rfl (by decide)).mono ?_;intro e w1 h1;rcases h1.cases with⟨y,v,hy,rfl,hv,hc,hm⟩ | ⟨f,hf,⟨bb,hz,rfl,aa⟩,hm⟩;rotate_left;exact⟨rfl,Qap.err (Qad hf) (by first|exact(((Mod.refl b w).alloc _).alloc _).trans (QaY hm)|exact((((Mod.refl b w).alloc _).alloc _).alloc _).trans (QaY hm)) ⟨bb,by simp at hz;omega,rfl,aa⟩⟩;unfold QlE at hv;subst hv;have ao:=QaU (g:=w.heap.size) (o:=.cells #[.string (Qaf hw),.int .i64 hp] 216) (by first|exact Qae (Qat _ _)|exact Qae (Qae (Qat _ _))) (QaY hm) aT;have aR:w1.cell? ⟨w.heap.size,0,none⟩=some (.string (Qaf hw)):=Qaa ao 0;have aS:w1.cell? ⟨w.heap.size,1,none⟩=some (.int .i64 hp):=Qaa ao 1;clear ao;(first|(have tb:=QaU (g:=w.heap.size+1) (o:=Quc) (Qae (Qaw (by simp))) (QaY hm) aU;have t0:w1.cell? ⟨w.heap.size+1,0,none⟩=some (.string ⟨#[]⟩):=Qaa tb 0;have t1:w1.cell? ⟨w.heap.size+1,1,none⟩=some (.int .i64 0):=Qaa tb 1;have t2:w1.cell? ⟨w.heap.size+1,2,none⟩=some (.int .i64 0):=Qaa tb 2;have t3:w1.cell? ⟨w.heap.size+1,3,none⟩=some (.string ⟨#[]⟩):=Qaa tb 3;have t4:w1.cell? ⟨w.heap.size+1,4,none⟩=some (.string ⟨#[]⟩):=Qaa tb 4;have tf:=Qao tb;have TB:=Qab tb;clear tb)|(have tb:=QaU (g:=w.heap.size+1+1) (o:=Quc) (Qaw (by simp)) (QaY hm) aV;have t0:w1.cell? ⟨w.heap.size+1+1,0,none⟩=some (.string ⟨#[]⟩):=Qaa tb 0;have t1:w1.cell? ⟨w.heap.size+1+1,1,none⟩=some (.int .i64 0):=Qaa tb 1;have t2:w1.cell? ⟨w.heap.size+1+1,2,none⟩=some (.int .i64 0):=Qaa tb 2;have t3:w1.cell? ⟨w.heap.size+1+1,3,none⟩=some (.string ⟨#[]⟩):=Qaa tb 3;have t4:w1.cell? ⟨w.heap.size+1+1,4,none⟩=some (.string ⟨#[]⟩):=Qaa tb 4;have tf:=Qao tb;have TB:=Qab tb;clear tb)|skip);have aW:=hm.size;simp at aW;have aD:w.heap.size<w1.heap.size:=(by omega);have hh0a:∀ o,(w1.alloc o).cell? ⟨w.heap.size,0,none⟩=some (.string (Qaf hw)):=(fun o=>by rw[World.cell?_alloc_past _ _ _ aD];exact aR);have hh1a:∀ o,(w1.alloc o).cell? ⟨w.heap.size,1,none⟩=some (.int .i64 hp):=(fun o=>by rw[World.cell?_alloc_past _ _ _ aD];exact aS);have HY:=Qab hy;have HC:=Qab hc;have aq:Hid (Mod b w w1):=(by first|exact(((Mod.refl b w).alloc _).alloc _).trans (QaY hm)|exact((((Mod.refl b w).alloc _).alloc _).alloc _).trans (QaY hm));clear h1 hy hc hm;skip))
  all_goals (go_wp2_with fail;go_meet)
  all_goals first
   |(have hTB:=TB;exact⟨_,y,rfl,HY.o,((((HC.o.setNew (by omega) _ _).setNew (by omega) _ _).setNew (by omega) _ _).setNew (by omega) _ _).setNew (by omega) _ _,((((aq.o.setNew (by omega) _ _).setNew (by omega) _ _).setNew (by omega) _ _).setNew (by omega) _ _).setNew (by omega) _ _,by omega,Qah _ _ _ _ _ _ (Qah _ _ _ _ _ _ (Qah _ _ _ _ _ _ (Qah _ _ _ _ _ _ (Qah _ _ _ _ _ _ TB.o))))⟩)
   |exact⟨w1.heap.size,y,rfl,HY.o,HC.o.alloc _,aq.o.alloc _,by omega,Qat _ _⟩
 case rest=>
  obtain⟨T,y,rfl,hy,hc,hm,hT,hb⟩:=hcut;have hlt2:=QaI hb;have au:b<T:=by omega
  have HY:=Qab hy;have HC:=Qab hc;have HM:=Qab hm;have HB:=Qab hb;clear hy hc hm hb;go_wp2_with fail;refine(QnG b t y.2 rv mc mt _ HC.o).mono ?_;intro e w1 h1;rcases h1.cases with⟨y1,v1,ap,rfl,ay,av,ac⟩ | ⟨f,hf,⟨bb,hz,rfl,aa⟩,ac⟩
  rotate_left
  ·exact⟨rfl,Qap.err ((Qac HY.o).trans (Qad hf)) (HM.o.trans ac) ⟨bb,Nat.le_trans HM.o.size hz,rfl,aa⟩⟩
  unfold Qtf at ay;subst ay;have ak:=Qab ap;have aI:=Qab av;have aN:=Qab (HM.o.trans ac);have aE:=Qab (QaU HB.o ac (by omega))
  have hx1:y1.1.length<=600:=by
   have h1:=(Qew (l:=t.data.toList) (by simpa using HC.o.le) ap).2;have h2:=HC.o.sz.1;rw[h1];exact h2
  clear h1 ap av ac;go_wp2_with fail;refine(Qfz (Qaf y1.1) _ (by rw[Qaj];omega)).mono ?_;rintro e w2 ⟨rfl,ah⟩;have af:=QaU aE.o (Mod.of_below (b:=b) ah) (by omega);have t3:w2.cell? ⟨T,3,none⟩=some (.string ⟨#[]⟩):=Qaa af 3;have tf:=Qao af;have aJ:=Qab (aI.o.below ah);have ai:=Qab (aN.o.trans (Mod.of_below (b:=b) ah));have aF:=Qab af;clear af ah;go_wp2_with fail;refine(QdX b t y1.2 rv mc mt _ (aJ.o.setNew au _ _)).mono ?_;intro e w3 h3;rcases h3.cases with⟨y3,v3,aB,rfl,az,aw,ad⟩ | ⟨f,hf,⟨bb,hz,rfl,aa⟩,ad⟩
  rotate_left
  ·exact⟨rfl,Qap.err ((Qac HY.o).trans ((Qac ak.o).trans (Qad hf))) ((ai.o.setNew hT _ _).trans ad) ⟨bb,Nat.le_trans (ai.o.setNew hT _ _).size hz,rfl,aa⟩⟩
  unfold Qtf at az;subst az;have ag:=QaU (Qah _ T 3 (.string ⟨(zL y1.1).toArray⟩) _ _ aF.o) ad (by omega);have t4:w3.cell? ⟨T,4,none⟩=some (.string ⟨#[]⟩):=Qaa ag 4;have aX:=Qao ag;have ar:=Qab aB;have aK:=Qab aw;have aO:=Qab ((ai.o.setNew hT 3 (.string ⟨(zL y1.1).toArray⟩)).trans ad);have aG:=Qab ag;clear ag h3 aB aw ad t3 tf;go_wp2_with fail;have aH:=Qab (Qah _ T 4 (.string (Qaf y3.1)) _ _ aG.o);have aL:=Qab (aK.o.setNew au 4 (.string (Qaf y3.1)));have aj:=Qab (aO.o.setNew hT 4 (.string (Qaf y3.1)));have HP:=Qab (QcV b w3.heap.size 1 1 [[59]] t y3.2 rv mc mt _ (aL.o.alloc (.cells (QaN [[59]]).toArray 9)) (QbI _ _ (by simp[World.setCell])) rfl (by decide));refine HP.o.mono ?_;intro e w5 h5;rcases h5.cases with⟨y5,v5,aC,rfl,aA,ax,ae⟩ | ⟨f,hf,⟨bb,hz,rfl,aa⟩,ae⟩
  rotate_left
  ·exact⟨rfl,Qap.err ((Qac HY.o).trans ((Qac ak.o).trans ((Qac ar.o).trans (Qad hf)))) ((aj.o.alloc _).trans ae) ⟨bb,Nat.le_trans (aj.o.alloc _).size hz,rfl,aa⟩⟩
  unfold QlE at aA;subst aA;have ab:=QaU (Qae aH.o) ae (by omega);have q0:w5.cell? ⟨T,0,none⟩=some (.string (Qaf hw)):=Qaa ab 0;have q1:w5.cell? ⟨T,1,none⟩=some (.int .i64 hp):=Qaa ab 1;have q2:w5.cell? ⟨T,2,none⟩=some (.int .i64 y.1):=Qaa ab 2;have q3:w5.cell? ⟨T,3,none⟩=some (.string (Qaf (zL y1.1))):=Qaa ab 3;have q4:w5.cell? ⟨T,4,none⟩=some (.string (Qaf y3.1)):=Qaa ab 4;have aQ:=Qab aC;have aM:=Qab ax;have aP:=Qab ((aj.o.alloc (.cells (QaN [[59]]).toArray 9)).trans ae);clear h5 aC ax ae ab HP t4 aX;go_wp2;go_ret;exact Qap.ok ((Qac HY.o).trans ((Qac ak.o).trans ((Qac ar.o).trans (Qac aQ.o)))) aP.o rfl aM.o
end Go.Proofs.YtgnkjijocdmniaaGreatDoor
