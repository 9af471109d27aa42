import Derived.Test.YtgnkjijocdmniaaGreatDoorZArm
namespace Go.Proofs.YtgnkjijocdmniaaGreatDoor
set_option linter.unusedVariables false
set_option linter.unusedSimpArgs false
set_option maxRecDepth 100000
set_option maxHeartbeats 4000000
open Go.RowKit
attribute [local go_sem ↓] Go.wp_at_zero Go.wp_at_succ
abbrev zeroSet:Obj:=.cells #[.string ⟨#[]⟩,.int .i64 0,.int .i64 0,.string ⟨#[]⟩,.string ⟨#[]⟩] 264
def setL (l:List UInt8) (s:PS):Except Flt ((Nat×List UInt8×List UInt8)×PS):=
 thenL (mayL l [tLower,tUpper,tLength] s) fun tag s1=>thenL (stringL l (fun x=>if isNameL x then 0 else 7) s1) fun v s2=>
  thenL (stringL l (fun _=>0) s2) fun x s3=>semi l s3 (tag,smallL v,x)
theorem set_any (hw:List UInt8) (hp:Nat) (d:Int) (b:Nat) (t:ByteArray) (s:PS) (rv:Value) (mc mt:Nat) (w:World) (h:RC w b t s rv mc mt) :
 Calls Tryz.prog 125 #[.pointer (some ⟨b,0,none⟩),headV hw hp,.int .i64 d] w (RPost (setL t.data.toList s) b t rv mc mt w (fun x w' v=>v=.iface 264 (.agg #[.string (strA hw),.int .i64 hp,.int .i64 x.1,.string (strA x.2.1),.string (strA x.2.2)]))):=by
 have H:=hide h
 have hlt:=h.at_.lt
 have hn0:¬ w.heap.size=b:=by omega
 have hn1:¬ w.heap.size+1=b:=by omega
 have hn2:¬ w.heap.size+1+1=b:=by omega
 clear h
 unfold headV
 go_enter Tryz.func125,Tryz.ntmps125
 go_upto_region 1 with fail
 go_cut [7] (fun v wc=>∃ (T:Nat) (y:Nat×PS),v=.pointer (some ⟨T,0,none⟩)∧mayL t.data.toList [tLower,tUpper,tLength] s=.ok y∧RC wc b t y.2 rv mc mt∧Mod b w wc∧w.heap.size≤T∧wc.heap[T]?=some (.cells #[.string (strA hw),.int .i64 hp,.int .i64 y.1,.string ⟨#[]⟩,.string ⟨#[]⟩] 264))
 case first=>
  go_region_with (first | (go_at_call 152;refine (turnTags_any _).mono ?_;rintro e w' ⟨rfl,rfl⟩;skip) | (go_at_call 180;refine (may_any b _ 3 3 [tLower,tUpper,tLength] t s rv mc mt _ (by first | exact ((H.out.alloc _).alloc _).drew | exact (((H.out.alloc _).alloc _).alloc _).drew) (by first | exact (txt_newAt _ _ (by simp)).drew | exact ((txt_newAt _ _ (by simp)).alloc _).drew) rfl (by decide)).mono ?_;intro e w1 h1;rcases h1.cases with ⟨y,v,hy,rfl,hv,hc,hm⟩ | ⟨f,hf,⟨bb,hz,rfl,hcc⟩,hm⟩;rotate_left;exact ⟨rfl,RPost.err (thenL_err hf) (by first | exact (((Mod.refl b w).alloc _).alloc _).trans (mod_drew hm) | exact ((((Mod.refl b w).alloc _).alloc _).alloc _).trans (mod_drew hm)) ⟨bb,by simp at hz;omega,rfl,hcc⟩⟩;unfold numV at hv;subst hv;have hhb:=blk_mod (g:=w.heap.size) (o:=.cells #[.string (strA hw),.int .i64 hp] 216) (by first | exact blk_alloc (blk_new _ _) | exact blk_alloc (blk_alloc (blk_new _ _))) (mod_drew hm) hn0;have hh0:w1.cell? ⟨w.heap.size,0,none⟩=some (.string (strA hw)):=blk_cell hhb 0;have hh1:w1.cell? ⟨w.heap.size,1,none⟩=some (.int .i64 hp):=blk_cell hhb 1;clear hhb;(first | (have tb:=blk_mod (g:=w.heap.size+1) (o:=zeroSet) (blk_alloc (blk_newAt (by simp))) (mod_drew hm) hn1;have t0:w1.cell? ⟨w.heap.size+1,0,none⟩=some (.string ⟨#[]⟩):=blk_cell tb 0;have t1:w1.cell? ⟨w.heap.size+1,1,none⟩=some (.int .i64 0):=blk_cell tb 1;have t2:w1.cell? ⟨w.heap.size+1,2,none⟩=some (.int .i64 0):=blk_cell tb 2;have t3:w1.cell? ⟨w.heap.size+1,3,none⟩=some (.string ⟨#[]⟩):=blk_cell tb 3;have t4:w1.cell? ⟨w.heap.size+1,4,none⟩=some (.string ⟨#[]⟩):=blk_cell tb 4;have tf:=blk_frozen tb;have TB:=hide tb;clear tb) | (have tb:=blk_mod (g:=w.heap.size+1+1) (o:=zeroSet) (blk_newAt (by simp)) (mod_drew hm) hn2;have t0:w1.cell? ⟨w.heap.size+1+1,0,none⟩=some (.string ⟨#[]⟩):=blk_cell tb 0;have t1:w1.cell? ⟨w.heap.size+1+1,1,none⟩=some (.int .i64 0):=blk_cell tb 1;have t2:w1.cell? ⟨w.heap.size+1+1,2,none⟩=some (.int .i64 0):=blk_cell tb 2;have t3:w1.cell? ⟨w.heap.size+1+1,3,none⟩=some (.string ⟨#[]⟩):=blk_cell tb 3;have t4:w1.cell? ⟨w.heap.size+1+1,4,none⟩=some (.string ⟨#[]⟩):=blk_cell tb 4;have tf:=blk_frozen tb;have TB:=hide tb;clear tb) | skip);have hzz:=hm.size;simp at hzz;have hz9:w.heap.size < w1.heap.size:=(by omega);have hh0a:∀ o,(w1.alloc o).cell? ⟨w.heap.size,0,none⟩=some (.string (strA hw)):=(fun o=>by rw [World.cell?_alloc_past _ _ _ hz9];exact hh0);have hh1a:∀ o,(w1.alloc o).cell? ⟨w.heap.size,1,none⟩=some (.int .i64 hp):=(fun o=>by rw [World.cell?_alloc_past _ _ _ hz9];exact hh1);have HY:=hide hy;have HC:=hide hc;have HMM:Hid (Mod b w w1):=(by first | exact (((Mod.refl b w).alloc _).alloc _).trans (mod_drew hm) | exact ((((Mod.refl b w).alloc _).alloc _).alloc _).trans (mod_drew hm));clear h1 hy hc hm;skip))
  all_goals (go_wp2_with fail;go_meet)
  all_goals first
   | (have hTB:=TB;exact ⟨_,y,rfl,HY.out,((((HC.out.setNew (by omega) _ _).setNew (by omega) _ _).setNew (by omega) _ _).setNew (by omega) _ _).setNew (by omega) _ _,((((HMM.out.setNew (by omega) _ _).setNew (by omega) _ _).setNew (by omega) _ _).setNew (by omega) _ _).setNew (by omega) _ _,by omega,heap_setCell_at _ _ _ _ _ _ (heap_setCell_at _ _ _ _ _ _ (heap_setCell_at _ _ _ _ _ _ (heap_setCell_at _ _ _ _ _ _ (heap_setCell_at _ _ _ _ _ _ TB.out))))⟩)
   | exact ⟨w1.heap.size,y,rfl,HY.out,HC.out.alloc _,HMM.out.alloc _,by omega,blk_new _ _⟩
 case rest=>
  obtain ⟨T,y,rfl,hy,hc,hm,hT,hb⟩:=hcut
  have hlt2:=blk_lt hb
  have hbT:b < T:=by omega
  have HY:=hide hy
  have HC:=hide hc
  have HM:=hide hm
  have HB:=hide hb
  clear hy hc hm hb
  go_wp2_with fail
  refine (string_aName b t y.2 rv mc mt _ HC.out).mono ?_
  intro e w1 h1
  rcases h1.cases with ⟨y1,v1,hy1,rfl,hv1,hc1,hm1⟩ | ⟨f,hf,⟨bb,hz,rfl,hcc⟩,hm1⟩
  rotate_left
  ·exact ⟨rfl,RPost.err ((thenL_ok HY.out).trans (thenL_err hf)) (HM.out.trans hm1) ⟨bb,Nat.le_trans HM.out.size hz,rfl,hcc⟩⟩
  unfold strV at hv1
  subst hv1
  have HY1:=hide hy1
  have HC1:=hide hc1
  have HM1:=hide (HM.out.trans hm1)
  have HB1:=hide (blk_mod HB.out hm1 (by omega))
  have hx1:y1.1.length≤600:=by
   have h1:=(stringL_mu (l:=t.data.toList) (by simpa using HC.out.le) hy1).2
   have h2:=HC.out.sz.1
   rw [h1];exact h2
  clear h1 hy1 hc1 hm1
  go_wp2_with fail
  refine (small_any (strA y1.1) _ (by rw [strA_size];omega)).mono ?_
  rintro e w2 ⟨rfl,hbl⟩
  have hb2:=blk_mod HB1.out (Mod.of_below (b:=b) hbl) (by omega)
  have t3:w2.cell? ⟨T,3,none⟩=some (.string ⟨#[]⟩):=blk_cell hb2 3
  have tf:=blk_frozen hb2
  have HC2:=hide (HC1.out.below hbl)
  have HM2:=hide (HM1.out.trans (Mod.of_below (b:=b) hbl))
  have HB2:=hide hb2
  clear hb2 hbl
  go_wp2_with fail
  refine (string_anything b t y1.2 rv mc mt _ (HC2.out.setNew hbT _ _)).mono ?_
  intro e w3 h3
  rcases h3.cases with ⟨y3,v3,hy3,rfl,hv3,hc3,hm3⟩ | ⟨f,hf,⟨bb,hz,rfl,hcc⟩,hm3⟩
  rotate_left
  ·exact ⟨rfl,RPost.err ((thenL_ok HY.out).trans ((thenL_ok HY1.out).trans (thenL_err hf))) ((HM2.out.setNew hT _ _).trans hm3) ⟨bb,Nat.le_trans (HM2.out.setNew hT _ _).size hz,rfl,hcc⟩⟩
  unfold strV at hv3
  subst hv3
  have hb3:=blk_mod (heap_setCell_at _ T 3 (.string ⟨(smallL y1.1).toArray⟩) _ _ HB2.out) hm3 (by omega)
  have t4:w3.cell? ⟨T,4,none⟩=some (.string ⟨#[]⟩):=blk_cell hb3 4
  have tf3:=blk_frozen hb3
  have HY3:=hide hy3
  have HC3:=hide hc3
  have HM3:=hide ((HM2.out.setNew hT 3 (.string ⟨(smallL y1.1).toArray⟩)).trans hm3)
  have HB3:=hide hb3
  clear hb3 h3 hy3 hc3 hm3 t3 tf
  go_wp2_with fail
  have HB4:=hide (heap_setCell_at _ T 4 (.string (strA y3.1)) _ _ HB3.out)
  have HC4:=hide (HC3.out.setNew hbT 4 (.string (strA y3.1)))
  have HM4:=hide (HM3.out.setNew hT 4 (.string (strA y3.1)))
  have HP:=hide (pass_any b w3.heap.size 1 1 [[59]] t y3.2 rv mc mt _ (HC4.out.alloc (.cells (tcells [[59]]).toArray 9)) (txt_newAt _ _ (by simp [World.setCell])) rfl (by decide))
  refine HP.out.mono ?_
  intro e w5 h5
  rcases h5.cases with ⟨y5,v5,hy5,rfl,hv5,hc5,hm5⟩ | ⟨f,hf,⟨bb,hz,rfl,hcc⟩,hm5⟩
  rotate_left
  ·exact ⟨rfl,RPost.err ((thenL_ok HY.out).trans ((thenL_ok HY1.out).trans ((thenL_ok HY3.out).trans (thenL_err hf)))) ((HM4.out.alloc _).trans hm5) ⟨bb,Nat.le_trans (HM4.out.alloc _).size hz,rfl,hcc⟩⟩
  unfold numV at hv5
  subst hv5
  have hb5:=blk_mod (blk_alloc HB4.out) hm5 (by omega)
  have q0:w5.cell? ⟨T,0,none⟩=some (.string (strA hw)):=blk_cell hb5 0
  have q1:w5.cell? ⟨T,1,none⟩=some (.int .i64 hp):=blk_cell hb5 1
  have q2:w5.cell? ⟨T,2,none⟩=some (.int .i64 y.1):=blk_cell hb5 2
  have q3:w5.cell? ⟨T,3,none⟩=some (.string (strA (smallL y1.1))):=blk_cell hb5 3
  have q4:w5.cell? ⟨T,4,none⟩=some (.string (strA y3.1)):=blk_cell hb5 4
  have HY5:=hide hy5
  have HC5:=hide hc5
  have HM5:=hide ((HM4.out.alloc (.cells (tcells [[59]]).toArray 9)).trans hm5)
  clear h5 hy5 hc5 hm5 hb5 HP t4 tf3
  go_wp2
  go_ret
  exact RPost.ok ((thenL_ok HY.out).trans ((thenL_ok HY1.out).trans ((thenL_ok HY3.out).trans (thenL_ok HY5.out)))) HM5.out rfl HC5.out
end Go.Proofs.YtgnkjijocdmniaaGreatDoor
