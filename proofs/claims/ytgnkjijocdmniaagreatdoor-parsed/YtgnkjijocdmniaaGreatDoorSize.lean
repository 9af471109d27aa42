import Derived.Test.YtgnkjijocdmniaaGreatDoorTests4
namespace Go.Proofs.YtgnkjijocdmniaaGreatDoor
set_option linter.unusedVariables false
set_option linter.unusedSimpArgs false
set_option maxRecDepth 100000
set_option maxHeartbeats 4000000
open Go.RowKit
attribute [local go_sem ↓] Go.wp_at_zero Go.wp_at_succ
theorem TxtAt.alloc {w:World} {g:Nat} {zs:List (List UInt8)} (h:TxtAt w g zs) (o:Obj):TxtAt (w.alloc o) g zs:=h.below ((Below.refl _ _).alloc (Nat.le_refl _) _)
theorem TxtAt.drew {w:World} {g:Nat} {zs:List (List UInt8)} (h:TxtAt w g zs):TxtAt w.drew g zs:=h
abbrev zeroSize:Obj:=.cells #[.string ⟨#[]⟩,.int .i64 0,.int .i64 0,.int .i64 0] 311
theorem size_any (hw:List UInt8) (hp:Nat) (d:Int) (b:Nat) (t:ByteArray) (s:PS) (rv:Value) (mc mt:Nat) (w:World) (h:RC w b t s rv mc mt) :
 Calls Tryz.prog 140 #[.pointer (some ⟨b,0,none⟩),headV hw hp,.int .i64 d] w (RPost (sizeL t.data.toList hp s) b t rv mc mt w (fun x w' v=>v=.iface 311 (.agg #[.string (strA hw),.int .i64 hp,.int .i64 x.tag,.int .i64 x.num]))):=by
 have H:=hide h
 have hlt:=h.at_.lt
 have hn0:¬ w.heap.size=b:=by omega
 have hn1:¬ w.heap.size+1=b:=by omega
 have hn2:¬ w.heap.size+1+1=b:=by omega
 clear h
 unfold headV
 go_enter Tryz.func140,Tryz.ntmps140
 go_upto_region 1 with fail
 go_cut [7] (fun v wc=>∃ (T:Nat) (y:Nat×PS),v=.pointer (some ⟨T,0,none⟩)∧passL t.data.toList [tOver,tUnder] s=.ok y∧RC wc b t y.2 rv mc mt∧Mod b w wc∧w.heap.size≤T∧wc.heap[T]?=some (.cells #[.string (strA hw),.int .i64 hp,.int .i64 y.1,.int .i64 0] 311))
 case first=>
  go_region_with (first | (go_at_call 191;refine (sizeTags_any _).mono ?_;rintro e w' ⟨rfl,rfl⟩;skip) | (go_at_call 177;refine (pass_any b _ 2 2 [tOver,tUnder] t s rv mc mt _ (by first | exact ((H.out.alloc _).alloc _).drew | exact (((H.out.alloc _).alloc _).alloc _).drew) (by first | exact (txt_newAt _ _ (by simp)).drew | exact ((txt_newAt _ _ (by simp)).alloc _).drew) rfl (by decide)).mono ?_;intro e w1 h1;rcases h1.cases with ⟨y,v,hy,rfl,hv,hc,hm⟩ | ⟨f,hf,⟨bb,hz,rfl,hcc⟩,hm⟩;rotate_left;exact ⟨rfl,RPost.err (thenL_err hf) (by first | exact (((Mod.refl b w).alloc _).alloc _).trans (mod_drew hm) | exact ((((Mod.refl b w).alloc _).alloc _).alloc _).trans (mod_drew hm)) ⟨bb,by simp at hz;omega,rfl,hcc⟩⟩;unfold numV at hv;subst hv;have hhb:=blk_mod (g:=w.heap.size) (o:=.cells #[.string (strA hw),.int .i64 hp] 216) (by first | exact blk_alloc (blk_new _ _) | exact blk_alloc (blk_alloc (blk_new _ _))) (mod_drew hm) hn0;have hh0:w1.cell? ⟨w.heap.size,0,none⟩=some (.string (strA hw)):=blk_cell hhb 0;have hh1:w1.cell? ⟨w.heap.size,1,none⟩=some (.int .i64 hp):=blk_cell hhb 1;clear hhb;(first | (have tb:=blk_mod (g:=w.heap.size+1) (o:=zeroSize) (blk_alloc (blk_newAt (by simp))) (mod_drew hm) hn1;have t0:w1.cell? ⟨w.heap.size+1,0,none⟩=some (.string ⟨#[]⟩):=blk_cell tb 0;have t1:w1.cell? ⟨w.heap.size+1,1,none⟩=some (.int .i64 0):=blk_cell tb 1;have t2:w1.cell? ⟨w.heap.size+1,2,none⟩=some (.int .i64 0):=blk_cell tb 2;have t3:w1.cell? ⟨w.heap.size+1,3,none⟩=some (.int .i64 0):=blk_cell tb 3;have tf:=blk_frozen tb;have TB:=hide tb;clear tb) | (have tb:=blk_mod (g:=w.heap.size+1+1) (o:=zeroSize) (blk_newAt (by simp)) (mod_drew hm) hn2;have t0:w1.cell? ⟨w.heap.size+1+1,0,none⟩=some (.string ⟨#[]⟩):=blk_cell tb 0;have t1:w1.cell? ⟨w.heap.size+1+1,1,none⟩=some (.int .i64 0):=blk_cell tb 1;have t2:w1.cell? ⟨w.heap.size+1+1,2,none⟩=some (.int .i64 0):=blk_cell tb 2;have t3:w1.cell? ⟨w.heap.size+1+1,3,none⟩=some (.int .i64 0):=blk_cell tb 3;have tf:=blk_frozen tb;have TB:=hide tb;clear tb) | skip);have hzz:=hm.size;simp at hzz;have hz9:w.heap.size < w1.heap.size:=(by omega);have hh0a:∀ o,(w1.alloc o).cell? ⟨w.heap.size,0,none⟩=some (.string (strA hw)):=(fun o=>by rw [World.cell?_alloc_past _ _ _ hz9];exact hh0);have hh1a:∀ o,(w1.alloc o).cell? ⟨w.heap.size,1,none⟩=some (.int .i64 hp):=(fun o=>by rw [World.cell?_alloc_past _ _ _ hz9];exact hh1);have HY:=hide hy;have HC:=hide hc;have HMM:Hid (Mod b w w1):=(by first | exact (((Mod.refl b w).alloc _).alloc _).trans (mod_drew hm) | exact ((((Mod.refl b w).alloc _).alloc _).alloc _).trans (mod_drew hm));clear h1 hy hc hm;skip))
  all_goals (go_wp2_with fail;go_meet)
  all_goals first
   | exact ⟨_,y,rfl,HY.out,HC.out.alloc _,HMM.out.alloc _,by omega,blk_new _ _⟩
   | exact ⟨_,y,rfl,HY.out,(((HC.out.setNew (by omega) _ _).setNew (by omega) _ _).setNew (by omega) _ _).setNew (by omega) _ _,(((HMM.out.setNew (by omega) _ _).setNew (by omega) _ _).setNew (by omega) _ _).setNew (by omega) _ _,by omega,heap_setCell_at _ _ _ _ _ _ (heap_setCell_at _ _ _ _ _ _ (heap_setCell_at _ _ _ _ _ _ (heap_setCell_at _ _ _ _ _ _ TB.out)))⟩
 case rest=>
  obtain ⟨T,y,rfl,hy,hc,hm,hT,hb⟩:=hcut
  have hlt2:=blk_lt hb
  have h1:wc.cell? ⟨b,1,none⟩=some (.int .i64 y.2.1.kind):=hc.at_.cell 1
  have h5:wc.cell? ⟨b,5,none⟩=some (.int .i64 y.2.1.num):=hc.at_.cell 5
  have t3:wc.cell? ⟨T,3,none⟩=some (.int .i64 0):=blk_cell hb 3
  have tf:=blk_frozen hb
  have HY:=hide hy
  have HC:=hide hc
  have HM:=hide hm
  have HB:=hide hb
  clear hy hc hm hb
  by_cases hk:y.2.1.kind=4
  rotate_left
  ·have hk':((y.2.1.kind:Int) == 4)=false:=by simp;omega
   have HK:=hide hk
   clear hk
   go_wp2_with fail
   refine (demand_no b 4 _ _ t y.2.1 y.2.2 rv mc mt _ HC.out.at_ rfl rfl).mono ?_
   rintro e w1 ⟨⟨bb,hz,rfl,hcc⟩,hm⟩
   exact ⟨rfl,RPost.err ((thenL_ok HY.out).trans (if_neg HK.out)) (HM.out.trans (Mod.of_below hm)) ⟨bb,Nat.le_trans HM.out.size hz,rfl,hcc⟩⟩
  have hk':((y.2.1.kind:Int) == 4)=true:=by simp;omega
  have HK:=hide hk
  clear hk
  go_wp2_with fail
  refine (demand_yes b _ _ _ rfl).mono ?_
  rintro e w' ⟨rfl,hww⟩
  subst hww
  go_wp2_with fail
  refine (next_rc b t y.2 rv mc mt _ (HC.out.setNew (by omega) _ _)).mono ?_
  rintro e w2 (⟨z,hz,rfl,hc2,hm2⟩ | ⟨f2,hf2,⟨bb,hz,rfl,hcc⟩,hm2⟩)
  rotate_left
  ·exact ⟨rfl,RPost.err ((thenL_ok HY.out).trans ((if_pos HK.out).trans (nextThen_err hf2))) ((HM.out.setNew hT _ _).trans hm2) ⟨bb,Nat.le_trans (HM.out.setNew hT _ _).size hz,rfl,hcc⟩⟩
  have hb2:=blk_mod (heap_setCell_at _ T 3 (.int .i64 y.2.1.num) _ _ HB.out) hm2 (by omega)
  have q0:w2.cell? ⟨T,0,none⟩=some (.string (strA hw)):=blk_cell hb2 0
  have q1:w2.cell? ⟨T,1,none⟩=some (.int .i64 hp):=blk_cell hb2 1
  have q2:w2.cell? ⟨T,2,none⟩=some (.int .i64 y.1):=blk_cell hb2 2
  have q3:w2.cell? ⟨T,3,none⟩=some (.int .i64 y.2.1.num):=blk_cell hb2 3
  have HM2:=hide ((HM.out.setNew hT 3 (.int .i64 y.2.1.num)).trans hm2)
  have HC2:=hide hc2
  have HZ:=hide hz
  clear hb2 hm2 hc2 hz tf t3 h1 h5
  go_wp2
  go_ret
  exact RPost.ok ((thenL_ok HY.out).trans ((if_pos HK.out).trans (nextThen_ok HZ.out))) HM2.out rfl HC2.out
end Go.Proofs.YtgnkjijocdmniaaGreatDoor
