import Derived.Test.YtbiclelojbfnbaaGreatDoorZMWays
namespace Go.Proofs.YtbiclelojbfnbaaGreatDoor
set_option linter.unusedVariables false
set_option linter.unusedSimpArgs false
set_option maxRecDepth 100000
set_option maxHeartbeats 4000000
open Go.RowKit
attribute [local go_sem ↓] Go.wp_at_zero Go.wp_at_succ
theorem jumpAt_way (taken:Bool) (p:Nat) (i:Ins) (av bv:Value) (B xb sb:Nat) (M:Msg) (m:MS) (count:Nat) (w:World) (h:MAt w B xb sb M m count) (ho:InsOk w i av bv) (hp:w.heap[p]?=some (.cells #[.bool taken] 4)) (hpB:p < xb+7) :
  Calls Tryz.prog 268 #[.pointer (some ⟨xb,0,none⟩),insV i av bv,.pointer (some ⟨p,0,none⟩)] w (MPost (doCond taken count i m) B xb sb M count w):=by
 obtain ⟨aa,ac,rfl⟩:=ho.a.len
 obtain ⟨ba,bc,rfl⟩:=ho.b.len
 have HM:=hide h
 have hxl:xb < w.heap.size:=cell_lt h.now
 have HP:=hide hp
 have hpl:=blk_lt hp
 clear ho hp
 unfold insV
 cases hmay:mayL' count m i.n
 ·have HR:Hid (doCond taken count i m=.error (12,(m.now:Int))):=by show _=_;unfold doCond failL;rw [hmay];rfl
  clear h
  go_enter Tryz.func268,Tryz.ntmps268
  go_wp2_with fail
  refine (mayPass_any i.n B xb sb M m count _ (HM.out.box _)).mono ?_
  rintro e w1 ⟨rfl,hb1⟩
  rw [hmay]
  have HB1:=hide (((Below.refl w.heap.size w).alloc (Nat.le_refl _) _).trans (hb1.mono (by simp)))
  have hnow:=(HM.out.below HB1.out).now
  clear hb1
  go_wp2_with (go_at_call 199;refine (must_no _ _ _ hnow).mono ?_;rintro e w' ⟨⟨bb,hz,rfl,hcc⟩,hb⟩)
  exact ⟨rfl,by rw [HR.out];exact MPost.from (MPost.err rfl (Fr.of_below hb) ⟨bb,hz,rfl,hcc⟩) (Fr.of_below HB1.out)⟩
 have hle:=may_le hmay
 have hnn:0≤i.n:=by unfold mayL' at hmay;simp at hmay;exact hmay.1
 have hcl:count≤400:=by obtain ⟨kv,hMI0⟩:=h;exact hMI0.cl
 clear h
 have HR0:Hid (m.stack=[]→doCond taken count i m=.error (12,(m.now:Int))):=fun h0=>by unfold doCond failL;rw [hmay,if_pos rfl,if_pos h0]
 have HR:Hid (m.stack≠[]→doCond taken count i m=.ok (if topL m=taken then goL (popL m) (m.next+i.n.toNat) else popL m)):=fun h0=>by unfold doCond;rw [hmay,if_pos rfl,if_neg h0]
 go_enter Tryz.func268,Tryz.ntmps268
 go_wp2_with fail
 refine (mayPass_any i.n B xb sb M m count _ (HM.out.box _)).mono ?_
 rintro e w1 ⟨rfl,hb1⟩
 rw [hmay]
 have HB1:=hide (((Below.refl w.heap.size w).alloc (Nat.le_refl _) _).trans (hb1.mono (by simp)))
 have p1:w1.cell? ⟨p,0,none⟩=some (.bool taken):=blk_cell (blk_below HP.out HB1.out) 0
 have hbx1:=blk_below (blk_new w (.cells #[.int .i64 i.op,.int .i64 i.n,.int .i64 i.tag,.bool i.oct,.slice aa i.a.length ac,.slice ba i.b.length bc,.int .i64 i.at_] 62)) hb1
 have HBX:=hide hbx1
 have HTK:=hide (take_any B xb sb M m count w1.drew ((HM.out.below HB1.out).below (below_drew1 (Below.refl _ _))))
 obtain ⟨d,hd⟩:∃ d:Nat,i.n=(d:Int):=⟨i.n.toNat,by omega⟩
 rw [hd] at HR hle
 rw [Int.toNat_natCast] at HR hle
 have HF1:Hid (∀ w2:World,Fr (PMc B xb) w1.drew w2→w2.cell? ⟨p,0,none⟩=some (.bool taken)∧w2.cell? ⟨w.heap.size,1,none⟩=some (.int .i64 (d:Int))):=fun w2 hf=>by
  have h1:w2.heap[p]?=some (.cells #[.bool taken] 4):=hf.block p _ (blk_below HP.out (below_drew1 HB1.out)) (fun hh=>by
   have:=hh.2
   unfold kO stO at this
   simp at this
   omega)
  have h2:=hf.block w.heap.size _ (show w1.drew.heap[w.heap.size]?=_ from HBX.out) (PMc.not (by decide) (by decide) (by decide) (by decide))
  refine ⟨blk_cell h1 0,?_⟩
  rw [blk_cell h2,← hd];rfl
 clear hb1 hbx1 hmay hnn hd
 obtain ⟨tp,htp⟩:∃ tp,topL m=tp:=⟨_,rfl⟩
 rw [htp] at HR HTK
 clear htp
 go_wp2_with (go_at_call 199;refine (must_true _ _).mono ?_;rintro e w' ⟨rfl,hww⟩;rw [hww];clear hww)
 have hsum:IntKind.i64.wrap ((m.next:Int)+(d:Int))=(m.next:Int)+(d:Int):=by rw [IntKind.wrap_i64];omega
 have hne:¬ w.heap.size=xb:=by omega
 have hne':¬ xb=w.heap.size:=by omega
 by_cases hte:tp=taken
 ·subst hte
  have HRR:Hid (m.stack≠[]→doCond tp count i m=.ok (goL (popL m) (m.next+d))):=fun h0=>by rw [HR.out h0,if_pos rfl]
  have hbe:(tp == tp)=true:=by cases tp <;> rfl
  go_region_with (first | (go_at_call 266;refine HTK.out.mono ?_;rintro e w2 (⟨h0,⟨bb,hz,rfl,hcc⟩,hb⟩ | ⟨h0,rfl,hm2,hf2⟩);exact ⟨rfl,by rw [HR0.out h0];exact MPost.from (MPost.err rfl (Fr.of_below hb) ⟨bb,hz,rfl,hcc⟩) (Fr.of_below (below_drew1 HB1.out))⟩;obtain ⟨kv,hMI⟩:=hm2;have p2:=(HF1.out w2 hf2).1;have q2:=(HF1.out w2 hf2).2;have c3:w2.cell? ⟨xb,3,none⟩=some (.int .i64 (m.next:Int)):=blk_cell hMI.blk 3;have f3:=blk_frozen hMI.blk;have HM2:=hide hMI;have HF2:=hide hf2;have H0:=hide h0;clear hMI hf2 h0;skip))
  all_goals go_wp2_with fail
  all_goals go_region
  all_goals go_wp2
  all_goals go_end0
  all_goals rw [HRR.out H0.out]
  all_goals have HG:=HM2.out.go (m.next+d) hle
  all_goals have HGD:=(HM2.out.below (below_drew1 (Below.refl _ _))).go (m.next+d) hle
  all_goals first
   | exact MPost.from (MPost.ok rfl (HF2.out.trans HG.2.drew) (HG.1.below (below_drew1 (Below.refl _ _)))) (Fr.of_below (below_drew1 HB1.out))
   | exact MPost.from (MPost.ok rfl ((HF2.out.drew).trans HGD.2) HGD.1) (Fr.of_below (below_drew1 HB1.out))
 ·have HRR:Hid (m.stack≠[]→doCond taken count i m=.ok (popL m)):=fun h0=>by rw [HR.out h0,if_neg hte]
  have hbe:(tp == taken)=false:=by cases tp <;> cases taken <;> first | rfl | exact absurd rfl hte
  clear hte
  go_region_with (first | (go_at_call 266;refine HTK.out.mono ?_;rintro e w2 (⟨h0,⟨bb,hz,rfl,hcc⟩,hb⟩ | ⟨h0,rfl,hm2,hf2⟩);exact ⟨rfl,by rw [HR0.out h0];exact MPost.from (MPost.err rfl (Fr.of_below hb) ⟨bb,hz,rfl,hcc⟩) (Fr.of_below (below_drew1 HB1.out))⟩;obtain ⟨kv,hMI⟩:=hm2;have p2:=(HF1.out w2 hf2).1;have q2:=(HF1.out w2 hf2).2;have c3:w2.cell? ⟨xb,3,none⟩=some (.int .i64 (m.next:Int)):=blk_cell hMI.blk 3;have f3:=blk_frozen hMI.blk;have HM2:=hide hMI;have HF2:=hide hf2;have H0:=hide h0;clear hMI hf2 h0;skip))
  all_goals go_wp2
  all_goals go_end0
  all_goals rw [HRR.out H0.out]
  all_goals exact MPost.from (MPost.ok rfl HF2.out ⟨_,HM2.out⟩) (Fr.of_below (below_drew1 HB1.out))
end Go.Proofs.YtbiclelojbfnbaaGreatDoor
