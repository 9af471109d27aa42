import Derived.Test.YtbiclelojbfnbaaGreatDoorSize
namespace Go.Proofs.YtbiclelojbfnbaaGreatDoor
open Go.RowKit
set_option linter.unusedVariables false
set_option linter.unusedSimpArgs false
attribute [local go_sem ↓] Go.wp_at_zero Go.wp_at_succ

set_option maxRecDepth 100000 in
set_option maxHeartbeats 1000000 in
theorem keep_any (hw : List UInt8) (hp : Nat) (d : Int) (b : Nat) (t : ByteArray) (s : PS) (rv : Value) (mc mt : Nat) (w : World) (h : RC w b t s rv mc mt) :
    Calls Tryz.prog 152 #[.pointer (some ⟨b, 0, none⟩), headV hw hp, .int .i64 d] w (RPost (passL t.data.toList [[59]] s) b t rv mc mt w (fun _ _ v => v = .iface 318 (.agg #[.string (strA hw), .int .i64 hp, .int .i64 1, .string ⟨#[]⟩]))) := by
  have H := hide h
  have hlt := h.at_.lt
  clear h
  unfold headV
  go_enter Tryz.func152, Tryz.ntmps152
  go_wp2_with fail
  have HP := hide (pass_any b (w.heap.size + 1) 1 1 [[59]] t s rv mc mt _ ((H.out.alloc (.cells #[.string (strA hw), .int .i64 hp] 266)).alloc (.cells (tcells [[59]]).toArray 9)) (txt_newAt _ _ (by simp)) rfl (by decide))
  refine HP.out.mono ?_
  intro e w1 h1
  rcases h1.cases with ⟨y, v, hy, rfl, hv, hc, hm⟩ | ⟨f, hf, ⟨bb, hz, rfl, hcc⟩, hm⟩
  rotate_left
  · exact ⟨rfl, RPost.err hf ((((Mod.refl b w).alloc _).alloc _).trans hm) ⟨bb, by simp at hz; omega, rfl, hcc⟩⟩
  unfold numV at hv
  subst hv
  have hhb := blk_mod (g := w.heap.size) (o := .cells #[.string (strA hw), .int .i64 hp] 266) (blk_alloc (blk_new _ _)) hm (by omega)
  have hh0 : w1.cell? ⟨w.heap.size, 0, none⟩ = some (.string (strA hw)) := blk_cell hhb 0
  have hh1 : w1.cell? ⟨w.heap.size, 1, none⟩ = some (.int .i64 hp) := blk_cell hhb 1
  have HY := hide hy
  have HC := hide hc
  have HM := hide ((((Mod.refl b w).alloc _).alloc _).trans hm)
  clear h1 hy hc hm hhb HP
  go_wp2
  go_ret
  exact RPost.ok HY.out HM.out rfl HC.out

set_option maxRecDepth 100000 in
set_option maxHeartbeats 1000000 in
theorem discard_any (hw : List UInt8) (hp : Nat) (d : Int) (b : Nat) (t : ByteArray) (s : PS) (rv : Value) (mc mt : Nat) (w : World) (h : RC w b t s rv mc mt) :
    Calls Tryz.prog 153 #[.pointer (some ⟨b, 0, none⟩), headV hw hp, .int .i64 d] w (RPost (passL t.data.toList [[59]] s) b t rv mc mt w (fun _ _ v => v = .iface 336 (.agg #[.string (strA hw), .int .i64 hp]))) := by
  have H := hide h
  have hlt := h.at_.lt
  clear h
  unfold headV
  go_enter Tryz.func153, Tryz.ntmps153
  go_wp2_with fail
  have HP := hide (pass_any b (w.heap.size + 1) 1 1 [[59]] t s rv mc mt _ ((H.out.alloc (.cells #[.string (strA hw), .int .i64 hp] 266)).alloc (.cells (tcells [[59]]).toArray 9)) (txt_newAt _ _ (by simp)) rfl (by decide))
  refine HP.out.mono ?_
  intro e w1 h1
  rcases h1.cases with ⟨y, v, hy, rfl, hv, hc, hm⟩ | ⟨f, hf, ⟨bb, hz, rfl, hcc⟩, hm⟩
  rotate_left
  · exact ⟨rfl, RPost.err hf ((((Mod.refl b w).alloc _).alloc _).trans hm) ⟨bb, by simp at hz; omega, rfl, hcc⟩⟩
  unfold numV at hv
  subst hv
  have hhb := blk_mod (g := w.heap.size) (o := .cells #[.string (strA hw), .int .i64 hp] 266) (blk_alloc (blk_new _ _)) hm (by omega)
  have hh0 : w1.cell? ⟨w.heap.size, 0, none⟩ = some (.string (strA hw)) := blk_cell hhb 0
  have hh1 : w1.cell? ⟨w.heap.size, 1, none⟩ = some (.int .i64 hp) := blk_cell hhb 1
  have HY := hide hy
  have HC := hide hc
  have HM := hide ((((Mod.refl b w).alloc _).alloc _).trans hm)
  clear h1 hy hc hm hhb HP
  go_wp2
  go_ret
  exact RPost.ok HY.out HM.out rfl HC.out

set_option maxRecDepth 100000 in
set_option maxHeartbeats 1000000 in
theorem stop_any (hw : List UInt8) (hp : Nat) (d : Int) (b : Nat) (t : ByteArray) (s : PS) (rv : Value) (mc mt : Nat) (w : World) (h : RC w b t s rv mc mt) :
    Calls Tryz.prog 154 #[.pointer (some ⟨b, 0, none⟩), headV hw hp, .int .i64 d] w (RPost (passL t.data.toList [[59]] s) b t rv mc mt w (fun _ _ v => v = .iface 337 (.agg #[.string (strA hw), .int .i64 hp]))) := by
  have H := hide h
  have hlt := h.at_.lt
  clear h
  unfold headV
  go_enter Tryz.func154, Tryz.ntmps154
  go_wp2_with fail
  have HP := hide (pass_any b (w.heap.size + 1) 1 1 [[59]] t s rv mc mt _ ((H.out.alloc (.cells #[.string (strA hw), .int .i64 hp] 266)).alloc (.cells (tcells [[59]]).toArray 9)) (txt_newAt _ _ (by simp)) rfl (by decide))
  refine HP.out.mono ?_
  intro e w1 h1
  rcases h1.cases with ⟨y, v, hy, rfl, hv, hc, hm⟩ | ⟨f, hf, ⟨bb, hz, rfl, hcc⟩, hm⟩
  rotate_left
  · exact ⟨rfl, RPost.err hf ((((Mod.refl b w).alloc _).alloc _).trans hm) ⟨bb, by simp at hz; omega, rfl, hcc⟩⟩
  unfold numV at hv
  subst hv
  have hhb := blk_mod (g := w.heap.size) (o := .cells #[.string (strA hw), .int .i64 hp] 266) (blk_alloc (blk_new _ _)) hm (by omega)
  have hh0 : w1.cell? ⟨w.heap.size, 0, none⟩ = some (.string (strA hw)) := blk_cell hhb 0
  have hh1 : w1.cell? ⟨w.heap.size, 1, none⟩ = some (.int .i64 hp) := blk_cell hhb 1
  have HY := hide hy
  have HC := hide hc
  have HM := hide ((((Mod.refl b w).alloc _).alloc _).trans hm)
  clear h1 hy hc hm hhb HP
  go_wp2
  go_ret
  exact RPost.ok HY.out HM.out rfl HC.out

end Go.Proofs.YtbiclelojbfnbaaGreatDoor
