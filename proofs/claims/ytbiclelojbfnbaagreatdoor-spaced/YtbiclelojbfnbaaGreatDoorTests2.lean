import Derived.Test.YtbiclelojbfnbaaGreatDoorTests
namespace Go.Proofs.YtbiclelojbfnbaaGreatDoor
open Go.RowKit
set_option linter.unusedVariables false
set_option linter.unusedSimpArgs false
attribute [local go_sem ↓] Go.wp_at_zero Go.wp_at_succ

theorem mod_drew {b : Nat} {w w' : World} (h : Mod b w.drew w') : Mod b w w' := ⟨h.os, h.tape, h.output, h.size, h.block⟩
theorem head_cells {w w1 : World} {b : Nat} (hw : List UInt8) (hp : Nat) (hm : Mod b (w.alloc (.cells #[.string (strA hw), .int .i64 hp] 266)) w1) (hb : b < w.heap.size) :
    w1.cell? ⟨w.heap.size, 0, none⟩ = some (.string (strA hw)) ∧ w1.cell? ⟨w.heap.size, 1, none⟩ = some (.int .i64 hp) := by
  have h := blk_mod (g := w.heap.size) (blk_new w (.cells #[.string (strA hw), .int .i64 hp] 266)) hm (by omega)
  exact ⟨blk_cell h 0, blk_cell h 1⟩

set_option maxRecDepth 100000 in
set_option maxHeartbeats 2000000 in
theorem exists_any (hw : List UInt8) (hp : Nat) (d : Int) (b F : Nat) (t : ByteArray) (s : PS) (rv : Value) (mc mt : Nat) (w : World) (h : RC w b t s rv mc mt) (hF : 2 * t.size + 1 < F) :
    Calls Tryz.prog 170 #[.pointer (some ⟨b, 0, none⟩), headV hw hp, .int .i64 d] w (RPost (stringsL t.data.toList (fun _ => 0) F s) b t rv mc mt w (fun xs w' v => ∃ u, v = .iface 380 (.agg #[.string (strA hw), .int .i64 hp, u]) ∧ slB w.heap.size xs w' u)) := by
  have H := hide h
  have hlt := h.at_.lt
  clear h
  unfold headV
  go_enter Tryz.func170, Tryz.ntmps170
  go_wp2_with fail
  go_region_with (first | (go_at_call 254; refine (strings_any _ (fun _ => 0) b F t s rv mc mt _ ((H.out.alloc _).drew) (strOk_any _ _ _ _ _ _) (H.out.mu_lt hF)).mono ?_; intro e w1 h1; rcases h1.cases with ⟨y, v, hy, rfl, hs1, hc, hm⟩ | ⟨f, hf, ⟨bb, hz, rfl, hcc⟩, hm⟩; rotate_left; exact ⟨rfl, RPost.err hf (((Mod.refl b w).alloc _).trans (mod_drew hm)) ⟨bb, by simp at hz; omega, rfl, hcc⟩⟩; obtain ⟨hh0, hh1⟩ := head_cells hw hp (mod_drew hm) hlt; have HY := hide hy; have HC := hide hc; have HM := hide (((Mod.refl b w).alloc (.cells #[.string (strA hw), .int .i64 hp] 266)).trans (mod_drew hm)); have HS := hide (hs1.weak (B' := w.heap.size) (by simp)); obtain ⟨g1, n1, c1, rfl⟩ := hs1.form; clear h1 hy hc hm hs1; skip))
  all_goals go_wp2
  all_goals go_ret
  all_goals exact RPost.ok HY.out HM.out ⟨_, rfl, HS.out⟩ HC.out

end Go.Proofs.YtbiclelojbfnbaaGreatDoor
