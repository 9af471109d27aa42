import Derived.Test.YtbiclelojbfnbaaGreatDoorMatch
import Derived.Deep.DeepCutAuto
namespace Go.Proofs.YtbiclelojbfnbaaGreatDoor
open Go.RowKit
set_option linter.unusedVariables false
set_option linter.unusedSimpArgs false
attribute [local go_sem ↓] Go.wp_at_zero Go.wp_at_succ

/-- A head, as a value. -/
def headV (hw : List UInt8) (hp : Nat) : Value := .agg #[.string (strA hw), .int .i64 hp]

/-- The variable that holds the reader. -/
def PrAt (w : World) (pr b : Nat) : Prop := w.cell? ⟨pr, 0, none⟩ = some (.pointer (some ⟨b, 0, none⟩)) ∧ pr ≠ b
theorem PrAt.mod {w w' : World} {pr b : Nat} (h : PrAt w pr b) (hm : Mod b w w') : PrAt w' pr b :=
  ⟨by rw [hm.cell (p := ⟨pr, 0, none⟩) (cell_lt h.1) h.2]; exact h.1, h.2⟩
theorem PrAt.lt {w : World} {pr b : Nat} (h : PrAt w pr b) : pr < w.heap.size := cell_lt (a := ⟨pr, 0, none⟩) h.1

set_option maxHeartbeats 1000000 in
theorem truth1_any (hw : List UInt8) (hp : Nat) (d : Int) (pt : Nat) (B : Bool) (w : World) (h : w.cell? ⟨pt, 0, none⟩ = some (.bool B)) :
    Calls Tryz.prog 251 #[headV hw hp, .int .i64 d, .pointer (some ⟨pt, 0, none⟩)] w fun e w' => e = .returned (.iface 373 (.agg #[.string (strA hw), .int .i64 hp, .bool B])) ∧ Below w.heap.size w w' := by
  have hlt := cell_lt h
  have h' : (w.alloc (.cells #[.string (strA hw), .int .i64 hp] 266)).cell? ⟨pt, 0, none⟩ = some (.bool B) := by rw [World.cell?_alloc_past _ _ _ hlt]; exact h
  unfold headV
  go_enter Tryz.func251, Tryz.ntmps251
  go_wp2
  go_ret
  exact ⟨rfl, (Below.refl _ _).alloc (Nat.le_refl _) _⟩

set_option maxRecDepth 100000 in
set_option maxHeartbeats 1000000 in
theorem header_any (hw : List UInt8) (hp : Nat) (d : Int) (pr : Nat) (b F : Nat) (t : ByteArray) (s : PS) (rv : Value) (mc mt : Nat) (w : World) (h : RC w b t s rv mc mt) (hpr : PrAt w pr b) (hF : 2 * t.size + 1 < F) :
    Calls Tryz.prog 163 #[headV hw hp, .int .i64 d, .pointer (some ⟨pr, 0, none⟩)] w (RPost (matchL t.data.toList F (fun _ => 0) 5 hp s) b t rv mc mt w (fun x w' v => ∃ u, v = .iface 281 u ∧ mtV w.heap.size hw x w' u)) := by
  have hlt := hpr.lt
  have h' : (w.alloc (.cells #[.string (strA hw), .int .i64 hp] 266)).cell? ⟨pr, 0, none⟩ = some (.pointer (some ⟨b, 0, none⟩)) := by rw [World.cell?_alloc_past _ _ _ hlt]; exact hpr.1
  have H := hide h
  clear h hpr
  unfold headV
  go_enter Tryz.func163, Tryz.ntmps163
  go_wp2_with fail
  refine (match_any _ (fun _ => 0) 5 hw hp b F t s rv mc mt _ (H.out.alloc _) (strOk_any _ _ _ _ _ _) hF).mono ?_
  intro e w1 h1
  rcases h1.cases with ⟨y, v, hy, rfl, ⟨fv, kv, rfl, hf1, hk1⟩, hc, hm⟩ | ⟨f, hf, ⟨bb, hz, rfl, hcc⟩, hm⟩
  rotate_left
  · exact ⟨rfl, RPost.err hf (((Mod.refl b w).alloc _).trans hm) ⟨bb, by simp at hz; omega, rfl, hcc⟩⟩
  have HY := hide hy
  have HC := hide hc
  have HM := hide (((Mod.refl b w).alloc _).trans hm)
  have HF1 := hide (hf1.weak (B' := w.heap.size) (by simp))
  have HK1 := hide (hk1.weak (B' := w.heap.size) (by simp))
  clear h1 hy hc hm
  obtain ⟨g1, n1, c1, rfl⟩ := hf1.form
  obtain ⟨g2, n2, c2, rfl⟩ := hk1.form
  clear hf1 hk1
  go_wp2
  go_ret
  exact RPost.ok HY.out HM.out ⟨_, rfl, _, _, rfl, HF1.out, HK1.out⟩ HC.out

set_option maxRecDepth 100000 in
set_option maxHeartbeats 1000000 in
theorem stringt_any (hw : List UInt8) (hp : Nat) (d : Int) (pr : Nat) (b F : Nat) (t : ByteArray) (s : PS) (rv : Value) (mc mt : Nat) (w : World) (h : RC w b t s rv mc mt) (hpr : PrAt w pr b) (hF : 2 * t.size + 1 < F) :
    Calls Tryz.prog 169 #[headV hw hp, .int .i64 d, .pointer (some ⟨pr, 0, none⟩)] w (RPost (matchL t.data.toList F (fun _ => 0) 7 hp s) b t rv mc mt w (fun x w' v => ∃ u, v = .iface 285 u ∧ mtV w.heap.size hw x w' u)) := by
  have hlt := hpr.lt
  have h' : (w.alloc (.cells #[.string (strA hw), .int .i64 hp] 266)).cell? ⟨pr, 0, none⟩ = some (.pointer (some ⟨b, 0, none⟩)) := by rw [World.cell?_alloc_past _ _ _ hlt]; exact hpr.1
  have H := hide h
  clear h hpr
  unfold headV
  go_enter Tryz.func169, Tryz.ntmps169
  go_wp2_with fail
  refine (match_any _ (fun _ => 0) 7 hw hp b F t s rv mc mt _ (H.out.alloc _) (strOk_any _ _ _ _ _ _) hF).mono ?_
  intro e w1 h1
  rcases h1.cases with ⟨y, v, hy, rfl, ⟨fv, kv, rfl, hf1, hk1⟩, hc, hm⟩ | ⟨f, hf, ⟨bb, hz, rfl, hcc⟩, hm⟩
  rotate_left
  · exact ⟨rfl, RPost.err hf (((Mod.refl b w).alloc _).trans hm) ⟨bb, by simp at hz; omega, rfl, hcc⟩⟩
  have HY := hide hy
  have HC := hide hc
  have HM := hide (((Mod.refl b w).alloc _).trans hm)
  have HF1 := hide (hf1.weak (B' := w.heap.size) (by simp))
  have HK1 := hide (hk1.weak (B' := w.heap.size) (by simp))
  clear h1 hy hc hm
  obtain ⟨g1, n1, c1, rfl⟩ := hf1.form
  obtain ⟨g2, n2, c2, rfl⟩ := hk1.form
  clear hf1 hk1
  go_wp2
  go_ret
  exact RPost.ok HY.out HM.out ⟨_, rfl, _, _, rfl, HF1.out, HK1.out⟩ HC.out

end Go.Proofs.YtbiclelojbfnbaaGreatDoor
