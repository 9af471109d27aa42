import Derived.Test.YtbiclelojbfnbaaGreatDoorNext
import Derived.Test.YtbiclelojbfnbaaGreatDoorPlainAsk
namespace Go.Proofs.YtbiclelojbfnbaaGreatDoor
open Go.RowKit
set_option linter.unusedVariables false
set_option linter.unusedSimpArgs false

theorem getD_map_strA (zs : List (List UInt8)) (j : Nat) (h : j < zs.length) : (zs.map strA).getD j ByteArray.empty = strA (zs.getD j []) := by
  simp [List.getD_eq_getElem?_getD, h]

set_option maxHeartbeats 1000000 in
theorem which_any (b g n c : Nat) (zs : List (List UInt8)) (t : ByteArray) (x : Wd) (p : Nat) (rv : Value) (mc mt : Nat) (w : World) (hr : RAt w b t x p rv mc mt) (hz : TxtAt w g zs) (hn : n = zs.length) (hl : zs.length ≤ 1000) :
    Calls Tryz.prog 303 #[.pointer (some ⟨b, 0, none⟩), .slice (some ⟨g, 0, none⟩) n c] w fun e w' => e = .returned (.int .i64 (whichL zs x.spelt)) ∧ w' = w := by
  have h3 : w.cell? ⟨b, 3, none⟩ = some (.string (strA x.spelt)) := hr.cell 3
  have hw := whichL_le zs x.spelt
  have hi := Tryz.slices_Index_string g 0 n c (zs.map strA) (strA x.spelt) w (by simp [hn]) (by omega) (fun j hj => by
    have hj' : j < zs.length := by simpa using hj
    rw [Nat.zero_add, getD_map_strA _ _ hj']; exact hz j hj')
  rw [hn, List.take_of_length_le (by simp)] at hi
  have e := idx_which zs x.spelt
  have e2 : Lib.idxOfS (zs.map strA) (strA x.spelt) = (whichL zs x.spelt : Int) - 1 := by omega
  rw [e2] at hi
  clear e e2
  have HI := hide hi
  clear hi
  subst hn
  go_enter Tryz.func303, Tryz.ntmps303
  go_wp2_with (go_at_call 115; refine HI.out.mono ?_; rintro e w' ⟨rfl, rfl⟩)
  go_ret
  exact ⟨ret_int (by omega), rfl⟩

set_option maxHeartbeats 1000000 in
theorem demand_yes (b : Nat) (B : Bool) (er : Int) (w : World) (hB : B = true) :
    Calls Tryz.prog 258 #[.pointer (some ⟨b, 0, none⟩), .bool B, .int .i64 er] w fun e w' => e = .returned (.tuple #[]) ∧ w' = w := by
  subst hB
  go_enter Tryz.func258, Tryz.ntmps258
  go_wp2
  go_end0
  exact ⟨rfl, rfl⟩

set_option maxHeartbeats 1000000 in
theorem demand_no (b er : Nat) (B : Bool) (E : Int) (t : ByteArray) (x : Wd) (p : Nat) (rv : Value) (mc mt : Nat) (w : World) (hr : RAt w b t x p rv mc mt) (hB : B = false) (hE : E = er) :
    Calls Tryz.prog 258 #[.pointer (some ⟨b, 0, none⟩), .bool B, .int .i64 E] w fun e w' => Threw ⟨er, x.pos⟩ w e w' ∧ Below w.heap.size w w' := by
  subst hB
  subst hE
  have h2 : w.cell? ⟨b, 2, none⟩ = some (.int .i64 x.pos) := hr.cell 2
  clear hr
  go_enter Tryz.func258, Tryz.ntmps258
  go_wp2_with (go_at_call 118; refine (fault_any _ _ _).mono ?_; rintro e w' ⟨rfl, rfl⟩)
  exact ⟨rfl, threw_at er x.pos (Nat.le_refl _) rfl, (Below.refl _ _).alloc (Nat.le_refl _) _⟩

end Go.Proofs.YtbiclelojbfnbaaGreatDoor
