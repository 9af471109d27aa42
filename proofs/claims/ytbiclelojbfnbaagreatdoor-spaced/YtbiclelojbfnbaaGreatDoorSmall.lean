import Derived.Test.YtbiclelojbfnbaaGreatDoorLeaf
import Derived.Lib.ConvBytes
import Derived.Lib.AtoiErrMem
namespace Go.Proofs.YtbiclelojbfnbaaGreatDoor
open Go.RowKit
set_option linter.unusedVariables false
set_option linter.unusedSimpArgs false

def smallTo (s : ByteArray) (k j : Nat) : UInt8 := if j < k then smallB (s.data.toList.getD j 0) else s.data.toList.getD j 0

theorem smallB_val (c : UInt8) (h : isCapN (c.toNat : Int) = true) : ((smallB c).toNat : Int) = (c.toNat : Int) - 65 + 97 := by
  have hc := h
  unfold isCapN at hc
  simp at hc
  have e : smallB c = c - 65 + 97 := by unfold smallB; rw [if_pos h]
  rw [e, UInt8.toNat_add, UInt8.toNat_sub]
  simp
  omega
theorem smallB_not (c : UInt8) (h : isCapN (c.toNat : Int) = false) : smallB c = c := by
  unfold smallB; rw [if_neg (by rw [h]; decide)]

theorem smallTo_keep (s : ByteArray) (k j : Nat) (h : isCapN ((s.data.toList.getD k 0).toNat : Int) = false) : smallTo s k j = smallTo s (k + 1) j := by
  unfold smallTo
  by_cases e : j = k
  · subst e; rw [if_neg (by omega), if_pos (by omega), smallB_not _ h]
  · by_cases l : j < k
    · rw [if_pos l, if_pos (by omega)]
    · rw [if_neg l, if_neg (by omega)]
theorem smallTo_other (s : ByteArray) (k j : Nat) (e : ¬ j = k) : smallTo s k j = smallTo s (k + 1) j := by
  unfold smallTo
  by_cases l : j < k
  · rw [if_pos l, if_pos (by omega)]
  · rw [if_neg l, if_neg (by omega)]
theorem smallTo_self (s : ByteArray) (k : Nat) : smallTo s (k + 1) k = smallB (s.data.toList.getD k 0) := by
  unfold smallTo; rw [if_pos (by omega)]

set_option maxHeartbeats 1000000 in
theorem small_any (s : ByteArray) (w : World) (hs : s.size ≤ 140737488355328) :
    Calls Tryz.prog 247 #[.string s] w fun e w' => e = .returned (.string ⟨(smallL s.data.toList).toArray⟩) ∧ Below w.heap.size w w' := by
  have hcv := Lib.run_convert_string_bytes (P := Tryz.prog) w 9 172 5 s (u := .string) Tryz.underlying9 Tryz.underlying172 Tryz.underlying5
  have hB := Lib.bytesWorld_below w 5 s
  have hcell : ∀ j, j < s.size → (Lib.bytesWorld w 5 s).cell? ⟨w.heap.size, j, none⟩ = some (.int .u8 (smallTo s 0 j).toNat) := fun j hj => by
    rw [Lib.bytesWorld_cell w 5 s j hj]; simp [smallTo]
  have hfz : ∀ j, j < s.size → (Lib.bytesWorld w 5 s).frozen? ⟨w.heap.size, j, none⟩ = false := fun j hj => by
    unfold World.frozen?; rw [Lib.bytesWorld_at_new]; simp [Lib.bytesCells]; omega
  have hsz := Lib.bytesWorld_size w 5 s
  generalize Lib.bytesWorld w 5 s = W1 at hcv hB hcell hfz hsz
  have hlist : ∀ (wr : World), (∀ j, j < s.size → wr.cell? ⟨w.heap.size, j, none⟩ = some (.int .u8 (smallTo s s.size j).toNat)) →
      ∀ C, (convert 172 9 (.slice (some ⟨w.heap.size, 0, none⟩) s.size C)).run Tryz.prog wr = .ok (.string ⟨(smallL s.data.toList).toArray⟩) wr := fun wr hw C => by
    have hl : (smallL s.data.toList).length = s.size := by simp [smallL]
    have := run_convert_bytes_back (P := Tryz.prog) wr 172 9 5 ⟨w.heap.size, 0, none⟩ C (smallL s.data.toList) Tryz.underlying172 Tryz.underlying5 Tryz.underlying9 (fun j hj => by
      rw [addr_add0, hw j (by omega)]
      have hj' : j < s.data.toList.length := by simp [smallL] at hj; simpa using hj
      simp only [smallTo, smallL, List.getElem_map]
      rw [if_pos (by omega), List.getD_eq_getElem?_getD, List.getElem?_eq_getElem hj']; rfl)
    rw [hl] at this
    exact this
  have HL := hide hlist
  clear hlist
  go_enter Tryz.func247, Tryz.ntmps247
  go_wp2_with fail
  generalize grownCap w s.size 0 5 = C at *
  go_loopw [4, 5, 10] (fun _ _ i wr => ∃ k : Nat, k ≤ s.size ∧ i = .int .i64 k ∧ Below w.heap.size w wr ∧ (∀ j, j < s.size → wr.cell? ⟨w.heap.size, j, none⟩ = some (.int .u8 (smallTo s k j).toNat)) ∧ (∀ j, j < s.size → wr.frozen? ⟨w.heap.size, j, none⟩ = false) ∧ wr.heap.size = w.heap.size + 1) (fun _ _ i _ => s.size - (intOf i).toNat)
  case atStart => exact ⟨0, by omega, rfl, hB, hcell, hfz, hsz⟩
  case round =>
    obtain ⟨k, hk, rfl, hB', hcell', hfz', hsz'⟩ := hrel
    clear hB hcell hfz hsz hcv
    by_cases hlt : k < s.size
    · have hck := hcell' k hlt
      have hfk := hfz' k hlt
      simp only [smallTo] at hck
      rw [if_neg (by omega)] at hck
      generalize hcd : s.data.toList.getD k 0 = c at hck
      have HCD := hide hcd
      clear hcd
      have hb := UInt8.toNat_lt c
      have HC := hide hcell'
      have HF := hide hfz'
      clear hcell' hfz'
      cases hc : isCapN (c.toNat : Int)
      · go_wp2_with (go_at_call 304; refine (isCapital_any _ _).mono ?_; rintro e w' ⟨rfl, rfl⟩)
        refine ⟨⟨k + 1, by omega, by go_num, hB', fun j hj => ?_, HF.out, hsz'⟩, by simp [intOf]; omega⟩
        rw [HC.out j hj, smallTo_keep s k j (by rw [HCD.out]; exact hc)]
      · have hv := hide (smallB_val c hc)
        have hc1 : 65 ≤ (c.toNat : Int) ∧ (c.toNat : Int) ≤ 90 := by unfold isCapN at hc; simpa using hc
        obtain ⟨hc1, hc2⟩ := hc1
        go_wp2_with (go_at_call 304; refine (isCapital_any _ _).mono ?_; rintro e w' ⟨rfl, rfl⟩)
        refine ⟨⟨k + 1, by omega, by go_num, ?_, fun j hj => ?_, fun j hj => ?_, ?_⟩, by simp [intOf]; omega⟩
        · exact hB'.setCell (Nat.le_refl _) _
        · by_cases e : j = k
          · subst e
            rw [World.cell?_setCell_same _ _ _ hck, smallTo_self, HCD.out]
            rw [hv.out]
          · rw [World.cell?_setCell_other _ _ _ _ (by simp [e]), HC.out j hj, smallTo_other s k j e]
        · rw [World.frozen?_setCell]; exact HF.out j hj
        · simpa using hsz'
    · have hk' : k = s.size := by omega
      subst hk'
      have hr := HL.out wr hcell' C
      go_wp2
      go_ret
      exact ⟨rfl, hB'⟩

end Go.Proofs.YtbiclelojbfnbaaGreatDoor
