import Derived.Test.YtbiclelojbfnbaaGreatDoorSmall
import Derived.Test.YtbiclelojbfnbaaGreatDoorPlainScan
import Derived.Test.YtbiclelojbfnbaaGreatDoorShelf
namespace Go.Proofs.YtbiclelojbfnbaaGreatDoor
open Go.RowKit
set_option linter.unusedVariables false
set_option linter.unusedSimpArgs false

def Threw (f : Flt) (w : World) (e : Ending) (w' : World) : Prop :=
  ∃ b, w.heap.size ≤ b ∧ e = .panicked [{ v := .iface 140 (.pointer (some ⟨b, 0, none⟩)), recovered := false }] ∧
    w'.heap[b]? = some (.cells #[.int .i64 f.err, .int .i64 f.pos] 145)

set_option maxHeartbeats 400000 in
theorem fault_any (er at_ : Int) (w : World) :
    Calls Tryz.prog 118 #[.int .i64 er, .int .i64 at_] w fun e w' => e = .returned (.pointer (some ⟨w.heap.size, 0, none⟩)) ∧ w' = w.alloc (.cells #[.int .i64 er, .int .i64 at_] 145) := by
  go_enter Tryz.func118, Tryz.ntmps118
  go_wp2
  go_ret
  exact ⟨rfl, rfl⟩

theorem lineLen_lt (l : List UInt8) (h : Lib.indexByte l 10 < 0) : (lineLen l : Int) = l.length := by unfold lineLen; rw [if_pos h]
theorem lineLen_ge (l : List UInt8) (h : ¬ Lib.indexByte l 10 < 0) : (lineLen l : Int) = Lib.indexByte l 10 + 1 := by unfold lineLen; rw [if_neg h]; omega

set_option maxHeartbeats 400000 in
theorem lineLength_any (s : ByteArray) (w : World) (hs : s.size ≤ 140737488355328) :
    Calls Tryz.prog 314 #[.string s] w fun e w' => e = .returned (.int .i64 (lineLen s.data.toList)) ∧ w' = w := by
  have hle := indexByte_lt s.data.toList 10
  have hge := Lib.indexByte_ge s.data.toList 10
  have h1 := hide (lineLen_lt s.data.toList)
  have h2 := hide (lineLen_ge s.data.toList)
  have hl : (s.data.toList.length : Int) = s.size := by simp
  rw [hl] at hle
  have e10 : (Int.toNat 10).toUInt8 = (10 : UInt8) := rfl
  by_cases hn : Lib.indexByte s.data.toList 10 < 0
  · go_enter Tryz.func314, Tryz.ntmps314
    go_wp2_with (go_at_call 312; refine (Tryz.strings_IndexByte _ _ _).mono ?_; rintro e w' ⟨rfl, rfl⟩)
    go_ret
    exact ⟨ret_int (by rw [h1.out hn, hl]), rfl⟩
  · go_enter Tryz.func314, Tryz.ntmps314
    go_wp2_with (go_at_call 312; refine (Tryz.strings_IndexByte _ _ _).mono ?_; rintro e w' ⟨rfl, rfl⟩)
    go_ret
    exact ⟨ret_int (by rw [h2.out (by omega)]), rfl⟩
end Go.Proofs.YtbiclelojbfnbaaGreatDoor
