import Derived.Test.YtbiclelojbfnbaaGreatDoorSkip
namespace Go.Proofs.YtbiclelojbfnbaaGreatDoor
open Go.RowKit
set_option linter.unusedVariables false
set_option linter.unusedSimpArgs false

theorem extract_take (s : ByteArray) (a n : Nat) : (s.extract a (a + n)).data.toList = (s.data.toList.drop a).take n := by
  rw [ByteArray.data_extract, Array.toList_extract, List.extract_eq_take_drop]
  rw [show a + n - a = n from by omega]

theorem bcell {W w1 : World} (hb : Below W.heap.size W w1) : (∀ b o, b < W.heap.size → w1.cell? ⟨b, o, none⟩ = W.cell? ⟨b, o, none⟩) ∧ (∀ b o, b < W.heap.size → w1.frozen? ⟨b, o, none⟩ = W.frozen? ⟨b, o, none⟩) :=
  ⟨fun b o h => hb.cell (p := ⟨b, o, none⟩) h, fun b o h => hb.frozen (p := ⟨b, o, none⟩) h⟩

/-- A word as a value. -/
def wdV (x : Wd) : Value := .agg #[.int .i64 x.kind, .int .i64 x.pos, .string ⟨x.spelt.toArray⟩, .string ⟨x.said.toArray⟩, .int .i64 x.num]

def ScanPost (r : Except Flt (Wd × Nat)) (w : World) (e : Ending) (w' : World) : Prop :=
  Below w.heap.size w w' ∧
  match r with
  | .ok x => e = .returned (.tuple #[wdV x.1, .int .i64 x.2])
  | .error f => Threw f w e w'
theorem ScanPost.ok {r : Except Flt (Wd × Nat)} {x : Wd × Nat} {w w' : World} {v : Value} {n : Int} (h : r = .ok x) (hb : Below w.heap.size w w') (hv : v = wdV x.1) (hn : n = x.2) : ScanPost r w (.returned (.tuple #[v, .int .i64 n])) w' := by
  subst h; subst hv; subst hn; exact ⟨hb, rfl⟩
theorem ScanPost.err {r : Except Flt (Wd × Nat)} {f : Flt} {w w' : World} {e : Ending} (h : r = .error f) (hb : Below w.heap.size w w') (ht : Threw f w e w') : ScanPost r w e w' := by
  subst h; exact ⟨hb, ht⟩
theorem Threw.up {f : Flt} {w w1 w' : World} {e : Ending} (h : Threw f w1 e w') (hz : w.heap.size ≤ w1.heap.size) : Threw f w e w' := by
  obtain ⟨b, hb, h⟩ := h
  exact ⟨b, Nat.le_trans hz hb, h⟩

theorem threw_at (er p : Nat) {w w1 : World} {b : Nat} (hz : w.heap.size ≤ w1.heap.size) (hb : b = w1.heap.size) :
    Threw ⟨er, p⟩ w (.panicked [{ v := .iface 140 (.pointer (some ⟨b, 0, none⟩)), recovered := false }]) (w1.alloc (.cells #[.int .i64 er, .int .i64 p] 145)) := by
  subst hb; exact (threw_new er p w1).up hz

set_option maxHeartbeats 1000000 in
theorem scanSpelt_any (k : Int) (s : ByteArray) (at_ n : Nat) (w : World) (hs : s.size ≤ 4294967280) (ha : at_ + n ≤ s.size) :
    Calls Tryz.prog 308 #[.int .i64 k, .string s, .int .i64 at_, .int .i64 n] w fun e w' =>
      e = .returned (.tuple #[.agg #[.int .i64 k, .int .i64 at_, .string ⟨(smallL ((s.data.toList.drop at_).take n)).toArray⟩, .string ⟨#[]⟩, .int .i64 0], .int .i64 (at_ + n : Nat)]) ∧ Below w.heap.size w w' := by
  obtain ⟨rs, hx⟩ : ∃ rs, s.extract at_ (at_ + n) = rs := ⟨_, rfl⟩
  have HL : Hid (rs.data.toList = (s.data.toList.drop at_).take n) := by rw [← hx]; exact extract_take s at_ n
  have hz : rs.size ≤ s.size := by
    rw [Lib.size_eq, HL.out]; simp; omega
  go_enter Tryz.func308, Tryz.ntmps308
  go_wp2_with fail
  refine (small_any rs _ (by omega)).mono ?_
  rintro e w1 ⟨rfl, hb⟩
  rw [HL.out]
  obtain ⟨hc, hf⟩ := bcell hb
  have hz1 : w.heap.size < w1.heap.size := by have := hb.size; simp at this; omega
  have HB := hide hb
  clear hb
  go_wp2
  have hb0 : Below w.heap.size w w1 := ((Below.refl _ w).alloc (Nat.le_refl _) _).trans (HB.out.mono (by simp))
  refine bodyPost_ret (v := .tuple #[.agg #[.int .i64 k, .int .i64 at_, .string ⟨(smallL ((s.data.toList.drop at_).take n)).toArray⟩, .string ⟨#[]⟩, .int .i64 0], .int .i64 (at_ + n : Nat)]) (by simp [results, Tryz.results308, go_sem, hc, hz1]) rfl ⟨rfl, ?_⟩
  exact ((((hb0.setCell (Nat.le_refl _) _).setCell (Nat.le_refl _) _).setCell (Nat.le_refl _) _).setCell (Nat.le_refl _) _).setCell (Nat.le_refl _) _

end Go.Proofs.YtbiclelojbfnbaaGreatDoor
