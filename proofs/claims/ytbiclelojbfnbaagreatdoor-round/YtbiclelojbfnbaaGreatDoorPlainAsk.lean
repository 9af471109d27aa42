/- The plain functions of asking: which word it is; may, pass, string, strings. It imports nothing of the program. -/
import Derived.Test.YtbiclelojbfnbaaGreatDoorPlainRead
import Derived.Lib.SlicesS
namespace Go.Proofs.YtbiclelojbfnbaaGreatDoor

/-- Which of these it is, counted from 1, or 0. -/
def whichL : List (List UInt8) → List UInt8 → Nat
  | [], _ => 0
  | s :: r, x => if s = x then 1 else if whichL r x = 0 then 0 else whichL r x + 1

def strA (x : List UInt8) : ByteArray := ⟨x.toArray⟩

theorem strA_inj {x y : List UInt8} (h : strA x = strA y) : x = y := by
  have := congrArg (fun b : ByteArray => b.data.toList) h
  simpa [strA] using this

theorem idxFrom_which (x : List UInt8) : ∀ (zs : List (List UInt8)) (i : Nat), Lib.idxFromS (zs.map strA) (strA x) i = if whichL zs x = 0 then -1 else (i : Int) + whichL zs x - 1
  | [], i => rfl
  | s :: r, i => by
    rw [List.map_cons]
    unfold whichL Lib.idxFromS
    by_cases h : s = x
    · subst h
      simp
    · have h' : ¬ strA s = strA x := fun e => h (strA_inj e)
      rw [if_neg h, if_neg h', idxFrom_which x r (i + 1)]
      by_cases h0 : whichL r x = 0
      · simp [h0]
      · simp [h0]; omega
theorem idx_which (zs : List (List UInt8)) (x : List UInt8) : Lib.idxOfS (zs.map strA) (strA x) + 1 = whichL zs x := by
  unfold Lib.idxOfS
  rw [idxFrom_which]
  split <;> omega
theorem contains_which (zs : List (List UInt8)) (x : List UInt8) : Lib.containsS (zs.map strA) (strA x) = decide (0 < whichL zs x) := by
  unfold Lib.containsS
  have := idx_which zs x
  by_cases h : 0 < whichL zs x
  · simp [h]; omega
  · simp [h]; omega
theorem whichL_le (zs : List (List UInt8)) (x : List UInt8) : whichL zs x ≤ zs.length := by
  induction zs with
  | nil => simp [whichL]
  | cons s r ih =>
    unfold whichL
    split
    · simp
    · split <;> simp <;> omega

/-- The word that is asked now, and the place behind it. -/
abbrev PS := Wd × Nat

def mayL (l : List UInt8) (zs : List (List UInt8)) (s : PS) : Except Flt (Nat × PS) :=
  if whichL zs s.1.spelt = 0 then .ok (0, s) else
  match nextL l s.2 with
  | .error f => .error f
  | .ok s' => .ok (whichL zs s.1.spelt, s')

def passL (l : List UInt8) (zs : List (List UInt8)) (s : PS) : Except Flt (Nat × PS) :=
  if whichL zs s.1.spelt = 0 then .error ⟨4, s.1.pos⟩ else
  match nextL l s.2 with
  | .error f => .error f
  | .ok s' => .ok (whichL zs s.1.spelt, s')

def stringL (l : List UInt8) (chk : List UInt8 → Nat) (s : PS) : Except Flt (List UInt8 × PS) :=
  if s.1.kind = 5 then
    if chk s.1.said = 0 then
      match nextL l s.2 with
      | .error f => .error f
      | .ok s' => .ok (s.1.said, s')
    else .error ⟨chk s.1.said, s.1.pos⟩
  else .error ⟨4, s.1.pos⟩

/-- How much there is left to read. -/
def mu (n : Nat) (s : PS) : Nat := 2 * (n - s.2) + (if s.1.kind = 0 then 0 else 1)
theorem nextL_mu {l : List UInt8} {s y : PS} (hp : s.2 ≤ l.length) (hk : ¬ s.1.kind = 0) (h : nextL l s.2 = .ok y) : mu l.length y < mu l.length s := by
  obtain ⟨h1, h2, h3, h4, h5⟩ := nextL_le l s.2 hp y h
  unfold mu
  rw [if_neg hk]
  by_cases h0 : y.1.kind = 0
  · rw [if_pos h0]; omega
  · have := h5 h0
    rw [if_neg h0]; omega
theorem nextL_mu_le {l : List UInt8} {s y : PS} (hp : s.2 ≤ l.length) (h : nextL l s.2 = .ok y) : mu l.length y ≤ mu l.length s + 1 := by
  obtain ⟨h1, h2, h3, h4, h5⟩ := nextL_le l s.2 hp y h
  unfold mu
  split <;> split <;> omega
theorem whichL_nil (zs : List (List UInt8)) (h : ∀ z ∈ zs, z ≠ []) : whichL zs [] = 0 := by
  induction zs with
  | nil => rfl
  | cons a r ih =>
    unfold whichL
    rw [if_neg (h a (by simp)), if_pos (ih fun z hz => h z (by simp [hz]))]
theorem passL_mu {l : List UInt8} {zs : List (List UInt8)} {s : PS} {y : Nat × PS} (hp : s.2 ≤ l.length) (he : s.1.kind = 0 → s.1.spelt = []) (hz : ∀ z ∈ zs, z ≠ []) (h : passL l zs s = .ok y) : mu l.length y.2 < mu l.length s ∧ y.1 = whichL zs s.1.spelt ∧ ¬ y.1 = 0 := by
  unfold passL at h
  split at h
  · cases h
  · rename_i h0
    have hk : ¬ s.1.kind = 0 := fun e => h0 (by rw [he e]; exact whichL_nil zs hz)
    cases hn : nextL l s.2 with
    | error f => rw [hn] at h; cases h
    | ok s' => rw [hn] at h; cases h; exact ⟨nextL_mu hp hk hn, rfl, h0⟩
theorem mayL_mu {l : List UInt8} {zs : List (List UInt8)} {s : PS} {y : Nat × PS} (hp : s.2 ≤ l.length) (he : s.1.kind = 0 → s.1.spelt = []) (hz : ∀ z ∈ zs, z ≠ []) (h : mayL l zs s = .ok y) : mu l.length y.2 ≤ mu l.length s ∧ (¬ y.1 = 0 → mu l.length y.2 < mu l.length s) ∧ y.1 = whichL zs s.1.spelt ∧ (y.1 = 0 → y.2 = s) := by
  unfold mayL at h
  split at h
  · rename_i h0
    cases h
    exact ⟨Nat.le_refl _, fun h => absurd rfl h, h0.symm, fun _ => rfl⟩
  · rename_i h0
    have hk : ¬ s.1.kind = 0 := fun e => h0 (by rw [he e]; exact whichL_nil zs hz)
    cases hn : nextL l s.2 with
    | error f => rw [hn] at h; cases h
    | ok s' =>
      rw [hn] at h; cases h
      exact ⟨Nat.le_of_lt (nextL_mu hp hk hn), fun _ => nextL_mu hp hk hn, rfl, fun e => absurd e h0⟩
theorem stringL_mu {l : List UInt8} {chk : List UInt8 → Nat} {s : PS} {y : List UInt8 × PS} (hp : s.2 ≤ l.length) (h : stringL l chk s = .ok y) : mu l.length y.2 < mu l.length s ∧ y.1 = s.1.said := by
  unfold stringL at h
  split at h
  · rename_i hk
    split at h
    · cases hn : nextL l s.2 with
      | error f => rw [hn] at h; cases h
      | ok s' => rw [hn] at h; cases h; exact ⟨nextL_mu hp (by omega) hn, rfl⟩
    · cases h
  · cases h

/-- More strings in brackets, each behind a comma (fuel, those that were read). -/
def moreL (l : List UInt8) (chk : List UInt8 → Nat) : Nat → List (List UInt8) → PS → Except Flt (List (List UInt8) × PS)
  | 0, acc, s => .ok (acc, s)
  | f + 1, acc, s =>
    match passL l [[44], [93]] s with
    | .error e => .error e
    | .ok y =>
      if y.1 = 1 then
        match stringL l chk y.2 with
        | .error e => .error e
        | .ok z => moreL l chk f (acc ++ [z.1]) z.2
      else .ok (acc, y.2)

def stringsL (l : List UInt8) (chk : List UInt8 → Nat) (fuel : Nat) (s : PS) : Except Flt (List (List UInt8) × PS) :=
  match mayL l [[91]] s with
  | .error e => .error e
  | .ok y =>
    match stringL l chk y.2 with
    | .error e => .error e
    | .ok z => if y.1 = 0 then .ok ([z.1], z.2) else moreL l chk fuel [z.1] z.2

end Go.Proofs.YtbiclelojbfnbaaGreatDoor
