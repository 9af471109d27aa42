/- The plain functions of the reader: what is left behind a word. It imports nothing of the program. -/
import Derived.Test.YtbiclelojbfnbaaGreatDoorPlainScan
namespace Go.Proofs.YtbiclelojbfnbaaGreatDoor

/-- The next word behind a place, and where it ends. -/
def nextL (l : List UInt8) (p : Nat) : Except Flt (Wd × Nat) :=
  match skipF (l.length + 1) (l.drop p) p with
  | .error f => .error f
  | .ok n => scanL (l.drop n) n

theorem skipF_le (l : List UInt8) : ∀ (f p n : Nat), p ≤ l.length → skipF f (l.drop p) p = .ok n → p ≤ n ∧ n ≤ l.length
  | 0, p, n, hp, h => by
    simp only [skipF] at h
    cases h
    exact ⟨Nat.le_refl _, hp⟩
  | f + 1, p, n, hp, h => by
    by_cases hlt : p < l.length
    · rw [List.drop_eq_getElem_cons hlt] at h
      simp only [skipF] at h
      split at h
      · have := skipF_le l f (p + 1) n (by omega) h
        omega
      · rw [← List.drop_eq_getElem_cons hlt] at h
        split at h
        · rw [List.drop_drop] at h
          have h1 := lineLen_le (l.drop p)
          rw [List.length_drop] at h1
          have := skipF_le l f _ n (by omega) h
          omega
        · split at h
          · split at h
            · cases h
            · rename_i hp2 hi
              have e : List.drop 1 (List.drop (p + 1) l) = List.drop (p + 1 + 1) l := by rw [List.drop_drop]
              rw [e] at h hi
              rw [List.drop_drop] at h
              have h1 := index_room (l.drop (p + 1 + 1)) [42, 47]
              rw [List.length_drop] at h1
              have h2 : 2 ≤ (l.drop p).length := by
                have := (List.isPrefixOf_iff_prefix.1 hp2).length_le
                simpa using this
              rw [List.length_drop] at h2
              have h3 : Lib.index (l.drop (p + 1 + 1)) [42, 47] + 2 ≤ (l.length - (p + 1 + 1) : Nat) := by
                rcases h1 with h1 | h1
                · exact absurd h1 hi
                · simpa using h1
              have := skipF_le l f _ n (by omega) h
              omega
          · cases h
            exact ⟨Nat.le_refl _, hp⟩
    · rw [List.drop_of_length_le (by omega)] at h
      simp only [skipF] at h
      cases h
      exact ⟨Nat.le_refl _, hp⟩

theorem quoteL_le : ∀ (r : List UInt8) (x : List UInt8 × Nat), quoteL r = some x → 1 ≤ x.2 ∧ x.2 ≤ r.length
  | [], x, h => by cases h
  | c :: r, x, h => by
    rw [quoteL.eq_def] at h
    dsimp only at h
    split at h
    · cases h; simp
    · split at h
      · cases r with
        | nil => cases h
        | cons d r' =>
          dsimp only at h
          cases hq : quoteL r' with
          | none => rw [hq] at h; cases h
          | some y =>
            have := quoteL_le r' y hq
            rw [hq] at h
            cases h
            simp; omega
      · cases hq : quoteL r with
        | none => rw [hq] at h; cases h
        | some y =>
          have := quoteL_le r y hq
          rw [hq] at h
          cases h
          simp; omega

theorem quoteL_said : ∀ (r : List UInt8) (x : List UInt8 × Nat), quoteL r = some x → x.1.length < x.2
  | [], x, h => by cases h
  | c :: r, x, h => by
    rw [quoteL.eq_def] at h
    dsimp only at h
    split at h
    · cases h; simp
    · split at h
      · cases r with
        | nil => cases h
        | cons d r' =>
          dsimp only at h
          cases hq : quoteL r' with
          | none => rw [hq] at h; cases h
          | some y =>
            have := quoteL_said r' y hq
            rw [hq] at h
            cases h
            simp; omega
      · cases hq : quoteL r with
        | none => rw [hq] at h; cases h
        | some y =>
          have := quoteL_said r y hq
          rw [hq] at h
          cases h
          simp; omega

theorem digLen_le0 (l : List UInt8) : digLen l ≤ l.length := by
  unfold digLen; exact (List.takeWhile_prefix _).length_le
theorem getD_zero_of_le (l : List UInt8) (n : Nat) (h : l.length ≤ n) : l.getD n 0 = 0 := by
  rw [List.getD_eq_getElem?_getD, List.getElem?_eq_none h]; rfl

/-- A word that is read lies in the text; but for the end it has a byte at least. -/
theorem scanL_le (l : List UInt8) (p : Nat) (hp : p ≤ l.length) (x : Wd × Nat) (h : scanL (l.drop p) p = .ok x) :
    x.1.pos = p ∧ x.2 ≤ l.length ∧ p ≤ x.2 ∧ (x.1.kind = 0 → p = l.length ∧ x.1.spelt = []) ∧ (x.1.kind ≠ 0 → p < x.2) := by
  by_cases hlt : p < l.length
  · obtain ⟨c, r, hcr, hrl⟩ : ∃ c r, l.drop p = c :: r ∧ r.length = l.length - (p + 1) := ⟨_, _, List.drop_eq_getElem_cons hlt, by simp⟩
    rw [hcr] at h
    clear hcr
    unfold scanL at h
    dsimp only at h
    have hn := nameLen_le (c :: r)
    have hn1 := nameLen_le r
    simp only [List.length_cons] at hn hn1
    split at h
    · rename_i hl
      have hpos : 1 ≤ nameLen (c :: r) := by
        simp only [nameLen]; rw [if_pos hl]; omega
      cases h
      simp [spellL]; omega
    · split at h
      · split at h
        · cases h
        · cases h; simp [spellL]; omega
      · split at h
        · rename_i hg
          have hd := digLen_le0 (c :: r)
          have hd1 : 1 ≤ digLen (c :: r) := by
            simp [digLen, hg]
          simp only [List.length_cons] at hd
          obtain ⟨n', v', hn', he⟩ : ∃ n' v' : Nat, n' = (if isM ((c :: r).getD (digLen (c :: r)) 0) || isK ((c :: r).getD (digLen (c :: r)) 0) then digLen (c :: r) + 1 else digLen (c :: r)) ∧
              scanNumL (c :: r) p = if letdig ((c :: r).getD n' 0) then .error ⟨2, p⟩ else if 2147483647 < v' then .error ⟨3, p⟩ else .ok (⟨4, p, [], [], v'⟩, p + n') := ⟨_, _, rfl, rfl⟩
          rw [he] at h
          have hn2 : n' ≤ l.length - p ∧ 1 ≤ n' := by
            by_cases hm : (isM ((c :: r).getD (digLen (c :: r)) 0) || isK ((c :: r).getD (digLen (c :: r)) 0)) = true
            · have hlt2 : digLen (c :: r) < (c :: r).length := by
                apply Classical.byContradiction
                intro hge
                rw [getD_zero_of_le _ _ (by omega)] at hm
                exact absurd hm (by decide)
              simp only [List.length_cons] at hlt2
              rw [hn', if_pos hm]; omega
            · rw [hn', if_neg hm]; omega
          split at h
          · cases h
          · split at h
            · cases h
            · cases h
              simp; omega
        · split at h
          · unfold quoteR at h
            cases hq : quoteL r with
            | none => rw [hq] at h; cases h
            | some y =>
              rw [hq] at h
              have := quoteL_le _ _ hq
              cases h
              simp; omega
          · split at h
            · cases h; simp [spellL]; omega
            · cases h
  · have e : p = l.length := by omega
    rw [List.drop_of_length_le (by omega)] at h
    unfold scanL at h
    dsimp only at h
    cases h
    simp; omega

/-- What a word says is no longer than the text; its number is none too great. -/
theorem scanL_small (l : List UInt8) (p : Nat) (x : Wd × Nat) (h : scanL (l.drop p) p = .ok x) : x.1.said.length ≤ l.length ∧ x.1.num ≤ 2147483647 := by
  have hl : (l.drop p).length ≤ l.length := by simp
  generalize l.drop p = r at h hl
  cases r with
  | nil => unfold scanL at h; dsimp only at h; cases h; simp
  | cons c r =>
    unfold scanL at h
    dsimp only at h
    split at h
    · cases h; simp [spellL]
    · split at h
      · split at h
        · cases h
        · cases h; simp [spellL]
      · split at h
        · obtain ⟨n', v', he⟩ : ∃ n' v' : Nat, scanNumL (c :: r) p = if letdig ((c :: r).getD n' 0) then .error ⟨2, p⟩ else if 2147483647 < v' then .error ⟨3, p⟩ else .ok (⟨4, p, [], [], v'⟩, p + n') := ⟨_, _, rfl⟩
          rw [he] at h
          split at h
          · cases h
          · split at h
            · cases h
            · cases h; simp; omega
        · split at h
          · unfold quoteR at h
            cases hq : quoteL r with
            | none => rw [hq] at h; cases h
            | some y =>
              rw [hq] at h
              have h1 := quoteL_le _ _ hq
              have h2 := quoteL_said _ _ hq
              cases h
              simp at hl ⊢; omega
          · split at h
            · cases h; simp [spellL]
            · cases h
theorem nextL_small (l : List UInt8) (p : Nat) (x : Wd × Nat) (h : nextL l p = .ok x) : x.1.said.length ≤ l.length ∧ x.1.num ≤ 2147483647 := by
  unfold nextL at h
  cases hs : skipF (l.length + 1) (l.drop p) p with
  | error f => rw [hs] at h; cases h
  | ok n => rw [hs] at h; exact scanL_small l n x h

/-- What a word that is no name is spelt as begins with no letter. -/
def NoName (sp : List UInt8) : Prop := ∀ c r, sp = c :: r → isLetN c.toNat = false
theorem indexByte_mem : ∀ (l : List UInt8) (c : UInt8), 0 ≤ Lib.indexByte l c → c ∈ l
  | [], c, h => by simp [Lib.indexByte] at h
  | b :: l, c, h => by
    unfold Lib.indexByte at h
    split at h
    · rename_i hb
      have : b = c := by simpa using hb
      subst this; simp
    · split at h
      · exact absurd h (by decide)
      · have h1 := Lib.indexByte_ge l c
        rename_i h2
        have h3 : ¬ Lib.indexByte l c = -1 := by simpa using h2
        have := indexByte_mem l c (by omega)
        simp [this]
theorem sign_noLetter (c : UInt8) (h : isSign c = true) : isLetN (smallB c).toNat = false := by
  have hm := indexByte_mem _ _ (of_decide_eq_true h)
  simp at hm
  rcases hm with h | h | h | h | h | h | h | h <;> subst h <;> decide
theorem scanL_noName (l : List UInt8) (p : Nat) (x : Wd × Nat) (h : scanL (l.drop p) p = .ok x) (hk : ¬ x.1.kind = 1) : NoName x.1.spelt := by
  generalize l.drop p = r at h
  cases r with
  | nil => unfold scanL at h; dsimp only at h; cases h; intro c r e; cases e
  | cons c r =>
    unfold scanL at h
    dsimp only at h
    split at h
    · cases h; exact absurd rfl hk
    · split at h
      · rename_i h58
        split at h
        · cases h
        · cases h
          intro c' r' e
          rw [show 1 + nameLen r = nameLen r + 1 from by omega] at e
          simp [spellL, smallL, List.take_succ_cons] at e
          obtain ⟨e, -⟩ := e
          subst e
          have : c = 58 := UInt8.toNat_inj.1 h58
          subst this
          decide
      · split at h
        · obtain ⟨n', v', he⟩ : ∃ n' v' : Nat, scanNumL (c :: r) p = if letdig ((c :: r).getD n' 0) then .error ⟨2, p⟩ else if 2147483647 < v' then .error ⟨3, p⟩ else .ok (⟨4, p, [], [], v'⟩, p + n') := ⟨_, _, rfl⟩
          rw [he] at h
          split at h
          · cases h
          · split at h
            · cases h
            · cases h; intro c r e; cases e
        · split at h
          · unfold quoteR at h
            cases hq : quoteL r with
            | none => rw [hq] at h; cases h
            | some y => rw [hq] at h; cases h; intro c r e; cases e
          · split at h
            · rename_i hs
              cases h
              intro c' r' e
              simp [spellL, smallL] at e
              obtain ⟨e, -⟩ := e
              subst e
              exact sign_noLetter c hs
            · cases h
theorem nextL_noName (l : List UInt8) (p : Nat) (x : Wd × Nat) (h : nextL l p = .ok x) (hk : ¬ x.1.kind = 1) : NoName x.1.spelt := by
  unfold nextL at h
  cases hs : skipF (l.length + 1) (l.drop p) p with
  | error f => rw [hs] at h; cases h
  | ok n => rw [hs] at h; exact scanL_noName l n x h hk

theorem nextL_le (l : List UInt8) (p : Nat) (hp : p ≤ l.length) (x : Wd × Nat) (h : nextL l p = .ok x) :
    x.1.pos ≤ l.length ∧ x.2 ≤ l.length ∧ p ≤ x.2 ∧ (x.1.kind = 0 → x.1.spelt = []) ∧ (x.1.kind ≠ 0 → p < x.2) := by
  unfold nextL at h
  cases hs : skipF (l.length + 1) (l.drop p) p with
  | error f => rw [hs] at h; cases h
  | ok n =>
    rw [hs] at h
    have h1 := skipF_le l _ p n hp hs
    have h2 := scanL_le l n h1.2 x h
    refine ⟨by omega, h2.2.1, by omega, fun hk => (h2.2.2.2.1 hk).2, fun hk => by have := h2.2.2.2.2 hk; omega⟩

end Go.Proofs.YtbiclelojbfnbaaGreatDoor
