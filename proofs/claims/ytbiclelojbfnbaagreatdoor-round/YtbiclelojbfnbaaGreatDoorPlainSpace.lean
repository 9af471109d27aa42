/- Blanks and comments ahead of a text and behind it: the scanner. It imports nothing of the program. -/
import Derived.Test.YtbiclelojbfnbaaGreatDoorPlainMu
namespace Go.Proofs.YtbiclelojbfnbaaGreatDoor

/-- 'skip', with all the fuel that it can want. -/
def skipS (r : List UInt8) (p : Nat) : Except Flt Nat := skipF (r.length + 1) r p

theorem skipF_fuel : ∀ (f g : Nat) (r : List UInt8) (p : Nat), r.length < f → r.length < g → skipF f r p = skipF g r p
  | 0, _, r, p, h, _ => absurd h (Nat.not_lt_zero _)
  | _ + 1, 0, r, p, _, h => absurd h (Nat.not_lt_zero _)
  | f + 1, g + 1, [], p, _, _ => rfl
  | f + 1, g + 1, c :: r, p, h1, h2 => by
    simp only [List.length_cons] at h1 h2
    simp only [skipF]
    have h3 := lineLen_pos c r
    rw [skipF_fuel f g r (p + 1) (by omega) (by omega)]
    rw [skipF_fuel f g (List.drop (lineLen (c :: r)) (c :: r)) _ (by rw [List.length_drop]; simp only [List.length_cons]; omega) (by rw [List.length_drop]; simp only [List.length_cons]; omega)]
    rw [skipF_fuel f g (List.drop (4 + (Lib.index (r.drop 1) [42, 47]).toNat) (c :: r)) _ (by rw [List.length_drop]; simp only [List.length_cons]; omega) (by rw [List.length_drop]; simp only [List.length_cons]; omega)]
theorem skipF_S (f : Nat) (r : List UInt8) (p : Nat) (h : r.length < f) : skipF f r p = skipS r p := skipF_fuel _ _ _ _ h (Nat.lt_succ_self _)
theorem skipS_nil (p : Nat) : skipS [] p = .ok p := rfl
theorem skipS_blank {c : UInt8} (r : List UInt8) (p : Nat) (h : isBlankN c.toNat = true) : skipS (c :: r) p = skipS r (p + 1) := by
  show skipF (r.length + 1 + 1) (c :: r) p = _
  simp only [skipF]
  rw [if_pos h]; rfl
theorem skipS_line {c : UInt8} (r : List UInt8) (p : Nat) (h : isBlankN c.toNat = false) (h1 : c.toNat = 35) : skipS (c :: r) p = skipS ((c :: r).drop (lineLen (c :: r))) (p + lineLen (c :: r)) := by
  show skipF (r.length + 1 + 1) (c :: r) p = _
  simp only [skipF]
  have h3 := lineLen_pos c r
  rw [if_neg (by rw [h]; decide), if_pos h1, skipF_S _ _ _ (by rw [List.length_drop]; simp only [List.length_cons]; omega)]
theorem skipS_noEnd {c : UInt8} (r : List UInt8) (p : Nat) (h : isBlankN c.toNat = false) (h1 : ¬ c.toNat = 35) (h2 : Lib.hasPrefix (c :: r) [47, 42] = true) (h3 : Lib.index (r.drop 1) [42, 47] < 0) : skipS (c :: r) p = .error ⟨2, p⟩ := by
  show skipF (r.length + 1 + 1) (c :: r) p = _
  simp only [skipF]
  rw [if_neg (by rw [h]; decide), if_neg h1, if_pos h2, if_pos h3]
theorem skipS_rem {c : UInt8} (r : List UInt8) (p : Nat) (h : isBlankN c.toNat = false) (h1 : ¬ c.toNat = 35) (h2 : Lib.hasPrefix (c :: r) [47, 42] = true) (h3 : ¬ Lib.index (r.drop 1) [42, 47] < 0) : skipS (c :: r) p = skipS ((c :: r).drop (4 + (Lib.index (r.drop 1) [42, 47]).toNat)) (p + (4 + (Lib.index (r.drop 1) [42, 47]).toNat)) := by
  show skipF (r.length + 1 + 1) (c :: r) p = _
  simp only [skipF]
  rw [if_neg (by rw [h]; decide), if_neg h1, if_pos h2, if_neg h3, skipF_S _ _ _ (by rw [List.length_drop]; simp only [List.length_cons]; omega)]
theorem skipS_word {c : UInt8} (r : List UInt8) (p : Nat) (h : isBlankN c.toNat = false) (h1 : ¬ c.toNat = 35) (h2 : Lib.hasPrefix (c :: r) [47, 42] = false) : skipS (c :: r) p = .ok p := by
  show skipF (r.length + 1 + 1) (c :: r) p = _
  simp only [skipF]
  rw [if_neg (by rw [h]; decide), if_neg h1, if_neg (by rw [h2]; decide)]
theorem nextL_S (l : List UInt8) (p : Nat) : nextL l p = match skipS (l.drop p) p with
    | .error f => .error f
    | .ok n => scanL (l.drop n) n := by
  unfold nextL
  rw [skipF_S _ _ _ (by rw [List.length_drop]; omega)]
  cases skipS (List.drop p l) p <;> rfl

theorem indexByte_append {c : UInt8} : ∀ {l : List UInt8} (m : List UInt8), 0 ≤ Lib.indexByte l c → Lib.indexByte (l ++ m) c = Lib.indexByte l c
  | [], m, h => by simp [Lib.indexByte] at h
  | b :: l, m, h => by
    rw [List.cons_append]
    unfold Lib.indexByte at h ⊢
    by_cases hb : (b == c) = true
    · rw [if_pos hb, if_pos hb]
    · rw [if_neg hb] at h ⊢
      rw [if_neg hb]
      have h1 := Lib.indexByte_ge l c
      by_cases h2 : Lib.indexByte l c = -1
      · rw [h2] at h; simp at h
      · rw [indexByte_append m (by omega)]
theorem indexByte_append_no {c : UInt8} : ∀ {l : List UInt8} (m : List UInt8), Lib.indexByte l c < 0 → Lib.indexByte (l ++ c :: m) c = l.length
  | [], m, h => by
    show Lib.indexByte (c :: m) c = _
    unfold Lib.indexByte
    simp
  | b :: l, m, h => by
    rw [List.cons_append]
    unfold Lib.indexByte at h ⊢
    by_cases hb : (b == c) = true
    · rw [if_pos hb] at h; simp at h
    · rw [if_neg hb] at h ⊢
      have h1 := Lib.indexByte_ge l c
      have h2 : Lib.indexByte l c < 0 := by
        apply Classical.byContradiction
        intro h3
        rw [if_neg (by simp; omega)] at h
        omega
      rw [indexByte_append_no m h2]
      rw [if_neg (by simp)]
      rfl
theorem index_append {sub : List UInt8} : ∀ {l : List UInt8} (m : List UInt8), 0 ≤ Lib.index l sub → sub ≠ [] → Lib.index (l ++ m) sub = Lib.index l sub
  | [], m, h, hs => by
    unfold Lib.index at h
    cases sub with
    | nil => exact absurd rfl hs
    | cons a t => simp at h
  | b :: l, m, h, hs => by
    rw [List.cons_append]
    unfold Lib.index at h ⊢
    by_cases hb : sub.isPrefixOf (b :: l) = true
    · have hb' : sub.isPrefixOf (b :: (l ++ m)) = true := by
        rw [List.isPrefixOf_iff_prefix] at hb ⊢
        exact hb.trans ⟨m, by simp⟩
      rw [if_pos hb, if_pos hb']
    · rw [if_neg hb] at h
      have h1 := Lib.index_ge l sub
      by_cases h2 : Lib.index l sub = -1
      · rw [h2] at h; simp at h
      · have h3 := index_append (sub := sub) (l := l) m (by omega) hs
        have hroom := index_room l sub
        have hb' : ¬ sub.isPrefixOf (b :: (l ++ m)) = true := by
          intro hp
          apply hb
          rw [List.isPrefixOf_iff_prefix] at hp ⊢
          have hl : sub.length ≤ (b :: l).length := by simp; omega
          obtain ⟨z, hz⟩ := hp
          have : sub = (b :: l).take sub.length := by
            have := congrArg (List.take sub.length) hz
            rw [List.take_left] at this
            rw [← List.cons_append, List.take_append_of_le_length hl] at this
            exact this
          rw [this]
          exact List.take_prefix _ _
        rw [if_neg hb', if_neg hb, h3]
theorem lineLen_append {l : List UInt8} (m : List UInt8) (h : 0 ≤ Lib.indexByte l 10) : lineLen (l ++ m) = lineLen l := by
  unfold lineLen
  rw [indexByte_append m h, if_neg (by omega), if_neg (by omega)]
theorem lineLen_append_no {l : List UInt8} (m : List UInt8) (h : Lib.indexByte l 10 < 0) : lineLen (l ++ 10 :: m) = l.length + 1 := by
  unfold lineLen
  rw [indexByte_append_no m h, if_neg (by omega)]
  simp

/-- What stands ahead and behind. -/
structure Pad (A B : List UInt8) : Prop where
  ahead : ∀ r p, skipS (A ++ r) p = skipS r (p + A.length)
  behind : ∀ p, skipS B p = .ok (p + B.length)
  line : ∃ C, B = 10 :: C

theorem pre47 (c : UInt8) (r C : List UInt8) : Lib.hasPrefix (c :: (r ++ 10 :: C)) [47, 42] = Lib.hasPrefix (c :: r) [47, 42] := by
  cases r with
  | nil => simp [Lib.hasPrefix, List.isPrefixOf]
  | cons d r => simp [Lib.hasPrefix, List.isPrefixOf]

theorem skip_sim {A B : List UInt8} (hP : Pad A B) : ∀ (k : Nat) (r : List UInt8) (p q : Nat), r.length ≤ k →
    (∀ n, skipS r p = .ok n → p ≤ n ∧ ((n < p + r.length ∧ skipS (r ++ B) q = .ok (q + (n - p))) ∨ (n = p + r.length ∧ skipS (r ++ B) q = .ok (q + r.length + B.length)))) ∧ (∀ f, skipS r p = .error f → f.err = 2)
  | k, [], p, q, _ => by
    refine ⟨fun n h => ?_, fun f h => by cases h⟩
    cases h
    exact ⟨Nat.le_refl _, Or.inr ⟨rfl, hP.behind q⟩⟩
  | 0, c :: r, p, q, h => absurd h (by simp)
  | k + 1, c :: r, p, q, h => by
    simp only [List.length_cons] at h
    obtain ⟨C, rfl⟩ := hP.line
    cases hb : isBlankN c.toNat
    · by_cases h1 : c.toNat = 35
      · rw [skipS_line r p hb h1, List.cons_append, skipS_line _ q hb h1, ← List.cons_append]
        have h3 := lineLen_pos c r
        by_cases hn : 0 ≤ Lib.indexByte (c :: r) 10
        · rw [lineLen_append _ hn]
          have hle := lineLen_le (c :: r)
          rw [List.drop_append_of_le_length hle]
          have hlen : ((c :: r).drop (lineLen (c :: r))).length = r.length + 1 - lineLen (c :: r) := by rw [List.length_drop]; rfl
          simp only [List.length_cons] at hle
          obtain ⟨i1, i2⟩ := skip_sim hP k ((c :: r).drop (lineLen (c :: r))) (p + lineLen (c :: r)) (q + lineLen (c :: r)) (by omega)
          refine ⟨fun n hn' => ?_, i2⟩
          obtain ⟨a1, a2⟩ := i1 n hn'
          refine ⟨by omega, ?_⟩
          rcases a2 with ⟨b1, b2⟩ | ⟨b1, b2⟩
          · left; refine ⟨by simp only [List.length_cons]; omega, ?_⟩
            rw [b2]; congr 1; omega
          · right; refine ⟨by simp only [List.length_cons]; omega, ?_⟩
            rw [b2]; simp only [List.length_cons]; congr 1; omega
        · have hn' : Lib.indexByte (c :: r) 10 < 0 := by omega
          rw [lineLen_append_no _ hn']
          have e1 : lineLen (c :: r) = (c :: r).length := by unfold lineLen; rw [if_pos hn']
          rw [e1, List.drop_length, skipS_nil]
          have e2 : List.drop ((c :: r).length + 1) (c :: r ++ 10 :: C) = C := by
            rw [List.drop_append, List.drop_of_length_le (by omega)]
            simp
          rw [e2]
          refine ⟨fun n hh => ?_, fun f hh => by cases hh⟩
          cases hh
          refine ⟨by omega, Or.inr ⟨rfl, ?_⟩⟩
          have := hP.behind (q + (c :: r).length)
          rw [skipS_blank C _ (by decide)] at this
          exact this
      · cases h2 : Lib.hasPrefix (c :: r) [47, 42]
        · rw [skipS_word r p hb h1 h2, List.cons_append, skipS_word _ q hb h1 (by rw [pre47]; exact h2)]
          refine ⟨fun n hh => ?_, fun f hh => by cases hh⟩
          cases hh
          exact ⟨Nat.le_refl _, Or.inl ⟨by simp, by simp⟩⟩
        · by_cases h3 : Lib.index (r.drop 1) [42, 47] < 0
          · rw [skipS_noEnd r p hb h1 h2 h3]
            refine ⟨fun n hh => (by cases hh), fun f hh => ?_⟩
            cases hh; rfl
          · have hr1 : 1 ≤ r.length := by
              have := (List.isPrefixOf_iff_prefix.1 h2).length_le
              simp at this; omega
            have hd : (r ++ 10 :: C).drop 1 = r.drop 1 ++ 10 :: C := List.drop_append_of_le_length hr1
            have hi : Lib.index ((r ++ 10 :: C).drop 1) [42, 47] = Lib.index (r.drop 1) [42, 47] := by
              rw [hd]; exact index_append _ (by omega) (by decide)
            rw [skipS_rem r p hb h1 h2 h3, List.cons_append, skipS_rem _ q hb h1 (by rw [pre47]; exact h2) (by rw [hi]; exact h3), hi, ← List.cons_append]
            have hroom := index_room (r.drop 1) [42, 47]
            have hx : Lib.index (r.drop 1) [42, 47] + 2 ≤ (r.length - 1 : Nat) := by
              rcases hroom with hh | hh
              · exact absurd hh h3
              · rw [List.length_drop] at hh; simpa using hh
            generalize hj : (Lib.index (r.drop 1) [42, 47]).toNat = j at *
            have hle : 4 + j ≤ (c :: r).length := by simp only [List.length_cons]; omega
            rw [List.drop_append_of_le_length hle]
            have hlen : ((c :: r).drop (4 + j)).length = r.length + 1 - (4 + j) := by rw [List.length_drop]; rfl
            simp only [List.length_cons] at hle
            obtain ⟨i1, i2⟩ := skip_sim hP k ((c :: r).drop (4 + j)) (p + (4 + j)) (q + (4 + j)) (by omega)
            refine ⟨fun n hn' => ?_, i2⟩
            obtain ⟨a1, a2⟩ := i1 n hn'
            refine ⟨by omega, ?_⟩
            rcases a2 with ⟨b1, b2⟩ | ⟨b1, b2⟩
            · left; refine ⟨by simp only [List.length_cons]; omega, ?_⟩
              rw [b2]; congr 1; omega
            · right; refine ⟨by simp only [List.length_cons]; omega, ?_⟩
              rw [b2]; simp only [List.length_cons]; congr 1; omega
    · rw [skipS_blank r p hb, List.cons_append, skipS_blank _ q hb]
      obtain ⟨i1, i2⟩ := skip_sim hP k r (p + 1) (q + 1) (by omega)
      refine ⟨fun n hn' => ?_, i2⟩
      obtain ⟨a1, a2⟩ := i1 n hn'
      refine ⟨by omega, ?_⟩
      rcases a2 with ⟨b1, b2⟩ | ⟨b1, b2⟩
      · left; refine ⟨by simp only [List.length_cons]; omega, ?_⟩
        rw [b2]; congr 1; omega
      · right; refine ⟨by simp only [List.length_cons]; omega, ?_⟩
        rw [b2]; simp only [List.length_cons]; congr 1; omega

theorem nameTail_append : ∀ (r C : List UInt8), nameTail (r ++ 10 :: C) = nameTail r
  | [], C => by
    show nameTail (10 :: C) = _
    rw [nameTail_cons, if_neg (by decide)]; rfl
  | c :: r, C => by
    rw [List.cons_append, nameTail_cons, nameTail_cons, nameTail_append r C]
theorem nameLen_append : ∀ (r C : List UInt8), nameLen (r ++ 10 :: C) = nameLen r
  | [], C => by
    show (if isLetN ((10 : UInt8).toNat) then 1 + nameTail C else 0) = 0
    rw [if_neg (by decide)]
  | c :: r, C => by
    rw [List.cons_append]
    show (if isLetN c.toNat then 1 + nameTail (r ++ 10 :: C) else 0) = if isLetN c.toNat then 1 + nameTail r else 0
    rw [nameTail_append]
theorem digs_append (r C : List UInt8) : (r ++ 10 :: C).takeWhile (fun c => isDigitN c.toNat) = r.takeWhile (fun c => isDigitN c.toNat) := by
  induction r with
  | nil =>
    show List.takeWhile _ (10 :: C) = _
    rw [List.takeWhile_cons, if_neg (by decide)]; rfl
  | cons c r ih => rw [List.cons_append, List.takeWhile_cons, List.takeWhile_cons, ih]
theorem getD_append (r C : List UInt8) (n : Nat) (h : n ≤ r.length) : (r ++ 10 :: C).getD n 0 = r.getD n 0 ∨ ((r ++ 10 :: C).getD n 0 = 10 ∧ r.getD n 0 = 0) := by
  by_cases hn : n < r.length
  · left
    rw [List.getD_eq_getElem?_getD, List.getD_eq_getElem?_getD, List.getElem?_append_left hn]
  · right
    have : n = r.length := by omega
    subst this
    rw [List.getD_eq_getElem?_getD, List.getD_eq_getElem?_getD, List.getElem?_append_right (Nat.le_refl _)]
    simp
theorem quoteL_append : ∀ (k : Nat) (r : List UInt8) (x : List UInt8 × Nat) (m : List UInt8), r.length ≤ k → quoteL r = some x → quoteL (r ++ m) = some x
  | k, [], x, m, _, h => by cases h
  | 0, c :: r, x, m, hk, _ => absurd hk (by simp)
  | k + 1, c :: r, x, m, hk, h => by
    simp only [List.length_cons] at hk
    rw [List.cons_append]
    rw [quoteL.eq_def] at h ⊢
    dsimp only at h ⊢
    by_cases h1 : c.toNat = 34
    · rw [if_pos h1] at h ⊢; exact h
    · rw [if_neg h1] at h ⊢
      by_cases h2 : c.toNat = 92
      · rw [if_pos h2] at h ⊢
        cases r with
        | nil => cases h
        | cons d r =>
          dsimp only [List.cons_append] at h ⊢
          cases hq : quoteL r with
          | none => rw [hq] at h; cases h
          | some y => rw [quoteL_append k r y m (by simp at hk; omega) hq]; rw [hq] at h; exact h
      · rw [if_neg h2] at h ⊢
        cases hq : quoteL r with
        | none => rw [hq] at h; cases h
        | some y => rw [quoteL_append k r y m (by omega) hq]; rw [hq] at h; exact h

/-- A word with its place moved. -/
def Wd.at (x : Wd) (q : Nat) : Wd := ⟨x.kind, q, x.spelt, x.said, x.num⟩

theorem take_app (r m : List UInt8) (n : Nat) (h : n ≤ r.length) : (r ++ m).take n = r.take n := List.take_append_of_le_length h
theorem scanNum_sim (c : UInt8) (r C : List UInt8) (p q : Nat) :
    (∀ x, scanNumL (c :: r) p = .ok x → scanNumL (c :: (r ++ 10 :: C)) q = .ok (x.1.at q, q + (x.2 - p)) ∧ p ≤ x.2 ∧ x.1.kind ≠ 0) ∧ (∀ f, scanNumL (c :: r) p = .error f → f.err = 2 ∨ scanNumL (c :: (r ++ 10 :: C)) q = .error ⟨f.err, q⟩ ∧ f.pos = p) := by
  rw [← List.cons_append]
  generalize c :: r = R
  have hd : digLen (R ++ 10 :: C) = digLen R := by unfold digLen; rw [digs_append]
  have hv : numVal (R ++ 10 :: C) = numVal R := by unfold numVal; rw [digs_append]
  have hdl := digLen_le0 R
  have hm : isM ((R ++ 10 :: C).getD (digLen R) 0) = isM (R.getD (digLen R) 0) := by
    rcases getD_append R C _ hdl with h | ⟨h, h'⟩
    · rw [h]
    · rw [h, h']; decide
  have hk : isK ((R ++ 10 :: C).getD (digLen R) 0) = isK (R.getD (digLen R) 0) := by
    rcases getD_append R C _ hdl with h | ⟨h, h'⟩
    · rw [h]
    · rw [h, h']; decide
  obtain ⟨n', v', hn', hv', e1⟩ : ∃ n' v' : Nat, n' = (if isM (R.getD (digLen R) 0) || isK (R.getD (digLen R) 0) then digLen R + 1 else digLen R) ∧ v' = (if isM (R.getD (digLen R) 0) then numVal R * 1048576 else if isK (R.getD (digLen R) 0) then numVal R * 1024 else numVal R) ∧
      scanNumL R p = if letdig (R.getD n' 0) then .error ⟨2, p⟩ else if 2147483647 < v' then .error ⟨3, p⟩ else .ok (⟨4, p, [], [], v'⟩, p + n') := ⟨_, _, rfl, rfl, rfl⟩
  have e2 : scanNumL (R ++ 10 :: C) q = if letdig ((R ++ 10 :: C).getD n' 0) then .error ⟨2, q⟩ else if 2147483647 < v' then .error ⟨3, q⟩ else .ok (⟨4, q, [], [], v'⟩, q + n') := by
    unfold scanNumL
    dsimp only
    rw [hd, hv, hm, hk, hn', hv']
  have hn2 : n' ≤ R.length := by
    by_cases hm : (isM (R.getD (digLen R) 0) || isK (R.getD (digLen R) 0)) = true
    · have hlt2 : digLen R < R.length := by
        apply Classical.byContradiction
        intro hge
        rw [getD_zero_of_le _ _ (by omega)] at hm
        exact absurd hm (by decide)
      rw [hn', if_pos hm]; omega
    · rw [hn', if_neg hm]; omega
  have hl : letdig ((R ++ 10 :: C).getD n' 0) = letdig (R.getD n' 0) := by
    rcases getD_append R C _ hn2 with h | ⟨h, h'⟩
    · rw [h]
    · rw [h, h']; decide
  rw [e1, e2, hl]
  cases letdig (R.getD n' 0)
  · simp only [Bool.false_eq_true, if_false]
    by_cases h3 : 2147483647 < v'
    · rw [if_pos h3, if_pos h3]
      refine ⟨fun x h => (by cases h), fun f h => ?_⟩
      cases h
      exact Or.inr ⟨rfl, rfl⟩
    · rw [if_neg h3, if_neg h3]
      refine ⟨fun x h => ?_, fun f h => by cases h⟩
      cases h
      refine ⟨?_, by simp, by simp⟩
      simp [Wd.at]
  · simp only [if_true]
    refine ⟨fun x h => (by cases h), fun f h => ?_⟩
    cases h
    exact Or.inl rfl
theorem scan_sim (c : UInt8) (r C : List UInt8) (p q : Nat) :
    (∀ x, scanL (c :: r) p = .ok x → scanL (c :: (r ++ 10 :: C)) q = .ok (x.1.at q, q + (x.2 - p)) ∧ p ≤ x.2 ∧ x.1.kind ≠ 0) ∧ (∀ f, scanL (c :: r) p = .error f → f.err = 2 ∨ scanL (c :: (r ++ 10 :: C)) q = .error ⟨f.err, q⟩ ∧ f.pos = p) := by
  unfold scanL
  dsimp only
  have hn := nameLen_append (c :: r) C
  have hn1 := nameLen_append r C
  have hle := nameLen_le (c :: r)
  have hle1 := nameLen_le r
  rw [List.cons_append] at hn
  cases h1 : isLetN (c.toNat : Int)
  · simp only [Bool.false_eq_true, if_false]
    by_cases h2 : c.toNat = 58
    · rw [if_pos h2, if_pos h2, hn1]
      by_cases h3 : nameLen r = 0
      · rw [if_pos h3, if_pos h3]
        exact ⟨fun x h => (by cases h), fun f h => by cases h; exact Or.inl rfl⟩
      · rw [if_neg h3, if_neg h3]
        refine ⟨fun x h => ?_, fun f h => by cases h⟩
        cases h
        refine ⟨?_, by simp [spellL], by simp [spellL]⟩
        unfold spellL
        rw [← List.cons_append, take_app _ _ _ (by simp; omega)]
        simp [Wd.at]
    · rw [if_neg h2, if_neg h2]
      cases h3 : isDigitN (c.toNat : Int)
      · simp only [Bool.false_eq_true, if_false]
        by_cases h4 : c.toNat = 34
        · rw [if_pos h4, if_pos h4]
          unfold quoteR
          cases hq : quoteL r with
          | none => exact ⟨fun x h => (by cases h), fun f h => by cases h; exact Or.inl rfl⟩
          | some y =>
            rw [quoteL_append _ r y (10 :: C) (Nat.le_refl _) hq]
            refine ⟨fun x h => ?_, fun f h => by cases h⟩
            cases h
            refine ⟨?_, by simp, by simp⟩
            simp [Wd.at]
        · rw [if_neg h4, if_neg h4]
          cases h5 : isSign c
          · simp only [Bool.false_eq_true, if_false]
            exact ⟨fun x h => (by cases h), fun f h => by cases h; exact Or.inl rfl⟩
          · simp only [if_true]
            refine ⟨fun x h => ?_, fun f h => by cases h⟩
            cases h
            refine ⟨?_, by simp [spellL], by simp [spellL]⟩
            simp [spellL, Wd.at]
      · simp only [if_true]
        exact scanNum_sim c r C p q
  · simp only [if_true]
    rw [hn]
    refine ⟨fun x h => ?_, fun f h => by cases h⟩
    cases h
    refine ⟨?_, by simp [spellL], by simp [spellL]⟩
    unfold spellL
    rw [← List.cons_append, take_app _ _ _ hle]
    simp [Wd.at]

/-- The states of the two readers: the same word, moved. -/
structure SR (l : List UInt8) (a : Nat) (s s' : PS) : Prop where
  gd : Gd l s
  kind : s'.1.kind = s.1.kind
  spelt : s'.1.spelt = s.1.spelt
  said : s'.1.said = s.1.said
  num : s'.1.num = s.1.num
  pos : s.1.pos ≤ s'.1.pos
  at_ : s.1.kind ≠ 0 → s'.2 = s.2 + a

/-- What one reader reads the other reads, or there is a word that is none. -/
def Sim {α β : Type} (g : α → β) (l : List UInt8) (a : Nat) (r r' : Except Flt (α × PS)) : Prop :=
  (∀ y, r = .ok y → ∃ y', r' = .ok y' ∧ g y.1 = g y'.1 ∧ SR l a y.2 y'.2) ∧ (∀ f, r = .error f → f.err = 2 ∨ ∃ f', r' = .error f' ∧ f'.err = f.err ∧ f.pos ≤ f'.pos)
def SimN (l : List UInt8) (a : Nat) (r r' : Except Flt PS) : Prop :=
  (∀ y, r = .ok y → ∃ y', r' = .ok y' ∧ SR l a y y') ∧ (∀ f, r = .error f → f.err = 2 ∨ ∃ f', r' = .error f' ∧ f'.err = f.err ∧ f.pos ≤ f'.pos)

theorem nextS_sim {A B : List UInt8} (hP : Pad A B) (l u : List UInt8) (p : Nat) (hp : p ≤ l.length) (hu : u = A ++ (l ++ B)) : SimN l A.length (nextL l p) (match skipS (l.drop p ++ B) (p + A.length) with
    | .error f => .error f
    | .ok n => scanL (u.drop n) n) := by
  obtain ⟨i1, i2⟩ := skip_sim hP (l.drop p).length (l.drop p) p (p + A.length) (Nat.le_refl _)
  have hdl : (l.drop p).length = l.length - p := List.length_drop
  refine ⟨fun y hy => ?_, fun f hf => ?_⟩
  · have hgd := nextL_le l p hp y hy
    rw [nextL_S] at hy
    cases hs : skipS (l.drop p) p with
    | error f => rw [hs] at hy; cases hy
    | ok n =>
      rw [hs] at hy
      dsimp only at hy
      obtain ⟨h1, h2⟩ := i1 n hs
      rcases h2 with ⟨h2, h3⟩ | ⟨h2, h3⟩
      · rw [h3]
        dsimp only
        have hn : n < l.length := by omega
        have e1 : p + A.length + (n - p) = A.length + n := by omega
        have e2 : u.drop (A.length + n) = l.drop n ++ B := by
          rw [hu, ← List.drop_drop, List.drop_left, List.drop_append_of_le_length (by omega)]
        rw [e1, e2]
        obtain ⟨C, hC⟩ := hP.line
        rw [hC]
        rw [List.drop_eq_getElem_cons hn] at hy ⊢
        rw [List.cons_append]
        obtain ⟨k1, k2, k3⟩ := (scan_sim l[n] (l.drop (n + 1)) C n (A.length + n)).1 y hy
        rw [k1]
        refine ⟨_, rfl, ⟨hgd.2.1, hgd.2.2.2.1⟩, rfl, rfl, rfl, rfl, ?_, fun _ => ?_⟩
        · have := (scanL_le l n (by omega) y (by rw [List.drop_eq_getElem_cons hn]; exact hy)).1
          show y.1.pos ≤ A.length + n
          omega
        · show A.length + n + (y.2 - n) = _
          omega
      · rw [h3]
        dsimp only
        have hn : n = l.length := by omega
        rw [List.drop_of_length_le (by omega)] at hy
        unfold scanL at hy
        dsimp only at hy
        cases hy
        have e2 : u.drop (p + A.length + (l.drop p).length + B.length) = [] := by
          apply List.drop_of_length_le
          rw [hu]; simp; omega
        rw [e2]
        refine ⟨_, rfl, ⟨hgd.2.1, hgd.2.2.2.1⟩, rfl, rfl, rfl, rfl, ?_, fun h => absurd rfl h⟩
        show n ≤ p + A.length + (List.drop p l).length + B.length
        omega
  · rw [nextL_S] at hf
    cases hs : skipS (l.drop p) p with
    | error f' => rw [hs] at hf; cases hf; exact Or.inl (i2 f hs)
    | ok n =>
      rw [hs] at hf
      dsimp only at hf
      obtain ⟨h1, h2⟩ := i1 n hs
      rcases h2 with ⟨h2, h3⟩ | ⟨h2, h3⟩
      · rw [h3]
        dsimp only
        have hn : n < l.length := by omega
        have e1 : p + A.length + (n - p) = A.length + n := by omega
        have e2 : u.drop (A.length + n) = l.drop n ++ B := by
          rw [hu, ← List.drop_drop, List.drop_left, List.drop_append_of_le_length (by omega)]
        rw [e1, e2]
        obtain ⟨C, hC⟩ := hP.line
        rw [hC]
        rw [List.drop_eq_getElem_cons hn] at hf ⊢
        rw [List.cons_append]
        rcases (scan_sim l[n] (l.drop (n + 1)) C n (A.length + n)).2 f hf with h | ⟨h, h'⟩
        · exact Or.inl h
        · right
          rw [h]
          exact ⟨_, rfl, rfl, by show f.pos ≤ A.length + n; omega⟩
      · rw [List.drop_of_length_le (by omega)] at hf
        unfold scanL at hf
        cases hf

theorem next_sim {A B : List UInt8} (hP : Pad A B) (l u : List UInt8) (hu : u = A ++ (l ++ B)) (s s' : PS) (h : SR l A.length s s') (hk : s.1.kind ≠ 0) : SimN l A.length (nextL l s.2) (nextL u s'.2) := by
  have := nextS_sim hP l u s.2 h.gd.1 hu
  rw [h.at_ hk, nextL_S u]
  have e2 : u.drop (s.2 + A.length) = l.drop s.2 ++ B := by
    rw [Nat.add_comm, hu, ← List.drop_drop, List.drop_left, List.drop_append_of_le_length h.gd.1]
  rw [e2]
  exact this
theorem first_sim {A B : List UInt8} (hP : Pad A B) (l u : List UInt8) (hu : u = A ++ (l ++ B)) : SimN l A.length (nextL l 0) (nextL u 0) := by
  have := nextS_sim hP l u 0 (Nat.zero_le _) hu
  rw [nextL_S u]
  have e2 : skipS (u.drop 0) 0 = skipS (l.drop 0 ++ B) (0 + A.length) := by
    rw [List.drop_zero, List.drop_zero, hu, hP.ahead]
  rw [e2]
  exact this

end Go.Proofs.YtbiclelojbfnbaaGreatDoor
