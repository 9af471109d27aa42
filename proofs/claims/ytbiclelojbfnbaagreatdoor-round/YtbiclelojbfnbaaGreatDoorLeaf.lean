import Derived.Test.YtbiclelojbfnbaaGreatDoorProg
import Derived.Test.YtbiclelojbfnbaaGreatDoorPlain
import Derived.WalkKit
import Derived.WalkSpells
import Derived.WalkLawsBesides
import Derived.BigQuiet
import Derived.Deep.QuietTactic
namespace Go.Proofs.YtbiclelojbfnbaaGreatDoor
open Go.RowKit
set_option linter.unusedVariables false
set_option linter.unusedSimpArgs false

theorem hide {p : Prop} (h : p) : Hid p := h
theorem addr_add0 (b j : Nat) : (⟨b, 0, none⟩ : Addr).add j = ⟨b, j, none⟩ := by
  unfold Addr.add; split
  · subst_vars; rfl
  · simp
theorem ret_bool {a b : Bool} (h : a = b) : Ending.returned (.bool a) = .returned (.bool b) := by rw [h]
theorem ret_int {k : IntKind} {a b : Int} (h : a = b) : Ending.returned (.int k a) = .returned (.int k b) := by rw [h]

set_option maxHeartbeats 400000 in
theorem isBlank_any (c : Int) (w : World) :
    Calls Tryz.prog 313 #[.int .u8 c] w fun e w' => e = .returned (.bool (isBlankN c)) ∧ w' = w := by
  go_enter Tryz.func313, Tryz.ntmps313
  go_wp2
  all_goals (go_ret; exact ⟨ret_bool (by simp [isBlankN, *]), rfl⟩)

set_option maxHeartbeats 400000 in
theorem isDigit_any (c : Int) (w : World) :
    Calls Tryz.prog 288 #[.int .u8 c] w fun e w' => e = .returned (.bool (isDigitN c)) ∧ w' = w := by
  go_enter Tryz.func288, Tryz.ntmps288
  go_wp2
  all_goals (go_ret; exact ⟨ret_bool (by simp [isDigitN, *]; try omega), rfl⟩)

set_option maxHeartbeats 400000 in
theorem isCapital_any (c : Int) (w : World) :
    Calls Tryz.prog 304 #[.int .u8 c] w fun e w' => e = .returned (.bool (isCapN c)) ∧ w' = w := by
  go_enter Tryz.func304, Tryz.ntmps304
  go_wp2
  all_goals (go_ret; exact ⟨ret_bool (by simp [isCapN, *]; try omega), rfl⟩)

set_option maxHeartbeats 400000 in
theorem isSmall_any (c : Int) (w : World) :
    Calls Tryz.prog 341 #[.int .u8 c] w fun e w' => e = .returned (.bool (isSmN c)) ∧ w' = w := by
  go_enter Tryz.func341, Tryz.ntmps341
  go_wp2
  all_goals (go_ret; exact ⟨ret_bool (by simp [isSmN, *]; try omega), rfl⟩)

set_option maxHeartbeats 400000 in
theorem isLetter_any (c : Int) (w : World) :
    Calls Tryz.prog 287 #[.int .u8 c] w fun e w' => e = .returned (.bool (isLetN c)) ∧ w' = w := by
  go_enter Tryz.func287, Tryz.ntmps287
  cases hsm : isSmN c <;> cases hca : isCapN c <;>
  (go_wp2_with (first | (go_at_call 304; refine (isCapital_any _ _).mono ?_; rintro e w' ⟨rfl, rfl⟩) | (go_at_call 341; refine (isSmall_any _ _).mono ?_; rintro e w' ⟨rfl, rfl⟩))
   all_goals (go_ret; exact ⟨ret_bool (by rw [isLetN_eq]; simp [*]), rfl⟩))

theorem ba_getD (s : ByteArray) (k : Nat) (h : k < s.size) : s.data.toList.getD k 0 = s[k] := by
  rw [List.getD_eq_getElem?_getD, List.getElem?_eq_getElem (by simpa using h)]; rfl

set_option maxHeartbeats 400000 in
theorem byteAt_in (s : ByteArray) (n : Int) (w : World) (hs : s.size ≤ maxLen) (h0 : 0 ≤ n) (h : n < s.size) :
    Calls Tryz.prog 350 #[.string s, .int .i64 n] w fun e w' => e = .returned (.int .u8 (s.data.toList.getD n.toNat 0).toNat) ∧ w' = w := by
  unfold maxLen at hs
  go_enter Tryz.func350, Tryz.ntmps350
  go_wp2
  all_goals (go_ret; exact ⟨ret_int (by rw [ba_getD s _ (by omega)]), rfl⟩)

set_option maxHeartbeats 400000 in
theorem byteAt_out (s : ByteArray) (n : Int) (w : World) (hs : s.size ≤ maxLen) (h : s.size ≤ n) :
    Calls Tryz.prog 350 #[.string s, .int .i64 n] w fun e w' => e = .returned (.int .u8 (s.data.toList.getD n.toNat 0).toNat) ∧ w' = w := by
  unfold maxLen at hs
  go_enter Tryz.func350, Tryz.ntmps350
  go_wp2
  all_goals (go_ret; exact ⟨ret_int (by rw [List.getD_eq_getElem?_getD, List.getElem?_eq_none (by simp; omega)]; rfl), rfl⟩)

theorem byteAt_any (s : ByteArray) (n : Int) (w : World) (hs : s.size ≤ maxLen) (h0 : 0 ≤ n) :
    Calls Tryz.prog 350 #[.string s, .int .i64 n] w fun e w' => e = .returned (.int .u8 (s.data.toList.getD n.toNat 0).toNat) ∧ w' = w := by
  by_cases h : n < s.size
  · exact byteAt_in s n w hs h0 h
  · exact byteAt_out s n w hs (by omega)

/-- A byte of the text, or 0 behind its end. -/
def byteOf (s : ByteArray) (n : Int) : UInt8 := s.data.toList.getD n.toNat 0
theorem byteAt_of (s : ByteArray) (n : Int) (w : World) (hs : s.size ≤ maxLen) (h0 : 0 ≤ n) :
    Calls Tryz.prog 350 #[.string s, .int .i64 n] w fun e w' => e = .returned (.int .u8 (byteOf s n).toNat) ∧ w' = w := byteAt_any s n w hs h0

theorem drop_cons (s : ByteArray) (k : Nat) (h : k < s.size) : s.data.toList.drop k = s[k] :: s.data.toList.drop (k + 1) := by
  rw [List.drop_eq_getElem_cons (by simpa using h)]; rfl

theorem toList_size0 {s : ByteArray} (h : s.size = 0) : s.toList = [] := by
  rw [ByteArray.toList_eq]; apply List.eq_nil_of_length_eq_zero; simpa using h
theorem toList_sizePos {s : ByteArray} (h : ¬ s.size = 0) : ¬ s.toList = [] := by
  rw [ByteArray.toList_eq]; intro e; apply h; have := congrArg List.length e; simpa using this

theorem nameLen_at (s : ByteArray) (h : 0 < s.size) (hl : isLetN (s[0].toNat : Int) = true) : nameLen s.data.toList = 1 + nameTail (s.data.toList.drop 1) := by
  have e := drop_cons s 0 h
  rw [List.drop_zero] at e
  rw [e]; simp only [nameLen]; rw [if_pos hl]; rfl
theorem nameLen_not (s : ByteArray) (h : 0 < s.size) (hl : isLetN (s[0].toNat : Int) = false) : nameLen s.data.toList = 0 := by
  have e := drop_cons s 0 h
  rw [List.drop_zero] at e
  rw [e]; simp only [nameLen]; rw [if_neg (by rw [hl]; decide)]
theorem nameTail_step (s : ByteArray) (k : Nat) (h : k < s.size) : nameTail (s.data.toList.drop k) = if letdig s[k] then 1 + nameTail (s.data.toList.drop (k + 1)) else 0 := by
  rw [drop_cons s k h, nameTail_cons]
theorem nameTail_end (s : ByteArray) (k : Nat) (h : s.size ≤ k) : nameTail (s.data.toList.drop k) = 0 := by
  rw [List.drop_of_length_le (by simpa using h)]; rfl

set_option maxHeartbeats 1000000 in
theorem nameLength_any (s : ByteArray) (w : World) (hs : s.size ≤ maxLen) :
    Calls Tryz.prog 309 #[.string s] w fun e w' => e = .returned (.int .i64 (nameLen s.data.toList)) ∧ w' = w := by
  unfold maxLen at hs
  by_cases h0 : s.size = 0
  · have h0' := toList_size0 h0
    go_enter Tryz.func309, Tryz.ntmps309
    go_wp2
    go_ret
    exact ⟨ret_int (by rw [← ByteArray.toList_eq, h0']; rfl), rfl⟩
  have h0' := toList_sizePos h0
  have h0'' : s.toList.isEmpty = false := by simpa using h0'
  have h1 : 0 < s.size := by omega
  cases hl : isLetN (s[0].toNat : Int)
  · have H : Hid (nameLen s.data.toList = 0) := nameLen_not s h1 hl
    go_enter Tryz.func309, Tryz.ntmps309
    go_wp2_with (go_at_call 287; refine (isLetter_any _ _).mono ?_; rintro e w' ⟨rfl, rfl⟩)
    go_ret
    exact ⟨ret_int (by rw [H.out]; rfl), rfl⟩
  · have H : Hid (nameLen s.data.toList = 1 + nameTail (s.data.toList.drop 1)) := nameLen_at s h1 hl
    go_enter Tryz.func309, Tryz.ntmps309
    go_wp2_with (go_at_call 287; refine (isLetter_any _ _).mono ?_; rintro e w' ⟨rfl, rfl⟩)
    go_loop [3] (fun i => ∃ k : Nat, k ≤ s.size ∧ i = .int .i64 k ∧ nameLen s.data.toList = k + nameTail (s.data.toList.drop k)) (fun i => s.size - (intOf i).toNat)
    case atStart => exact ⟨1, by omega, rfl, H.out⟩
    case round =>
      obtain ⟨k, hk, rfl, hn⟩ := hrel
      have HN : Hid (nameLen s.data.toList = k + nameTail (s.data.toList.drop k)) := hn
      clear hn hl
      by_cases hlt : k < s.size
      · have HS : Hid (nameTail (s.data.toList.drop k) = if letdig s[k] then 1 + nameTail (s.data.toList.drop (k + 1)) else 0) := nameTail_step s k hlt
        cases hc : isLetN (s[k].toNat : Int)
        · cases hd : isDigitN (s[k].toNat : Int)
          · have HD : Hid (letdig s[k] = false) := by show letdig s[k] = false; simp [letdig, hc, hd]
            go_wp2_with (first | (go_at_call 287; refine (isLetter_any _ _).mono ?_; rintro e w' ⟨rfl, rfl⟩) | (go_at_call 288; refine (isDigit_any _ _).mono ?_; rintro e w' ⟨rfl, rfl⟩))
            go_ret
            exact ⟨ret_int (by rw [HN.out, HS.out, HD.out]; simp), rfl⟩
          · have HD : Hid (letdig s[k] = true) := by show letdig s[k] = true; simp [letdig, hd]
            go_wp2_with (first | (go_at_call 287; refine (isLetter_any _ _).mono ?_; rintro e w' ⟨rfl, rfl⟩) | (go_at_call 288; refine (isDigit_any _ _).mono ?_; rintro e w' ⟨rfl, rfl⟩))
            go_round
            case rel => exact ⟨k + 1, by omega, by go_num, by rw [HN.out, HS.out, HD.out]; simp; omega⟩
            case measure => simp [intOf]; omega
        · have HD : Hid (letdig s[k] = true) := by show letdig s[k] = true; simp [letdig, hc]
          go_wp2_with (first | (go_at_call 287; refine (isLetter_any _ _).mono ?_; rintro e w' ⟨rfl, rfl⟩) | (go_at_call 288; refine (isDigit_any _ _).mono ?_; rintro e w' ⟨rfl, rfl⟩))
          go_round
          case rel => exact ⟨k + 1, by omega, by go_num, by rw [HN.out, HS.out, HD.out]; simp; omega⟩
          case measure => simp [intOf]; omega
      · have HS : Hid (nameTail (s.data.toList.drop k) = 0) := nameTail_end s k (by omega)
        go_wp2
        go_ret
        exact ⟨ret_int (by rw [HN.out, HS.out]; simp), rfl⟩

end Go.Proofs.YtbiclelojbfnbaaGreatDoor
