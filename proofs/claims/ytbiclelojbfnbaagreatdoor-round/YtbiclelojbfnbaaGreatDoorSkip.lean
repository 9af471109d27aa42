import Derived.Test.YtbiclelojbfnbaaGreatDoorScan
namespace Go.Proofs.YtbiclelojbfnbaaGreatDoor
open Go.RowKit
set_option linter.unusedVariables false
set_option linter.unusedSimpArgs false

theorem extract_list (s : ByteArray) (a : Nat) : (s.extract a s.size).data.toList = s.data.toList.drop a := by
  rw [ByteArray.data_extract, Array.toList_extract, List.extract_eq_take_drop]
  rw [List.take_of_length_le]
  simp
theorem extract_size (s : ByteArray) (a : Nat) : (s.extract a s.size).size = s.size - a := by
  rw [Lib.size_eq, extract_list]; simp

theorem skipF_nil (f p : Nat) : skipF f [] p = .ok p := by cases f <;> rfl
theorem skipF_blank (f p : Nat) (c : UInt8) (r : List UInt8) (h : isBlankN c.toNat = true) : skipF (f + 1) (c :: r) p = skipF f r (p + 1) := by
  simp only [skipF]; rw [if_pos h]
theorem skipF_line (f p : Nat) (c : UInt8) (r : List UInt8) (h : isBlankN c.toNat = false) (h1 : c.toNat = 35) : skipF (f + 1) (c :: r) p = skipF f ((c :: r).drop (lineLen (c :: r))) (p + lineLen (c :: r)) := by
  simp only [skipF]; rw [if_neg (by rw [h]; decide), if_pos h1]
theorem skipF_open (f p : Nat) (c : UInt8) (r : List UInt8) (h : isBlankN c.toNat = false) (h1 : ¬ c.toNat = 35) (h2 : Lib.hasPrefix (c :: r) [47, 42] = true) (h3 : Lib.index (r.drop 1) [42, 47] < 0) : skipF (f + 1) (c :: r) p = .error ⟨2, p⟩ := by
  simp only [skipF]; rw [if_neg (by rw [h]; decide), if_neg h1, if_pos h2, if_pos h3]
theorem skipF_note (f p : Nat) (c : UInt8) (r : List UInt8) (h : isBlankN c.toNat = false) (h1 : ¬ c.toNat = 35) (h2 : Lib.hasPrefix (c :: r) [47, 42] = true) (h3 : ¬ Lib.index (r.drop 1) [42, 47] < 0) : skipF (f + 1) (c :: r) p = skipF f ((c :: r).drop (4 + (Lib.index (r.drop 1) [42, 47]).toNat)) (p + (4 + (Lib.index (r.drop 1) [42, 47]).toNat)) := by
  simp only [skipF]; rw [if_neg (by rw [h]; decide), if_neg h1, if_pos h2, if_neg h3]
theorem skipF_stop (f p : Nat) (c : UInt8) (r : List UInt8) (h : isBlankN c.toNat = false) (h1 : ¬ c.toNat = 35) (h2 : Lib.hasPrefix (c :: r) [47, 42] = false) : skipF (f + 1) (c :: r) p = .ok p := by
  simp only [skipF]; rw [if_neg (by rw [h]; decide), if_neg h1, if_neg (by rw [h2]; decide)]

theorem hasPrefix_two (l : List UInt8) (a b : UInt8) (h : Lib.hasPrefix l [a, b] = true) : 2 ≤ l.length := by
  have := (List.isPrefixOf_iff_prefix.1 h).length_le
  simpa using this

def SkipPost (r : Except Flt Nat) (w : World) (e : Ending) (w' : World) : Prop :=
  match r with
  | .ok n => e = .returned (.int .i64 n) ∧ w' = w
  | .error f => Threw f w e w' ∧ Below w.heap.size w w'
theorem SkipPost.ok {r : Except Flt Nat} {n : Nat} {w : World} {x : Int} (h : r = .ok n) (hx : x = n) : SkipPost r w (.returned (.int .i64 x)) w := by
  subst h; subst hx; exact ⟨rfl, rfl⟩
theorem threw_new (er p : Nat) (w : World) : Threw ⟨er, p⟩ w (.panicked [{ v := .iface 140 (.pointer (some ⟨w.heap.size, 0, none⟩)), recovered := false }]) (w.alloc (.cells #[.int .i64 er, .int .i64 p] 145)) := by
  refine ⟨w.heap.size, Nat.le_refl _, rfl, ?_⟩
  show (w.heap.push _)[w.heap.size]? = _
  simp
theorem SkipPost.err {r : Except Flt Nat} {er p : Nat} {w : World} (h : r = .error ⟨er, p⟩) :
    SkipPost r w (.panicked [{ v := .iface 140 (.pointer (some ⟨w.heap.size, 0, none⟩)), recovered := false }]) (w.alloc (.cells #[.int .i64 er, .int .i64 p] 145)) := by
  subst h; exact ⟨threw_new er p w, (Below.refl _ _).alloc (Nat.le_refl _) _⟩

set_option maxHeartbeats 2000000 in
theorem skip_any (s : ByteArray) (at_ f0 : Nat) (m : Int) (w : World) (hs : s.size ≤ 4294967280) (ha : at_ ≤ s.size) (hf : s.size - at_ < f0) (hm : w.cell? ⟨1, 0, none⟩ = some (.int .i64 m)) :
    Calls Tryz.prog 260 #[.string s, .int .i64 at_] w (SkipPost (skipF f0 (s.data.toList.drop at_) at_) w) := by
  go_enter Tryz.func260, Tryz.ntmps260
  go_wp2_with fail
  go_loop [1, 5, 6] (fun a _ _ => ∃ k f : Nat, k ≤ s.size ∧ s.size - k < f ∧ a = .int .i64 k ∧ skipF f0 (s.data.toList.drop at_) at_ = skipF f (s.data.toList.drop k) k) (fun a _ _ => s.size - (intOf a).toNat)
  case atStart => exact ⟨at_, f0, ha, hf, rfl, rfl⟩
  case round =>
    obtain ⟨k, f, hk, hkf, rfl, hR⟩ := hrel
    obtain ⟨f, rfl⟩ : ∃ g, f = g + 1 := ⟨f - 1, by omega⟩
    have HR := hide hR
    clear hR
    by_cases hlt : k < s.size
    · have hd := drop_cons s k hlt
      obtain ⟨rs, hx⟩ : ∃ rs, s.extract k s.size = rs := ⟨_, rfl⟩
      have HL : Hid (rs.data.toList = s.data.toList.drop k) := by rw [← hx]; exact extract_list s k
      have hz : rs.size = s.size - k := by rw [← hx]; exact extract_size s k
      have hz0 : 0 < rs.size := by omega
      have hz1 : rs.size ≤ s.size - k := by omega
      have HZ := hide hz
      clear hz
      have h0 : rs[0] = s[k] := by
        have e := HL.out
        rw [hd] at e
        have e2 := drop_cons rs 0 hz0
        rw [List.drop_zero, e] at e2
        exact (List.cons.inj e2).1.symm
      generalize hcd : s[k] = c at h0 hd
      clear hcd
      rw [hd] at HR
      have HD := hide hd
      clear hd
      cases hb : isBlankN (c.toNat : Int)
      · by_cases h35 : (c.toNat : Int) = 35
        · have HS := hide (skipF_line f k c (s.data.toList.drop (k + 1)) hb (by omega))
          have hll := lineLen_le rs.data.toList
          have hlp : 1 ≤ lineLen rs.data.toList := by rw [HL.out, HD.out]; exact lineLen_pos _ _
          have hlz : rs.data.toList.length = rs.size := by simp
          rw [hlz] at hll
          have h35' : ((c.toNat : Int) == 35) = true := by simpa using h35
          clear h35
          have HLL : Hid (lineLen (c :: s.data.toList.drop (k + 1)) = lineLen rs.data.toList) := by show _ = _; rw [HL.out, HD.out]
          go_wp2_with (first | (go_at_call 313; refine (isBlank_any _ _).mono ?_; rintro e w' ⟨rfl, rfl⟩) | (go_at_call 314; refine (lineLength_any _ _ (by omega)).mono ?_; rintro e w' ⟨rfl, rfl⟩))
          refine ⟨⟨k + lineLen rs.data.toList, f, by omega, by omega, by go_num, ?_⟩, by simp [intOf]; omega⟩
          rw [HR.out, HS.out, HLL.out, ← HD.out, List.drop_drop]
        · have h35' : ((c.toNat : Int) == 35) = false := by simpa using h35
          cases hp : Lib.hasPrefix rs.data.toList [47, 42]
          · have HS := hide (skipF_stop f k c (s.data.toList.drop (k + 1)) hb (by omega) (by rw [← HD.out, ← HL.out]; exact hp))
            clear h35
            go_wp2_with (first | (go_at_call 313; refine (isBlank_any _ _).mono ?_; rintro e w' ⟨rfl, rfl⟩) | (go_at_call 301; refine (Tryz.strings_HasPrefix _ _ _).mono ?_; rintro e w' ⟨rfl, rfl⟩))
            go_ret
            exact SkipPost.ok (by rw [HR.out, HS.out]) rfl
          · have h2 := hasPrefix_two _ _ _ hp
            have hlz : rs.data.toList.length = rs.size := by simp
            rw [hlz] at h2
            obtain ⟨rt, hx2⟩ : ∃ rt, rs.extract 2 rs.size = rt := ⟨_, rfl⟩
            have HL2 : Hid (rt.data.toList = (s.data.toList.drop (k + 1)).drop 1) := by
              show _ = _
              rw [← hx2, extract_list, HL.out, HD.out]; rfl
            have hz2 : rt.size = rs.size - 2 := by rw [← hx2]; exact extract_size rs 2
            have hz3 : rt.size ≤ rs.size - 2 := by omega
            have hzz : (rt.data.toList.length : Int) = rt.size := by simp
            have hroom := index_room rt.data.toList [42, 47]
            rw [hzz] at hroom
            have hge := Lib.index_ge rt.data.toList [42, 47]
            clear hz2 hlz hzz
            by_cases hi : Lib.index rt.data.toList [42, 47] < 0
            · have HS := hide (skipF_open f k c (s.data.toList.drop (k + 1)) hb (by omega) (by rw [← HD.out, ← HL.out]; exact hp) (by rw [← HL2.out]; exact hi))
              clear h35 hroom
              go_wp2_with (first | (go_at_call 313; refine (isBlank_any _ _).mono ?_; rintro e w' ⟨rfl, rfl⟩) | (go_at_call 301; refine (Tryz.strings_HasPrefix _ _ _).mono ?_; rintro e w' ⟨rfl, rfl⟩) | (go_at_call 315; refine (Tryz.strings_Index _ _ m _ (by omega) hm).mono ?_; rintro e w' ⟨rfl, rfl⟩) | (go_at_call 118; refine (fault_any _ _ _).mono ?_; rintro e w' ⟨rfl, rfl⟩))
              exact ⟨rfl, SkipPost.err (by rw [HR.out, HS.out])⟩
            · have hroom' : Lib.index rt.data.toList [42, 47] + 2 ≤ rt.size := by
                rcases hroom with h | h
                · exact absurd h hi
                · simpa using h
              have HS := hide (skipF_note f k c (s.data.toList.drop (k + 1)) hb (by omega) (by rw [← HD.out, ← HL.out]; exact hp) (by rw [← HL2.out]; exact hi))
              clear h35 hroom
              go_wp2_with (first | (go_at_call 313; refine (isBlank_any _ _).mono ?_; rintro e w' ⟨rfl, rfl⟩) | (go_at_call 301; refine (Tryz.strings_HasPrefix _ _ _).mono ?_; rintro e w' ⟨rfl, rfl⟩) | (go_at_call 315; refine (Tryz.strings_Index _ _ m _ (by omega) hm).mono ?_; rintro e w' ⟨rfl, rfl⟩) | (go_at_call 118; refine (fault_any _ _ _).mono ?_; rintro e w' ⟨rfl, rfl⟩))
              refine ⟨⟨k + (4 + (Lib.index rt.data.toList [42, 47]).toNat), f, by omega, by omega, congrArg _ (by omega), ?_⟩, by simp [intOf]; omega⟩
              rw [HR.out, HS.out, ← HL2.out, ← HD.out, List.drop_drop]
      · have HS := hide (skipF_blank f k c (s.data.toList.drop (k + 1)) hb)
        go_wp2_with (first | (go_at_call 313; refine (isBlank_any _ _).mono ?_; rintro e w' ⟨rfl, rfl⟩))
        go_round
        case rel => exact ⟨k + 1, f, by omega, by omega, by go_num, by rw [HR.out, HS.out]⟩
        case measure => simp [intOf]; omega
    · go_wp2
      go_ret
      exact SkipPost.ok (by rw [HR.out, List.drop_of_length_le (by simp; omega), skipF_nil]) rfl

end Go.Proofs.YtbiclelojbfnbaaGreatDoor
