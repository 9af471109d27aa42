import Derived.Test.YtbiclelojbfnbaaGreatDoorNumber
import Derived.Test.YtbiclelojbfnbaaGreatDoorQuote
namespace Go.Proofs.YtbiclelojbfnbaaGreatDoor
open Go.RowKit
set_option linter.unusedVariables false
set_option linter.unusedSimpArgs false

theorem scanSpelt_at (k : Int) (s : ByteArray) (at_ n : Nat) (x : Int) (w : World) (hx : x = n) (hs : s.size ≤ 4294967280) (ha : at_ + n ≤ s.size) :
    Calls Tryz.prog 308 #[.int .i64 k, .string s, .int .i64 at_, .int .i64 x] w fun e w' =>
      e = .returned (.tuple #[.agg #[.int .i64 k, .int .i64 at_, .string ⟨(smallL ((s.data.toList.drop at_).take n)).toArray⟩, .string ⟨#[]⟩, .int .i64 0], .int .i64 (at_ + n : Nat)]) ∧ Below w.heap.size w w' := by
  subst hx; exact scanSpelt_any k s at_ n w hs ha

/-- The zero word, in a block of its own. -/
def zeroWd : Obj := .cells #[.int .i64 0, .int .i64 0, .string ⟨#[]⟩, .string ⟨#[]⟩, .int .i64 0] 256

theorem below_five {w w1 : World} (h : Below (w.alloc zeroWd).heap.size (w.alloc zeroWd) w1) (a b c d e : Value) :
    Below w.heap.size w (((((w1.setCell ⟨w.heap.size, 0, none⟩ a).setCell ⟨w.heap.size, 1, none⟩ b).setCell ⟨w.heap.size, 2, none⟩ c).setCell ⟨w.heap.size, 3, none⟩ d).setCell ⟨w.heap.size, 4, none⟩ e) := by
  have hb0 : Below w.heap.size w w1 := ((Below.refl _ w).alloc (Nat.le_refl _) _).trans (h.mono (by simp))
  exact ((((hb0.setCell (Nat.le_refl _) _).setCell (Nat.le_refl _) _).setCell (Nat.le_refl _) _).setCell (Nat.le_refl _) _).setCell (Nat.le_refl _) _

theorem scanL_cons (c : UInt8) (r : List UInt8) (p : Nat) : scanL (c :: r) p =
    if isLetN c.toNat then .ok (spellL 1 (c :: r) p (nameLen (c :: r)))
    else if c.toNat = 58 then
      if nameLen r = 0 then .error ⟨2, p⟩ else .ok (spellL 2 (c :: r) p (1 + nameLen r))
    else if isDigitN c.toNat then scanNumL (c :: r) p
    else if c.toNat = 34 then quoteR r p
    else if isSign c then .ok (spellL 3 (c :: r) p 1)
    else .error ⟨2, p⟩ := rfl
theorem scanL_nil (p : Nat) : scanL [] p = .ok (⟨0, p, [], [], 0⟩, p) := rfl

set_option maxRecDepth 100000 in
set_option maxHeartbeats 2000000 in
theorem scan_end (s : ByteArray) (at_ : Nat) (w : World) (ha : at_ = s.size) :
    Calls Tryz.prog 259 #[.string s, .int .i64 at_] w (ScanPost (scanL (s.data.toList.drop at_) at_) w) := by
  have HE : Hid (scanL (s.data.toList.drop at_) at_ = .ok (⟨0, at_, [], [], 0⟩, at_)) := by
    show _ = _
    rw [List.drop_of_length_le (by simp; omega)]; rfl
  have ht : ((at_ : Int) == (s.size : Int)) = true := by simp; omega
  clear ha
  go_enter Tryz.func259, Tryz.ntmps259
  go_wp2
  refine bodyPost_ret (v := .tuple #[.agg #[.int .i64 0, .int .i64 at_, .string ⟨#[]⟩, .string ⟨#[]⟩, .int .i64 0], .int .i64 at_]) (by simp [results, Tryz.results259, go_sem]) rfl (ScanPost.ok HE.out ?_ rfl rfl)
  exact (Below.refl _ _).alloc (Nat.le_refl _) _

set_option maxRecDepth 100000 in
set_option maxHeartbeats 2000000 in
theorem scan_letter (s : ByteArray) (at_ : Nat) (c : UInt8) (r : List UInt8) (w : World) (hs : s.size ≤ 4294967280) (hd : s.data.toList.drop at_ = c :: r) (hlt : at_ < s.size) (hc : s[at_] = c) (hl : isLetN (c.toNat : Int) = true) :
    Calls Tryz.prog 259 #[.string s, .int .i64 at_] w (ScanPost (scanL (s.data.toList.drop at_) at_) w) := by
  have HE : Hid (scanL (s.data.toList.drop at_) at_ = .ok (spellL 1 (s.data.toList.drop at_) at_ (nameLen (s.data.toList.drop at_)))) := by
    show _ = _
    rw [hd, scanL_cons, if_pos hl]
  obtain ⟨rs, hx⟩ : ∃ rs, s.extract at_ s.size = rs := ⟨_, rfl⟩
  have HL : Hid (rs.data.toList = s.data.toList.drop at_) := by rw [← hx]; exact extract_list s at_
  have hz : rs.size ≤ s.size - at_ := by rw [← hx, extract_size]; omega
  have hn := nameLen_le rs.data.toList
  rw [← Lib.size_eq] at hn
  have ht : ((at_ : Int) == (s.size : Int)) = false := by simp; omega
  have HD := hide hd
  clear hd
  go_enter Tryz.func259, Tryz.ntmps259
  go_wp2_with (first | (go_at_call 287; refine (isLetter_any _ _).mono ?_; rintro e w' ⟨rfl, rfl⟩) | (go_at_call 309; refine (nameLength_any _ _ (by unfold maxLen; omega)).mono ?_; rintro e w' ⟨rfl, rfl⟩))
  refine (scanSpelt_at 1 s at_ (nameLen rs.data.toList) _ _ rfl hs (by omega)).mono ?_
  rintro e w1 ⟨rfl, hb⟩
  obtain ⟨hcc, hf⟩ := bcell hb
  have hz1 : w.heap.size < w1.heap.size := by have := hb.size; simp at this; omega
  have HB := hide hb
  rw [HL.out]
  clear hb
  go_wp2
  refine bodyPost_ret (v := .tuple #[.agg #[.int .i64 1, .int .i64 at_, .string ⟨(smallL ((s.data.toList.drop at_).take (nameLen (s.data.toList.drop at_)))).toArray⟩, .string ⟨#[]⟩, .int .i64 0], .int .i64 (at_ + nameLen (s.data.toList.drop at_) : Nat)]) (by simp [results, Tryz.results259, go_sem, hcc, hz1]) rfl (ScanPost.ok HE.out (below_five HB.out _ _ _ _ _) rfl rfl)

set_option maxRecDepth 100000 in
set_option maxHeartbeats 2000000 in
theorem scan_tag (s : ByteArray) (at_ : Nat) (c : UInt8) (r : List UInt8) (w : World) (hs : s.size ≤ 4294967280) (hd : s.data.toList.drop at_ = c :: r) (hlt : at_ < s.size) (hc : s[at_] = c) (hl : isLetN (c.toNat : Int) = false) (h58 : (c.toNat : Int) = 58) :
    Calls Tryz.prog 259 #[.string s, .int .i64 at_] w (ScanPost (scanL (s.data.toList.drop at_) at_) w) := by
  have HD : Hid (s.data.toList.drop (at_ + 1) = r) := by
    show _ = _
    have := drop_cons s at_ hlt
    rw [hd] at this
    exact (List.cons.inj this).2.symm
  obtain ⟨rs, hx⟩ : ∃ rs, s.extract (at_ + 1) s.size = rs := ⟨_, rfl⟩
  have HL : Hid (rs.data.toList = r) := by show _ = _; rw [← hx, extract_list]; exact HD.out
  have hz : rs.size ≤ s.size - (at_ + 1) := by rw [← hx, extract_size]; omega
  have hn := nameLen_le rs.data.toList
  rw [← Lib.size_eq] at hn
  have ht : ((at_ : Int) == (s.size : Int)) = false := by simp; omega
  have h58' : ((c.toNat : Int) == 58) = true := by simpa using h58
  by_cases h0 : nameLen rs.data.toList = 0
  · have HE : Hid (scanL (s.data.toList.drop at_) at_ = .error ⟨2, at_⟩) := by
      show _ = _
      rw [hd, scanL_cons, if_neg (by rw [hl]; decide), if_pos (by omega), if_pos (by rw [← HL.out]; exact h0)]
    have h0' : ((nameLen rs.data.toList : Int) == 0) = true := by simpa using h0
    clear hd h58 h0
    go_enter Tryz.func259, Tryz.ntmps259
    go_wp2_with (first | (go_at_call 287; refine (isLetter_any _ _).mono ?_; rintro e w' ⟨rfl, rfl⟩) | (go_at_call 309; refine (nameLength_any _ _ (by unfold maxLen; omega)).mono ?_; rintro e w' ⟨rfl, rfl⟩) | (go_at_call 118; refine (fault_any _ _ _).mono ?_; rintro e w' ⟨rfl, rfl⟩))
    exact ⟨rfl, ScanPost.err HE.out (((Below.refl _ w).alloc (Nat.le_refl _) _).alloc (by simp) _) (threw_at 2 at_ (by simp) (by simp))⟩
  · have HE : Hid (scanL (s.data.toList.drop at_) at_ = .ok (spellL 2 (s.data.toList.drop at_) at_ (1 + nameLen rs.data.toList))) := by
      show _ = _
      rw [hd, scanL_cons, if_neg (by rw [hl]; decide), if_pos (by omega), if_neg (by rw [← HL.out]; exact h0), HL.out]
    have h0' : ((nameLen rs.data.toList : Int) == 0) = false := by simpa using h0
    clear hd h58 h0
    go_enter Tryz.func259, Tryz.ntmps259
    go_wp2_with (first | (go_at_call 287; refine (isLetter_any _ _).mono ?_; rintro e w' ⟨rfl, rfl⟩) | (go_at_call 309; refine (nameLength_any _ _ (by unfold maxLen; omega)).mono ?_; rintro e w' ⟨rfl, rfl⟩) | (go_at_call 118; refine (fault_any _ _ _).mono ?_; rintro e w' ⟨rfl, rfl⟩))
    refine (scanSpelt_at 2 s at_ (1 + nameLen rs.data.toList) _ _ (by omega) hs (by omega)).mono ?_
    rintro e w1 ⟨rfl, hb⟩
    obtain ⟨hcc, hf⟩ := bcell hb
    have hz1 : w.heap.size < w1.heap.size := by have := hb.size; simp at this; omega
    have HB := hide hb
    generalize 1 + nameLen rs.data.toList = n at HE
    clear hb
    go_wp2
    exact bodyPost_ret (v := .tuple #[.agg #[.int .i64 2, .int .i64 at_, .string ⟨(smallL ((s.data.toList.drop at_).take n)).toArray⟩, .string ⟨#[]⟩, .int .i64 0], .int .i64 (at_ + n : Nat)]) (by simp [results, Tryz.results259, go_sem, hcc, hz1]) rfl (ScanPost.ok HE.out (below_five HB.out _ _ _ _ _) rfl rfl)

set_option maxRecDepth 100000 in
set_option maxHeartbeats 2000000 in
theorem scan_number (s : ByteArray) (at_ : Nat) (c : UInt8) (r : List UInt8) (w : World) (hs : s.size ≤ 4294967280) (hd : s.data.toList.drop at_ = c :: r) (hlt : at_ < s.size) (hc : s[at_] = c) (hl : isLetN (c.toNat : Int) = false) (h58 : ¬ (c.toNat : Int) = 58) (hg : isDigitN (c.toNat : Int) = true) :
    Calls Tryz.prog 259 #[.string s, .int .i64 at_] w (ScanPost (scanL (s.data.toList.drop at_) at_) w) := by
  have HE : Hid (scanL (s.data.toList.drop at_) at_ = scanNumL (s.data.toList.drop at_) at_) := by
    show _ = _
    rw [hd, scanL_cons, if_neg (by rw [hl]; decide), if_neg (by omega), if_pos hg]
  have ht : ((at_ : Int) == (s.size : Int)) = false := by simp; omega
  have h58' : ((c.toNat : Int) == 58) = false := by simpa using h58
  have hcl := hide (fun W => (scanNumber_any s at_ W hs (by omega)))
  rw [HE.out]
  rw [HE.out] at HE
  generalize scanNumL (s.data.toList.drop at_) at_ = R at hcl HE ⊢
  clear hd h58 HE
  go_enter Tryz.func259, Tryz.ntmps259
  go_wp2_with (first | (go_at_call 287; refine (isLetter_any _ _).mono ?_; rintro e w' ⟨rfl, rfl⟩) | (go_at_call 288; refine (isDigit_any _ _).mono ?_; rintro e w' ⟨rfl, rfl⟩))
  refine (hcl.out _).mono ?_
  rintro e w1 ⟨hb, h⟩
  have hz1 : w.heap.size < w1.heap.size := by have := hb.size; simp at this; omega
  obtain ⟨hcc, hf⟩ := bcell hb
  have HB := hide hb
  clear hb
  cases R with
  | error f =>
    have h' : Threw f (w.alloc zeroWd) e w1 := h
    obtain ⟨b, h1, rfl, h2⟩ := h'
    exact ⟨rfl, ScanPost.err rfl (((Below.refl _ w).alloc (Nat.le_refl _) _).trans (HB.out.mono (by simp))) ⟨b, by simp at h1; omega, rfl, h2⟩⟩
  | ok x =>
    have h' : e = .returned (.tuple #[wdV x.1, .int .i64 x.2]) := h
    subst h'
    unfold wdV
    go_wp2
    exact bodyPost_ret (v := .tuple #[.agg #[.int .i64 x.1.kind, .int .i64 x.1.pos, .string ⟨x.1.spelt.toArray⟩, .string ⟨x.1.said.toArray⟩, .int .i64 x.1.num], .int .i64 x.2]) (by simp [results, Tryz.results259, go_sem, hcc, hz1]) rfl (ScanPost.ok rfl (below_five HB.out _ _ _ _ _) rfl rfl)

set_option maxRecDepth 100000 in
set_option maxHeartbeats 2000000 in
theorem scan_quote (s : ByteArray) (at_ : Nat) (c : UInt8) (r : List UInt8) (w : World) (hs : s.size ≤ 4294967280) (hd : s.data.toList.drop at_ = c :: r) (hlt : at_ < s.size) (hc : s[at_] = c) (hl : isLetN (c.toNat : Int) = false) (h58 : ¬ (c.toNat : Int) = 58) (hg : isDigitN (c.toNat : Int) = false) (h34 : (c.toNat : Int) = 34) :
    Calls Tryz.prog 259 #[.string s, .int .i64 at_] w (ScanPost (scanL (s.data.toList.drop at_) at_) w) := by
  have HD : Hid (s.data.toList.drop (at_ + 1) = r) := by
    show _ = _
    have := drop_cons s at_ hlt
    rw [hd] at this
    exact (List.cons.inj this).2.symm
  have HE : Hid (scanL (s.data.toList.drop at_) at_ = quoteR (s.data.toList.drop (at_ + 1)) at_) := by
    show _ = _
    rw [hd, scanL_cons, if_neg (by rw [hl]; decide), if_neg (by omega), if_neg (by rw [hg]; decide), if_pos (by omega), HD.out]
  have ht : ((at_ : Int) == (s.size : Int)) = false := by simp; omega
  have h58' : ((c.toNat : Int) == 58) = false := by simpa using h58
  have h34' : ((c.toNat : Int) == 34) = true := by simpa using h34
  have hcl := hide (fun W => (scanQuote_any s at_ W hs hlt))
  rw [HE.out]
  rw [HE.out] at HE
  generalize quoteR (s.data.toList.drop (at_ + 1)) at_ = R at hcl HE ⊢
  clear hd h58 HE h34
  go_enter Tryz.func259, Tryz.ntmps259
  go_wp2_with (first | (go_at_call 287; refine (isLetter_any _ _).mono ?_; rintro e w' ⟨rfl, rfl⟩) | (go_at_call 288; refine (isDigit_any _ _).mono ?_; rintro e w' ⟨rfl, rfl⟩))
  refine (hcl.out _).mono ?_
  rintro e w1 ⟨hb, h⟩
  have hz1 : w.heap.size < w1.heap.size := by have := hb.size; simp at this; omega
  obtain ⟨hcc, hf⟩ := bcell hb
  have HB := hide hb
  clear hb
  cases R with
  | error f =>
    have h' : Threw f (w.alloc zeroWd) e w1 := h
    obtain ⟨b, h1, rfl, h2⟩ := h'
    exact ⟨rfl, ScanPost.err rfl (((Below.refl _ w).alloc (Nat.le_refl _) _).trans (HB.out.mono (by simp))) ⟨b, by simp at h1; omega, rfl, h2⟩⟩
  | ok x =>
    have h' : e = .returned (.tuple #[wdV x.1, .int .i64 x.2]) := h
    subst h'
    unfold wdV
    go_wp2
    exact bodyPost_ret (v := .tuple #[.agg #[.int .i64 x.1.kind, .int .i64 x.1.pos, .string ⟨x.1.spelt.toArray⟩, .string ⟨x.1.said.toArray⟩, .int .i64 x.1.num], .int .i64 x.2]) (by simp [results, Tryz.results259, go_sem, hcc, hz1]) rfl (ScanPost.ok rfl (below_five HB.out _ _ _ _ _) rfl rfl)


/-- Which sign it is, or -1. -/
def signN (c : UInt8) : Int := Lib.indexByte [59, 44, 40, 41, 123, 125, 91, 93] c
theorem signIndex (c : UInt8) (w : World) :
    Calls Tryz.prog 312 #[.string ⟨#[59, 44, 40, 41, 123, 125, 91, 93]⟩, .int .u8 c.toNat] w fun e w' => e = .returned (.int .i64 (signN c)) ∧ w' = w := by
  have h := Tryz.strings_IndexByte ⟨#[59, 44, 40, 41, 123, 125, 91, 93]⟩ c.toNat w
  have e : ((c.toNat : Int).toNat).toUInt8 = c := by simp
  rw [e] at h
  exact h
set_option maxRecDepth 100000 in
set_option maxHeartbeats 2000000 in
theorem scan_sign (s : ByteArray) (at_ : Nat) (c : UInt8) (r : List UInt8) (w : World) (hs : s.size ≤ 4294967280) (hd : s.data.toList.drop at_ = c :: r) (hlt : at_ < s.size) (hc : s[at_] = c) (hl : isLetN (c.toNat : Int) = false) (h58 : ¬ (c.toNat : Int) = 58) (hg : isDigitN (c.toNat : Int) = false) (h34 : ¬ (c.toNat : Int) = 34) (hsg : isSign c = true) :
    Calls Tryz.prog 259 #[.string s, .int .i64 at_] w (ScanPost (scanL (s.data.toList.drop at_) at_) w) := by
  have HE : Hid (scanL (s.data.toList.drop at_) at_ = .ok (spellL 3 (s.data.toList.drop at_) at_ 1)) := by
    show _ = _
    rw [hd, scanL_cons, if_neg (by rw [hl]; decide), if_neg (by omega), if_neg (by rw [hg]; decide), if_neg (by omega), if_pos hsg]
  have hsg' : 0 ≤ signN c := of_decide_eq_true hsg
  have ht : ((at_ : Int) == (s.size : Int)) = false := by simp; omega
  have h58' : ((c.toNat : Int) == 58) = false := by simpa using h58
  have h34' : ((c.toNat : Int) == 34) = false := by simpa using h34
  clear hd h58 h34 hsg
  go_enter Tryz.func259, Tryz.ntmps259
  go_wp2_with (first | (go_at_call 287; refine (isLetter_any _ _).mono ?_; rintro e w' ⟨rfl, rfl⟩) | (go_at_call 288; refine (isDigit_any _ _).mono ?_; rintro e w' ⟨rfl, rfl⟩) | (go_at_call 312; refine (signIndex c _).mono ?_; rintro e w' ⟨rfl, rfl⟩))
  refine (scanSpelt_at 3 s at_ 1 _ _ rfl hs (by omega)).mono ?_
  rintro e w1 ⟨rfl, hb⟩
  obtain ⟨hcc, hf⟩ := bcell hb
  have hz1 : w.heap.size < w1.heap.size := by have := hb.size; simp at this; omega
  have HB := hide hb
  clear hb
  go_wp2
  exact bodyPost_ret (v := .tuple #[.agg #[.int .i64 3, .int .i64 at_, .string ⟨(smallL ((s.data.toList.drop at_).take 1)).toArray⟩, .string ⟨#[]⟩, .int .i64 0], .int .i64 (at_ + 1 : Nat)]) (by simp [results, Tryz.results259, go_sem, hcc, hz1]) rfl (ScanPost.ok HE.out (below_five HB.out _ _ _ _ _) rfl rfl)

set_option maxRecDepth 100000 in
set_option maxHeartbeats 2000000 in
theorem scan_bad (s : ByteArray) (at_ : Nat) (c : UInt8) (r : List UInt8) (w : World) (hs : s.size ≤ 4294967280) (hd : s.data.toList.drop at_ = c :: r) (hlt : at_ < s.size) (hc : s[at_] = c) (hl : isLetN (c.toNat : Int) = false) (h58 : ¬ (c.toNat : Int) = 58) (hg : isDigitN (c.toNat : Int) = false) (h34 : ¬ (c.toNat : Int) = 34) (hsg : isSign c = false) :
    Calls Tryz.prog 259 #[.string s, .int .i64 at_] w (ScanPost (scanL (s.data.toList.drop at_) at_) w) := by
  have HE : Hid (scanL (s.data.toList.drop at_) at_ = .error ⟨2, at_⟩) := by
    show _ = _
    rw [hd, scanL_cons, if_neg (by rw [hl]; decide), if_neg (by omega), if_neg (by rw [hg]; decide), if_neg (by omega), if_neg (by rw [hsg]; decide)]
  have hsg' : ¬ 0 ≤ signN c := of_decide_eq_false hsg
  have ht : ((at_ : Int) == (s.size : Int)) = false := by simp; omega
  have h58' : ((c.toNat : Int) == 58) = false := by simpa using h58
  have h34' : ((c.toNat : Int) == 34) = false := by simpa using h34
  clear hd h58 h34 hsg
  go_enter Tryz.func259, Tryz.ntmps259
  go_wp2_with (first | (go_at_call 287; refine (isLetter_any _ _).mono ?_; rintro e w' ⟨rfl, rfl⟩) | (go_at_call 288; refine (isDigit_any _ _).mono ?_; rintro e w' ⟨rfl, rfl⟩) | (go_at_call 312; refine (signIndex c _).mono ?_; rintro e w' ⟨rfl, rfl⟩) | (go_at_call 118; refine (fault_any _ _ _).mono ?_; rintro e w' ⟨rfl, rfl⟩))
  exact ⟨rfl, ScanPost.err HE.out (((Below.refl _ w).alloc (Nat.le_refl _) _).alloc (by simp) _) (threw_at 2 at_ (by simp) (by simp))⟩

theorem scan_any (s : ByteArray) (at_ : Nat) (w : World) (hs : s.size ≤ 4294967280) (ha : at_ ≤ s.size) :
    Calls Tryz.prog 259 #[.string s, .int .i64 at_] w (ScanPost (scanL (s.data.toList.drop at_) at_) w) := by
  by_cases h : at_ = s.size
  · exact scan_end s at_ w h
  have hlt : at_ < s.size := by omega
  have hd := drop_cons s at_ hlt
  cases hl : isLetN (s[at_].toNat : Int)
  · by_cases h58 : (s[at_].toNat : Int) = 58
    · exact scan_tag s at_ _ _ w hs hd hlt rfl hl h58
    cases hg : isDigitN (s[at_].toNat : Int)
    · by_cases h34 : (s[at_].toNat : Int) = 34
      · exact scan_quote s at_ _ _ w hs hd hlt rfl hl h58 hg h34
      cases hsg : isSign s[at_]
      · exact scan_bad s at_ _ _ w hs hd hlt rfl hl h58 hg h34 hsg
      · exact scan_sign s at_ _ _ w hs hd hlt rfl hl h58 hg h34 hsg
    · exact scan_number s at_ _ _ w hs hd hlt rfl hl h58 hg
  · exact scan_letter s at_ _ _ w hs hd hlt rfl hl

end Go.Proofs.YtbiclelojbfnbaaGreatDoor
