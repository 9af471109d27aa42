import Derived.Test.YtbiclelojbfnbaaGreatDoorAsk2
namespace Go.Proofs.YtbiclelojbfnbaaGreatDoor
open Go.RowKit
set_option linter.unusedVariables false
set_option linter.unusedSimpArgs false

def chkAny (_ : List UInt8) : Nat := 0
def chkName (x : List UInt8) : Nat := if isNameL x then 0 else 7
def chkOne (er : Nat) (zs : List (List UInt8)) (x : List UInt8) : Nat := if 0 < whichL zs x then 0 else er
def chkSmall (c : List UInt8 → Nat) (x : List UInt8) : Nat := c (smallL x)

theorem strA_list (x : List UInt8) : (strA x).data.toList = x := rfl
set_option maxHeartbeats 400000 in
theorem anything_any (s : ByteArray) (w : World) : Calls Tryz.prog 165 #[.string s] w fun e w' => e = .returned (.int .i64 0) ∧ w' = w := by
  go_enter Tryz.func165, Tryz.ntmps165
  go_wp2
  go_ret
  exact ⟨rfl, rfl⟩

set_option maxHeartbeats 400000 in
theorem isName_any (x : List UInt8) (w : World) (hs : x.length ≤ 1000) :
    Calls Tryz.prog 305 #[.string (strA x)] w fun e w' => e = .returned (.bool (isNameL x)) ∧ w' = w := by
  have hle := nameLen_le x
  have hsz : (strA x).size = x.length := rfl
  have hL := hide (nameLength_any (strA x) w (by rw [hsz]; unfold maxLen; omega))
  by_cases h0 : x.length = 0
  · have hx : x = [] := List.eq_nil_of_length_eq_zero h0
    subst hx
    have h0' : (strA []).toList = [] := toList_size0 rfl
    have h0'' : (strA []).toList.isEmpty = true := by rw [h0']; rfl
    go_enter Tryz.func305, Tryz.ntmps305
    go_wp2
    go_ret
    exact ⟨rfl, rfl⟩
  · have h0' : ¬ (strA x).toList = [] := toList_sizePos (by rw [hsz]; exact h0)
    have h0'' : (strA x).toList.isEmpty = false := by simpa using h0'
    go_enter Tryz.func305, Tryz.ntmps305
    go_wp2_with (go_at_call 309; refine hL.out.mono ?_; rintro e w' ⟨rfl, rfl⟩)
    go_ret
    refine ⟨ret_bool ?_, rfl⟩
    rw [strA_list]
    unfold isNameL
    have : x.isEmpty = false := by
      cases x with
      | nil => exact absurd rfl h0
      | cons a r => rfl
    rw [this, Bool.eq_iff_iff]
    simp
    omega

set_option maxHeartbeats 400000 in
theorem aName_any (x : List UInt8) (w : World) (hs : x.length ≤ 1000) :
    Calls Tryz.prog 248 #[.string (strA x)] w fun e w' => e = .returned (.int .i64 (chkName x)) ∧ w' = w := by
  have hN := hide (isName_any x w hs)
  cases h : isNameL x
  · have HE : Hid (chkName x = 7) := by show _ = _; unfold chkName; rw [h]; rfl
    go_enter Tryz.func248, Tryz.ntmps248
    go_wp2_with (go_at_call 305; refine hN.out.mono ?_; rintro e w' ⟨rfl, rfl⟩)
    go_ret
    exact ⟨ret_int (by rw [HE.out]; rfl), rfl⟩
  · have HE : Hid (chkName x = 0) := by show _ = _; unfold chkName; rw [h]; rfl
    go_enter Tryz.func248, Tryz.ntmps248
    go_wp2_with (go_at_call 305; refine hN.out.mono ?_; rintro e w' ⟨rfl, rfl⟩)
    go_ret
    exact ⟨ret_int (by rw [HE.out]; rfl), rfl⟩

theorem contains_any (g n c : Nat) (zs : List (List UInt8)) (x : List UInt8) (w : World) (hz : TxtAt w g zs) (hn : n = zs.length) (hl : zs.length ≤ 1000) :
    Calls Tryz.prog 79 #[.slice (some ⟨g, 0, none⟩) n c, .string (strA x)] w fun e w' => e = .returned (.bool (decide (0 < whichL zs x))) ∧ w' = w := by
  have hi := Tryz.slices_Contains_string g 0 n c (zs.map strA) (strA x) w (by simp [hn]) (by omega) (fun j hj => by
    have hj' : j < zs.length := by simpa using hj
    rw [Nat.zero_add, getD_map_strA _ _ hj']; exact hz j hj')
  rw [hn, List.take_of_length_le (by simp), contains_which] at hi
  rw [hn]
  exact hi

/-- The closure that 'oneOf' makes: its two variables. -/
def OneAt (w : World) (p1 p2 g n c er : Nat) (zs : List (List UInt8)) : Prop :=
  w.cell? ⟨p1, 0, none⟩ = some (.slice (some ⟨g, 0, none⟩) n c) ∧ w.cell? ⟨p2, 0, none⟩ = some (.int .i64 er) ∧ TxtAt w g zs ∧ n = zs.length ∧ zs.length ≤ 1000

set_option maxHeartbeats 400000 in
theorem oneOf1_any (p1 p2 g n c er : Nat) (zs : List (List UInt8)) (x : List UInt8) (w : World) (h : OneAt w p1 p2 g n c er zs) :
    Calls Tryz.prog 256 #[.string (strA x), .pointer (some ⟨p1, 0, none⟩), .pointer (some ⟨p2, 0, none⟩)] w fun e w' => e = .returned (.int .i64 (chkOne er zs x)) ∧ w' = w := by
  obtain ⟨h1, h2, hz, hn, hl⟩ := h
  have hC := hide (contains_any g n c zs x w hz hn hl)
  clear hz hn
  by_cases h : 0 < whichL zs x
  · have HE : Hid (chkOne er zs x = 0) := by show _ = _; unfold chkOne; rw [if_pos h]
    have hd : decide (0 < whichL zs x) = true := by simpa using h
    rw [hd] at hC
    go_enter Tryz.func256, Tryz.ntmps256
    go_wp2_with (go_at_call 79; refine hC.out.mono ?_; rintro e w' ⟨rfl, rfl⟩)
    go_ret
    exact ⟨ret_int (by rw [HE.out]; rfl), rfl⟩
  · have HE : Hid (chkOne er zs x = er) := by show _ = _; unfold chkOne; rw [if_neg h]
    have hd : decide (0 < whichL zs x) = false := by simpa using h
    rw [hd] at hC
    go_enter Tryz.func256, Tryz.ntmps256
    go_wp2_with (go_at_call 79; refine hC.out.mono ?_; rintro e w' ⟨rfl, rfl⟩)
    go_ret
    exact ⟨ret_int (by rw [HE.out]), rfl⟩

set_option maxHeartbeats 400000 in
theorem oneOf_any (er : Int) (g n c : Nat) (w : World) :
    Calls Tryz.prog 168 #[.int .i64 er, .slice (some ⟨g, 0, none⟩) n c] w fun e w' => e = .returned (.func (.func 256) #[] #[.pointer (some ⟨w.heap.size + 1, 0, none⟩), .pointer (some ⟨w.heap.size, 0, none⟩)]) ∧ w' = (w.alloc (.cells #[.int .i64 er] 39)).alloc (.cells #[.slice (some ⟨g, 0, none⟩) n c] 60) := by
  have hmf : ∀ (fn : Fn) (first cap : Array Value) (w : World), (Instr.makeFunc fn first cap).run Tryz.prog w = .ok (.func fn first cap) w := fun _ _ _ _ => rfl
  go_enter Tryz.func168, Tryz.ntmps168
  go_wp2
  go_ret
  exact ⟨rfl, rfl⟩

set_option maxHeartbeats 400000 in
theorem inSmall_any (f : Nat) (a1 a2 : Value) (w : World) :
    Calls Tryz.prog 167 #[.func (.func f) #[] #[a1, a2]] w fun e w' => e = .returned (.func (.func 255) #[] #[.pointer (some ⟨w.heap.size, 0, none⟩)]) ∧ w' = w.alloc (.cells #[.func (.func f) #[] #[a1, a2]] 279) := by
  have hmf : ∀ (fn : Fn) (first cap : Array Value) (w : World), (Instr.makeFunc fn first cap).run Tryz.prog w = .ok (.func fn first cap) w := fun _ _ _ _ => rfl
  go_enter Tryz.func167, Tryz.ntmps167
  go_wp2
  go_ret
  exact ⟨rfl, rfl⟩

/-- The closure that 'inSmall' makes over one of 'oneOf': its variable, and theirs. -/
def SmallAt (w : World) (q p1 p2 g n c er : Nat) (zs : List (List UInt8)) : Prop :=
  w.cell? ⟨q, 0, none⟩ = some (.func (.func 256) #[] #[.pointer (some ⟨p1, 0, none⟩), .pointer (some ⟨p2, 0, none⟩)]) ∧ OneAt w p1 p2 g n c er zs

theorem TxtAt.below {w w' : World} {g : Nat} {zs : List (List UInt8)} (h : TxtAt w g zs) (hb : Below w.heap.size w w') : TxtAt w' g zs := fun j hj => by
  have := h j hj
  rw [hb.cell (p := ⟨g, j, none⟩) (cell_lt this)]; exact this
theorem OneAt.below {w w' : World} {p1 p2 g n c er : Nat} {zs : List (List UInt8)} (h : OneAt w p1 p2 g n c er zs) (hb : Below w.heap.size w w') : OneAt w' p1 p2 g n c er zs := by
  obtain ⟨h1, h2, h3, h4, h5⟩ := h
  exact ⟨by rw [hb.cell (p := ⟨p1, 0, none⟩) (cell_lt h1)]; exact h1, by rw [hb.cell (p := ⟨p2, 0, none⟩) (cell_lt h2)]; exact h2, h3.below hb, h4, h5⟩

set_option maxRecDepth 100000 in
set_option maxHeartbeats 1000000 in
theorem inSmall1_any (q p1 p2 g n c er : Nat) (zs : List (List UInt8)) (x : List UInt8) (w : World) (h : SmallAt w q p1 p2 g n c er zs) (hx : x.length ≤ 1000) :
    Calls Tryz.prog 255 #[.string (strA x), .pointer (some ⟨q, 0, none⟩)] w fun e w' => e = .returned (.int .i64 (chkSmall (chkOne er zs) x)) ∧ Below w.heap.size w w' := by
  obtain ⟨hq, hO⟩ := h
  have HO := hide hO
  have HQ := hide hq
  clear hO
  have hs := hide (fun W => small_any (strA x) W (by rw [strA_size]; omega))
  go_enter Tryz.func255, Tryz.ntmps255
  go_wp2_with fail
  go_region_with (first | (go_at_call 247; refine (hs.out _).mono ?_; rintro e w1 ⟨rfl, hb⟩; have hq1 := (hb.cell (p := ⟨q, 0, none⟩) (cell_lt HQ.out)).trans HQ.out; skip) | (go_at_call 256; refine (oneOf1_any p1 p2 g n c er zs (smallL x) _ (HO.out.below (below_drew hb))).mono ?_; rintro e w2 ⟨rfl, rfl⟩; skip))
  all_goals go_wp2
  all_goals go_ret
  all_goals exact ⟨rfl, below_drew hb⟩

end Go.Proofs.YtbiclelojbfnbaaGreatDoor
