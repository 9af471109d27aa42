import Derived.Test.YtbiclelojbfnbaaGreatDoorWords
namespace Go.Proofs.YtbiclelojbfnbaaGreatDoor
open Go.RowKit
set_option linter.unusedVariables false
set_option linter.unusedSimpArgs false

/-- Bytes as cells. -/
def bcells (l : List UInt8) : List Value := l.map fun c => Value.int .u8 c.toNat
theorem bcells_append (l : List UInt8) (c : UInt8) : bcells l ++ [.int .u8 c.toNat] = bcells (l ++ [c]) := by simp [bcells]
theorem bcells_length (l : List UInt8) : (bcells l).length = l.length := by simp [bcells]

theorem Tryz.infoU8 : (Tryz.prog.info? 5).map (fun i => (i.zero, i.size, i.bytes)) = some (some (.int .u8 0), 1, 1) := by kernel_rfl

theorem run_bytes_own (wr : World) (base : Nat) (v : Value) (l : List UInt8) (h : wr.ownsRow base 5 1 v l.length (bcells l)) :
    (convert 172 9 v).run Tryz.prog wr = .ok (.string ⟨l.toArray⟩) wr := by
  obtain ⟨h1, h2 | ⟨g, cap, cur, hv, hg, hb, r⟩⟩ := h
  · obtain ⟨rfl, h3⟩ := h2
    have : l = [] := List.eq_nil_of_length_eq_zero h3
    subst this
    rw [run_convert_bytes_string wr 172 9 5 none 0 0 Tryz.underlying172 Tryz.underlying5 Tryz.underlying9]
    rfl
  · have hc := World.ownsRow.cells (w := wr) (base := base) (e := 5) (size := 1) (v := v) (n := l.length) (xs := bcells l) ⟨h1, Or.inr ⟨g, cap, cur, hv, hg, hb, r⟩⟩ (g := g) (by rw [hv]; rfl)
    rw [hv]
    exact run_convert_bytes_back wr 172 9 5 ⟨g, 0, none⟩ cap l Tryz.underlying172 Tryz.underlying5 Tryz.underlying9 (fun j hj => hc j _ (by simp [bcells, List.getElem?_eq_getElem hj]))

theorem quoteL_nil : quoteL [] = none := rfl
theorem quoteL_end (c : UInt8) (r : List UInt8) (h : (c.toNat : Int) = 34) : quoteL (c :: r) = some ([], 1) := by
  unfold quoteL; rw [if_pos (by omega)]
theorem quoteL_esc (c d : UInt8) (r : List UInt8) (h : (c.toNat : Int) = 92) : quoteL (c :: d :: r) = (quoteL r).map fun x => (d :: x.1, x.2 + 2) := by
  rw [quoteL, if_neg (by omega), if_pos (by omega)]
theorem quoteL_esc0 (c : UInt8) (h : (c.toNat : Int) = 92) : quoteL [c] = none := by
  unfold quoteL; rw [if_neg (by omega), if_pos (by omega)]
theorem quoteL_one (c : UInt8) (r : List UInt8) (h : ¬ (c.toNat : Int) = 34) (h' : ¬ (c.toNat : Int) = 92) : quoteL (c :: r) = (quoteL r).map fun x => (c :: x.1, x.2 + 1) := by
  rw [quoteL.eq_def]; dsimp only; rw [if_neg (by omega), if_neg (by omega)]

/-- What a loop over a string's bytes knows behind k bytes. -/
def QRel (s : ByteArray) (at_ k : Nat) (acc : List UInt8) : Prop :=
  quoteL (s.data.toList.drop (at_ + 1)) = (quoteL (s.data.toList.drop k)).map fun x => (acc ++ x.1, x.2 + (k - (at_ + 1)))

theorem QRel.fin {s : ByteArray} {at_ k : Nat} {acc : List UInt8} (h : QRel s at_ k acc) {c : UInt8} {r : List UInt8} (hd : s.data.toList.drop k = c :: r) (hc : (c.toNat : Int) = 34) :
    quoteL (s.data.toList.drop (at_ + 1)) = some (acc, 1 + (k - (at_ + 1))) := by
  unfold QRel at h; rw [h, hd, quoteL_end c r hc]; simp
theorem QRel.one {s : ByteArray} {at_ k : Nat} {acc : List UInt8} (h : QRel s at_ k acc) {c : UInt8} (hd : s.data.toList.drop k = c :: s.data.toList.drop (k + 1)) (hc : ¬ (c.toNat : Int) = 34) (hc' : ¬ (c.toNat : Int) = 92) (hk : at_ + 1 ≤ k) :
    QRel s at_ (k + 1) (acc ++ [c]) := by
  unfold QRel at h ⊢; rw [h, hd, quoteL_one c _ hc hc']
  cases quoteL (s.data.toList.drop (k + 1)) with
  | none => rfl
  | some x => simp; omega
theorem QRel.esc {s : ByteArray} {at_ k : Nat} {acc : List UInt8} (h : QRel s at_ k acc) {c d : UInt8} (hd : s.data.toList.drop k = c :: s.data.toList.drop (k + 1)) (hd' : s.data.toList.drop (k + 1) = d :: s.data.toList.drop (k + 1 + 1)) (hc : (c.toNat : Int) = 92) (hk : at_ + 1 ≤ k) :
    QRel s at_ (k + 1 + 1) (acc ++ [d]) := by
  unfold QRel at h ⊢; rw [h, hd, hd', quoteL_esc c d _ hc]
  cases quoteL (s.data.toList.drop (k + 1 + 1)) with
  | none => rfl
  | some x => simp; omega
theorem QRel.esc0 {s : ByteArray} {at_ k : Nat} {acc : List UInt8} (h : QRel s at_ k acc) {c : UInt8} (hd : s.data.toList.drop k = c :: s.data.toList.drop (k + 1)) (hd' : s.data.toList.drop (k + 1) = []) (hc : (c.toNat : Int) = 92) (acc' : List UInt8) :
    QRel s at_ (k + 1) acc' := by
  unfold QRel at h ⊢; rw [h, hd, hd', quoteL_esc0 c hc]; rfl
theorem QRel.past {s : ByteArray} {at_ k : Nat} {acc : List UInt8} (h : QRel s at_ k acc) (hk : s.size ≤ k) : quoteL (s.data.toList.drop (at_ + 1)) = none := by
  unfold QRel at h; rw [h, List.drop_of_length_le (by simpa using hk)]; rfl

set_option maxRecDepth 100000 in
set_option maxHeartbeats 2000000 in
theorem scanQuote_any (s : ByteArray) (at_ : Nat) (w : World) (hs : s.size ≤ 4294967280) (ha : at_ < s.size) :
    Calls Tryz.prog 311 #[.string s, .int .i64 at_] w (ScanPost (quoteR (s.data.toList.drop (at_ + 1)) at_) w) := by
  obtain ⟨i0, hi, hz0, hz1, hz2⟩ := info_parts Tryz.infoU8
  obtain ⟨R, hR⟩ : ∃ R, R = quoteR (s.data.toList.drop (at_ + 1)) at_ := ⟨_, rfl⟩
  rw [← hR]
  have HR := hide hR
  clear hR
  go_enter Tryz.func311, Tryz.ntmps311
  go_wp2_with fail
  go_loopw [6, 7] (fun v i wr => ∃ (k : Nat) (acc : List UInt8), at_ + 1 ≤ k ∧ k ≤ s.size ∧ i = .int .i64 k ∧ acc.length ≤ k ∧ wr.ownsRow (w.heap.size + 1) 5 1 v acc.length (bcells acc) ∧ Below (w.heap.size + 1) (w.alloc (.cells #[.int .i64 0, .int .i64 0, .string ⟨#[]⟩, .string ⟨#[]⟩, .int .i64 0] 256)) wr ∧ QRel s at_ k acc) (fun _ i _ => s.size - (intOf i).toNat)
  case atStart =>
    refine ⟨at_ + 1, [], by omega, by omega, by go_num, by simp, World.ownsRow_nil _ _ _ _, Below.refl _ _, ?_⟩
    unfold QRel
    cases quoteL (s.data.toList.drop (at_ + 1)) <;> simp
  case round =>
    obtain ⟨k, acc, hk0, hk, rfl, hal, hown, hB, hQ⟩ := hrel
    have HQ := hide hQ
    clear hQ
    by_cases hlt : k < s.size
    · have hd := hide (drop_cons s k hlt)
      obtain ⟨c, hc⟩ : ∃ c, s[k] = c := ⟨_, rfl⟩
      rw [hc] at hd
      by_cases h34 : (c.toNat : Int) = 34
      · have h34' : ((c.toNat : Int) == 34) = true := by simpa using h34
        have hrun := run_bytes_own wr _ _ acc hown
        have hcell : ∀ o, wr.cell? ⟨w.heap.size, o, none⟩ = (w.alloc (.cells #[.int .i64 0, .int .i64 0, .string ⟨#[]⟩, .string ⟨#[]⟩, .int .i64 0] 256)).cell? ⟨w.heap.size, o, none⟩ := fun o => hB.cell (p := ⟨w.heap.size, o, none⟩) (by show w.heap.size < _; omega)
        have hfz : ∀ o, wr.frozen? ⟨w.heap.size, o, none⟩ = (w.alloc (.cells #[.int .i64 0, .int .i64 0, .string ⟨#[]⟩, .string ⟨#[]⟩, .int .i64 0] 256)).frozen? ⟨w.heap.size, o, none⟩ := fun o => hB.frozen (p := ⟨w.heap.size, o, none⟩) (by show w.heap.size < _; omega)
        have HB := hide hB
        have HO := hide hown
        have HE := hide (quoteL_end c (s.data.toList.drop (k + 1)) h34)
        clear hB hown h34
        go_wp2
        have hb0 : Below w.heap.size w wr := ((Below.refl _ w).alloc (Nat.le_refl _) _).trans (HB.out.mono (by omega))
        refine bodyPost_ret (v := .tuple #[.agg #[.int .i64 5, .int .i64 at_, .string ⟨#[]⟩, .string ⟨acc.toArray⟩, .int .i64 0], .int .i64 (↑k + 1)]) (by simp [results, Tryz.results311, go_sem, hcell]) rfl (ScanPost.ok (x := (⟨5, at_, [], acc, 0⟩, at_ + (1 + (1 + (k - (at_ + 1)))))) ?_ ?_ rfl ?_)
        · rw [HR.out, quoteR, HQ.out.fin hd.out (by simpa using h34')]
        · exact ((((hb0.setCell (Nat.le_refl _) _).setCell (Nat.le_refl _) _).setCell (Nat.le_refl _) _).setCell (Nat.le_refl _) _).setCell (Nat.le_refl _) _
        · simp; omega
      · have h34' : ((c.toNat : Int) == 34) = false := by simpa using h34
        by_cases h92 : (c.toNat : Int) = 92
        · have h92' : ((c.toNat : Int) == 92) = true := by simpa using h92
          by_cases hl2 : k + 1 < s.size
          · have hd2 := hide (drop_cons s (k + 1) hl2)
            obtain ⟨d, hdd⟩ : ∃ d, s[k + 1] = d := ⟨_, rfl⟩
            rw [hdd] at hd2
            have H34 := hide h34
            have H92 := hide h92
            clear h34 h92
            go_wp2_with (at_builtin; refine wpList_append_own _ rfl _ _ 172 rfl (w.heap.size + 1) 5 i0 (.int .u8 0) 1 1 Tryz.underlying172 hi hz0 hz1 hz2 rfl (by decide) _ _ _ rfl (hown.alloc _) ⟨wr.heap.size, 0, none⟩ 1 1 [.int .u8 d.toNat] rfl rfl ?c1 ?c2 ?c3 ?c4 ?c5 ?_)
            case c1 =>
              intro j u hj
              match j, hj with
              | 0, hj => simp at hj; subst hj; simp [Addr.add]
            case c2 => intro u hu; simp at hu; subst hu; rfl
            case c3 => unfold maxLen; omega
            case c4 => omega
            case c5 => have := hB.size; simp at this ⊢; omega
            · intro v' w1 hown' hgrow _
              have hB' := Below.grown (hB.alloc (by have := hB.size; simp at this; omega) (Obj.cells #[.int .u8 d.toNat] 5)) hgrow (by have := hB.size; simp at this ⊢; omega) (fun k' hk' => (hown.lt k' hk').1)
              rw [bcells_append] at hown'
              clear hB hown hgrow
              go_wp2
              go_roundw
              case rel => exact ⟨k + 1 + 1, acc ++ [d], by omega, by omega, by go_num, by simp; omega, by simpa using hown', hB', HQ.out.esc hd.out hd2.out H92.out hk0⟩
              case measure => simp [intOf]; omega
          · have hd2 : Hid (s.data.toList.drop (k + 1) = []) := List.drop_of_length_le (by simp; omega)
            have H34 := hide h34
            have H92 := hide h92
            clear h34 h92
            go_wp2_with (at_builtin; refine wpList_append_own _ rfl _ _ 172 rfl (w.heap.size + 1) 5 i0 (.int .u8 0) 1 1 Tryz.underlying172 hi hz0 hz1 hz2 rfl (by decide) _ _ _ rfl (hown.alloc _) ⟨wr.heap.size, 0, none⟩ 1 1 [.int .u8 c.toNat] rfl rfl ?c1 ?c2 ?c3 ?c4 ?c5 ?_)
            case c1 =>
              intro j u hj
              match j, hj with
              | 0, hj => simp at hj; subst hj; simp [Addr.add]
            case c2 => intro u hu; simp at hu; subst hu; rfl
            case c3 => unfold maxLen; omega
            case c4 => omega
            case c5 => have := hB.size; simp at this ⊢; omega
            · intro v' w1 hown' hgrow _
              have hB' := Below.grown (hB.alloc (by have := hB.size; simp at this; omega) (Obj.cells #[.int .u8 c.toNat] 5)) hgrow (by have := hB.size; simp at this ⊢; omega) (fun k' hk' => (hown.lt k' hk').1)
              rw [bcells_append] at hown'
              clear hB hown hgrow
              go_wp2
              go_roundw
              case rel => exact ⟨k + 1, acc ++ [c], by omega, by omega, by go_num, by simp; omega, by simpa using hown', hB', HQ.out.esc0 hd.out hd2.out H92.out _⟩
              case measure => simp [intOf]; omega
        · have h92' : ((c.toNat : Int) == 92) = false := by simpa using h92
          have H34 := hide h34
          have H92 := hide h92
          clear h34 h92
          go_wp2_with (at_builtin; refine wpList_append_own _ rfl _ _ 172 rfl (w.heap.size + 1) 5 i0 (.int .u8 0) 1 1 Tryz.underlying172 hi hz0 hz1 hz2 rfl (by decide) _ _ _ rfl (hown.alloc _) ⟨wr.heap.size, 0, none⟩ 1 1 [.int .u8 c.toNat] rfl rfl ?c1 ?c2 ?c3 ?c4 ?c5 ?_)
          case c1 =>
            intro j u hj
            match j, hj with
            | 0, hj => simp at hj; subst hj; simp [Addr.add]
          case c2 => intro u hu; simp at hu; subst hu; rfl
          case c3 => unfold maxLen; omega
          case c4 => omega
          case c5 => have := hB.size; simp at this ⊢; omega
          · intro v' w1 hown' hgrow _
            have hB' := Below.grown (hB.alloc (by have := hB.size; simp at this; omega) (Obj.cells #[.int .u8 c.toNat] 5)) hgrow (by have := hB.size; simp at this ⊢; omega) (fun k' hk' => (hown.lt k' hk').1)
            rw [bcells_append] at hown'
            clear hB hown hgrow
            go_wp2
            go_roundw
            case rel => exact ⟨k + 1, acc ++ [c], by omega, by omega, by go_num, by simp; omega, by simpa using hown', hB', HQ.out.one hd.out H34.out H92.out hk0⟩
            case measure => simp [intOf]; omega
    · have HE : Hid (R = .error ⟨2, at_⟩) := by show R = _; rw [HR.out, quoteR, HQ.out.past (by omega)]
      have hz : w.heap.size ≤ wr.heap.size := by have := hB.size; simp at this; omega
      have hb0 : Below w.heap.size w wr := ((Below.refl _ w).alloc (Nat.le_refl _) _).trans (hB.mono (by omega))
      clear hown hB HR
      go_wp2_with (go_at_call 118; refine (fault_any _ _ _).mono ?_; rintro e w' ⟨rfl, rfl⟩)
      exact ⟨rfl, ScanPost.err HE.out (hb0.alloc hz _) (threw_at 2 at_ hz rfl)⟩

end Go.Proofs.YtbiclelojbfnbaaGreatDoor
