import Derived.Test.YtbiclelojbfnbaaGreatDoorOpts
import Derived.Test.YtbiclelojbfnbaaGreatDoorPlainZ
import Derived.Test.YtbiclelojbfnbaaGreatDoorTreeC
import Derived.Deep.RegionHeld3
import Derived.Test.YtbiclelojbfnbaaGreatDoorProg
import Derived.WalkKit
import Derived.Stop.Asserts
import Derived.Lib.AppendIntMem
import Derived.Deep.QuietTactic
import Derived.BigQuiet
namespace Go.Proofs.YtbiclelojbfnbaaGreatDoor
open Go.RowKit
set_option linter.unusedVariables false
set_option linter.unusedSimpArgs false

/-- What was written of a string behind k of its bytes. -/
def quotedTo (s : ByteArray) (k : Nat) : List UInt8 := 34 :: (s.data.toList.take k).flatMap quoteB
theorem quotedTo_len (s : ByteArray) (k : Nat) : (quotedTo s k).length ≤ 2 * k + 1 := by
  unfold quotedTo
  have : ∀ x : List UInt8, (x.flatMap quoteB).length ≤ 2 * x.length := fun x => by
    induction x with
    | nil => simp
    | cons c r ih =>
      rw [List.flatMap_cons, List.length_append, List.length_cons]
      have : (quoteB c).length ≤ 2 := by unfold quoteB; split <;> simp
      omega
  have h1 := this (s.data.toList.take k)
  have h2 : (s.data.toList.take k).length ≤ k := by rw [List.length_take]; omega
  rw [List.length_cons]
  omega
theorem quotedTo_succ (s : ByteArray) (k : Nat) (h : k < s.size) : quotedTo s (k + 1) = quotedTo s k ++ quoteB s[k] := by
  unfold quotedTo
  have h' : k < s.data.toList.length := by simpa using h
  rw [List.take_succ_eq_append_getElem h', List.flatMap_append]
  simp
  rfl
theorem quotedTo_end (s : ByteArray) : quotedTo s s.size ++ [34] = quotedL s.data.toList := by
  unfold quotedTo quotedL
  rw [List.take_of_length_le (by simp)]
  rfl
theorem quoteB_pos {c : UInt8} (h : (c.toNat : Int) = 34 ∨ (c.toNat : Int) = 92) : quoteB c = [92, c] := by
  unfold quoteB
  rw [if_pos]
  rcases h with h | h
  · left; exact UInt8.toNat_inj.1 (by have : (34 : UInt8).toNat = 34 := rfl; omega)
  · right; exact UInt8.toNat_inj.1 (by have : (92 : UInt8).toNat = 92 := rfl; omega)
theorem quoteB_neg {c : UInt8} (h : ¬ (c.toNat : Int) = 34) (h' : ¬ (c.toNat : Int) = 92) : quoteB c = [c] := by
  unfold quoteB
  rw [if_neg]
  rintro (e | e)
  · subst e; exact h rfl
  · subst e; exact h' rfl

set_option maxRecDepth 100000 in
set_option maxHeartbeats 4000000 in
theorem quoted_any (s : ByteArray) (w : World) (hs : s.size ≤ 4294967280) :
    Calls Tryz.prog 112 #[.string s] w fun e w' => e = .returned (.string (strA (quotedL s.data.toList))) ∧ Below w.heap.size w w' := by
  obtain ⟨i0, hi, hz0, hz1, hz2⟩ := info_parts Tryz.infoU8
  go_enter Tryz.func112, Tryz.ntmps112
  go_wp2_with fail
  go_loopw [3, 4, 8] (fun v _ i wr => ∃ (k : Nat) (acc : List UInt8), k ≤ s.size ∧ i = .int .i64 k ∧ acc = quotedTo s k ∧ wr.ownsRow w.heap.size 5 1 v acc.length (bcells acc) ∧ Below w.heap.size w wr) (fun _ _ i _ => s.size - (intOf i).toNat)
  case atStart =>
    refine ⟨0, [34], by omega, by go_num, rfl, ?_, (Below.refl _ _).alloc (Nat.le_refl _) _⟩
    exact World.ownsRow_lit w _ 1 (Nat.le_refl _) (by unfold maxLen; omega) rfl
  case round =>
    obtain ⟨k, acc, hk, rfl, hacc, hown, hB⟩ := hrel
    have hal : acc.length ≤ 2 * k + 1 := by rw [hacc]; exact quotedTo_len s k
    have HA := hide hacc
    clear hacc
    have hBs := hB.size
    by_cases hlt : k < s.size
    · have HS := hide (quotedTo_succ s k hlt)
      obtain ⟨c, hc⟩ : ∃ c, s[k] = c := ⟨_, rfl⟩
      rw [hc] at HS
      by_cases hq : (c.toNat : Int) = 34 ∨ (c.toNat : Int) = 92
      · have HQ := hide (quoteB_pos hq)
        have hq' : ((c.toNat : Int) == 34) = true ∨ (((c.toNat : Int) == 34) = false ∧ ((c.toNat : Int) == 92) = true) := by
          by_cases h34 : (c.toNat : Int) = 34
          · exact Or.inl (by simpa using h34)
          · exact Or.inr ⟨by simpa using h34, by rcases hq with h | h; exact absurd h h34; simpa using h⟩
        clear hq
        rcases hq' with h34 | ⟨h34, h92⟩
        all_goals
          go_wp2_with (at_builtin; refine wpList_append_own _ rfl _ _ 172 rfl w.heap.size 5 i0 (.int .u8 0) 1 1 Tryz.underlying172 hi hz0 hz1 hz2 rfl (by decide) _ _ _ rfl (hown.alloc _) ⟨wr.heap.size, 0, none⟩ 1 1 [.int .u8 92] rfl rfl ?c1 ?c2 ?c3 ?c4 ?c5 ?_)
          case c1 =>
            intro j u hj
            match j, hj with
            | 0, hj => simp at hj; subst hj; simp [Addr.add]
          case c2 => intro u hu; simp at hu; subst hu; rfl
          case c3 => unfold maxLen; omega
          case c4 => omega
          case c5 => simp; omega
          intro v1 w1 hown1 hgrow1 _
          have hB1 := Below.grown (hB.alloc hBs (Obj.cells #[.int .u8 92] 5)) hgrow1 (by simp; omega) (fun k' hk' => (hown.lt k' hk').1)
          have hB1s := hB1.size
          have e92 : (.int .u8 92 : Value) = .int .u8 ((92 : UInt8).toNat) := rfl
          rw [e92, bcells_append] at hown1
          have hl1 : (acc ++ [92]).length = acc.length + 1 := by simp
          rw [← hl1] at hown1
          clear hgrow1
          go_wp2_with (at_builtin; refine wpList_append_own _ rfl _ _ 172 rfl w.heap.size 5 i0 (.int .u8 0) 1 1 Tryz.underlying172 hi hz0 hz1 hz2 rfl (by decide) _ _ _ rfl (hown1.alloc _) ⟨w1.heap.size, 0, none⟩ 1 1 [.int .u8 c.toNat] rfl rfl ?c1 ?c2 ?c3 ?c4 ?c5 ?_)
          case c1 =>
            intro j u hj
            match j, hj with
            | 0, hj => simp at hj; subst hj; simp [Addr.add]
          case c2 => intro u hu; simp at hu; subst hu; rfl
          case c3 => unfold maxLen; omega
          case c4 => omega
          case c5 => simp; omega
          intro v2 w2 hown2 hgrow2 _
          have hB2 := Below.grown (hB1.alloc hB1s (Obj.cells #[.int .u8 c.toNat] 5)) hgrow2 (by simp; omega) (fun k' hk' => (hown1.lt k' hk').1)
          rw [bcells_append] at hown2
          clear hgrow2 hB hown hB1 hown1
          go_wp2
          go_roundw
          case rel => exact ⟨k + 1, acc ++ [92] ++ [c], by omega, by go_num, by rw [HS.out, HQ.out, ← HA.out]; simp, by simpa using hown2, hB2⟩
          case measure => simp [intOf]; omega
      · have h34 : ((c.toNat : Int) == 34) = false := by simp; exact fun e => hq (Or.inl (by omega))
        have h92 : ((c.toNat : Int) == 92) = false := by simp; exact fun e => hq (Or.inr (by omega))
        have HQ := hide (quoteB_neg (fun e => hq (Or.inl e)) (fun e => hq (Or.inr e)))
        clear hq
        go_wp2_with (at_builtin; refine wpList_append_own _ rfl _ _ 172 rfl w.heap.size 5 i0 (.int .u8 0) 1 1 Tryz.underlying172 hi hz0 hz1 hz2 rfl (by decide) _ _ _ rfl (hown.alloc _) ⟨wr.heap.size, 0, none⟩ 1 1 [.int .u8 c.toNat] rfl rfl ?c1 ?c2 ?c3 ?c4 ?c5 ?_)
        case c1 =>
          intro j u hj
          match j, hj with
          | 0, hj => simp at hj; subst hj; simp [Addr.add]
        case c2 => intro u hu; simp at hu; subst hu; rfl
        case c3 => unfold maxLen; omega
        case c4 => omega
        case c5 => simp; omega
        intro v1 w1 hown1 hgrow1 _
        have hB1 := Below.grown (hB.alloc hBs (Obj.cells #[.int .u8 c.toNat] 5)) hgrow1 (by simp; omega) (fun k' hk' => (hown.lt k' hk').1)
        rw [bcells_append] at hown1
        clear hgrow1 hB hown
        go_wp2
        go_roundw
        case rel => exact ⟨k + 1, acc ++ [c], by omega, by go_num, by rw [HS.out, HQ.out, ← HA.out], by simpa using hown1, hB1⟩
        case measure => simp [intOf]; omega
    · have hk' : k = s.size := by omega
      subst hk'
      go_wp2_with (at_builtin; refine wpList_append_own _ rfl _ _ 172 rfl w.heap.size 5 i0 (.int .u8 0) 1 1 Tryz.underlying172 hi hz0 hz1 hz2 rfl (by decide) _ _ _ rfl (hown.alloc _) ⟨wr.heap.size, 0, none⟩ 1 1 [.int .u8 34] rfl rfl ?c1 ?c2 ?c3 ?c4 ?c5 ?_)
      case c1 =>
        intro j u hj
        match j, hj with
        | 0, hj => simp at hj; subst hj; simp [Addr.add]
      case c2 => intro u hu; simp at hu; subst hu; rfl
      case c3 => unfold maxLen; omega
      case c4 => omega
      case c5 => simp; omega
      intro v1 w1 hown1 hgrow1 _
      have hB1 := Below.grown (hB.alloc hBs (Obj.cells #[.int .u8 34] 5)) hgrow1 (by simp; omega) (fun k' hk' => (hown.lt k' hk').1)
      have e34 : (.int .u8 34 : Value) = .int .u8 ((34 : UInt8).toNat) := rfl
      rw [e34, bcells_append] at hown1
      have hl1 : (acc ++ [34]).length = acc.length + 1 := by simp
      rw [← hl1] at hown1
      have hrun := run_bytes_own w1 _ _ (acc ++ [34]) hown1
      have HB := hide hB1
      have hfin : Hid (acc ++ [34] = quotedL s.data.toList) := by rw [HA.out]; exact quotedTo_end s
      clear hgrow1 hB hown hB1
      go_wp2
      go_ret
      exact ⟨by rw [← hfin.out]; rfl, HB.out⟩

end Go.Proofs.YtbiclelojbfnbaaGreatDoor

namespace Go.Proofs.YtbiclelojbfnbaaGreatDoor
open Go.RowKit
set_option linter.unusedVariables false
set_option linter.unusedSimpArgs false

/-- What the call owns stays owned where new blocks alone are written. -/
theorem ownsRow_below {w w' : World} {base : Nat} {e : TypeId} {size : Nat} {v : Value} {n : Nat} {xs : List Value} (h : w.ownsRow base e size v n xs) (hm : Below w.heap.size w w') : w'.ownsRow base e size v n xs := by
  obtain ⟨h1, h2⟩ := h
  refine ⟨h1, ?_⟩
  rcases h2 with h2 | ⟨g, cap, cur, hv, hg, hh, r⟩
  · exact Or.inl h2
  · have hlt : g < w.heap.size := by
      rcases Nat.lt_or_ge g w.heap.size with h' | h'
      · exact h'
      · rw [Array.getElem?_eq_none h'] at hh; cases hh
    exact Or.inr ⟨g, cap, cur, hv, hg, by rw [hm.block g hlt]; exact hh, r⟩
theorem tailQ_get : ∀ (xs : List (List UInt8)) (k : Nat) (hk : k < xs.length), xs.getD k [] ∈ xs
  | x :: r, 0, _ => by simp
  | x :: r, k + 1, h => by
    have := tailQ_get r k (by simpa using h)
    simp at this ⊢
    exact Or.inr this
theorem joinL_mem : ∀ (xs : List (List UInt8)) (x : List UInt8), x ∈ xs → x.length ≤ (joinL [44, 32] xs).length
  | [], x, h => by cases h
  | [y], x, h => by rw [List.mem_singleton.1 h]; exact Nat.le_refl _
  | y :: z :: r, x, h => by
    simp only [joinL, List.length_append]
    rcases List.mem_cons.1 h with h | h
    · subst h; omega
    · have := joinL_mem (z :: r) x h
      omega
theorem quotesL_mem {xs : List (List UInt8)} {x : List UInt8} (h : x ∈ xs) : x.length ≤ (quotesL xs).length ∧ (quotedL x).length ≤ (quotesL xs).length := by
  have h1 : x.length ≤ (quotedL x).length := by
    unfold quotedL
    rw [List.length_cons, List.length_append]
    have : x.length ≤ (x.flatMap quoteB).length := by
      clear h
      induction x with
      | nil => simp
      | cons c r ih =>
        rw [List.flatMap_cons, List.length_append, List.length_cons]
        have : 1 ≤ (quoteB c).length := by unfold quoteB; split <;> simp
        omega
    omega
  have h2 : (quotedL x).length ≤ (quotesL xs).length := by
    unfold quotesL
    split
    · rw [List.mem_singleton.1 h]; exact Nat.le_refl _
    · have := joinL_mem (xs.map quotedL) (quotedL x) (List.mem_map_of_mem h)
      simp only [List.length_append]
      omega
  omega
theorem joinQ_len (xs : List (List UInt8)) : (joinL [44, 32] (xs.map quotedL)).length ≤ (quotesL xs).length := by
  unfold quotesL
  split
  · exact Nat.le_refl _
  · simp only [List.length_append]; omega
theorem xs_len (xs : List (List UInt8)) : xs.length ≤ (quotesL xs).length := by
  have : ∀ ys : List (List UInt8), ys.length ≤ (joinL [44, 32] (ys.map quotedL)).length := fun ys => by
    induction ys with
    | nil => simp
    | cons y r ih =>
      cases r with
      | nil => show 1 ≤ (quotedL y).length; unfold quotedL; simp
      | cons z r =>
        simp only [List.map_cons, joinL, List.length_append, List.length_cons, List.length_nil] at ih ⊢
        omega
  exact Nat.le_trans (this xs) (joinQ_len xs)

set_option maxRecDepth 100000 in
set_option maxHeartbeats 4000000 in
theorem quotes_any (xs : List (List UInt8)) (g n c : Nat) (w : World) (ht : TxtAt w g xs) (hn : n = xs.length) (hx : xs ≠ []) (hlen : (quotesL xs).length ≤ 4294967280) :
    Calls Tryz.prog 77 #[.slice (some ⟨g, 0, none⟩) n c] w fun e w' => e = .returned (.string (strA (quotesL xs))) ∧ Below w.heap.size w w' := by
  obtain ⟨i0, hi, hz0, hz1, hz2⟩ := info_parts Tryz.infoStr
  subst hn
  have hgl : g < w.heap.size := cell_lt (ht 0 (List.length_pos_iff.2 hx))
  have hxl := xs_len xs
  have HT := hide ht
  have HL := hide hlen
  clear ht hlen
  have hxl' : xs.length ≤ 4294967280 := Nat.le_trans hxl HL.out
  clear hxl
  go_enter Tryz.func77, Tryz.ntmps77
  go_wp2_with fail
  go_loopw [3, 5, 8] (fun v _ i wr => ∃ (k : Nat), k ≤ xs.length ∧ i = .int .i64 k ∧ wr.ownsRow w.heap.size 9 1 v k (tcells ((xs.take k).map quotedL)) ∧ Below w.heap.size w wr) (fun _ _ i _ => xs.length - (intOf i).toNat)
  case atStart =>
    exact ⟨0, Nat.zero_le _, by go_num, World.ownsRow_nil _ _ _ _, Below.refl _ _⟩
  case round =>
    obtain ⟨k, hk, rfl, hown, hB⟩ := hrel
    have hBs := hB.size
    by_cases hlt : k < xs.length
    · have hck : wr.cell? ⟨g, k, none⟩ = some (.string (strA (xs.getD k []))) := by
        rw [hB.cell (p := ⟨g, k, none⟩) hgl]
        exact HT.out k hlt
      have HS : Hid ((xs.take (k + 1)).map quotedL = (xs.take k).map quotedL ++ [quotedL (xs.getD k [])]) := by
        rw [List.take_add_one, List.map_append, List.getElem?_eq_getElem hlt, List.getD_eq_getElem?_getD, List.getElem?_eq_getElem hlt]
        rfl
      have hm := (quotesL_mem (tailQ_get xs k hlt)).1
      generalize hx0 : xs.getD k [] = x at hck HS hm
      have hxs : (strA x).size ≤ 4294967280 := by
        show x.toArray.size ≤ _
        rw [List.size_toArray]
        exact Nat.le_trans hm HL.out
      obtain ⟨A, hA⟩ : ∃ A, (xs.take k).map quotedL = A := ⟨_, rfl⟩
      rw [hA] at hown HS
      have HOW := hide hown
      have HB := hide hB
      clear hown hB hx0 hm hA
      go_wp2_with fail
      refine (quoted_any (strA x) _ hxs).mono ?_
      rintro e w1 ⟨rfl, hB1⟩
      have hq : (strA x).data.toList = x := rfl
      rw [hq]
      have hown1 := ownsRow_below HOW.out hB1
      have hB2 : Below w.heap.size w w1 := HB.out.trans (hB1.mono hBs)
      have hB2s := hB2.size
      have HB1 := hide hB1
      clear hB1
      go_wp2_with (at_builtin; refine wpList_append_own _ rfl _ _ 60 rfl w.heap.size 9 i0 (.string ⟨#[]⟩) 1 16 Tryz.underlying60 hi hz0 hz1 hz2 rfl (by decide) _ _ _ rfl (hown1.alloc _) ⟨w1.heap.size, 0, none⟩ 1 1 [.string (strA (quotedL x))] rfl rfl ?c1 ?c2 ?c3 ?c4 ?c5 ?_)
      case c1 =>
        intro j u hj
        match j, hj with
        | 0, hj => simp at hj; subst hj; simp [Addr.add]
      case c2 => intro u hu; simp at hu; subst hu; rfl
      case c3 => unfold maxLen; omega
      case c4 => omega
      case c5 => simp; omega
      intro v1 w2 hown2 hgrow _
      have hB3 := Below.grown (hB2.alloc hB2s (Obj.cells #[.string (strA (quotedL x))] 9)) hgrow (by simp; omega) (fun k' hk' => (hown1.lt k' hk').1)
      rw [tcells_snoc, ← HS.out] at hown2
      have HO2 := hide hown2
      have HB3 := hide hB3
      clear hgrow hown1 hB2 hown2 hB3
      go_wp2
      go_roundw
      case rel => exact ⟨k + 1, by omega, by go_num, HO2.out, HB3.out⟩
      case measure => simp [intOf]; omega
    · have hk' : k = xs.length := by omega
      subst hk'
      rw [List.take_length] at hown
      by_cases h1 : xs.length = 1
      · obtain ⟨x, rfl⟩ : ∃ x, xs = [x] := by
          match xs, h1 with
          | [x], _ => exact ⟨x, rfl⟩
        obtain ⟨h3, h4 | ⟨g', cap, cur, hv, hg', hh⟩⟩ := hown
        · cases h4.2
        · subst hv
          have hcell : wr.cell? ⟨g', 0, none⟩ = some (.string (strA (quotedL x))) := by
            have := World.ownsRow.cells (w := wr) (base := w.heap.size) (e := 9) (size := 1) (v := .slice (some ⟨g', 0, none⟩) [x].length cap) (n := [x].length) (xs := tcells ([x].map quotedL)) ⟨h3, Or.inr ⟨g', cap, cur, rfl, hg', hh⟩⟩ (g := g') rfl 0 _ rfl
            exact this
          have HB := hide hB
          clear hh h3 hB
          go_wp2
          go_ret
          exact ⟨rfl, HB.out⟩
      · have h1' : ((xs.length : Int) == 1) = false := by simp; omega
        have hq : quotesL xs = [91] ++ Lib.join (xs.map quotedL) [44, 32] ++ [93] := by
          rw [← joinL_eq]
          match xs, hx, h1 with
          | [x], _, h1 => exact absurd rfl h1
          | x :: y :: r, _, _ => rfl
        have hjl : (Lib.join (xs.map quotedL) [44, 32]).length + 2 = (quotesL xs).length := by rw [hq]; simp
        have hJ : (Lib.join (((xs.map quotedL).map strA).map (·.data.toList)) [44, 32]) = Lib.join (xs.map quotedL) [44, 32] := by
          rw [List.map_map]
          congr 1
          rw [show ((fun x : ByteArray => x.data.toList) ∘ strA) = id from by funext x; rfl, List.map_id]
        obtain ⟨h3, h4 | ⟨g', cap, cur, hv, hg', hh⟩⟩ := hown
        · exact absurd (List.eq_nil_of_length_eq_zero h4.2) hx
        · subst hv
          have hcells : ∀ (j : Nat) x, ((xs.map quotedL).map strA)[j]? = some x → wr.cell? ⟨g', 0 + j, none⟩ = some (.string x) := fun j x hj => by
            have := World.ownsRow.cells (w := wr) (base := w.heap.size) (e := 9) (size := 1) (v := .slice (some ⟨g', 0, none⟩) xs.length cap) (n := xs.length) (xs := tcells (xs.map quotedL)) ⟨h3, Or.inr ⟨g', cap, cur, rfl, hg', hh⟩⟩ (g := g') rfl j (.string x) (by
              unfold tcells
              rw [List.getElem?_map] at hj ⊢
              obtain ⟨y, hy, rfl⟩ := Option.map_eq_some_iff.1 hj
              rw [hy]
              rfl)
            rw [addr_add0] at this
            rw [Nat.zero_add]
            exact this
          have hg'l : g' < wr.heap.size := blk_lt hh.1
          have hcap : xs.length ≤ cap := hh.2.1
          have hlenm : xs.length = ((xs.map quotedL).map strA).length := by simp
          have HB := hide hB
          have HQ := hide hq
          have HJL := hide hjl
          have HJ := hide hJ
          have HCE := hide hcells
          have HLM := hide hlenm
          clear hh h3 hB hcells hq hjl hJ hlenm
          go_wp2_with fail
          rw [HLM.out]
          refine (Tryz.strings_Join g' 0 cap ((xs.map quotedL).map strA) ⟨#[44, 32]⟩ wr HCE.out hg'l (by rw [← HLM.out]; omega) (by rw [← HLM.out]; exact hcap) (by rw [show (ByteArray.mk #[44, 32]).data.toList = [44, 32] from rfl, HJ.out]; have := HJL.out; have := HL.out; omega)).mono ?_
          rintro e w1 ⟨rfl, hB1⟩
          rw [show (ByteArray.mk #[44, 32]).data.toList = [44, 32] from rfl, HJ.out]
          have HB1 := hide hB1
          clear hB1
          have hjl' : (Lib.join (xs.map quotedL) [44, 32]).length ≤ 4294967280 := by have := HJL.out; have := HL.out; omega
          generalize Lib.join (xs.map quotedL) [44, 32] = J at *
          have hJs : (ByteArray.mk J.toArray).size ≤ 4294967280 := hjl'
          go_wp2
          go_ret
          refine ⟨?_, HB.out.trans (HB1.out.mono hBs)⟩
          rw [HQ.out]
          rfl

end Go.Proofs.YtbiclelojbfnbaaGreatDoor

namespace Go.Proofs.YtbiclelojbfnbaaGreatDoor
open Go.RowKit
set_option linter.unusedVariables false
set_option linter.unusedSimpArgs false
attribute [local go_sem ↓] Go.wp_at_zero Go.wp_at_succ

theorem phrase_grow : ∀ (ps : List (List UInt8)) (t : List UInt8), t.length ≤ (ps.foldl phraseStep t).length
  | [], t => Nat.le_refl _
  | p :: r, t => by
    have h1 := phrase_grow r (phraseStep t p)
    have h2 : t.length ≤ (phraseStep t p).length := by unfold phraseStep; split <;> simp
    rw [List.foldl_cons]
    omega
theorem phrase_take (xs : List (List UInt8)) (k : Nat) : (phraseL (xs.take k)).length ≤ (phraseL xs).length := by
  have h := phrase_grow (xs.drop k) (phraseL (xs.take k))
  unfold phraseL at h ⊢
  rw [← List.foldl_append, List.take_append_drop] at h
  exact h
theorem phrase_succ (xs : List (List UInt8)) (k : Nat) (h : k < xs.length) : phraseL (xs.take (k + 1)) = phraseStep (phraseL (xs.take k)) (xs.getD k []) := by
  unfold phraseL
  rw [List.take_add_one, List.foldl_append, List.getElem?_eq_getElem h, List.getD_eq_getElem?_getD, List.getElem?_eq_getElem h]
  rfl
theorem strA_toList (x : List UInt8) : (strA x).toList = x := by
  rw [Lib.toList_data]; rfl
theorem strA_ne {x : List UInt8} (h : x ≠ []) : strA x ≠ ⟨#[]⟩ := fun e => h (by
  have := congrArg (fun b : ByteArray => b.data.toList) e
  simpa [strA] using this)

set_option maxRecDepth 100000 in
set_option maxHeartbeats 4000000 in
theorem phrase_any (xs : List (List UInt8)) (g n c : Nat) (w : World) (ht : TxtAt w g xs) (hn : n = xs.length) (hx : xs.length ≤ 100) (hlen : (phraseL xs).length ≤ 4294967280) :
    Calls Tryz.prog 181 #[.slice (some ⟨g, 0, none⟩) n c] w fun e w' => e = .returned (.string (strA (phraseL xs))) ∧ w' = w := by
  subst hn
  have HT := hide ht
  have HL := hide hlen
  clear ht hlen
  go_enter Tryz.func181, Tryz.ntmps181
  go_wp2_with fail
  go_loop [3, 5, 8] (fun v _ i => ∃ (k : Nat) (t : List UInt8), k ≤ xs.length ∧ i = .int .i64 k ∧ v = .string (strA t) ∧ t = phraseL (xs.take k)) (fun _ _ i => xs.length - (intOf i).toNat)
  case atStart => exact ⟨0, [], Nat.zero_le _, by go_num, rfl, rfl⟩
  case round =>
    obtain ⟨k, t, hk, rfl, rfl, hte⟩ := hrel
    by_cases hlt : k < xs.length
    · have hck : w.cell? ⟨g, k, none⟩ = some (.string (strA (xs.getD k []))) := HT.out k hlt
      have HS := hide (phrase_succ xs k hlt)
      have h1 := phrase_take xs (k + 1)
      rw [HS.out, ← hte] at h1
      rw [← hte] at HS
      have h2 := Nat.le_trans h1 HL.out
      clear h1 hte
      generalize xs.getD k [] = p at hck HS h2
      have hpl : t.length + p.length ≤ 4294967280 := by
        unfold phraseStep at h2
        rw [List.length_append] at h2
        split at h2
        · rw [List.length_append] at h2; omega
        · exact h2
      have HA := hide (strA_app t p)
      have HA2 := hide (strA_app (t ++ [32]) p)
      have HA3 : Hid (strA t ++ (⟨#[32]⟩ : ByteArray) = strA (t ++ [32])) := strA_app t [32]
      have hs1 := strA_size t
      have hs2 := strA_size p
      have hs3 : (strA t ++ (⟨#[32]⟩ : ByteArray)).size = t.length + 1 := by rw [HA3.out, strA_size]; simp
      have HTT : Hid ((strA t).toList = t) := strA_toList t
      have HPP : Hid ((strA p).toList = p) := strA_toList p
      by_cases ht0 : t = []
      · have hT' : (strA t).toList = [] := HTT.out.trans ht0
        have HE : Hid (phraseStep t p = t ++ p) := by show phraseStep t p = _; unfold phraseStep; rw [if_neg (fun h => h.1 ht0)]
        clear ht0
        go_wp2
        refine ⟨⟨k + 1, t ++ p, by omega, by go_num, ?_, by rw [HS.out, HE.out]⟩, by simp [intOf]; omega⟩
        rw [HA.out]
      · have hT' : ¬ (strA t).toList = [] := fun e => ht0 (HTT.out.symm.trans e)
        have hT2 : (strA t).toList.isEmpty = false := by simpa using hT'
        by_cases hp0 : p = []
        · have hP' : (strA p).toList = [] := HPP.out.trans hp0
          have HE : Hid (phraseStep t p = t ++ p) := by show phraseStep t p = _; unfold phraseStep; rw [if_neg (fun h => h.2 hp0)]
          clear ht0 hp0
          go_wp2
          refine ⟨⟨k + 1, t ++ p, by omega, by go_num, ?_, by rw [HS.out, HE.out]⟩, by simp [intOf]; omega⟩
          rw [HA.out]
        · have hP' : ¬ (strA p).toList = [] := fun e => hp0 (HPP.out.symm.trans e)
          have hP2 : (strA p).toList.isEmpty = false := by simpa using hP'
          have HE : Hid (phraseStep t p = t ++ [32] ++ p) := by show phraseStep t p = _; unfold phraseStep; rw [if_pos ⟨ht0, hp0⟩]
          clear ht0 hp0
          go_wp2
          refine ⟨⟨k + 1, t ++ [32] ++ p, by omega, by go_num, ?_, by rw [HS.out, HE.out]⟩, by simp [intOf]; omega⟩
          rw [HA3.out, HA2.out]
    · have hk' : k = xs.length := by omega
      subst hk'
      rw [List.take_length] at hte
      subst hte
      go_wp2
      go_ret
      exact ⟨rfl, rfl⟩

set_option maxRecDepth 100000 in
set_option maxHeartbeats 1000000 in
theorem tagText_any (tag g n c : Nat) (tags : List (List UInt8)) (w : World) (ht : TxtAt w g tags) (hn : n = tags.length) (hx : tags.length ≤ 100) (h : tag ≤ tags.length) :
    Calls Tryz.prog 182 #[.int .i64 tag, .slice (some ⟨g, 0, none⟩) n c] w fun e w' => e = .returned (.string (strA (tagTextL tag tags))) ∧ w' = w := by
  subst hn
  by_cases h0 : tag = 0
  · subst h0
    go_enter Tryz.func182, Tryz.ntmps182
    go_wp2
    go_ret
    exact ⟨rfl, rfl⟩
  · have hck := ht (tag - 1) (by omega)
    have HE : Hid (tagTextL tag tags = tags.getD (tag - 1) []) := by show tagTextL tag tags = _; unfold tagTextL; rw [if_neg h0]
    clear ht
    generalize tags.getD (tag - 1) [] = z at hck HE
    obtain ⟨m, rfl⟩ : ∃ m, tag = m + 1 := ⟨tag - 1, by omega⟩
    have e1 : m + 1 - 1 = m := by omega
    rw [e1] at hck
    have h1 : ((m + 1 : Nat) : Int) = (m : Int) + 1 := by omega
    have h2 : (((m : Int) + 1) == 0) = false := by simp; omega
    rw [h1]
    clear e1 h1
    go_enter Tryz.func182, Tryz.ntmps182
    go_wp2
    go_ret
    exact ⟨by rw [HE.out]; rfl, rfl⟩

end Go.Proofs.YtbiclelojbfnbaaGreatDoor

namespace Go.Proofs.YtbiclelojbfnbaaGreatDoor
open Go.RowKit
set_option linter.unusedVariables false
set_option linter.unusedSimpArgs false

theorem phrase_mem : ∀ (ps : List (List UInt8)) (t p : List UInt8), p ∈ ps → p.length ≤ (ps.foldl phraseStep t).length
  | [], t, p, h => by cases h
  | q :: r, t, p, h => by
    rw [List.foldl_cons]
    rcases List.mem_cons.1 h with h | h
    · subst h
      have h1 := phrase_grow r (phraseStep t p)
      have h2 : p.length ≤ (phraseStep t p).length := by unfold phraseStep; rw [List.length_append]; omega
      omega
    · exact phrase_mem r _ p h
theorem phraseL_mem {ps : List (List UInt8)} {p : List UInt8} (h : p ∈ ps) : p.length ≤ (phraseL ps).length := phrase_mem ps [] p h

/-- A match, as cells. -/
def mblk (hw : List UInt8) (x : TLab) (fv kv : Value) : Obj := .cells #[.string (strA hw), .int .i64 x.pos, .int .i64 x.tag, .bool x.octet, fv, kv] 277

set_option maxRecDepth 100000 in
set_option maxHeartbeats 4000000 in
theorem matchText_any (X : Nat → Prop) (hw : List UInt8) (x : TLab) (fv kv : Value) (w : World) (hf : slX X x.fr w fv) (hk : slX X x.keys w kv) (h1 : 1 ≤ x.tag) (h3 : x.tag ≤ 3) (hlen : (matchTxt hw x).length ≤ 4294967280) :
    Calls Tryz.prog 320 #[.agg #[.string (strA hw), .int .i64 x.pos, .int .i64 x.tag, .bool x.octet, fv, kv]] w fun e w' => e = .returned (.string (strA (matchTxt hw x))) ∧ Below w.heap.size w w' := by
  obtain ⟨gf, cf, rfl, hgf, htf, hnf⟩ := hf
  obtain ⟨gk, ck, rfl, hgk, htk, hnk⟩ := hk
  obtain ⟨C, hC⟩ : ∃ C, (if x.octet then phraseL [tComparator, quotedL cOctet] else []) = C := ⟨_, rfl⟩
  obtain ⟨T, hT⟩ : ∃ T, (if x.tag ≠ 1 then tagTextL x.tag [tIs, tContains, tMatches] else []) = T := ⟨_, rfl⟩
  have hM : matchTxt hw x = phraseL [hw, C, T, quotesL x.fr, quotesL x.keys] := by unfold matchTxt; rw [hC, hT]
  rw [hM] at hlen ⊢
  have hlf : (quotesL x.fr).length ≤ 4294967280 := Nat.le_trans (phraseL_mem (ps := [hw, C, T, quotesL x.fr, quotesL x.keys]) (by simp)) hlen
  have hlk : (quotesL x.keys).length ≤ 4294967280 := Nat.le_trans (phraseL_mem (ps := [hw, C, T, quotesL x.fr, quotesL x.keys]) (by simp)) hlen
  have HF := hide htf
  have HK := hide htk
  have HLF := hide hlf
  have HLK := hide hlk
  have HL := hide hlen
  have hgl : gf < w.heap.size := cell_lt (htf 0 (List.length_pos_iff.2 hnf))
  have hblk : ∀ b : Bool, b = x.octet → (w.alloc (.cells #[.string (strA hw), .int .i64 x.pos, .int .i64 x.tag, .bool b, .slice (some ⟨gf, 0, none⟩) x.fr.length cf, .slice (some ⟨gk, 0, none⟩) x.keys.length ck] 277)).heap[w.heap.size]? = some (mblk hw x (.slice (some ⟨gf, 0, none⟩) x.fr.length cf) (.slice (some ⟨gk, 0, none⟩) x.keys.length ck)) := fun b hb => by subst hb; exact blk_new _ _
  have HBLK := hide hblk
  have hB0 : ∀ o, Below w.heap.size w (w.alloc o) := fun o => (Below.refl _ _).alloc (Nat.le_refl _) o
  have HB0 := hide hB0
  clear htf htk hlf hlk hlen hM hblk hB0
  go_enter Tryz.func320, Tryz.ntmps320
  cases ho : x.octet
  · rw [ho, if_neg (by decide)] at hC
    have HC := hide hC
    clear hC
    by_cases h1' : x.tag = 1
    · have ht : ((x.tag : Int) != 1) = false := by simp; omega
      rw [if_neg (by omega)] at hT
      have HT := hide hT
      clear hT h1'
      have HO := hide ho
      clear ho
      go_wp2_with fail
      have HCT : Hid ((#[.string (strA hw), .string ⟨#[]⟩, .string ⟨#[]⟩, .string (strA (quotesL x.fr)), .string (strA (quotesL x.keys))] : Array Value) = (tcells [hw, C, T, quotesL x.fr, quotesL x.keys]).toArray) := by
        rw [← HC.out, ← HT.out]; rfl
      refine gen_world (P := fun W => Code.wp _ _ _ _ W) (HB0.out _) (HBLK.out false HO.out.symm) ?_
      intro W hWB hWb
      have c0 : W.cell? ⟨w.heap.size, 0, none⟩ = some (.string (strA hw)) := blk_cell hWb 0
      have c4 : W.cell? ⟨w.heap.size, 4, none⟩ = some (.slice (some ⟨gf, 0, none⟩) x.fr.length cf) := blk_cell hWb 4
      have c5 : W.cell? ⟨w.heap.size, 5, none⟩ = some (.slice (some ⟨gk, 0, none⟩) x.keys.length ck) := blk_cell hWb 5
      have HFW := hide (HF.out.below hWB)
      have HKW := hide (HK.out.below hWB)
      have HWB := hide hWB
      have HWb := hide hWb
      have hWs := hWB.size
      have hWl := blk_lt hWb
      clear hWB hWb
      go_region_held3 (fun w' => w'.cell? ⟨w.heap.size, 0, none⟩ = some (.string (strA hw)) ∧ w'.cell? ⟨w.heap.size, 4, none⟩ = some (.slice (some ⟨gf, 0, none⟩) x.fr.length cf) ∧ w'.cell? ⟨w.heap.size, 5, none⟩ = some (.slice (some ⟨gk, 0, none⟩) x.keys.length ck)) (first | go_keep | exact ⟨blk_cell (blk_alloc HW2.out) 0, blk_cell (blk_alloc HW2.out) 4, blk_cell (blk_alloc HW2.out) 5⟩) (first
        | (go_at_call 181; refine (phrase_any [hw, C, T, quotesL x.fr, quotesL x.keys] _ 5 5 _ (txt_alloc w2 [hw, C, T, quotesL x.fr, quotesL x.keys] _ _ HCT.out) rfl (by simp) HL.out).mono ?_; rintro e w3 ⟨rfl, rfl⟩; skip)
        | (have gg := HB1; go_at_call 77; refine (quotes_any x.keys gk x.keys.length ck _ (HKW1.out) rfl hnk HLK.out).mono ?_; rintro e w2 ⟨rfl, hB2⟩; have HB2 := hide (HB1.out.trans (hB2.mono h1s)); have HW2 := hide (blk_below HW1.out hB2); have e0 : w2.cell? ⟨w.heap.size, 0, none⟩ = some (.string (strA hw)) := blk_cell HW2.out 0; have e4 : w2.cell? ⟨w.heap.size, 4, none⟩ = some (.slice (some ⟨gf, 0, none⟩) x.fr.length cf) := blk_cell HW2.out 4; have e5 : w2.cell? ⟨w.heap.size, 5, none⟩ = some (.slice (some ⟨gk, 0, none⟩) x.keys.length ck) := blk_cell HW2.out 5; clear hB2; skip)
        | (go_at_call 77; refine (quotes_any x.fr gf x.fr.length cf _ (HFW.out.drew) rfl hnf HLF.out).mono ?_; rintro e w1 ⟨rfl, hB1⟩; have HB1 := hide (HWB.out.drew.trans (hB1.mono hWs)); have HW1 := hide (blk_below (w := W.drew) HWb.out hB1); have d0 : w1.cell? ⟨w.heap.size, 0, none⟩ = some (.string (strA hw)) := blk_cell HW1.out 0; have d4 : w1.cell? ⟨w.heap.size, 4, none⟩ = some (.slice (some ⟨gf, 0, none⟩) x.fr.length cf) := blk_cell HW1.out 4; have d5 : w1.cell? ⟨w.heap.size, 5, none⟩ = some (.slice (some ⟨gk, 0, none⟩) x.keys.length ck) := blk_cell HW1.out 5; have h1s := HB1.out.size; have HKW1 := hide (HK.out.below HB1.out); clear hB1; skip))
      all_goals go_wp2
      all_goals go_ret
      all_goals exact ⟨rfl, below_alloc HB2.out (Nat.le_refl _) _⟩
    · have ht : ((x.tag : Int) != 1) = true := by simp; omega
      rw [if_pos (by omega)] at hT
      have HT := hide hT
      clear hT h1'
      have HO := hide ho
      clear ho
      go_wp2_with fail
      have HCT : Hid ((#[.string (strA hw), .string ⟨#[]⟩, .string (strA (tagTextL x.tag [tIs, tContains, tMatches])), .string (strA (quotesL x.fr)), .string (strA (quotesL x.keys))] : Array Value) = (tcells [hw, C, T, quotesL x.fr, quotesL x.keys]).toArray) := by
        rw [← HC.out, ← HT.out]; rfl
      refine gen_world (P := fun W => Code.wp _ _ _ _ W) (HB0.out _) (HBLK.out false HO.out.symm) ?_
      intro W0 hW0B hW0b
      have b2 : W0.cell? ⟨w.heap.size, 2, none⟩ = some (.int .i64 x.tag) := blk_cell hW0b 2
      have HW0B := hide hW0B
      have HW0b := hide hW0b
      have hW0s := hW0B.size
      clear hW0B hW0b
      go_region_held3 (fun w' => w'.cell? ⟨w.heap.size, 2, none⟩ = some (.int .i64 x.tag)) (first | go_keep | exact blk_cell (blk_alloc HW0b.out) 2) (first
        | (go_at_call 307; refine (matchTags_any _).mono ?_; rintro e w' ⟨rfl, rfl⟩; skip)
        | (go_at_call 182; refine (tagText_any x.tag _ 3 3 [tIs, tContains, tMatches] _ ((txt_newAt (w := W0) (g := W0.heap.size) [tIs, tContains, tMatches] 9 rfl).drew) rfl (by decide) h3).mono ?_; rintro e w' ⟨rfl, rfl⟩; skip))
      all_goals go_wp2_with fail
      all_goals refine gen_world (P := fun W => Code.wp _ _ _ _ W) (w := w) (B := w.heap.size) (o := mblk hw x (.slice (some ⟨gf, 0, none⟩) x.fr.length cf) (.slice (some ⟨gk, 0, none⟩) x.keys.length ck)) (by first | exact (below_alloc HW0B.out (Nat.le_refl _) _).drew | exact below_alloc HW0B.out.drew (Nat.le_refl _) _) (by exact blk_alloc (w := W0.drew) HW0b.out) ?_
      intro W hWB hWb
      have c0 : W.cell? ⟨w.heap.size, 0, none⟩ = some (.string (strA hw)) := blk_cell hWb 0
      have c4 : W.cell? ⟨w.heap.size, 4, none⟩ = some (.slice (some ⟨gf, 0, none⟩) x.fr.length cf) := blk_cell hWb 4
      have c5 : W.cell? ⟨w.heap.size, 5, none⟩ = some (.slice (some ⟨gk, 0, none⟩) x.keys.length ck) := blk_cell hWb 5
      have HFW := hide (HF.out.below hWB)
      have HKW := hide (HK.out.below hWB)
      have HWB := hide hWB
      have HWb := hide hWb
      have hWs := hWB.size
      have hWl := blk_lt hWb
      clear hWB hWb
      go_region_held3 (fun w' => w'.cell? ⟨w.heap.size, 0, none⟩ = some (.string (strA hw)) ∧ w'.cell? ⟨w.heap.size, 4, none⟩ = some (.slice (some ⟨gf, 0, none⟩) x.fr.length cf) ∧ w'.cell? ⟨w.heap.size, 5, none⟩ = some (.slice (some ⟨gk, 0, none⟩) x.keys.length ck)) (first | go_keep | exact ⟨blk_cell (blk_alloc HW2.out) 0, blk_cell (blk_alloc HW2.out) 4, blk_cell (blk_alloc HW2.out) 5⟩) (first
        | (go_at_call 181; refine (phrase_any [hw, C, T, quotesL x.fr, quotesL x.keys] _ 5 5 _ (txt_alloc w2 [hw, C, T, quotesL x.fr, quotesL x.keys] _ _ HCT.out) rfl (by simp) HL.out).mono ?_; rintro e w3 ⟨rfl, rfl⟩; skip)
        | (have gg := HB1; go_at_call 77; refine (quotes_any x.keys gk x.keys.length ck _ (HKW1.out) rfl hnk HLK.out).mono ?_; rintro e w2 ⟨rfl, hB2⟩; have HB2 := hide (HB1.out.trans (hB2.mono h1s)); have HW2 := hide (blk_below HW1.out hB2); have e0 : w2.cell? ⟨w.heap.size, 0, none⟩ = some (.string (strA hw)) := blk_cell HW2.out 0; have e4 : w2.cell? ⟨w.heap.size, 4, none⟩ = some (.slice (some ⟨gf, 0, none⟩) x.fr.length cf) := blk_cell HW2.out 4; have e5 : w2.cell? ⟨w.heap.size, 5, none⟩ = some (.slice (some ⟨gk, 0, none⟩) x.keys.length ck) := blk_cell HW2.out 5; clear hB2; skip)
        | (go_at_call 77; refine (quotes_any x.fr gf x.fr.length cf _ (HFW.out.drew) rfl hnf HLF.out).mono ?_; rintro e w1 ⟨rfl, hB1⟩; have HB1 := hide (HWB.out.drew.trans (hB1.mono hWs)); have HW1 := hide (blk_below (w := W.drew) HWb.out hB1); have d0 : w1.cell? ⟨w.heap.size, 0, none⟩ = some (.string (strA hw)) := blk_cell HW1.out 0; have d4 : w1.cell? ⟨w.heap.size, 4, none⟩ = some (.slice (some ⟨gf, 0, none⟩) x.fr.length cf) := blk_cell HW1.out 4; have d5 : w1.cell? ⟨w.heap.size, 5, none⟩ = some (.slice (some ⟨gk, 0, none⟩) x.keys.length ck) := blk_cell HW1.out 5; have h1s := HB1.out.size; have HKW1 := hide (HK.out.below HB1.out); clear hB1; skip))
      all_goals go_wp2
      all_goals go_ret
      all_goals exact ⟨rfl, below_alloc HB2.out (Nat.le_refl _) _⟩
  · rw [ho, if_pos rfl] at hC
    have HC := hide hC
    clear hC
    by_cases h1' : x.tag = 1
    · have ht : ((x.tag : Int) != 1) = false := by simp; omega
      rw [if_neg (by omega)] at hT
      have HT := hide hT
      clear hT h1'
      have HO := hide ho
      clear ho
      go_wp2_with fail
      refine (quoted_any ⟨#[105, 59, 111, 99, 116, 101, 116]⟩ _ (by decide)).mono ?_
      rintro e wq ⟨rfl, hBq⟩
      have HBQ := hide ((HB0.out _).trans (hBq.mono (by simp)))
      have HWQ := hide (blk_below (HBLK.out true HO.out.symm) hBq)
      have hwqs := HBQ.out.size
      have q2 : ∀ o, (wq.alloc o).cell? ⟨w.heap.size, 2, none⟩ = some (.int .i64 x.tag) := fun o => blk_cell (blk_alloc HWQ.out) 2
      clear hBq
      go_wp2_with fail
      refine (phrase_any [tComparator, quotedL cOctet] _ 2 2 _ (txt_alloc wq [tComparator, quotedL cOctet] _ _ rfl) rfl (by decide) (by decide)).mono ?_
      rintro e wp' ⟨rfl, rfl⟩
      go_wp2_with fail
      have HCT : Hid ((#[.string (strA hw), .string (strA (phraseL [tComparator, quotedL cOctet])), .string ⟨#[]⟩, .string (strA (quotesL x.fr)), .string (strA (quotesL x.keys))] : Array Value) = (tcells [hw, C, T, quotesL x.fr, quotesL x.keys]).toArray) := by
        rw [← HC.out, ← HT.out]; rfl
      refine gen_world (P := fun W => Code.wp _ _ _ _ W) (below_alloc HBQ.out (Nat.le_refl _) _) (blk_alloc HWQ.out) ?_
      intro W hWB hWb
      have c0 : W.cell? ⟨w.heap.size, 0, none⟩ = some (.string (strA hw)) := blk_cell hWb 0
      have c4 : W.cell? ⟨w.heap.size, 4, none⟩ = some (.slice (some ⟨gf, 0, none⟩) x.fr.length cf) := blk_cell hWb 4
      have c5 : W.cell? ⟨w.heap.size, 5, none⟩ = some (.slice (some ⟨gk, 0, none⟩) x.keys.length ck) := blk_cell hWb 5
      have HFW := hide (HF.out.below hWB)
      have HKW := hide (HK.out.below hWB)
      have HWB := hide hWB
      have HWb := hide hWb
      have hWs := hWB.size
      have hWl := blk_lt hWb
      clear hWB hWb
      go_region_held3 (fun w' => w'.cell? ⟨w.heap.size, 0, none⟩ = some (.string (strA hw)) ∧ w'.cell? ⟨w.heap.size, 4, none⟩ = some (.slice (some ⟨gf, 0, none⟩) x.fr.length cf) ∧ w'.cell? ⟨w.heap.size, 5, none⟩ = some (.slice (some ⟨gk, 0, none⟩) x.keys.length ck)) (first | go_keep | exact ⟨blk_cell (blk_alloc HW2.out) 0, blk_cell (blk_alloc HW2.out) 4, blk_cell (blk_alloc HW2.out) 5⟩) (first
        | (go_at_call 181; refine (phrase_any [hw, C, T, quotesL x.fr, quotesL x.keys] _ 5 5 _ (txt_alloc w2 [hw, C, T, quotesL x.fr, quotesL x.keys] _ _ HCT.out) rfl (by simp) HL.out).mono ?_; rintro e w3 ⟨rfl, rfl⟩; skip)
        | (have gg := HB1; go_at_call 77; refine (quotes_any x.keys gk x.keys.length ck _ (HKW1.out) rfl hnk HLK.out).mono ?_; rintro e w2 ⟨rfl, hB2⟩; have HB2 := hide (HB1.out.trans (hB2.mono h1s)); have HW2 := hide (blk_below HW1.out hB2); have e0 : w2.cell? ⟨w.heap.size, 0, none⟩ = some (.string (strA hw)) := blk_cell HW2.out 0; have e4 : w2.cell? ⟨w.heap.size, 4, none⟩ = some (.slice (some ⟨gf, 0, none⟩) x.fr.length cf) := blk_cell HW2.out 4; have e5 : w2.cell? ⟨w.heap.size, 5, none⟩ = some (.slice (some ⟨gk, 0, none⟩) x.keys.length ck) := blk_cell HW2.out 5; clear hB2; skip)
        | (go_at_call 77; refine (quotes_any x.fr gf x.fr.length cf _ (HFW.out.drew) rfl hnf HLF.out).mono ?_; rintro e w1 ⟨rfl, hB1⟩; have HB1 := hide (HWB.out.drew.trans (hB1.mono hWs)); have HW1 := hide (blk_below (w := W.drew) HWb.out hB1); have d0 : w1.cell? ⟨w.heap.size, 0, none⟩ = some (.string (strA hw)) := blk_cell HW1.out 0; have d4 : w1.cell? ⟨w.heap.size, 4, none⟩ = some (.slice (some ⟨gf, 0, none⟩) x.fr.length cf) := blk_cell HW1.out 4; have d5 : w1.cell? ⟨w.heap.size, 5, none⟩ = some (.slice (some ⟨gk, 0, none⟩) x.keys.length ck) := blk_cell HW1.out 5; have h1s := HB1.out.size; have HKW1 := hide (HK.out.below HB1.out); clear hB1; skip))
      all_goals go_wp2
      all_goals go_ret
      all_goals exact ⟨rfl, below_alloc HB2.out (Nat.le_refl _) _⟩
    · have ht : ((x.tag : Int) != 1) = true := by simp; omega
      rw [if_pos (by omega)] at hT
      have HT := hide hT
      clear hT h1'
      have HO := hide ho
      clear ho
      go_wp2_with fail
      refine (quoted_any ⟨#[105, 59, 111, 99, 116, 101, 116]⟩ _ (by decide)).mono ?_
      rintro e wq ⟨rfl, hBq⟩
      have HBQ := hide ((HB0.out _).trans (hBq.mono (by simp)))
      have HWQ := hide (blk_below (HBLK.out true HO.out.symm) hBq)
      have hwqs := HBQ.out.size
      have q2 : ∀ o, (wq.alloc o).cell? ⟨w.heap.size, 2, none⟩ = some (.int .i64 x.tag) := fun o => blk_cell (blk_alloc HWQ.out) 2
      clear hBq
      go_wp2_with fail
      refine (phrase_any [tComparator, quotedL cOctet] _ 2 2 _ (txt_alloc wq [tComparator, quotedL cOctet] _ _ rfl) rfl (by decide) (by decide)).mono ?_
      rintro e wp' ⟨rfl, rfl⟩
      go_wp2_with fail
      have HCT : Hid ((#[.string (strA hw), .string (strA (phraseL [tComparator, quotedL cOctet])), .string (strA (tagTextL x.tag [tIs, tContains, tMatches])), .string (strA (quotesL x.fr)), .string (strA (quotesL x.keys))] : Array Value) = (tcells [hw, C, T, quotesL x.fr, quotesL x.keys]).toArray) := by
        rw [← HC.out, ← HT.out]; rfl
      refine gen_world (P := fun W => Code.wp _ _ _ _ W) (below_alloc HBQ.out (Nat.le_refl _) _) (blk_alloc HWQ.out) ?_
      intro W0 hW0B hW0b
      have b2 : W0.cell? ⟨w.heap.size, 2, none⟩ = some (.int .i64 x.tag) := blk_cell hW0b 2
      have HW0B := hide hW0B
      have HW0b := hide hW0b
      have hW0s := hW0B.size
      clear hW0B hW0b
      go_region_held3 (fun w' => w'.cell? ⟨w.heap.size, 2, none⟩ = some (.int .i64 x.tag)) (first | go_keep | exact blk_cell (blk_alloc HW0b.out) 2) (first
        | (go_at_call 307; refine (matchTags_any _).mono ?_; rintro e w' ⟨rfl, rfl⟩; skip)
        | (go_at_call 182; refine (tagText_any x.tag _ 3 3 [tIs, tContains, tMatches] _ ((txt_newAt (w := W0) (g := W0.heap.size) [tIs, tContains, tMatches] 9 rfl).drew) rfl (by decide) h3).mono ?_; rintro e w' ⟨rfl, rfl⟩; skip))
      all_goals go_wp2_with fail
      all_goals refine gen_world (P := fun W => Code.wp _ _ _ _ W) (w := w) (B := w.heap.size) (o := mblk hw x (.slice (some ⟨gf, 0, none⟩) x.fr.length cf) (.slice (some ⟨gk, 0, none⟩) x.keys.length ck)) (by first | exact (below_alloc HW0B.out (Nat.le_refl _) _).drew | exact below_alloc HW0B.out.drew (Nat.le_refl _) _) (by exact blk_alloc (w := W0.drew) HW0b.out) ?_
      intro W hWB hWb
      have c0 : W.cell? ⟨w.heap.size, 0, none⟩ = some (.string (strA hw)) := blk_cell hWb 0
      have c4 : W.cell? ⟨w.heap.size, 4, none⟩ = some (.slice (some ⟨gf, 0, none⟩) x.fr.length cf) := blk_cell hWb 4
      have c5 : W.cell? ⟨w.heap.size, 5, none⟩ = some (.slice (some ⟨gk, 0, none⟩) x.keys.length ck) := blk_cell hWb 5
      have HFW := hide (HF.out.below hWB)
      have HKW := hide (HK.out.below hWB)
      have HWB := hide hWB
      have HWb := hide hWb
      have hWs := hWB.size
      have hWl := blk_lt hWb
      clear hWB hWb
      go_region_held3 (fun w' => w'.cell? ⟨w.heap.size, 0, none⟩ = some (.string (strA hw)) ∧ w'.cell? ⟨w.heap.size, 4, none⟩ = some (.slice (some ⟨gf, 0, none⟩) x.fr.length cf) ∧ w'.cell? ⟨w.heap.size, 5, none⟩ = some (.slice (some ⟨gk, 0, none⟩) x.keys.length ck)) (first | go_keep | exact ⟨blk_cell (blk_alloc HW2.out) 0, blk_cell (blk_alloc HW2.out) 4, blk_cell (blk_alloc HW2.out) 5⟩) (first
        | (go_at_call 181; refine (phrase_any [hw, C, T, quotesL x.fr, quotesL x.keys] _ 5 5 _ (txt_alloc w2 [hw, C, T, quotesL x.fr, quotesL x.keys] _ _ HCT.out) rfl (by simp) HL.out).mono ?_; rintro e w3 ⟨rfl, rfl⟩; skip)
        | (have gg := HB1; go_at_call 77; refine (quotes_any x.keys gk x.keys.length ck _ (HKW1.out) rfl hnk HLK.out).mono ?_; rintro e w2 ⟨rfl, hB2⟩; have HB2 := hide (HB1.out.trans (hB2.mono h1s)); have HW2 := hide (blk_below HW1.out hB2); have e0 : w2.cell? ⟨w.heap.size, 0, none⟩ = some (.string (strA hw)) := blk_cell HW2.out 0; have e4 : w2.cell? ⟨w.heap.size, 4, none⟩ = some (.slice (some ⟨gf, 0, none⟩) x.fr.length cf) := blk_cell HW2.out 4; have e5 : w2.cell? ⟨w.heap.size, 5, none⟩ = some (.slice (some ⟨gk, 0, none⟩) x.keys.length ck) := blk_cell HW2.out 5; clear hB2; skip)
        | (go_at_call 77; refine (quotes_any x.fr gf x.fr.length cf _ (HFW.out.drew) rfl hnf HLF.out).mono ?_; rintro e w1 ⟨rfl, hB1⟩; have HB1 := hide (HWB.out.drew.trans (hB1.mono hWs)); have HW1 := hide (blk_below (w := W.drew) HWb.out hB1); have d0 : w1.cell? ⟨w.heap.size, 0, none⟩ = some (.string (strA hw)) := blk_cell HW1.out 0; have d4 : w1.cell? ⟨w.heap.size, 4, none⟩ = some (.slice (some ⟨gf, 0, none⟩) x.fr.length cf) := blk_cell HW1.out 4; have d5 : w1.cell? ⟨w.heap.size, 5, none⟩ = some (.slice (some ⟨gk, 0, none⟩) x.keys.length ck) := blk_cell HW1.out 5; have h1s := HB1.out.size; have HKW1 := hide (HK.out.below HB1.out); clear hB1; skip))
      all_goals go_wp2
      all_goals go_ret
      all_goals exact ⟨rfl, below_alloc HB2.out (Nat.le_refl _) _⟩

end Go.Proofs.YtbiclelojbfnbaaGreatDoor

namespace Go.Proofs.YtbiclelojbfnbaaGreatDoor
open Go.RowKit

section
variable {P : Program} {w : World} {t xT T : TypeId} {v z : Value}
/-- 'x, ok := e.(T)', T a type that is no interface, and e's is another: (T's zero value, false). -/
theorem ta_no {fs : Array Field} (hu : P.underlying T = some (.struct fs)) (hz : (P.info? T).map (·.zero) = some (some z)) (hne : ¬ t = T) :
    (Instr.typeAssert (.iface t v) xT T true).run P w = .ok (.tuple #[z, .bool false]) w := by
  obtain ⟨j, hj, hz'⟩ := Option.map_eq_some_iff.1 hz
  simp [Instr.typeAssert, run_underlying hu, typeInfo, hne, zeroValue, hj, hz']
/-- .. and e's is T: (e's value, true). -/
theorem ta_yes {fs : Array Field} (hu : P.underlying T = some (.struct fs)) :
    (Instr.typeAssert (.iface T v) xT T true).run P w = .ok (.tuple #[v, .bool true]) w := by
  simp [Instr.typeAssert, run_underlying hu]
end
theorem Tryz.noNot (t xT : TypeId) (v : Value) (w : World) (h : ¬ t = 376) : (Instr.typeAssert (.iface t v) xT 376 true).run Tryz.prog w = .ok (.tuple #[.agg #[.string ⟨#[]⟩, .int .i64 0, .nilIface], .bool false]) w := ta_no Tryz.underlying376 (by kernel_rfl) h
theorem Tryz.yesNot (xT : TypeId) (v : Value) (w : World) : (Instr.typeAssert (.iface 376 v) xT 376 true).run Tryz.prog w = .ok (.tuple #[v, .bool true]) w := ta_yes Tryz.underlying376
theorem Tryz.noAllOf (t xT : TypeId) (v : Value) (w : World) (h : ¬ t = 274) : (Instr.typeAssert (.iface t v) xT 274 true).run Tryz.prog w = .ok (.tuple #[.agg #[.string ⟨#[]⟩, .int .i64 0, .slice none 0 0], .bool false]) w := ta_no Tryz.underlying274 (by kernel_rfl) h
theorem Tryz.yesAllOf (xT : TypeId) (v : Value) (w : World) : (Instr.typeAssert (.iface 274 v) xT 274 true).run Tryz.prog w = .ok (.tuple #[v, .bool true]) w := ta_yes Tryz.underlying274
theorem Tryz.noAnyOf (t xT : TypeId) (v : Value) (w : World) (h : ¬ t = 275) : (Instr.typeAssert (.iface t v) xT 275 true).run Tryz.prog w = .ok (.tuple #[.agg #[.string ⟨#[]⟩, .int .i64 0, .slice none 0 0], .bool false]) w := ta_no Tryz.underlying275 (by kernel_rfl) h
theorem Tryz.yesAnyOf (xT : TypeId) (v : Value) (w : World) : (Instr.typeAssert (.iface 275 v) xT 275 true).run Tryz.prog w = .ok (.tuple #[v, .bool true]) w := ta_yes Tryz.underlying275
theorem Tryz.noHeader (t xT : TypeId) (v : Value) (w : World) (h : ¬ t = 281) : (Instr.typeAssert (.iface t v) xT 281 true).run Tryz.prog w = .ok (.tuple #[.agg #[.string ⟨#[]⟩, .int .i64 0, .int .i64 0, .bool false, .slice none 0 0, .slice none 0 0], .bool false]) w := ta_no Tryz.underlying281 (by kernel_rfl) h
theorem Tryz.yesHeader (xT : TypeId) (v : Value) (w : World) : (Instr.typeAssert (.iface 281 v) xT 281 true).run Tryz.prog w = .ok (.tuple #[v, .bool true]) w := ta_yes Tryz.underlying281
theorem Tryz.noEnvelope (t xT : TypeId) (v : Value) (w : World) (h : ¬ t = 284) : (Instr.typeAssert (.iface t v) xT 284 true).run Tryz.prog w = .ok (.tuple #[.agg #[.string ⟨#[]⟩, .int .i64 0, .int .i64 0, .bool false, .slice none 0 0, .slice none 0 0], .bool false]) w := ta_no Tryz.underlying284 (by kernel_rfl) h
theorem Tryz.yesEnvelope (xT : TypeId) (v : Value) (w : World) : (Instr.typeAssert (.iface 284 v) xT 284 true).run Tryz.prog w = .ok (.tuple #[v, .bool true]) w := ta_yes Tryz.underlying284
theorem Tryz.noString (t xT : TypeId) (v : Value) (w : World) (h : ¬ t = 285) : (Instr.typeAssert (.iface t v) xT 285 true).run Tryz.prog w = .ok (.tuple #[.agg #[.string ⟨#[]⟩, .int .i64 0, .int .i64 0, .bool false, .slice none 0 0, .slice none 0 0], .bool false]) w := ta_no Tryz.underlying285 (by kernel_rfl) h
theorem Tryz.yesString (xT : TypeId) (v : Value) (w : World) : (Instr.typeAssert (.iface 285 v) xT 285 true).run Tryz.prog w = .ok (.tuple #[v, .bool true]) w := ta_yes Tryz.underlying285
theorem Tryz.noExists (t xT : TypeId) (v : Value) (w : World) (h : ¬ t = 380) : (Instr.typeAssert (.iface t v) xT 380 true).run Tryz.prog w = .ok (.tuple #[.agg #[.string ⟨#[]⟩, .int .i64 0, .slice none 0 0], .bool false]) w := ta_no Tryz.underlying380 (by kernel_rfl) h
theorem Tryz.yesExists (xT : TypeId) (v : Value) (w : World) : (Instr.typeAssert (.iface 380 v) xT 380 true).run Tryz.prog w = .ok (.tuple #[v, .bool true]) w := ta_yes Tryz.underlying380
theorem Tryz.noSize (t xT : TypeId) (v : Value) (w : World) (h : ¬ t = 382) : (Instr.typeAssert (.iface t v) xT 382 true).run Tryz.prog w = .ok (.tuple #[.agg #[.string ⟨#[]⟩, .int .i64 0, .int .i64 0, .int .i64 0], .bool false]) w := ta_no Tryz.underlying382 (by kernel_rfl) h
theorem Tryz.yesSize (xT : TypeId) (v : Value) (w : World) : (Instr.typeAssert (.iface 382 v) xT 382 true).run Tryz.prog w = .ok (.tuple #[v, .bool true]) w := ta_yes Tryz.underlying382
theorem Tryz.noIf (t xT : TypeId) (v : Value) (w : World) (h : ¬ t = 310) : (Instr.typeAssert (.iface t v) xT 310 true).run Tryz.prog w = .ok (.tuple #[.agg #[.string ⟨#[]⟩, .int .i64 0, .slice none 0 0, .bool false, .slice none 0 0], .bool false]) w := ta_no Tryz.underlying310 (by kernel_rfl) h
theorem Tryz.yesIf (xT : TypeId) (v : Value) (w : World) : (Instr.typeAssert (.iface 310 v) xT 310 true).run Tryz.prog w = .ok (.tuple #[v, .bool true]) w := ta_yes Tryz.underlying310
theorem Tryz.noSet (t xT : TypeId) (v : Value) (w : World) (h : ¬ t = 313) : (Instr.typeAssert (.iface t v) xT 313 true).run Tryz.prog w = .ok (.tuple #[.agg #[.string ⟨#[]⟩, .int .i64 0, .int .i64 0, .string ⟨#[]⟩, .string ⟨#[]⟩], .bool false]) w := ta_no Tryz.underlying313 (by kernel_rfl) h
theorem Tryz.yesSet (xT : TypeId) (v : Value) (w : World) : (Instr.typeAssert (.iface 313 v) xT 313 true).run Tryz.prog w = .ok (.tuple #[v, .bool true]) w := ta_yes Tryz.underlying313
theorem Tryz.noAct (t xT : TypeId) (v : Value) (w : World) (h : ¬ t = 318) : (Instr.typeAssert (.iface t v) xT 318 true).run Tryz.prog w = .ok (.tuple #[.agg #[.string ⟨#[]⟩, .int .i64 0, .int .i64 0, .string ⟨#[]⟩], .bool false]) w := ta_no Tryz.underlying318 (by kernel_rfl) h
theorem Tryz.yesAct (xT : TypeId) (v : Value) (w : World) : (Instr.typeAssert (.iface 318 v) xT 318 true).run Tryz.prog w = .ok (.tuple #[v, .bool true]) w := ta_yes Tryz.underlying318
theorem Tryz.nameTruth (a b c : Value) (w : World) : (Go.method 639 373 (.agg #[a, b, c]) "Name").run Tryz.prog w = .ok (450, .agg #[a, b]) w := by kernel_rfl
theorem Tryz.nameDiscard (a b : Value) (w : World) : (Go.method 639 336 (.agg #[a, b]) "Name").run Tryz.prog w = .ok (450, .agg #[a, b]) w := by kernel_rfl
theorem Tryz.nameStop (a b : Value) (w : World) : (Go.method 639 337 (.agg #[a, b]) "Name").run Tryz.prog w = .ok (450, .agg #[a, b]) w := by kernel_rfl
theorem Tryz.nameAct (a b c d : Value) (w : World) : (Go.method 639 318 (.agg #[a, b, c, d]) "Name").run Tryz.prog w = .ok (450, .agg #[a, b]) w := by kernel_rfl

end Go.Proofs.YtbiclelojbfnbaaGreatDoor

namespace Go.Proofs.YtbiclelojbfnbaaGreatDoor
open Go.RowKit
set_option linter.unusedVariables false
set_option linter.unusedSimpArgs false
attribute [local go_sem ↓] Go.wp_at_zero Go.wp_at_succ

/-- The table of powers, as it is laid. -/
def Tab (w : World) : Prop := Lib.TabIs Tryz.prog w "internal/strconv.uint64pow10" .u64 Lib.pow10Tab
theorem Tab.below {w w' : World} (h : Tab w) (hb : Below w.heap.size w w') : Tab w' := Lib.tabBelow_of_tabIs h w' hb
theorem itoa_any (n : Nat) (hn : n ≤ 2147483647) (w : World) (ht : Tab w) :
    Calls Tryz.prog 292 #[.int .i64 n] w fun e w' => e = .returned (.string (strA (itoaL n))) ∧ Below w.heap.size w w' := by
  refine (Tryz.strconv_Itoa n (by omega) (by omega) w ht).mono ?_
  rintro e w' ⟨rfl, k, os, rfl⟩
  exact ⟨by rw [Lib.itoa_nonneg]; rfl, Lib.below_grow _ _ (Nat.le_refl _) _ _⟩

/-- What a function that writes says of a value, in whatever world behind w. -/
def TxtOk (fn : Nat) (w : World) (v : Value) (t : List UInt8) : Prop :=
  ∀ W, Below w.heap.size w W → Calls Tryz.prog fn #[v] W fun e w' => e = .returned (.string (strA t)) ∧ Below W.heap.size W w'
theorem TxtOk.below {fn : Nat} {w w' : World} {v : Value} {t : List UInt8} (h : TxtOk fn w v t) (hb : Below w.heap.size w w') : TxtOk fn w' v t :=
  fun W hW => h W (hb.trans (hW.mono hb.size))

set_option maxRecDepth 100000 in
set_option maxHeartbeats 2000000 in
theorem testText_truth (hw : List UInt8) (p : Nat) (b : Bool) (w : World) :
    Calls Tryz.prog 264 #[.iface 373 (.agg #[.string (strA hw), .int .i64 p, .bool b])] w fun e w' => e = .returned (.string (strA hw)) ∧ Below w.heap.size w w' := by
  have n0 := Tryz.noNot
  have n1 := Tryz.noAllOf
  have n2 := Tryz.noAnyOf
  have n3 := Tryz.noHeader
  have n4 := Tryz.noEnvelope
  have n5 := Tryz.noString
  have n6 := Tryz.noExists
  have n7 := Tryz.noSize
  have mN := Tryz.nameTruth
  go_enter Tryz.func264, Tryz.ntmps264
  go_wp2
  go_ret
  exact ⟨rfl, (Below.refl _ _).alloc (Nat.le_refl _) _⟩

set_option maxRecDepth 100000 in
set_option maxHeartbeats 2000000 in
theorem testText_header (X : Nat → Prop) (hw : List UInt8) (x : TLab) (u : Value) (w : World) (hm : mtX X hw x w u) (h1 : 1 ≤ x.tag) (h3 : x.tag ≤ 3) (hlen : (matchTxt hw x).length ≤ 4294967280) :
    Calls Tryz.prog 264 #[.iface 281 u] w fun e w' => e = .returned (.string (strA (matchTxt hw x))) ∧ Below w.heap.size w w' := by
  obtain ⟨fv, kv, rfl, hf, hk⟩ := hm
  have HF := hide hf
  have HK := hide hk
  obtain ⟨gf, cf, rfl, _⟩ := hf
  obtain ⟨gk, ck, rfl, _⟩ := hk
  have n0 := Tryz.noNot
  have n1 := Tryz.noAllOf
  have n2 := Tryz.noAnyOf
  have yy := Tryz.yesHeader
  have hB0 : ∀ o, Below w.heap.size w (w.alloc o) := fun o => (Below.refl _ _).alloc (Nat.le_refl _) o
  have HB0 := hide hB0
  clear hB0
  go_enter Tryz.func264, Tryz.ntmps264
  go_wp2_with fail
  refine (matchText_any X hw x _ _ _ (HF.out.keep (fun k _ hk => Below.heap_alloc _ _ _ hk)) (HK.out.keep (fun k _ hk => Below.heap_alloc _ _ _ hk)) h1 h3 hlen).mono ?_
  rintro e w1 ⟨rfl, hB1⟩
  have HB1 := hide ((HB0.out _).trans (hB1.mono (by simp)))
  clear hB1
  go_wp2
  go_ret
  exact ⟨rfl, HB1.out⟩

set_option maxRecDepth 100000 in
set_option maxHeartbeats 2000000 in
theorem testText_envelope (X : Nat → Prop) (hw : List UInt8) (x : TLab) (u : Value) (w : World) (hm : mtX X hw x w u) (h1 : 1 ≤ x.tag) (h3 : x.tag ≤ 3) (hlen : (matchTxt hw x).length ≤ 4294967280) :
    Calls Tryz.prog 264 #[.iface 284 u] w fun e w' => e = .returned (.string (strA (matchTxt hw x))) ∧ Below w.heap.size w w' := by
  obtain ⟨fv, kv, rfl, hf, hk⟩ := hm
  have HF := hide hf
  have HK := hide hk
  obtain ⟨gf, cf, rfl, _⟩ := hf
  obtain ⟨gk, ck, rfl, _⟩ := hk
  have n0 := Tryz.noNot
  have n1 := Tryz.noAllOf
  have n2 := Tryz.noAnyOf
  have n3 := Tryz.noHeader
  have yy := Tryz.yesEnvelope
  have hB0 : ∀ o, Below w.heap.size w (w.alloc o) := fun o => (Below.refl _ _).alloc (Nat.le_refl _) o
  have HB0 := hide hB0
  clear hB0
  go_enter Tryz.func264, Tryz.ntmps264
  go_wp2_with fail
  refine (matchText_any X hw x _ _ _ (HF.out.keep (fun k _ hk => Below.heap_alloc _ _ _ hk)) (HK.out.keep (fun k _ hk => Below.heap_alloc _ _ _ hk)) h1 h3 hlen).mono ?_
  rintro e w1 ⟨rfl, hB1⟩
  have HB1 := hide ((HB0.out _).trans (hB1.mono (by simp)))
  clear hB1
  go_wp2
  go_ret
  exact ⟨rfl, HB1.out⟩

set_option maxRecDepth 100000 in
set_option maxHeartbeats 2000000 in
theorem testText_string (X : Nat → Prop) (hw : List UInt8) (x : TLab) (u : Value) (w : World) (hm : mtX X hw x w u) (h1 : 1 ≤ x.tag) (h3 : x.tag ≤ 3) (hlen : (matchTxt hw x).length ≤ 4294967280) :
    Calls Tryz.prog 264 #[.iface 285 u] w fun e w' => e = .returned (.string (strA (matchTxt hw x))) ∧ Below w.heap.size w w' := by
  obtain ⟨fv, kv, rfl, hf, hk⟩ := hm
  have HF := hide hf
  have HK := hide hk
  obtain ⟨gf, cf, rfl, _⟩ := hf
  obtain ⟨gk, ck, rfl, _⟩ := hk
  have n0 := Tryz.noNot
  have n1 := Tryz.noAllOf
  have n2 := Tryz.noAnyOf
  have n3 := Tryz.noHeader
  have n4 := Tryz.noEnvelope
  have yy := Tryz.yesString
  have hB0 : ∀ o, Below w.heap.size w (w.alloc o) := fun o => (Below.refl _ _).alloc (Nat.le_refl _) o
  have HB0 := hide hB0
  clear hB0
  go_enter Tryz.func264, Tryz.ntmps264
  go_wp2_with fail
  refine (matchText_any X hw x _ _ _ (HF.out.keep (fun k _ hk => Below.heap_alloc _ _ _ hk)) (HK.out.keep (fun k _ hk => Below.heap_alloc _ _ _ hk)) h1 h3 hlen).mono ?_
  rintro e w1 ⟨rfl, hB1⟩
  have HB1 := hide ((HB0.out _).trans (hB1.mono (by simp)))
  clear hB1
  go_wp2
  go_ret
  exact ⟨rfl, HB1.out⟩

end Go.Proofs.YtbiclelojbfnbaaGreatDoor

namespace Go.Proofs.YtbiclelojbfnbaaGreatDoor
open Go.RowKit
set_option linter.unusedVariables false
set_option linter.unusedSimpArgs false
attribute [local go_sem ↓] Go.wp_at_zero Go.wp_at_succ

set_option maxRecDepth 100000 in
set_option maxHeartbeats 2000000 in
theorem testText_not (hw : List UInt8) (p : Nat) (ty : TypeId) (y : Value) (t : List UInt8) (w : World) (hu : TxtOk 264 w (.iface ty y) t) (hlen : (phraseL [hw, t]).length ≤ 4294967280) :
    Calls Tryz.prog 264 #[.iface 376 (.agg #[.string (strA hw), .int .i64 p, .iface ty y])] w fun e w' => e = .returned (.string (strA (phraseL [hw, t]))) ∧ Below w.heap.size w w' := by
  have yy := Tryz.yesNot
  have HU := hide hu
  have HL := hide hlen
  clear hu hlen
  go_enter Tryz.func264, Tryz.ntmps264
  go_wp2_with fail
  refine gen_world (P := fun W => Code.wp _ _ _ _ W) (w := w) (B := w.heap.size) (o := .cells #[.string (strA hw), .int .i64 p, .iface ty y] 376) ((Below.refl _ _).alloc (Nat.le_refl _) _) (blk_new _ _) ?_
  intro W hWB hWb
  have c0 : W.cell? ⟨w.heap.size, 0, none⟩ = some (.string (strA hw)) := blk_cell hWb 0
  have c2 : W.cell? ⟨w.heap.size, 2, none⟩ = some (.iface ty y) := blk_cell hWb 2
  have HWB := hide hWB
  have HWb := hide hWb
  have hWs := hWB.size
  have hWl := blk_lt hWb
  clear hWB hWb
  go_region_held3 (fun w' => w'.cell? ⟨w.heap.size, 0, none⟩ = some (.string (strA hw)) ∧ w'.cell? ⟨w.heap.size, 2, none⟩ = some (.iface ty y)) (first | go_keep | exact ⟨blk_cell (blk_alloc HW1.out) 0, blk_cell (blk_alloc HW1.out) 2⟩) (first
    | (go_at_call 181; refine (phrase_any [hw, t] _ 2 2 _ (txt_alloc w1 [hw, t] _ _ rfl) rfl (by simp) HL.out).mono ?_; rintro e w3 ⟨rfl, rfl⟩; skip)
    | (go_at_call 264; refine (HU.out W.drew HWB.out.drew).mono ?_; rintro e w1 ⟨rfl, hB1⟩; have HB1 := hide (HWB.out.drew.trans (hB1.mono hWs)); have HW1 := hide (blk_below (w := W.drew) HWb.out hB1); have d0 : w1.cell? ⟨w.heap.size, 0, none⟩ = some (.string (strA hw)) := blk_cell HW1.out 0; have d2 : w1.cell? ⟨w.heap.size, 2, none⟩ = some (.iface ty y) := blk_cell HW1.out 2; have h1s := HB1.out.size; clear hB1; skip))
  all_goals go_wp2
  all_goals go_ret
  all_goals exact ⟨rfl, below_alloc HB1.out (Nat.le_refl _) _⟩

set_option maxRecDepth 100000 in
set_option maxHeartbeats 2000000 in
theorem testText_exists (X : Nat → Prop) (hw : List UInt8) (p : Nat) (xs : List (List UInt8)) (u : Value) (w : World) (hu : slX X xs w u) (hlen : (phraseL [hw, quotesL xs]).length ≤ 4294967280) :
    Calls Tryz.prog 264 #[.iface 380 (.agg #[.string (strA hw), .int .i64 p, u])] w fun e w' => e = .returned (.string (strA (phraseL [hw, quotesL xs]))) ∧ Below w.heap.size w w' := by
  obtain ⟨gf, cf, rfl, hgf, htf, hnf⟩ := hu
  have n0 := Tryz.noNot
  have n1 := Tryz.noAllOf
  have n2 := Tryz.noAnyOf
  have n3 := Tryz.noHeader
  have n4 := Tryz.noEnvelope
  have n5 := Tryz.noString
  have yy := Tryz.yesExists
  have HF := hide htf
  have HL := hide hlen
  have HLF : Hid ((quotesL xs).length ≤ 4294967280) := Nat.le_trans (phraseL_mem (ps := [hw, quotesL xs]) (by simp)) hlen
  clear htf hlen
  go_enter Tryz.func264, Tryz.ntmps264
  go_wp2_with fail
  refine gen_world (P := fun W => Code.wp _ _ _ _ W) (w := w) (B := w.heap.size) (o := .cells #[.string (strA hw), .int .i64 p, .slice (some ⟨gf, 0, none⟩) xs.length cf] 380) ((Below.refl _ _).alloc (Nat.le_refl _) _) (blk_new _ _) ?_
  intro W hWB hWb
  have c0 : W.cell? ⟨w.heap.size, 0, none⟩ = some (.string (strA hw)) := blk_cell hWb 0
  have c2 : W.cell? ⟨w.heap.size, 2, none⟩ = some (.slice (some ⟨gf, 0, none⟩) xs.length cf) := blk_cell hWb 2
  have HFW := hide (HF.out.below hWB)
  have HWB := hide hWB
  have HWb := hide hWb
  have hWs := hWB.size
  have hWl := blk_lt hWb
  clear hWB hWb
  go_region_held3 (fun w' => w'.cell? ⟨w.heap.size, 0, none⟩ = some (.string (strA hw)) ∧ w'.cell? ⟨w.heap.size, 2, none⟩ = some (.slice (some ⟨gf, 0, none⟩) xs.length cf)) (first | go_keep | exact ⟨blk_cell (blk_alloc HW1.out) 0, blk_cell (blk_alloc HW1.out) 2⟩) (first
    | (go_at_call 181; refine (phrase_any [hw, quotesL xs] _ 2 2 _ (txt_alloc w1 [hw, quotesL xs] _ _ rfl) rfl (by simp) HL.out).mono ?_; rintro e w3 ⟨rfl, rfl⟩; skip)
    | (go_at_call 77; refine (quotes_any xs gf xs.length cf _ (HFW.out.drew) rfl hnf HLF.out).mono ?_; rintro e w1 ⟨rfl, hB1⟩; have HB1 := hide (HWB.out.drew.trans (hB1.mono hWs)); have HW1 := hide (blk_below (w := W.drew) HWb.out hB1); have d0 : w1.cell? ⟨w.heap.size, 0, none⟩ = some (.string (strA hw)) := blk_cell HW1.out 0; have d2 : w1.cell? ⟨w.heap.size, 2, none⟩ = some (.slice (some ⟨gf, 0, none⟩) xs.length cf) := blk_cell HW1.out 2; have h1s := HB1.out.size; clear hB1; skip))
  all_goals go_wp2
  all_goals go_ret
  all_goals exact ⟨rfl, below_alloc HB1.out (Nat.le_refl _) _⟩

set_option maxRecDepth 100000 in
set_option maxHeartbeats 2000000 in
theorem testText_size (hw : List UInt8) (p tag num : Nat) (w : World) (ht : Tab w) (h2 : tag ≤ 2) (hn : num ≤ 2147483647) (hlen : (phraseL [hw, tagTextL tag [tOver, tUnder], itoaL num]).length ≤ 4294967280) :
    Calls Tryz.prog 264 #[.iface 382 (.agg #[.string (strA hw), .int .i64 p, .int .i64 tag, .int .i64 num])] w fun e w' => e = .returned (.string (strA (phraseL [hw, tagTextL tag [tOver, tUnder], itoaL num]))) ∧ Below w.heap.size w w' := by
  have n0 := Tryz.noNot
  have n1 := Tryz.noAllOf
  have n2 := Tryz.noAnyOf
  have n3 := Tryz.noHeader
  have n4 := Tryz.noEnvelope
  have n5 := Tryz.noString
  have n6 := Tryz.noExists
  have yy := Tryz.yesSize
  have HT := hide ht
  have HL := hide hlen
  clear ht hlen
  go_enter Tryz.func264, Tryz.ntmps264
  go_wp2_with fail
  refine gen_world (P := fun W => Code.wp _ _ _ _ W) (w := w) (B := w.heap.size) (o := .cells #[.string (strA hw), .int .i64 p, .int .i64 tag, .int .i64 num] 382) ((Below.refl _ _).alloc (Nat.le_refl _) _) (blk_new _ _) ?_
  intro W hWB hWb
  have c0 : W.cell? ⟨w.heap.size, 0, none⟩ = some (.string (strA hw)) := blk_cell hWb 0
  have c2 : W.cell? ⟨w.heap.size, 2, none⟩ = some (.int .i64 tag) := blk_cell hWb 2
  have c3 : W.cell? ⟨w.heap.size, 3, none⟩ = some (.int .i64 num) := blk_cell hWb 3
  have HTW := hide (HT.out.below hWB)
  have HWB := hide hWB
  have HWb := hide hWb
  have hWs := hWB.size
  have hWl := blk_lt hWb
  clear hWB hWb
  go_region_held3 (fun w' => w'.cell? ⟨w.heap.size, 0, none⟩ = some (.string (strA hw)) ∧ w'.cell? ⟨w.heap.size, 2, none⟩ = some (.int .i64 tag) ∧ w'.cell? ⟨w.heap.size, 3, none⟩ = some (.int .i64 num)) (first | go_keep | exact ⟨blk_cell (blk_alloc HW1.out) 0, blk_cell (blk_alloc HW1.out) 2, blk_cell (blk_alloc HW1.out) 3⟩ | exact ⟨blk_cell (blk_alloc HWb.out) 0, blk_cell (blk_alloc HWb.out) 2, blk_cell (blk_alloc HWb.out) 3⟩) (first
    | (go_at_call 181; refine (phrase_any [hw, tagTextL tag [tOver, tUnder], itoaL num] _ 3 3 _ (txt_alloc w1 [hw, tagTextL tag [tOver, tUnder], itoaL num] _ _ rfl) rfl (by simp) HL.out).mono ?_; rintro e w3 ⟨rfl, rfl⟩; skip)
    | (go_at_call 257; refine (sizeTags_any _).mono ?_; rintro e w' ⟨rfl, rfl⟩; skip)
    | (go_at_call 182; refine (tagText_any tag _ 2 2 [tOver, tUnder] _ ((txt_newAt (w := W) (g := W.heap.size) [tOver, tUnder] 9 rfl).drew) rfl (by decide) h2).mono ?_; rintro e w' ⟨rfl, rfl⟩; skip)
    | (go_at_call 292; refine (itoa_any num hn (W.alloc (.cells (tcells [tOver, tUnder]).toArray 9)).drew (HTW.out.below (((Below.refl _ W).alloc (Nat.le_refl _) _).drew))).mono ?_; rintro e w1 ⟨rfl, hB1⟩; have HB1 := hide (((below_alloc HWB.out (Nat.le_refl _) (.cells (tcells [tOver, tUnder]).toArray 9)).drew).trans (hB1.mono (by simp; omega))); have HW1 := hide (blk_below (w := (W.alloc (.cells (tcells [tOver, tUnder]).toArray 9)).drew) (blk_alloc HWb.out) hB1); have d0 : w1.cell? ⟨w.heap.size, 0, none⟩ = some (.string (strA hw)) := blk_cell HW1.out 0; have d2 : w1.cell? ⟨w.heap.size, 2, none⟩ = some (.int .i64 tag) := blk_cell HW1.out 2; have d3 : w1.cell? ⟨w.heap.size, 3, none⟩ = some (.int .i64 num) := blk_cell HW1.out 3; have h1s := HB1.out.size; clear hB1; skip))
  all_goals go_wp2
  all_goals go_ret
  all_goals exact ⟨rfl, below_alloc HB1.out (Nat.le_refl _) _⟩

end Go.Proofs.YtbiclelojbfnbaaGreatDoor

namespace Go.Proofs.YtbiclelojbfnbaaGreatDoor
open Go.RowKit
set_option linter.unusedVariables false
set_option linter.unusedSimpArgs false

theorem getD_mem : ∀ (xs : List (List UInt8)) (k : Nat) (hk : k < xs.length), xs.getD k [] ∈ xs := tailQ_get
theorem join_count : ∀ xs : List (List UInt8), xs.length ≤ (joinL [44, 32] xs).length + 1
  | [] => by simp
  | [x] => by simp
  | x :: y :: r => by
    have := join_count (y :: r)
    simp only [joinL, List.length_append, List.length_cons, List.length_nil] at this ⊢
    omega

set_option maxRecDepth 100000 in
set_option maxHeartbeats 4000000 in
theorem groupText_any (hw : List UInt8) (p g n c : Nat) (ts : List (List UInt8)) (w : World) (hn : n = ts.length) (hne : ts ≠ []) (hlen : (groupTxt hw ts).length ≤ 4294967280)
    (hc : ∀ j, j < ts.length → ∃ ty y, w.cell? ⟨g, j, none⟩ = some (.iface ty y) ∧ TxtOk 264 w (.iface ty y) (ts.getD j [])) :
    Calls Tryz.prog 319 #[.agg #[.string (strA hw), .int .i64 p, .slice (some ⟨g, 0, none⟩) n c]] w fun e w' => e = .returned (.string (strA (groupTxt hw ts))) ∧ Below w.heap.size w w' := by
  subst hn
  obtain ⟨i0, hi, hz0, hz1, hz2⟩ := info_parts Tryz.infoStr
  have hgl : g < w.heap.size := by
    obtain ⟨ty, y, h, _⟩ := hc 0 (List.length_pos_iff.2 hne)
    exact cell_lt h
  have hG : groupTxt hw ts = hw ++ [32, 40] ++ Lib.join ts [44, 32] ++ [41] := by unfold groupTxt; rw [joinL_eq]
  have hjl : hw.length + 3 + (Lib.join ts [44, 32]).length ≤ 4294967280 := by
    rw [hG] at hlen
    simp only [List.length_append, List.length_cons, List.length_nil] at hlen
    omega
  have hxl : ts.length ≤ 4294967280 := by
    have := join_count ts
    rw [joinL_eq] at this
    omega
  have HC := hide hc
  have HG := hide hG
  clear hc hG hlen
  go_enter Tryz.func319, Tryz.ntmps319
  go_wp2_with fail
  go_loopw [3, 5, 9] (fun v _ i wr => ∃ (k : Nat), k ≤ ts.length ∧ i = .int .i64 k ∧ wr.ownsRow (w.heap.size + 1) 9 1 v k (tcells (ts.take k)) ∧ Below (w.heap.size + 1) (w.alloc (.cells #[.string (strA hw), .int .i64 p, .slice (some ⟨g, 0, none⟩) ts.length c] 271)) wr) (fun _ _ i _ => ts.length - (intOf i).toNat)
  case atStart =>
    exact ⟨0, Nat.zero_le _, by go_num, World.ownsRow_nil _ _ _ _, Below.refl _ _⟩
  case round =>
    obtain ⟨k, hk, rfl, hown, hB⟩ := hrel
    have hBs := hB.size
    simp at hBs
    have hBw : Below w.heap.size w wr := ((Below.refl _ w).alloc (Nat.le_refl _) _).trans (hB.mono (by omega))
    by_cases hlt : k < ts.length
    · obtain ⟨ty, y, hcy, hty⟩ := HC.out k hlt
      have hck : wr.cell? ⟨g, k, none⟩ = some (.iface ty y) := by
        rw [hBw.cell (p := ⟨g, k, none⟩) hgl]
        exact hcy
      have HS : Hid (ts.take (k + 1) = ts.take k ++ [ts.getD k []]) := by
        show ts.take (k + 1) = _
        rw [List.take_add_one, List.getElem?_eq_getElem hlt, List.getD_eq_getElem?_getD, List.getElem?_eq_getElem hlt]
        rfl
      generalize ts.getD k [] = x at HS hty
      obtain ⟨A, hA⟩ : ∃ A, ts.take k = A := ⟨_, rfl⟩
      rw [hA] at hown HS
      have HTY := hide hty
      have HOW := hide hown
      have HB := hide hB
      have HBW := hide hBw
      clear hown hB hA hty hBw hcy
      go_wp2_with fail
      refine (HTY.out wr HBW.out).mono ?_
      rintro e w1 ⟨rfl, hB1⟩
      have hown1 := ownsRow_below HOW.out hB1
      have hB2 : Below (w.heap.size + 1) _ w1 := HB.out.trans (hB1.mono (by omega))
      have hB2s := hB2.size
      simp at hB2s
      have HB1 := hide hB1
      clear hB1
      go_wp2_with (at_builtin; refine wpList_append_own _ rfl _ _ 60 rfl (w.heap.size + 1) 9 i0 (.string ⟨#[]⟩) 1 16 Tryz.underlying60 hi hz0 hz1 hz2 rfl (by decide) _ _ _ rfl (hown1.alloc _) ⟨w1.heap.size, 0, none⟩ 1 1 [.string (strA x)] rfl rfl ?c1 ?c2 ?c3 ?c4 ?c5 ?_)
      case c1 =>
        intro j u hj
        match j, hj with
        | 0, hj => simp at hj; subst hj; simp [Addr.add]
      case c2 => intro u hu; simp at hu; subst hu; rfl
      case c3 => unfold maxLen; omega
      case c4 => omega
      case c5 => simp; omega
      intro v1 w2 hown2 hgrow _
      have hB3 := Below.grown (hB2.alloc hB2s (Obj.cells #[.string (strA x)] 9)) hgrow (by simp; omega) (fun k' hk' => (hown1.lt k' hk').1)
      rw [tcells_snoc, ← HS.out] at hown2
      have HO2 := hide hown2
      have HB3 := hide hB3
      clear hgrow hown1 hB2 hown2 hB3
      go_wp2
      go_roundw
      case rel => exact ⟨k + 1, by omega, by go_num, HO2.out, HB3.out⟩
      case measure => simp [intOf]; omega
    · have hk' : k = ts.length := by omega
      subst hk'
      rw [List.take_length] at hown
      have hJ : (Lib.join ((ts.map strA).map (·.data.toList)) [44, 32]) = Lib.join ts [44, 32] := by
        rw [List.map_map]
        congr 1
        rw [show ((fun x : ByteArray => x.data.toList) ∘ strA) = id from by funext x; rfl, List.map_id]
      obtain ⟨h3, h4 | ⟨g', cap, cur, hv, hg', hh⟩⟩ := hown
      · exact absurd (List.eq_nil_of_length_eq_zero h4.2) hne
      · subst hv
        have hcells : ∀ (j : Nat) x, (ts.map strA)[j]? = some x → wr.cell? ⟨g', 0 + j, none⟩ = some (.string x) := fun j x hj => by
          have := World.ownsRow.cells (w := wr) (base := w.heap.size + 1) (e := 9) (size := 1) (v := .slice (some ⟨g', 0, none⟩) ts.length cap) (n := ts.length) (xs := tcells ts) ⟨h3, Or.inr ⟨g', cap, cur, rfl, hg', hh⟩⟩ (g := g') rfl j (.string x) (by
            unfold tcells
            rw [List.getElem?_map] at hj ⊢
            obtain ⟨y, hy, rfl⟩ := Option.map_eq_some_iff.1 hj
            rw [hy]
            rfl)
          rw [addr_add0] at this
          rw [Nat.zero_add]
          exact this
        have hg'l : g' < wr.heap.size := blk_lt hh.1
        have hcap : ts.length ≤ cap := hh.2.1
        have hM : wr.heap[w.heap.size]? = some (.cells #[.string (strA hw), .int .i64 p, .slice (some ⟨g, 0, none⟩) ts.length c] 271) := by
          rw [hB.block w.heap.size (by omega)]; exact blk_new _ _
        have c0 : wr.cell? ⟨w.heap.size, 0, none⟩ = some (.string (strA hw)) := blk_cell hM 0
        have HM := hide hM
        have HBW := hide hBw
        have HJ := hide hJ
        have HCE := hide hcells
        have HLM : Hid (ts.length = (ts.map strA).length) := by show ts.length = _; simp
        have hs1 := strA_size hw
        have hs2 : (strA hw ++ (⟨#[32, 40]⟩ : ByteArray)).size = hw.length + 2 := by rw [show (⟨#[32, 40]⟩ : ByteArray) = strA [32, 40] from rfl, strA_app, strA_size]; simp
        have HJB : Hid (∀ j, j = Lib.join ts [44, 32] → (strA hw ++ (⟨#[32, 40]⟩ : ByteArray) ++ ⟨j.toArray⟩).size = hw.length + 2 + j.length) := fun j _ => by
          rw [show (⟨#[32, 40]⟩ : ByteArray) = strA [32, 40] from rfl, strA_app]
          show (strA (hw ++ [32, 40]) ++ strA j).size = hw.length + 2 + j.length
          rw [strA_app, strA_size]
          simp only [List.length_append, List.length_cons, List.length_nil]
        clear hh h3 hB hcells hJ hM hBw
        generalize hJJ : Lib.join ts [44, 32] = J at *
        have hs3 := HJB.out J rfl
        have hs4 : (ByteArray.mk J.toArray).size = J.length := rfl
        go_wp2_with fail
        go_region_with (first
          | (go_at_call 113; rw [HLM.out]; refine (Tryz.strings_Join g' 0 cap (ts.map strA) ⟨#[44, 32]⟩ wr.drew HCE.out hg'l (by rw [← HLM.out]; omega) (by rw [← HLM.out]; exact hcap) (by rw [show (ByteArray.mk #[44, 32]).data.toList = [44, 32] from rfl, HJ.out]; omega)).mono ?_; rintro e w1 ⟨rfl, hB1⟩; rw [show (ByteArray.mk #[44, 32]).data.toList = [44, 32] from rfl, HJ.out]; have HB1 := hide (HBW.out.drew.trans (hB1.mono (by show w.heap.size ≤ wr.heap.size; omega))); have d0 : w1.cell? ⟨w.heap.size, 0, none⟩ = some (.string (strA hw)) := blk_cell (blk_below (w := wr.drew) HM.out hB1) 0; clear hB1; skip))
        all_goals go_wp2
        all_goals go_ret
        all_goals refine ⟨?_, HB1.out⟩
        all_goals (rw [HG.out]; show Ending.returned (Value.string (strA hw ++ strA [32, 40] ++ strA J ++ strA [41])) = _; rw [strA_app, strA_app, strA_app])

end Go.Proofs.YtbiclelojbfnbaaGreatDoor

namespace Go.Proofs.YtbiclelojbfnbaaGreatDoor
open Go.RowKit
set_option linter.unusedVariables false
set_option linter.unusedSimpArgs false
attribute [local go_sem ↓] Go.wp_at_zero Go.wp_at_succ

set_option maxRecDepth 100000 in
set_option maxHeartbeats 2000000 in
theorem testText_allof (hw : List UInt8) (p g n c : Nat) (ts : List (List UInt8)) (w : World) (hn : n = ts.length) (hne : ts ≠ []) (hlen : (groupTxt hw ts).length ≤ 4294967280)
    (hc : ∀ j, j < ts.length → ∃ ty y, w.cell? ⟨g, j, none⟩ = some (.iface ty y) ∧ TxtOk 264 w (.iface ty y) (ts.getD j [])) :
    Calls Tryz.prog 264 #[.iface 274 (.agg #[.string (strA hw), .int .i64 p, .slice (some ⟨g, 0, none⟩) n c])] w fun e w' => e = .returned (.string (strA (groupTxt hw ts))) ∧ Below w.heap.size w w' := by
  subst hn
  have n0 := Tryz.noNot
  have yy := Tryz.yesAllOf
  have hB0 : ∀ o, Below w.heap.size w (w.alloc o) := fun o => (Below.refl _ _).alloc (Nat.le_refl _) o
  have HB0 := hide hB0
  have HL := hide hlen
  have HC : Hid (∀ o j, j < ts.length → ∃ ty y, (w.alloc o).cell? ⟨g, j, none⟩ = some (.iface ty y) ∧ TxtOk 264 (w.alloc o) (.iface ty y) (ts.getD j [])) := fun o j hj => by
    obtain ⟨ty, y, h1, h2⟩ := hc j hj
    exact ⟨ty, y, by rw [World.cell?_alloc_past _ _ _ (cell_lt h1)]; exact h1, h2.below (hB0 o)⟩
  clear hB0 hlen hc
  go_enter Tryz.func264, Tryz.ntmps264
  go_wp2_with fail
  refine (groupText_any hw p g ts.length c ts _ rfl hne HL.out (HC.out _)).mono ?_
  rintro e w1 ⟨rfl, hB1⟩
  have HB1 := hide ((HB0.out _).trans (hB1.mono (by simp)))
  clear hB1
  go_wp2
  go_ret
  exact ⟨rfl, HB1.out⟩

set_option maxRecDepth 100000 in
set_option maxHeartbeats 2000000 in
theorem testText_anyof (hw : List UInt8) (p g n c : Nat) (ts : List (List UInt8)) (w : World) (hn : n = ts.length) (hne : ts ≠ []) (hlen : (groupTxt hw ts).length ≤ 4294967280)
    (hc : ∀ j, j < ts.length → ∃ ty y, w.cell? ⟨g, j, none⟩ = some (.iface ty y) ∧ TxtOk 264 w (.iface ty y) (ts.getD j [])) :
    Calls Tryz.prog 264 #[.iface 275 (.agg #[.string (strA hw), .int .i64 p, .slice (some ⟨g, 0, none⟩) n c])] w fun e w' => e = .returned (.string (strA (groupTxt hw ts))) ∧ Below w.heap.size w w' := by
  subst hn
  have n0 := Tryz.noNot
  have n1 := Tryz.noAllOf
  have yy := Tryz.yesAnyOf
  have hB0 : ∀ o, Below w.heap.size w (w.alloc o) := fun o => (Below.refl _ _).alloc (Nat.le_refl _) o
  have HB0 := hide hB0
  have HL := hide hlen
  have HC : Hid (∀ o j, j < ts.length → ∃ ty y, (w.alloc o).cell? ⟨g, j, none⟩ = some (.iface ty y) ∧ TxtOk 264 (w.alloc o) (.iface ty y) (ts.getD j [])) := fun o j hj => by
    obtain ⟨ty, y, h1, h2⟩ := hc j hj
    exact ⟨ty, y, by rw [World.cell?_alloc_past _ _ _ (cell_lt h1)]; exact h1, h2.below (hB0 o)⟩
  clear hB0 hlen hc
  go_enter Tryz.func264, Tryz.ntmps264
  go_wp2_with fail
  refine (groupText_any hw p g ts.length c ts _ rfl hne HL.out (HC.out _)).mono ?_
  rintro e w1 ⟨rfl, hB1⟩
  have HB1 := hide ((HB0.out _).trans (hB1.mono (by simp)))
  clear hB1
  go_wp2
  go_ret
  exact ⟨rfl, HB1.out⟩

theorem joinL_memlen {ts : List (List UInt8)} {hw : List UInt8} {t : List UInt8} (h : t ∈ ts) : t.length ≤ (groupTxt hw ts).length := by
  have := joinL_mem ts t h
  unfold groupTxt
  simp only [List.length_append]
  omega
/-- testText writes a test. -/
theorem testText_any {req : List (List UInt8)} : ∀ (n : Nat) (X : Nat → Prop) (x : TestT n) (w : World) (v : Value), TestV n X x w v → allT (WfT req) n x → Tab w → (testTxt n x).length ≤ 4294967280 →
    Calls Tryz.prog 264 #[v] w fun e w' => e = .returned (.string (strA (testTxt n x))) ∧ Below w.heap.size w w'
  | 0, X, x, w, v, h, ha, _, _ => ha.elim
  | n + 1, X, x, w, v, h, ha, ht, hlen => by
    obtain ⟨hw, hsub⟩ := ha
    have h : tnode X (TestV n) x w v := h
    have hlen : (testNode x.1 (x.2.map (testTxt n))).length ≤ 4294967280 := hlen
    have hok : ∀ a ∈ x.2, ∀ u, TestV n X a w u → (testTxt n a).length ≤ 4294967280 → ∃ ty y, u = .iface ty y ∧ TxtOk 264 w (.iface ty y) (testTxt n a) := fun a ha u hu hl => by
      obtain ⟨ty, y, rfl⟩ := (testV_tree n).form _ _ _ _ hu
      exact ⟨ty, y, rfl, fun W hW => testText_any n X a W _ ((testV_tree n).keep _ _ _ _ _ hu (fun k _ hk => hW.block k hk)) (hsub a ha) (ht.below hW) hl⟩
    show Calls Tryz.prog 264 #[v] w fun e w' => e = .returned (.string (strA (testNode x.1 (x.2.map (testTxt n))))) ∧ Below w.heap.size w w'
    have hrow : ∀ (hd : List UInt8) (u : Value), trX X (TestV n) x.2 w u → x.2 ≠ [] → (groupTxt hd (x.2.map (testTxt n))).length ≤ 4294967280 → ∃ g c, u = .slice (some ⟨g, 0, none⟩) x.2.length c ∧ ∀ j, j < (x.2.map (testTxt n)).length → ∃ ty y, w.cell? ⟨g, j, none⟩ = some (.iface ty y) ∧ TxtOk 264 w (.iface ty y) ((x.2.map (testTxt n)).getD j []) := fun hd u hu hne hl => by
      obtain ⟨g, c, rfl, hg, hx⟩ := hu
      refine ⟨g, c, rfl, fun j hj => ?_⟩
      rw [List.length_map] at hj
      obtain ⟨uj, hcj, hvj⟩ := hx j hj
      have hmem : x.2[j] ∈ x.2 := List.getElem_mem hj
      obtain ⟨ty, y, rfl, hty⟩ := hok _ hmem uj hvj (Nat.le_trans (joinL_memlen (hw := hd) (List.mem_map_of_mem hmem)) hl)
      refine ⟨ty, y, hcj, ?_⟩
      rw [List.getD_eq_getElem?_getD, List.getElem?_map, List.getElem?_eq_getElem hj]
      exact hty
    unfold tnode at h
    split at h
    · rename_i e
      obtain ⟨h2, rfl⟩ := h
      have et : testNode x.1 (x.2.map (testTxt n)) = kTrue := by unfold testNode; rw [e]; rfl
      rw [et]
      exact testText_truth kTrue _ true w
    · rename_i e
      obtain ⟨h2, rfl⟩ := h
      have et : testNode x.1 (x.2.map (testTxt n)) = kFalse := by unfold testNode; rw [e]; rfl
      rw [et]
      exact testText_truth kFalse _ false w
    · rename_i e
      obtain ⟨a, u, h2, rfl, hu⟩ := h
      have et : testNode x.1 (x.2.map (testTxt n)) = phraseL [kNot, testTxt n a] := by unfold testNode; rw [e, h2]; rfl
      rw [et] at hlen ⊢
      obtain ⟨ty, y, rfl, hty⟩ := hok a (by rw [h2]; simp) u hu (Nat.le_trans (phraseL_mem (ps := [kNot, testTxt n a]) (by simp)) hlen)
      exact testText_not kNot _ ty y _ w hty hlen
    · rename_i e
      obtain ⟨u, rfl, hu, hne⟩ := h
      have et : testNode x.1 (x.2.map (testTxt n)) = groupTxt kAllof (x.2.map (testTxt n)) := by unfold testNode; rw [e]; rfl
      rw [et] at hlen ⊢
      obtain ⟨g, c, rfl, hx⟩ := hrow kAllof u hu hne hlen
      exact testText_allof kAllof _ g _ c _ w (by simp) (by simpa using hne) hlen hx
    · rename_i e
      obtain ⟨u, rfl, hu, hne⟩ := h
      have et : testNode x.1 (x.2.map (testTxt n)) = groupTxt kAnyof (x.2.map (testTxt n)) := by unfold testNode; rw [e]; rfl
      rw [et] at hlen ⊢
      obtain ⟨g, c, rfl, hx⟩ := hrow kAnyof u hu hne hlen
      exact testText_anyof kAnyof _ g _ c _ w (by simp) (by simpa using hne) hlen hx
    · rename_i e
      obtain ⟨h2, u, rfl, hu⟩ := h
      have et : testNode x.1 (x.2.map (testTxt n)) = matchTxt kHeader x.1 := by unfold testNode; rw [e]; rfl
      rw [et] at hlen ⊢
      exact testText_header X kHeader x.1 u w hu (hw.tag (by omega) (by omega)).1 (hw.tag (by omega) (by omega)).2 hlen
    · rename_i e
      obtain ⟨h2, u, rfl, hu⟩ := h
      have et : testNode x.1 (x.2.map (testTxt n)) = matchTxt kEnvelope x.1 := by unfold testNode; rw [e]; rfl
      rw [et] at hlen ⊢
      exact testText_envelope X kEnvelope x.1 u w hu (hw.tag (by omega) (by omega)).1 (hw.tag (by omega) (by omega)).2 hlen
    · rename_i e
      obtain ⟨h2, u, rfl, hu⟩ := h
      have et : testNode x.1 (x.2.map (testTxt n)) = matchTxt kString x.1 := by unfold testNode; rw [e]; rfl
      rw [et] at hlen ⊢
      exact testText_string X kString x.1 u w hu (hw.tag (by omega) (by omega)).1 (hw.tag (by omega) (by omega)).2 hlen
    · rename_i e
      obtain ⟨h2, u, rfl, hu⟩ := h
      have et : testNode x.1 (x.2.map (testTxt n)) = phraseL [kExists, quotesL x.1.fr] := by unfold testNode; rw [e]; rfl
      rw [et] at hlen ⊢
      exact testText_exists X kExists _ _ u w hu hlen
    · rename_i h0 h1 h2 h3 h4 h5 h6 h7 h8
      obtain ⟨_, rfl⟩ := h
      have e : x.1.kind = 9 := by
        have a0 : x.1.kind ≠ 0 := h0
        have a1 : x.1.kind ≠ 1 := h1
        have a2 : x.1.kind ≠ 2 := h2
        have a3 : x.1.kind ≠ 3 := h3
        have a4 : x.1.kind ≠ 4 := h4
        have a5 : x.1.kind ≠ 5 := h5
        have a6 : x.1.kind ≠ 6 := h6
        have a7 : x.1.kind ≠ 7 := h7
        have a8 : x.1.kind ≠ 8 := h8
        have := hw.kind
        omega
      have et : testNode x.1 (x.2.map (testTxt n)) = phraseL [kSize, tagTextL x.1.tag [tOver, tUnder], itoaL x.1.num] := by unfold testNode; rw [e]; rfl
      rw [et] at hlen ⊢
      exact testText_size kSize _ _ _ w ht (hw.size e).2 hw.num hlen

end Go.Proofs.YtbiclelojbfnbaaGreatDoor

namespace Go.Proofs.YtbiclelojbfnbaaGreatDoor
open Go.RowKit
set_option linter.unusedVariables false
set_option linter.unusedSimpArgs false
attribute [local go_sem ↓] Go.wp_at_zero Go.wp_at_succ

/-- What commandText says of a value, so far in, in whatever world behind w. -/
def CTxtOk (w : World) (v : Value) (i t : List UInt8) : Prop :=
  ∀ W, Below w.heap.size w W → Calls Tryz.prog 114 #[v, .string (strA i)] W fun e w' => e = .returned (.string (strA t)) ∧ Below W.heap.size W w'
theorem CTxtOk.below {w w' : World} {v : Value} {i t : List UInt8} (h : CTxtOk w v i t) (hb : Below w.heap.size w w') : CTxtOk w' v i t :=
  fun W hW => h W (hb.trans (hW.mono hb.size))
def linesT (i : List UInt8) (ts : List (List UInt8)) : List UInt8 := ts.flatMap fun t => i ++ t ++ [10]
theorem linesL_T {α : Type} (txt : α → List UInt8 → List UInt8) (cs : List α) (i : List UInt8) : linesL txt cs i = linesT i (cs.map fun c => txt c i) := by
  unfold linesL linesT; rw [List.flatMap_map]
theorem linesT_take (i : List UInt8) (ts : List (List UInt8)) (k : Nat) : (linesT i (ts.take k)).length ≤ (linesT i ts).length := by
  have h : linesT i ts = linesT i (ts.take k) ++ linesT i (ts.drop k) := by
    unfold linesT; rw [← List.flatMap_append, List.take_append_drop]
  rw [h, List.length_append]; omega
theorem linesT_succ (i : List UInt8) (ts : List (List UInt8)) (k : Nat) (h : k < ts.length) : linesT i (ts.take (k + 1)) = linesT i (ts.take k) ++ (i ++ ts.getD k [] ++ [10]) := by
  unfold linesT
  rw [List.take_add_one, List.flatMap_append, List.getElem?_eq_getElem h, List.getD_eq_getElem?_getD, List.getElem?_eq_getElem h]
  simp
theorem linesT_ge (i : List UInt8) : ∀ ts : List (List UInt8), ts.length ≤ (linesT i ts).length
  | [] => by simp
  | t :: ts => by
    have := linesT_ge i ts
    unfold linesT at this ⊢
    rw [List.flatMap_cons]
    simp only [List.length_append, List.length_cons, List.length_nil] at this ⊢
    omega

set_option maxRecDepth 100000 in
set_option maxHeartbeats 1000000 in
theorem lines_nil (i : List UInt8) (w : World) : Calls Tryz.prog 78 #[.slice none 0 0, .string (strA i)] w fun e w' => e = .returned (.string (strA [])) ∧ Below w.heap.size w w' := by
  go_enter Tryz.func78, Tryz.ntmps78
  go_wp2_with fail
  refine wp_loop_rounds 1 ?_
  rw [rounds_succ]
  go_wp2
  go_ret
  exact ⟨rfl, Below.refl _ _⟩

set_option maxRecDepth 100000 in
set_option maxHeartbeats 4000000 in
theorem lines_some (i : List UInt8) (g c : Nat) (ts : List (List UInt8)) (w : World) (hne : ts ≠ []) (hlen : (linesT i ts).length ≤ 4294967280)
    (hc : ∀ j, j < ts.length → ∃ ty y, w.cell? ⟨g, j, none⟩ = some (.iface ty y) ∧ CTxtOk w (.iface ty y) i (ts.getD j [])) :
    Calls Tryz.prog 78 #[.slice (some ⟨g, 0, none⟩) ts.length c, .string (strA i)] w fun e w' => e = .returned (.string (strA (linesT i ts))) ∧ Below w.heap.size w w' := by
  have hgl : g < w.heap.size := by
    obtain ⟨ty, y, h, _⟩ := hc 0 (List.length_pos_iff.2 hne)
    exact cell_lt h
  have hxl : ts.length ≤ 4294967280 := Nat.le_trans (linesT_ge i ts) hlen
  have HC := hide hc
  have HL := hide hlen
  clear hc hlen
  go_enter Tryz.func78, Tryz.ntmps78
  go_wp2_with fail
  go_loopw [5, 7, 10] (fun v _ i' wr => ∃ (k : Nat) (t : List UInt8), k ≤ ts.length ∧ i' = .int .i64 k ∧ v = .string (strA t) ∧ t = linesT i (ts.take k) ∧ Below w.heap.size w wr) (fun _ _ i' _ => ts.length - (intOf i').toNat)
  case atStart => exact ⟨0, [], Nat.zero_le _, by go_num, rfl, rfl, Below.refl _ _⟩
  case round =>
    obtain ⟨k, t, hk, rfl, rfl, hte, hB⟩ := hrel
    have hBs := hB.size
    by_cases hlt : k < ts.length
    · obtain ⟨ty, y, hcy, hty⟩ := HC.out k hlt
      have hck : wr.cell? ⟨g, k, none⟩ = some (.iface ty y) := by
        rw [hB.cell (p := ⟨g, k, none⟩) hgl]
        exact hcy
      have HS := hide (linesT_succ i ts k hlt)
      have h1 := linesT_take i ts (k + 1)
      rw [HS.out, ← hte] at h1
      rw [← hte] at HS
      have h2 := Nat.le_trans h1 HL.out
      clear h1 hte
      generalize ts.getD k [] = x at HS hty h2
      have hl : t.length + (i.length + x.length + 1) ≤ 4294967280 := by
        simp only [List.length_append, List.length_cons, List.length_nil] at h2
        omega
      clear h2
      have HTY := hide hty
      have HB := hide hB
      have hs1 := strA_size t
      have hs2 := strA_size i
      have hs3 := strA_size x
      have hs4 : (strA i ++ strA x).size = i.length + x.length := by rw [strA_app, strA_size, List.length_append]
      have hs5 : (strA i ++ strA x ++ (⟨#[10]⟩ : ByteArray)).size = i.length + x.length + 1 := by
        show (strA i ++ strA x ++ strA [10]).size = _
        rw [strA_app, strA_app, strA_size]
        simp only [List.length_append, List.length_cons, List.length_nil]
      have HAP : Hid (strA t ++ (strA i ++ strA x ++ (⟨#[10]⟩ : ByteArray)) = strA (t ++ (i ++ x ++ [10]))) := by
        show strA t ++ (strA i ++ strA x ++ strA [10]) = _
        rw [strA_app, strA_app, strA_app]
      clear hty hB hcy
      go_wp2_with fail
      refine (HTY.out wr HB.out).mono ?_
      rintro e w1 ⟨rfl, hB1⟩
      have HB1 := hide (HB.out.trans (hB1.mono hBs))
      clear hB1
      go_wp2
      go_roundw
      case rel => exact ⟨k + 1, t ++ (i ++ x ++ [10]), by omega, by go_num, by rw [HAP.out], HS.out.symm, HB1.out⟩
      case measure => simp [intOf]; omega
    · have hk' : k = ts.length := by omega
      subst hk'
      rw [List.take_length] at hte
      subst hte
      have HB := hide hB
      clear hB
      go_wp2
      go_ret
      exact ⟨rfl, HB.out⟩

end Go.Proofs.YtbiclelojbfnbaaGreatDoor

namespace Go.Proofs.YtbiclelojbfnbaaGreatDoor
open Go.RowKit
set_option linter.unusedVariables false
set_option linter.unusedSimpArgs false

/-- What lines says of a list, so far in, in whatever world behind w. -/
def LTxtOk (w : World) (v : Value) (i t : List UInt8) : Prop :=
  ∀ W, Below w.heap.size w W → Calls Tryz.prog 78 #[v, .string (strA i)] W fun e w' => e = .returned (.string (strA t)) ∧ Below W.heap.size W w'
theorem LTxtOk.below {w w' : World} {v : Value} {i t : List UInt8} (h : LTxtOk w v i t) (hb : Below w.heap.size w w') : LTxtOk w' v i t :=
  fun W hW => h W (hb.trans (hW.mono hb.size))
def armWord (k : Nat) (word : List UInt8) : List UInt8 := if k = 0 then word else kElsifB
theorem armsTxt_succ (i : List UInt8) : ∀ (al : List (List UInt8 × List UInt8)) (word : List UInt8) (k : Nat) (h : k < al.length), armsTxt i word (al.take (k + 1)) = armsTxt i word (al.take k) ++ armTxt (armWord k word) i (al[k]).1 (al[k]).2
  | [], word, k, h => by cases h
  | a :: r, word, 0, h => by simp [armsTxt, armWord]
  | a :: r, word, k + 1, h => by
    have ih := armsTxt_succ i r kElsifB k (by simpa using h)
    rw [List.take_succ_cons, List.take_succ_cons]
    show armTxt word i a.1 a.2 ++ armsTxt i kElsifB (r.take (k + 1)) = (armTxt word i a.1 a.2 ++ armsTxt i kElsifB (r.take k)) ++ _
    rw [ih, List.append_assoc]
    have e : armWord (k + 1) word = armWord k kElsifB := by unfold armWord; simp
    rw [e]
    rfl
theorem armsTxt_app (i : List UInt8) : ∀ (al bs : List (List UInt8 × List UInt8)) (word : List UInt8), (armsTxt i word al).length ≤ (armsTxt i word (al ++ bs)).length
  | [], bs, word => by simp [armsTxt]
  | a :: r, bs, word => by
    have := armsTxt_app i r bs kElsifB
    show (armTxt word i a.1 a.2 ++ armsTxt i kElsifB r).length ≤ (armTxt word i a.1 a.2 ++ armsTxt i kElsifB (r ++ bs)).length
    rw [List.length_append, List.length_append]
    omega
theorem armsTxt_take (i word : List UInt8) (al : List (List UInt8 × List UInt8)) (k : Nat) : (armsTxt i word (al.take k)).length ≤ (armsTxt i word al).length := by
  have := armsTxt_app i (al.take k) (al.drop k) word
  rw [List.take_append_drop] at this
  exact this
theorem armsTxt_ge (i : List UInt8) : ∀ (al : List (List UInt8 × List UInt8)) (word : List UInt8), al.length ≤ (armsTxt i word al).length
  | [], word => by simp
  | a :: r, word => by
    have := armsTxt_ge i r kElsifB
    have h2 : 1 ≤ (armTxt word i a.1 a.2).length := by
      unfold armTxt
      rw [List.length_append, List.length_append]
      have := phraseL_mem (ps := [word, a.1, openB]) (p := openB) (by simp)
      have : openB.length = 2 := rfl
      omega
    show (a :: r).length ≤ (armTxt word i a.1 a.2 ++ armsTxt i kElsifB r).length
    rw [List.length_append, List.length_cons]
    omega

set_option maxRecDepth 100000 in
set_option maxHeartbeats 4000000 in
theorem choiceText_any (i : List UInt8) (p g c : Nat) (els : Bool) (ea : Option Addr) (en ec : Nat) (al : List (List UInt8 × List UInt8)) (eb : List UInt8) (w : World) (hne : al ≠ [])
    (hc : ∀ j (hj : j < al.length), ∃ ty y a n c', w.cell? ⟨g, 2 * j, none⟩ = some (.iface ty y) ∧ w.cell? ⟨g, 2 * j + 1, none⟩ = some (.slice a n c') ∧ TxtOk 264 w (.iface ty y) (al[j]).1 ∧ LTxtOk w (.slice a n c') (i ++ [32, 32]) (al[j]).2)
    (he : els = true → LTxtOk w (.slice ea en ec) (i ++ [32, 32]) eb)
    (hlen : (armsTxt i kIf al ++ (if els then elseB ++ eb ++ i else []) ++ [125]).length ≤ 4294967280) :
    Calls Tryz.prog 180 #[.agg #[.string (strA kIf), .int .i64 p, .slice (some ⟨g, 0, none⟩) al.length c, .bool els, .slice ea en ec], .string (strA i)] w fun e w' => e = .returned (.string (strA (armsTxt i kIf al ++ (if els then elseB ++ eb ++ i else []) ++ [125]))) ∧ Below w.heap.size w w' := by
  have hgl : g < w.heap.size := by
    obtain ⟨ty, y, a, n, c', h, _⟩ := hc 0 (List.length_pos_iff.2 hne)
    exact cell_lt h
  have hl1 : (armsTxt i kIf al).length ≤ 4294967280 := by rw [List.length_append, List.length_append] at hlen; omega
  have hxl : al.length ≤ 4294967280 := Nat.le_trans (armsTxt_ge i al kIf) hl1
  have HC := hide hc
  have HE := hide he
  have HL := hide hlen
  clear hc he hlen
  go_enter Tryz.func180, Tryz.ntmps180
  go_wp2_with fail
  go_quiet (fail)
  go_wp2_with fail
  refine gen_world (P := fun W => Code.wp _ _ _ _ W) (w := w) (B := w.heap.size) (o := .cells #[.string (strA kIf), .int .i64 p, .slice (some ⟨g, 0, none⟩) al.length c, .bool els, .slice ea en ec] 310) (by have h := (Below.refl w.heap.size w).alloc (Nat.le_refl _) (.cells #[.string (strA kIf), .int .i64 p, .slice (some ⟨g, 0, none⟩) al.length c, .bool els, .slice ea en ec] 310); exact ⟨h.os, h.tape, h.output, h.size, h.block⟩) (blk_new w _) ?_
  intro W0 hW0B hW0b
  have HW0B := hide hW0B
  have HW0b := hide hW0b
  clear hW0B hW0b
  go_loopw [5, 6, 8, 15] (fun v v6 _ i' wr => ∃ (k : Nat) (t : List UInt8), k ≤ al.length ∧ i' = .int .i64 k ∧ v = .string (strA t) ∧ v6 = .string (strA (armWord k kIf)) ∧ t = armsTxt i kIf (al.take k) ∧ wr.heap[w.heap.size]? = some (.cells #[.string (strA kIf), .int .i64 p, .slice (some ⟨g, 0, none⟩) al.length c, .bool els, .slice ea en ec] 310) ∧ Below w.heap.size w wr) (fun _ _ _ i' _ => al.length - (intOf i').toNat)
  case atStart => exact ⟨0, [], Nat.zero_le _, by go_num, rfl, rfl, rfl, HW0b.out, HW0B.out⟩
  case round =>
    obtain ⟨k, t, hk, rfl, rfl, rfl, hte, hM, hB⟩ := hrel
    have hBs := hB.size
    clear HW0B HW0b
    by_cases hlt : k < al.length
    · obtain ⟨ty, y, a, n, c', hcy, hcb, hty, hln⟩ := HC.out k hlt
      have c0 : wr.cell? ⟨g, 2 * k, none⟩ = some (.iface ty y) := by rw [hB.cell (p := ⟨g, 2 * k, none⟩) hgl]; exact hcy
      have c1 : wr.cell? ⟨g, 2 * k + 1, none⟩ = some (.slice a n c') := by rw [hB.cell (p := ⟨g, 2 * k + 1, none⟩) hgl]; exact hcb
      have c0' : wr.cell? ⟨g, k * 2, none⟩ = some (.iface ty y) := by rw [Nat.mul_comm]; exact c0
      have c1' : wr.cell? ⟨g, k * 2 + 1, none⟩ = some (.slice a n c') := by rw [Nat.mul_comm]; exact c1
      have HS := hide (armsTxt_succ i al kIf k hlt)
      have h1 := armsTxt_take i kIf al (k + 1)
      rw [HS.out, ← hte] at h1
      rw [← hte] at HS
      have h2 := Nat.le_trans h1 hl1
      clear h1 hte
      generalize (al[k]).1 = x at HS hty h2
      generalize (al[k]).2 = b at HS hln h2
      generalize hwd : armWord k kIf = wd at HS h2
      have hwd2 : armWord (k + 1) kIf = kElsifB := by unfold armWord; rw [if_neg (by omega)]
      have HWD2 := hide hwd2
      clear hwd2 hwd
      unfold armTxt at HS h2
      simp only [List.length_append] at h2
      obtain ⟨ph, hph⟩ : ∃ ph, phraseL [wd, x, openB] = ph := ⟨_, rfl⟩
      rw [hph] at HS h2
      have HPL : Hid ((phraseL [wd, x, openB]).length ≤ 4294967280) := by show (phraseL [wd, x, openB]).length ≤ _; rw [hph]; omega
      have HPH := hide hph
      have HTY := hide hty
      have HLN := hide hln
      have HM := hide hM
      have HB := hide hB
      have hsA : ∀ x : List UInt8, (strA x).size = x.length := strA_size
      have hap1 : strA i ++ (⟨#[32, 32]⟩ : ByteArray) = strA (i ++ [32, 32]) := strA_app i [32, 32]
      have hap2 := strA_app ph b
      have hap3 : strA (ph ++ b) ++ strA i = strA (ph ++ (b ++ i)) := by rw [strA_app, List.append_assoc]
      have hap4 := strA_app t (ph ++ (b ++ i))
      have q1 : ¬ 9223372036854775807 < i.length + 2 := by omega
      have q2 : ¬ 9223372036854775807 < ph.length + b.length := by omega
      have q3 : ¬ 9223372036854775807 < ph.length + b.length + i.length := by omega
      have q4 : ¬ 9223372036854775807 < t.length + (ph.length + (b.length + i.length)) := by omega
      clear hty hln hM hB hcy hcb hph
      go_wp2_with fail
      refine gen_world (P := fun W => Code.wp _ _ _ _ W) (w := wr) (B := wr.heap.size) (o := .cells #[.iface ty y, .slice a n c'] 369) ((Below.refl _ _).alloc (Nat.le_refl _) _) (blk_new _ _) ?_
      intro W hWB hWb
      have e0 : W.cell? ⟨wr.heap.size, 0, none⟩ = some (.iface ty y) := blk_cell hWb 0
      have e1 : W.cell? ⟨wr.heap.size, 1, none⟩ = some (.slice a n c') := blk_cell hWb 1
      have HWW := hide (HB.out.trans (hWB.mono hBs))
      have HMW := hide (blk_below HM.out hWB)
      have HWB := hide hWB
      have HWb := hide hWb
      have hWs := hWB.size
      have hWl := blk_lt hWb
      clear hWB hWb
      go_region_held3 (fun w' => w'.cell? ⟨wr.heap.size, 0, none⟩ = some (.iface ty y) ∧ w'.cell? ⟨wr.heap.size, 1, none⟩ = some (.slice a n c')) (first | go_keep | exact ⟨blk_cell (blk_alloc HW1.out) 0, blk_cell (blk_alloc HW1.out) 1⟩) (first
        | (go_at_call 181; refine (phrase_any [wd, x, openB] _ 3 3 _ (txt_alloc w1 [wd, x, openB] _ _ rfl) rfl (by simp) HPL.out).mono ?_; rintro e w3 ⟨rfl, rfl⟩; rw [HPH.out]; skip)
        | (go_at_call 264; refine (HTY.out W.drew HWW.out.drew).mono ?_; rintro e w1 ⟨rfl, hB1⟩; have HB1 := hide (HWW.out.drew.trans (hB1.mono (Nat.le_trans hBs hWs))); have HW1 := hide (blk_below (w := W.drew) HWb.out hB1); have HM1 := hide (blk_below (w := W.drew) HMW.out hB1); have d0 : w1.cell? ⟨wr.heap.size, 0, none⟩ = some (.iface ty y) := blk_cell HW1.out 0; have d1 : w1.cell? ⟨wr.heap.size, 1, none⟩ = some (.slice a n c') := blk_cell HW1.out 1; have h1s := HB1.out.size; have h1l := blk_lt HW1.out; clear hB1; skip)
        | (go_at_call 78; refine (HLN.out (w1.alloc (.cells #[.string (strA wd), .string (strA x), .string ⟨#[123, 10]⟩] 9)) (below_alloc HB1.out (Nat.le_refl _) _)).mono ?_; rintro e w2 ⟨rfl, hB2⟩; have HB2 := hide ((below_alloc HB1.out (Nat.le_refl _) (.cells #[.string (strA wd), .string (strA x), .string ⟨#[123, 10]⟩] 9)).trans (hB2.mono (by simp; omega))); have HM2 := hide (blk_below (blk_alloc HM1.out) hB2); have HWW2 := hide (blk_below (blk_alloc HW1.out) hB2); have f0 : w2.cell? ⟨wr.heap.size, 0, none⟩ = some (.iface ty y) := blk_cell HWW2.out 0; have f1 : w2.cell? ⟨wr.heap.size, 1, none⟩ = some (.slice a n c') := blk_cell HWW2.out 1; clear hB2; skip))
      all_goals go_wp2
      all_goals go_roundw
      case rel => exact ⟨k + 1, t ++ (ph ++ (b ++ i)), by omega, by go_num, rfl, by rw [HWD2.out]; rfl, by rw [HS.out, List.append_assoc ph b i], HM2.out, HB2.out⟩
      case measure => simp [intOf]; omega
    · have hk' : k = al.length := by omega
      subst hk'
      rw [List.take_length] at hte
      have d3 : wr.cell? ⟨w.heap.size, 3, none⟩ = some (.bool els) := blk_cell hM 3
      have HM := hide hM
      have HB := hide hB
      have HTE := hide hte
      have htl : t.length ≤ 4294967280 := by rw [hte]; exact hl1
      have d4 : wr.cell? ⟨w.heap.size, 4, none⟩ = some (.slice ea en ec) := blk_cell hM 4
      have hsA : ∀ x : List UInt8, (strA x).size = x.length := strA_size
      clear hM hB hte
      cases els
      · have hap5 : strA t ++ (⟨#[125]⟩ : ByteArray) = strA (t ++ [125]) := strA_app t [125]
        have q5 : ¬ 9223372036854775807 < t.length + 1 := by omega
        go_wp2
        go_ret
        refine ⟨?_, HB.out⟩
        rw [HTE.out]
        simp
      · have HL2 := HL.out
        simp only [if_true, List.length_append, List.length_cons, List.length_nil, show elseB.length = 9 from rfl] at HL2
        rw [← HTE.out] at HL2
        have HEE := hide (HE.out rfl)
        have hap1 : strA i ++ (⟨#[32, 32]⟩ : ByteArray) = strA (i ++ [32, 32]) := strA_app i [32, 32]
        have q1 : ¬ 9223372036854775807 < i.length + 2 := by omega
        clear hl1
        go_wp2_with fail
        refine (HEE.out _ HB.out).mono ?_
        rintro e w1 ⟨rfl, hB1⟩
        have HB1 := hide (HB.out.trans (hB1.mono hBs))
        have hap2 : (⟨#[125, 32, 101, 108, 115, 101, 32, 123, 10]⟩ : ByteArray) ++ strA eb = strA (elseB ++ eb) := strA_app elseB eb
        have hap3 : strA (elseB ++ eb) ++ strA i = strA (elseB ++ (eb ++ i)) := by rw [strA_app, List.append_assoc]
        have hap4 := strA_app t (elseB ++ (eb ++ i))
        have hap5 : strA (t ++ (elseB ++ (eb ++ i))) ++ (⟨#[125]⟩ : ByteArray) = strA (t ++ (elseB ++ (eb ++ i)) ++ [125]) := strA_app _ [125]
        have hsE : elseB.length = 9 := rfl
        have q2 : ¬ 9223372036854775807 < 9 + eb.length := by omega
        have q3 : ¬ 9223372036854775807 < 9 + eb.length + i.length := by omega
        have q4 : ¬ 9223372036854775807 < t.length + (9 + (eb.length + i.length)) := by omega
        have q5 : ¬ 9223372036854775807 < t.length + (9 + (eb.length + i.length)) + 1 := by omega
        clear hB1 HL2
        go_wp2
        go_ret
        refine ⟨?_, HB1.out⟩
        rw [HTE.out]
        simp

end Go.Proofs.YtbiclelojbfnbaaGreatDoor

namespace Go.Proofs.YtbiclelojbfnbaaGreatDoor
open Go.RowKit
set_option linter.unusedVariables false
set_option linter.unusedSimpArgs false
attribute [local go_sem ↓] Go.wp_at_zero Go.wp_at_succ

set_option maxRecDepth 100000 in
set_option maxHeartbeats 2000000 in
theorem cmdText_discard (hw i : List UInt8) (p : Nat) (w : World) (hl : hw.length ≤ 100) :
    Calls Tryz.prog 114 #[.iface 336 (.agg #[.string (strA hw), .int .i64 p]), .string (strA i)] w fun e w' => e = .returned (.string (strA (hw ++ [59]))) ∧ Below w.heap.size w w' := by
  have n0 := Tryz.noIf
  have n1 := Tryz.noSet
  have n2 := Tryz.noAct
  have mN := Tryz.nameDiscard
  have hsA : ∀ x : List UInt8, (strA x).size = x.length := strA_size
  have hap1 : strA hw ++ (⟨#[59]⟩ : ByteArray) = strA (hw ++ [59]) := strA_app hw [59]
  have q1 : ¬ 9223372036854775807 < hw.length + 1 := by omega
  go_enter Tryz.func114, Tryz.ntmps114
  go_wp2
  go_ret
  exact ⟨rfl, (Below.refl _ _).alloc (Nat.le_refl _) _⟩

set_option maxRecDepth 100000 in
set_option maxHeartbeats 2000000 in
theorem cmdText_stop (hw i : List UInt8) (p : Nat) (w : World) (hl : hw.length ≤ 100) :
    Calls Tryz.prog 114 #[.iface 337 (.agg #[.string (strA hw), .int .i64 p]), .string (strA i)] w fun e w' => e = .returned (.string (strA (hw ++ [59]))) ∧ Below w.heap.size w w' := by
  have n0 := Tryz.noIf
  have n1 := Tryz.noSet
  have n2 := Tryz.noAct
  have mN := Tryz.nameStop
  have hsA : ∀ x : List UInt8, (strA x).size = x.length := strA_size
  have hap1 : strA hw ++ (⟨#[59]⟩ : ByteArray) = strA (hw ++ [59]) := strA_app hw [59]
  have q1 : ¬ 9223372036854775807 < hw.length + 1 := by omega
  go_enter Tryz.func114, Tryz.ntmps114
  go_wp2
  go_ret
  exact ⟨rfl, (Below.refl _ _).alloc (Nat.le_refl _) _⟩

set_option maxRecDepth 100000 in
set_option maxHeartbeats 2000000 in
theorem cmdText_keep (hw i x : List UInt8) (p : Nat) (w : World) (hl : hw.length ≤ 100) :
    Calls Tryz.prog 114 #[.iface 318 (.agg #[.string (strA hw), .int .i64 p, .int .i64 1, .string (strA x)]), .string (strA i)] w fun e w' => e = .returned (.string (strA (hw ++ [59]))) ∧ Below w.heap.size w w' := by
  have n0 := Tryz.noIf
  have n1 := Tryz.noSet
  have yy := Tryz.yesAct
  have mN := Tryz.nameAct
  have hsA : ∀ x : List UInt8, (strA x).size = x.length := strA_size
  have hap1 : strA hw ++ (⟨#[59]⟩ : ByteArray) = strA (hw ++ [59]) := strA_app hw [59]
  have q1 : ¬ 9223372036854775807 < hw.length + 1 := by omega
  go_enter Tryz.func114, Tryz.ntmps114
  go_wp2
  go_ret
  exact ⟨rfl, ((Below.refl _ _).alloc (Nat.le_refl _) _).alloc (by simp) _⟩

set_option maxRecDepth 100000 in
set_option maxHeartbeats 2000000 in
theorem cmdText_act (hw i x : List UInt8) (p kd : Nat) (w : World) (hk : 2 ≤ kd) (hk4 : kd ≤ 4) (hl : (phraseL [hw, quotedL x]).length ≤ 4294967200) :
    Calls Tryz.prog 114 #[.iface 318 (.agg #[.string (strA hw), .int .i64 p, .int .i64 kd, .string (strA x)]), .string (strA i)] w fun e w' => e = .returned (.string (strA (phraseL [hw, quotedL x] ++ [59]))) ∧ Below w.heap.size w w' := by
  have n0 := Tryz.noIf
  have n1 := Tryz.noSet
  have yy := Tryz.yesAct
  have hkn : ((kd : Int) != 1) = true := by simp; omega
  have HL : Hid ((phraseL [hw, quotedL x]).length ≤ 4294967280) := Nat.le_trans hl (by omega)
  have hxl : (strA x).size ≤ 4294967280 := by
    rw [strA_size]
    have h1 := phraseL_mem (ps := [hw, quotedL x]) (p := quotedL x) (by simp)
    have h2 := (quotesL_mem (xs := [x]) (x := x) (by simp)).1
    have h3 : quotesL [x] = quotedL x := rfl
    rw [h3] at h2
    omega
  obtain ⟨ph, hph⟩ : ∃ ph, phraseL [hw, quotedL x] = ph := ⟨_, rfl⟩
  rw [hph] at hl ⊢
  have HPH := hide hph
  have hsA : ∀ x : List UInt8, (strA x).size = x.length := strA_size
  have hap1 : strA ph ++ (⟨#[59]⟩ : ByteArray) = strA (ph ++ [59]) := strA_app ph [59]
  have q1 : ¬ 9223372036854775807 < ph.length + 1 := by omega
  have HXL := hide hxl
  clear hph hl hxl
  go_enter Tryz.func114, Tryz.ntmps114
  go_wp2_with fail
  refine gen_world (P := fun W => Code.wp _ _ _ _ W) (w := w) (B := w.heap.size) (o := .cells #[.string (strA hw), .int .i64 p, .int .i64 kd, .string (strA x)] 318) ((Below.refl _ _).alloc (Nat.le_refl _) _) (blk_new _ _) ?_
  intro W hWB hWb
  have c0 : W.cell? ⟨w.heap.size, 0, none⟩ = some (.string (strA hw)) := blk_cell hWb 0
  have c3 : W.cell? ⟨w.heap.size, 3, none⟩ = some (.string (strA x)) := blk_cell hWb 3
  have HWB := hide hWB
  have HWb := hide hWb
  have hWs := hWB.size
  have hWl := blk_lt hWb
  clear hWB hWb
  go_region_held3 (fun w' => w'.cell? ⟨w.heap.size, 0, none⟩ = some (.string (strA hw)) ∧ w'.cell? ⟨w.heap.size, 3, none⟩ = some (.string (strA x))) (first | go_keep | exact ⟨blk_cell (blk_alloc HW1.out) 0, blk_cell (blk_alloc HW1.out) 3⟩) (first
    | (go_at_call 181; refine (phrase_any [hw, quotedL x] _ 2 2 _ (txt_alloc w1 [hw, quotedL x] _ _ rfl) rfl (by simp) HL.out).mono ?_; rintro e w3 ⟨rfl, rfl⟩; rw [HPH.out]; skip)
    | (go_at_call 112; refine (quoted_any (strA x) W.drew HXL.out).mono ?_; rintro e w1 ⟨rfl, hB1⟩; rw [show (strA x).data.toList = x from rfl]; have HB1 := hide (HWB.out.drew.trans (hB1.mono hWs)); have HW1 := hide (blk_below (w := W.drew) HWb.out hB1); have d0 : w1.cell? ⟨w.heap.size, 0, none⟩ = some (.string (strA hw)) := blk_cell HW1.out 0; have d3 : w1.cell? ⟨w.heap.size, 3, none⟩ = some (.string (strA x)) := blk_cell HW1.out 3; have h1s := HB1.out.size; clear hB1; skip))
  all_goals go_wp2
  all_goals go_ret
  all_goals exact ⟨rfl, below_alloc HB1.out (Nat.le_refl _) _⟩

set_option maxRecDepth 100000 in
set_option maxHeartbeats 4000000 in
theorem cmdText_set (hw i var x : List UInt8) (p tag : Nat) (w : World) (ht : tag ≤ 3) (hl : (phraseL [hw, tagTextL tag [tLower, tUpper, tLength], quotedL var, quotedL x]).length ≤ 4294967200) :
    Calls Tryz.prog 114 #[.iface 313 (.agg #[.string (strA hw), .int .i64 p, .int .i64 tag, .string (strA var), .string (strA x)]), .string (strA i)] w fun e w' => e = .returned (.string (strA (phraseL [hw, tagTextL tag [tLower, tUpper, tLength], quotedL var, quotedL x] ++ [59]))) ∧ Below w.heap.size w w' := by
  have n0 := Tryz.noIf
  have yy := Tryz.yesSet
  have hq : ∀ z, quotedL z ∈ [hw, tagTextL tag [tLower, tUpper, tLength], quotedL var, quotedL x] → (strA z).size ≤ 4294967280 := fun z hz => by
    rw [strA_size]
    have h1 := phraseL_mem hz
    have h2 := (quotesL_mem (xs := [z]) (x := z) (by simp)).1
    have h3 : quotesL [z] = quotedL z := rfl
    rw [h3] at h2
    omega
  have HXV := hide (hq var (by simp))
  have HXL := hide (hq x (by simp))
  have HL : Hid ((phraseL [hw, tagTextL tag [tLower, tUpper, tLength], quotedL var, quotedL x]).length ≤ 4294967280) := Nat.le_trans hl (by omega)
  obtain ⟨tt, htt⟩ : ∃ tt, tagTextL tag [tLower, tUpper, tLength] = tt := ⟨_, rfl⟩
  rw [htt] at hl HL ⊢
  obtain ⟨ph, hph⟩ : ∃ ph, phraseL [hw, tt, quotedL var, quotedL x] = ph := ⟨_, rfl⟩
  rw [hph] at hl ⊢
  have HPH := hide hph
  have HTT := hide htt
  have hsA : ∀ x : List UInt8, (strA x).size = x.length := strA_size
  have hap1 : strA ph ++ (⟨#[59]⟩ : ByteArray) = strA (ph ++ [59]) := strA_app ph [59]
  have q1 : ¬ 9223372036854775807 < ph.length + 1 := by omega
  clear hph hl htt hq
  go_enter Tryz.func114, Tryz.ntmps114
  go_wp2_with fail
  refine gen_world (P := fun W => Code.wp _ _ _ _ W) (w := w) (B := w.heap.size) (o := .cells #[.string (strA hw), .int .i64 p, .int .i64 tag, .string (strA var), .string (strA x)] 313) ((Below.refl _ _).alloc (Nat.le_refl _) _) (blk_new _ _) ?_
  intro W hWB hWb
  have c0 : W.cell? ⟨w.heap.size, 0, none⟩ = some (.string (strA hw)) := blk_cell hWb 0
  have c2 : W.cell? ⟨w.heap.size, 2, none⟩ = some (.int .i64 tag) := blk_cell hWb 2
  have c3 : W.cell? ⟨w.heap.size, 3, none⟩ = some (.string (strA var)) := blk_cell hWb 3
  have c4 : W.cell? ⟨w.heap.size, 4, none⟩ = some (.string (strA x)) := blk_cell hWb 4
  have HWB := hide hWB
  have HWb := hide hWb
  have hWs := hWB.size
  have hWl := blk_lt hWb
  clear hWB hWb
  go_region_held3 (fun w' => w'.cell? ⟨w.heap.size, 0, none⟩ = some (.string (strA hw)) ∧ w'.cell? ⟨w.heap.size, 2, none⟩ = some (.int .i64 tag) ∧ w'.cell? ⟨w.heap.size, 3, none⟩ = some (.string (strA var)) ∧ w'.cell? ⟨w.heap.size, 4, none⟩ = some (.string (strA x))) (first | go_keep | exact ⟨blk_cell (blk_alloc HW2.out) 0, blk_cell (blk_alloc HW2.out) 2, blk_cell (blk_alloc HW2.out) 3, blk_cell (blk_alloc HW2.out) 4⟩ | exact ⟨blk_cell (blk_alloc HWb.out) 0, blk_cell (blk_alloc HWb.out) 2, blk_cell (blk_alloc HWb.out) 3, blk_cell (blk_alloc HWb.out) 4⟩) (first
    | (go_at_call 181; refine (phrase_any [hw, tt, quotedL var, quotedL x] _ 4 4 _ (txt_alloc w2 [hw, tt, quotedL var, quotedL x] _ _ rfl) rfl (by simp) HL.out).mono ?_; rintro e w3 ⟨rfl, rfl⟩; rw [HPH.out]; skip)
    | (go_at_call 183; refine (turnTags_any _).mono ?_; rintro e w' ⟨rfl, rfl⟩; skip)
    | (go_at_call 182; refine (tagText_any tag _ 3 3 [tLower, tUpper, tLength] _ ((txt_newAt (w := W) (g := W.heap.size) [tLower, tUpper, tLength] 9 rfl).drew) rfl (by decide) ht).mono ?_; rintro e w' ⟨rfl, rfl⟩; rw [HTT.out]; skip)
    | (have gg := HB1; go_at_call 112; refine (quoted_any (strA x) w1 HXL.out).mono ?_; rintro e w2 ⟨rfl, hB2⟩; rw [show (strA x).data.toList = x from rfl]; have HB2 := hide (HB1.out.trans (hB2.mono h1s)); have HW2 := hide (blk_below HW1.out hB2); have f0 : w2.cell? ⟨w.heap.size, 0, none⟩ = some (.string (strA hw)) := blk_cell HW2.out 0; have f2 : w2.cell? ⟨w.heap.size, 2, none⟩ = some (.int .i64 tag) := blk_cell HW2.out 2; have f3 : w2.cell? ⟨w.heap.size, 3, none⟩ = some (.string (strA var)) := blk_cell HW2.out 3; have f4 : w2.cell? ⟨w.heap.size, 4, none⟩ = some (.string (strA x)) := blk_cell HW2.out 4; clear hB2; skip)
    | (go_at_call 112; refine (quoted_any (strA var) (W.alloc (.cells (tcells [tLower, tUpper, tLength]).toArray 9)).drew HXV.out).mono ?_; rintro e w1 ⟨rfl, hB1⟩; rw [show (strA var).data.toList = var from rfl]; have HB1 := hide (((below_alloc HWB.out (Nat.le_refl _) (.cells (tcells [tLower, tUpper, tLength]).toArray 9)).drew).trans (hB1.mono (by simp; omega))); have HW1 := hide (blk_below (w := (W.alloc (.cells (tcells [tLower, tUpper, tLength]).toArray 9)).drew) (blk_alloc HWb.out) hB1); have d0 : w1.cell? ⟨w.heap.size, 0, none⟩ = some (.string (strA hw)) := blk_cell HW1.out 0; have d2 : w1.cell? ⟨w.heap.size, 2, none⟩ = some (.int .i64 tag) := blk_cell HW1.out 2; have d3 : w1.cell? ⟨w.heap.size, 3, none⟩ = some (.string (strA var)) := blk_cell HW1.out 3; have d4 : w1.cell? ⟨w.heap.size, 4, none⟩ = some (.string (strA x)) := blk_cell HW1.out 4; have h1s := HB1.out.size; clear hB1; skip))
  all_goals go_wp2
  all_goals go_ret
  all_goals exact ⟨rfl, below_alloc HB2.out (Nat.le_refl _) _⟩

set_option maxRecDepth 100000 in
set_option maxHeartbeats 2000000 in
theorem cmdText_if (hw i t : List UInt8) (p : Nat) (g n c : Nat) (els : Bool) (ea : Option Addr) (en ec : Nat) (w : World)
    (hc : ∀ W, Below w.heap.size w W → Calls Tryz.prog 180 #[.agg #[.string (strA hw), .int .i64 p, .slice (some ⟨g, 0, none⟩) n c, .bool els, .slice ea en ec], .string (strA i)] W fun e w' => e = .returned (.string (strA t)) ∧ Below W.heap.size W w') :
    Calls Tryz.prog 114 #[.iface 310 (.agg #[.string (strA hw), .int .i64 p, .slice (some ⟨g, 0, none⟩) n c, .bool els, .slice ea en ec]), .string (strA i)] w fun e w' => e = .returned (.string (strA t)) ∧ Below w.heap.size w w' := by
  have yy := Tryz.yesIf
  have HC := hide hc
  have hB0 : ∀ o, Below w.heap.size w (w.alloc o) := fun o => (Below.refl _ _).alloc (Nat.le_refl _) o
  have HB0 := hide hB0
  clear hc hB0
  go_enter Tryz.func114, Tryz.ntmps114
  go_wp2_with fail
  refine (HC.out _ (HB0.out _)).mono ?_
  rintro e w1 ⟨rfl, hB1⟩
  have HB1 := hide ((HB0.out _).trans (hB1.mono (by simp)))
  clear hB1
  go_wp2
  go_ret
  exact ⟨rfl, HB1.out⟩

end Go.Proofs.YtbiclelojbfnbaaGreatDoor

