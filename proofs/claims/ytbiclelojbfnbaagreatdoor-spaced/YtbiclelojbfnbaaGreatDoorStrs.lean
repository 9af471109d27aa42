import Derived.Test.YtbiclelojbfnbaaGreatDoorStr
namespace Go.Proofs.YtbiclelojbfnbaaGreatDoor
open Go.RowKit
set_option linter.unusedVariables false
set_option linter.unusedSimpArgs false

/-- How much there is left to read, off the reader's block. -/
def muW (w : World) (b n : Nat) : Nat :=
  match w.heap[b]? with
  | some (.cells cs _ _) => 2 * (n - (intOf (cs.getD 6 undef)).toNat) + (if intOf (cs.getD 1 undef) = 0 then 0 else 1)
  | _ => 0
theorem RC.muEq {w : World} {b : Nat} {t : ByteArray} {s : PS} {rv : Value} {mc mt : Nat} (h : RC w b t s rv mc mt) : muW w b t.size = mu t.size s := by
  unfold muW
  rw [h.at_]
  simp [rdCells, intOf, mu]

/-- What the call owns stays owned where block b alone is written. -/
theorem ownsRow_mod {w w' : World} {base b : Nat} {e : TypeId} {size : Nat} {v : Value} {n : Nat} {xs : List Value} (h : w.ownsRow base e size v n xs) (hm : Mod b w w') (hb : b < base) : w'.ownsRow base e size v n xs := by
  obtain ⟨h1, h2⟩ := h
  refine ⟨h1, ?_⟩
  rcases h2 with h2 | ⟨g, cap, cur, hv, hg, hh, r⟩
  · exact Or.inl h2
  · have hlt : g < w.heap.size := by
      rcases Nat.lt_or_ge g w.heap.size with h' | h'
      · exact h'
      · rw [Array.getElem?_eq_none h'] at hh; cases hh
    exact Or.inr ⟨g, cap, cur, hv, hg, by rw [hm.block g hlt (by omega)]; exact hh, r⟩
theorem Mod.grown {b : Nat} {u w w' : World} {row : Option Nat} (h : Mod b u w) (hg : w.grownBy w' row) (hr : ∀ k, row = some k → u.heap.size ≤ k) : Mod b u w' :=
  ⟨hg.os.trans h.os, hg.tape.trans h.tape, hg.output.trans h.output, Nat.le_trans h.size hg.size, fun k hk hn =>
    (hg.block k (Nat.lt_of_lt_of_le hk h.size) (fun e => by have := hr k e.symm; omega)).trans (h.block k hk hn)⟩
theorem RC.grown {w w' : World} {b : Nat} {t : ByteArray} {s : PS} {rv : Value} {mc mt : Nat} {row : Option Nat} (h : RC w b t s rv mc mt) (hg : w.grownBy w' row) (hr : ∀ k, row = some k → b < k) : RC w' b t s rv mc mt := by
  have hb := h.at_.lt
  have h1 := h.b1
  have hblk : ∀ k, k ≤ b → w'.heap[k]? = w.heap[k]? := fun k hk => hg.block k (by omega) (fun e => by have := hr k e.symm; omega)
  refine ⟨by unfold RAt; rw [hblk b (Nat.le_refl _)]; exact h.at_, h.le, ?_, h.b1, h.hs, h.sz, h.e0, h.nm⟩
  obtain ⟨m, hm⟩ := h.m
  exact ⟨m, by rw [World.cell?_of_block (a := ⟨1, 0, none⟩) (hblk 1 (by omega))]; exact hm⟩

/-- From block B on all that was there is as it was. -/
def Abv (B : Nat) (w w' : World) : Prop := ∀ k, B ≤ k → k < w.heap.size → w'.heap[k]? = w.heap[k]?
theorem Abv.refl (B : Nat) (w : World) : Abv B w w := fun _ _ _ => rfl
theorem Abv.trans {B : Nat} {u v w : World} (h : Abv B u v) (k : Abv B v w) (hz : u.heap.size ≤ v.heap.size) : Abv B u w := fun i hB hi => (k i hB (by omega)).trans (h i hB hi)
theorem Mod.abv {b B : Nat} {w w' : World} (h : Mod b w w') (hb : b < B) : Abv B w w' := fun k hB hk => h.block k hk (by omega)
theorem Abv.set {B g : Nat} {w : World} (hg : g < B) (o : Nat) (v : Value) : Abv B w (w.setCell ⟨g, o, none⟩ v) := fun k hB _ => Below.heap_setCell _ _ _ _ (by show k ≠ g; omega)
theorem Abv.weak {B B' : Nat} {w w' : World} (h : Abv B w w') (hB : B ≤ B') : Abv B' w w' := fun k hk hz => h k (by omega) hz

/-- A slice of texts in a block of its own, from B on. -/
def slB (B : Nat) (xs : List (List UInt8)) (w : World) (v : Value) : Prop :=
  ∃ g c, v = .slice (some ⟨g, 0, none⟩) xs.length c ∧ B ≤ g ∧ TxtAt w g xs ∧ xs ≠ []
theorem slB.of_owns {w : World} {base n : Nat} {v : Value} {xs : List (List UInt8)} (h : w.ownsRow base 9 1 v n (tcells xs)) (hn : n = xs.length) (hx : xs ≠ []) : slB base xs w v := by
  subst hn
  obtain ⟨h1, h2⟩ := h
  rcases h2 with ⟨_, h3⟩ | ⟨g, cap, cur, hv, hg, r⟩
  · exact absurd (List.eq_nil_of_length_eq_zero h3) hx
  · subst hv
    exact ⟨g, cap, rfl, hg, TxtAt.of_owns (base := base) ⟨h1, Or.inr ⟨g, cap, cur, rfl, hg, r⟩⟩, hx⟩
theorem slB.keep {B : Nat} {xs : List (List UInt8)} {w w' : World} {v : Value} (h : slB B xs w v) (hk : Abv B w w') : slB B xs w' v := by
  obtain ⟨g, c, hv, hg, ht, hx⟩ := h
  refine ⟨g, c, hv, hg, fun j hj => ?_, hx⟩
  have := ht j hj
  rw [World.cell?_of_block (w := w) (a := ⟨g, j, none⟩) (hk g hg (cell_lt this))]
  exact this
theorem slB.weak {B B' : Nat} {xs : List (List UInt8)} {w : World} {v : Value} (h : slB B xs w v) (hB : B' ≤ B) : slB B' xs w v := by
  obtain ⟨g, c, hv, hg, r⟩ := h
  exact ⟨g, c, hv, by omega, r⟩
theorem slB.form {B : Nat} {xs : List (List UInt8)} {w : World} {v : Value} (h : slB B xs w v) : ∃ g n c, v = .slice (some ⟨g, 0, none⟩) n c := by
  obtain ⟨g, c, hv, _⟩ := h; exact ⟨g, _, c, hv⟩

/-- A check's value: what 'string' does with it, in whatever world behind w. -/
def StrOk (w : World) (b : Nat) (t : ByteArray) (rv : Value) (mc mt : Nat) (cv : Value) (chk : List UInt8 → Nat) : Prop :=
  ∀ (W : World) (s : PS), Mod b w W → RC W b t s rv mc mt → Calls Tryz.prog 245 #[.pointer (some ⟨b, 0, none⟩), cv] W (RPost (stringL t.data.toList chk s) b t rv mc mt W strV)

theorem stringsL_mayErr {l : List UInt8} {chk : List UInt8 → Nat} {F : Nat} {s : PS} {f : Flt} (h : mayL l [[91]] s = .error f) : stringsL l chk F s = .error f := by unfold stringsL; rw [h]
theorem stringsL_strErr {l : List UInt8} {chk : List UInt8 → Nat} {F : Nat} {s : PS} {f : Flt} {y : Nat × PS} (h : mayL l [[91]] s = .ok y) (h2 : stringL l chk y.2 = .error f) : stringsL l chk F s = .error f := by unfold stringsL; rw [h]; dsimp only; rw [h2]
theorem stringsL_one {l : List UInt8} {chk : List UInt8 → Nat} {F : Nat} {s : PS} {y : Nat × PS} {z : List UInt8 × PS} (h : mayL l [[91]] s = .ok y) (h2 : stringL l chk y.2 = .ok z) (h0 : y.1 = 0) : stringsL l chk F s = .ok ([z.1], z.2) := by unfold stringsL; rw [h]; dsimp only; rw [h2]; dsimp only; rw [if_pos h0]
theorem stringsL_more {l : List UInt8} {chk : List UInt8 → Nat} {F : Nat} {s : PS} {y : Nat × PS} {z : List UInt8 × PS} (h : mayL l [[91]] s = .ok y) (h2 : stringL l chk y.2 = .ok z) (h0 : ¬ y.1 = 0) : stringsL l chk F s = moreL l chk F [z.1] z.2 := by unfold stringsL; rw [h]; dsimp only; rw [h2]; dsimp only; rw [if_neg h0]

theorem moreL_passErr {l : List UInt8} {chk : List UInt8 → Nat} {f : Nat} {acc : List (List UInt8)} {s : PS} {e : Flt} (h : passL l [[44], [93]] s = .error e) : moreL l chk (f + 1) acc s = .error e := by rw [moreL, h]
theorem moreL_end {l : List UInt8} {chk : List UInt8 → Nat} {f : Nat} {acc : List (List UInt8)} {s : PS} {y : Nat × PS} (h : passL l [[44], [93]] s = .ok y) (h1 : ¬ y.1 = 1) : moreL l chk (f + 1) acc s = .ok (acc, y.2) := by rw [moreL, h]; dsimp only; rw [if_neg h1]
theorem moreL_strErr {l : List UInt8} {chk : List UInt8 → Nat} {f : Nat} {acc : List (List UInt8)} {s : PS} {y : Nat × PS} {e : Flt} (h : passL l [[44], [93]] s = .ok y) (h1 : y.1 = 1) (h2 : stringL l chk y.2 = .error e) : moreL l chk (f + 1) acc s = .error e := by rw [moreL, h]; dsimp only; rw [if_pos h1, h2]
theorem moreL_go {l : List UInt8} {chk : List UInt8 → Nat} {f : Nat} {acc : List (List UInt8)} {s : PS} {y : Nat × PS} {z : List UInt8 × PS} (h : passL l [[44], [93]] s = .ok y) (h1 : y.1 = 1) (h2 : stringL l chk y.2 = .ok z) : moreL l chk (f + 1) acc s = moreL l chk f (acc ++ [z.1]) z.2 := by rw [moreL, h]; dsimp only; rw [if_pos h1, h2]
theorem RC.mu_le {w : World} {b : Nat} {t : ByteArray} {s : PS} {rv : Value} {mc mt : Nat} (h : RC w b t s rv mc mt) : mu t.size s ≤ 1201 := by
  have := h.hs
  unfold mu
  split <;> omega
theorem bal (t : ByteArray) : t.data.toList.length = t.size := by simp
theorem comma_ne : ∀ z ∈ ([[44], [93]] : List (List UInt8)), z ≠ [] := by decide

set_option maxRecDepth 100000 in
set_option maxHeartbeats 4000000 in
theorem strings_any (cv : Value) (chk : List UInt8 → Nat) (b F : Nat) (t : ByteArray) (s : PS) (rv : Value) (mc mt : Nat) (w : World) (h : RC w b t s rv mc mt) (ho : StrOk w b t rv mc mt cv chk) (hF : mu t.size s < F) :
    Calls Tryz.prog 254 #[.pointer (some ⟨b, 0, none⟩), cv] w (RPost (stringsL t.data.toList chk F s) b t rv mc mt w (slB w.heap.size)) := by
  have H := hide h
  have HO := hide ho
  have hlt := h.at_.lt
  clear h ho
  go_enter Tryz.func254, Tryz.ntmps254
  go_wp2_with fail
  refine (may_any b w.heap.size 1 1 [[91]] t s rv mc mt _ (H.out.alloc _) (txt_alloc w [[91]] _ _ rfl) rfl (by decide)).mono ?_
  intro e w1 h1
  rcases h1.cases with ⟨y, v, hy, rfl, hv, hc, hm⟩ | ⟨f, hf, ⟨bb, hz, rfl, hcc⟩, hm⟩
  rotate_left
  · exact ⟨rfl, RPost.err (stringsL_mayErr hf) (((Mod.refl b w).alloc _).trans hm) ⟨bb, by simp at hz; omega, rfl, hcc⟩⟩
  have HM := hide (((Mod.refl b w).alloc _).trans hm)
  have HY := hide hy
  have HC := hide hc
  unfold numV at hv
  subst hv
  clear h1 hy hc hm
  by_cases h0 : y.1 = 0
  · have H0 := hide h0
    have h0' : ((y.1 : Int) == 0) = true := by simp; omega
    clear h0
    go_wp2_with fail
    refine (HO.out _ y.2 HM.out HC.out).mono ?_
    intro e w2 h2
    rcases h2.cases with ⟨z, v, hy2, rfl, hv, hc, hm⟩ | ⟨f, hf, ⟨bb, hz, rfl, hcc⟩, hm⟩
    rotate_left
    · exact ⟨rfl, RPost.err (stringsL_strErr HY.out hf) (HM.out.trans hm) ⟨bb, Nat.le_trans HM.out.size hz, rfl, hcc⟩⟩
    unfold strV at hv
    subst hv
    have H2 := hide hy2
    have HC2 := hide hc
    have HM2 := hide hm
    clear h2 hy2 hc hm
    go_wp2
    go_ret
    refine RPost.ok (stringsL_one HY.out H2.out H0.out) ((HM.out.trans HM2.out).alloc _) ?_ (HC2.out.alloc _)
    have h1 := HM.out.size
    have h2 := HM2.out.size
    exact ⟨w2.heap.size, 1, rfl, by omega, txt_alloc w2 [z.1] _ _ rfl, by simp⟩
  · have H0 := hide h0
    have h0' : ((y.1 : Int) == 0) = false := by simp; omega
    clear h0
    go_wp2_with fail
    refine (HO.out _ y.2 HM.out HC.out).mono ?_
    intro e w2 h2
    rcases h2.cases with ⟨z, v, hy2, rfl, hv, hc, hm⟩ | ⟨f, hf, ⟨bb, hz, rfl, hcc⟩, hm⟩
    rotate_left
    · exact ⟨rfl, RPost.err (stringsL_strErr HY.out hf) (HM.out.trans hm) ⟨bb, Nat.le_trans HM.out.size hz, rfl, hcc⟩⟩
    unfold strV at hv
    subst hv
    have H2 := hide hy2
    have HC2 := hide hc
    have HM2 := hide hm
    clear h2 hy2 hc hm
    obtain ⟨i0, hi, hz0, hz1, hz2⟩ := info_parts Tryz.infoStr
    have hmu2 := stringL_mu (l := t.data.toList) (by simpa using HC.out.le) H2.out
    have hmu1 := mayL_mu (l := t.data.toList) (zs := [[91]]) (by simpa using H.out.le) H.out.e0 (by decide) HY.out
    rw [bal] at hmu1 hmu2
    replace hmu1 := hmu1.1
    replace hmu2 := hmu2.1
    have hmuL := HC2.out.mu_le
    have hwz : w.heap.size ≤ w2.heap.size := Nat.le_trans HM.out.size HM2.out.size
    go_wp2_with fail
    go_loopw [5] (fun v wr => ∃ (s' : PS) (acc : List (List UInt8)) (f : Nat), wr.ownsRow w.heap.size 9 1 v acc.length (tcells acc) ∧ acc ≠ [] ∧ RC wr b t s' rv mc mt ∧ Mod b w wr ∧ mu t.size s' < f ∧ acc.length + mu t.size s' ≤ 1300 ∧ stringsL t.data.toList chk F s = moreL t.data.toList chk f acc s') (fun _ wr => muW wr b t.size)
    case atStart =>
      refine ⟨z.2, [z.1], F, ?_, by simp, HC2.out.alloc _, (HM.out.trans HM2.out).alloc _, by omega, by simp; omega, stringsL_more HY.out H2.out H0.out⟩
      exact World.ownsRow_lit (e := 9) (size := 1) w2 #[.string (strA z.1)] 1 hwz (by unfold maxLen; omega) rfl
    case round =>
      obtain ⟨s', acc, f, hown, hne, hrc, hmod, hf, hbd, hsp⟩ := hrel
      obtain ⟨f, rfl⟩ : ∃ g, f = g + 1 := ⟨f - 1, by omega⟩
      have HR := hide hrc
      have HMr := hide hmod
      have HSP := hide hsp
      have HOW := hide hown
      have hwr : w.heap.size ≤ wr.heap.size := hmod.size
      clear hrc hmod hsp hown HC HC2 HY H2 hmu1 hmu2 hmuL
      go_wp2_with fail
      refine (pass_any b wr.heap.size 2 2 [[44], [93]] t s' rv mc mt _ (HR.out.alloc _) (txt_alloc wr [[44], [93]] _ _ rfl) rfl (by decide)).mono ?_
      intro e w3 h3
      rcases h3.cases with ⟨y3, v3, hy3, rfl, hv3, hc3, hm3⟩ | ⟨f3, hf3, ⟨bb, hz, rfl, hcc⟩, hm3⟩
      rotate_left
      · exact ⟨rfl, RPost.err (HSP.out.trans (moreL_passErr hf3)) ((HMr.out.alloc _).trans hm3) ⟨bb, by simp at hz; omega, rfl, hcc⟩⟩
      have hmu3 := passL_mu (l := t.data.toList) (by simpa using HR.out.le) HR.out.e0 comma_ne hy3
      rw [bal] at hmu3
      replace hmu3 := hmu3.1
      have HM3 := hide ((HMr.out.alloc _).trans hm3)
      have HY3 := hide hy3
      have HC3 := hide hc3
      have HO3 := hide (ownsRow_mod (HOW.out.alloc _) hm3 hlt)
      unfold numV at hv3
      subst hv3
      clear h3 hy3 hc3 hm3
      by_cases h1 : y3.1 = 1
      rotate_left
      · have h1' : ((y3.1 : Int) == 1) = false := by simp; omega
        have H1 := hide h1
        clear h1
        go_wp2
        go_ret
        exact RPost.ok (HSP.out.trans (moreL_end HY3.out H1.out)) HM3.out (slB.of_owns HO3.out rfl hne) HC3.out
      have h1' : ((y3.1 : Int) == 1) = true := by simp; omega
      have H1 := hide h1
      clear h1
      go_wp2_with fail
      refine (HO.out _ y3.2 HM3.out HC3.out).mono ?_
      intro e w4 h4
      rcases h4.cases with ⟨z4, v4, hy4, rfl, hv4, hc4, hm4⟩ | ⟨f4, hf4, ⟨bb, hz, rfl, hcc⟩, hm4⟩
      rotate_left
      · exact ⟨rfl, RPost.err (HSP.out.trans (moreL_strErr HY3.out H1.out hf4)) (HM3.out.trans hm4) ⟨bb, Nat.le_trans HM3.out.size hz, rfl, hcc⟩⟩
      have hmu4 := stringL_mu (l := t.data.toList) (by simpa using HC3.out.le) hy4
      rw [bal] at hmu4
      replace hmu4 := hmu4.1
      unfold strV at hv4
      subst hv4
      have HM4 := hide (HM3.out.trans hm4)
      have HY4 := hide hy4
      have HC4 := hide hc4
      have hown4 := ownsRow_mod HO3.out hm4 hlt
      have hw4 : w.heap.size ≤ w4.heap.size := HM4.out.size
      clear h4 hy4 hc4 hm4
      go_wp2_with (at_builtin; refine wpList_append_own _ rfl _ _ 60 rfl w.heap.size 9 i0 (.string ⟨#[]⟩) 1 16 Tryz.underlying60 hi hz0 hz1 hz2 rfl (by decide) _ _ _ rfl (hown4.alloc _) ⟨w4.heap.size, 0, none⟩ 1 1 [.string (strA z4.1)] rfl rfl ?c1 ?c2 ?c3 ?c4 ?c5 ?_)
      case c1 =>
        intro j u hj
        match j, hj with
        | 0, hj => simp at hj; subst hj; simp [Addr.add]
      case c2 => intro u hu; simp at hu; subst hu; rfl
      case c3 => unfold maxLen; omega
      case c4 => omega
      case c5 => simp; omega
      · intro v' w5 hown5 hgrow _
        have hrow : ∀ k, (u5).ownBlock = some k → w.heap.size ≤ k := fun k hk => (hown4.lt k hk).1
        have HM5 := hide ((HM4.out.alloc (Obj.cells #[.string (strA z4.1)] 9)).grown hgrow hrow)
        have HC5 := hide ((HC4.out.alloc (Obj.cells #[.string (strA z4.1)] 9)).grown hgrow (fun k hk => by have := hrow k hk; omega))
        rw [tcells_snoc] at hown5
        have HO5 := hide hown5
        have hmw : muW w5 b t.size < muW wr b t.size := by rw [HC5.out.muEq, HR.out.muEq]; omega
        have HMW := hide hmw
        clear hown5 hgrow hown4 hrow hmw
        go_wp2
        go_roundw
        case rel => exact ⟨z4.2, acc ++ [z4.1], f, by simpa using HO5.out, by simp, HC5.out, HM5.out, by omega, by simp; omega, HSP.out.trans (moreL_go HY3.out H1.out HY4.out)⟩
        case measure => exact HMW.out

end Go.Proofs.YtbiclelojbfnbaaGreatDoor
