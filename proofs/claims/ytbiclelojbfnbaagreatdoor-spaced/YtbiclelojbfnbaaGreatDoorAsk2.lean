import Derived.Test.YtbiclelojbfnbaaGreatDoorAsk
namespace Go.Proofs.YtbiclelojbfnbaaGreatDoor
open Go.RowKit
set_option linter.unusedVariables false
set_option linter.unusedSimpArgs false

/-- The reader lies in block b, at state s; the world is as the library wants it. -/
structure RC (w : World) (b : Nat) (t : ByteArray) (s : PS) (rv : Value) (mc mt : Nat) : Prop where
  at_ : RAt w b t s.1 s.2 rv mc mt
  le : s.2 ≤ t.size
  m : ∃ m, w.cell? ⟨1, 0, none⟩ = some (.int .i64 m)
  b1 : 1 < b
  hs : t.size ≤ 600
  sz : s.1.said.length ≤ 600 ∧ s.1.num ≤ 2147483647
  e0 : s.1.kind = 0 → s.1.spelt = []
  nm : ¬ s.1.kind = 1 → NoName s.1.spelt

theorem RC.step {w w' : World} {b : Nat} {t : ByteArray} {s s' : PS} {rv rv' : Value} {mc mt : Nat} (h : RC w b t s rv mc mt) (hm : Mod b w w') (ha : RAt w' b t s'.1 s'.2 rv' mc mt) (hl : s'.2 ≤ t.size) (hz : s'.1.said.length ≤ 600 ∧ s'.1.num ≤ 2147483647) (he : s'.1.kind = 0 → s'.1.spelt = []) (hn : ¬ s'.1.kind = 1 → NoName s'.1.spelt) : RC w' b t s' rv' mc mt := by
  refine ⟨ha, hl, ?_, h.b1, h.hs, hz, he, hn⟩
  obtain ⟨m, hm1⟩ := h.m
  have := h.at_.lt
  exact ⟨m, by rw [hm.cell (p := ⟨1, 0, none⟩) (by show 1 < _; have := h.b1; omega) (by show 1 ≠ b; have := h.b1; omega)]; exact hm1⟩
theorem RC.below {w w' : World} {b : Nat} {t : ByteArray} {s : PS} {rv : Value} {mc mt : Nat} (h : RC w b t s rv mc mt) (hb : Below w.heap.size w w') : RC w' b t s rv mc mt :=
  h.step (Mod.of_below hb) (h.at_.mod hb) h.le h.sz h.e0 h.nm
theorem RC.alloc {w : World} {b : Nat} {t : ByteArray} {s : PS} {rv : Value} {mc mt : Nat} (h : RC w b t s rv mc mt) (o : Obj) : RC (w.alloc o) b t s rv mc mt :=
  h.below ((Below.refl _ _).alloc (Nat.le_refl _) _)
theorem RC.drew {w : World} {b : Nat} {t : ByteArray} {s : PS} {rv : Value} {mc mt : Nat} (h : RC w b t s rv mc mt) : RC w.drew b t s rv mc mt :=
  ⟨h.at_, h.le, h.m, h.b1, h.hs, h.sz, h.e0, h.nm⟩

/-- What a function of the reader's leaves: what it answers and the state behind it, or a fault. -/
def RPost {α : Type} (r : Except Flt (α × PS)) (b : Nat) (t : ByteArray) (rv : Value) (mc mt : Nat) (w : World) (val : α → World → Value → Prop) (e : Ending) (w' : World) : Prop :=
  Mod b w w' ∧
  match r with
  | .ok y => (∃ v, e = .returned v ∧ val y.1 w' v) ∧ RC w' b t y.2 rv mc mt
  | .error f => Threw f w e w'

theorem RPost.cases {α : Type} {r : Except Flt (α × PS)} {b : Nat} {t : ByteArray} {rv : Value} {mc mt : Nat} {w w' : World} {val : α → World → Value → Prop} {e : Ending} (h : RPost r b t rv mc mt w val e w') :
    (∃ y v, r = .ok y ∧ e = .returned v ∧ val y.1 w' v ∧ RC w' b t y.2 rv mc mt ∧ Mod b w w') ∨ (∃ f, r = .error f ∧ Threw f w e w' ∧ Mod b w w') := by
  obtain ⟨hm, h⟩ := h
  cases r with
  | ok y => obtain ⟨⟨v, he, hv⟩, hc⟩ := h; exact Or.inl ⟨y, v, rfl, he, hv, hc, hm⟩
  | error f => exact Or.inr ⟨f, rfl, h, hm⟩
theorem RPost.ok {α : Type} {r : Except Flt (α × PS)} {b : Nat} {t : ByteArray} {rv : Value} {mc mt : Nat} {w w' : World} {val : α → World → Value → Prop} {v : Value} {y : α × PS} (h : r = .ok y) (hm : Mod b w w') (hv : val y.1 w' v) (hc : RC w' b t y.2 rv mc mt) : RPost r b t rv mc mt w val (.returned v) w' := by
  subst h; exact ⟨hm, ⟨v, rfl, hv⟩, hc⟩
theorem RPost.err {α : Type} {r : Except Flt (α × PS)} {b : Nat} {t : ByteArray} {rv : Value} {mc mt : Nat} {w w' : World} {val : α → World → Value → Prop} {e : Ending} {f : Flt} (h : r = .error f) (hm : Mod b w w') (ht : Threw f w e w') : RPost r b t rv mc mt w val e w' := by
  subst h; exact ⟨hm, ht⟩
theorem NextPost.cases {r : Except Flt PS} {b : Nat} {t : ByteArray} {rv : Value} {mc mt : Nat} {w w' : World} {e : Ending} (h : NextPost r b t rv mc mt w e w') :
    (∃ y, r = .ok y ∧ e = .returned (.tuple #[]) ∧ RAt w' b t y.1 y.2 rv mc mt ∧ Mod b w w') ∨ (∃ f, r = .error f ∧ Threw f w e w' ∧ Mod b w w') := by
  obtain ⟨hm, h⟩ := h
  cases r with
  | ok y => exact Or.inl ⟨y, rfl, h.1, h.2, hm⟩
  | error f => exact Or.inr ⟨f, rfl, h, hm⟩

/-- 'next', over the reader's state. -/
theorem next_rc (b : Nat) (t : ByteArray) (s : PS) (rv : Value) (mc mt : Nat) (w : World) (h : RC w b t s rv mc mt) :
    Calls Tryz.prog 172 #[.pointer (some ⟨b, 0, none⟩)] w fun e w' =>
      (∃ y, nextL t.data.toList s.2 = .ok y ∧ e = .returned (.tuple #[]) ∧ RC w' b t y rv mc mt ∧ Mod b w w') ∨ (∃ f, nextL t.data.toList s.2 = .error f ∧ Threw f w e w' ∧ Mod b w w') := by
  obtain ⟨m, hm⟩ := h.m
  refine (next_any b t s.1 s.2 rv mc mt m w (by have := h.hs; omega) h.le h.at_ hm).mono ?_
  intro e w' hp
  rcases hp.cases with ⟨y, hy, he, ha, hmod⟩ | hf
  · refine Or.inl ⟨y, hy, he, h.step hmod ha ?_ ?_ (nextL_le t.data.toList s.2 (by simpa using h.le) y hy).2.2.2.1 (nextL_noName t.data.toList s.2 y hy), hmod⟩
    · have := (nextL_le t.data.toList s.2 (by simpa using h.le) y hy).2.1
      simpa using this
    · have h1 := nextL_small t.data.toList s.2 y hy
      have h2 := h.hs
      have h3 : t.data.toList.length = t.size := by simp
      exact ⟨by omega, h1.2⟩
  · exact Or.inr hf

theorem mayL_no {l : List UInt8} {zs : List (List UInt8)} {s : PS} (h : whichL zs s.1.spelt = 0) : mayL l zs s = .ok (0, s) := by unfold mayL; rw [if_pos h]
theorem mayL_ok {l : List UInt8} {zs : List (List UInt8)} {s y : PS} (h : ¬ whichL zs s.1.spelt = 0) (hn : nextL l s.2 = .ok y) : mayL l zs s = .ok (whichL zs s.1.spelt, y) := by unfold mayL; rw [if_neg h, hn]
theorem mayL_err {l : List UInt8} {zs : List (List UInt8)} {s : PS} {f : Flt} (h : ¬ whichL zs s.1.spelt = 0) (hn : nextL l s.2 = .error f) : mayL l zs s = .error f := by unfold mayL; rw [if_neg h, hn]
theorem passL_no {l : List UInt8} {zs : List (List UInt8)} {s : PS} (h : whichL zs s.1.spelt = 0) : passL l zs s = .error ⟨4, s.1.pos⟩ := by unfold passL; rw [if_pos h]
theorem passL_ok {l : List UInt8} {zs : List (List UInt8)} {s y : PS} (h : ¬ whichL zs s.1.spelt = 0) (hn : nextL l s.2 = .ok y) : passL l zs s = .ok (whichL zs s.1.spelt, y) := by unfold passL; rw [if_neg h, hn]
theorem passL_err {l : List UInt8} {zs : List (List UInt8)} {s : PS} {f : Flt} (h : ¬ whichL zs s.1.spelt = 0) (hn : nextL l s.2 = .error f) : passL l zs s = .error f := by unfold passL; rw [if_neg h, hn]

/-- A number, as a value. -/
def numV (i : Nat) (_ : World) (v : Value) : Prop := v = .int .i64 i

set_option maxHeartbeats 1000000 in
theorem may_any (b g n c : Nat) (zs : List (List UInt8)) (t : ByteArray) (s : PS) (rv : Value) (mc mt : Nat) (w : World) (h : RC w b t s rv mc mt) (hz : TxtAt w g zs) (hn : n = zs.length) (hl : zs.length ≤ 1000) :
    Calls Tryz.prog 246 #[.pointer (some ⟨b, 0, none⟩), .slice (some ⟨g, 0, none⟩) n c] w (RPost (mayL t.data.toList zs s) b t rv mc mt w numV) := by
  have hw := hide (which_any b g n c zs t s.1 s.2 rv mc mt w h.at_ hz hn hl)
  have hle := whichL_le zs s.1.spelt
  have H := hide h
  clear hz hn
  by_cases h0 : whichL zs s.1.spelt = 0
  · have h0' : ¬ (0 : Int) < (whichL zs s.1.spelt : Int) := by omega
    have HE := hide (mayL_no (l := t.data.toList) h0)
    have H0 := hide h0
    clear h0 h
    go_enter Tryz.func246, Tryz.ntmps246
    go_wp2_with (go_at_call 303; refine hw.out.mono ?_; rintro e w' ⟨rfl, rfl⟩)
    go_ret
    exact RPost.ok HE.out (Mod.refl _ _) (by unfold numV; rw [H0.out]; rfl) H.out
  · have h0' : (0 : Int) < (whichL zs s.1.spelt : Int) := by omega
    have H0 := hide h0
    clear h0 h
    go_enter Tryz.func246, Tryz.ntmps246
    go_wp2_with (go_at_call 303; refine hw.out.mono ?_; rintro e w' ⟨rfl, rfl⟩)
    refine (next_rc b t s rv mc mt _ H.out).mono ?_
    rintro e w1 (⟨y, hy, rfl, hc, hm⟩ | ⟨f, hf, ⟨bb, hz, rfl, hcc⟩, hm⟩)
    · go_wp2
      go_ret
      exact RPost.ok (mayL_ok H0.out hy) hm rfl hc
    · exact ⟨rfl, RPost.err (mayL_err H0.out hf) hm ⟨bb, hz, rfl, hcc⟩⟩

set_option maxHeartbeats 1000000 in
theorem pass_any (b g n c : Nat) (zs : List (List UInt8)) (t : ByteArray) (s : PS) (rv : Value) (mc mt : Nat) (w : World) (h : RC w b t s rv mc mt) (hz : TxtAt w g zs) (hn : n = zs.length) (hl : zs.length ≤ 1000) :
    Calls Tryz.prog 243 #[.pointer (some ⟨b, 0, none⟩), .slice (some ⟨g, 0, none⟩) n c] w (RPost (passL t.data.toList zs s) b t rv mc mt w numV) := by
  have hw := hide (which_any b g n c zs t s.1 s.2 rv mc mt w h.at_ hz hn hl)
  have hle := whichL_le zs s.1.spelt
  have H := hide h
  clear hz hn
  by_cases h0 : whichL zs s.1.spelt = 0
  · have h0' : ¬ (0 : Int) < (whichL zs s.1.spelt : Int) := by omega
    have HE := hide (passL_no (l := t.data.toList) h0)
    have H0 := hide h0
    clear h0 h
    go_enter Tryz.func243, Tryz.ntmps243
    go_wp2_with (go_at_call 303; refine hw.out.mono ?_; rintro e w' ⟨rfl, rfl⟩)
    refine (demand_no b 4 _ _ t s.1 s.2 rv mc mt _ H.out.at_ (by simp; omega) rfl).mono ?_
    rintro e w1 ⟨⟨bb, hz, rfl, hcc⟩, hm⟩
    exact ⟨rfl, RPost.err HE.out (Mod.of_below hm) ⟨bb, hz, rfl, hcc⟩⟩
  · have h0' : (0 : Int) < (whichL zs s.1.spelt : Int) := by omega
    have H0 := hide h0
    clear h0 h
    go_enter Tryz.func243, Tryz.ntmps243
    go_wp2_with (go_at_call 303; refine hw.out.mono ?_; rintro e w' ⟨rfl, rfl⟩)
    refine (demand_yes b _ _ _ (by simp; omega)).mono ?_
    rintro e w' ⟨rfl, rfl⟩
    go_wp2_with fail
    refine (next_rc b t s rv mc mt _ H.out).mono ?_
    rintro e w1 (⟨y, hy, rfl, hc, hm⟩ | ⟨f, hf, ⟨bb, hz, rfl, hcc⟩, hm⟩)
    · go_wp2
      go_ret
      exact RPost.ok (passL_ok H0.out hy) hm rfl hc
    · exact ⟨rfl, RPost.err (passL_err H0.out hf) hm ⟨bb, hz, rfl, hcc⟩⟩

end Go.Proofs.YtbiclelojbfnbaaGreatDoor
