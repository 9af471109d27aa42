import Derived.Test.YtbiclelojbfnbaaGreatDoorTreeC
namespace Go.Proofs.YtbiclelojbfnbaaGreatDoor
open Go.RowKit
set_option linter.unusedVariables false
set_option linter.unusedSimpArgs false

theorem armsMore_mayErr {α β : Type} {l : List UInt8} {F : Nat} {tst : PS → Except Flt (β × PS)} {sub : PS → Except Flt (α × PS)} {f : Nat} {acc : List (β × List α)} {s : PS} {e : Flt} (h : mayL l [kElsif] s = .error e) : armsMore l F tst sub (f + 1) acc s = .error e := by rw [armsMore]; exact thenL_err h
theorem armsMore_end {α β : Type} {l : List UInt8} {F : Nat} {tst : PS → Except Flt (β × PS)} {sub : PS → Except Flt (α × PS)} {f : Nat} {acc : List (β × List α)} {s : PS} {y : Nat × PS} (h : mayL l [kElsif] s = .ok y) (h1 : y.1 = 0) : armsMore l F tst sub (f + 1) acc s = .ok (acc, y.2) := by rw [armsMore, thenL_ok h, if_pos h1]
theorem armsMore_armErr {α β : Type} {l : List UInt8} {F : Nat} {tst : PS → Except Flt (β × PS)} {sub : PS → Except Flt (α × PS)} {f : Nat} {acc : List (β × List α)} {s : PS} {y : Nat × PS} {e : Flt} (h : mayL l [kElsif] s = .ok y) (h1 : ¬ y.1 = 0) (h2 : armL l F tst sub y.2 = .error e) : armsMore l F tst sub (f + 1) acc s = .error e := by rw [armsMore, thenL_ok h, if_neg h1]; exact thenL_err h2
theorem armsMore_go {α β : Type} {l : List UInt8} {F : Nat} {tst : PS → Except Flt (β × PS)} {sub : PS → Except Flt (α × PS)} {f : Nat} {acc : List (β × List α)} {s : PS} {y : Nat × PS} {z : (β × List α) × PS} (h : mayL l [kElsif] s = .ok y) (h1 : ¬ y.1 = 0) (h2 : armL l F tst sub y.2 = .ok z) : armsMore l F tst sub (f + 1) acc s = armsMore l F tst sub f (acc ++ [z.1]) z.2 := by rw [armsMore, thenL_ok h, if_neg h1]; exact thenL_ok h2

/-- The cells of a row of arms, two for each. -/
def Row2P {α : Type} (P : α → Value → Value → Prop) : List α → List Value → Prop
  | [], [] => True
  | a :: xs, u :: v :: vs => P a u v ∧ Row2P P xs vs
  | _, _ => False
theorem Row2P.imp {α : Type} {P Q : α → Value → Value → Prop} (h : ∀ a u v, P a u v → Q a u v) : ∀ {xs : List α} {vs : List Value}, Row2P P xs vs → Row2P Q xs vs
  | [], [], _ => trivial
  | a :: xs, u :: v :: vs, hr => ⟨h _ _ _ hr.1, Row2P.imp h hr.2⟩
  | [], _ :: _, hr => hr.elim
  | _ :: _, [], hr => hr.elim
  | _ :: _, [_], hr => hr.elim
theorem Row2P.snoc {α : Type} {P : α → Value → Value → Prop} {a : α} {u v : Value} (h : P a u v) : ∀ {xs : List α} {vs : List Value}, Row2P P xs vs → Row2P P (xs ++ [a]) (vs ++ [u, v])
  | [], [], _ => ⟨h, trivial⟩
  | a' :: xs, u' :: v' :: vs, hr => ⟨hr.1, Row2P.snoc h hr.2⟩
  | [], _ :: _, hr => hr.elim
  | _ :: _, [], hr => hr.elim
  | _ :: _, [_], hr => hr.elim
theorem Row2P.at {α : Type} {P : α → Value → Value → Prop} : ∀ {xs : List α} {vs : List Value}, Row2P P xs vs → ∀ j (hj : j < xs.length), ∃ u v, vs[2 * j]? = some u ∧ vs[2 * j + 1]? = some v ∧ P xs[j] u v
  | [], [], _, j, hj => absurd hj (Nat.not_lt_zero _)
  | a :: xs, u :: v :: vs, h, 0, _ => ⟨u, v, rfl, rfl, h.1⟩
  | a :: xs, u :: v :: vs, h, j + 1, hj => by
    obtain ⟨u', v', h1, h2, h3⟩ := Row2P.at h.2 j (by simpa using hj)
    refine ⟨u', v', ?_, ?_, by simpa using h3⟩
    · rw [show 2 * (j + 1) = 2 * j + 1 + 1 from by omega]; simpa using h1
    · rw [show 2 * (j + 1) + 1 = 2 * j + 1 + 1 + 1 from by omega]; simpa using h2
  | [], _ :: _, h, _, _ => h.elim
  | _ :: _, [], h, _, _ => h.elim
  | _ :: _, [_], h, _, _ => h.elim

/-- What a loop that gathers arms knows of each; block T is not among its blocks. -/
def GathA {α β : Type} (P1 : (Nat → Prop) → β → World → Value → Prop) (P2 : (Nat → Prop) → α → World → Value → Prop) (base T : Nat) (w : World) (v : Value) (a : β × List α) (u bv : Value) : Prop :=
  ∃ X, P1 X a.1 w u ∧ blX X P2 a.2 w bv ∧ (∀ k, X k → base ≤ k ∧ k < w.heap.size) ∧ (∀ g, v.ownBlock = some g → ¬ X g) ∧ ¬ X T
theorem GathA.mod {α β : Type} {P1 : (Nat → Prop) → β → World → Value → Prop} {P2 : (Nat → Prop) → α → World → Value → Prop} (hP1 : TreeP P1) (hP2 : TreeP P2) {base T b : Nat} {w w' : World} {v : Value} {a : β × List α} {u bv : Value} (h : GathA P1 P2 base T w v a u bv) (hm : Mod b w w') (hb : b < base) : GathA P1 P2 base T w' v a u bv := by
  obtain ⟨X, h1, h1', h2, h3, h4⟩ := h
  have hA : AbvX X w w' := hm.abvX (fun e => by have := (h2 b e).1; omega)
  exact ⟨X, hP1.keep _ _ _ _ _ h1 hA, h1'.keep hP2 hA, fun k hk => ⟨(h2 k hk).1, Nat.lt_of_lt_of_le (h2 k hk).2 hm.size⟩, h3, h4⟩
theorem GathA.set {α β : Type} {P1 : (Nat → Prop) → β → World → Value → Prop} {P2 : (Nat → Prop) → α → World → Value → Prop} (hP1 : TreeP P1) (hP2 : TreeP P2) {base T : Nat} {w : World} {v : Value} {a : β × List α} {u bv : Value} (h : GathA P1 P2 base T w v a u bv) (o : Nat) (x : Value) : GathA P1 P2 base T (w.setCell ⟨T, o, none⟩ x) v a u bv := by
  obtain ⟨X, h1, h1', h2, h3, h4⟩ := h
  have hA : AbvX X w (w.setCell ⟨T, o, none⟩ x) := AbvX.set h4 _ _
  exact ⟨X, hP1.keep _ _ _ _ _ h1 hA, h1'.keep hP2 hA, fun k hk => ⟨(h2 k hk).1, by simpa [World.setCell] using (h2 k hk).2⟩, h3, h4⟩
theorem GathA.new {α β : Type} {P1 : (Nat → Prop) → β → World → Value → Prop} {P2 : (Nat → Prop) → α → World → Value → Prop} (hP1 : TreeP P1) (hP2 : TreeP P2) {base T B : Nat} {w : World} {v : Value} {a : β × List α} {u bv : Value} (h : P1 (fromB B) a.1 w u) (h' : blX (fromB B) P2 a.2 w bv) (hB : base ≤ B) (hv : ∀ g, v.ownBlock = some g → g < B) (hT : T < B) : GathA P1 P2 base T w v a u bv :=
  ⟨fun k => B ≤ k ∧ k < w.heap.size, hP1.weak _ _ _ _ _ h (fun k hk hz => ⟨hk, hz⟩), h'.weak hP2 (fun k hk hz => ⟨hk, hz⟩), fun k hk => ⟨Nat.le_trans hB hk.1, hk.2⟩, fun g hg hX => by have := hv g hg; omega, fun hX => by omega⟩
theorem GathA.grown {α β : Type} {P1 : (Nat → Prop) → β → World → Value → Prop} {P2 : (Nat → Prop) → α → World → Value → Prop} (hP1 : TreeP P1) (hP2 : TreeP P2) {base T : Nat} {w w' : World} {v v' : Value} {a : β × List α} {u bv : Value} {o : Obj} (h : GathA P1 P2 base T w v a u bv) (hg : (w.alloc o).grownBy w' v.ownBlock) (hv : v'.ownBlock = v.ownBlock ∨ v'.ownBlock = some (w.heap.size + 1)) : GathA P1 P2 base T w' v' a u bv := by
  obtain ⟨X, h1, h1', h2, h3, h4⟩ := h
  have hA : AbvX X w w' := fun k hk hz => by
    rw [hg.block k (by simp; omega) (fun e => h3 k e.symm hk)]
    exact Below.heap_alloc _ _ _ hz
  refine ⟨X, hP1.keep _ _ _ _ _ h1 hA, h1'.keep hP2 hA, fun k hk => ⟨(h2 k hk).1, ?_⟩, fun g hgb hX => ?_, h4⟩
  · have := (h2 k hk).2; have := hg.size; simp at this; omega
  · rcases hv with hv | hv
    · exact h3 g (hv ▸ hgb) hX
    · rw [hv] at hgb
      have := (h2 g hX).2
      simp at hgb
      omega
theorem armsX.of_owns {α β : Type} {P1 : (Nat → Prop) → β → World → Value → Prop} {P2 : (Nat → Prop) → α → World → Value → Prop} (hP1 : TreeP P1) (hP2 : TreeP P2) {w : World} {base T n : Nat} {e : TypeId} {v : Value} {xs : List (β × List α)} {vs : List Value} (h : w.ownsRow base e 2 v n vs) (hn : n = xs.length) (hx : xs ≠ []) (hvT : ∀ g, v.ownBlock = some g → g ≠ T) (hr : Row2P (fun a u bv => GathA P1 P2 base T w v a u bv) xs vs) : armsX (fun k => base ≤ k ∧ k ≠ T) P1 P2 xs w v := by
  subst hn
  have hc := fun g (hg : v.ownBlock = some g) => h.cells hg
  obtain ⟨h1, h2⟩ := h
  rcases h2 with ⟨_, h3⟩ | ⟨g, cap, cur, hv, hg, r⟩
  · exact absurd (List.eq_nil_of_length_eq_zero h3) hx
  · refine ⟨g, cap, hv, ⟨hg, hvT g (by rw [hv]; rfl)⟩, fun j hj => ?_⟩
    obtain ⟨u, bv, hu, hb, X, hp, hq, hX, _, hXT⟩ := hr.at j hj
    have k1 := hc g (by rw [hv]; rfl) _ u hu
    have k2 := hc g (by rw [hv]; rfl) _ bv hb
    rw [addr_add0] at k1 k2
    have hk : ∀ k, X k → k < w.heap.size → base ≤ k ∧ k ≠ T := fun k hk _ => ⟨(hX k hk).1, fun e => hXT (e ▸ hk)⟩
    exact ⟨u, bv, k1, k2, hP1.weak _ _ _ _ _ hp hk, hq.weak hP2 hk⟩

end Go.Proofs.YtbiclelojbfnbaaGreatDoor
