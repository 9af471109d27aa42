import Derived.Test.YtbiclelojbfnbaaGreatDoorBeginT
namespace Go.Proofs.YtbiclelojbfnbaaGreatDoor
open Go.RowKit
set_option linter.unusedVariables false
set_option linter.unusedSimpArgs false

/-- A row of arms, two cells each, in a block of X. -/
def armsX {α β : Type} (X : Nat → Prop) (P1 : (Nat → Prop) → β → World → Value → Prop) (P2 : (Nat → Prop) → α → World → Value → Prop) (xs : List (β × List α)) (w : World) (v : Value) : Prop :=
  ∃ g c, v = .slice (some ⟨g, 0, none⟩) xs.length c ∧ X g ∧ ∀ j (hj : j < xs.length), ∃ u bv, w.cell? ⟨g, 2 * j, none⟩ = some u ∧ w.cell? ⟨g, 2 * j + 1, none⟩ = some bv ∧ P1 X xs[j].1 w u ∧ blX X P2 xs[j].2 w bv
theorem armsX.keep {α β : Type} {X : Nat → Prop} {P1 : (Nat → Prop) → β → World → Value → Prop} {P2 : (Nat → Prop) → α → World → Value → Prop} (h1 : TreeP P1) (h2 : TreeP P2) {xs : List (β × List α)} {w w' : World} {v : Value} (h : armsX X P1 P2 xs w v) (hm : AbvX X w w') : armsX X P1 P2 xs w' v := by
  obtain ⟨g, c, hv, hg, hx⟩ := h
  refine ⟨g, c, hv, hg, fun j hj => ?_⟩
  obtain ⟨u, bv, hu, hb, hp, hq⟩ := hx j hj
  refine ⟨u, bv, ?_, ?_, h1.keep _ _ _ _ _ hp hm, hq.keep h2 hm⟩
  · rw [World.cell?_of_block (w := w) (a := ⟨g, 2 * j, none⟩) (hm g hg (cell_lt hu))]
    exact hu
  · rw [World.cell?_of_block (w := w) (a := ⟨g, 2 * j + 1, none⟩) (hm g hg (cell_lt hb))]
    exact hb
theorem armsX.weak {α β : Type} {X Y : Nat → Prop} {P1 : (Nat → Prop) → β → World → Value → Prop} {P2 : (Nat → Prop) → α → World → Value → Prop} (h1 : TreeP P1) (h2 : TreeP P2) {xs : List (β × List α)} {w : World} {v : Value} (hne : xs ≠ []) (h : armsX X P1 P2 xs w v) (hB : ∀ k, X k → k < w.heap.size → Y k) : armsX Y P1 P2 xs w v := by
  obtain ⟨g, c, hv, hg, hx⟩ := h
  refine ⟨g, c, hv, ?_, fun j hj => ?_⟩
  · obtain ⟨u, bv, hu, _⟩ := hx 0 (List.length_pos_iff.2 hne)
    exact hB g hg (cell_lt hu)
  · obtain ⟨u, bv, hu, hb, hp, hq⟩ := hx j hj
    exact ⟨u, bv, hu, hb, h1.weak _ _ _ _ _ hp hB, hq.weak h2 hB⟩

/-- An action, as a value. -/
def actV (hw : List UInt8) (p k : Nat) (x : List UInt8) : Value := .iface 318 (.agg #[.string (strA hw), .int .i64 p, .int .i64 k, .string (strA x)])

/-- A command, as a value, by what its tests and commands are as values. -/
def cnode {α β : Type} (X : Nat → Prop) (P1 : (Nat → Prop) → β → World → Value → Prop) (P2 : (Nat → Prop) → α → World → Value → Prop) (x : CLab × List (β × List α) × List α) (w : World) (v : Value) : Prop :=
  match x.1.kind with
  | 0 => v = actV kKeep x.1.pos 1 []
  | 1 => v = .iface 336 (.agg #[.string (strA kDiscard), .int .i64 x.1.pos])
  | 2 => v = .iface 337 (.agg #[.string (strA kStop), .int .i64 x.1.pos])
  | 3 => v = actV kFileinto x.1.pos 2 x.1.arg
  | 4 => v = actV kRedirect x.1.pos 3 x.1.arg
  | 5 => v = actV kReject x.1.pos 4 x.1.arg
  | 6 => v = .iface 313 (.agg #[.string (strA kSet), .int .i64 x.1.pos, .int .i64 x.1.tag, .string (strA x.1.var), .string (strA x.1.arg)])
  | _ => ∃ av ev, v = .iface 310 (.agg #[.string (strA kIf), .int .i64 x.1.pos, av, .bool x.1.els, ev]) ∧ armsX X P1 P2 x.2.1 w av ∧ x.2.1 ≠ [] ∧ blX X P2 x.2.2 w ev

def CmdV : (n : Nat) → (Nat → Prop) → CmdT n → World → Value → Prop
  | 0, _, _, _, _ => False
  | n + 1, X, x, w, v => cnode X (TestV n) (CmdV n) x w v

theorem cnode_form {α β : Type} {X : Nat → Prop} {P1 : (Nat → Prop) → β → World → Value → Prop} {P2 : (Nat → Prop) → α → World → Value → Prop} {x : CLab × List (β × List α) × List α} {w : World} {v : Value} (h : cnode X P1 P2 x w v) : ∃ ty y, v = .iface ty y := by
  unfold cnode actV at h
  split at h
  · exact ⟨_, _, h⟩
  · exact ⟨_, _, h⟩
  · exact ⟨_, _, h⟩
  · exact ⟨_, _, h⟩
  · exact ⟨_, _, h⟩
  · exact ⟨_, _, h⟩
  · exact ⟨_, _, h⟩
  · obtain ⟨av, ev, h, _⟩ := h; exact ⟨_, _, h⟩
theorem cnode_keep {α β : Type} {X : Nat → Prop} {P1 : (Nat → Prop) → β → World → Value → Prop} {P2 : (Nat → Prop) → α → World → Value → Prop} (h1 : TreeP P1) (h2 : TreeP P2) {x : CLab × List (β × List α) × List α} {w w' : World} {v : Value} (h : cnode X P1 P2 x w v) (hk : AbvX X w w') : cnode X P1 P2 x w' v := by
  unfold cnode at h ⊢
  split at h
  · exact h
  · exact h
  · exact h
  · exact h
  · exact h
  · exact h
  · exact h
  · obtain ⟨av, ev, h, ha, hn, hb⟩ := h; exact ⟨av, ev, h, ha.keep h1 h2 hk, hn, hb.keep h2 hk⟩
theorem cnode_weak {α β : Type} {X Y : Nat → Prop} {P1 : (Nat → Prop) → β → World → Value → Prop} {P2 : (Nat → Prop) → α → World → Value → Prop} (h1 : TreeP P1) (h2 : TreeP P2) {x : CLab × List (β × List α) × List α} {w : World} {v : Value} (h : cnode X P1 P2 x w v) (hB : ∀ k, X k → k < w.heap.size → Y k) : cnode Y P1 P2 x w v := by
  unfold cnode at h ⊢
  split at h
  · exact h
  · exact h
  · exact h
  · exact h
  · exact h
  · exact h
  · exact h
  · obtain ⟨av, ev, h, ha, hn, hb⟩ := h; exact ⟨av, ev, h, armsX.weak h1 h2 hn ha hB, hn, hb.weak h2 hB⟩
theorem cmdV_tree : ∀ n, TreeP (CmdV n)
  | 0 => ⟨fun _ _ _ _ h => h.elim, fun _ _ _ _ _ h => h.elim, fun _ _ _ _ _ h => h.elim⟩
  | n + 1 => ⟨fun _ _ _ _ h => cnode_form h, fun _ _ _ _ _ h hk => cnode_keep (testV_tree n) (cmdV_tree n) h hk, fun _ _ _ _ _ h hB => cnode_weak (testV_tree n) (cmdV_tree n) h hB⟩
end Go.Proofs.YtbiclelojbfnbaaGreatDoor
