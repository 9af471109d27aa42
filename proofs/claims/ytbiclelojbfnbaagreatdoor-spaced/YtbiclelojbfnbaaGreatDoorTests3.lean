import Derived.Test.YtbiclelojbfnbaaGreatDoorTests2
namespace Go.Proofs.YtbiclelojbfnbaaGreatDoor
open Go.RowKit
set_option linter.unusedVariables false
set_option linter.unusedSimpArgs false
attribute [local go_sem ↓] Go.wp_at_zero Go.wp_at_succ

/-- The blocks of X that were there are as they were. -/
def AbvX (X : Nat → Prop) (w w' : World) : Prop := ∀ k, X k → k < w.heap.size → w'.heap[k]? = w.heap[k]?
/-- Blocks from B on. -/
def fromB (B : Nat) (k : Nat) : Prop := B ≤ k
theorem Mod.abvX {b : Nat} {w w' : World} (h : Mod b w w') {X : Nat → Prop} (hX : ¬ X b) : AbvX X w w' := fun k hk hz => h.block k hz (fun e => hX (e ▸ hk))
theorem AbvX.set {X : Nat → Prop} {g : Nat} {w : World} (hX : ¬ X g) (o : Nat) (v : Value) : AbvX X w (w.setCell ⟨g, o, none⟩ v) := fun k hk _ => Below.heap_setCell _ _ _ _ (fun e => hX (by have e' : k = g := e; rw [← e']; exact hk))
theorem AbvX.grown {X : Nat → Prop} {w w' : World} {row : Option Nat} (hg : w.grownBy w' row) (hX : ∀ k, row = some k → ¬ X k) : AbvX X w w' := fun k hk hz => hg.block k hz (fun e => hX k e.symm hk)

/-- What 'test' (or 'command') does at a depth, in whatever world behind w. -/
def SubOk {α : Type} (fn : Nat) (w : World) (b : Nat) (t : ByteArray) (rv : Value) (mc mt : Nat) (d : Int) (sub : PS → Except Flt (α × PS)) (P : (Nat → Prop) → α → World → Value → Prop) : Prop :=
  ∀ (W : World) (s : PS), Mod b w W → RC W b t s rv mc mt → Calls Tryz.prog fn #[.pointer (some ⟨b, 0, none⟩), .int .i64 d] W (RPost (sub s) b t rv mc mt W (P (fromB W.heap.size)))
theorem SubOk.mod {α : Type} {fn : Nat} {w w' : World} {b : Nat} {t : ByteArray} {rv : Value} {mc mt : Nat} {d : Int} {sub : PS → Except Flt (α × PS)} {P : (Nat → Prop) → α → World → Value → Prop} (h : SubOk fn w b t rv mc mt d sub P) (hm : Mod b w w') : SubOk fn w' b t rv mc mt d sub P :=
  fun W s hW hr => h W s (hm.trans hW) hr
/-- Values that stand for trees in blocks of X: interface values, which stay what they are where these do. -/
structure TreeP {α : Type} (P : (Nat → Prop) → α → World → Value → Prop) : Prop where
  form : ∀ X a w v, P X a w v → ∃ ty x, v = .iface ty x
  keep : ∀ X a w w' v, P X a w v → AbvX X w w' → P X a w' v
  weak : ∀ X Y a w v, P X a w v → (∀ k, X k → k < w.heap.size → Y k) → P Y a w v

theorem wrap_small (d : Int) (h0 : 0 ≤ d) (h1 : d ≤ 100) : IntKind.i64.wrap (d + 1) = d + 1 := by
  rw [IntKind.wrap_i64]
  omega

set_option maxRecDepth 100000 in
set_option maxHeartbeats 2000000 in
theorem not_any {α : Type} (sub : PS → Except Flt (α × PS)) (P : (Nat → Prop) → α → World → Value → Prop) (hw : List UInt8) (hp : Nat) (d : Int) (b : Nat) (t : ByteArray) (s : PS) (rv : Value) (mc mt : Nat) (w : World) (h : RC w b t s rv mc mt) (hd0 : 0 ≤ d) (hd1 : d ≤ 100) (hP : TreeP P) (ho : SubOk 252 w b t rv mc mt (d + 1) sub P) :
    Calls Tryz.prog 159 #[.pointer (some ⟨b, 0, none⟩), headV hw hp, .int .i64 d] w (RPost (sub s) b t rv mc mt w (fun a w' v => ∃ u, v = .iface 376 (.agg #[.string (strA hw), .int .i64 hp, u]) ∧ P (fromB w.heap.size) a w' u)) := by
  have H := hide h
  have HO := hide ho
  have HP := hide hP
  have hlt := h.at_.lt
  have hwr := wrap_small d hd0 hd1
  clear h ho hP
  unfold headV
  go_enter Tryz.func159, Tryz.ntmps159
  go_wp2_with fail
  go_region_with (first | (go_at_call 252; refine (HO.out _ s (((Mod.refl b w).alloc _).drew) ((H.out.alloc _).drew)).mono ?_; intro e w1 h1; rcases h1.cases with ⟨y, v, hy, rfl, hv, hc, hm⟩ | ⟨f, hf, ⟨bb, hz, rfl, hcc⟩, hm⟩; rotate_left; exact ⟨rfl, RPost.err hf (((Mod.refl b w).alloc _).trans (mod_drew hm)) ⟨bb, by simp at hz; omega, rfl, hcc⟩⟩; obtain ⟨hh0, hh1⟩ := head_cells hw hp (mod_drew hm) hlt; have HY := hide hy; have HC := hide hc; have HM := hide (((Mod.refl b w).alloc (.cells #[.string (strA hw), .int .i64 hp] 266)).trans (mod_drew hm)); have HV := hide (HP.out.weak _ (fromB w.heap.size) _ _ _ hv (fun k hk _ => Nat.le_trans (by simp) hk)); obtain ⟨ty, x, rfl⟩ := HP.out.form _ _ _ _ hv; clear h1 hy hc hm hv; skip))
  all_goals go_wp2
  all_goals go_ret
  all_goals exact RPost.ok HY.out HM.out ⟨_, rfl, HV.out⟩ HC.out

/-- A slice of trees, in blocks of X. -/
def trX {α : Type} (X : Nat → Prop) (P : (Nat → Prop) → α → World → Value → Prop) (xs : List α) (w : World) (v : Value) : Prop :=
  ∃ g c, v = .slice (some ⟨g, 0, none⟩) xs.length c ∧ X g ∧ ∀ j (hj : j < xs.length), ∃ u, w.cell? ⟨g, j, none⟩ = some u ∧ P X xs[j] w u

theorem trX.keep {α : Type} {X : Nat → Prop} {P : (Nat → Prop) → α → World → Value → Prop} (hP : TreeP P) {xs : List α} {w w' : World} {v : Value} (h : trX X P xs w v) (hm : AbvX X w w') : trX X P xs w' v := by
  obtain ⟨g, c, hv, hg, hx⟩ := h
  refine ⟨g, c, hv, hg, fun j hj => ?_⟩
  obtain ⟨u, hu, hp⟩ := hx j hj
  refine ⟨u, ?_, hP.keep _ _ _ _ _ hp hm⟩
  rw [World.cell?_of_block (w := w) (a := ⟨g, j, none⟩) (hm g hg (cell_lt hu))]
  exact hu
theorem trX.weak {α : Type} {X Y : Nat → Prop} {P : (Nat → Prop) → α → World → Value → Prop} (hP : TreeP P) {xs : List α} {w : World} {v : Value} (hne : xs ≠ []) (h : trX X P xs w v) (hB : ∀ k, X k → k < w.heap.size → Y k) : trX Y P xs w v := by
  obtain ⟨g, c, hv, hg, hx⟩ := h
  refine ⟨g, c, hv, ?_, fun j hj => ?_⟩
  · obtain ⟨u, hu, _⟩ := hx 0 (List.length_pos_iff.2 hne)
    exact hB g hg (cell_lt hu)
  · obtain ⟨u, hu, hp⟩ := hx j hj
    exact ⟨u, hu, hP.weak _ _ _ _ _ hp hB⟩
theorem trX.form {α : Type} {X : Nat → Prop} {P : (Nat → Prop) → α → World → Value → Prop} {xs : List α} {w : World} {v : Value} (h : trX X P xs w v) : ∃ g n c, v = .slice (some ⟨g, 0, none⟩) n c := by
  obtain ⟨g, c, hv, _⟩ := h; exact ⟨g, _, c, hv⟩

/-- The cells of a row of trees, one after another. -/
def RowP {α : Type} (P : α → Value → Prop) : List α → List Value → Prop
  | [], [] => True
  | a :: xs, v :: vs => P a v ∧ RowP P xs vs
  | _, _ => False
theorem RowP.imp {α : Type} {P Q : α → Value → Prop} (h : ∀ a v, P a v → Q a v) : ∀ {xs : List α} {vs : List Value}, RowP P xs vs → RowP Q xs vs
  | [], [], _ => trivial
  | a :: xs, v :: vs, hr => ⟨h _ _ hr.1, RowP.imp h hr.2⟩
  | [], _ :: _, hr => hr.elim
  | _ :: _, [], hr => hr.elim
theorem RowP.snoc {α : Type} {P : α → Value → Prop} {a : α} {v : Value} (h : P a v) : ∀ {xs : List α} {vs : List Value}, RowP P xs vs → RowP P (xs ++ [a]) (vs ++ [v])
  | [], [], _ => ⟨h, trivial⟩
  | a' :: xs, v' :: vs, hr => ⟨hr.1, RowP.snoc h hr.2⟩
  | [], _ :: _, hr => hr.elim
  | _ :: _, [], hr => hr.elim
theorem RowP.at {α : Type} {P : α → Value → Prop} : ∀ {xs : List α} {vs : List Value}, RowP P xs vs → ∀ j (hj : j < xs.length), ∃ u, vs[j]? = some u ∧ P xs[j] u
  | [], [], _, j, hj => absurd hj (Nat.not_lt_zero _)
  | a :: xs, v :: vs, h, 0, _ => ⟨v, rfl, h.1⟩
  | a :: xs, v :: vs, h, j + 1, hj => by
    obtain ⟨u, h1, h2⟩ := RowP.at h.2 j (by simpa using hj)
    exact ⟨u, by simpa using h1, by simpa using h2⟩
  | [], _ :: _, h, _, _ => h.elim
  | _ :: _, [], h, _, _ => h.elim

/-- What a loop that gathers trees knows of each: its blocks lie from base on, and the row's own block is none of them. -/
def Gath {α : Type} (P : (Nat → Prop) → α → World → Value → Prop) (base : Nat) (w : World) (v : Value) (a : α) (u : Value) : Prop :=
  ∃ X, P X a w u ∧ (∀ k, X k → base ≤ k ∧ k < w.heap.size) ∧ ∀ g, v.ownBlock = some g → ¬ X g
theorem Gath.mod {α : Type} {P : (Nat → Prop) → α → World → Value → Prop} (hP : TreeP P) {base b : Nat} {w w' : World} {v : Value} {a : α} {u : Value} (h : Gath P base w v a u) (hm : Mod b w w') (hb : b < base) : Gath P base w' v a u := by
  obtain ⟨X, h1, h2, h3⟩ := h
  exact ⟨X, hP.keep _ _ _ _ _ h1 (hm.abvX (fun e => by have := (h2 b e).1; omega)), fun k hk => ⟨(h2 k hk).1, Nat.lt_of_lt_of_le (h2 k hk).2 hm.size⟩, h3⟩
theorem Gath.grown {α : Type} {P : (Nat → Prop) → α → World → Value → Prop} (hP : TreeP P) {base : Nat} {w w' : World} {v v' : Value} {a : α} {u : Value} {o : Obj} (h : Gath P base w v a u) (hg : (w.alloc o).grownBy w' v.ownBlock) (hv : v'.ownBlock = v.ownBlock ∨ v'.ownBlock = some (w.heap.size + 1)) : Gath P base w' v' a u := by
  obtain ⟨X, h1, h2, h3⟩ := h
  have hA : AbvX X w w' := fun k hk hz => by
    rw [hg.block k (by simp; omega) (fun e => h3 k e.symm hk)]
    exact Below.heap_alloc _ _ _ hz
  refine ⟨X, hP.keep _ _ _ _ _ h1 hA, fun k hk => ⟨(h2 k hk).1, ?_⟩, fun g hgb hX => ?_⟩
  · have := (h2 k hk).2; have := hg.size; simp at this; omega
  · rcases hv with hv | hv
    · exact h3 g (hv ▸ hgb) hX
    · rw [hv] at hgb
      have := (h2 g hX).2
      simp at hgb
      omega
theorem Gath.new {α : Type} {P : (Nat → Prop) → α → World → Value → Prop} (hP : TreeP P) {base B : Nat} {w : World} {v : Value} {a : α} {u : Value} (h : P (fromB B) a w u) (hB : base ≤ B) (hv : ∀ g, v.ownBlock = some g → g < B) : Gath P base w v a u :=
  ⟨fun k => B ≤ k ∧ k < w.heap.size, hP.weak _ _ _ _ _ h (fun k hk hz => ⟨hk, hz⟩), fun k hk => ⟨Nat.le_trans hB hk.1, hk.2⟩, fun g hg hX => by have := hv g hg; omega⟩

theorem trX.of_owns {α : Type} {P : (Nat → Prop) → α → World → Value → Prop} (hP : TreeP P) {w : World} {base n : Nat} {e : TypeId} {v : Value} {xs : List α} {vs : List Value} (h : w.ownsRow base e 1 v n vs) (hn : n = xs.length) (hx : xs ≠ []) (hr : RowP (fun a u => Gath P base w v a u) xs vs) : trX (fromB base) P xs w v := by
  subst hn
  have hc := fun g (hg : v.ownBlock = some g) => h.cells hg
  obtain ⟨h1, h2⟩ := h
  rcases h2 with ⟨_, h3⟩ | ⟨g, cap, cur, hv, hg, r⟩
  · exact absurd (List.eq_nil_of_length_eq_zero h3) hx
  · refine ⟨g, cap, hv, hg, fun j hj => ?_⟩
    obtain ⟨u, hu, X, hp, hX, _⟩ := hr.at j hj
    have := hc g (by rw [hv]; rfl) j u hu
    rw [addr_add0] at this
    exact ⟨u, this, hP.weak _ _ _ _ _ hp (fun k hk _ => (hX k hk).1)⟩

end Go.Proofs.YtbiclelojbfnbaaGreatDoor
