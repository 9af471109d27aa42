import Derived.Test.YtbiclelojbfnbaaGreatDoorMayUse
namespace Go.Proofs.YtbiclelojbfnbaaGreatDoor
open Go.RowKit
set_option linter.unusedVariables false
set_option linter.unusedSimpArgs false
attribute [local go_sem ↓] Go.wp_at_zero Go.wp_at_succ

/-- A slice of texts in a block of X. -/
def slX (X : Nat → Prop) (xs : List (List UInt8)) (w : World) (v : Value) : Prop :=
  ∃ g c, v = .slice (some ⟨g, 0, none⟩) xs.length c ∧ X g ∧ TxtAt w g xs ∧ xs ≠ []
theorem slB.toX {B : Nat} {xs : List (List UInt8)} {w : World} {v : Value} (h : slB B xs w v) : slX (fromB B) xs w v := h
theorem slX.keep {X : Nat → Prop} {xs : List (List UInt8)} {w w' : World} {v : Value} (h : slX X xs w v) (hk : AbvX X w w') : slX X xs w' v := by
  obtain ⟨g, c, hv, hg, ht, hx⟩ := h
  refine ⟨g, c, hv, hg, fun j hj => ?_, hx⟩
  have := ht j hj
  rw [World.cell?_of_block (w := w) (a := ⟨g, j, none⟩) (hk g hg (cell_lt this))]
  exact this
theorem slX.weak {X Y : Nat → Prop} {xs : List (List UInt8)} {w : World} {v : Value} (h : slX X xs w v) (hB : ∀ k, X k → k < w.heap.size → Y k) : slX Y xs w v := by
  obtain ⟨g, c, hv, hg, ht, hx⟩ := h
  exact ⟨g, c, hv, hB g hg (cell_lt (ht 0 (List.length_pos_iff.2 hx))), ht, hx⟩

/-- A match, as a value, in blocks of X. -/
def mtX (X : Nat → Prop) (hw : List UInt8) (x : TLab) (w : World) (v : Value) : Prop :=
  ∃ fv kv, v = .agg #[.string (strA hw), .int .i64 x.pos, .int .i64 x.tag, .bool x.octet, fv, kv] ∧ slX X x.fr w fv ∧ slX X x.keys w kv

/-- A test, as a value, by what its tests are as values. -/
def tnode {α : Type} (X : Nat → Prop) (P : (Nat → Prop) → α → World → Value → Prop) (x : TLab × List α) (w : World) (v : Value) : Prop :=
  match x.1.kind with
  | 0 => x.2 = [] ∧ v = .iface 373 (.agg #[.string (strA kTrue), .int .i64 x.1.pos, .bool true])
  | 1 => x.2 = [] ∧ v = .iface 373 (.agg #[.string (strA kFalse), .int .i64 x.1.pos, .bool false])
  | 2 => ∃ a u, x.2 = [a] ∧ v = .iface 376 (.agg #[.string (strA kNot), .int .i64 x.1.pos, u]) ∧ P X a w u
  | 3 => ∃ u, v = .iface 274 (.agg #[.string (strA kAllof), .int .i64 x.1.pos, u]) ∧ trX X P x.2 w u ∧ x.2 ≠ []
  | 4 => ∃ u, v = .iface 275 (.agg #[.string (strA kAnyof), .int .i64 x.1.pos, u]) ∧ trX X P x.2 w u ∧ x.2 ≠ []
  | 5 => x.2 = [] ∧ ∃ u, v = .iface 281 u ∧ mtX X kHeader x.1 w u
  | 6 => x.2 = [] ∧ ∃ u, v = .iface 284 u ∧ mtX X kEnvelope x.1 w u
  | 7 => x.2 = [] ∧ ∃ u, v = .iface 285 u ∧ mtX X kString x.1 w u
  | 8 => x.2 = [] ∧ ∃ u, v = .iface 380 (.agg #[.string (strA kExists), .int .i64 x.1.pos, u]) ∧ slX X x.1.fr w u
  | _ => x.2 = [] ∧ v = .iface 382 (.agg #[.string (strA kSize), .int .i64 x.1.pos, .int .i64 x.1.tag, .int .i64 x.1.num])

def TestV : (n : Nat) → (Nat → Prop) → TestT n → World → Value → Prop
  | 0, _, _, _, _ => False
  | n + 1, X, x, w, v => tnode X (TestV n) x w v

theorem tnode_form {α : Type} {X : Nat → Prop} {P : (Nat → Prop) → α → World → Value → Prop} {x : TLab × List α} {w : World} {v : Value} (h : tnode X P x w v) : ∃ ty y, v = .iface ty y := by
  unfold tnode at h
  split at h
  · exact ⟨_, _, h.2⟩
  · exact ⟨_, _, h.2⟩
  · obtain ⟨a, u, _, h, _⟩ := h; exact ⟨_, _, h⟩
  · obtain ⟨u, h, _⟩ := h; exact ⟨_, _, h⟩
  · obtain ⟨u, h, _⟩ := h; exact ⟨_, _, h⟩
  · obtain ⟨_, u, h, _⟩ := h; exact ⟨_, _, h⟩
  · obtain ⟨_, u, h, _⟩ := h; exact ⟨_, _, h⟩
  · obtain ⟨_, u, h, _⟩ := h; exact ⟨_, _, h⟩
  · obtain ⟨_, u, h, _⟩ := h; exact ⟨_, _, h⟩
  · exact ⟨_, _, h.2⟩
theorem mtX.keep {X : Nat → Prop} {hw : List UInt8} {x : TLab} {w w' : World} {v : Value} (h : mtX X hw x w v) (hk : AbvX X w w') : mtX X hw x w' v := by
  obtain ⟨fv, kv, h1, h2, h3⟩ := h; exact ⟨fv, kv, h1, h2.keep hk, h3.keep hk⟩
theorem mtX.weak {X Y : Nat → Prop} {hw : List UInt8} {x : TLab} {w : World} {v : Value} (h : mtX X hw x w v) (hB : ∀ k, X k → k < w.heap.size → Y k) : mtX Y hw x w v := by
  obtain ⟨fv, kv, h1, h2, h3⟩ := h; exact ⟨fv, kv, h1, h2.weak hB, h3.weak hB⟩
theorem tnode_keep {α : Type} {X : Nat → Prop} {P : (Nat → Prop) → α → World → Value → Prop} (hP : TreeP P) {x : TLab × List α} {w w' : World} {v : Value} (h : tnode X P x w v) (hk : AbvX X w w') : tnode X P x w' v := by
  unfold tnode at h ⊢
  split at h
  · exact h
  · exact h
  · obtain ⟨a, u, h1, h2, h3⟩ := h; exact ⟨a, u, h1, h2, hP.keep _ _ _ _ _ h3 hk⟩
  · obtain ⟨u, h1, h2, h3⟩ := h; exact ⟨u, h1, h2.keep hP hk, h3⟩
  · obtain ⟨u, h1, h2, h3⟩ := h; exact ⟨u, h1, h2.keep hP hk, h3⟩
  · obtain ⟨h0, u, h1, h2⟩ := h; exact ⟨h0, u, h1, h2.keep hk⟩
  · obtain ⟨h0, u, h1, h2⟩ := h; exact ⟨h0, u, h1, h2.keep hk⟩
  · obtain ⟨h0, u, h1, h2⟩ := h; exact ⟨h0, u, h1, h2.keep hk⟩
  · obtain ⟨h0, u, h1, h2⟩ := h; exact ⟨h0, u, h1, h2.keep hk⟩
  · exact h
theorem tnode_weak {α : Type} {X Y : Nat → Prop} {P : (Nat → Prop) → α → World → Value → Prop} (hP : TreeP P) {x : TLab × List α} {w : World} {v : Value} (h : tnode X P x w v) (hB : ∀ k, X k → k < w.heap.size → Y k) : tnode Y P x w v := by
  unfold tnode at h ⊢
  split at h
  · exact h
  · exact h
  · obtain ⟨a, u, h1, h2, h3⟩ := h; exact ⟨a, u, h1, h2, hP.weak _ _ _ _ _ h3 hB⟩
  · obtain ⟨u, h1, h2, h3⟩ := h; exact ⟨u, h1, trX.weak hP h3 h2 hB, h3⟩
  · obtain ⟨u, h1, h2, h3⟩ := h; exact ⟨u, h1, trX.weak hP h3 h2 hB, h3⟩
  · obtain ⟨h0, u, h1, h2⟩ := h; exact ⟨h0, u, h1, h2.weak hB⟩
  · obtain ⟨h0, u, h1, h2⟩ := h; exact ⟨h0, u, h1, h2.weak hB⟩
  · obtain ⟨h0, u, h1, h2⟩ := h; exact ⟨h0, u, h1, h2.weak hB⟩
  · obtain ⟨h0, u, h1, h2⟩ := h; exact ⟨h0, u, h1, h2.weak hB⟩
  · exact h
theorem testV_tree : ∀ n, TreeP (TestV n)
  | 0 => ⟨fun _ _ _ _ h => h.elim, fun _ _ _ _ _ h => h.elim, fun _ _ _ _ _ h => h.elim⟩
  | n + 1 => ⟨fun _ _ _ _ h => tnode_form h, fun _ _ _ _ _ h hk => tnode_keep (testV_tree n) h hk, fun _ _ _ _ _ h hB => tnode_weak (testV_tree n) h hB⟩

/-- What the map in block m gives for a word, in whatever world that has it. -/
def LookOk (w : World) (T : TypeId) (m : Nat) (f : List UInt8 → Option Value) : Prop :=
  ∀ (W : World) (x : List UInt8), W.heap[m]? = w.heap[m]? → (Instr.lookup T (.map (some m)) (.string (strA x)) true).run Tryz.prog W = .ok (.tuple #[(f x).getD .nilFunc, .bool (f x).isSome]) W

/-- The functions behind the words of tests. -/
def testFn (b pr pt pf : Nat) (x : List UInt8) : Option Value :=
  match whichL testNames x with
  | 1 => some (.func (.func 251) #[] #[.pointer (some ⟨pt, 0, none⟩)])
  | 2 => some (.func (.func 251) #[] #[.pointer (some ⟨pf, 0, none⟩)])
  | 3 => some (.func (.func 159) #[.pointer (some ⟨b, 0, none⟩)] #[])
  | 4 => some (.func (.func 160) #[] #[.pointer (some ⟨pr, 0, none⟩)])
  | 5 => some (.func (.func 162) #[] #[.pointer (some ⟨pr, 0, none⟩)])
  | 6 => some (.func (.func 163) #[] #[.pointer (some ⟨pr, 0, none⟩)])
  | 7 => some (.func (.func 166) #[] #[.pointer (some ⟨pr, 0, none⟩)])
  | 8 => some (.func (.func 169) #[] #[.pointer (some ⟨pr, 0, none⟩)])
  | 9 => some (.func (.func 170) #[.pointer (some ⟨b, 0, none⟩)] #[])
  | 10 => some (.func (.func 171) #[.pointer (some ⟨b, 0, none⟩)] #[])
  | _ => none

structure TMap (w : World) (b mt pr pt pf : Nat) : Prop where
  look : LookOk w 258 mt (testFn b pr pt pf)
  hpr : PrAt w pr b
  hpt : w.cell? ⟨pt, 0, none⟩ = some (.bool true)
  hpf : w.cell? ⟨pf, 0, none⟩ = some (.bool false)
  ptb : pt ≠ b
  pfb : pf ≠ b
  mtb : mt ≠ b
  mtl : mt < w.heap.size
theorem TMap.mod {w w' : World} {b mt pr pt pf : Nat} (h : TMap w b mt pr pt pf) (hm : Mod b w w') : TMap w' b mt pr pt pf :=
  ⟨fun W x e => h.look W x (e.trans (hm.block mt h.mtl h.mtb)), h.hpr.mod hm, cell_mod h.hpt hm h.ptb, cell_mod h.hpf hm h.pfb, h.ptb, h.pfb, h.mtb, Nat.lt_of_lt_of_le h.mtl hm.size⟩

theorem testFn_none {b pr pt pf : Nat} {x : List UInt8} (h : whichL testNames x = 0) : testFn b pr pt pf x = none := by unfold testFn; rw [h]; rfl

set_option maxRecDepth 100000 in
set_option maxHeartbeats 1000000 in
theorem beginT_unknown (d : Int) (b : Nat) (t : ByteArray) (s : PS) (rv : Value) (mc mt pr pt pf : Nat) (w : World) (h : RC w b t s rv mc mt) (ht : TMap w b mt pr pt pf) (hd : d ≤ 6) (h0 : whichL testNames s.1.spelt = 0) :
    Calls Tryz.prog 306 #[.pointer (some ⟨b, 0, none⟩), .map (some mt), .int .i64 d] w fun e w' => Threw ⟨4, s.1.pos⟩ w e w' ∧ Mod b w w' := by
  have h1 : w.cell? ⟨b, 1, none⟩ = some (.int .i64 s.1.kind) := h.at_.cell 1
  have h3 : w.cell? ⟨b, 3, none⟩ = some (.string (strA s.1.spelt)) := h.at_.cell 3
  have hlk := ht.look w s.1.spelt rfl
  rw [testFn_none h0] at hlk
  have H := hide h
  clear h ht h0
  simp only [Option.getD_none, Option.isSome_none] at hlk
  by_cases hk : s.1.kind = 1
  · have hk' : ((s.1.kind : Int) != 1) = false := by simp; omega
    clear hk
    go_enter Tryz.func306, Tryz.ntmps306
    go_wp2_with fail
    refine (demand_yes b _ _ _ rfl).mono ?_
    rintro e w' ⟨rfl, hww⟩
    subst hww
    go_wp2_with fail
    refine (demand_no b 4 _ _ t s.1 s.2 rv mc mt _ H.out.at_ rfl rfl).mono ?_
    rintro e w1 ⟨⟨bb, hz, rfl, hcc⟩, hm⟩
    exact ⟨rfl, ⟨bb, hz, rfl, hcc⟩, Mod.of_below hm⟩
  · have hk' : ((s.1.kind : Int) != 1) = true := by simp; omega
    clear hk
    go_enter Tryz.func306, Tryz.ntmps306
    go_wp2_with fail
    refine (demand_yes b _ _ _ rfl).mono ?_
    rintro e w' ⟨rfl, hww⟩
    subst hww
    go_wp2_with fail
    refine (demand_no b 4 _ _ t s.1 s.2 rv mc mt _ H.out.at_ rfl rfl).mono ?_
    rintro e w1 ⟨⟨bb, hz, rfl, hcc⟩, hm⟩
    exact ⟨rfl, ⟨bb, hz, rfl, hcc⟩, Mod.of_below hm⟩

end Go.Proofs.YtbiclelojbfnbaaGreatDoor
