/- Blanks and comments ahead of a text and behind it: the parser. It imports nothing of the program. -/
import Derived.Test.YtbiclelojbfnbaaGreatDoorPlainSpace
namespace Go.Proofs.YtbiclelojbfnbaaGreatDoor

theorem Sim.okk {α β : Type} {g : α → β} {l : List UInt8} {a : Nat} {x x' : α} {s s' : PS} (hg : g x = g x') (h : SR l a s s') : Sim g l a (.ok (x, s)) (.ok (x', s')) :=
  ⟨fun y e => by cases e; exact ⟨_, rfl, hg, h⟩, fun f e => by cases e⟩
theorem Sim.fail {α β : Type} {g : α → β} {l : List UInt8} {a : Nat} {f f' : Flt} (he : f'.err = f.err) (hp : f.pos ≤ f'.pos) : Sim g l a (.error f) (.error f') :=
  ⟨fun y e => (by cases e), fun f e => by cases e; exact Or.inr ⟨_, rfl, he, hp⟩⟩
/-- One behind the other; of the state between it is known what the first has read. -/
theorem Sim.andThen {α β γ δ : Type} {g : α → β} {h : γ → δ} {l : List UInt8} {a : Nat} {r r' : Except Flt (α × PS)} {k k' : α → PS → Except Flt (γ × PS)} (hr : Sim g l a r r') (hk : ∀ y y' : α × PS, r = .ok y → g y.1 = g y'.1 → SR l a y.2 y'.2 → Sim h l a (k y.1 y.2) (k' y'.1 y'.2)) : Sim h l a (thenL r k) (thenL r' k') := by
  cases hrr : r with
  | error f =>
    rw [hrr] at hr
    refine ⟨fun y e => (by cases e), fun f0 e => ?_⟩
    cases e
    rcases hr.2 f rfl with h | ⟨f', h1, h2, h3⟩
    · exact Or.inl h
    · exact Or.inr ⟨f', thenL_err h1, h2, h3⟩
  | ok y =>
    obtain ⟨y', h1, h2, h3⟩ := hr.1 y hrr
    rw [thenL_ok rfl, thenL_ok h1]
    exact hk y y' hrr h2 h3
theorem Sim.nextThen {γ δ : Type} {h : γ → δ} {l u : List UInt8} {a : Nat} {s s' : PS} {k k' : PS → Except Flt (γ × PS)} (hr : SimN l a (nextL l s.2) (nextL u s'.2)) (hk : ∀ y y' : PS, nextL l s.2 = .ok y → SR l a y y' → Sim h l a (k y) (k' y')) : Sim h l a (nextThen l s k) (nextThen u s' k') := by
  cases hrr : nextL l s.2 with
  | error f =>
    rw [nextThen_err hrr]
    refine ⟨fun y e => (by cases e), fun f0 e => ?_⟩
    cases e
    rcases hr.2 f hrr with h | ⟨f', h1, h2, h3⟩
    · exact Or.inl h
    · exact Or.inr ⟨f', nextThen_err h1, h2, h3⟩
  | ok y =>
    obtain ⟨y', h1, h3⟩ := hr.1 y hrr
    rw [nextThen_ok hrr, nextThen_ok h1]
    exact hk y y' hrr h3

section
variable {A B l u : List UInt8}

theorem may_sim {A B l u : List UInt8} (hP : Pad A B) (hu : u = A ++ (l ++ B)) (zs : List (List UInt8)) (hz : ∀ z ∈ zs, z ≠ []) {s s' : PS} (h : SR l A.length s s') : Sim id l A.length (mayL l zs s) (mayL u zs s') := by
  unfold mayL
  rw [h.spelt]
  by_cases h0 : whichL zs s.1.spelt = 0
  · rw [if_pos h0, if_pos h0]; exact Sim.okk rfl h
  · rw [if_neg h0, if_neg h0]
    have hn := next_sim hP l u hu s s' h (kind_which h.gd hz h0)
    cases hrr : nextL l s.2 with
    | error f =>
      refine ⟨fun y e => (by cases e), fun f0 e => ?_⟩
      cases e
      rcases hn.2 f hrr with h | ⟨f', h1, h2, h3⟩
      · exact Or.inl h
      · rw [h1]; exact Or.inr ⟨f', rfl, h2, h3⟩
    | ok y =>
      obtain ⟨y', h1, h3⟩ := hn.1 y hrr
      rw [h1]; exact Sim.okk rfl h3
theorem pass_sim {A B l u : List UInt8} (hP : Pad A B) (hu : u = A ++ (l ++ B)) (zs : List (List UInt8)) (hz : ∀ z ∈ zs, z ≠ []) {s s' : PS} (h : SR l A.length s s') : Sim id l A.length (passL l zs s) (passL u zs s') := by
  unfold passL
  rw [h.spelt]
  by_cases h0 : whichL zs s.1.spelt = 0
  · rw [if_pos h0, if_pos h0]; exact Sim.fail rfl h.pos
  · rw [if_neg h0, if_neg h0]
    have hn := next_sim hP l u hu s s' h (kind_which h.gd hz h0)
    cases hrr : nextL l s.2 with
    | error f =>
      refine ⟨fun y e => (by cases e), fun f0 e => ?_⟩
      cases e
      rcases hn.2 f hrr with h | ⟨f', h1, h2, h3⟩
      · exact Or.inl h
      · rw [h1]; exact Or.inr ⟨f', rfl, h2, h3⟩
    | ok y =>
      obtain ⟨y', h1, h3⟩ := hn.1 y hrr
      rw [h1]; exact Sim.okk rfl h3
theorem string_sim {A B l u : List UInt8} (hP : Pad A B) (hu : u = A ++ (l ++ B)) (chk : List UInt8 → Nat) {s s' : PS} (h : SR l A.length s s') : Sim id l A.length (stringL l chk s) (stringL u chk s') := by
  unfold stringL
  rw [h.kind, h.said]
  by_cases h0 : s.1.kind = 5
  · rw [if_pos h0, if_pos h0]
    by_cases h1 : chk s.1.said = 0
    · rw [if_pos h1, if_pos h1]
      have hn := next_sim hP l u hu s s' h (by omega)
      cases hrr : nextL l s.2 with
      | error f =>
        refine ⟨fun y e => (by cases e), fun f0 e => ?_⟩
        cases e
        rcases hn.2 f hrr with h | ⟨f', h1, h2, h3⟩
        · exact Or.inl h
        · rw [h1]; exact Or.inr ⟨f', rfl, h2, h3⟩
      | ok y =>
        obtain ⟨y', h1, h3⟩ := hn.1 y hrr
        rw [h1]; exact Sim.okk rfl h3
    · rw [if_neg h1, if_neg h1]; exact Sim.fail rfl h.pos
  · rw [if_neg h0, if_neg h0]; exact Sim.fail rfl h.pos
theorem moreL_then (l : List UInt8) (chk : List UInt8 → Nat) (f : Nat) (acc : List (List UInt8)) (s : PS) : moreL l chk (f + 1) acc s = thenL (passL l [[44], [93]] s) fun i s1 => if i = 1 then thenL (stringL l chk s1) fun x s2 => moreL l chk f (acc ++ [x]) s2 else .ok (acc, s1) := by
  rw [moreL]
  cases passL l [[44], [93]] s with
  | error e => rfl
  | ok y =>
    rw [thenL_ok rfl]
    dsimp only
    by_cases h : y.1 = 1
    · rw [if_pos h, if_pos h]
      cases stringL l chk y.2 with
      | error e => rfl
      | ok z => rfl
    · rw [if_neg h, if_neg h]
theorem stringsL_then (l : List UInt8) (chk : List UInt8 → Nat) (F : Nat) (s : PS) : stringsL l chk F s = thenL (mayL l [[91]] s) fun i s1 => thenL (stringL l chk s1) fun x s2 => if i = 0 then .ok ([x], s2) else moreL l chk F [x] s2 := by
  unfold stringsL
  cases mayL l [[91]] s with
  | error e => rfl
  | ok y =>
    rw [thenL_ok rfl]
    dsimp only
    cases stringL l chk y.2 with
    | error e => rfl
    | ok z => rfl
theorem more_sim {A B l u : List UInt8} (hP : Pad A B) (hu : u = A ++ (l ++ B)) (chk : List UInt8 → Nat) : ∀ (f f' : Nat) (acc : List (List UInt8)) (s s' : PS), f ≤ f' → mu l.length s < f → SR l A.length s s' → Sim id l A.length (moreL l chk f acc s) (moreL u chk f' acc s')
  | 0, _, _, _, _, _, hm, _ => absurd hm (Nat.not_lt_zero _)
  | f + 1, 0, _, _, _, hf, _, _ => absurd hf (by omega)
  | f + 1, f' + 1, acc, s, s', hf, hm, h => by
    rw [moreL_then, moreL_then]
    refine (pass_sim hP hu _ (by decide) h).andThen fun y y' hy e h1 => ?_
    have d1 := (pass_dn (zs := [[44], [93]]) h.gd (by decide) y hy).2
    rw [show y'.1 = y.1 from e.symm]
    by_cases h0 : y.1 = 1
    · rw [if_pos h0, if_pos h0]
      refine (string_sim hP hu chk h1).andThen fun z z' hz ez h2 => ?_
      have d2 := (string_dn h1.gd z hz).2
      rw [show z'.1 = z.1 from ez.symm]
      exact more_sim hP hu chk f f' _ _ _ (by omega) (by omega) h2
    · rw [if_neg h0, if_neg h0]; exact Sim.okk rfl h1
theorem strings_sim {A B l u : List UInt8} (hP : Pad A B) (hu : u = A ++ (l ++ B)) (chk : List UInt8 → Nat) {F F' : Nat} (hF : F ≤ F') {s s' : PS} (hm : mu l.length s < F) (h : SR l A.length s s') : Sim id l A.length (stringsL l chk F s) (stringsL u chk F' s') := by
  rw [stringsL_then, stringsL_then]
  refine (may_sim hP hu _ (by decide) h).andThen fun y y' hy e h1 => ?_
  have d1 := (may_dn (zs := [[91]]) h.gd (by decide) y hy).2
  refine (string_sim hP hu chk h1).andThen fun z z' hz ez h2 => ?_
  have d2 := (string_dn h1.gd z hz).2
  rw [show y'.1 = y.1 from e.symm, show z'.1 = z.1 from ez.symm]
  by_cases h0 : y.1 = 0
  · rw [if_pos h0, if_pos h0]; exact Sim.okk rfl h2
  · rw [if_neg h0, if_neg h0]; exact more_sim hP hu chk _ _ _ _ _ hF (by omega) h2
theorem opt_sim {A B l u : List UInt8} (hP : Pad A B) (hu : u = A ++ (l ++ B)) : ∀ (f f' tag : Nat) (oct cmp : Bool) (s s' : PS), f ≤ f' → mu l.length s < f → SR l A.length s s' → Sim id l A.length (optL l f tag oct cmp s) (optL u f' tag oct cmp s')
  | 0, _, _, _, _, _, _, _, hm, _ => absurd hm (Nat.not_lt_zero _)
  | f + 1, 0, _, _, _, _, _, hf, _, _ => absurd hf (by omega)
  | f + 1, f' + 1, tag, oct, cmp, s, s', hf, hm, h => by
    rw [optL, optL, h.spelt]
    by_cases h0 : whichL [tIs, tContains, tMatches] s.1.spelt = 0
    · rw [if_pos h0, if_pos h0]
      by_cases h1 : whichL [tComparator] s.1.spelt = 0
      · rw [if_pos h1, if_pos h1]; exact Sim.okk rfl h
      · rw [if_neg h1, if_neg h1]
        have hk := kind_which (zs := [tComparator]) h.gd (by decide) h1
        cases cmp
        · simp only [Bool.false_eq_true, if_false]
          refine Sim.nextThen (next_sim hP l u hu s s' h hk) fun y y' hy h2 => ?_
          have d1 := nextL_mu h.gd.1 hk hy
          refine (string_sim hP hu _ h2).andThen fun z z' hz ez h3 => ?_
          have d2 := (string_dn h2.gd z hz).2
          rw [show z'.1 = z.1 from ez.symm]
          exact opt_sim hP hu f f' _ _ _ _ _ (by omega) (by omega) h3
        · simp only [if_true]; exact Sim.fail rfl h.pos
    · rw [if_neg h0, if_neg h0]
      have hk := kind_which (zs := [tIs, tContains, tMatches]) h.gd (by decide) h0
      by_cases ht : tag = 0
      · rw [if_pos ht, if_pos ht]
        refine Sim.nextThen (next_sim hP l u hu s s' h hk) fun y y' hy h2 => ?_
        have d1 := nextL_mu h.gd.1 hk hy
        exact opt_sim hP hu f f' _ _ _ _ _ (by omega) (by omega) h2
      · rw [if_neg ht, if_neg ht]; exact Sim.fail rfl h.pos

end

/-- A tree with its places left out. -/
def zT (x : TLab) : TLab := ⟨x.kind, 0, x.tag, x.octet, x.fr, x.keys, x.num⟩
def zTest : (n : Nat) → TestT n → TestT n
  | 0, x => x
  | n + 1, x => (zT x.1, x.2.map (zTest n))
def zC (x : CLab) : CLab := ⟨x.kind, 0, x.tag, x.arg, x.var, x.els⟩
def zCmd : (n : Nat) → CmdT n → CmdT n
  | 0, x => x
  | n + 1, x => (zC x.1, x.2.1.map (fun a => (zTest n a.1, a.2.map (zCmd n))), x.2.2.map (zCmd n))

section
variable {A B l u : List UInt8}

theorem match_sim {A B l u : List UInt8} (hP : Pad A B) (hu : u = A ++ (l ++ B)) (chk : List UInt8 → Nat) (k pos pos' : Nat) {F F' : Nat} (hF : F ≤ F') {s s' : PS} (hm : mu l.length s < F) (h : SR l A.length s s') : Sim zT l A.length (matchL l F chk k pos s) (matchL u F' chk k pos' s') := by
  unfold matchL
  refine (opt_sim hP hu F F' _ _ _ _ _ hF hm h).andThen fun o o' ho eo h1 => ?_
  have d1 := (opt_dn F 0 false false s h.gd o ho).2
  refine (strings_sim hP hu _ hF (by omega) h1).andThen fun x x' hx ex h2 => ?_
  have d2 := (strings_dn h1.gd x hx).2
  refine (strings_sim hP hu _ hF (by omega) h2).andThen fun y y' hy ey h3 => ?_
  rw [show o'.1 = o.1 from eo.symm, show x'.1 = x.1 from ex.symm, show y'.1 = y.1 from ey.symm]
  exact Sim.okk rfl h3
theorem groupMore_sim {A B l u : List UInt8} (hP : Pad A B) (hu : u = A ++ (l ++ B)) {α β : Type} (g : α → β) {sub sub' : PS → Except Flt (α × PS)} (hd : ∀ s, Gd l s → Dn 1 l (sub s) s) {M : Nat} (hs : ∀ s s', mu l.length s < M → SR l A.length s s' → Sim g l A.length (sub s) (sub' s')) : ∀ (f f' : Nat) (acc acc' : List α) (s s' : PS), acc.map g = acc'.map g → f ≤ f' → mu l.length s < f → mu l.length s < M → SR l A.length s s' → Sim (List.map g) l A.length (groupMore l sub f acc s) (groupMore u sub' f' acc' s')
  | 0, _, _, _, _, _, _, _, hm, _, _ => absurd hm (Nat.not_lt_zero _)
  | f + 1, 0, _, _, _, _, _, hf, _, _, _ => absurd hf (by omega)
  | f + 1, f' + 1, acc, acc', s, s', ha, hf, hm, hM, h => by
    rw [groupMore, groupMore]
    refine (pass_sim hP hu _ (by decide) h).andThen fun y y' hy e h1 => ?_
    have d1 := (pass_dn (zs := [[44], [41]]) h.gd (by decide) y hy).2
    rw [show y'.1 = y.1 from e.symm]
    by_cases h0 : y.1 = 1
    · rw [if_pos h0, if_pos h0]
      refine (hs _ _ (by omega) h1).andThen fun z z' hz ez h2 => ?_
      have d2 := (hd _ h1.gd z hz).2
      exact groupMore_sim hP hu g hd hs f f' _ _ _ _ (by rw [List.map_append, List.map_append, ha]; simp [ez]) (by omega) (by omega) (by omega) h2
    · rw [if_neg h0, if_neg h0]; exact Sim.okk ha h1
theorem group_sim {A B l u : List UInt8} (hP : Pad A B) (hu : u = A ++ (l ++ B)) {α β : Type} (g : α → β) {sub sub' : PS → Except Flt (α × PS)} (hd : ∀ s, Gd l s → Dn 1 l (sub s) s) {M : Nat} (hs : ∀ s s', mu l.length s < M → SR l A.length s s' → Sim g l A.length (sub s) (sub' s')) {F F' : Nat} (hF : F ≤ F') {s s' : PS} (hm : mu l.length s < F) (hM : mu l.length s < M) (h : SR l A.length s s') : Sim (List.map g) l A.length (groupL l F sub s) (groupL u F' sub' s') := by
  unfold groupL
  refine (pass_sim hP hu _ (by decide) h).andThen fun y y' hy e h1 => ?_
  have d1 := (pass_dn (zs := [[40]]) h.gd (by decide) y hy).2
  refine (hs _ _ (by omega) h1).andThen fun z z' hz ez h2 => ?_
  have d2 := (hd _ h1.gd z hz).2
  exact groupMore_sim hP hu g hd hs F F' _ _ _ _ (by simp [ez]) hF (by omega) (by omega) h2
theorem size_sim {A B l u : List UInt8} (hP : Pad A B) (hu : u = A ++ (l ++ B)) (pos pos' : Nat) {s s' : PS} (h : SR l A.length s s') : Sim zT l A.length (sizeL l pos s) (sizeL u pos' s') := by
  unfold sizeL
  refine (pass_sim hP hu _ (by decide) h).andThen fun y y' hy e h1 => ?_
  rw [h1.kind, h1.num, show y'.1 = y.1 from e.symm]
  by_cases h0 : y.2.1.kind = 4
  · rw [if_pos h0, if_pos h0]
    refine Sim.nextThen (next_sim hP l u hu _ _ h1 (by omega)) fun z z' hz h2 => ?_
    exact Sim.okk rfl h2
  · rw [if_neg h0, if_neg h0]; exact Sim.fail rfl h1.pos
theorem testBody_sim {A B l u : List UInt8} (hP : Pad A B) (hu : u = A ++ (l ++ B)) (n : Nat) {sub sub' : PS → Except Flt (TestT n × PS)} (hd : ∀ s, Gd l s → Dn 1 l (sub s) s) {M : Nat} (hs : ∀ s s', mu l.length s < M → SR l A.length s s' → Sim (zTest n) l A.length (sub s) (sub' s')) {F F' : Nat} (hF : F ≤ F') (k pos pos' : Nat) {s s' : PS} (hm : mu l.length s < F) (hM : mu l.length s < M) (h : SR l A.length s s') : Sim (zTest (n + 1)) l A.length (testBody l F sub k pos s) (testBody u F' sub' k pos' s') := by
  unfold testBody
  split
  · exact Sim.okk rfl h
  · exact Sim.okk rfl h
  · refine (hs _ _ hM h).andThen fun z z' hz ez h2 => Sim.okk ?_ h2
    show (_, [zTest n z.1]) = (_, [zTest n z'.1])
    rw [ez]; rfl
  · refine (group_sim hP hu (zTest n) hd hs hF hm hM h).andThen fun z z' hz ez h2 => Sim.okk ?_ h2
    show (_, List.map (zTest n) z.1) = (_, List.map (zTest n) z'.1)
    rw [ez]; rfl
  · refine (group_sim hP hu (zTest n) hd hs hF hm hM h).andThen fun z z' hz ez h2 => Sim.okk ?_ h2
    show (_, List.map (zTest n) z.1) = (_, List.map (zTest n) z'.1)
    rw [ez]; rfl
  · refine (match_sim hP hu _ _ _ _ hF hm h).andThen fun z z' hz ez h2 => Sim.okk ?_ h2
    show (zT z.1, []) = (zT z'.1, [])
    rw [ez]
  · refine (match_sim hP hu _ _ _ _ hF hm h).andThen fun z z' hz ez h2 => Sim.okk ?_ h2
    show (zT z.1, []) = (zT z'.1, [])
    rw [ez]
  · refine (match_sim hP hu _ _ _ _ hF hm h).andThen fun z z' hz ez h2 => Sim.okk ?_ h2
    show (zT z.1, []) = (zT z'.1, [])
    rw [ez]
  · refine (strings_sim hP hu _ hF hm h).andThen fun z z' hz ez h2 => Sim.okk ?_ h2
    rw [show z'.1 = z.1 from ez.symm]; rfl
  · refine (size_sim hP hu _ _ h).andThen fun z z' hz ez h2 => Sim.okk ?_ h2
    show (zT z.1, []) = (zT z'.1, [])
    rw [ez]
theorem testL_sim {A B l u : List UInt8} (hP : Pad A B) (hu : u = A ++ (l ++ B)) (req : List (List UInt8)) {F F' : Nat} (hF : F ≤ F') : ∀ (n : Nat) (s s' : PS), mu l.length s < F → SR l A.length s s' → Sim (zTest n) l A.length (testL l req F n s) (testL u req F' n s')
  | 0, s, s', hm, h => by
    rw [testL, testL, h.kind]
    by_cases h0 : s.1.kind = 1
    · rw [if_pos h0, if_pos h0]; exact Sim.fail rfl h.pos
    · rw [if_neg h0, if_neg h0]; exact Sim.fail rfl h.pos
  | n + 1, s, s', hm, h => by
    rw [testL, testL, h.spelt]
    by_cases h0 : whichL testNames s.1.spelt = 0
    · rw [if_pos h0, if_pos h0]; exact Sim.fail rfl h.pos
    · rw [if_neg h0, if_neg h0]
      have hk := kind_which (zs := testNames) h.gd (by decide) h0
      cases hus : useOk req s.1.spelt
      · simp only [Bool.false_eq_true, if_false]; exact Sim.fail rfl h.pos
      · simp only [if_true]
        refine Sim.nextThen (next_sim hP l u hu s s' h hk) fun y y' hy h2 => ?_
        have d1 := nextL_mu h.gd.1 hk hy
        exact testBody_sim hP hu n (fun s g => test_dn n s g) (M := F) (fun s s' hm h => testL_sim hP hu req hF n s s' hm h) hF _ _ _ (by omega) (by omega) h2
theorem blockMore_sim {A B l u : List UInt8} (hP : Pad A B) (hu : u = A ++ (l ++ B)) {α β : Type} (g : α → β) {sub sub' : PS → Except Flt (α × PS)} (hd : ∀ s, Gd l s → Dn 1 l (sub s) s) {M : Nat} (hs : ∀ s s', mu l.length s < M → SR l A.length s s' → Sim g l A.length (sub s) (sub' s')) : ∀ (f f' : Nat) (acc acc' : List α) (s s' : PS), acc.map g = acc'.map g → f ≤ f' → mu l.length s < f → mu l.length s < M → SR l A.length s s' → Sim (List.map g) l A.length (blockMore l sub f acc s) (blockMore u sub' f' acc' s')
  | 0, _, _, _, _, _, _, _, hm, _, _ => absurd hm (Nat.not_lt_zero _)
  | f + 1, 0, _, _, _, _, _, hf, _, _, _ => absurd hf (by omega)
  | f + 1, f' + 1, acc, acc', s, s', ha, hf, hm, hM, h => by
    rw [blockMore, blockMore]
    refine (may_sim hP hu _ (by decide) h).andThen fun y y' hy e h1 => ?_
    have d1 := (may_dn (zs := [[125]]) h.gd (by decide) y hy).2
    rw [show y'.1 = y.1 from e.symm]
    by_cases h0 : y.1 = 0
    · rw [if_pos h0, if_pos h0]
      refine (hs _ _ (by omega) h1).andThen fun z z' hz ez h2 => ?_
      have d2 := (hd _ h1.gd z hz).2
      exact blockMore_sim hP hu g hd hs f f' _ _ _ _ (by rw [List.map_append, List.map_append, ha]; simp [ez]) (by omega) (by omega) (by omega) h2
    · rw [if_neg h0, if_neg h0]; exact Sim.okk ha h1
theorem block_sim {A B l u : List UInt8} (hP : Pad A B) (hu : u = A ++ (l ++ B)) {α β : Type} (g : α → β) {sub sub' : PS → Except Flt (α × PS)} (hd : ∀ s, Gd l s → Dn 1 l (sub s) s) {M : Nat} (hs : ∀ s s', mu l.length s < M → SR l A.length s s' → Sim g l A.length (sub s) (sub' s')) {F F' : Nat} (hF : F ≤ F') {s s' : PS} (hm : mu l.length s < F) (hM : mu l.length s < M) (h : SR l A.length s s') : Sim (List.map g) l A.length (blockL l F sub s) (blockL u F' sub' s') := by
  unfold blockL
  refine (pass_sim hP hu _ (by decide) h).andThen fun y y' hy e h1 => ?_
  have d1 := (pass_dn (zs := [[123]]) h.gd (by decide) y hy).2
  exact blockMore_sim hP hu g hd hs F F' _ _ _ _ rfl hF (by omega) (by omega) h1
theorem arm_sim {A B l u : List UInt8} (hP : Pad A B) (hu : u = A ++ (l ++ B)) {α β α' β' : Type} (g : α → α') (g2 : β → β') {tst tst' : PS → Except Flt (β × PS)} {sub sub' : PS → Except Flt (α × PS)} (hdt : ∀ s, Gd l s → Dn 1 l (tst s) s) (hd : ∀ s, Gd l s → Dn 1 l (sub s) s) {M : Nat} (hst : ∀ s s', mu l.length s < M → SR l A.length s s' → Sim g2 l A.length (tst s) (tst' s')) (hs : ∀ s s', mu l.length s < M → SR l A.length s s' → Sim g l A.length (sub s) (sub' s')) {F F' : Nat} (hF : F ≤ F') {s s' : PS} (hm : mu l.length s < F) (hM : mu l.length s < M) (h : SR l A.length s s') : Sim (fun a : β × List α => (g2 a.1, a.2.map g)) l A.length (armL l F tst sub s) (armL u F' tst' sub' s') := by
  unfold armL
  refine (hst _ _ hM h).andThen fun y y' hy e h1 => ?_
  have d1 := (hdt _ h.gd y hy).2
  refine (block_sim hP hu g hd hs hF (by omega) (by omega) h1).andThen fun z z' hz ez h2 => ?_
  refine Sim.okk ?_ h2
  show (g2 y.1, List.map g z.1) = (g2 y'.1, List.map g z'.1)
  rw [e, ez]
theorem arms_sim {A B l u : List UInt8} (hP : Pad A B) (hu : u = A ++ (l ++ B)) {α β α' β' : Type} (g : α → α') (g2 : β → β') {tst tst' : PS → Except Flt (β × PS)} {sub sub' : PS → Except Flt (α × PS)} (hdt : ∀ s, Gd l s → Dn 1 l (tst s) s) (hd : ∀ s, Gd l s → Dn 1 l (sub s) s) {M : Nat} (hst : ∀ s s', mu l.length s < M → SR l A.length s s' → Sim g2 l A.length (tst s) (tst' s')) (hs : ∀ s s', mu l.length s < M → SR l A.length s s' → Sim g l A.length (sub s) (sub' s')) {F F' : Nat} (hF : F ≤ F') : ∀ (f f' : Nat) (acc acc' : List (β × List α)) (s s' : PS), acc.map (fun a => (g2 a.1, a.2.map g)) = acc'.map (fun a => (g2 a.1, a.2.map g)) → f ≤ f' → mu l.length s < f → mu l.length s < F → mu l.length s < M → SR l A.length s s' → Sim (List.map (fun a : β × List α => (g2 a.1, a.2.map g))) l A.length (armsMore l F tst sub f acc s) (armsMore u F' tst' sub' f' acc' s')
  | 0, _, _, _, _, _, _, _, hm, _, _, _ => absurd hm (Nat.not_lt_zero _)
  | f + 1, 0, _, _, _, _, _, hf, _, _, _, _ => absurd hf (by omega)
  | f + 1, f' + 1, acc, acc', s, s', ha, hf, hm, hmF, hM, h => by
    rw [armsMore, armsMore]
    refine (may_sim hP hu _ (by decide) h).andThen fun y y' hy e h1 => ?_
    have d1 := (may_dn (zs := [kElsif]) h.gd (by decide) y hy).2
    rw [show y'.1 = y.1 from e.symm]
    by_cases h0 : y.1 = 0
    · rw [if_pos h0, if_pos h0]; exact Sim.okk ha h1
    · rw [if_neg h0, if_neg h0]
      refine (arm_sim hP hu g g2 hdt hd hst hs hF (by omega) (by omega) h1).andThen fun z z' hz ez h2 => ?_
      have d2 := (arm_dn hdt hd h1.gd z hz).2
      exact arms_sim hP hu g g2 hdt hd hst hs hF f f' _ _ _ _ (by rw [List.map_append, List.map_append, ha]; simp only [List.map_cons, List.map_nil]; rw [ez]) (by omega) (by omega) (by omega) (by omega) h2
theorem semi_sim {A B l u : List UInt8} (hP : Pad A B) (hu : u = A ++ (l ++ B)) {α β : Type} (g : α → β) {x x' : α} (hx : g x = g x') {s s' : PS} (h : SR l A.length s s') : Sim g l A.length (semi l s x) (semi u s' x') := by
  unfold semi
  exact (pass_sim hP hu _ (by decide) h).andThen fun y y' hy e h1 => Sim.okk hx h1
theorem cmdBody_sim {A B l u : List UInt8} (hP : Pad A B) (hu : u = A ++ (l ++ B)) (n : Nat) {tst tst' : PS → Except Flt (TestT n × PS)} {sub sub' : PS → Except Flt (CmdT n × PS)} (hdt : ∀ s, Gd l s → Dn 1 l (tst s) s) (hd : ∀ s, Gd l s → Dn 1 l (sub s) s) {M : Nat} (hst : ∀ s s', mu l.length s < M → SR l A.length s s' → Sim (zTest n) l A.length (tst s) (tst' s')) (hs : ∀ s s', mu l.length s < M → SR l A.length s s' → Sim (zCmd n) l A.length (sub s) (sub' s')) {F F' : Nat} (hF : F ≤ F') (k pos pos' : Nat) {s s' : PS} (hm : mu l.length s < F) (hM : mu l.length s < M) (h : SR l A.length s s') : Sim (zCmd (n + 1)) l A.length (cmdBody l F tst sub k pos s) (cmdBody u F' tst' sub' k pos' s') := by
  unfold cmdBody
  split
  · refine semi_sim hP hu _ ?_ h; rfl
  · refine semi_sim hP hu _ ?_ h; rfl
  · refine semi_sim hP hu _ ?_ h; rfl
  · refine (string_sim hP hu _ h).andThen fun y y' hy e h1 => semi_sim hP hu _ ?_ h1
    rw [show y'.1 = y.1 from e.symm]; rfl
  · refine (string_sim hP hu _ h).andThen fun y y' hy e h1 => semi_sim hP hu _ ?_ h1
    rw [show y'.1 = y.1 from e.symm]; rfl
  · refine (string_sim hP hu _ h).andThen fun y y' hy e h1 => semi_sim hP hu _ ?_ h1
    rw [show y'.1 = y.1 from e.symm]; rfl
  · refine (may_sim hP hu _ (by decide) h).andThen fun x x' hx ex h0 => ?_
    refine (string_sim hP hu _ h0).andThen fun v v' hv ev h1 => ?_
    refine (string_sim hP hu _ h1).andThen fun y y' hy e h2 => semi_sim hP hu _ ?_ h2
    rw [show y'.1 = y.1 from e.symm, show v'.1 = v.1 from ev.symm, show x'.1 = x.1 from ex.symm]; rfl
  · refine (arm_sim hP hu (zCmd n) (zTest n) hdt hd hst hs hF hm hM h).andThen fun x x' hx ex h0 => ?_
    have d0 := (arm_dn hdt hd h.gd x hx).2
    refine (arms_sim hP hu (zCmd n) (zTest n) hdt hd hst hs hF F F' [x.1] [x'.1] _ _ (by simp only [List.map_cons, List.map_nil]; rw [ex]) hF (by omega) (by omega) (by omega) h0).andThen fun y y' hy ey h1 => ?_
    have d1 := (arms_dn hdt hd F _ _ h0.gd y hy).2
    refine (may_sim hP hu _ (by decide) h1).andThen fun v v' hv ev h2 => ?_
    have d2 := (may_dn (zs := [kElse]) h1.gd (by decide) v hv).2
    rw [show v'.1 = v.1 from ev.symm]
    by_cases hz : v.1 = 0
    · rw [if_pos hz, if_pos hz]
      refine Sim.okk ?_ h2
      show (_, List.map _ y.1, _) = (_, List.map _ y'.1, _)
      rw [ey]; rfl
    · rw [if_neg hz, if_neg hz]
      refine (block_sim hP hu (zCmd n) hd hs hF (by omega) (by omega) h2).andThen fun z z' hz ez h3 => Sim.okk ?_ h3
      show (_, List.map _ y.1, List.map (zCmd n) z.1) = (_, List.map _ y'.1, List.map (zCmd n) z'.1)
      rw [ey, ez]; rfl
theorem cmdL_sim {A B l u : List UInt8} (hP : Pad A B) (hu : u = A ++ (l ++ B)) (req : List (List UInt8)) {F F' : Nat} (hF : F ≤ F') : ∀ (n : Nat) (s s' : PS), mu l.length s < F → SR l A.length s s' → Sim (zCmd n) l A.length (cmdL l req F n s) (cmdL u req F' n s')
  | 0, s, s', hm, h => by
    rw [cmdL, cmdL, h.kind]
    by_cases h0 : s.1.kind = 1
    · rw [if_pos h0, if_pos h0]; exact Sim.fail rfl h.pos
    · rw [if_neg h0, if_neg h0]; exact Sim.fail rfl h.pos
  | n + 1, s, s', hm, h => by
    rw [cmdL, cmdL, h.spelt]
    by_cases h0 : whichL cmdNames s.1.spelt = 0
    · rw [if_pos h0, if_pos h0]; exact Sim.fail rfl h.pos
    · rw [if_neg h0, if_neg h0]
      have hk := kind_which (zs := cmdNames) h.gd (by decide) h0
      cases hus : useOk req s.1.spelt
      · simp only [Bool.false_eq_true, if_false]; exact Sim.fail rfl h.pos
      · simp only [if_true]
        refine Sim.nextThen (next_sim hP l u hu s s' h hk) fun y y' hy h2 => ?_
        have d1 := nextL_mu h.gd.1 hk hy
        exact cmdBody_sim hP hu n (fun s g => test_dn n s g) (fun s g => cmd_dn n s g) (M := F) (fun s s' hm h => testL_sim hP hu req hF n s s' hm h) (fun s s' hm h => cmdL_sim hP hu req hF n s s' hm h) hF _ _ _ (by omega) (by omega) h2
theorem reqMore_sim {A B l u : List UInt8} (hP : Pad A B) (hu : u = A ++ (l ++ B)) {F F' : Nat} (hF : F ≤ F') : ∀ (f f' : Nat) (req : List (List UInt8)) (s s' : PS), f ≤ f' → mu l.length s < f → mu l.length s < F → SR l A.length s s' → Sim id l A.length (reqMore l F f req s) (reqMore u F' f' req s')
  | 0, _, _, _, _, _, hm, _, _ => absurd hm (Nat.not_lt_zero _)
  | f + 1, 0, _, _, _, hf, _, _, _ => absurd hf (by omega)
  | f + 1, f' + 1, req, s, s', hf, hm, hmF, h => by
    rw [reqMore, reqMore]
    refine (may_sim hP hu _ (by decide) h).andThen fun y y' hy e h1 => ?_
    have d1 := (may_dn (zs := [kRequire]) h.gd (by decide) y hy).2
    rw [show y'.1 = y.1 from e.symm]
    by_cases h0 : y.1 = 0
    · rw [if_pos h0, if_pos h0]; exact Sim.okk rfl h1
    · rw [if_neg h0, if_neg h0]
      refine (strings_sim hP hu _ hF (by omega) h1).andThen fun z z' hz ez h2 => ?_
      have d2 := (strings_dn h1.gd z hz).2
      refine (pass_sim hP hu _ (by decide) h2).andThen fun v v' hv ev h3 => ?_
      have d3 := (pass_dn (zs := [[59]]) h2.gd (by decide) v hv).2
      rw [show z'.1 = z.1 from ez.symm]
      exact reqMore_sim hP hu hF f f' _ _ _ (by omega) (by omega) (by omega) h3
theorem reqMore_dn {F : Nat} : ∀ (f : Nat) (req : List (List UInt8)) (s : PS), Gd l s → Dn 0 l (reqMore l F f req s) s
  | 0, req, s, h => Dn.ok h
  | f + 1, req, s, h => by
    rw [reqMore]
    refine ((may_dn h (by decide)).andThen (c' := 0) fun i s1 g1 => ?_).weak (by omega)
    split
    · exact Dn.ok g1
    · exact ((strings_dn g1).andThen (c' := 0) fun xs s2 g2 => ((pass_dn g2 (by decide)).andThen (c' := 0) fun _ s3 g3 => reqMore_dn f _ s3 g3).weak (by omega)).weak (by omega)
theorem cmdsMore_sim {α β : Type} (g : α → β) {sub sub' : PS → Except Flt (α × PS)} (hd : ∀ s, Gd l s → Dn 1 l (sub s) s) {M : Nat} (hs : ∀ s s', mu l.length s < M → SR l A.length s s' → Sim g l A.length (sub s) (sub' s')) : ∀ (f f' : Nat) (acc acc' : List α) (s s' : PS), acc.map g = acc'.map g → f ≤ f' → mu l.length s < f → mu l.length s < M → SR l A.length s s' →
    (∀ y, cmdsMore sub f acc s = .ok y → ∃ y', cmdsMore sub' f' acc' s' = .ok y' ∧ y.map g = y'.map g) ∧ (∀ e, cmdsMore sub f acc s = .error e → e.err = 2 ∨ ∃ e', cmdsMore sub' f' acc' s' = .error e' ∧ e'.err = e.err ∧ e.pos ≤ e'.pos)
  | 0, _, _, _, _, _, _, _, hm, _, _ => absurd hm (Nat.not_lt_zero _)
  | f + 1, 0, _, _, _, _, _, hf, _, _, _ => absurd hf (by omega)
  | f + 1, f' + 1, acc, acc', s, s', ha, hf, hm, hM, h => by
    rw [cmdsMore, cmdsMore, h.kind]
    by_cases h0 : s.1.kind = 0
    · rw [if_pos h0, if_pos h0]
      exact ⟨fun y e => by cases e; exact ⟨_, rfl, ha⟩, fun f e => by cases e⟩
    · rw [if_neg h0, if_neg h0]
      have hS := hs _ _ hM h
      cases hr : sub s with
      | error e =>
        refine ⟨fun y e => (by cases e), fun f0 e => ?_⟩
        cases e
        rcases hS.2 _ hr with h | ⟨f', h1, h2, h3⟩
        · exact Or.inl h
        · rw [h1]; exact Or.inr ⟨f', rfl, h2, h3⟩
      | ok y =>
        obtain ⟨y', h1, h2, h3⟩ := hS.1 y hr
        rw [h1]
        have d := (hd _ h.gd y hr).2
        exact cmdsMore_sim g hd hs f f' _ _ _ _ (by rw [List.map_append, List.map_append, ha]; simp [h2]) (by omega) (by omega) (by omega) h3

/-- A script with blanks and comments ahead of it and behind it: the same but for the places; a fault is the same, no earlier, but where there is a word that is none. -/
theorem parse_sim {A B l u : List UInt8} (hP : Pad A B) (hu : u = A ++ (l ++ B)) :
    (∀ y, parseL l = .ok y → ∃ y', parseL u = .ok y' ∧ y'.1 = y.1 ∧ y.2.map (zCmd 7) = y'.2.map (zCmd 7)) ∧ (∀ e, parseL l = .error e → e.err = 2 ∨ ∃ e', parseL u = .error e' ∧ e'.err = e.err ∧ e.pos ≤ e'.pos) := by
  unfold parseL
  dsimp only
  have hF : 2 * l.length + 10 ≤ 2 * u.length + 10 := by rw [hu]; simp; omega
  generalize hFe : 2 * l.length + 10 = F at hF ⊢
  generalize 2 * u.length + 10 = F' at hF ⊢
  have hn := first_sim hP l u hu
  cases h1 : nextL l 0 with
  | error f =>
    refine ⟨fun y e => (by cases e), fun f0 e => ?_⟩
    cases e
    rcases hn.2 _ h1 with h | ⟨f', h1, h2, h3⟩
    · exact Or.inl h
    · rw [h1]; exact Or.inr ⟨f', rfl, h2, h3⟩
  | ok s =>
    obtain ⟨s', h2, hS⟩ := hn.1 s h1
    rw [h2]
    dsimp only
    have hm : mu l.length s < F := by unfold mu; split <;> omega
    have hR := reqMore_sim hP hu hF F F' [] s s' hF hm hm hS
    cases h3 : reqMore l F F [] s with
    | error f =>
      refine ⟨fun y e => (by cases e), fun f0 e => ?_⟩
      cases e
      rcases hR.2 _ h3 with h | ⟨f', h1, h2, h3⟩
      · exact Or.inl h
      · rw [h1]; exact Or.inr ⟨f', rfl, h2, h3⟩
    | ok y =>
      obtain ⟨y', h4, h5, h6⟩ := hR.1 y h3
      rw [h4]
      dsimp only
      have d := (reqMore_dn F [] s hS.gd y h3).2
      rw [show y'.1 = y.1 from h5.symm]
      have hC := cmdsMore_sim (zCmd 7) (sub := cmdL l y.1 F 7) (sub' := cmdL u y.1 F' 7) (fun s g => cmd_dn 7 s g) (M := F) (fun s s' hm h => cmdL_sim hP hu y.1 hF 7 s s' hm h) F F' [] [] y.2 y'.2 rfl hF (by omega) (by omega) h6
      cases h7 : cmdsMore (cmdL l y.1 F 7) F [] y.2 with
      | error f =>
        refine ⟨fun y e => (by cases e), fun f0 e => ?_⟩
        cases e
        rcases hC.2 _ h7 with h | ⟨f', h1, h2, h3⟩
        · exact Or.inl h
        · rw [h1]; exact Or.inr ⟨f', rfl, h2, h3⟩
      | ok cs =>
        obtain ⟨cs', h8, h9⟩ := hC.1 cs h7
        rw [h8]
        refine ⟨fun y e => ?_, fun f e => by cases e⟩
        cases e
        exact ⟨_, rfl, rfl, h9⟩

end

/-- What Spaced puts ahead and behind. -/
def padA : Nat → List UInt8
  | 0 => [32]
  | 1 => [35, 10]
  | 2 => [47, 42, 32, 34, 32, 42, 47]
  | _ => [32, 9, 13, 10, 47, 42, 32, 107, 101, 101, 112, 59, 32, 42, 47, 35, 32, 100, 105, 115, 99, 97, 114, 100, 59, 10]
def padB : Nat → List UInt8
  | 0 => [10]
  | 1 => [10, 47, 42, 42, 47]
  | 2 => [10, 35, 32, 101, 110, 100]
  | _ => [10]

theorem pad_ok0 : Pad (padA 0) (padB 0) := ⟨fun r p => skipS_blank r p rfl, fun p => by show skipS [10] p = _; rw [skipS_blank _ _ (by decide), skipS_nil]; rfl, ⟨_, rfl⟩⟩
theorem pad_ok1 : Pad (padA 1) (padB 1) := ⟨fun r p => by
    show skipS (35 :: 10 :: r) p = _
    have e : lineLen (35 :: 10 :: r) = 2 := by simp [lineLen, Lib.indexByte]
    rw [skipS_line _ _ (by decide) (by decide), e]; rfl, fun p => by
    show skipS [10, 47, 42, 42, 47] p = _
    have e : Lib.index (List.drop 1 [42, 42, 47]) [42, 47] = 0 := by decide
    rw [skipS_blank _ _ (by decide), skipS_rem _ _ (by decide) (by decide) (by decide) (by rw [e]; decide), e]
    exact skipS_nil _, ⟨_, rfl⟩⟩
theorem pad_ok2 : Pad (padA 2) (padB 2) := ⟨fun r p => by
    show skipS (47 :: 42 :: 32 :: 34 :: 32 :: 42 :: 47 :: r) p = _
    have e : Lib.index (List.drop 1 (42 :: 32 :: 34 :: 32 :: 42 :: 47 :: r)) [42, 47] = 3 := by simp [Lib.index, List.isPrefixOf]
    rw [skipS_rem _ _ (by decide) (by decide) (by simp [Lib.hasPrefix, List.isPrefixOf]) (by rw [e]; decide), e]
    rfl, fun p => by
    show skipS [10, 35, 32, 101, 110, 100] p = _
    have e : lineLen [35, 32, 101, 110, 100] = 5 := by decide
    rw [skipS_blank _ _ (by decide), skipS_line _ _ (by decide) (by decide), e]
    exact skipS_nil _, ⟨_, rfl⟩⟩
theorem pad_ok3 : Pad (padA 3) (padB 3) := ⟨fun r p => by
    show skipS (32 :: 9 :: 13 :: 10 :: 47 :: 42 :: 32 :: 107 :: 101 :: 101 :: 112 :: 59 :: 32 :: 42 :: 47 :: 35 :: 32 :: 100 :: 105 :: 115 :: 99 :: 97 :: 114 :: 100 :: 59 :: 10 :: r) p = _
    have e : Lib.index (List.drop 1 (42 :: 32 :: 107 :: 101 :: 101 :: 112 :: 59 :: 32 :: 42 :: 47 :: 35 :: 32 :: 100 :: 105 :: 115 :: 99 :: 97 :: 114 :: 100 :: 59 :: 10 :: r)) [42, 47] = 7 := by simp [Lib.index, List.isPrefixOf]
    have e2 : lineLen (35 :: 32 :: 100 :: 105 :: 115 :: 99 :: 97 :: 114 :: 100 :: 59 :: 10 :: r) = 11 := by simp [lineLen, Lib.indexByte]
    rw [skipS_blank _ _ (by decide), skipS_blank _ _ (by decide), skipS_blank _ _ (by decide), skipS_blank _ _ (by decide), skipS_rem _ _ (by decide) (by decide) (by simp [Lib.hasPrefix, List.isPrefixOf]) (by rw [e]; decide), e]
    show skipS (35 :: 32 :: 100 :: 105 :: 115 :: 99 :: 97 :: 114 :: 100 :: 59 :: 10 :: r) _ = _
    rw [skipS_line _ _ (by decide) (by decide), e2]
    rfl, fun p => by show skipS [10] p = _; rw [skipS_blank _ _ (by decide), skipS_nil]; rfl, ⟨_, rfl⟩⟩
theorem pad_ok (n : Nat) (h : n < 4) : Pad (padA n) (padB n) := by
  rcases (by omega : n = 0 ∨ n = 1 ∨ n = 2 ∨ n = 3) with h | h | h | h <;> subst h
  · exact pad_ok0
  · exact pad_ok1
  · exact pad_ok2
  · exact pad_ok3

end Go.Proofs.YtbiclelojbfnbaaGreatDoor
