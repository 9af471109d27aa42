/- What the plain parser reads is less each time. It imports nothing of the program. -/
import Derived.Test.YtbiclelojbfnbaaGreatDoorPlainParse
namespace Go.Proofs.YtbiclelojbfnbaaGreatDoor

/-- A state that the reader can be in. -/
def Gd (l : List UInt8) (s : PS) : Prop := s.2 ≤ l.length ∧ (s.1.kind = 0 → s.1.spelt = [])
/-- By c at least there is less to read behind it. -/
def Dn {α : Type} (c : Nat) (l : List UInt8) (r : Except Flt (α × PS)) (s : PS) : Prop := ∀ y, r = .ok y → Gd l y.2 ∧ mu l.length y.2 + c ≤ mu l.length s

theorem Dn.err {α : Type} {c : Nat} {l : List UInt8} {f : Flt} {s : PS} : Dn c l (.error f : Except Flt (α × PS)) s := fun y h => by cases h
theorem Dn.ok {α : Type} {l : List UInt8} {a : α} {s : PS} (h : Gd l s) : Dn 0 l (.ok (a, s) : Except Flt (α × PS)) s := fun y e => by cases e; exact ⟨h, Nat.le_refl _⟩
theorem Dn.weak {α : Type} {c c' : Nat} {l : List UInt8} {r : Except Flt (α × PS)} {s : PS} (h : Dn c l r s) (hc : c' ≤ c) : Dn c' l r s := fun y e => ⟨(h y e).1, by have := (h y e).2; omega⟩
theorem Dn.andThen {α β : Type} {c c' : Nat} {l : List UInt8} {r : Except Flt (α × PS)} {k : α → PS → Except Flt (β × PS)} {s : PS} (h : Dn c l r s) (hk : ∀ a s1, Gd l s1 → Dn c' l (k a s1) s1) : Dn (c + c') l (thenL r k) s := fun y e => by
  cases hr : r with
  | error f => rw [thenL_err hr] at e; cases e
  | ok z =>
    rw [thenL_ok hr] at e
    obtain ⟨h1, h2⟩ := h z hr
    obtain ⟨h3, h4⟩ := hk z.1 z.2 h1 y e
    exact ⟨h3, by omega⟩
theorem next_gd {l : List UInt8} {s y : PS} (h : Gd l s) (hn : nextL l s.2 = .ok y) : Gd l y := by
  obtain ⟨h1, h2, h3, h4, h5⟩ := nextL_le l s.2 h.1 y hn
  exact ⟨h2, h4⟩
theorem Dn.next {β : Type} {c : Nat} {l : List UInt8} {k : PS → Except Flt (β × PS)} {s : PS} (h : Gd l s) (hz : ¬ s.1.kind = 0) (hk : ∀ s1, Gd l s1 → Dn c l (k s1) s1) : Dn (c + 1) l (nextThen l s k) s := fun y e => by
  cases hr : nextL l s.2 with
  | error f => rw [nextThen_err hr] at e; cases e
  | ok z =>
    rw [nextThen_ok hr] at e
    have h1 := nextL_mu h.1 hz hr
    obtain ⟨h3, h4⟩ := hk z (next_gd h hr) y e
    exact ⟨h3, by omega⟩
theorem pass_dn {l : List UInt8} {zs : List (List UInt8)} {s : PS} (h : Gd l s) (hz : ∀ z ∈ zs, z ≠ []) : Dn 1 l (passL l zs s) s := fun y e => by
  refine ⟨?_, (passL_mu h.1 h.2 hz e).1⟩
  unfold passL at e
  split at e
  · cases e
  · cases hn : nextL l s.2 with
    | error f => rw [hn] at e; cases e
    | ok s' => rw [hn] at e; cases e; exact next_gd h hn
theorem may_dn {l : List UInt8} {zs : List (List UInt8)} {s : PS} (h : Gd l s) (hz : ∀ z ∈ zs, z ≠ []) : Dn 0 l (mayL l zs s) s := fun y e => by
  refine ⟨?_, (mayL_mu h.1 h.2 hz e).1⟩
  unfold mayL at e
  split at e
  · cases e; exact h
  · cases hn : nextL l s.2 with
    | error f => rw [hn] at e; cases e
    | ok s' => rw [hn] at e; cases e; exact next_gd h hn
theorem string_dn {l : List UInt8} {chk : List UInt8 → Nat} {s : PS} (h : Gd l s) : Dn 1 l (stringL l chk s) s := fun y e => by
  refine ⟨?_, (stringL_mu h.1 e).1⟩
  unfold stringL at e
  split at e
  · split at e
    · cases hn : nextL l s.2 with
      | error f => rw [hn] at e; cases e
      | ok s' => rw [hn] at e; cases e; exact next_gd h hn
    · cases e
  · cases e
theorem more_dn {l : List UInt8} {chk : List UInt8 → Nat} : ∀ (f : Nat) (acc : List (List UInt8)) (s : PS), Gd l s → Dn 0 l (moreL l chk f acc s) s
  | 0, acc, s, h => Dn.ok h
  | f + 1, acc, s, h => fun y e => by
    rw [moreL] at e
    cases hp : passL l [[44], [93]] s with
    | error g => rw [hp] at e; cases e
    | ok z =>
      rw [hp] at e
      obtain ⟨h1, h2⟩ := pass_dn (zs := [[44], [93]]) h (by decide) z hp
      dsimp only at e
      split at e
      · cases hs : stringL l chk z.2 with
        | error g => rw [hs] at e; cases e
        | ok x =>
          rw [hs] at e
          obtain ⟨h3, h4⟩ := string_dn h1 x hs
          obtain ⟨h5, h6⟩ := more_dn f _ x.2 h3 y e
          exact ⟨h5, by omega⟩
      · cases e; exact ⟨h1, by dsimp only; omega⟩
theorem strings_dn {l : List UInt8} {chk : List UInt8 → Nat} {F : Nat} {s : PS} (h : Gd l s) : Dn 1 l (stringsL l chk F s) s := fun y e => by
  unfold stringsL at e
  cases hm : mayL l [[91]] s with
  | error g => rw [hm] at e; cases e
  | ok z =>
    rw [hm] at e
    obtain ⟨h1, h2⟩ := may_dn (zs := [[91]]) h (by decide) z hm
    dsimp only at e
    cases hs : stringL l chk z.2 with
    | error g => rw [hs] at e; cases e
    | ok x =>
      rw [hs] at e
      obtain ⟨h3, h4⟩ := string_dn h1 x hs
      dsimp only at e
      split at e
      · cases e; exact ⟨h3, by dsimp only; omega⟩
      · obtain ⟨h5, h6⟩ := more_dn F _ x.2 h3 y e
        exact ⟨h5, by omega⟩
theorem kind_which {l : List UInt8} {zs : List (List UInt8)} {s : PS} (h : Gd l s) (hz : ∀ z ∈ zs, z ≠ []) (h0 : ¬ whichL zs s.1.spelt = 0) : ¬ s.1.kind = 0 := fun e => h0 (by rw [h.2 e]; exact whichL_nil zs hz)
theorem opt_dn {l : List UInt8} : ∀ (f tag : Nat) (oct cmp : Bool) (s : PS), Gd l s → Dn 0 l (optL l f tag oct cmp s) s
  | 0, tag, oct, cmp, s, h => Dn.ok h
  | f + 1, tag, oct, cmp, s, h => by
    rw [optL]
    by_cases h1 : whichL [tIs, tContains, tMatches] s.1.spelt = 0
    · rw [if_pos h1]
      by_cases h2 : whichL [tComparator] s.1.spelt = 0
      · rw [if_pos h2]; exact Dn.ok h
      · rw [if_neg h2]
        cases cmp
        · rw [if_neg (by decide)]
          refine (Dn.next (c := 0) h (kind_which (zs := [tComparator]) h (by decide) h2) fun s1 g1 => ?_).weak (by omega)
          exact ((string_dn g1).andThen (c' := 0) fun x s2 g2 => opt_dn f _ _ _ s2 g2).weak (by omega)
        · rw [if_pos rfl]; exact Dn.err
    · rw [if_neg h1]
      by_cases ht : tag = 0
      · rw [if_pos ht]
        exact (Dn.next (c := 0) h (kind_which (zs := [tIs, tContains, tMatches]) h (by decide) h1) fun s1 g1 => opt_dn f _ _ _ s1 g1).weak (by omega)
      · rw [if_neg ht]; exact Dn.err
theorem match_dn {l : List UInt8} {F : Nat} {chk : List UInt8 → Nat} {k pos : Nat} {s : PS} (h : Gd l s) : Dn 0 l (matchL l F chk k pos s) s := by
  unfold matchL
  exact ((opt_dn F 0 false false s h).andThen (c' := 1) fun o s1 g1 => ((strings_dn g1).andThen (c' := 0) fun fr s2 g2 => ((strings_dn g2).andThen (c' := 0) fun ks s3 g3 => Dn.ok g3).weak (by omega)).weak (by omega)).weak (by omega)
theorem groupMore_dn {α : Type} {l : List UInt8} {sub : PS → Except Flt (α × PS)} (hs : ∀ s, Gd l s → Dn 1 l (sub s) s) : ∀ (f : Nat) (acc : List α) (s : PS), Gd l s → Dn 0 l (groupMore l sub f acc s) s
  | 0, acc, s, h => Dn.ok h
  | f + 1, acc, s, h => by
    rw [groupMore]
    refine ((pass_dn h (by decide)).andThen (c' := 0) fun i s1 g1 => ?_).weak (by omega)
    split
    · exact ((hs s1 g1).andThen (c' := 0) fun t s2 g2 => groupMore_dn hs f _ s2 g2).weak (by omega)
    · exact Dn.ok g1
theorem group_dn {α : Type} {l : List UInt8} {F : Nat} {sub : PS → Except Flt (α × PS)} (hs : ∀ s, Gd l s → Dn 1 l (sub s) s) {s : PS} (h : Gd l s) : Dn 0 l (groupL l F sub s) s := by
  unfold groupL
  exact ((pass_dn h (by decide)).andThen (c' := 0) fun _ s1 g1 => ((hs s1 g1).andThen (c' := 0) fun t s2 g2 => groupMore_dn hs F _ s2 g2).weak (by omega)).weak (by omega)
theorem size_dn {l : List UInt8} {pos : Nat} {s : PS} (h : Gd l s) : Dn 0 l (sizeL l pos s) s := by
  unfold sizeL
  refine ((pass_dn h (by decide)).andThen (c' := 0) fun i s1 g1 => ?_).weak (by omega)
  split
  · rename_i hk
    exact (Dn.next (c := 0) g1 (by omega) fun s2 g2 => Dn.ok g2).weak (by omega)
  · exact Dn.err
theorem testBody_dn {α : Type} {l : List UInt8} {F : Nat} {sub : PS → Except Flt (α × PS)} (hs : ∀ s, Gd l s → Dn 1 l (sub s) s) (k pos : Nat) {s : PS} (h : Gd l s) : Dn 0 l (testBody l F sub k pos s) s := by
  unfold testBody
  split
  · exact Dn.ok h
  · exact Dn.ok h
  · exact ((hs s h).andThen (c' := 0) fun _ _ g => Dn.ok g).weak (by omega)
  · exact ((group_dn hs h).andThen (c' := 0) fun _ _ g => Dn.ok g).weak (by omega)
  · exact ((group_dn hs h).andThen (c' := 0) fun _ _ g => Dn.ok g).weak (by omega)
  · exact ((match_dn h).andThen (c' := 0) fun _ _ g => Dn.ok g).weak (by omega)
  · exact ((match_dn h).andThen (c' := 0) fun _ _ g => Dn.ok g).weak (by omega)
  · exact ((match_dn h).andThen (c' := 0) fun _ _ g => Dn.ok g).weak (by omega)
  · exact ((strings_dn h).andThen (c' := 0) fun _ _ g => Dn.ok g).weak (by omega)
  · exact ((size_dn h).andThen (c' := 0) fun _ _ g => Dn.ok g).weak (by omega)
theorem test_dn {l : List UInt8} {req : List (List UInt8)} {F : Nat} : ∀ (n : Nat) (s : PS), Gd l s → Dn 1 l (testL l req F n s) s
  | 0, s, h => by
    rw [testL]
    split <;> exact Dn.err
  | n + 1, s, h => by
    rw [testL]
    by_cases h0 : whichL testNames s.1.spelt = 0
    · rw [if_pos h0]; exact Dn.err
    · rw [if_neg h0]
      cases hu : useOk req s.1.spelt
      · rw [if_neg (by decide)]; exact Dn.err
      · rw [if_pos rfl]
        exact (Dn.next (c := 0) h (kind_which (zs := testNames) h (by decide) h0) fun s1 g1 => testBody_dn (fun s g => test_dn n s g) _ _ g1).weak (by omega)



theorem blockMore_dn {α : Type} {l : List UInt8} {sub : PS → Except Flt (α × PS)} (hs : ∀ s, Gd l s → Dn 1 l (sub s) s) : ∀ (f : Nat) (acc : List α) (s : PS), Gd l s → Dn 0 l (blockMore l sub f acc s) s
  | 0, acc, s, h => Dn.ok h
  | f + 1, acc, s, h => by
    rw [blockMore]
    refine ((may_dn h (by decide)).andThen (c' := 0) fun i s1 g1 => ?_).weak (by omega)
    split
    · exact ((hs s1 g1).andThen (c' := 0) fun t s2 g2 => blockMore_dn hs f _ s2 g2).weak (by omega)
    · exact Dn.ok g1
theorem block_dn {α : Type} {l : List UInt8} {F : Nat} {sub : PS → Except Flt (α × PS)} (hs : ∀ s, Gd l s → Dn 1 l (sub s) s) {s : PS} (h : Gd l s) : Dn 1 l (blockL l F sub s) s := by
  unfold blockL
  exact (pass_dn h (by decide)).andThen (c' := 0) fun _ s1 g1 => blockMore_dn hs F _ s1 g1
theorem arm_dn {α β : Type} {l : List UInt8} {F : Nat} {tst : PS → Except Flt (β × PS)} {sub : PS → Except Flt (α × PS)} (ht : ∀ s, Gd l s → Dn 1 l (tst s) s) (hs : ∀ s, Gd l s → Dn 1 l (sub s) s) {s : PS} (h : Gd l s) : Dn 1 l (armL l F tst sub s) s := by
  unfold armL
  exact ((ht s h).andThen (c' := 0) fun t s1 g1 => ((block_dn hs g1).andThen (c' := 0) fun cs s2 g2 => Dn.ok g2).weak (by omega))
theorem arms_dn {α β : Type} {l : List UInt8} {F : Nat} {tst : PS → Except Flt (β × PS)} {sub : PS → Except Flt (α × PS)} (ht : ∀ s, Gd l s → Dn 1 l (tst s) s) (hs : ∀ s, Gd l s → Dn 1 l (sub s) s) : ∀ (f : Nat) (acc : List (β × List α)) (s : PS), Gd l s → Dn 0 l (armsMore l F tst sub f acc s) s
  | 0, acc, s, h => Dn.ok h
  | f + 1, acc, s, h => by
    rw [armsMore]
    refine ((may_dn h (by decide)).andThen (c' := 0) fun i s1 g1 => ?_).weak (by omega)
    split
    · exact Dn.ok g1
    · exact ((arm_dn ht hs g1).andThen (c' := 0) fun a s2 g2 => arms_dn ht hs f _ s2 g2).weak (by omega)
theorem semi_dn {α : Type} {l : List UInt8} {s : PS} {a : α} (h : Gd l s) : Dn 0 l (semi l s a) s := by
  unfold semi
  exact ((pass_dn h (by decide)).andThen (c' := 0) fun _ s1 g1 => Dn.ok g1).weak (by omega)
theorem cmdBody_dn {α β : Type} {l : List UInt8} {F : Nat} {tst : PS → Except Flt (β × PS)} {sub : PS → Except Flt (α × PS)} (ht : ∀ s, Gd l s → Dn 1 l (tst s) s) (hs : ∀ s, Gd l s → Dn 1 l (sub s) s) (k pos : Nat) {s : PS} (h : Gd l s) : Dn 0 l (cmdBody l F tst sub k pos s) s := by
  unfold cmdBody
  split
  · exact semi_dn h
  · exact semi_dn h
  · exact semi_dn h
  · exact ((string_dn h).andThen (c' := 0) fun _ _ g => semi_dn g).weak (by omega)
  · exact ((string_dn h).andThen (c' := 0) fun _ _ g => semi_dn g).weak (by omega)
  · exact ((string_dn h).andThen (c' := 0) fun _ _ g => semi_dn g).weak (by omega)
  · exact ((may_dn h (by decide)).andThen (c' := 0) fun _ _ g1 => ((string_dn g1).andThen (c' := 0) fun _ _ g2 => ((string_dn g2).andThen (c' := 0) fun _ _ g3 => semi_dn g3).weak (by omega)).weak (by omega)).weak (by omega)
  · refine ((arm_dn ht hs h).andThen (c' := 0) fun a s1 g1 => ((arms_dn ht hs F _ s1 g1).andThen (c' := 0) fun arms s2 g2 => ((may_dn g2 (by decide)).andThen (c' := 0) fun i s3 g3 => ?_).weak (by omega)).weak (by omega)).weak (by omega)
    split
    · exact Dn.ok g3
    · exact ((block_dn hs g3).andThen (c' := 0) fun _ _ g4 => Dn.ok g4).weak (by omega)
theorem cmd_dn {l : List UInt8} {req : List (List UInt8)} {F : Nat} : ∀ (n : Nat) (s : PS), Gd l s → Dn 1 l (cmdL l req F n s) s
  | 0, s, h => by
    rw [cmdL]
    split <;> exact Dn.err
  | n + 1, s, h => by
    rw [cmdL]
    by_cases h0 : whichL cmdNames s.1.spelt = 0
    · rw [if_pos h0]; exact Dn.err
    · rw [if_neg h0]
      cases hu : useOk req s.1.spelt
      · rw [if_neg (by decide)]; exact Dn.err
      · rw [if_pos rfl]
        exact (Dn.next (c := 0) h (kind_which (zs := cmdNames) h (by decide) h0) fun s1 g1 => cmdBody_dn (fun s g => test_dn n s g) (fun s g => cmd_dn n s g) _ _ g1).weak (by omega)

end Go.Proofs.YtbiclelojbfnbaaGreatDoor
