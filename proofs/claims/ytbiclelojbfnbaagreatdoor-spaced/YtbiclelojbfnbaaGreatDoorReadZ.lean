import Derived.Test.YtbiclelojbfnbaaGreatDoorChoice
import Derived.MapFrom
import Derived.Orders
import Derived.OrdersHeld
import Derived.Defers
import Derived.Recover
namespace Go.Proofs.YtbiclelojbfnbaaGreatDoor
open Go.RowKit
set_option linter.unusedVariables false
set_option linter.unusedSimpArgs false
attribute [local go_sem ↓] Go.wp_at_zero Go.wp_at_succ

/-- The functions behind the words of commands. -/
def cmdFn (b p1 k1 p2 k2 p3 k3 : Nat) (x : List UInt8) : Option Value :=
  match whichL cmdNames x with
  | 1 => some (.func (.func 152) #[.pointer (some ⟨b, 0, none⟩)] #[])
  | 2 => some (.func (.func 153) #[.pointer (some ⟨b, 0, none⟩)] #[])
  | 3 => some (.func (.func 154) #[.pointer (some ⟨b, 0, none⟩)] #[])
  | 4 => some (.func (.func 244) #[] #[.pointer (some ⟨p1, 0, none⟩), .pointer (some ⟨k1, 0, none⟩)])
  | 5 => some (.func (.func 244) #[] #[.pointer (some ⟨p2, 0, none⟩), .pointer (some ⟨k2, 0, none⟩)])
  | 6 => some (.func (.func 244) #[] #[.pointer (some ⟨p3, 0, none⟩), .pointer (some ⟨k3, 0, none⟩)])
  | 7 => some (.func (.func 156) #[.pointer (some ⟨b, 0, none⟩)] #[])
  | 8 => some (.func (.func 157) #[.pointer (some ⟨b, 0, none⟩)] #[])
  | _ => none

structure CMap (w : World) (b mc p1 k1 p2 k2 p3 k3 : Nat) : Prop where
  look : LookOk w 257 mc (cmdFn b p1 k1 p2 k2 p3 k3)
  hp1 : PrAt w p1 b
  hk1 : w.cell? ⟨k1, 0, none⟩ = some (.int .i64 2)
  hp2 : PrAt w p2 b
  hk2 : w.cell? ⟨k2, 0, none⟩ = some (.int .i64 3)
  hp3 : PrAt w p3 b
  hk3 : w.cell? ⟨k3, 0, none⟩ = some (.int .i64 4)
  k1b : k1 ≠ b
  k2b : k2 ≠ b
  k3b : k3 ≠ b
  mcb : mc ≠ b
  mcl : mc < w.heap.size
theorem CMap.mod {w w' : World} {b mc p1 k1 p2 k2 p3 k3 : Nat} (h : CMap w b mc p1 k1 p2 k2 p3 k3) (hm : Mod b w w') : CMap w' b mc p1 k1 p2 k2 p3 k3 :=
  ⟨fun W x e => h.look W x (e.trans (hm.block mc h.mcl h.mcb)), h.hp1.mod hm, cell_mod h.hk1 hm h.k1b, h.hp2.mod hm, cell_mod h.hk2 hm h.k2b, h.hp3.mod hm, cell_mod h.hk3 hm h.k3b, h.k1b, h.k2b, h.k3b, h.mcb, Nat.lt_of_lt_of_le h.mcl hm.size⟩

theorem cmdFn_none {b p1 k1 p2 k2 p3 k3 : Nat} {x : List UInt8} (h : whichL cmdNames x = 0) : cmdFn b p1 k1 p2 k2 p3 k3 x = none := by unfold cmdFn; rw [h]; rfl
theorem cmdFn_some {b p1 k1 p2 k2 p3 k3 : Nat} {x : List UInt8} (h : ¬ whichL cmdNames x = 0) : ∃ fv, cmdFn b p1 k1 p2 k2 p3 k3 x = some fv := by
  have hle := whichL_le cmdNames x
  have hl : cmdNames.length = 8 := rfl
  unfold cmdFn
  generalize whichL cmdNames x = i at *
  rcases (by omega : i = 1 ∨ i = 2 ∨ i = 3 ∨ i = 4 ∨ i = 5 ∨ i = 6 ∨ i = 7 ∨ i = 8) with h | h | h | h | h | h | h | h <;> subst h <;> exact ⟨_, rfl⟩

theorem cmdNames_letter : ∀ z ∈ cmdNames, ∀ c r, z = c :: r → isLetN c.toNat = true := by
  intro z hz c r e
  simp [cmdNames] at hz
  rcases hz with h | h | h | h | h | h | h | h <;> subst h <;> cases e <;> decide
theorem cmdNames_ne : ∀ z ∈ cmdNames, z ≠ [] := by decide
theorem cmd_kind {s : PS} (hn : ¬ s.1.kind = 1 → NoName s.1.spelt) (h : ¬ whichL cmdNames s.1.spelt = 0) : s.1.kind = 1 := by
  apply Classical.byContradiction
  intro hk
  have hm := whichL_mem h
  have hne := cmdNames_ne _ hm
  cases hsp : s.1.spelt with
  | nil => exact hne hsp
  | cons c r =>
    have h1 := cmdNames_letter _ hm c r hsp
    have h2 := hn hk c r hsp
    rw [h1] at h2
    cases h2

theorem cmdL_nextErr {l : List UInt8} {req : List (List UInt8)} {F n k : Nat} {s : PS} {f : Flt} (hi : whichL cmdNames s.1.spelt = k + 1) (hu : useOk req s.1.spelt = true) (hn : nextL l s.2 = .error f) : cmdL l req F (n + 1) s = .error f := by
  rw [cmdL, if_neg (by omega), if_pos hu]; exact nextThen_err hn
theorem cmdL_body {l : List UInt8} {req : List (List UInt8)} {F n k : Nat} {s y : PS} (hi : whichL cmdNames s.1.spelt = k + 1) (hu : useOk req s.1.spelt = true) (hn : nextL l s.2 = .ok y) : cmdL l req F (n + 1) s = cmdBody l F (testL l req F n) (cmdL l req F n) k s.1.pos y := by
  rw [cmdL, if_neg (by omega), if_pos hu]
  refine (nextThen_ok hn).trans ?_
  show cmdBody l F (testL l req F n) (cmdL l req F n) (whichL cmdNames s.1.spelt - 1) s.1.pos y = _
  rw [hi]
  rfl

section
variable {α β : Type} {l : List UInt8} {F pos : Nat} {tst : PS → Except Flt (β × PS)} {sub : PS → Except Flt (α × PS)} {s : PS}
theorem semi_ok {α : Type} {l : List UInt8} {s : PS} {a : α} {q : Nat × PS} (h : passL l [[59]] s = .ok q) : semi l s a = .ok (a, q.2) := thenL_ok h
theorem semi_err {α : Type} {l : List UInt8} {s : PS} {a : α} {f : Flt} (h : passL l [[59]] s = .error f) : semi l s a = .error f := thenL_err h
theorem cmdBody_3 : cmdBody l F tst sub 3 pos s = thenL (stringL l (fun _ => 0) s) fun x s1 => semi l s1 (⟨3, pos, 0, x, [], false⟩, [], []) := rfl
theorem act_body3 : cmdBody l F tst sub 3 pos s = thenL (actL l s) fun x s1 => .ok ((⟨3, pos, 0, x, [], false⟩, [], []), s1) := by
  rw [cmdBody_3]
  unfold actL
  cases stringL l (fun _ => 0) s with
  | error f => rfl
  | ok y =>
    rw [thenL_ok (r := .ok y) rfl, thenL_ok (r := .ok y) rfl]
    unfold semi
    cases passL l [[59]] y.2 with
    | error f => rfl
    | ok z => rfl
theorem act_ok3 {q : List UInt8 × PS} (h : actL l s = .ok q) : cmdBody l F tst sub 3 pos s = .ok ((⟨3, pos, 0, q.1, [], false⟩, [], []), q.2) := act_body3.trans (thenL_ok h)
theorem act_err3 {f : Flt} (h : actL l s = .error f) : cmdBody l F tst sub 3 pos s = .error f := act_body3.trans (thenL_err h)
theorem cmdBody_4 : cmdBody l F tst sub 4 pos s = thenL (stringL l (fun _ => 0) s) fun x s1 => semi l s1 (⟨4, pos, 0, x, [], false⟩, [], []) := rfl
theorem act_body4 : cmdBody l F tst sub 4 pos s = thenL (actL l s) fun x s1 => .ok ((⟨4, pos, 0, x, [], false⟩, [], []), s1) := by
  rw [cmdBody_4]
  unfold actL
  cases stringL l (fun _ => 0) s with
  | error f => rfl
  | ok y =>
    rw [thenL_ok (r := .ok y) rfl, thenL_ok (r := .ok y) rfl]
    unfold semi
    cases passL l [[59]] y.2 with
    | error f => rfl
    | ok z => rfl
theorem act_ok4 {q : List UInt8 × PS} (h : actL l s = .ok q) : cmdBody l F tst sub 4 pos s = .ok ((⟨4, pos, 0, q.1, [], false⟩, [], []), q.2) := act_body4.trans (thenL_ok h)
theorem act_err4 {f : Flt} (h : actL l s = .error f) : cmdBody l F tst sub 4 pos s = .error f := act_body4.trans (thenL_err h)
theorem cmdBody_5 : cmdBody l F tst sub 5 pos s = thenL (stringL l (fun _ => 0) s) fun x s1 => semi l s1 (⟨5, pos, 0, x, [], false⟩, [], []) := rfl
theorem act_body5 : cmdBody l F tst sub 5 pos s = thenL (actL l s) fun x s1 => .ok ((⟨5, pos, 0, x, [], false⟩, [], []), s1) := by
  rw [cmdBody_5]
  unfold actL
  cases stringL l (fun _ => 0) s with
  | error f => rfl
  | ok y =>
    rw [thenL_ok (r := .ok y) rfl, thenL_ok (r := .ok y) rfl]
    unfold semi
    cases passL l [[59]] y.2 with
    | error f => rfl
    | ok z => rfl
theorem act_ok5 {q : List UInt8 × PS} (h : actL l s = .ok q) : cmdBody l F tst sub 5 pos s = .ok ((⟨5, pos, 0, q.1, [], false⟩, [], []), q.2) := act_body5.trans (thenL_ok h)
theorem act_err5 {f : Flt} (h : actL l s = .error f) : cmdBody l F tst sub 5 pos s = .error f := act_body5.trans (thenL_err h)
theorem cmdBody_6 : cmdBody l F tst sub 6 pos s = thenL (mayL l [tLower, tUpper, tLength] s) fun tag s1 => thenL (stringL l (fun x => if isNameL x then 0 else 7) s1) fun v s2 => thenL (stringL l (fun _ => 0) s2) fun x s3 => semi l s3 (⟨6, pos, tag, x, smallL v, false⟩, [], []) := rfl
theorem set_body : cmdBody l F tst sub 6 pos s = thenL (setL l s) fun q s1 => .ok ((⟨6, pos, q.1, q.2.2, q.2.1, false⟩, [], []), s1) := by
  rw [cmdBody_6]
  unfold setL
  cases mayL l [tLower, tUpper, tLength] s with
  | error f => rfl
  | ok y =>
    rw [thenL_ok (r := .ok y) rfl, thenL_ok (r := .ok y) rfl]
    cases stringL l (fun x => if isNameL x then 0 else 7) y.2 with
    | error f => rfl
    | ok z =>
      rw [thenL_ok (r := .ok z) rfl, thenL_ok (r := .ok z) rfl]
      cases stringL l (fun _ => 0) z.2 with
      | error f => rfl
      | ok u =>
        rw [thenL_ok (r := .ok u) rfl, thenL_ok (r := .ok u) rfl]
        unfold semi
        cases passL l [[59]] u.2 with
        | error f => rfl
        | ok v => rfl
theorem set_ok {q : (Nat × List UInt8 × List UInt8) × PS} (h : setL l s = .ok q) : cmdBody l F tst sub 6 pos s = .ok ((⟨6, pos, q.1.1, q.1.2.2, q.1.2.1, false⟩, [], []), q.2) := set_body.trans (thenL_ok h)
theorem set_err {f : Flt} (h : setL l s = .error f) : cmdBody l F tst sub 6 pos s = .error f := set_body.trans (thenL_err h)
theorem cmdBody_7 : cmdBody l F tst sub 7 pos s = thenL (armL l F tst sub s) fun a s1 => thenL (armsMore l F tst sub F [a] s1) fun arms s2 => thenL (mayL l [kElse] s2) fun i s3 => if i = 0 then .ok ((⟨7, pos, 0, [], [], false⟩, arms, []), s3) else thenL (blockL l F sub s3) fun cs s4 => .ok ((⟨7, pos, 0, [], [], true⟩, arms, cs), s4) := rfl
theorem if_body : cmdBody l F tst sub 7 pos s = thenL (choiceL l F tst sub s) fun x s1 => .ok ((⟨7, pos, 0, [], [], x.2.1⟩, x.1, x.2.2), s1) := by
  rw [cmdBody_7]
  unfold choiceL
  cases h1 : armL l F tst sub s with
  | error f => rfl
  | ok y =>
    rw [thenL_ok (r := .ok y) rfl, thenL_ok (r := .ok y) rfl]
    cases h2 : armsMore l F tst sub F [y.1] y.2 with
    | error f => rfl
    | ok z =>
      rw [thenL_ok (r := .ok z) rfl, thenL_ok (r := .ok z) rfl]
      cases h3 : mayL l [kElse] z.2 with
      | error f => rfl
      | ok u =>
        rw [thenL_ok (r := .ok u) rfl, thenL_ok (r := .ok u) rfl]
        by_cases h4 : u.1 = 0
        · rw [if_pos h4, if_pos h4]; rfl
        · rw [if_neg h4, if_neg h4]
          cases h5 : blockL l F sub u.2 with
          | error f => rfl
          | ok v => rfl
theorem if_ok {q : (List (β × List α) × Bool × List α) × PS} (h : choiceL l F tst sub s = .ok q) : cmdBody l F tst sub 7 pos s = .ok ((⟨7, pos, 0, [], [], q.1.2.1⟩, q.1.1, q.1.2.2), q.2) := if_body.trans (thenL_ok h)
theorem if_err {f : Flt} (h : choiceL l F tst sub s = .error f) : cmdBody l F tst sub 7 pos s = .error f := if_body.trans (thenL_err h)
end

set_option maxRecDepth 100000 in
set_option maxHeartbeats 1000000 in
theorem beginC_unknown (d : Int) (b : Nat) (t : ByteArray) (s : PS) (rv : Value) (mc mt p1 k1 p2 k2 p3 k3 : Nat) (w : World) (h : RC w b t s rv mc mt) (ht : CMap w b mc p1 k1 p2 k2 p3 k3) (hd : d ≤ 6) (h0 : whichL cmdNames s.1.spelt = 0) :
    Calls Tryz.prog 261 #[.pointer (some ⟨b, 0, none⟩), .map (some mc), .int .i64 d] w fun e w' => Threw ⟨4, s.1.pos⟩ w e w' ∧ Mod b w w' := by
  have h1 : w.cell? ⟨b, 1, none⟩ = some (.int .i64 s.1.kind) := h.at_.cell 1
  have h3 : w.cell? ⟨b, 3, none⟩ = some (.string (strA s.1.spelt)) := h.at_.cell 3
  have hlk := ht.look w s.1.spelt rfl
  rw [cmdFn_none h0] at hlk
  have H := hide h
  clear h ht h0
  simp only [Option.getD_none, Option.isSome_none] at hlk
  by_cases hk : s.1.kind = 1
  · have hk' : ((s.1.kind : Int) != 1) = false := by simp; omega
    clear hk
    go_enter Tryz.func261, Tryz.ntmps261
    go_wp2_with fail
    refine (demand_yes b _ _ _ rfl).mono ?_
    rintro e w' ⟨rfl, hww⟩
    subst hww
    go_wp2_with fail
    refine (demand_no b 4 _ _ t s.1 s.2 rv mc mt _ H.out.at_ rfl rfl).mono ?_
    rintro e w1 ⟨⟨bb, hz, rfl, hcc⟩, hm⟩
    exact ⟨rfl, ⟨bb, hz, rfl, hcc⟩, Mod.of_below hm⟩
  · have hk' : ((s.1.kind : Int) != 1) = true := by simp; omega
    clear hk
    go_enter Tryz.func261, Tryz.ntmps261
    go_wp2_with fail
    refine (demand_yes b _ _ _ rfl).mono ?_
    rintro e w' ⟨rfl, hww⟩
    subst hww
    go_wp2_with fail
    refine (demand_no b 4 _ _ t s.1 s.2 rv mc mt _ H.out.at_ rfl rfl).mono ?_
    rintro e w1 ⟨⟨bb, hz, rfl, hcc⟩, hm⟩
    exact ⟨rfl, ⟨bb, hz, rfl, hcc⟩, Mod.of_below hm⟩

set_option maxRecDepth 100000 in
set_option maxHeartbeats 1000000 in
theorem beginC_nouse (fv : Value) (req : List (List UInt8)) (d : Int) (b : Nat) (t : ByteArray) (s : PS) (rv : Value) (mc mt p1 k1 p2 k2 p3 k3 : Nat) (w : World) (h : RC w b t s rv mc mt) (ht : CMap w b mc p1 k1 p2 k2 p3 k3) (hr : ReqV w b rv req) (hd : d ≤ 6) (hk1 : s.1.kind = 1) (hf : cmdFn b p1 k1 p2 k2 p3 k3 s.1.spelt = some fv) (hu : useOk req s.1.spelt = false) :
    Calls Tryz.prog 261 #[.pointer (some ⟨b, 0, none⟩), .map (some mc), .int .i64 d] w fun e w' => Threw ⟨6, s.1.pos⟩ w e w' ∧ Mod b w w' := by
  have h1 : w.cell? ⟨b, 1, none⟩ = some (.int .i64 s.1.kind) := h.at_.cell 1
  have h3 : w.cell? ⟨b, 3, none⟩ = some (.string (strA s.1.spelt)) := h.at_.cell 3
  have hlk := ht.look w s.1.spelt rfl
  rw [hf] at hlk
  have H := hide h
  have HU := hide (mayUse_any s.1.spelt req b t s rv mc mt w h hr)
  rw [hu] at HU
  clear h ht hr hf hu
  simp only [Option.getD_some, Option.isSome_some] at hlk
  have hk' : ((s.1.kind : Int) != 1) = false := by simp; omega
  clear hk1
  go_enter Tryz.func261, Tryz.ntmps261
  go_wp2_with fail
  refine (demand_yes b _ _ _ rfl).mono ?_
  rintro e w' ⟨rfl, hww⟩
  subst w'
  go_wp2_with fail
  refine (demand_yes b _ _ _ rfl).mono ?_
  rintro e w' ⟨rfl, hww⟩
  subst w'
  go_wp2_with fail
  refine HU.out.mono ?_
  rintro e w' ⟨rfl, hww⟩
  subst w'
  go_wp2_with fail
  refine (demand_no b 6 _ _ t s.1 s.2 rv mc mt _ H.out.at_ rfl rfl).mono ?_
  rintro e w1 ⟨⟨bb, hz, rfl, hcc⟩, hm⟩
  exact ⟨rfl, ⟨bb, hz, rfl, hcc⟩, Mod.of_below hm⟩

set_option maxRecDepth 100000 in
set_option maxHeartbeats 1000000 in
theorem beginC_deep (b : Nat) (t : ByteArray) (s : PS) (rv : Value) (mc mt p1 k1 p2 k2 p3 k3 : Nat) (w : World) (h : RC w b t s rv mc mt) (ht : CMap w b mc p1 k1 p2 k2 p3 k3) :
    Calls Tryz.prog 261 #[.pointer (some ⟨b, 0, none⟩), .map (some mc), .int .i64 7] w fun e w' => Threw ⟨if s.1.kind = 1 then 5 else 4, s.1.pos⟩ w e w' ∧ Mod b w w' := by
  have h1 : w.cell? ⟨b, 1, none⟩ = some (.int .i64 s.1.kind) := h.at_.cell 1
  have h3 : w.cell? ⟨b, 3, none⟩ = some (.string (strA s.1.spelt)) := h.at_.cell 3
  have hlk := ht.look w s.1.spelt rfl
  have H := hide h
  by_cases hk : s.1.kind = 1
  · rw [if_pos hk]
    have hk' : ((s.1.kind : Int) != 1) = false := by simp; omega
    clear hk h ht hlk
    go_enter Tryz.func261, Tryz.ntmps261
    go_wp2_with fail
    refine (demand_no b 5 _ _ t s.1 s.2 rv mc mt _ H.out.at_ rfl rfl).mono ?_
    rintro e w1 ⟨⟨bb, hz, rfl, hcc⟩, hm⟩
    exact ⟨rfl, ⟨bb, hz, rfl, hcc⟩, Mod.of_below hm⟩
  · rw [if_neg hk]
    have h0 : whichL cmdNames s.1.spelt = 0 := by
      apply Classical.byContradiction
      intro h0
      exact hk (cmd_kind h.nm h0)
    rw [cmdFn_none h0] at hlk
    have hk' : ((s.1.kind : Int) != 1) = true := by simp; omega
    clear hk h ht h0
    simp only [Option.getD_none, Option.isSome_none] at hlk
    go_enter Tryz.func261, Tryz.ntmps261
    go_wp2_with fail
    refine (demand_yes b _ _ _ rfl).mono ?_
    rintro e w' ⟨rfl, hww⟩
    subst w'
    go_wp2_with fail
    refine (demand_no b 4 _ _ t s.1 s.2 rv mc mt _ H.out.at_ rfl rfl).mono ?_
    rintro e w1 ⟨⟨bb, hz, rfl, hcc⟩, hm⟩
    exact ⟨rfl, ⟨bb, hz, rfl, hcc⟩, Mod.of_below hm⟩

set_option maxRecDepth 100000 in
set_option maxHeartbeats 4000000 in
theorem beginC_Keep (n : Nat) (req : List (List UInt8)) (d : Int) (b F : Nat) (t : ByteArray) (s : PS) (rv : Value) (mc mt p1 k1 p2 k2 p3 k3 : Nat) (w : World) (h : RC w b t s rv mc mt) (ht : CMap w b mc p1 k1 p2 k2 p3 k3) (hr : ReqV w b rv req) (hF : 2 * t.size + 1 < F) (hd0 : 0 ≤ d) (hd : d ≤ 6) (hk1 : s.1.kind = 1) (hS : SubMu t.size (cmdL t.data.toList req F n)) (ho1 : SubOk 252 w b t rv mc mt (d + 1) (testL t.data.toList req F n) (TestV n)) (ho : SubOk 174 w b t rv mc mt (d + 1) (cmdL t.data.toList req F n) (CmdV n)) (hi : whichL cmdNames s.1.spelt = 0 + 1) (hu : useOk req s.1.spelt = true) :
    Calls Tryz.prog 261 #[.pointer (some ⟨b, 0, none⟩), .map (some mc), .int .i64 d] w (RPost (cmdL t.data.toList req F (n + 1) s) b t rv mc mt w (CmdV (n + 1) (fromB w.heap.size))) := by
  have h1 : w.cell? ⟨b, 1, none⟩ = some (.int .i64 s.1.kind) := h.at_.cell 1
  have h2 : w.cell? ⟨b, 2, none⟩ = some (.int .i64 s.1.pos) := h.at_.cell 2
  have h3 : w.cell? ⟨b, 3, none⟩ = some (.string (strA s.1.spelt)) := h.at_.cell 3
  have hlk := ht.look w s.1.spelt rfl
  have hfn : cmdFn b p1 k1 p2 k2 p3 k3 s.1.spelt = some (.func (.func 152) #[.pointer (some ⟨b, 0, none⟩)] #[]) := by unfold cmdFn; rw [hi]; rfl
  rw [hfn] at hlk
  have hsp : s.1.spelt = kKeep := by
    have := whichL_get _ _ _ hi
    simpa [cmdNames] using this.symm
  have H := hide h
  have HT := hide ht
  have HU := hide (mayUse_any s.1.spelt req b t s rv mc mt w h hr)
  rw [hu] at HU
  have HSP := hide hsp
  have HI := hide hi
  have HUU := hide hu
  have HS := hide hS
  have HO := hide ho
  have HO1 := hide ho1
  have hlt := h.at_.lt
  clear h ht hr hfn hsp hi hu hS ho ho1
  simp only [Option.getD_some, Option.isSome_some] at hlk
  have hk' : ((s.1.kind : Int) != 1) = false := by simp; omega
  clear hk1
  go_enter Tryz.func261, Tryz.ntmps261
  go_wp2_with fail
  refine (demand_yes b _ _ _ rfl).mono ?_
  rintro e w' ⟨rfl, hww⟩
  subst w'
  go_wp2_with fail
  refine (demand_yes b _ _ _ rfl).mono ?_
  rintro e w' ⟨rfl, hww⟩
  subst w'
  go_wp2_with fail
  refine HU.out.mono ?_
  rintro e w' ⟨rfl, hww⟩
  subst w'
  go_wp2_with fail
  refine (demand_yes b _ _ _ rfl).mono ?_
  rintro e w' ⟨rfl, hww⟩
  subst w'
  clear HU hlk
  go_wp2_with fail
  go_region
  all_goals go_wp2_with fail
  all_goals
    refine (next_rc b t s rv mc mt _ ((H.out.alloc _).drew)).mono ?_
    rintro e w2 (⟨y, hy, rfl, hc, hm⟩ | ⟨f2, hf2, ⟨bb, hz, rfl, hcc⟩, hm⟩)
  all_goals first
    | exact ⟨rfl, RPost.err (cmdL_nextErr HI.out HUU.out hf2) (((Mod.refl b w).alloc _).trans (mod_drew hm)) ⟨bb, by simp at hz; omega, rfl, hcc⟩⟩
    | skip
  all_goals
    obtain ⟨hh0, hh1, hmw⟩ := after_alloc hm hlt
    have HM := hide hmw
    have HC := hide hc
    have HE := hide (cmdL_body (F := F) (n := n) HI.out HUU.out hy)
    clear hm hc hy hmw
    go_wp2_with fail
    refine (keep_any s.1.spelt s.1.pos d b t y rv mc mt _ HC.out).mono ?_
    intro e w3 h3'
    have HQ : Hid (RPost (cmdL t.data.toList req F (n + 1) s) b t rv mc mt w (CmdV (n + 1) (fromB w.heap.size)) e w3) := RPost.lift (fun _ => ((⟨0, s.1.pos, 0, [], [], false⟩ : CLab), [], [])) h3' HM.out (fun q hq => HE.out.trans (semi_ok hq)) (fun f hf => HE.out.trans (semi_err hf)) (fun a v _ hv => by rw [HSP.out] at hv; exact hv)
    clear h3'
    rcases HQ.out.cases with ⟨q, v, hq, rfl, hv, hc3, hm3⟩ | ⟨f3, hf3, ⟨bb, hz, rfl, hcc⟩, hm3⟩
  all_goals first
    | exact ⟨rfl, RPost.err hf3 hm3 ⟨bb, hz, rfl, hcc⟩⟩
    | skip
  all_goals
    have HQ2 := hide (RPost.ok hq hm3 hv hc3)
    clear hq hm3 hv hc3 HQ
    go_wp2
    go_ret
    exact HQ2.out

set_option maxRecDepth 100000 in
set_option maxHeartbeats 4000000 in
theorem beginC_Discard (n : Nat) (req : List (List UInt8)) (d : Int) (b F : Nat) (t : ByteArray) (s : PS) (rv : Value) (mc mt p1 k1 p2 k2 p3 k3 : Nat) (w : World) (h : RC w b t s rv mc mt) (ht : CMap w b mc p1 k1 p2 k2 p3 k3) (hr : ReqV w b rv req) (hF : 2 * t.size + 1 < F) (hd0 : 0 ≤ d) (hd : d ≤ 6) (hk1 : s.1.kind = 1) (hS : SubMu t.size (cmdL t.data.toList req F n)) (ho1 : SubOk 252 w b t rv mc mt (d + 1) (testL t.data.toList req F n) (TestV n)) (ho : SubOk 174 w b t rv mc mt (d + 1) (cmdL t.data.toList req F n) (CmdV n)) (hi : whichL cmdNames s.1.spelt = 1 + 1) (hu : useOk req s.1.spelt = true) :
    Calls Tryz.prog 261 #[.pointer (some ⟨b, 0, none⟩), .map (some mc), .int .i64 d] w (RPost (cmdL t.data.toList req F (n + 1) s) b t rv mc mt w (CmdV (n + 1) (fromB w.heap.size))) := by
  have h1 : w.cell? ⟨b, 1, none⟩ = some (.int .i64 s.1.kind) := h.at_.cell 1
  have h2 : w.cell? ⟨b, 2, none⟩ = some (.int .i64 s.1.pos) := h.at_.cell 2
  have h3 : w.cell? ⟨b, 3, none⟩ = some (.string (strA s.1.spelt)) := h.at_.cell 3
  have hlk := ht.look w s.1.spelt rfl
  have hfn : cmdFn b p1 k1 p2 k2 p3 k3 s.1.spelt = some (.func (.func 153) #[.pointer (some ⟨b, 0, none⟩)] #[]) := by unfold cmdFn; rw [hi]; rfl
  rw [hfn] at hlk
  have hsp : s.1.spelt = kDiscard := by
    have := whichL_get _ _ _ hi
    simpa [cmdNames] using this.symm
  have H := hide h
  have HT := hide ht
  have HU := hide (mayUse_any s.1.spelt req b t s rv mc mt w h hr)
  rw [hu] at HU
  have HSP := hide hsp
  have HI := hide hi
  have HUU := hide hu
  have HS := hide hS
  have HO := hide ho
  have HO1 := hide ho1
  have hlt := h.at_.lt
  clear h ht hr hfn hsp hi hu hS ho ho1
  simp only [Option.getD_some, Option.isSome_some] at hlk
  have hk' : ((s.1.kind : Int) != 1) = false := by simp; omega
  clear hk1
  go_enter Tryz.func261, Tryz.ntmps261
  go_wp2_with fail
  refine (demand_yes b _ _ _ rfl).mono ?_
  rintro e w' ⟨rfl, hww⟩
  subst w'
  go_wp2_with fail
  refine (demand_yes b _ _ _ rfl).mono ?_
  rintro e w' ⟨rfl, hww⟩
  subst w'
  go_wp2_with fail
  refine HU.out.mono ?_
  rintro e w' ⟨rfl, hww⟩
  subst w'
  go_wp2_with fail
  refine (demand_yes b _ _ _ rfl).mono ?_
  rintro e w' ⟨rfl, hww⟩
  subst w'
  clear HU hlk
  go_wp2_with fail
  go_region
  all_goals go_wp2_with fail
  all_goals
    refine (next_rc b t s rv mc mt _ ((H.out.alloc _).drew)).mono ?_
    rintro e w2 (⟨y, hy, rfl, hc, hm⟩ | ⟨f2, hf2, ⟨bb, hz, rfl, hcc⟩, hm⟩)
  all_goals first
    | exact ⟨rfl, RPost.err (cmdL_nextErr HI.out HUU.out hf2) (((Mod.refl b w).alloc _).trans (mod_drew hm)) ⟨bb, by simp at hz; omega, rfl, hcc⟩⟩
    | skip
  all_goals
    obtain ⟨hh0, hh1, hmw⟩ := after_alloc hm hlt
    have HM := hide hmw
    have HC := hide hc
    have HE := hide (cmdL_body (F := F) (n := n) HI.out HUU.out hy)
    clear hm hc hy hmw
    go_wp2_with fail
    refine (discard_any s.1.spelt s.1.pos d b t y rv mc mt _ HC.out).mono ?_
    intro e w3 h3'
    have HQ : Hid (RPost (cmdL t.data.toList req F (n + 1) s) b t rv mc mt w (CmdV (n + 1) (fromB w.heap.size)) e w3) := RPost.lift (fun _ => ((⟨1, s.1.pos, 0, [], [], false⟩ : CLab), [], [])) h3' HM.out (fun q hq => HE.out.trans (semi_ok hq)) (fun f hf => HE.out.trans (semi_err hf)) (fun a v _ hv => by rw [HSP.out] at hv; exact hv)
    clear h3'
    rcases HQ.out.cases with ⟨q, v, hq, rfl, hv, hc3, hm3⟩ | ⟨f3, hf3, ⟨bb, hz, rfl, hcc⟩, hm3⟩
  all_goals first
    | exact ⟨rfl, RPost.err hf3 hm3 ⟨bb, hz, rfl, hcc⟩⟩
    | skip
  all_goals
    have HQ2 := hide (RPost.ok hq hm3 hv hc3)
    clear hq hm3 hv hc3 HQ
    go_wp2
    go_ret
    exact HQ2.out

set_option maxRecDepth 100000 in
set_option maxHeartbeats 4000000 in
theorem beginC_Stop (n : Nat) (req : List (List UInt8)) (d : Int) (b F : Nat) (t : ByteArray) (s : PS) (rv : Value) (mc mt p1 k1 p2 k2 p3 k3 : Nat) (w : World) (h : RC w b t s rv mc mt) (ht : CMap w b mc p1 k1 p2 k2 p3 k3) (hr : ReqV w b rv req) (hF : 2 * t.size + 1 < F) (hd0 : 0 ≤ d) (hd : d ≤ 6) (hk1 : s.1.kind = 1) (hS : SubMu t.size (cmdL t.data.toList req F n)) (ho1 : SubOk 252 w b t rv mc mt (d + 1) (testL t.data.toList req F n) (TestV n)) (ho : SubOk 174 w b t rv mc mt (d + 1) (cmdL t.data.toList req F n) (CmdV n)) (hi : whichL cmdNames s.1.spelt = 2 + 1) (hu : useOk req s.1.spelt = true) :
    Calls Tryz.prog 261 #[.pointer (some ⟨b, 0, none⟩), .map (some mc), .int .i64 d] w (RPost (cmdL t.data.toList req F (n + 1) s) b t rv mc mt w (CmdV (n + 1) (fromB w.heap.size))) := by
  have h1 : w.cell? ⟨b, 1, none⟩ = some (.int .i64 s.1.kind) := h.at_.cell 1
  have h2 : w.cell? ⟨b, 2, none⟩ = some (.int .i64 s.1.pos) := h.at_.cell 2
  have h3 : w.cell? ⟨b, 3, none⟩ = some (.string (strA s.1.spelt)) := h.at_.cell 3
  have hlk := ht.look w s.1.spelt rfl
  have hfn : cmdFn b p1 k1 p2 k2 p3 k3 s.1.spelt = some (.func (.func 154) #[.pointer (some ⟨b, 0, none⟩)] #[]) := by unfold cmdFn; rw [hi]; rfl
  rw [hfn] at hlk
  have hsp : s.1.spelt = kStop := by
    have := whichL_get _ _ _ hi
    simpa [cmdNames] using this.symm
  have H := hide h
  have HT := hide ht
  have HU := hide (mayUse_any s.1.spelt req b t s rv mc mt w h hr)
  rw [hu] at HU
  have HSP := hide hsp
  have HI := hide hi
  have HUU := hide hu
  have HS := hide hS
  have HO := hide ho
  have HO1 := hide ho1
  have hlt := h.at_.lt
  clear h ht hr hfn hsp hi hu hS ho ho1
  simp only [Option.getD_some, Option.isSome_some] at hlk
  have hk' : ((s.1.kind : Int) != 1) = false := by simp; omega
  clear hk1
  go_enter Tryz.func261, Tryz.ntmps261
  go_wp2_with fail
  refine (demand_yes b _ _ _ rfl).mono ?_
  rintro e w' ⟨rfl, hww⟩
  subst w'
  go_wp2_with fail
  refine (demand_yes b _ _ _ rfl).mono ?_
  rintro e w' ⟨rfl, hww⟩
  subst w'
  go_wp2_with fail
  refine HU.out.mono ?_
  rintro e w' ⟨rfl, hww⟩
  subst w'
  go_wp2_with fail
  refine (demand_yes b _ _ _ rfl).mono ?_
  rintro e w' ⟨rfl, hww⟩
  subst w'
  clear HU hlk
  go_wp2_with fail
  go_region
  all_goals go_wp2_with fail
  all_goals
    refine (next_rc b t s rv mc mt _ ((H.out.alloc _).drew)).mono ?_
    rintro e w2 (⟨y, hy, rfl, hc, hm⟩ | ⟨f2, hf2, ⟨bb, hz, rfl, hcc⟩, hm⟩)
  all_goals first
    | exact ⟨rfl, RPost.err (cmdL_nextErr HI.out HUU.out hf2) (((Mod.refl b w).alloc _).trans (mod_drew hm)) ⟨bb, by simp at hz; omega, rfl, hcc⟩⟩
    | skip
  all_goals
    obtain ⟨hh0, hh1, hmw⟩ := after_alloc hm hlt
    have HM := hide hmw
    have HC := hide hc
    have HE := hide (cmdL_body (F := F) (n := n) HI.out HUU.out hy)
    clear hm hc hy hmw
    go_wp2_with fail
    refine (stop_any s.1.spelt s.1.pos d b t y rv mc mt _ HC.out).mono ?_
    intro e w3 h3'
    have HQ : Hid (RPost (cmdL t.data.toList req F (n + 1) s) b t rv mc mt w (CmdV (n + 1) (fromB w.heap.size)) e w3) := RPost.lift (fun _ => ((⟨2, s.1.pos, 0, [], [], false⟩ : CLab), [], [])) h3' HM.out (fun q hq => HE.out.trans (semi_ok hq)) (fun f hf => HE.out.trans (semi_err hf)) (fun a v _ hv => by rw [HSP.out] at hv; exact hv)
    clear h3'
    rcases HQ.out.cases with ⟨q, v, hq, rfl, hv, hc3, hm3⟩ | ⟨f3, hf3, ⟨bb, hz, rfl, hcc⟩, hm3⟩
  all_goals first
    | exact ⟨rfl, RPost.err hf3 hm3 ⟨bb, hz, rfl, hcc⟩⟩
    | skip
  all_goals
    have HQ2 := hide (RPost.ok hq hm3 hv hc3)
    clear hq hm3 hv hc3 HQ
    go_wp2
    go_ret
    exact HQ2.out

set_option maxRecDepth 100000 in
set_option maxHeartbeats 4000000 in
theorem beginC_Fileinto (n : Nat) (req : List (List UInt8)) (d : Int) (b F : Nat) (t : ByteArray) (s : PS) (rv : Value) (mc mt p1 k1 p2 k2 p3 k3 : Nat) (w : World) (h : RC w b t s rv mc mt) (ht : CMap w b mc p1 k1 p2 k2 p3 k3) (hr : ReqV w b rv req) (hF : 2 * t.size + 1 < F) (hd0 : 0 ≤ d) (hd : d ≤ 6) (hk1 : s.1.kind = 1) (hS : SubMu t.size (cmdL t.data.toList req F n)) (ho1 : SubOk 252 w b t rv mc mt (d + 1) (testL t.data.toList req F n) (TestV n)) (ho : SubOk 174 w b t rv mc mt (d + 1) (cmdL t.data.toList req F n) (CmdV n)) (hi : whichL cmdNames s.1.spelt = 3 + 1) (hu : useOk req s.1.spelt = true) :
    Calls Tryz.prog 261 #[.pointer (some ⟨b, 0, none⟩), .map (some mc), .int .i64 d] w (RPost (cmdL t.data.toList req F (n + 1) s) b t rv mc mt w (CmdV (n + 1) (fromB w.heap.size))) := by
  have h1 : w.cell? ⟨b, 1, none⟩ = some (.int .i64 s.1.kind) := h.at_.cell 1
  have h2 : w.cell? ⟨b, 2, none⟩ = some (.int .i64 s.1.pos) := h.at_.cell 2
  have h3 : w.cell? ⟨b, 3, none⟩ = some (.string (strA s.1.spelt)) := h.at_.cell 3
  have hlk := ht.look w s.1.spelt rfl
  have hfn : cmdFn b p1 k1 p2 k2 p3 k3 s.1.spelt = some (.func (.func 244) #[] #[.pointer (some ⟨p1, 0, none⟩), .pointer (some ⟨k1, 0, none⟩)]) := by unfold cmdFn; rw [hi]; rfl
  rw [hfn] at hlk
  have hsp : s.1.spelt = kFileinto := by
    have := whichL_get _ _ _ hi
    simpa [cmdNames] using this.symm
  have H := hide h
  have HT := hide ht
  have HU := hide (mayUse_any s.1.spelt req b t s rv mc mt w h hr)
  rw [hu] at HU
  have HSP := hide hsp
  have HI := hide hi
  have HUU := hide hu
  have HS := hide hS
  have HO := hide ho
  have HO1 := hide ho1
  have hlt := h.at_.lt
  clear h ht hr hfn hsp hi hu hS ho ho1
  simp only [Option.getD_some, Option.isSome_some] at hlk
  have hk' : ((s.1.kind : Int) != 1) = false := by simp; omega
  clear hk1
  go_enter Tryz.func261, Tryz.ntmps261
  go_wp2_with fail
  refine (demand_yes b _ _ _ rfl).mono ?_
  rintro e w' ⟨rfl, hww⟩
  subst w'
  go_wp2_with fail
  refine (demand_yes b _ _ _ rfl).mono ?_
  rintro e w' ⟨rfl, hww⟩
  subst w'
  go_wp2_with fail
  refine HU.out.mono ?_
  rintro e w' ⟨rfl, hww⟩
  subst w'
  go_wp2_with fail
  refine (demand_yes b _ _ _ rfl).mono ?_
  rintro e w' ⟨rfl, hww⟩
  subst w'
  clear HU hlk
  go_wp2_with fail
  go_region
  all_goals go_wp2_with fail
  all_goals
    refine (next_rc b t s rv mc mt _ ((H.out.alloc _).drew)).mono ?_
    rintro e w2 (⟨y, hy, rfl, hc, hm⟩ | ⟨f2, hf2, ⟨bb, hz, rfl, hcc⟩, hm⟩)
  all_goals first
    | exact ⟨rfl, RPost.err (cmdL_nextErr HI.out HUU.out hf2) (((Mod.refl b w).alloc _).trans (mod_drew hm)) ⟨bb, by simp at hz; omega, rfl, hcc⟩⟩
    | skip
  all_goals
    obtain ⟨hh0, hh1, hmw⟩ := after_alloc hm hlt
    have HM := hide hmw
    have HC := hide hc
    have HE := hide (cmdL_body (F := F) (n := n) HI.out HUU.out hy)
    have hpa := (HT.out.mod hmw).hp1
    have hka := (HT.out.mod hmw).hk1
    have hkb := (HT.out.mod hmw).k1b
    have HPA := hide hpa
    have HKA := hide hka
    clear hm hc hy hmw
    go_wp2_with fail
    refine (act1_any s.1.spelt s.1.pos d p1 k1 2 b t y rv mc mt _ HC.out HPA.out HKA.out hkb).mono ?_
    intro e w3 h3'
    have HQ : Hid (RPost (cmdL t.data.toList req F (n + 1) s) b t rv mc mt w (CmdV (n + 1) (fromB w.heap.size)) e w3) := RPost.lift (fun x => ((⟨3, s.1.pos, 0, x, [], false⟩ : CLab), [], [])) h3' HM.out (fun q hq => HE.out.trans (act_ok3 hq)) (fun f hf => HE.out.trans (act_err3 hf)) (fun a v _ hv => by rw [HSP.out] at hv; exact hv)
    clear h3'
    rcases HQ.out.cases with ⟨q, v, hq, rfl, hv, hc3, hm3⟩ | ⟨f3, hf3, ⟨bb, hz, rfl, hcc⟩, hm3⟩
  all_goals first
    | exact ⟨rfl, RPost.err hf3 hm3 ⟨bb, hz, rfl, hcc⟩⟩
    | skip
  all_goals
    have HQ2 := hide (RPost.ok hq hm3 hv hc3)
    clear hq hm3 hv hc3 HQ
    go_wp2
    go_ret
    exact HQ2.out

set_option maxRecDepth 100000 in
set_option maxHeartbeats 4000000 in
theorem beginC_Redirect (n : Nat) (req : List (List UInt8)) (d : Int) (b F : Nat) (t : ByteArray) (s : PS) (rv : Value) (mc mt p1 k1 p2 k2 p3 k3 : Nat) (w : World) (h : RC w b t s rv mc mt) (ht : CMap w b mc p1 k1 p2 k2 p3 k3) (hr : ReqV w b rv req) (hF : 2 * t.size + 1 < F) (hd0 : 0 ≤ d) (hd : d ≤ 6) (hk1 : s.1.kind = 1) (hS : SubMu t.size (cmdL t.data.toList req F n)) (ho1 : SubOk 252 w b t rv mc mt (d + 1) (testL t.data.toList req F n) (TestV n)) (ho : SubOk 174 w b t rv mc mt (d + 1) (cmdL t.data.toList req F n) (CmdV n)) (hi : whichL cmdNames s.1.spelt = 4 + 1) (hu : useOk req s.1.spelt = true) :
    Calls Tryz.prog 261 #[.pointer (some ⟨b, 0, none⟩), .map (some mc), .int .i64 d] w (RPost (cmdL t.data.toList req F (n + 1) s) b t rv mc mt w (CmdV (n + 1) (fromB w.heap.size))) := by
  have h1 : w.cell? ⟨b, 1, none⟩ = some (.int .i64 s.1.kind) := h.at_.cell 1
  have h2 : w.cell? ⟨b, 2, none⟩ = some (.int .i64 s.1.pos) := h.at_.cell 2
  have h3 : w.cell? ⟨b, 3, none⟩ = some (.string (strA s.1.spelt)) := h.at_.cell 3
  have hlk := ht.look w s.1.spelt rfl
  have hfn : cmdFn b p1 k1 p2 k2 p3 k3 s.1.spelt = some (.func (.func 244) #[] #[.pointer (some ⟨p2, 0, none⟩), .pointer (some ⟨k2, 0, none⟩)]) := by unfold cmdFn; rw [hi]; rfl
  rw [hfn] at hlk
  have hsp : s.1.spelt = kRedirect := by
    have := whichL_get _ _ _ hi
    simpa [cmdNames] using this.symm
  have H := hide h
  have HT := hide ht
  have HU := hide (mayUse_any s.1.spelt req b t s rv mc mt w h hr)
  rw [hu] at HU
  have HSP := hide hsp
  have HI := hide hi
  have HUU := hide hu
  have HS := hide hS
  have HO := hide ho
  have HO1 := hide ho1
  have hlt := h.at_.lt
  clear h ht hr hfn hsp hi hu hS ho ho1
  simp only [Option.getD_some, Option.isSome_some] at hlk
  have hk' : ((s.1.kind : Int) != 1) = false := by simp; omega
  clear hk1
  go_enter Tryz.func261, Tryz.ntmps261
  go_wp2_with fail
  refine (demand_yes b _ _ _ rfl).mono ?_
  rintro e w' ⟨rfl, hww⟩
  subst w'
  go_wp2_with fail
  refine (demand_yes b _ _ _ rfl).mono ?_
  rintro e w' ⟨rfl, hww⟩
  subst w'
  go_wp2_with fail
  refine HU.out.mono ?_
  rintro e w' ⟨rfl, hww⟩
  subst w'
  go_wp2_with fail
  refine (demand_yes b _ _ _ rfl).mono ?_
  rintro e w' ⟨rfl, hww⟩
  subst w'
  clear HU hlk
  go_wp2_with fail
  go_region
  all_goals go_wp2_with fail
  all_goals
    refine (next_rc b t s rv mc mt _ ((H.out.alloc _).drew)).mono ?_
    rintro e w2 (⟨y, hy, rfl, hc, hm⟩ | ⟨f2, hf2, ⟨bb, hz, rfl, hcc⟩, hm⟩)
  all_goals first
    | exact ⟨rfl, RPost.err (cmdL_nextErr HI.out HUU.out hf2) (((Mod.refl b w).alloc _).trans (mod_drew hm)) ⟨bb, by simp at hz; omega, rfl, hcc⟩⟩
    | skip
  all_goals
    obtain ⟨hh0, hh1, hmw⟩ := after_alloc hm hlt
    have HM := hide hmw
    have HC := hide hc
    have HE := hide (cmdL_body (F := F) (n := n) HI.out HUU.out hy)
    have hpa := (HT.out.mod hmw).hp2
    have hka := (HT.out.mod hmw).hk2
    have hkb := (HT.out.mod hmw).k2b
    have HPA := hide hpa
    have HKA := hide hka
    clear hm hc hy hmw
    go_wp2_with fail
    refine (act1_any s.1.spelt s.1.pos d p2 k2 3 b t y rv mc mt _ HC.out HPA.out HKA.out hkb).mono ?_
    intro e w3 h3'
    have HQ : Hid (RPost (cmdL t.data.toList req F (n + 1) s) b t rv mc mt w (CmdV (n + 1) (fromB w.heap.size)) e w3) := RPost.lift (fun x => ((⟨4, s.1.pos, 0, x, [], false⟩ : CLab), [], [])) h3' HM.out (fun q hq => HE.out.trans (act_ok4 hq)) (fun f hf => HE.out.trans (act_err4 hf)) (fun a v _ hv => by rw [HSP.out] at hv; exact hv)
    clear h3'
    rcases HQ.out.cases with ⟨q, v, hq, rfl, hv, hc3, hm3⟩ | ⟨f3, hf3, ⟨bb, hz, rfl, hcc⟩, hm3⟩
  all_goals first
    | exact ⟨rfl, RPost.err hf3 hm3 ⟨bb, hz, rfl, hcc⟩⟩
    | skip
  all_goals
    have HQ2 := hide (RPost.ok hq hm3 hv hc3)
    clear hq hm3 hv hc3 HQ
    go_wp2
    go_ret
    exact HQ2.out

set_option maxRecDepth 100000 in
set_option maxHeartbeats 4000000 in
theorem beginC_Reject (n : Nat) (req : List (List UInt8)) (d : Int) (b F : Nat) (t : ByteArray) (s : PS) (rv : Value) (mc mt p1 k1 p2 k2 p3 k3 : Nat) (w : World) (h : RC w b t s rv mc mt) (ht : CMap w b mc p1 k1 p2 k2 p3 k3) (hr : ReqV w b rv req) (hF : 2 * t.size + 1 < F) (hd0 : 0 ≤ d) (hd : d ≤ 6) (hk1 : s.1.kind = 1) (hS : SubMu t.size (cmdL t.data.toList req F n)) (ho1 : SubOk 252 w b t rv mc mt (d + 1) (testL t.data.toList req F n) (TestV n)) (ho : SubOk 174 w b t rv mc mt (d + 1) (cmdL t.data.toList req F n) (CmdV n)) (hi : whichL cmdNames s.1.spelt = 5 + 1) (hu : useOk req s.1.spelt = true) :
    Calls Tryz.prog 261 #[.pointer (some ⟨b, 0, none⟩), .map (some mc), .int .i64 d] w (RPost (cmdL t.data.toList req F (n + 1) s) b t rv mc mt w (CmdV (n + 1) (fromB w.heap.size))) := by
  have h1 : w.cell? ⟨b, 1, none⟩ = some (.int .i64 s.1.kind) := h.at_.cell 1
  have h2 : w.cell? ⟨b, 2, none⟩ = some (.int .i64 s.1.pos) := h.at_.cell 2
  have h3 : w.cell? ⟨b, 3, none⟩ = some (.string (strA s.1.spelt)) := h.at_.cell 3
  have hlk := ht.look w s.1.spelt rfl
  have hfn : cmdFn b p1 k1 p2 k2 p3 k3 s.1.spelt = some (.func (.func 244) #[] #[.pointer (some ⟨p3, 0, none⟩), .pointer (some ⟨k3, 0, none⟩)]) := by unfold cmdFn; rw [hi]; rfl
  rw [hfn] at hlk
  have hsp : s.1.spelt = kReject := by
    have := whichL_get _ _ _ hi
    simpa [cmdNames] using this.symm
  have H := hide h
  have HT := hide ht
  have HU := hide (mayUse_any s.1.spelt req b t s rv mc mt w h hr)
  rw [hu] at HU
  have HSP := hide hsp
  have HI := hide hi
  have HUU := hide hu
  have HS := hide hS
  have HO := hide ho
  have HO1 := hide ho1
  have hlt := h.at_.lt
  clear h ht hr hfn hsp hi hu hS ho ho1
  simp only [Option.getD_some, Option.isSome_some] at hlk
  have hk' : ((s.1.kind : Int) != 1) = false := by simp; omega
  clear hk1
  go_enter Tryz.func261, Tryz.ntmps261
  go_wp2_with fail
  refine (demand_yes b _ _ _ rfl).mono ?_
  rintro e w' ⟨rfl, hww⟩
  subst w'
  go_wp2_with fail
  refine (demand_yes b _ _ _ rfl).mono ?_
  rintro e w' ⟨rfl, hww⟩
  subst w'
  go_wp2_with fail
  refine HU.out.mono ?_
  rintro e w' ⟨rfl, hww⟩
  subst w'
  go_wp2_with fail
  refine (demand_yes b _ _ _ rfl).mono ?_
  rintro e w' ⟨rfl, hww⟩
  subst w'
  clear HU hlk
  go_wp2_with fail
  go_region
  all_goals go_wp2_with fail
  all_goals
    refine (next_rc b t s rv mc mt _ ((H.out.alloc _).drew)).mono ?_
    rintro e w2 (⟨y, hy, rfl, hc, hm⟩ | ⟨f2, hf2, ⟨bb, hz, rfl, hcc⟩, hm⟩)
  all_goals first
    | exact ⟨rfl, RPost.err (cmdL_nextErr HI.out HUU.out hf2) (((Mod.refl b w).alloc _).trans (mod_drew hm)) ⟨bb, by simp at hz; omega, rfl, hcc⟩⟩
    | skip
  all_goals
    obtain ⟨hh0, hh1, hmw⟩ := after_alloc hm hlt
    have HM := hide hmw
    have HC := hide hc
    have HE := hide (cmdL_body (F := F) (n := n) HI.out HUU.out hy)
    have hpa := (HT.out.mod hmw).hp3
    have hka := (HT.out.mod hmw).hk3
    have hkb := (HT.out.mod hmw).k3b
    have HPA := hide hpa
    have HKA := hide hka
    clear hm hc hy hmw
    go_wp2_with fail
    refine (act1_any s.1.spelt s.1.pos d p3 k3 4 b t y rv mc mt _ HC.out HPA.out HKA.out hkb).mono ?_
    intro e w3 h3'
    have HQ : Hid (RPost (cmdL t.data.toList req F (n + 1) s) b t rv mc mt w (CmdV (n + 1) (fromB w.heap.size)) e w3) := RPost.lift (fun x => ((⟨5, s.1.pos, 0, x, [], false⟩ : CLab), [], [])) h3' HM.out (fun q hq => HE.out.trans (act_ok5 hq)) (fun f hf => HE.out.trans (act_err5 hf)) (fun a v _ hv => by rw [HSP.out] at hv; exact hv)
    clear h3'
    rcases HQ.out.cases with ⟨q, v, hq, rfl, hv, hc3, hm3⟩ | ⟨f3, hf3, ⟨bb, hz, rfl, hcc⟩, hm3⟩
  all_goals first
    | exact ⟨rfl, RPost.err hf3 hm3 ⟨bb, hz, rfl, hcc⟩⟩
    | skip
  all_goals
    have HQ2 := hide (RPost.ok hq hm3 hv hc3)
    clear hq hm3 hv hc3 HQ
    go_wp2
    go_ret
    exact HQ2.out

set_option maxRecDepth 100000 in
set_option maxHeartbeats 4000000 in
theorem beginC_Set (n : Nat) (req : List (List UInt8)) (d : Int) (b F : Nat) (t : ByteArray) (s : PS) (rv : Value) (mc mt p1 k1 p2 k2 p3 k3 : Nat) (w : World) (h : RC w b t s rv mc mt) (ht : CMap w b mc p1 k1 p2 k2 p3 k3) (hr : ReqV w b rv req) (hF : 2 * t.size + 1 < F) (hd0 : 0 ≤ d) (hd : d ≤ 6) (hk1 : s.1.kind = 1) (hS : SubMu t.size (cmdL t.data.toList req F n)) (ho1 : SubOk 252 w b t rv mc mt (d + 1) (testL t.data.toList req F n) (TestV n)) (ho : SubOk 174 w b t rv mc mt (d + 1) (cmdL t.data.toList req F n) (CmdV n)) (hi : whichL cmdNames s.1.spelt = 6 + 1) (hu : useOk req s.1.spelt = true) :
    Calls Tryz.prog 261 #[.pointer (some ⟨b, 0, none⟩), .map (some mc), .int .i64 d] w (RPost (cmdL t.data.toList req F (n + 1) s) b t rv mc mt w (CmdV (n + 1) (fromB w.heap.size))) := by
  have h1 : w.cell? ⟨b, 1, none⟩ = some (.int .i64 s.1.kind) := h.at_.cell 1
  have h2 : w.cell? ⟨b, 2, none⟩ = some (.int .i64 s.1.pos) := h.at_.cell 2
  have h3 : w.cell? ⟨b, 3, none⟩ = some (.string (strA s.1.spelt)) := h.at_.cell 3
  have hlk := ht.look w s.1.spelt rfl
  have hfn : cmdFn b p1 k1 p2 k2 p3 k3 s.1.spelt = some (.func (.func 156) #[.pointer (some ⟨b, 0, none⟩)] #[]) := by unfold cmdFn; rw [hi]; rfl
  rw [hfn] at hlk
  have hsp : s.1.spelt = kSet := by
    have := whichL_get _ _ _ hi
    simpa [cmdNames] using this.symm
  have H := hide h
  have HT := hide ht
  have HU := hide (mayUse_any s.1.spelt req b t s rv mc mt w h hr)
  rw [hu] at HU
  have HSP := hide hsp
  have HI := hide hi
  have HUU := hide hu
  have HS := hide hS
  have HO := hide ho
  have HO1 := hide ho1
  have hlt := h.at_.lt
  clear h ht hr hfn hsp hi hu hS ho ho1
  simp only [Option.getD_some, Option.isSome_some] at hlk
  have hk' : ((s.1.kind : Int) != 1) = false := by simp; omega
  clear hk1
  go_enter Tryz.func261, Tryz.ntmps261
  go_wp2_with fail
  refine (demand_yes b _ _ _ rfl).mono ?_
  rintro e w' ⟨rfl, hww⟩
  subst w'
  go_wp2_with fail
  refine (demand_yes b _ _ _ rfl).mono ?_
  rintro e w' ⟨rfl, hww⟩
  subst w'
  go_wp2_with fail
  refine HU.out.mono ?_
  rintro e w' ⟨rfl, hww⟩
  subst w'
  go_wp2_with fail
  refine (demand_yes b _ _ _ rfl).mono ?_
  rintro e w' ⟨rfl, hww⟩
  subst w'
  clear HU hlk
  go_wp2_with fail
  go_region
  all_goals go_wp2_with fail
  all_goals
    refine (next_rc b t s rv mc mt _ ((H.out.alloc _).drew)).mono ?_
    rintro e w2 (⟨y, hy, rfl, hc, hm⟩ | ⟨f2, hf2, ⟨bb, hz, rfl, hcc⟩, hm⟩)
  all_goals first
    | exact ⟨rfl, RPost.err (cmdL_nextErr HI.out HUU.out hf2) (((Mod.refl b w).alloc _).trans (mod_drew hm)) ⟨bb, by simp at hz; omega, rfl, hcc⟩⟩
    | skip
  all_goals
    obtain ⟨hh0, hh1, hmw⟩ := after_alloc hm hlt
    have HM := hide hmw
    have HC := hide hc
    have HE := hide (cmdL_body (F := F) (n := n) HI.out HUU.out hy)
    clear hm hc hy hmw
    go_wp2_with fail
    refine (set_any s.1.spelt s.1.pos d b t y rv mc mt _ HC.out).mono ?_
    intro e w3 h3'
    have HQ : Hid (RPost (cmdL t.data.toList req F (n + 1) s) b t rv mc mt w (CmdV (n + 1) (fromB w.heap.size)) e w3) := RPost.lift (fun x => ((⟨6, s.1.pos, x.1, x.2.2, x.2.1, false⟩ : CLab), [], [])) h3' HM.out (fun q hq => HE.out.trans (set_ok hq)) (fun f hf => HE.out.trans (set_err hf)) (fun a v _ hv => by rw [HSP.out] at hv; exact hv)
    clear h3'
    rcases HQ.out.cases with ⟨q, v, hq, rfl, hv, hc3, hm3⟩ | ⟨f3, hf3, ⟨bb, hz, rfl, hcc⟩, hm3⟩
  all_goals first
    | exact ⟨rfl, RPost.err hf3 hm3 ⟨bb, hz, rfl, hcc⟩⟩
    | skip
  all_goals
    have HQ2 := hide (RPost.ok hq hm3 hv hc3)
    clear hq hm3 hv hc3 HQ
    go_wp2
    go_ret
    exact HQ2.out

set_option maxRecDepth 100000 in
set_option maxHeartbeats 4000000 in
theorem beginC_If (n : Nat) (req : List (List UInt8)) (d : Int) (b F : Nat) (t : ByteArray) (s : PS) (rv : Value) (mc mt p1 k1 p2 k2 p3 k3 : Nat) (w : World) (h : RC w b t s rv mc mt) (ht : CMap w b mc p1 k1 p2 k2 p3 k3) (hr : ReqV w b rv req) (hF : 2 * t.size + 1 < F) (hd0 : 0 ≤ d) (hd : d ≤ 6) (hk1 : s.1.kind = 1) (hS : SubMu t.size (cmdL t.data.toList req F n)) (ho1 : SubOk 252 w b t rv mc mt (d + 1) (testL t.data.toList req F n) (TestV n)) (ho : SubOk 174 w b t rv mc mt (d + 1) (cmdL t.data.toList req F n) (CmdV n)) (hi : whichL cmdNames s.1.spelt = 7 + 1) (hu : useOk req s.1.spelt = true) :
    Calls Tryz.prog 261 #[.pointer (some ⟨b, 0, none⟩), .map (some mc), .int .i64 d] w (RPost (cmdL t.data.toList req F (n + 1) s) b t rv mc mt w (CmdV (n + 1) (fromB w.heap.size))) := by
  have h1 : w.cell? ⟨b, 1, none⟩ = some (.int .i64 s.1.kind) := h.at_.cell 1
  have h2 : w.cell? ⟨b, 2, none⟩ = some (.int .i64 s.1.pos) := h.at_.cell 2
  have h3 : w.cell? ⟨b, 3, none⟩ = some (.string (strA s.1.spelt)) := h.at_.cell 3
  have hlk := ht.look w s.1.spelt rfl
  have hfn : cmdFn b p1 k1 p2 k2 p3 k3 s.1.spelt = some (.func (.func 157) #[.pointer (some ⟨b, 0, none⟩)] #[]) := by unfold cmdFn; rw [hi]; rfl
  rw [hfn] at hlk
  have hsp : s.1.spelt = kIf := by
    have := whichL_get _ _ _ hi
    simpa [cmdNames] using this.symm
  have H := hide h
  have HT := hide ht
  have HU := hide (mayUse_any s.1.spelt req b t s rv mc mt w h hr)
  rw [hu] at HU
  have HSP := hide hsp
  have HI := hide hi
  have HUU := hide hu
  have HS := hide hS
  have HO := hide ho
  have HO1 := hide ho1
  have hlt := h.at_.lt
  clear h ht hr hfn hsp hi hu hS ho ho1
  simp only [Option.getD_some, Option.isSome_some] at hlk
  have hk' : ((s.1.kind : Int) != 1) = false := by simp; omega
  clear hk1
  go_enter Tryz.func261, Tryz.ntmps261
  go_wp2_with fail
  refine (demand_yes b _ _ _ rfl).mono ?_
  rintro e w' ⟨rfl, hww⟩
  subst w'
  go_wp2_with fail
  refine (demand_yes b _ _ _ rfl).mono ?_
  rintro e w' ⟨rfl, hww⟩
  subst w'
  go_wp2_with fail
  refine HU.out.mono ?_
  rintro e w' ⟨rfl, hww⟩
  subst w'
  go_wp2_with fail
  refine (demand_yes b _ _ _ rfl).mono ?_
  rintro e w' ⟨rfl, hww⟩
  subst w'
  clear HU hlk
  go_wp2_with fail
  go_region
  all_goals go_wp2_with fail
  all_goals
    refine (next_rc b t s rv mc mt _ ((H.out.alloc _).drew)).mono ?_
    rintro e w2 (⟨y, hy, rfl, hc, hm⟩ | ⟨f2, hf2, ⟨bb, hz, rfl, hcc⟩, hm⟩)
  all_goals first
    | exact ⟨rfl, RPost.err (cmdL_nextErr HI.out HUU.out hf2) (((Mod.refl b w).alloc _).trans (mod_drew hm)) ⟨bb, by simp at hz; omega, rfl, hcc⟩⟩
    | skip
  all_goals
    obtain ⟨hh0, hh1, hmw⟩ := after_alloc hm hlt
    have HM := hide hmw
    have HC := hide hc
    have HE := hide (cmdL_body (F := F) (n := n) HI.out HUU.out hy)
    clear hm hc hy hmw
    go_wp2_with fail
    refine (choice_any (testL t.data.toList req F n) (TestV n) (cmdL t.data.toList req F n) (CmdV n) s.1.spelt s.1.pos d b F t y rv mc mt _ HC.out hF hd0 (by omega) (testV_tree n) (cmdV_tree n) HS.out (fun s g => test_dn n s g) (fun s g => cmd_dn n s g) (HO1.out.mod HM.out) (HO.out.mod HM.out)).mono ?_
    intro e w3 h3'
    have HQ : Hid (RPost (cmdL t.data.toList req F (n + 1) s) b t rv mc mt w (CmdV (n + 1) (fromB w.heap.size)) e w3) := RPost.lift (fun x => ((⟨7, s.1.pos, 0, [], [], x.2.1⟩ : CLab), x.1, x.2.2)) h3' HM.out (fun q hq => HE.out.trans (if_ok hq)) (fun f hf => HE.out.trans (if_err hf)) (fun a v _ hv => by
      rw [HSP.out] at hv
      obtain ⟨av, ev, rfl, h1, h2, h3⟩ := hv
      exact ⟨av, ev, rfl, armsX.weak (testV_tree n) (cmdV_tree n) h2 h1 (fun k hk _ => Nat.le_trans HM.out.size hk), h2, h3.weak (cmdV_tree n) (fun k hk _ => Nat.le_trans HM.out.size hk)⟩)
    clear h3'
    rcases HQ.out.cases with ⟨q, v, hq, rfl, hv, hc3, hm3⟩ | ⟨f3, hf3, ⟨bb, hz, rfl, hcc⟩, hm3⟩
  all_goals first
    | exact ⟨rfl, RPost.err hf3 hm3 ⟨bb, hz, rfl, hcc⟩⟩
    | skip
  all_goals
    have HQ2 := hide (RPost.ok hq hm3 hv hc3)
    clear hq hm3 hv hc3 HQ
    go_wp2
    go_ret
    exact HQ2.out

theorem beginC_any (n : Nat) (req : List (List UInt8)) (d : Int) (b F : Nat) (t : ByteArray) (s : PS) (rv : Value) (mc mt p1 k1 p2 k2 p3 k3 : Nat) (w : World) (h : RC w b t s rv mc mt) (ht : CMap w b mc p1 k1 p2 k2 p3 k3) (hr : ReqV w b rv req) (hF : 2 * t.size + 1 < F) (hd0 : 0 ≤ d) (hd : d ≤ 6) (hS : SubMu t.size (cmdL t.data.toList req F n)) (ho1 : SubOk 252 w b t rv mc mt (d + 1) (testL t.data.toList req F n) (TestV n)) (ho : SubOk 174 w b t rv mc mt (d + 1) (cmdL t.data.toList req F n) (CmdV n)) :
    Calls Tryz.prog 261 #[.pointer (some ⟨b, 0, none⟩), .map (some mc), .int .i64 d] w (RPost (cmdL t.data.toList req F (n + 1) s) b t rv mc mt w (CmdV (n + 1) (fromB w.heap.size))) := by
  by_cases h0 : whichL cmdNames s.1.spelt = 0
  · refine (beginC_unknown d b t s rv mc mt p1 k1 p2 k2 p3 k3 w h ht hd h0).mono ?_
    rintro e w1 ⟨h1, h2⟩
    exact RPost.err (by rw [cmdL, if_pos h0]) h2 h1
  have hk1 := cmd_kind h.nm h0
  cases hu : useOk req s.1.spelt
  · obtain ⟨fv, hf⟩ := cmdFn_some (b := b) (p1 := p1) (k1 := k1) (p2 := p2) (k2 := k2) (p3 := p3) (k3 := k3) h0
    refine (beginC_nouse fv req d b t s rv mc mt p1 k1 p2 k2 p3 k3 w h ht hr hd hk1 hf hu).mono ?_
    rintro e w1 ⟨h1, h2⟩
    exact RPost.err (by rw [cmdL, if_neg h0, if_neg (by rw [hu]; decide)]) h2 h1
  have hle := whichL_le cmdNames s.1.spelt
  have hl : cmdNames.length = 8 := rfl
  rcases (by omega : whichL cmdNames s.1.spelt = 0 + 1 ∨ whichL cmdNames s.1.spelt = 1 + 1 ∨ whichL cmdNames s.1.spelt = 2 + 1 ∨ whichL cmdNames s.1.spelt = 3 + 1 ∨ whichL cmdNames s.1.spelt = 4 + 1 ∨ whichL cmdNames s.1.spelt = 5 + 1 ∨ whichL cmdNames s.1.spelt = 6 + 1 ∨ whichL cmdNames s.1.spelt = 7 + 1) with hi | hi | hi | hi | hi | hi | hi | hi
  · exact beginC_Keep n req d b F t s rv mc mt p1 k1 p2 k2 p3 k3 w h ht hr hF hd0 hd hk1 hS ho1 ho hi hu
  · exact beginC_Discard n req d b F t s rv mc mt p1 k1 p2 k2 p3 k3 w h ht hr hF hd0 hd hk1 hS ho1 ho hi hu
  · exact beginC_Stop n req d b F t s rv mc mt p1 k1 p2 k2 p3 k3 w h ht hr hF hd0 hd hk1 hS ho1 ho hi hu
  · exact beginC_Fileinto n req d b F t s rv mc mt p1 k1 p2 k2 p3 k3 w h ht hr hF hd0 hd hk1 hS ho1 ho hi hu
  · exact beginC_Redirect n req d b F t s rv mc mt p1 k1 p2 k2 p3 k3 w h ht hr hF hd0 hd hk1 hS ho1 ho hi hu
  · exact beginC_Reject n req d b F t s rv mc mt p1 k1 p2 k2 p3 k3 w h ht hr hF hd0 hd hk1 hS ho1 ho hi hu
  · exact beginC_Set n req d b F t s rv mc mt p1 k1 p2 k2 p3 k3 w h ht hr hF hd0 hd hk1 hS ho1 ho hi hu
  · exact beginC_If n req d b F t s rv mc mt p1 k1 p2 k2 p3 k3 w h ht hr hF hd0 hd hk1 hS ho1 ho hi hu

set_option maxHeartbeats 1000000 in
theorem command_call {α : Type} (r : Except Flt (α × PS)) (val : α → World → Value → Prop) (d : Int) (b : Nat) (t : ByteArray) (s : PS) (rv : Value) (mc mt : Nat) (w : World) (h : RC w b t s rv mc mt)
    (hb : Calls Tryz.prog 261 #[.pointer (some ⟨b, 0, none⟩), .map (some mc), .int .i64 d] w (RPost r b t rv mc mt w val)) :
    Calls Tryz.prog 174 #[.pointer (some ⟨b, 0, none⟩), .int .i64 d] w (RPost r b t rv mc mt w val) := by
  have h8 : w.cell? ⟨b, 8, none⟩ = some (.map (some mc)) := h.at_.cell 8
  have HB := hide hb
  clear hb h
  go_enter Tryz.func174, Tryz.ntmps174
  go_wp2_with fail
  refine HB.out.mono ?_
  intro e w1 h1
  rcases h1.cases with ⟨q, v, hq, rfl, hv, hc3, hm3⟩ | ⟨f3, hf3, ⟨bb, hz, rfl, hcc⟩, hm3⟩
  · have HQ := hide (RPost.ok hq hm3 hv hc3)
    clear h1 hq hm3 hv hc3
    go_wp2
    go_ret
    exact HQ.out
  · exact ⟨rfl, RPost.err hf3 hm3 ⟨bb, hz, rfl, hcc⟩⟩

/-- WHAT 'command' DOES, at so many levels left, in whatever world behind w. -/
theorem command_any (req : List (List UInt8)) (b F : Nat) (t : ByteArray) (rv : Value) (mc mt pr pt pf p1 k1 p2 k2 p3 k3 : Nat) (hF : 2 * t.size + 1 < F) :
    ∀ (n : Nat), n ≤ 7 → ∀ (w : World), TMap w b mt pr pt pf → CMap w b mc p1 k1 p2 k2 p3 k3 → ReqV w b rv req → SubOk 174 w b t rv mc mt (7 - (n : Int)) (cmdL t.data.toList req F n) (CmdV n)
  | 0, _, w, ht, hcm, hr => fun W s hm hc => by
    refine command_call _ _ _ b t s rv mc mt W hc ?_
    refine (beginC_deep b t s rv mc mt p1 k1 p2 k2 p3 k3 W hc (hcm.mod hm)).mono ?_
    rintro e w1 ⟨h1, h2⟩
    refine RPost.err ?_ h2 h1
    rw [cmdL]
    split <;> rfl
  | n + 1, hn, w, ht, hcm, hr => fun W s hm hc => by
    refine command_call _ _ _ b t s rv mc mt W hc ?_
    have ih := command_any req b F t rv mc mt pr pt pf p1 k1 p2 k2 p3 k3 hF n (by omega) W (ht.mod hm) (hcm.mod hm) (hr.mod hm)
    have it := test_ok req b F t rv mc mt pr pt pf hF n (by omega) W (ht.mod hm) (hr.mod hm)
    have e : (7 : Int) - ((n + 1 : Nat) : Int) + 1 = 7 - (n : Int) := by omega
    exact beginC_any n req _ b F t s rv mc mt p1 k1 p2 k2 p3 k3 W hc (hcm.mod hm) (hr.mod hm) hF (by omega) (by omega) (cmd_mu t req F n) (by rw [e]; exact it) (by rw [e]; exact ih)

end Go.Proofs.YtbiclelojbfnbaaGreatDoor

namespace Go.Proofs.YtbiclelojbfnbaaGreatDoor
open Go.RowKit
set_option linter.unusedVariables false
set_option linter.unusedSimpArgs false
attribute [local go_sem ↓] Go.wp_at_zero Go.wp_at_succ

theorem more_len {l : List UInt8} {chk : List UInt8 → Nat} : ∀ (f : Nat) (acc : List (List UInt8)) (s : PS), Gd l s → ∀ y, moreL l chk f acc s = .ok y → 2 * y.1.length + mu l.length y.2 ≤ 2 * acc.length + mu l.length s
  | 0, acc, s, h => fun y e => by cases e; exact Nat.le_refl _
  | f + 1, acc, s, h => fun y e => by
    rw [moreL] at e
    cases hp : passL l [[44], [93]] s with
    | error g => rw [hp] at e; cases e
    | ok z =>
      rw [hp] at e
      obtain ⟨h1, h2⟩ := pass_dn (zs := [[44], [93]]) h (by decide) z hp
      dsimp only at e
      split at e
      · cases hs : stringL l chk z.2 with
        | error g => rw [hs] at e; cases e
        | ok x =>
          rw [hs] at e
          obtain ⟨h3, h4⟩ := string_dn h1 x hs
          have h6 := more_len f _ x.2 h3 y e
          simp only [List.length_append, List.length_cons, List.length_nil] at h6
          omega
      · cases e; dsimp only; omega
theorem strings_len {l : List UInt8} {chk : List UInt8 → Nat} {F : Nat} {s : PS} (h : Gd l s) : ∀ y, stringsL l chk F s = .ok y → 2 * y.1.length + mu l.length y.2 ≤ mu l.length s + 1 := fun y e => by
  unfold stringsL at e
  cases hm : mayL l [[91]] s with
  | error g => rw [hm] at e; cases e
  | ok z =>
    rw [hm] at e
    obtain ⟨h1, h2⟩ := may_dn (zs := [[91]]) h (by decide) z hm
    dsimp only at e
    cases hs : stringL l chk z.2 with
    | error g => rw [hs] at e; cases e
    | ok x =>
      rw [hs] at e
      obtain ⟨h3, h4⟩ := string_dn h1 x hs
      dsimp only at e
      split at e
      · cases e; simp only [List.length_cons, List.length_nil]; omega
      · have h6 := more_len F _ x.2 h3 y e
        simp only [List.length_cons, List.length_nil] at h6
        omega
theorem addReq_length (req : List (List UInt8)) (x : List UInt8) : (addReq req x).length ≤ req.length + 1 := by
  unfold addReq; split <;> simp
theorem foldReq_length : ∀ (xs req : List (List UInt8)), (xs.foldl addReq req).length ≤ req.length + xs.length
  | [], req => by simp
  | x :: r, req => by
    have h1 := foldReq_length r (addReq req x)
    have h2 := addReq_length req x
    rw [List.foldl_cons, List.length_cons]
    omega

theorem reqV_owns {w : World} {base b : Nat} {rv : Value} {req : List (List UInt8)} (h : w.ownsRow base 9 1 rv req.length (tcells req)) (hnil : req = [] → rv = .slice none 0 0) (hb : b < base) (hl : req.length ≤ 1000) : ReqV w b rv req := by
  by_cases hr : req = []
  · exact Or.inl ⟨hnil hr, hr⟩
  · obtain ⟨g, c, hv, hg, ht, hx⟩ := slB.of_owns h rfl hr
    exact Or.inr ⟨g, c, hv, by omega, ht, hx, hl⟩
theorem OneAt.mod {w w' : World} {p1 p2 g n c er b : Nat} {zs : List (List UInt8)} (h : OneAt w p1 p2 g n c er zs) (hm : Mod b w w') (h1 : p1 ≠ b) (h2 : p2 ≠ b) (h3 : g ≠ b) : OneAt w' p1 p2 g n c er zs :=
  ⟨cell_mod h.1 hm h1, cell_mod h.2.1 hm h2, fun j hj => cell_mod (h.2.2.1 j hj) hm h3, h.2.2.2.1, h.2.2.2.2⟩
def reqNames : List (List UInt8) := [kEnvelope, kFileinto, kReject, kVariables]
theorem RC.setReq {w : World} {b : Nat} {t : ByteArray} {s : PS} {rv : Value} {mc mt : Nat} (h : RC w b t s rv mc mt) (v : Value) : RC (w.setCell ⟨b, 7, none⟩ v) b t s v mc mt :=
  h.step ((Mod.refl b w).setCell 7 v) (heap_setCell_at w b 7 v _ _ h.at_) h.le h.sz h.e0 h.nm
/-- What 'require' leaves: what is required, in the reader's field. -/
def ReqPost (r : Except Flt (List (List UInt8) × PS)) (b : Nat) (t : ByteArray) (mc mt : Nat) (w : World) (e : Ending) (w' : World) : Prop :=
  Mod b w w' ∧ ((∃ y rv, r = .ok y ∧ e = .returned (.tuple #[]) ∧ RC w' b t y.2 rv mc mt ∧ ReqV w' b rv y.1 ∧ ∀ k, rv.ownBlock = some k → w.heap.size ≤ k) ∨ (∃ f, r = .error f ∧ Threw f w e w'))

set_option maxRecDepth 100000 in
set_option maxHeartbeats 8000000 in
theorem require_any (b F : Nat) (t : ByteArray) (s : PS) (mc mt : Nat) (w : World) (h : RC w b t s (.slice none 0 0) mc mt) (hF : 2 * t.size + 1 < F) :
    Calls Tryz.prog 173 #[.pointer (some ⟨b, 0, none⟩)] w (ReqPost (reqMore t.data.toList F F [] s) b t mc mt w) := by
  have H := hide h
  have hlt := h.at_.lt
  have hmuL := h.mu_le
  have hmuF := h.mu_lt hF
  clear h
  obtain ⟨i0, hi, hz0, hz1, hz2⟩ := info_parts Tryz.infoStr
  go_enter Tryz.func173, Tryz.ntmps173
  go_wp2_with fail
  go_loopw [] (fun wr => ∃ (s' : PS) (req : List (List UInt8)) (rv : Value) (f : Nat), RC wr b t s' rv mc mt ∧ wr.ownsRow w.heap.size 9 1 rv req.length (tcells req) ∧ (req = [] → rv = .slice none 0 0) ∧ Mod b w wr ∧ mu t.size s' < f ∧ 2 * req.length + mu t.size s' ≤ 1300 ∧ reqMore t.data.toList F F [] s = reqMore t.data.toList F f req s') (fun wr => muW wr b t.size)
  case atStart => exact ⟨s, [], .slice none 0 0, F, H.out, World.ownsRow_nil _ _ _ _, fun _ => rfl, Mod.refl _ _, hmuF, by simp; omega, rfl⟩
  case round =>
    obtain ⟨s', req, rv, f, hrc, hown, hnil, hmod, hf, hbd, hsp⟩ := hrel
    obtain ⟨f, rfl⟩ : ∃ g, f = g + 1 := ⟨f - 1, by omega⟩
    have hmuR := hrc.muEq
    have hszR : wr.heap.size = wr.heap.size := rfl
    generalize hMR : muW wr b t.size = MR at *
    have HR := hide hrc
    have HMr := hide hmod
    have HSP := hide hsp
    have HOW := hide hown
    have HNL := hide hnil
    have hwr : w.heap.size ≤ wr.heap.size := hmod.size
    clear hrc hmod hsp hown hnil hmuL hmuF
    go_wp2_with fail
    refine (may_any b wr.heap.size 1 1 [kRequire] t s' rv mc mt _ (HR.out.alloc _) (txt_alloc wr [kRequire] _ _ rfl) rfl (by decide)).mono ?_
    intro e w3 h3
    rcases h3.cases with ⟨y3, v3, hy3, rfl, hv3, hc3, hm3⟩ | ⟨f3, hf3, ⟨bb, hz, rfl, hcc⟩, hm3⟩
    rotate_left
    · exact ⟨rfl, ⟨(HMr.out.alloc _).trans hm3, Or.inr ⟨f3, HSP.out.trans (thenL_err hf3), ⟨bb, by simp at hz; omega, rfl, hcc⟩⟩⟩⟩
    have hmu3 := mayL_mu (l := t.data.toList) (by simpa using HR.out.le) HR.out.e0 (by decide) hy3
    rw [bal] at hmu3
    have hmu3' := hmu3.2.1
    replace hmu3 := hmu3.1
    have hA3 := ((Mod.refl b wr).alloc (.cells #[.string (strA kRequire)] 9)).trans hm3
    have HM3 := hide (HMr.out.trans hA3)
    have HY3 := hide hy3
    have HC3 := hide hc3
    have HO3 := hide (ownsRow_mod (b := b) HOW.out hA3 (by omega))
    unfold numV at hv3
    subst hv3
    clear h3 hy3 hc3 hm3 hA3
    by_cases h1 : y3.1 = 0
    · have h1' : ¬ (0 : Int) < (y3.1 : Int) := by omega
      have H1 := hide h1
      clear h1
      go_wp2
      go_end0
      exact ⟨HM3.out, Or.inl ⟨(req, y3.2), rv, HSP.out.trans ((thenL_ok HY3.out).trans (if_pos H1.out)), rfl, HC3.out, reqV_owns HO3.out HNL.out (by omega) (show req.length ≤ 1000 by omega), fun k hk => (HO3.out.lt k hk).1⟩⟩
    have h1' : (0 : Int) < (y3.1 : Int) := by omega
    have hmu3'' := hmu3' h1
    have H1 := hide h1
    clear h1 hmu3'
    go_wp2_with (go_at_call 168; refine (oneOf_any _ _ _ _ _).mono ?_; rintro e w' ⟨rfl, rfl⟩)
    obtain ⟨U, hU⟩ : ∃ U, U = ((w3.alloc (.cells #[.string ⟨#[101, 110, 118, 101, 108, 111, 112, 101]⟩, .string ⟨#[102, 105, 108, 101, 105, 110, 116, 111]⟩, .string ⟨#[114, 101, 106, 101, 99, 116]⟩, .string ⟨#[118, 97, 114, 105, 97, 98, 108, 101, 115]⟩] 9)).alloc (.cells #[.int .i64 6] 39)).alloc (.cells #[.slice (some ⟨w3.heap.size, 0, none⟩) 4 4] 60) := ⟨_, rfl⟩
    have hw3 : w.heap.size ≤ w3.heap.size := HM3.out.size
    have HOU : Hid (OneAt U (w3.heap.size + 1 + 1) (w3.heap.size + 1) w3.heap.size 4 4 6 reqNames) := by
      rw [hU]
      refine ⟨?_, ?_, ?_, rfl, by decide⟩
      · exact blk_cell (blk_newAt (by simp)) 0
      · exact blk_cell (blk_alloc (blk_newAt (by simp))) 0
      · exact ((txt_alloc w3 reqNames _ _ rfl).below ((Below.refl _ _).alloc (Nat.le_refl _) _)).below ((Below.refl _ _).alloc (Nat.le_refl _) _)
    have HRU : Hid (RC U b t y3.2 rv mc mt) := by rw [hU]; exact ((HC3.out.alloc _).alloc _).alloc _
    have hMU' : Mod b w3 U := by rw [hU]; exact (((Mod.refl b w3).alloc _).alloc _).alloc _
    have HMU := hide (HM3.out.trans hMU')
    have HOW4 := hide (ownsRow_mod (b := b) HO3.out hMU' (by omega))
    have hzU : U.heap.size = w3.heap.size + 1 + 1 + 1 := by rw [hU]; simp
    rw [← hU]
    clear hU hMU'
    refine (strings_any (.func (.func 256) #[] #[.pointer (some ⟨w3.heap.size + 1 + 1, 0, none⟩), .pointer (some ⟨w3.heap.size + 1, 0, none⟩)]) (chkOne 6 reqNames) b F t y3.2 rv mc mt _ HRU.out (fun W s hm hc => string_oneOf _ _ _ 4 4 6 reqNames b t s rv mc mt W hc (HOU.out.mod hm (by omega) (by omega) (by omega))) (by have := HRU.out.mu_lt hF; exact this)).mono ?_
    intro e w5 h5
    rcases h5.cases with ⟨y5, v5, hy5, rfl, hv5, hc5, hm5⟩ | ⟨f5, hf5, ⟨bb, hz, rfl, hcc⟩, hm5⟩
    rotate_left
    · exact ⟨rfl, ⟨HMU.out.trans hm5, Or.inr ⟨f5, HSP.out.trans ((thenL_ok HY3.out).trans ((if_neg H1.out).trans (thenL_err hf5))), ⟨bb, Nat.le_trans HMU.out.size hz, rfl, hcc⟩⟩⟩⟩
    have hlen5 := strings_len (l := t.data.toList) ⟨by simpa using HRU.out.le, HRU.out.e0⟩ y5 hy5
    rw [bal] at hlen5
    obtain ⟨xg, xc, rfl, hxg, hxt, hxne⟩ := hv5
    have HX5 := hide hxt
    have HM5 := hide (HMU.out.trans hm5)
    have HY5 := hide hy5
    have HC5 := hide hc5
    have HO5 := hide (ownsRow_mod (b := b) HOW4.out hm5 (by omega))
    have hrvx : ∀ k, rv.ownBlock = some k → k < U.heap.size := fun k hk => (HOW4.out.lt k hk).2
    clear h5 hy5 hc5 hm5 hxt
    go_wp2_with fail
    go_loopw [13] (fun i wi => ∃ (k : Nat) (rv' : Value), i = .int .i64 k ∧ k ≤ y5.1.length ∧ RC wi b t y5.2 rv' mc mt ∧ wi.ownsRow w.heap.size 9 1 rv' ((y5.1.take k).foldl addReq req).length (tcells ((y5.1.take k).foldl addReq req)) ∧ ((y5.1.take k).foldl addReq req = [] → rv' = .slice none 0 0) ∧ Mod b w wi ∧ TxtAt wi xg y5.1 ∧ (∀ g, rv'.ownBlock = some g → g ≠ xg) ∧ muW wi b t.size = mu t.size y5.2 ∧ xg < wi.heap.size) (fun i _ => y5.1.length - (intOf i).toNat)
    case atStart => exact ⟨0, rv, rfl, Nat.zero_le _, HC5.out, HO5.out, HNL.out, HM5.out, HX5.out, fun k hk e => by have := hrvx k hk; omega, HC5.out.muEq, cell_lt (HX5.out 0 (List.length_pos_iff.2 hxne))⟩
    case round =>
      obtain ⟨k, rv', rfl, hk, hrc, hown, hnil, hmod, hxt, hrx, hmuw, hxl⟩ := hrel
      have hfl := foldReq_length (y5.1.take k) req
      have htk : (y5.1.take k).length = k := by rw [List.length_take]; omega
      have HRi := hide hrc
      have HOi := hide hown
      have HNi := hide hnil
      have HMi := hide hmod
      have HXi := hide hxt
      have hwi : w.heap.size ≤ wr.heap.size := hmod.size
      clear hrc hown hnil hmod hxt HC5 HO5 HM5 HX5 HR HOW HNL HMr HO3 HC3 HM3
      by_cases hkl : k < y5.1.length
      · have hx : (y5.1.take (k + 1)).foldl addReq req = addReq ((y5.1.take k).foldl addReq req) (y5.1.getD k []) := by
          rw [List.take_add_one, List.foldl_append, List.getElem?_eq_getElem hkl, List.getD_eq_getElem?_getD, List.getElem?_eq_getElem hkl]
          rfl
        have HXX := hide hx
        have hck : wr.cell? ⟨xg, k, none⟩ = some (.string (strA (y5.1.getD k []))) := HXi.out k hkl
        have h7 : wr.cell? ⟨b, 7, none⟩ = some rv' := HRi.out.at_.cell 7
        generalize hR : (y5.1.take k).foldl addReq req = R at *
        generalize y5.1.getD k [] = x at *
        have HCN := hide (contains_req wr b rv' R x (reqV_owns HOi.out HNi.out (by omega) (by omega)))
        obtain ⟨ra, rn, rc, hrv⟩ : ∃ a n c, rv' = .slice a n c := by
          obtain ⟨_, h2⟩ := HOi.out
          rcases h2 with ⟨h, _⟩ | ⟨g, cap, cur, h, _⟩
          · exact ⟨_, _, _, h⟩
          · exact ⟨_, _, _, h⟩
        subst hrv
        clear hx hR
        by_cases hw0 : 0 < whichL R x
        · rw [decide_eq_true hw0] at HCN
          have HA : Hid (addReq R x = R) := by show _ = _; unfold addReq; rw [if_pos hw0]
          clear hw0
          go_wp2_with (go_at_call 79; refine HCN.out.mono ?_; rintro e w' ⟨rfl, hww⟩; subst w')
          go_roundw
          case rel => exact ⟨k + 1, _, by go_num, by omega, HRi.out, by rw [HXX.out, HA.out]; exact HOi.out, fun hh => HNi.out (by rw [HXX.out, HA.out] at hh; exact hh), HMi.out, HXi.out, hrx, hmuw, hxl⟩
          case measure => simp [intOf]; omega
        · rw [decide_eq_false hw0] at HCN
          have HA : Hid (addReq R x = R ++ [x]) := by show _ = _; unfold addReq; rw [if_neg hw0]
          clear hw0
          have hfz : wr.frozen? ⟨b, 7, none⟩ = false := HRi.out.at_.frozen 7
          go_wp2_with (first | (go_at_call 79; refine HCN.out.mono ?_; rintro e w' ⟨rfl, hww⟩; subst w') | (at_builtin; refine wpList_append_own_at _ rfl _ _ 60 rfl w.heap.size 9 i0 (.string ⟨#[]⟩) 1 16 Tryz.underlying60 hi hz0 hz1 hz2 rfl (by decide) _ _ _ rfl (HOi.out.alloc _) ⟨wr.heap.size, 0, none⟩ 1 1 [.string (strA x)] rfl rfl ?c1 ?c2 ?c3 ?c4 ?c5 ?_))
          case c1 => exact cell_one_new _ _ _
          case c2 => intro u hu; simp at hu; subst hu; rfl
          case c3 => unfold maxLen; omega
          case c4 => omega
          case c5 => simp; omega
          · intro v' w6 hown6 hgrow _ hat
            have hl1 : R.length + 1 = (R ++ [x]).length := by simp
            rw [show tcells R ++ [.string (strA x)] = tcells (R ++ [x]) from tcells_snoc R x, hl1] at hown6
            obtain ⟨g', c', rfl, hg', _, _⟩ := slB.of_owns hown6 rfl (by simp)
            obtain ⟨nn, hnn⟩ : ∃ n, n = (R ++ [x]).length := ⟨_, rfl⟩
            rw [← hnn] at hown6 hat ⊢
            have hrow : ∀ k, (Value.slice ra rn rc).ownBlock = some k → w.heap.size ≤ k := fun k hk => (HOi.out.lt k hk).1
            have hx6 : TxtAt w6 xg y5.1 := fun j hj => by
              rw [World.cell?_of_block (w := wr) (a := ⟨xg, j, none⟩) (by
                rw [hgrow.block xg (by simp; omega) (fun e => hrx xg e.symm rfl)]
                exact Below.heap_alloc _ _ _ hxl)]
              exact HXi.out j hj
            have hgx : g' ≠ xg := by
              rcases hat with h | h
              · exact hrx g' (by rw [← h]; rfl)
              · simp [Value.ownBlock] at h; omega
            have hR6 := (HRi.out.alloc (Obj.cells #[.string (strA x)] 9)).grown hgrow (fun k hk => by have := hrow k hk; omega)
            have hM6 := (HMi.out.alloc (Obj.cells #[.string (strA x)] 9)).grown hgrow (fun k hk => hrow k hk)
            have h76 : w6.cell? ⟨b, 7, none⟩ = some (.slice ra rn rc) := hR6.at_.cell 7
            have hfz6 : w6.frozen? ⟨b, 7, none⟩ = false := hR6.at_.frozen 7
            have hxl6 : xg < w6.heap.size := by have := hgrow.size; simp at this; omega
            have HR7 := hide (hR6.setReq (.slice (some ⟨g', 0, none⟩) nn c'))
            have HM7 := hide (hM6.setCell 7 (.slice (some ⟨g', 0, none⟩) nn c'))
            have HO7 := hide (ownsRow_set (T := b) (o := 7) (x := .slice (some ⟨g', 0, none⟩) nn c') hown6 (fun k hk => by simp [Value.ownBlock] at hk; omega))
            have HX7 : Hid (TxtAt (w6.setCell ⟨b, 7, none⟩ (.slice (some ⟨g', 0, none⟩) nn c')) xg y5.1) := fun j hj => by
              rw [World.cell?_setCell_other _ _ _ _ (by simp; try omega)]
              exact hx6 j hj
            have hzz : (w6.setCell ⟨b, 7, none⟩ (.slice (some ⟨g', 0, none⟩) nn c')).heap.size = w6.heap.size := by simp [World.setCell]
            have HNN := hide hnn
            clear hnn hown6 hgrow hat hrow hx6 hR6 hM6
            go_wp2
            go_roundw
            case rel => exact ⟨k + 1, _, by go_num, by omega, HR7.out, by rw [HXX.out, HA.out, ← HNN.out]; exact HO7.out, fun hh => by rw [HXX.out, HA.out] at hh; simp at hh, HM7.out, HX7.out, fun g hg => by simp [Value.ownBlock] at hg; omega, HR7.out.muEq, by rw [hzz]; exact hxl6⟩
            case measure => simp [intOf]; omega
      · have hke : k = y5.1.length := by omega
        subst hke
        have htt : y5.1.take y5.1.length = y5.1 := List.take_length
        rw [htt] at HOi HNi hfl
        go_wp2_with fail
        have HP := hide (pass_any b wr.heap.size 1 1 [[59]] t y5.2 rv' mc mt _ (HRi.out.alloc (.cells (tcells [[59]]).toArray 9)) (txt_newAt _ _ rfl) rfl (by decide))
        refine HP.out.mono ?_
        intro e w8 h8
        rcases h8.cases with ⟨y8, v8, hy8, rfl, hv8, hc8, hm8⟩ | ⟨f8, hf8, ⟨bb, hz, rfl, hcc⟩, hm8⟩
        rotate_left
        · exact ⟨rfl, ⟨(HMi.out.alloc _).trans hm8, Or.inr ⟨f8, HSP.out.trans ((thenL_ok HY3.out).trans ((if_neg H1.out).trans ((thenL_ok HY5.out).trans (thenL_err hf8)))), ⟨bb, Nat.le_trans (HMi.out.alloc _).size hz, rfl, hcc⟩⟩⟩⟩
        have hmu8 := passL_mu (l := t.data.toList) (by simpa using HRi.out.le) HRi.out.e0 (by decide) hy8
        rw [bal] at hmu8
        replace hmu8 := hmu8.1
        have hA8 := ((Mod.refl b wr).alloc (.cells (tcells [[59]]).toArray 9)).trans hm8
        have HM8 := hide (HMi.out.trans hA8)
        have HO8 := hide (ownsRow_mod (b := b) HOi.out hA8 (by omega))
        have HC8 := hide hc8
        have HY8 := hide hy8
        unfold numV at hv8
        subst hv8
        clear h8 hy8 hc8 hm8 hA8 HP
        have HMW : Hid (muW w8 b t.size < MR) := by
          show _ < _
          rw [HC8.out.muEq]
          omega
        go_wp2
        go_roundw
        case rel => exact ⟨y8.2, y5.1.foldl addReq req, rv', f, HC8.out, HO8.out, HNi.out, HM8.out, by omega, by omega, HSP.out.trans ((thenL_ok HY3.out).trans ((if_neg H1.out).trans ((thenL_ok HY5.out).trans (thenL_ok HY8.out))))⟩
        case measure => exact HMW.out

end Go.Proofs.YtbiclelojbfnbaaGreatDoor

namespace Go.Proofs.YtbiclelojbfnbaaGreatDoor
open Go.RowKit
set_option linter.unusedVariables false
set_option linter.unusedSimpArgs false
attribute [local go_sem ↓] Go.wp_at_zero Go.wp_at_succ

/-- The state that a reader begins in. -/
def ps0 : PS := (⟨0, 0, [], [], 0⟩, 0)
/-- What is required, as a value in blocks of X. -/
def reqX (X : Nat → Prop) (req : List (List UInt8)) (w : World) (v : Value) : Prop :=
  (req = [] ∧ v = .slice none 0 0) ∨ slX X req w v
/-- A script, as a value in blocks of X. -/
def treeX (X : Nat → Prop) (y : List (List UInt8) × List (CmdT 7)) (w : World) (v : Value) : Prop :=
  ∃ rv lv, v = .agg #[rv, lv] ∧ reqX X y.1 w rv ∧ blX X (CmdV 7) y.2 w lv
theorem reqX.keep {X : Nat → Prop} {req : List (List UInt8)} {w w' : World} {v : Value} (h : reqX X req w v) (hk : AbvX X w w') : reqX X req w' v := by
  rcases h with h | h
  · exact Or.inl h
  · exact Or.inr (h.keep hk)
theorem reqX.weak {X Y : Nat → Prop} {req : List (List UInt8)} {w : World} {v : Value} (h : reqX X req w v) (hB : ∀ k, X k → k < w.heap.size → Y k) : reqX Y req w v := by
  rcases h with h | h
  · exact Or.inl h
  · exact Or.inr (h.weak hB)
theorem treeX.keep {X : Nat → Prop} {y : List (List UInt8) × List (CmdT 7)} {w w' : World} {v : Value} (h : treeX X y w v) (hk : AbvX X w w') : treeX X y w' v := by
  obtain ⟨rv, lv, hv, h1, h2⟩ := h
  exact ⟨rv, lv, hv, h1.keep hk, h2.keep (cmdV_tree 7) hk⟩
theorem treeX.weak {X Y : Nat → Prop} {y : List (List UInt8) × List (CmdT 7)} {w : World} {v : Value} (h : treeX X y w v) (hB : ∀ k, X k → k < w.heap.size → Y k) : treeX Y y w v := by
  obtain ⟨rv, lv, hv, h1, h2⟩ := h
  exact ⟨rv, lv, hv, h1.weak hB, h2.weak (cmdV_tree 7) hB⟩
theorem reqX.of {w : World} {b B : Nat} {rv : Value} {req : List (List UInt8)} (h : ReqV w b rv req) (hB : ∀ k, rv.ownBlock = some k → B ≤ k) : reqX (fromB B) req w rv := by
  rcases h with ⟨h1, h2⟩ | ⟨g, c, hv, _, ht, hne, _⟩
  · exact Or.inl ⟨h2, h1⟩
  · exact Or.inr ⟨g, c, hv, hB g (by rw [hv]; rfl), ht, hne⟩
theorem reqX.form {X : Nat → Prop} {req : List (List UInt8)} {w : World} {v : Value} (h : reqX X req w v) : ∃ a n c, v = .slice a n c := by
  rcases h with ⟨_, h⟩ | ⟨g, c, h, _⟩
  · exact ⟨_, _, _, h⟩
  · exact ⟨_, _, _, h⟩

/-- What 'script' leaves. -/
def SPost (r : Except Flt (List (List UInt8) × List (CmdT 7))) (b : Nat) (w : World) (e : Ending) (w' : World) : Prop :=
  Mod b w w' ∧ ((∃ y v, r = .ok y ∧ e = .returned v ∧ treeX (fromB w.heap.size) y w' v) ∨ (∃ f, r = .error f ∧ Threw f w e w'))

theorem parseL_nextErr {l : List UInt8} {f : Flt} (h : nextL l 0 = .error f) : parseL l = .error f := by unfold parseL; rw [h]
theorem parseL_reqErr {l : List UInt8} {s : PS} {f : Flt} (h : nextL l 0 = .ok s) (h2 : reqMore l (2 * l.length + 10) (2 * l.length + 10) [] s = .error f) : parseL l = .error f := by unfold parseL; rw [h]; dsimp only; rw [h2]
theorem parseL_cmdErr {l : List UInt8} {s : PS} {y : List (List UInt8) × PS} {f : Flt} (h : nextL l 0 = .ok s) (h2 : reqMore l (2 * l.length + 10) (2 * l.length + 10) [] s = .ok y) (h3 : cmdsMore (cmdL l y.1 (2 * l.length + 10) 7) (2 * l.length + 10) [] y.2 = .error f) : parseL l = .error f := by unfold parseL; rw [h]; dsimp only; rw [h2]; dsimp only; rw [h3]
theorem parseL_ok {l : List UInt8} {s : PS} {y : List (List UInt8) × PS} {cs : List (CmdT 7)} (h : nextL l 0 = .ok s) (h2 : reqMore l (2 * l.length + 10) (2 * l.length + 10) [] s = .ok y) (h3 : cmdsMore (cmdL l y.1 (2 * l.length + 10) 7) (2 * l.length + 10) [] y.2 = .ok cs) : parseL l = .ok (y.1, cs) := by unfold parseL; rw [h]; dsimp only; rw [h2]; dsimp only; rw [h3]
theorem cmdsMore_end {α : Type} {sub : PS → Except Flt (α × PS)} {f : Nat} {acc : List α} {s : PS} (h : s.1.kind = 0) : cmdsMore sub (f + 1) acc s = .ok acc := by rw [cmdsMore, if_pos h]
theorem cmdsMore_err {α : Type} {sub : PS → Except Flt (α × PS)} {f : Nat} {acc : List α} {s : PS} {e : Flt} (h : ¬ s.1.kind = 0) (h2 : sub s = .error e) : cmdsMore sub (f + 1) acc s = .error e := by rw [cmdsMore, if_neg h, h2]
theorem cmdsMore_go {α : Type} {sub : PS → Except Flt (α × PS)} {f : Nat} {acc : List α} {s : PS} {y : α × PS} (h : ¬ s.1.kind = 0) (h2 : sub s = .ok y) : cmdsMore sub (f + 1) acc s = cmdsMore sub f (acc ++ [y.1]) y.2 := by rw [cmdsMore, if_neg h, h2]

set_option maxRecDepth 100000 in
set_option maxHeartbeats 8000000 in
theorem script_any (b : Nat) (t : ByteArray) (mc mt pr pt pf p1 k1 p2 k2 p3 k3 : Nat) (w : World) (h : RC w b t ps0 (.slice none 0 0) mc mt) (ht : TMap w b mt pr pt pf) (hcm : CMap w b mc p1 k1 p2 k2 p3 k3) :
    Calls Tryz.prog 105 #[.pointer (some ⟨b, 0, none⟩)] w (SPost (parseL t.data.toList) b w) := by
  have H := hide h
  have HT := hide ht
  have HCM := hide hcm
  have hlt := h.at_.lt
  have hFF : 2 * t.size + 1 < 2 * t.data.toList.length + 10 := by rw [bal]; omega
  generalize hFe : 2 * t.data.toList.length + 10 = F at hFF
  clear h ht hcm
  obtain ⟨i0, hi, hz0, hz1, hz2⟩ := info_parts Tryz.infoCommand
  go_enter Tryz.func105, Tryz.ntmps105
  go_wp2_with fail
  have HM0 := hide ((Mod.refl b w).alloc (.cells #[.slice none 0 0, .slice none 0 0] 97))
  have HB0 := hide (blk_new w (.cells #[.slice none 0 0, .slice none 0 0] 97))
  refine (next_rc b t ps0 _ mc mt _ (H.out.alloc _)).mono ?_
  rintro e w1 (⟨y, hy, rfl, hc, hm⟩ | ⟨f2, hf2, ⟨bb, hz, rfl, hcc⟩, hm⟩)
  rotate_left
  · exact ⟨rfl, HM0.out.trans hm, Or.inr ⟨f2, parseL_nextErr hf2, ⟨bb, by simp at hz; omega, rfl, hcc⟩⟩⟩
  have HY := hide hy
  have HC := hide hc
  have HM := hide (HM0.out.trans hm)
  have HB1 := hide (blk_mod HB0.out hm (by omega))
  clear hy hc hm
  go_wp2_with fail
  refine (require_any b F t y mc mt _ HC.out hFF).mono ?_
  rintro e w2 ⟨hm2, ⟨y2, rv, hy2, rfl, hc2, hr2, hrb⟩ | ⟨f2, hf2, ⟨bb, hz, rfl, hcc⟩⟩⟩
  rotate_left
  · exact ⟨rfl, HM.out.trans hm2, Or.inr ⟨f2, parseL_reqErr HY.out (by rw [hFe]; exact hf2), ⟨bb, Nat.le_trans HM.out.size hz, rfl, hcc⟩⟩⟩
  have hz1' := blk_lt HB1.out
  have HY2 := hide hy2
  have HC2 := hide hc2
  have HM2 := hide (HM.out.trans hm2)
  have HB2 := hide (blk_mod HB1.out hm2 (by omega))
  have HR2 := hide hr2
  have HRB : Hid (∀ k, rv.ownBlock = some k → w.heap.size + 1 ≤ k) := fun k hk => by have := hrb k hk; omega
  have HO := hide (command_any y2.1 b F t rv mc mt pr pt pf p1 k1 p2 k2 p3 k3 hFF 7 (Nat.le_refl _) w2 (HT.out.mod HM2.out) (HCM.out.mod HM2.out) hr2)
  rw [show (7 : Int) - ((7 : Nat) : Int) = 0 from rfl] at HO
  have hmuL := hc2.mu_le
  have hmuF := hc2.mu_lt hFF
  have hz2' := blk_lt HB2.out
  clear hy2 hc2 hm2 hr2 hrb
  go_wp2_with fail
  go_loopw [3] (fun v wr => ∃ (s' : PS) (acc : List (CmdT 7)) (vs : List Value) (f : Nat), wr.ownsRow w2.heap.size 201 1 v acc.length vs ∧ RowP (fun a u => Gath (CmdV 7) w2.heap.size wr v a u) acc vs ∧ (acc = [] → v = .slice none 0 0) ∧ RC wr b t s' rv mc mt ∧ Mod b w2 wr ∧ mu t.size s' < f ∧ acc.length + mu t.size s' ≤ 1300 ∧ cmdsMore (cmdL t.data.toList y2.1 F 7) F [] y2.2 = cmdsMore (cmdL t.data.toList y2.1 F 7) f acc s') (fun _ wr => muW wr b t.size)
  case atStart =>
    exact ⟨y2.2, [], [], F, World.ownsRow_nil _ _ _ _, trivial, fun _ => rfl, HC2.out, Mod.refl _ _, hmuF, by simp; omega, rfl⟩
  case round =>
    obtain ⟨s', acc, vs, f, hown, hrow, hnil, hrc, hmod, hf, hbd, hsp⟩ := hrel
    obtain ⟨f, rfl⟩ : ∃ g, f = g + 1 := ⟨f - 1, by omega⟩
    have HR := hide hrc
    have HMr := hide hmod
    have HSP := hide hsp
    have HOW := hide hown
    have HRW := hide hrow
    have HNL := hide hnil
    have HBr := hide (blk_mod HB2.out hmod (by omega))
    have hzr := blk_lt HBr.out
    have hk1 : wr.cell? ⟨b, 1, none⟩ = some (.int .i64 s'.1.kind) := hrc.at_.cell 1
    clear hrc hmod hsp hown hrow hnil HC2 hmuL hmuF
    by_cases h1 : s'.1.kind = 0
    · have h1' : ((s'.1.kind : Int) != 0) = false := by simp; omega
      have H1 := hide h1
      have HTb := hide (blX.of_owns (cmdV_tree 7) HOW.out rfl HNL.out HRW.out)
      obtain ⟨la, ln, lc, rfl⟩ := HTb.out.form
      have HRQ := hide (reqX.of (HR2.out.mod HMr.out) HRB.out)
      obtain ⟨ra, rn, rc, rfl⟩ := HRQ.out.form
      have h7 : wr.cell? ⟨b, 7, none⟩ = some (.slice ra rn rc) := HR.out.at_.cell 7
      have r0 : wr.cell? ⟨w.heap.size, 0, none⟩ = some (.slice none 0 0) := blk_cell HBr.out 0
      have r1 : wr.cell? ⟨w.heap.size, 1, none⟩ = some (.slice none 0 0) := blk_cell HBr.out 1
      have rf := blk_frozen HBr.out
      clear h1
      go_wp2
      have hq : ¬ fromB (w.heap.size + 1) w.heap.size := by unfold fromB; omega
      have hwk : ∀ k, fromB (w.heap.size + 1) k → k < ((wr.setCell ⟨w.heap.size, 0, none⟩ (.slice ra rn rc)).setCell ⟨w.heap.size, 1, none⟩ (.slice la ln lc)).heap.size → fromB w.heap.size k := fun k hk _ => by unfold fromB at *; omega
      refine bodyPost_ret (v := .agg #[.slice ra rn rc, .slice la ln lc]) (by simp [results, Tryz.results105, go_sem, r0, r1]) rfl ⟨((HM2.out.trans HMr.out).setNew (Nat.le_refl _) _ _).setNew (Nat.le_refl _) _ _, Or.inl ⟨(y2.1, acc), _, parseL_ok HY.out (by rw [hFe]; exact HY2.out) (by rw [hFe, HSP.out]; exact cmdsMore_end H1.out), rfl, ⟨_, _, rfl, ?_, ?_⟩⟩⟩
      · exact ((HRQ.out.keep (AbvX.set hq _ _)).keep (AbvX.set hq _ _)).weak hwk
      · have hq : ¬ fromB w2.heap.size w.heap.size := by unfold fromB; omega
        refine blX.weak (cmdV_tree 7) ((HTb.out.keep (cmdV_tree 7) (AbvX.set hq _ _)).keep (cmdV_tree 7) (AbvX.set hq _ _)) (fun k hk _ => by unfold fromB at *; omega)
    have h1' : ((s'.1.kind : Int) != 0) = true := by simp; omega
    have H1 := hide h1
    clear h1
    go_wp2_with fail
    refine (HO.out _ s' HMr.out HR.out).mono ?_
    intro e w4 h4
    rcases h4.cases with ⟨z4, v4, hy4, rfl, hv4, hc4, hm4⟩ | ⟨f4, hf4, ⟨bb, hz, rfl, hcc⟩, hm4⟩
    rotate_left
    · exact ⟨rfl, (HM2.out.trans HMr.out).trans hm4, Or.inr ⟨f4, parseL_cmdErr HY.out (by rw [hFe]; exact HY2.out) (by rw [hFe, HSP.out]; exact cmdsMore_err H1.out hf4), ⟨bb, Nat.le_trans (HM2.out.trans HMr.out).size hz, rfl, hcc⟩⟩⟩
    have hmu4 := cmd_mu t y2.1 F 7 s' z4 HR.out.le HR.out.e0 hy4
    have HV4 := hide hv4
    obtain ⟨ty4, x4, rfl⟩ := (cmdV_tree 7).form _ _ _ _ hv4
    have HM4 := hide (HMr.out.trans hm4)
    have HY4 := hide hy4
    have HC4 := hide hc4
    have hown4 := ownsRow_mod (b := b) HOW.out hm4 (by omega)
    have HW4 := hide (HRW.out.imp (fun a u hu => Gath.mod (cmdV_tree 7) (b := b) (w' := w4) hu hm4 (by omega)))
    have hlt3 := hide (fun k hk => (HOW.out.lt k hk).2)
    have HG4 := hide (Gath.new (cmdV_tree 7) (base := w2.heap.size) HV4.out HMr.out.size hlt3.out)
    have hz4 : w2.heap.size ≤ w4.heap.size := HM4.out.size
    clear h4 hy4 hc4 hm4 hv4
    go_wp2_with (at_builtin; refine wpList_append_own_at _ rfl _ _ 95 rfl w2.heap.size 201 i0 .nilIface 1 16 Tryz.underlying95 hi hz0 hz1 hz2 rfl (by decide) _ _ _ rfl (hown4.alloc _) ⟨w4.heap.size, 0, none⟩ 1 1 [.iface ty4 x4] rfl rfl ?c1 ?c2 ?c3 ?c4 ?c5 ?_)
    case c1 => exact cell_one_new _ _ _
    case c2 => intro u hu; simp at hu; subst hu; rfl
    case c3 => unfold maxLen; omega
    case c4 => omega
    case c5 => simp; omega
    · intro v' w5 hown5 hgrow _ hat
      have hrow : ∀ k, (u3).ownBlock = some k → w2.heap.size ≤ k := fun k hk => (hown4.lt k hk).1
      have HM5 := hide ((HM4.out.alloc (Obj.cells #[.iface ty4 x4] 201)).grown hgrow (fun k hk => hrow k hk))
      have HC5 := hide ((HC4.out.alloc (Obj.cells #[.iface ty4 x4] 201)).grown hgrow (fun k hk => by have := hrow k hk; omega))
      have HO5 := hide hown5
      have HR5 := hide (RowP.snoc (P := fun a u => Gath (CmdV 7) w2.heap.size w5 v' a u) (HG4.out.grown (cmdV_tree 7) hgrow hat) (HW4.out.imp (fun a u hu => Gath.grown (cmdV_tree 7) hu hgrow hat)))
      have hmw : muW w5 b t.size < muW wr b t.size := by rw [HC5.out.muEq, HR.out.muEq]; omega
      have HMW := hide hmw
      clear hown5 hgrow hmw hown4 hrow hat
      go_wp2
      go_roundw
      case rel => exact ⟨z4.2, acc ++ [z4.1], vs ++ [.iface ty4 x4], f, by simpa using HO5.out, HR5.out, fun hh => absurd hh (by simp), HC5.out, HM5.out, by omega, by simp; omega, HSP.out.trans (cmdsMore_go H1.out HY4.out)⟩
      case measure => exact HMW.out

end Go.Proofs.YtbiclelojbfnbaaGreatDoor

namespace Go.Proofs.YtbiclelojbfnbaaGreatDoor
open Go.RowKit
set_option linter.unusedVariables false
set_option linter.unusedSimpArgs false

/-- A region whose operations come in any order: what each of them keeps holds at its end. -/
theorem wpAny_inv {P : Program} {md : Region.Mode} {ops : Array Oper} {Q : Exit → Act → World → Prop} (J : Array Bool → Act → World → Prop)
    (hsz : ∀ l a w, J l a w → l.size = ops.size)
    (hstep : ∀ l a w i, J l a w → i ∈ Region.ready md ops l → wpOp P ops Q i (fun a' w' => J (l.setIfInBounds i true) a' w') a w)
    (hdone : ∀ l a w, J l a w → Region.ready md ops l = [] → Q .normal a w) :
    ∀ (fuel : Nat) (l : Array Bool) (a : Act) (w : World), l.toList.count false ≤ fuel → J l a w → wpAny P md ops Q fuel l a w
  | 0, l, a, w, hf, hJ => by
    have hr : Region.ready md ops l = [] := by
      rw [List.eq_nil_iff_forall_not_mem]
      intro i hi
      obtain ⟨h0, o, ho, _⟩ := mem_ready.1 hi
      have hlt : i < l.size := by rw [hsz l a w hJ]; exact (Array.getElem?_eq_some_iff.1 ho).1
      have : l[i] = false := by simpa [hlt] using h0
      have hm : false ∈ l.toList := by rw [← this]; simp
      have := List.count_pos_iff.2 hm
      omega
    exact ⟨hr, hdone l a w hJ hr⟩
  | fuel + 1, l, a, w, hf, hJ => by
    refine ⟨hdone l a w hJ, fun i hi => wpOp_mono (fun a' w' h => ?_) (hstep l a w i hJ hi)⟩
    refine wpAny_inv J hsz hstep hdone fuel _ a' w' ?_ h
    obtain ⟨h0, o, ho, _⟩ := mem_ready.1 hi
    have hlt : i < l.size := by rw [hsz l a w hJ]; exact (Array.getElem?_eq_some_iff.1 ho).1
    have hv : l[i] = false := by simpa [hlt] using h0
    have e : (l.setIfInBounds i true).toList = l.toList.set i true := by simp
    rw [e]
    have hc := List.count_set (a := true) (b := false) (l := l.toList) (i := i) (h := by simpa using hlt)
    have hv' : l.toList[i]'(by simpa using hlt) = false := by simpa using hv
    rw [hv'] at hc
    simp only [beq_self_eq_true, if_true, show ((true : Bool) == false) = false from rfl, Bool.false_eq_true, if_false] at hc
    have hm : false ∈ l.toList := by rw [← hv']; simp
    have := List.count_pos_iff.2 hm
    omega

/-- The entries of a map: what is laid at the words, and nothing else. -/
def MapIs (es : Array MapEntry) (f : List UInt8 → Option Value) : Prop :=
  (∀ e ∈ es.toList, ∃ x, e.key = .string (strA x) ∧ f x = some e.val) ∧ ∀ x v, f x = some v → ∃ e ∈ es.toList, e.key = .string (strA x)
theorem MapIs.keys {es : Array MapEntry} {f : List UInt8 → Option Value} (h : MapIs es f) : ∀ e ∈ es.toList, MapKept.IsKey .string e.key := fun e he => by
  obtain ⟨x, hx, _⟩ := h.1 e he
  rw [hx]; trivial
theorem MapIs.empty : MapIs #[] (fun _ => none) := ⟨fun e he => by simp at he, fun x v h => by cases h⟩
theorem MapIs.push {es : Array MapEntry} {f g : List UInt8 → Option Value} (h : MapIs es f) {x : List UInt8} {v : Value} {c : Nat} (hn : f x = none) (hx : g x = some v) (hg : ∀ z, z ≠ x → g z = f z) : MapIs (es.push ⟨.string (strA x), v, c⟩) g := by
  refine ⟨fun e he => ?_, fun z u hz => ?_⟩
  · simp only [Array.toList_push, List.mem_append, List.mem_singleton] at he
    rcases he with he | he
    · obtain ⟨z, h1, h2⟩ := h.1 e he
      have : z ≠ x := fun e => by rw [e, hn] at h2; cases h2
      exact ⟨z, h1, by rw [hg z this]; exact h2⟩
    · subst he; exact ⟨x, rfl, hx⟩
  · by_cases e : z = x
    · exact ⟨⟨.string (strA x), v, c⟩, by simp, by rw [e]⟩
    · rw [hg z e] at hz
      obtain ⟨y, hy, hk⟩ := h.2 z u hz
      exact ⟨y, by simp [hy], hk⟩
theorem MapIs.congr {es : Array MapEntry} {f g : List UInt8 → Option Value} (h : MapIs es f) (e : ∀ x, f x = g x) : MapIs es g := by
  have : f = g := funext e
  rw [← this]; exact h
/-- The world with a map's block laid anew. -/
def mapSet (w : World) (m : Nat) (o : Obj) : World := { w with heap := w.heap.setIfInBounds m o }
theorem run_insert_new {T K E : TypeId} (hT : Tryz.prog.underlying T = some (.map K E)) (hK : Tryz.prog.underlying K = some .string) {w : World} {m : Nat} {es : Array MapEntry} {c : Nat} {f : List UInt8 → Option Value} {x : List UInt8} (hm : w.heap[m]? = some (.map es c)) (hf : MapIs es f) (hx : f x = none) (v : Value) :
    (Instr.mapUpdate T (.map (some m)) (.string (strA x)) v).run Tryz.prog w = .ok () (mapSet w m (.map (es.push ⟨.string (strA x), v, c⟩) (c + 1))) := by
  have hk : MapKept.IsKey .string (.string (strA x)) := trivial
  rcases MapKept.findNow_spec hk es.toList 0 hf.keys with ⟨h1, _⟩ | ⟨j, e, h1, h2, h3⟩
  · simp [Instr.mapUpdate, run_underlying hT, MapKept.run_getObj_map hm, MapKept.run_checkKey hK hk, MapKept.run_findKey hK h1, MapKept.run_setObj_map _ hm, Result.andThen, mapSet]
  · obtain ⟨z, hz, hz2⟩ := hf.1 e (List.mem_of_getElem? h2)
    rw [h3] at hz
    have : x = z := strA_inj (by simpa using hz)
    subst this
    rw [hx] at hz2; cases hz2
theorem mapSet_same {w : World} {m : Nat} {o o' : Obj} (h : w.heap[m]? = some o) : (mapSet w m o').heap[m]? = some o' := by
  have := blk_lt h
  simp [mapSet, this]
theorem mapSet_other {w : World} {m k : Nat} {o' : Obj} (h : k ≠ m) : (mapSet w m o').heap[k]? = w.heap[k]? := by
  simp [mapSet, Array.getElem?_setIfInBounds_ne (Ne.symm h)]
theorem mapSet_size {w : World} {m : Nat} {o' : Obj} : (mapSet w m o').heap.size = w.heap.size := by simp [mapSet]

theorem lookOk_of {T K E : TypeId} (hT : Tryz.prog.underlying T = some (.map K E)) (hK : Tryz.prog.underlying K = some .string) (hE : ∀ W, (zeroValue E).run Tryz.prog W = .ok .nilFunc W) {w : World} {m : Nat} {es : Array MapEntry} {c : Nat} {f : List UInt8 → Option Value} (hm : w.heap[m]? = some (.map es c)) (hf : MapIs es f) : LookOk w T m f := by
  intro W x hW
  rw [hm] at hW
  have hk : MapKept.IsKey .string (.string (strA x)) := trivial
  rcases MapKept.findNow_spec hk es.toList 0 hf.keys with ⟨h1, h2⟩ | ⟨j, e, h1, h2, h3⟩
  · have hn : f x = none := by
      cases hfx : f x with
      | none => rfl
      | some v =>
        obtain ⟨e, he, hke⟩ := hf.2 x v hfx
        exact absurd hke (h2 e he)
    rw [hn]
    simp [Instr.lookup, run_underlying hT, MapKept.run_getObj_map hW, MapKept.run_checkKey hK hk, MapKept.run_findKey hK h1, hE, Result.andThen]
  · obtain ⟨z, hz, hz2⟩ := hf.1 e (List.mem_of_getElem? h2)
    rw [h3] at hz
    have : x = z := strA_inj (by simpa using hz)
    subst this
    rw [hz2]
    simp [Instr.lookup, run_underlying hT, MapKept.run_getObj_map hW, MapKept.run_checkKey hK hk, MapKept.run_findKey hK h1, Result.andThen]

end Go.Proofs.YtbiclelojbfnbaaGreatDoor

namespace Go.Proofs.YtbiclelojbfnbaaGreatDoor
open Go.RowKit
set_option linter.unusedVariables false
set_option linter.unusedSimpArgs false
attribute [local go_sem ↓] Go.wp_at_zero Go.wp_at_succ

theorem Tryz.infoFnC : (Tryz.prog.info? 261).map (fun i => (i.zero, i.size, i.bytes)) = some (some .nilFunc, 1, 8) := by kernel_rfl
theorem Tryz.infoFnT : (Tryz.prog.info? 263).map (fun i => (i.zero, i.size, i.bytes)) = some (some .nilFunc, 1, 8) := by kernel_rfl
theorem zeroFnC (W : World) : (zeroValue 261).run Tryz.prog W = .ok .nilFunc W := by
  obtain ⟨i0, hi, hz0, hz1, hz2⟩ := info_parts Tryz.infoFnC
  simp [zeroValue, typeInfo, Sem.run, hi, hz0]
theorem zeroFnT (W : World) : (zeroValue 263).run Tryz.prog W = .ok .nilFunc W := by
  obtain ⟨i0, hi, hz0, hz1, hz2⟩ := info_parts Tryz.infoFnT
  simp [zeroValue, typeInfo, Sem.run, hi, hz0]

set_option maxHeartbeats 1000000 in
theorem act_any (r : Value) (b : Nat) (kd : Int) (w : World) (hr : r = .pointer (some ⟨b, 0, none⟩)) :
    Calls Tryz.prog 155 #[r, .int .i64 kd] w fun e w' => e = .returned (.func (.func 244) #[] #[.pointer (some ⟨w.heap.size, 0, none⟩), .pointer (some ⟨w.heap.size + 1, 0, none⟩)]) ∧ w' = (w.alloc (.cells #[r] 182)).alloc (.cells #[.int .i64 kd] 3) := by
  subst hr
  have hmf : ∀ (fn : Fn) (first cap : Array Value) (w : World), (Instr.makeFunc fn first cap).run Tryz.prog w = .ok (.func fn first cap) w := fun _ _ _ _ => rfl
  go_enter Tryz.func155, Tryz.ntmps155
  go_wp2
  go_ret
  exact ⟨rfl, rfl⟩

set_option maxHeartbeats 1000000 in
theorem truth_any (h : Bool) (w : World) :
    Calls Tryz.prog 158 #[.bool h] w fun e w' => e = .returned (.func (.func 251) #[] #[.pointer (some ⟨w.heap.size, 0, none⟩)]) ∧ w' = w.alloc (.cells #[.bool h] 4) := by
  have hmf : ∀ (fn : Fn) (first cap : Array Value) (w : World), (Instr.makeFunc fn first cap).run Tryz.prog w = .ok (.func fn first cap) w := fun _ _ _ _ => rfl
  go_enter Tryz.func158, Tryz.ntmps158
  go_wp2
  go_ret
  exact ⟨rfl, rfl⟩

end Go.Proofs.YtbiclelojbfnbaaGreatDoor

namespace Go.Proofs.YtbiclelojbfnbaaGreatDoor
open Go.RowKit
set_option linter.unusedVariables false
set_option linter.unusedSimpArgs false

/-- One more operation has come up. -/
def up (L : Nat → Bool) (i : Nat) : Nat → Bool := fun j => if j = i then true else L j
theorem up_same (L : Nat → Bool) (i : Nat) : up L i i = true := by simp [up]
theorem up_other (L : Nat → Bool) {i j : Nat} (h : j ≠ i) : up L i j = L j := by simp [up, h]
theorem up_old (L : Nat → Bool) {i j : Nat} (h : L j = true) : up L i j = true := by unfold up; split <;> simp [h]

/-- The reader's block, with its map of commands. -/
def rdObj (t : ByteArray) (mv mv2 : Value) : Obj := .cells #[.string t, .int .i64 0, .int .i64 0, .string ⟨#[]⟩, .string ⟨#[]⟩, .int .i64 0, .int .i64 0, .slice none 0 0, mv, mv2] 260

/-- A closure of 'act', with its variables in blocks of their own. -/
def ActAt (w : World) (b B kd : Nat) (v : Value) : Prop :=
  ∃ p q, v = .func (.func 244) #[] #[.pointer (some ⟨p, 0, none⟩), .pointer (some ⟨q, 0, none⟩)] ∧ B ≤ p ∧ B ≤ q ∧ w.heap[p]? = some (.cells #[.pointer (some ⟨b, 0, none⟩)] 182) ∧ w.heap[q]? = some (.cells #[.int .i64 kd] 3)
theorem ActAt.keep {w w' : World} {b B kd : Nat} {v : Value} (h : ActAt w b B kd v) (hk : ∀ k cs ty, B ≤ k → w.heap[k]? = some (.cells cs ty) → w'.heap[k]? = some (.cells cs ty)) : ActAt w' b B kd v := by
  obtain ⟨p, q, hv, hp, hq, h1, h2⟩ := h
  exact ⟨p, q, hv, hp, hq, hk p _ _ hp h1, hk q _ _ hq h2⟩

/-- What is laid in the map of commands when these operations have come up. -/
def fC (b : Nat) (L : Nat → Bool) (u16 u18 u20 : Value) (x : List UInt8) : Option Value :=
  match whichL cmdNames x with
  | 1 => if L 4 then some (.func (.func 152) #[.pointer (some ⟨b, 0, none⟩)] #[]) else none
  | 2 => if L 7 then some (.func (.func 153) #[.pointer (some ⟨b, 0, none⟩)] #[]) else none
  | 3 => if L 10 then some (.func (.func 154) #[.pointer (some ⟨b, 0, none⟩)] #[]) else none
  | 4 => if L 13 then some (u16) else none
  | 5 => if L 16 then some (u18) else none
  | 6 => if L 19 then some (u20) else none
  | 7 => if L 22 then some (.func (.func 156) #[.pointer (some ⟨b, 0, none⟩)] #[]) else none
  | 8 => if L 25 then some (.func (.func 157) #[.pointer (some ⟨b, 0, none⟩)] #[]) else none
  | _ => none

/-- What is known while the map of commands is laid, in whatever order. -/
structure JC (t : ByteArray) (b : Nat) (W : World) (mv2 : Value) (L : Nat → Bool) (u8 u16 u18 u20 u25 u26 u27 : Value) (w : World) : Prop where
  hb : b < W.heap.size
  mod : Mod b W w
  rd : w.heap[b]? = some (rdObj t (if L 29 then u25 else Value.map none) mv2)
  cm4 : L 4 = true → L 1 = true
  cm7 : L 7 = true → L 1 = true
  cm10 : L 10 = true → L 1 = true
  cm13 : L 13 = true → L 1 = true
  cm16 : L 16 = true → L 1 = true
  cm19 : L 19 = true → L 1 = true
  cm22 : L 22 = true → L 1 = true
  cm25 : L 25 = true → L 1 = true
  cv13 : L 13 = true → L 12 = true
  cv16 : L 16 = true → L 15 = true
  cv19 : L 19 = true → L 18 = true
  a12 : L 12 = true → ActAt w b W.heap.size 2 u16
  a15 : L 15 = true → ActAt w b W.heap.size 3 u18
  a18 : L 18 = true → ActAt w b W.heap.size 4 u20
  mp : L 1 = true → ∃ m es c, u8 = .map (some m) ∧ W.heap.size ≤ m ∧ w.heap[m]? = some (.map es c) ∧ MapIs es (fC b L u16 u18 u20)
  m26 : L 26 = true → u25 = u8 ∧ L 1 = true ∧ L 4 = true ∧ L 7 = true ∧ L 10 = true ∧ L 13 = true ∧ L 16 = true ∧ L 19 = true ∧ L 22 = true ∧ L 25 = true
  m27 : L 27 = true → u26 = .pointer (some ⟨b, 0, none⟩)
  m28 : L 28 = true → u27 = .pointer (some ⟨b, 8, none⟩)
  m29 : L 29 = true → L 26 = true

theorem mod_mapSet {b m : Nat} {W w : World} {o : Obj} (h : Mod b W w) (hm : W.heap.size ≤ m) : Mod b W (mapSet w m o) :=
  ⟨h.os, h.tape, h.output, by rw [mapSet_size]; exact h.size, fun k hk hn => by rw [mapSet_other (by omega)]; exact h.block k hk hn⟩

section
variable {t : ByteArray} {b : Nat} {W : World} {mv2 : Value} {L : Nat → Bool} {u8 u16 u18 u20 u25 u26 u27 : Value} {w : World}

theorem fC_up (i : Nat) (h : i ≠ 4 ∧ i ≠ 7 ∧ i ≠ 10 ∧ i ≠ 13 ∧ i ≠ 16 ∧ i ≠ 19 ∧ i ≠ 22 ∧ i ≠ 25) (x : List UInt8) : fC b (up L i) u16 u18 u20 x = fC b L u16 u18 u20 x := by
  obtain ⟨h0, h1, h2, h3, h4, h5, h6, h7⟩ := h
  unfold fC
  simp only [up_other L (Ne.symm h0), up_other L (Ne.symm h1), up_other L (Ne.symm h2), up_other L (Ne.symm h3), up_other L (Ne.symm h4), up_other L (Ne.symm h5), up_other L (Ne.symm h6), up_other L (Ne.symm h7)]

theorem JC.s1 (J : JC t b W mv2 L u8 u16 u18 u20 u25 u26 u27 w) (h0 : L 1 = false) : JC t b W mv2 (up L 1) (.map (some w.heap.size)) u16 u18 u20 u25 u26 u27 (w.alloc (Obj.map #[] 0)) := by
  have hk : ∀ k cs ty, W.heap.size ≤ k → w.heap[k]? = some (.cells cs ty) → (w.alloc (Obj.map #[] 0)).heap[k]? = some (.cells cs ty) := fun k cs ty _ h => blk_alloc h
  have hkb : (w.alloc (Obj.map #[] 0)).heap[b]? = some (rdObj t (if L 29 then u25 else Value.map none) mv2) := blk_alloc J.rd
  have n4 : L 4 = false := by cases hh : L 4 with | false => rfl | true => exact absurd (J.cm4 hh) (by rw [h0]; decide)
  have n7 : L 7 = false := by cases hh : L 7 with | false => rfl | true => exact absurd (J.cm7 hh) (by rw [h0]; decide)
  have n10 : L 10 = false := by cases hh : L 10 with | false => rfl | true => exact absurd (J.cm10 hh) (by rw [h0]; decide)
  have n13 : L 13 = false := by cases hh : L 13 with | false => rfl | true => exact absurd (J.cm13 hh) (by rw [h0]; decide)
  have n16 : L 16 = false := by cases hh : L 16 with | false => rfl | true => exact absurd (J.cm16 hh) (by rw [h0]; decide)
  have n19 : L 19 = false := by cases hh : L 19 with | false => rfl | true => exact absurd (J.cm19 hh) (by rw [h0]; decide)
  have n22 : L 22 = false := by cases hh : L 22 with | false => rfl | true => exact absurd (J.cm22 hh) (by rw [h0]; decide)
  have n25 : L 25 = false := by cases hh : L 25 with | false => rfl | true => exact absurd (J.cm25 hh) (by rw [h0]; decide)
  exact ⟨J.hb, J.mod.trans ((Mod.refl b w).alloc _), by rw [up_other L (by decide)]; exact hkb, fun h => up_old _ (J.cm4 (by rwa [up_other L (by decide)] at h)), fun h => up_old _ (J.cm7 (by rwa [up_other L (by decide)] at h)), fun h => up_old _ (J.cm10 (by rwa [up_other L (by decide)] at h)), fun h => up_old _ (J.cm13 (by rwa [up_other L (by decide)] at h)), fun h => up_old _ (J.cm16 (by rwa [up_other L (by decide)] at h)), fun h => up_old _ (J.cm19 (by rwa [up_other L (by decide)] at h)), fun h => up_old _ (J.cm22 (by rwa [up_other L (by decide)] at h)), fun h => up_old _ (J.cm25 (by rwa [up_other L (by decide)] at h)), fun h => up_old _ (J.cv13 (by rwa [up_other L (by decide)] at h)), fun h => up_old _ (J.cv16 (by rwa [up_other L (by decide)] at h)), fun h => up_old _ (J.cv19 (by rwa [up_other L (by decide)] at h)), fun h => (J.a12 (by rwa [up_other L (by decide)] at h)).keep hk, fun h => (J.a15 (by rwa [up_other L (by decide)] at h)).keep hk, fun h => (J.a18 (by rwa [up_other L (by decide)] at h)).keep hk, fun _ => ⟨w.heap.size, #[], 0, rfl, J.mod.size, blk_new _ _, MapIs.empty.congr (fun x => by rw [fC_up 1 (by decide)]; unfold fC; simp only [n4, n7, n10, n13, n16, n19, n22, n25]; split <;> rfl)⟩, fun h => absurd (J.m26 (by rwa [up_other L (by decide)] at h)).2.1 (by rw [h0]; decide), fun h => J.m27 (by rwa [up_other L (by decide)] at h), fun h => J.m28 (by rwa [up_other L (by decide)] at h), fun h => up_old _ (J.m29 (by rwa [up_other L (by decide)] at h))⟩

theorem JC.s12 (J : JC t b W mv2 L u8 u16 u18 u20 u25 u26 u27 w) (h0 : L 12 = false) : JC t b W mv2 (up L 12) u8 (.func (.func 244) #[] #[.pointer (some ⟨w.heap.size, 0, none⟩), .pointer (some ⟨w.heap.size + 1, 0, none⟩)]) u18 u20 u25 u26 u27 ((w.alloc (.cells #[.pointer (some ⟨b, 0, none⟩)] 182)).alloc (.cells #[.int .i64 2] 3)) := by
  have hk : ∀ k cs ty, W.heap.size ≤ k → w.heap[k]? = some (.cells cs ty) → ((w.alloc (.cells #[.pointer (some ⟨b, 0, none⟩)] 182)).alloc (.cells #[.int .i64 2] 3)).heap[k]? = some (.cells cs ty) := fun k cs ty _ h => blk_alloc (blk_alloc h)
  have hkm : ∀ (m : Nat) (es : Array MapEntry) (c : Nat), w.heap[m]? = some (Obj.map es c) → ((w.alloc (.cells #[.pointer (some ⟨b, 0, none⟩)] 182)).alloc (.cells #[.int .i64 2] 3)).heap[m]? = some (Obj.map es c) := fun m es c h => blk_alloc (blk_alloc h)
  have hkb : ((w.alloc (.cells #[.pointer (some ⟨b, 0, none⟩)] 182)).alloc (.cells #[.int .i64 2] 3)).heap[b]? = some (rdObj t (if L 29 then u25 else Value.map none) mv2) := blk_alloc (blk_alloc J.rd)
  have hn : L 13 = false := by cases hh : L 13 with | false => rfl | true => exact absurd (J.cv13 hh) (by rw [h0]; decide)
  have hsz := J.mod.size
  exact ⟨J.hb, J.mod.trans (((Mod.refl b w).alloc _).alloc _), by rw [up_other L (by decide)]; exact hkb, fun h => up_old _ (J.cm4 (by rwa [up_other L (by decide)] at h)), fun h => up_old _ (J.cm7 (by rwa [up_other L (by decide)] at h)), fun h => up_old _ (J.cm10 (by rwa [up_other L (by decide)] at h)), fun h => up_old _ (J.cm13 (by rwa [up_other L (by decide)] at h)), fun h => up_old _ (J.cm16 (by rwa [up_other L (by decide)] at h)), fun h => up_old _ (J.cm19 (by rwa [up_other L (by decide)] at h)), fun h => up_old _ (J.cm22 (by rwa [up_other L (by decide)] at h)), fun h => up_old _ (J.cm25 (by rwa [up_other L (by decide)] at h)), fun h => up_old _ (J.cv13 (by rwa [up_other L (by decide)] at h)), fun h => up_old _ (J.cv16 (by rwa [up_other L (by decide)] at h)), fun h => up_old _ (J.cv19 (by rwa [up_other L (by decide)] at h)), fun _ => ⟨w.heap.size, w.heap.size + 1, rfl, hsz, by omega, blk_alloc (blk_new _ _), blk_newAt (by simp)⟩, fun h => (J.a15 (by rwa [up_other L (by decide)] at h)).keep hk, fun h => (J.a18 (by rwa [up_other L (by decide)] at h)).keep hk, fun h => by obtain ⟨m, es, c, h3, h4, h5, h6⟩ := J.mp (by rwa [up_other L (by decide)] at h); exact ⟨m, es, c, h3, h4, hkm m _ _ h5, h6.congr (fun x => by rw [fC_up 12 (by decide)]; unfold fC; simp only [hn, Bool.false_eq_true, if_false])⟩, fun h => by obtain ⟨e1, e2, e3, e4, e5, e6, e7, e8, e9, e10⟩ := J.m26 (by rwa [up_other L (by decide)] at h); exact ⟨e1, up_old _ e2, up_old _ e3, up_old _ e4, up_old _ e5, up_old _ e6, up_old _ e7, up_old _ e8, up_old _ e9, up_old _ e10⟩, fun h => J.m27 (by rwa [up_other L (by decide)] at h), fun h => J.m28 (by rwa [up_other L (by decide)] at h), fun h => up_old _ (J.m29 (by rwa [up_other L (by decide)] at h))⟩

theorem JC.s15 (J : JC t b W mv2 L u8 u16 u18 u20 u25 u26 u27 w) (h0 : L 15 = false) : JC t b W mv2 (up L 15) u8 u16 (.func (.func 244) #[] #[.pointer (some ⟨w.heap.size, 0, none⟩), .pointer (some ⟨w.heap.size + 1, 0, none⟩)]) u20 u25 u26 u27 ((w.alloc (.cells #[.pointer (some ⟨b, 0, none⟩)] 182)).alloc (.cells #[.int .i64 3] 3)) := by
  have hk : ∀ k cs ty, W.heap.size ≤ k → w.heap[k]? = some (.cells cs ty) → ((w.alloc (.cells #[.pointer (some ⟨b, 0, none⟩)] 182)).alloc (.cells #[.int .i64 3] 3)).heap[k]? = some (.cells cs ty) := fun k cs ty _ h => blk_alloc (blk_alloc h)
  have hkm : ∀ (m : Nat) (es : Array MapEntry) (c : Nat), w.heap[m]? = some (Obj.map es c) → ((w.alloc (.cells #[.pointer (some ⟨b, 0, none⟩)] 182)).alloc (.cells #[.int .i64 3] 3)).heap[m]? = some (Obj.map es c) := fun m es c h => blk_alloc (blk_alloc h)
  have hkb : ((w.alloc (.cells #[.pointer (some ⟨b, 0, none⟩)] 182)).alloc (.cells #[.int .i64 3] 3)).heap[b]? = some (rdObj t (if L 29 then u25 else Value.map none) mv2) := blk_alloc (blk_alloc J.rd)
  have hn : L 16 = false := by cases hh : L 16 with | false => rfl | true => exact absurd (J.cv16 hh) (by rw [h0]; decide)
  have hsz := J.mod.size
  exact ⟨J.hb, J.mod.trans (((Mod.refl b w).alloc _).alloc _), by rw [up_other L (by decide)]; exact hkb, fun h => up_old _ (J.cm4 (by rwa [up_other L (by decide)] at h)), fun h => up_old _ (J.cm7 (by rwa [up_other L (by decide)] at h)), fun h => up_old _ (J.cm10 (by rwa [up_other L (by decide)] at h)), fun h => up_old _ (J.cm13 (by rwa [up_other L (by decide)] at h)), fun h => up_old _ (J.cm16 (by rwa [up_other L (by decide)] at h)), fun h => up_old _ (J.cm19 (by rwa [up_other L (by decide)] at h)), fun h => up_old _ (J.cm22 (by rwa [up_other L (by decide)] at h)), fun h => up_old _ (J.cm25 (by rwa [up_other L (by decide)] at h)), fun h => up_old _ (J.cv13 (by rwa [up_other L (by decide)] at h)), fun h => up_old _ (J.cv16 (by rwa [up_other L (by decide)] at h)), fun h => up_old _ (J.cv19 (by rwa [up_other L (by decide)] at h)), fun h => (J.a12 (by rwa [up_other L (by decide)] at h)).keep hk, fun _ => ⟨w.heap.size, w.heap.size + 1, rfl, hsz, by omega, blk_alloc (blk_new _ _), blk_newAt (by simp)⟩, fun h => (J.a18 (by rwa [up_other L (by decide)] at h)).keep hk, fun h => by obtain ⟨m, es, c, h3, h4, h5, h6⟩ := J.mp (by rwa [up_other L (by decide)] at h); exact ⟨m, es, c, h3, h4, hkm m _ _ h5, h6.congr (fun x => by rw [fC_up 15 (by decide)]; unfold fC; simp only [hn, Bool.false_eq_true, if_false])⟩, fun h => by obtain ⟨e1, e2, e3, e4, e5, e6, e7, e8, e9, e10⟩ := J.m26 (by rwa [up_other L (by decide)] at h); exact ⟨e1, up_old _ e2, up_old _ e3, up_old _ e4, up_old _ e5, up_old _ e6, up_old _ e7, up_old _ e8, up_old _ e9, up_old _ e10⟩, fun h => J.m27 (by rwa [up_other L (by decide)] at h), fun h => J.m28 (by rwa [up_other L (by decide)] at h), fun h => up_old _ (J.m29 (by rwa [up_other L (by decide)] at h))⟩

theorem JC.s18 (J : JC t b W mv2 L u8 u16 u18 u20 u25 u26 u27 w) (h0 : L 18 = false) : JC t b W mv2 (up L 18) u8 u16 u18 (.func (.func 244) #[] #[.pointer (some ⟨w.heap.size, 0, none⟩), .pointer (some ⟨w.heap.size + 1, 0, none⟩)]) u25 u26 u27 ((w.alloc (.cells #[.pointer (some ⟨b, 0, none⟩)] 182)).alloc (.cells #[.int .i64 4] 3)) := by
  have hk : ∀ k cs ty, W.heap.size ≤ k → w.heap[k]? = some (.cells cs ty) → ((w.alloc (.cells #[.pointer (some ⟨b, 0, none⟩)] 182)).alloc (.cells #[.int .i64 4] 3)).heap[k]? = some (.cells cs ty) := fun k cs ty _ h => blk_alloc (blk_alloc h)
  have hkm : ∀ (m : Nat) (es : Array MapEntry) (c : Nat), w.heap[m]? = some (Obj.map es c) → ((w.alloc (.cells #[.pointer (some ⟨b, 0, none⟩)] 182)).alloc (.cells #[.int .i64 4] 3)).heap[m]? = some (Obj.map es c) := fun m es c h => blk_alloc (blk_alloc h)
  have hkb : ((w.alloc (.cells #[.pointer (some ⟨b, 0, none⟩)] 182)).alloc (.cells #[.int .i64 4] 3)).heap[b]? = some (rdObj t (if L 29 then u25 else Value.map none) mv2) := blk_alloc (blk_alloc J.rd)
  have hn : L 19 = false := by cases hh : L 19 with | false => rfl | true => exact absurd (J.cv19 hh) (by rw [h0]; decide)
  have hsz := J.mod.size
  exact ⟨J.hb, J.mod.trans (((Mod.refl b w).alloc _).alloc _), by rw [up_other L (by decide)]; exact hkb, fun h => up_old _ (J.cm4 (by rwa [up_other L (by decide)] at h)), fun h => up_old _ (J.cm7 (by rwa [up_other L (by decide)] at h)), fun h => up_old _ (J.cm10 (by rwa [up_other L (by decide)] at h)), fun h => up_old _ (J.cm13 (by rwa [up_other L (by decide)] at h)), fun h => up_old _ (J.cm16 (by rwa [up_other L (by decide)] at h)), fun h => up_old _ (J.cm19 (by rwa [up_other L (by decide)] at h)), fun h => up_old _ (J.cm22 (by rwa [up_other L (by decide)] at h)), fun h => up_old _ (J.cm25 (by rwa [up_other L (by decide)] at h)), fun h => up_old _ (J.cv13 (by rwa [up_other L (by decide)] at h)), fun h => up_old _ (J.cv16 (by rwa [up_other L (by decide)] at h)), fun h => up_old _ (J.cv19 (by rwa [up_other L (by decide)] at h)), fun h => (J.a12 (by rwa [up_other L (by decide)] at h)).keep hk, fun h => (J.a15 (by rwa [up_other L (by decide)] at h)).keep hk, fun _ => ⟨w.heap.size, w.heap.size + 1, rfl, hsz, by omega, blk_alloc (blk_new _ _), blk_newAt (by simp)⟩, fun h => by obtain ⟨m, es, c, h3, h4, h5, h6⟩ := J.mp (by rwa [up_other L (by decide)] at h); exact ⟨m, es, c, h3, h4, hkm m _ _ h5, h6.congr (fun x => by rw [fC_up 18 (by decide)]; unfold fC; simp only [hn, Bool.false_eq_true, if_false])⟩, fun h => by obtain ⟨e1, e2, e3, e4, e5, e6, e7, e8, e9, e10⟩ := J.m26 (by rwa [up_other L (by decide)] at h); exact ⟨e1, up_old _ e2, up_old _ e3, up_old _ e4, up_old _ e5, up_old _ e6, up_old _ e7, up_old _ e8, up_old _ e9, up_old _ e10⟩, fun h => J.m27 (by rwa [up_other L (by decide)] at h), fun h => J.m28 (by rwa [up_other L (by decide)] at h), fun h => up_old _ (J.m29 (by rwa [up_other L (by decide)] at h))⟩

theorem JC.s4 (J : JC t b W mv2 L u8 u16 u18 u20 u25 u26 u27 w) (h0 : L 4 = false) (h1 : L 1 = true) : ∃ m es c, u8 = .map (some m) ∧ w.heap[m]? = some (.map es c) ∧ MapIs es (fC b L u16 u18 u20) ∧ fC b L u16 u18 u20 kKeep = none ∧ JC t b W mv2 (up L 4) u8 u16 u18 u20 u25 u26 u27 (mapSet w m (.map (es.push ⟨.string (strA kKeep), .func (.func 152) #[.pointer (some ⟨b, 0, none⟩)] #[], c⟩) (c + 1))) := by
  obtain ⟨m, es, c, h3, h4, h5, h6⟩ := J.mp h1
  have hn : fC b L u16 u18 u20 kKeep = none := by unfold fC; rw [show whichL cmdNames kKeep = 1 from by decide]; simp only [h0]; rfl
  have hx : fC b (up L 4) u16 u18 u20 kKeep = some (.func (.func 152) #[.pointer (some ⟨b, 0, none⟩)] #[]) := by unfold fC; rw [show whichL cmdNames kKeep = 1 from by decide]; simp only [up_same]; rfl
  have hg : ∀ z, z ≠ kKeep → fC b (up L 4) u16 u18 u20 z = fC b L u16 u18 u20 z := fun z hz => by
    have hw : whichL cmdNames z ≠ 1 := fun e => hz (by have := whichL_get cmdNames z 0 e; simpa [cmdNames] using this.symm)
    unfold fC
    split <;> first | (rename_i e; exact absurd e hw) | simp only [up_other L (by decide)] | rfl
  have hmb : m ≠ b := by have := J.hb; omega
  have hk : ∀ k cs ty, W.heap.size ≤ k → w.heap[k]? = some (.cells cs ty) → (mapSet w m (.map (es.push ⟨.string (strA kKeep), .func (.func 152) #[.pointer (some ⟨b, 0, none⟩)] #[], c⟩) (c + 1))).heap[k]? = some (.cells cs ty) := fun k cs ty _ h => by
    rw [mapSet_other (fun e => by rw [e, h5] at h; cases h)]; exact h
  have hkb : (mapSet w m (.map (es.push ⟨.string (strA kKeep), .func (.func 152) #[.pointer (some ⟨b, 0, none⟩)] #[], c⟩) (c + 1))).heap[b]? = some (rdObj t (if L 29 then u25 else Value.map none) mv2) := by rw [mapSet_other (Ne.symm hmb)]; exact J.rd
  refine ⟨m, es, c, h3, h5, h6, hn, ?_⟩
  exact ⟨J.hb, mod_mapSet J.mod h4, by rw [up_other L (by decide)]; exact hkb, fun _ => up_old _ h1, fun h => up_old _ (J.cm7 (by rwa [up_other L (by decide)] at h)), fun h => up_old _ (J.cm10 (by rwa [up_other L (by decide)] at h)), fun h => up_old _ (J.cm13 (by rwa [up_other L (by decide)] at h)), fun h => up_old _ (J.cm16 (by rwa [up_other L (by decide)] at h)), fun h => up_old _ (J.cm19 (by rwa [up_other L (by decide)] at h)), fun h => up_old _ (J.cm22 (by rwa [up_other L (by decide)] at h)), fun h => up_old _ (J.cm25 (by rwa [up_other L (by decide)] at h)), fun h => up_old _ (J.cv13 (by rwa [up_other L (by decide)] at h)), fun h => up_old _ (J.cv16 (by rwa [up_other L (by decide)] at h)), fun h => up_old _ (J.cv19 (by rwa [up_other L (by decide)] at h)), fun h => (J.a12 (by rwa [up_other L (by decide)] at h)).keep hk, fun h => (J.a15 (by rwa [up_other L (by decide)] at h)).keep hk, fun h => (J.a18 (by rwa [up_other L (by decide)] at h)).keep hk, fun _ => ⟨m, _, _, h3, h4, mapSet_same h5, h6.push hn hx hg⟩, fun h => by obtain ⟨e1, e2, e3, e4, e5, e6, e7, e8, e9, e10⟩ := J.m26 (by rwa [up_other L (by decide)] at h); exact ⟨e1, up_old _ e2, up_old _ e3, up_old _ e4, up_old _ e5, up_old _ e6, up_old _ e7, up_old _ e8, up_old _ e9, up_old _ e10⟩, fun h => J.m27 (by rwa [up_other L (by decide)] at h), fun h => J.m28 (by rwa [up_other L (by decide)] at h), fun h => up_old _ (J.m29 (by rwa [up_other L (by decide)] at h))⟩

theorem JC.s7 (J : JC t b W mv2 L u8 u16 u18 u20 u25 u26 u27 w) (h0 : L 7 = false) (h1 : L 1 = true) : ∃ m es c, u8 = .map (some m) ∧ w.heap[m]? = some (.map es c) ∧ MapIs es (fC b L u16 u18 u20) ∧ fC b L u16 u18 u20 kDiscard = none ∧ JC t b W mv2 (up L 7) u8 u16 u18 u20 u25 u26 u27 (mapSet w m (.map (es.push ⟨.string (strA kDiscard), .func (.func 153) #[.pointer (some ⟨b, 0, none⟩)] #[], c⟩) (c + 1))) := by
  obtain ⟨m, es, c, h3, h4, h5, h6⟩ := J.mp h1
  have hn : fC b L u16 u18 u20 kDiscard = none := by unfold fC; rw [show whichL cmdNames kDiscard = 2 from by decide]; simp only [h0]; rfl
  have hx : fC b (up L 7) u16 u18 u20 kDiscard = some (.func (.func 153) #[.pointer (some ⟨b, 0, none⟩)] #[]) := by unfold fC; rw [show whichL cmdNames kDiscard = 2 from by decide]; simp only [up_same]; rfl
  have hg : ∀ z, z ≠ kDiscard → fC b (up L 7) u16 u18 u20 z = fC b L u16 u18 u20 z := fun z hz => by
    have hw : whichL cmdNames z ≠ 2 := fun e => hz (by have := whichL_get cmdNames z 1 e; simpa [cmdNames] using this.symm)
    unfold fC
    split <;> first | (rename_i e; exact absurd e hw) | simp only [up_other L (by decide)] | rfl
  have hmb : m ≠ b := by have := J.hb; omega
  have hk : ∀ k cs ty, W.heap.size ≤ k → w.heap[k]? = some (.cells cs ty) → (mapSet w m (.map (es.push ⟨.string (strA kDiscard), .func (.func 153) #[.pointer (some ⟨b, 0, none⟩)] #[], c⟩) (c + 1))).heap[k]? = some (.cells cs ty) := fun k cs ty _ h => by
    rw [mapSet_other (fun e => by rw [e, h5] at h; cases h)]; exact h
  have hkb : (mapSet w m (.map (es.push ⟨.string (strA kDiscard), .func (.func 153) #[.pointer (some ⟨b, 0, none⟩)] #[], c⟩) (c + 1))).heap[b]? = some (rdObj t (if L 29 then u25 else Value.map none) mv2) := by rw [mapSet_other (Ne.symm hmb)]; exact J.rd
  refine ⟨m, es, c, h3, h5, h6, hn, ?_⟩
  exact ⟨J.hb, mod_mapSet J.mod h4, by rw [up_other L (by decide)]; exact hkb, fun h => up_old _ (J.cm4 (by rwa [up_other L (by decide)] at h)), fun _ => up_old _ h1, fun h => up_old _ (J.cm10 (by rwa [up_other L (by decide)] at h)), fun h => up_old _ (J.cm13 (by rwa [up_other L (by decide)] at h)), fun h => up_old _ (J.cm16 (by rwa [up_other L (by decide)] at h)), fun h => up_old _ (J.cm19 (by rwa [up_other L (by decide)] at h)), fun h => up_old _ (J.cm22 (by rwa [up_other L (by decide)] at h)), fun h => up_old _ (J.cm25 (by rwa [up_other L (by decide)] at h)), fun h => up_old _ (J.cv13 (by rwa [up_other L (by decide)] at h)), fun h => up_old _ (J.cv16 (by rwa [up_other L (by decide)] at h)), fun h => up_old _ (J.cv19 (by rwa [up_other L (by decide)] at h)), fun h => (J.a12 (by rwa [up_other L (by decide)] at h)).keep hk, fun h => (J.a15 (by rwa [up_other L (by decide)] at h)).keep hk, fun h => (J.a18 (by rwa [up_other L (by decide)] at h)).keep hk, fun _ => ⟨m, _, _, h3, h4, mapSet_same h5, h6.push hn hx hg⟩, fun h => by obtain ⟨e1, e2, e3, e4, e5, e6, e7, e8, e9, e10⟩ := J.m26 (by rwa [up_other L (by decide)] at h); exact ⟨e1, up_old _ e2, up_old _ e3, up_old _ e4, up_old _ e5, up_old _ e6, up_old _ e7, up_old _ e8, up_old _ e9, up_old _ e10⟩, fun h => J.m27 (by rwa [up_other L (by decide)] at h), fun h => J.m28 (by rwa [up_other L (by decide)] at h), fun h => up_old _ (J.m29 (by rwa [up_other L (by decide)] at h))⟩

theorem JC.s10 (J : JC t b W mv2 L u8 u16 u18 u20 u25 u26 u27 w) (h0 : L 10 = false) (h1 : L 1 = true) : ∃ m es c, u8 = .map (some m) ∧ w.heap[m]? = some (.map es c) ∧ MapIs es (fC b L u16 u18 u20) ∧ fC b L u16 u18 u20 kStop = none ∧ JC t b W mv2 (up L 10) u8 u16 u18 u20 u25 u26 u27 (mapSet w m (.map (es.push ⟨.string (strA kStop), .func (.func 154) #[.pointer (some ⟨b, 0, none⟩)] #[], c⟩) (c + 1))) := by
  obtain ⟨m, es, c, h3, h4, h5, h6⟩ := J.mp h1
  have hn : fC b L u16 u18 u20 kStop = none := by unfold fC; rw [show whichL cmdNames kStop = 3 from by decide]; simp only [h0]; rfl
  have hx : fC b (up L 10) u16 u18 u20 kStop = some (.func (.func 154) #[.pointer (some ⟨b, 0, none⟩)] #[]) := by unfold fC; rw [show whichL cmdNames kStop = 3 from by decide]; simp only [up_same]; rfl
  have hg : ∀ z, z ≠ kStop → fC b (up L 10) u16 u18 u20 z = fC b L u16 u18 u20 z := fun z hz => by
    have hw : whichL cmdNames z ≠ 3 := fun e => hz (by have := whichL_get cmdNames z 2 e; simpa [cmdNames] using this.symm)
    unfold fC
    split <;> first | (rename_i e; exact absurd e hw) | simp only [up_other L (by decide)] | rfl
  have hmb : m ≠ b := by have := J.hb; omega
  have hk : ∀ k cs ty, W.heap.size ≤ k → w.heap[k]? = some (.cells cs ty) → (mapSet w m (.map (es.push ⟨.string (strA kStop), .func (.func 154) #[.pointer (some ⟨b, 0, none⟩)] #[], c⟩) (c + 1))).heap[k]? = some (.cells cs ty) := fun k cs ty _ h => by
    rw [mapSet_other (fun e => by rw [e, h5] at h; cases h)]; exact h
  have hkb : (mapSet w m (.map (es.push ⟨.string (strA kStop), .func (.func 154) #[.pointer (some ⟨b, 0, none⟩)] #[], c⟩) (c + 1))).heap[b]? = some (rdObj t (if L 29 then u25 else Value.map none) mv2) := by rw [mapSet_other (Ne.symm hmb)]; exact J.rd
  refine ⟨m, es, c, h3, h5, h6, hn, ?_⟩
  exact ⟨J.hb, mod_mapSet J.mod h4, by rw [up_other L (by decide)]; exact hkb, fun h => up_old _ (J.cm4 (by rwa [up_other L (by decide)] at h)), fun h => up_old _ (J.cm7 (by rwa [up_other L (by decide)] at h)), fun _ => up_old _ h1, fun h => up_old _ (J.cm13 (by rwa [up_other L (by decide)] at h)), fun h => up_old _ (J.cm16 (by rwa [up_other L (by decide)] at h)), fun h => up_old _ (J.cm19 (by rwa [up_other L (by decide)] at h)), fun h => up_old _ (J.cm22 (by rwa [up_other L (by decide)] at h)), fun h => up_old _ (J.cm25 (by rwa [up_other L (by decide)] at h)), fun h => up_old _ (J.cv13 (by rwa [up_other L (by decide)] at h)), fun h => up_old _ (J.cv16 (by rwa [up_other L (by decide)] at h)), fun h => up_old _ (J.cv19 (by rwa [up_other L (by decide)] at h)), fun h => (J.a12 (by rwa [up_other L (by decide)] at h)).keep hk, fun h => (J.a15 (by rwa [up_other L (by decide)] at h)).keep hk, fun h => (J.a18 (by rwa [up_other L (by decide)] at h)).keep hk, fun _ => ⟨m, _, _, h3, h4, mapSet_same h5, h6.push hn hx hg⟩, fun h => by obtain ⟨e1, e2, e3, e4, e5, e6, e7, e8, e9, e10⟩ := J.m26 (by rwa [up_other L (by decide)] at h); exact ⟨e1, up_old _ e2, up_old _ e3, up_old _ e4, up_old _ e5, up_old _ e6, up_old _ e7, up_old _ e8, up_old _ e9, up_old _ e10⟩, fun h => J.m27 (by rwa [up_other L (by decide)] at h), fun h => J.m28 (by rwa [up_other L (by decide)] at h), fun h => up_old _ (J.m29 (by rwa [up_other L (by decide)] at h))⟩

theorem JC.s13 (J : JC t b W mv2 L u8 u16 u18 u20 u25 u26 u27 w) (h0 : L 13 = false) (h1 : L 1 = true) (h2 : L 12 = true) : ∃ m es c, u8 = .map (some m) ∧ w.heap[m]? = some (.map es c) ∧ MapIs es (fC b L u16 u18 u20) ∧ fC b L u16 u18 u20 kFileinto = none ∧ JC t b W mv2 (up L 13) u8 u16 u18 u20 u25 u26 u27 (mapSet w m (.map (es.push ⟨.string (strA kFileinto), u16, c⟩) (c + 1))) := by
  obtain ⟨m, es, c, h3, h4, h5, h6⟩ := J.mp h1
  have hn : fC b L u16 u18 u20 kFileinto = none := by unfold fC; rw [show whichL cmdNames kFileinto = 4 from by decide]; simp only [h0]; rfl
  have hx : fC b (up L 13) u16 u18 u20 kFileinto = some (u16) := by unfold fC; rw [show whichL cmdNames kFileinto = 4 from by decide]; simp only [up_same]; rfl
  have hg : ∀ z, z ≠ kFileinto → fC b (up L 13) u16 u18 u20 z = fC b L u16 u18 u20 z := fun z hz => by
    have hw : whichL cmdNames z ≠ 4 := fun e => hz (by have := whichL_get cmdNames z 3 e; simpa [cmdNames] using this.symm)
    unfold fC
    split <;> first | (rename_i e; exact absurd e hw) | simp only [up_other L (by decide)] | rfl
  have hmb : m ≠ b := by have := J.hb; omega
  have hk : ∀ k cs ty, W.heap.size ≤ k → w.heap[k]? = some (.cells cs ty) → (mapSet w m (.map (es.push ⟨.string (strA kFileinto), u16, c⟩) (c + 1))).heap[k]? = some (.cells cs ty) := fun k cs ty _ h => by
    rw [mapSet_other (fun e => by rw [e, h5] at h; cases h)]; exact h
  have hkb : (mapSet w m (.map (es.push ⟨.string (strA kFileinto), u16, c⟩) (c + 1))).heap[b]? = some (rdObj t (if L 29 then u25 else Value.map none) mv2) := by rw [mapSet_other (Ne.symm hmb)]; exact J.rd
  refine ⟨m, es, c, h3, h5, h6, hn, ?_⟩
  exact ⟨J.hb, mod_mapSet J.mod h4, by rw [up_other L (by decide)]; exact hkb, fun h => up_old _ (J.cm4 (by rwa [up_other L (by decide)] at h)), fun h => up_old _ (J.cm7 (by rwa [up_other L (by decide)] at h)), fun h => up_old _ (J.cm10 (by rwa [up_other L (by decide)] at h)), fun _ => up_old _ h1, fun h => up_old _ (J.cm16 (by rwa [up_other L (by decide)] at h)), fun h => up_old _ (J.cm19 (by rwa [up_other L (by decide)] at h)), fun h => up_old _ (J.cm22 (by rwa [up_other L (by decide)] at h)), fun h => up_old _ (J.cm25 (by rwa [up_other L (by decide)] at h)), fun _ => up_old _ h2, fun h => up_old _ (J.cv16 (by rwa [up_other L (by decide)] at h)), fun h => up_old _ (J.cv19 (by rwa [up_other L (by decide)] at h)), fun h => (J.a12 (by rwa [up_other L (by decide)] at h)).keep hk, fun h => (J.a15 (by rwa [up_other L (by decide)] at h)).keep hk, fun h => (J.a18 (by rwa [up_other L (by decide)] at h)).keep hk, fun _ => ⟨m, _, _, h3, h4, mapSet_same h5, h6.push hn hx hg⟩, fun h => by obtain ⟨e1, e2, e3, e4, e5, e6, e7, e8, e9, e10⟩ := J.m26 (by rwa [up_other L (by decide)] at h); exact ⟨e1, up_old _ e2, up_old _ e3, up_old _ e4, up_old _ e5, up_old _ e6, up_old _ e7, up_old _ e8, up_old _ e9, up_old _ e10⟩, fun h => J.m27 (by rwa [up_other L (by decide)] at h), fun h => J.m28 (by rwa [up_other L (by decide)] at h), fun h => up_old _ (J.m29 (by rwa [up_other L (by decide)] at h))⟩

theorem JC.s16 (J : JC t b W mv2 L u8 u16 u18 u20 u25 u26 u27 w) (h0 : L 16 = false) (h1 : L 1 = true) (h2 : L 15 = true) : ∃ m es c, u8 = .map (some m) ∧ w.heap[m]? = some (.map es c) ∧ MapIs es (fC b L u16 u18 u20) ∧ fC b L u16 u18 u20 kRedirect = none ∧ JC t b W mv2 (up L 16) u8 u16 u18 u20 u25 u26 u27 (mapSet w m (.map (es.push ⟨.string (strA kRedirect), u18, c⟩) (c + 1))) := by
  obtain ⟨m, es, c, h3, h4, h5, h6⟩ := J.mp h1
  have hn : fC b L u16 u18 u20 kRedirect = none := by unfold fC; rw [show whichL cmdNames kRedirect = 5 from by decide]; simp only [h0]; rfl
  have hx : fC b (up L 16) u16 u18 u20 kRedirect = some (u18) := by unfold fC; rw [show whichL cmdNames kRedirect = 5 from by decide]; simp only [up_same]; rfl
  have hg : ∀ z, z ≠ kRedirect → fC b (up L 16) u16 u18 u20 z = fC b L u16 u18 u20 z := fun z hz => by
    have hw : whichL cmdNames z ≠ 5 := fun e => hz (by have := whichL_get cmdNames z 4 e; simpa [cmdNames] using this.symm)
    unfold fC
    split <;> first | (rename_i e; exact absurd e hw) | simp only [up_other L (by decide)] | rfl
  have hmb : m ≠ b := by have := J.hb; omega
  have hk : ∀ k cs ty, W.heap.size ≤ k → w.heap[k]? = some (.cells cs ty) → (mapSet w m (.map (es.push ⟨.string (strA kRedirect), u18, c⟩) (c + 1))).heap[k]? = some (.cells cs ty) := fun k cs ty _ h => by
    rw [mapSet_other (fun e => by rw [e, h5] at h; cases h)]; exact h
  have hkb : (mapSet w m (.map (es.push ⟨.string (strA kRedirect), u18, c⟩) (c + 1))).heap[b]? = some (rdObj t (if L 29 then u25 else Value.map none) mv2) := by rw [mapSet_other (Ne.symm hmb)]; exact J.rd
  refine ⟨m, es, c, h3, h5, h6, hn, ?_⟩
  exact ⟨J.hb, mod_mapSet J.mod h4, by rw [up_other L (by decide)]; exact hkb, fun h => up_old _ (J.cm4 (by rwa [up_other L (by decide)] at h)), fun h => up_old _ (J.cm7 (by rwa [up_other L (by decide)] at h)), fun h => up_old _ (J.cm10 (by rwa [up_other L (by decide)] at h)), fun h => up_old _ (J.cm13 (by rwa [up_other L (by decide)] at h)), fun _ => up_old _ h1, fun h => up_old _ (J.cm19 (by rwa [up_other L (by decide)] at h)), fun h => up_old _ (J.cm22 (by rwa [up_other L (by decide)] at h)), fun h => up_old _ (J.cm25 (by rwa [up_other L (by decide)] at h)), fun h => up_old _ (J.cv13 (by rwa [up_other L (by decide)] at h)), fun _ => up_old _ h2, fun h => up_old _ (J.cv19 (by rwa [up_other L (by decide)] at h)), fun h => (J.a12 (by rwa [up_other L (by decide)] at h)).keep hk, fun h => (J.a15 (by rwa [up_other L (by decide)] at h)).keep hk, fun h => (J.a18 (by rwa [up_other L (by decide)] at h)).keep hk, fun _ => ⟨m, _, _, h3, h4, mapSet_same h5, h6.push hn hx hg⟩, fun h => by obtain ⟨e1, e2, e3, e4, e5, e6, e7, e8, e9, e10⟩ := J.m26 (by rwa [up_other L (by decide)] at h); exact ⟨e1, up_old _ e2, up_old _ e3, up_old _ e4, up_old _ e5, up_old _ e6, up_old _ e7, up_old _ e8, up_old _ e9, up_old _ e10⟩, fun h => J.m27 (by rwa [up_other L (by decide)] at h), fun h => J.m28 (by rwa [up_other L (by decide)] at h), fun h => up_old _ (J.m29 (by rwa [up_other L (by decide)] at h))⟩

theorem JC.s19 (J : JC t b W mv2 L u8 u16 u18 u20 u25 u26 u27 w) (h0 : L 19 = false) (h1 : L 1 = true) (h2 : L 18 = true) : ∃ m es c, u8 = .map (some m) ∧ w.heap[m]? = some (.map es c) ∧ MapIs es (fC b L u16 u18 u20) ∧ fC b L u16 u18 u20 kReject = none ∧ JC t b W mv2 (up L 19) u8 u16 u18 u20 u25 u26 u27 (mapSet w m (.map (es.push ⟨.string (strA kReject), u20, c⟩) (c + 1))) := by
  obtain ⟨m, es, c, h3, h4, h5, h6⟩ := J.mp h1
  have hn : fC b L u16 u18 u20 kReject = none := by unfold fC; rw [show whichL cmdNames kReject = 6 from by decide]; simp only [h0]; rfl
  have hx : fC b (up L 19) u16 u18 u20 kReject = some (u20) := by unfold fC; rw [show whichL cmdNames kReject = 6 from by decide]; simp only [up_same]; rfl
  have hg : ∀ z, z ≠ kReject → fC b (up L 19) u16 u18 u20 z = fC b L u16 u18 u20 z := fun z hz => by
    have hw : whichL cmdNames z ≠ 6 := fun e => hz (by have := whichL_get cmdNames z 5 e; simpa [cmdNames] using this.symm)
    unfold fC
    split <;> first | (rename_i e; exact absurd e hw) | simp only [up_other L (by decide)] | rfl
  have hmb : m ≠ b := by have := J.hb; omega
  have hk : ∀ k cs ty, W.heap.size ≤ k → w.heap[k]? = some (.cells cs ty) → (mapSet w m (.map (es.push ⟨.string (strA kReject), u20, c⟩) (c + 1))).heap[k]? = some (.cells cs ty) := fun k cs ty _ h => by
    rw [mapSet_other (fun e => by rw [e, h5] at h; cases h)]; exact h
  have hkb : (mapSet w m (.map (es.push ⟨.string (strA kReject), u20, c⟩) (c + 1))).heap[b]? = some (rdObj t (if L 29 then u25 else Value.map none) mv2) := by rw [mapSet_other (Ne.symm hmb)]; exact J.rd
  refine ⟨m, es, c, h3, h5, h6, hn, ?_⟩
  exact ⟨J.hb, mod_mapSet J.mod h4, by rw [up_other L (by decide)]; exact hkb, fun h => up_old _ (J.cm4 (by rwa [up_other L (by decide)] at h)), fun h => up_old _ (J.cm7 (by rwa [up_other L (by decide)] at h)), fun h => up_old _ (J.cm10 (by rwa [up_other L (by decide)] at h)), fun h => up_old _ (J.cm13 (by rwa [up_other L (by decide)] at h)), fun h => up_old _ (J.cm16 (by rwa [up_other L (by decide)] at h)), fun _ => up_old _ h1, fun h => up_old _ (J.cm22 (by rwa [up_other L (by decide)] at h)), fun h => up_old _ (J.cm25 (by rwa [up_other L (by decide)] at h)), fun h => up_old _ (J.cv13 (by rwa [up_other L (by decide)] at h)), fun h => up_old _ (J.cv16 (by rwa [up_other L (by decide)] at h)), fun _ => up_old _ h2, fun h => (J.a12 (by rwa [up_other L (by decide)] at h)).keep hk, fun h => (J.a15 (by rwa [up_other L (by decide)] at h)).keep hk, fun h => (J.a18 (by rwa [up_other L (by decide)] at h)).keep hk, fun _ => ⟨m, _, _, h3, h4, mapSet_same h5, h6.push hn hx hg⟩, fun h => by obtain ⟨e1, e2, e3, e4, e5, e6, e7, e8, e9, e10⟩ := J.m26 (by rwa [up_other L (by decide)] at h); exact ⟨e1, up_old _ e2, up_old _ e3, up_old _ e4, up_old _ e5, up_old _ e6, up_old _ e7, up_old _ e8, up_old _ e9, up_old _ e10⟩, fun h => J.m27 (by rwa [up_other L (by decide)] at h), fun h => J.m28 (by rwa [up_other L (by decide)] at h), fun h => up_old _ (J.m29 (by rwa [up_other L (by decide)] at h))⟩

theorem JC.s22 (J : JC t b W mv2 L u8 u16 u18 u20 u25 u26 u27 w) (h0 : L 22 = false) (h1 : L 1 = true) : ∃ m es c, u8 = .map (some m) ∧ w.heap[m]? = some (.map es c) ∧ MapIs es (fC b L u16 u18 u20) ∧ fC b L u16 u18 u20 kSet = none ∧ JC t b W mv2 (up L 22) u8 u16 u18 u20 u25 u26 u27 (mapSet w m (.map (es.push ⟨.string (strA kSet), .func (.func 156) #[.pointer (some ⟨b, 0, none⟩)] #[], c⟩) (c + 1))) := by
  obtain ⟨m, es, c, h3, h4, h5, h6⟩ := J.mp h1
  have hn : fC b L u16 u18 u20 kSet = none := by unfold fC; rw [show whichL cmdNames kSet = 7 from by decide]; simp only [h0]; rfl
  have hx : fC b (up L 22) u16 u18 u20 kSet = some (.func (.func 156) #[.pointer (some ⟨b, 0, none⟩)] #[]) := by unfold fC; rw [show whichL cmdNames kSet = 7 from by decide]; simp only [up_same]; rfl
  have hg : ∀ z, z ≠ kSet → fC b (up L 22) u16 u18 u20 z = fC b L u16 u18 u20 z := fun z hz => by
    have hw : whichL cmdNames z ≠ 7 := fun e => hz (by have := whichL_get cmdNames z 6 e; simpa [cmdNames] using this.symm)
    unfold fC
    split <;> first | (rename_i e; exact absurd e hw) | simp only [up_other L (by decide)] | rfl
  have hmb : m ≠ b := by have := J.hb; omega
  have hk : ∀ k cs ty, W.heap.size ≤ k → w.heap[k]? = some (.cells cs ty) → (mapSet w m (.map (es.push ⟨.string (strA kSet), .func (.func 156) #[.pointer (some ⟨b, 0, none⟩)] #[], c⟩) (c + 1))).heap[k]? = some (.cells cs ty) := fun k cs ty _ h => by
    rw [mapSet_other (fun e => by rw [e, h5] at h; cases h)]; exact h
  have hkb : (mapSet w m (.map (es.push ⟨.string (strA kSet), .func (.func 156) #[.pointer (some ⟨b, 0, none⟩)] #[], c⟩) (c + 1))).heap[b]? = some (rdObj t (if L 29 then u25 else Value.map none) mv2) := by rw [mapSet_other (Ne.symm hmb)]; exact J.rd
  refine ⟨m, es, c, h3, h5, h6, hn, ?_⟩
  exact ⟨J.hb, mod_mapSet J.mod h4, by rw [up_other L (by decide)]; exact hkb, fun h => up_old _ (J.cm4 (by rwa [up_other L (by decide)] at h)), fun h => up_old _ (J.cm7 (by rwa [up_other L (by decide)] at h)), fun h => up_old _ (J.cm10 (by rwa [up_other L (by decide)] at h)), fun h => up_old _ (J.cm13 (by rwa [up_other L (by decide)] at h)), fun h => up_old _ (J.cm16 (by rwa [up_other L (by decide)] at h)), fun h => up_old _ (J.cm19 (by rwa [up_other L (by decide)] at h)), fun _ => up_old _ h1, fun h => up_old _ (J.cm25 (by rwa [up_other L (by decide)] at h)), fun h => up_old _ (J.cv13 (by rwa [up_other L (by decide)] at h)), fun h => up_old _ (J.cv16 (by rwa [up_other L (by decide)] at h)), fun h => up_old _ (J.cv19 (by rwa [up_other L (by decide)] at h)), fun h => (J.a12 (by rwa [up_other L (by decide)] at h)).keep hk, fun h => (J.a15 (by rwa [up_other L (by decide)] at h)).keep hk, fun h => (J.a18 (by rwa [up_other L (by decide)] at h)).keep hk, fun _ => ⟨m, _, _, h3, h4, mapSet_same h5, h6.push hn hx hg⟩, fun h => by obtain ⟨e1, e2, e3, e4, e5, e6, e7, e8, e9, e10⟩ := J.m26 (by rwa [up_other L (by decide)] at h); exact ⟨e1, up_old _ e2, up_old _ e3, up_old _ e4, up_old _ e5, up_old _ e6, up_old _ e7, up_old _ e8, up_old _ e9, up_old _ e10⟩, fun h => J.m27 (by rwa [up_other L (by decide)] at h), fun h => J.m28 (by rwa [up_other L (by decide)] at h), fun h => up_old _ (J.m29 (by rwa [up_other L (by decide)] at h))⟩

theorem JC.s25 (J : JC t b W mv2 L u8 u16 u18 u20 u25 u26 u27 w) (h0 : L 25 = false) (h1 : L 1 = true) : ∃ m es c, u8 = .map (some m) ∧ w.heap[m]? = some (.map es c) ∧ MapIs es (fC b L u16 u18 u20) ∧ fC b L u16 u18 u20 kIf = none ∧ JC t b W mv2 (up L 25) u8 u16 u18 u20 u25 u26 u27 (mapSet w m (.map (es.push ⟨.string (strA kIf), .func (.func 157) #[.pointer (some ⟨b, 0, none⟩)] #[], c⟩) (c + 1))) := by
  obtain ⟨m, es, c, h3, h4, h5, h6⟩ := J.mp h1
  have hn : fC b L u16 u18 u20 kIf = none := by unfold fC; rw [show whichL cmdNames kIf = 8 from by decide]; simp only [h0]; rfl
  have hx : fC b (up L 25) u16 u18 u20 kIf = some (.func (.func 157) #[.pointer (some ⟨b, 0, none⟩)] #[]) := by unfold fC; rw [show whichL cmdNames kIf = 8 from by decide]; simp only [up_same]; rfl
  have hg : ∀ z, z ≠ kIf → fC b (up L 25) u16 u18 u20 z = fC b L u16 u18 u20 z := fun z hz => by
    have hw : whichL cmdNames z ≠ 8 := fun e => hz (by have := whichL_get cmdNames z 7 e; simpa [cmdNames] using this.symm)
    unfold fC
    split <;> first | (rename_i e; exact absurd e hw) | simp only [up_other L (by decide)] | rfl
  have hmb : m ≠ b := by have := J.hb; omega
  have hk : ∀ k cs ty, W.heap.size ≤ k → w.heap[k]? = some (.cells cs ty) → (mapSet w m (.map (es.push ⟨.string (strA kIf), .func (.func 157) #[.pointer (some ⟨b, 0, none⟩)] #[], c⟩) (c + 1))).heap[k]? = some (.cells cs ty) := fun k cs ty _ h => by
    rw [mapSet_other (fun e => by rw [e, h5] at h; cases h)]; exact h
  have hkb : (mapSet w m (.map (es.push ⟨.string (strA kIf), .func (.func 157) #[.pointer (some ⟨b, 0, none⟩)] #[], c⟩) (c + 1))).heap[b]? = some (rdObj t (if L 29 then u25 else Value.map none) mv2) := by rw [mapSet_other (Ne.symm hmb)]; exact J.rd
  refine ⟨m, es, c, h3, h5, h6, hn, ?_⟩
  exact ⟨J.hb, mod_mapSet J.mod h4, by rw [up_other L (by decide)]; exact hkb, fun h => up_old _ (J.cm4 (by rwa [up_other L (by decide)] at h)), fun h => up_old _ (J.cm7 (by rwa [up_other L (by decide)] at h)), fun h => up_old _ (J.cm10 (by rwa [up_other L (by decide)] at h)), fun h => up_old _ (J.cm13 (by rwa [up_other L (by decide)] at h)), fun h => up_old _ (J.cm16 (by rwa [up_other L (by decide)] at h)), fun h => up_old _ (J.cm19 (by rwa [up_other L (by decide)] at h)), fun h => up_old _ (J.cm22 (by rwa [up_other L (by decide)] at h)), fun _ => up_old _ h1, fun h => up_old _ (J.cv13 (by rwa [up_other L (by decide)] at h)), fun h => up_old _ (J.cv16 (by rwa [up_other L (by decide)] at h)), fun h => up_old _ (J.cv19 (by rwa [up_other L (by decide)] at h)), fun h => (J.a12 (by rwa [up_other L (by decide)] at h)).keep hk, fun h => (J.a15 (by rwa [up_other L (by decide)] at h)).keep hk, fun h => (J.a18 (by rwa [up_other L (by decide)] at h)).keep hk, fun _ => ⟨m, _, _, h3, h4, mapSet_same h5, h6.push hn hx hg⟩, fun h => by obtain ⟨e1, e2, e3, e4, e5, e6, e7, e8, e9, e10⟩ := J.m26 (by rwa [up_other L (by decide)] at h); exact ⟨e1, up_old _ e2, up_old _ e3, up_old _ e4, up_old _ e5, up_old _ e6, up_old _ e7, up_old _ e8, up_old _ e9, up_old _ e10⟩, fun h => J.m27 (by rwa [up_other L (by decide)] at h), fun h => J.m28 (by rwa [up_other L (by decide)] at h), fun h => up_old _ (J.m29 (by rwa [up_other L (by decide)] at h))⟩

theorem JC.s26 (J : JC t b W mv2 L u8 u16 u18 u20 u25 u26 u27 w) (h0 : L 26 = false) (h1 : L 1 = true) (hi4 : L 4 = true) (hi7 : L 7 = true) (hi10 : L 10 = true) (hi13 : L 13 = true) (hi16 : L 16 = true) (hi19 : L 19 = true) (hi22 : L 22 = true) (hi25 : L 25 = true) : JC t b W mv2 (up L 26) u8 u16 u18 u20 u8 u26 u27 w := by
  have n29 : L 29 = false := by cases hh : L 29 with | false => rfl | true => exact absurd (J.m29 hh) (by rw [h0]; decide)
  have hk : ∀ k cs ty, W.heap.size ≤ k → w.heap[k]? = some (.cells cs ty) → w.heap[k]? = some (.cells cs ty) := fun k cs ty _ h => h
  have hkm : ∀ (m : Nat) (es : Array MapEntry) (c : Nat), w.heap[m]? = some (Obj.map es c) → w.heap[m]? = some (Obj.map es c) := fun m es c h => h
  exact ⟨J.hb, J.mod.trans (Mod.refl b w), by have := J.rd; rw [n29] at this; rw [up_other L (by decide), n29]; exact this, fun h => up_old _ (J.cm4 (by rwa [up_other L (by decide)] at h)), fun h => up_old _ (J.cm7 (by rwa [up_other L (by decide)] at h)), fun h => up_old _ (J.cm10 (by rwa [up_other L (by decide)] at h)), fun h => up_old _ (J.cm13 (by rwa [up_other L (by decide)] at h)), fun h => up_old _ (J.cm16 (by rwa [up_other L (by decide)] at h)), fun h => up_old _ (J.cm19 (by rwa [up_other L (by decide)] at h)), fun h => up_old _ (J.cm22 (by rwa [up_other L (by decide)] at h)), fun h => up_old _ (J.cm25 (by rwa [up_other L (by decide)] at h)), fun h => up_old _ (J.cv13 (by rwa [up_other L (by decide)] at h)), fun h => up_old _ (J.cv16 (by rwa [up_other L (by decide)] at h)), fun h => up_old _ (J.cv19 (by rwa [up_other L (by decide)] at h)), fun h => (J.a12 (by rwa [up_other L (by decide)] at h)).keep hk, fun h => (J.a15 (by rwa [up_other L (by decide)] at h)).keep hk, fun h => (J.a18 (by rwa [up_other L (by decide)] at h)).keep hk, fun h => by obtain ⟨m, es, c, h3, h4, h5, h6⟩ := J.mp (by rwa [up_other L (by decide)] at h); exact ⟨m, es, c, h3, h4, hkm m _ _ h5, h6.congr (fun x => (fC_up 26 (by decide) x).symm)⟩, fun _ => ⟨rfl, up_old _ h1, up_old _ hi4, up_old _ hi7, up_old _ hi10, up_old _ hi13, up_old _ hi16, up_old _ hi19, up_old _ hi22, up_old _ hi25⟩, fun h => J.m27 (by rwa [up_other L (by decide)] at h), fun h => J.m28 (by rwa [up_other L (by decide)] at h), fun h => up_old _ (J.m29 (by rwa [up_other L (by decide)] at h))⟩

theorem JC.s27 (J : JC t b W mv2 L u8 u16 u18 u20 u25 u26 u27 w) (h0 : L 27 = false) : JC t b W mv2 (up L 27) u8 u16 u18 u20 u25 (.pointer (some ⟨b, 0, none⟩)) u27 w := by
  have hk : ∀ k cs ty, W.heap.size ≤ k → w.heap[k]? = some (.cells cs ty) → w.heap[k]? = some (.cells cs ty) := fun k cs ty _ h => h
  have hkm : ∀ (m : Nat) (es : Array MapEntry) (c : Nat), w.heap[m]? = some (Obj.map es c) → w.heap[m]? = some (Obj.map es c) := fun m es c h => h
  exact ⟨J.hb, J.mod.trans (Mod.refl b w), by rw [up_other L (by decide)]; exact J.rd, fun h => up_old _ (J.cm4 (by rwa [up_other L (by decide)] at h)), fun h => up_old _ (J.cm7 (by rwa [up_other L (by decide)] at h)), fun h => up_old _ (J.cm10 (by rwa [up_other L (by decide)] at h)), fun h => up_old _ (J.cm13 (by rwa [up_other L (by decide)] at h)), fun h => up_old _ (J.cm16 (by rwa [up_other L (by decide)] at h)), fun h => up_old _ (J.cm19 (by rwa [up_other L (by decide)] at h)), fun h => up_old _ (J.cm22 (by rwa [up_other L (by decide)] at h)), fun h => up_old _ (J.cm25 (by rwa [up_other L (by decide)] at h)), fun h => up_old _ (J.cv13 (by rwa [up_other L (by decide)] at h)), fun h => up_old _ (J.cv16 (by rwa [up_other L (by decide)] at h)), fun h => up_old _ (J.cv19 (by rwa [up_other L (by decide)] at h)), fun h => (J.a12 (by rwa [up_other L (by decide)] at h)).keep hk, fun h => (J.a15 (by rwa [up_other L (by decide)] at h)).keep hk, fun h => (J.a18 (by rwa [up_other L (by decide)] at h)).keep hk, fun h => by obtain ⟨m, es, c, h3, h4, h5, h6⟩ := J.mp (by rwa [up_other L (by decide)] at h); exact ⟨m, es, c, h3, h4, hkm m _ _ h5, h6.congr (fun x => (fC_up 27 (by decide) x).symm)⟩, fun h => by obtain ⟨e1, e2, e3, e4, e5, e6, e7, e8, e9, e10⟩ := J.m26 (by rwa [up_other L (by decide)] at h); exact ⟨e1, up_old _ e2, up_old _ e3, up_old _ e4, up_old _ e5, up_old _ e6, up_old _ e7, up_old _ e8, up_old _ e9, up_old _ e10⟩, fun _ => rfl, fun h => J.m28 (by rwa [up_other L (by decide)] at h), fun h => up_old _ (J.m29 (by rwa [up_other L (by decide)] at h))⟩

theorem JC.s28 (J : JC t b W mv2 L u8 u16 u18 u20 u25 u26 u27 w) (h0 : L 28 = false) : JC t b W mv2 (up L 28) u8 u16 u18 u20 u25 u26 (.pointer (some ⟨b, 8, none⟩)) w := by
  have hk : ∀ k cs ty, W.heap.size ≤ k → w.heap[k]? = some (.cells cs ty) → w.heap[k]? = some (.cells cs ty) := fun k cs ty _ h => h
  have hkm : ∀ (m : Nat) (es : Array MapEntry) (c : Nat), w.heap[m]? = some (Obj.map es c) → w.heap[m]? = some (Obj.map es c) := fun m es c h => h
  exact ⟨J.hb, J.mod.trans (Mod.refl b w), by rw [up_other L (by decide)]; exact J.rd, fun h => up_old _ (J.cm4 (by rwa [up_other L (by decide)] at h)), fun h => up_old _ (J.cm7 (by rwa [up_other L (by decide)] at h)), fun h => up_old _ (J.cm10 (by rwa [up_other L (by decide)] at h)), fun h => up_old _ (J.cm13 (by rwa [up_other L (by decide)] at h)), fun h => up_old _ (J.cm16 (by rwa [up_other L (by decide)] at h)), fun h => up_old _ (J.cm19 (by rwa [up_other L (by decide)] at h)), fun h => up_old _ (J.cm22 (by rwa [up_other L (by decide)] at h)), fun h => up_old _ (J.cm25 (by rwa [up_other L (by decide)] at h)), fun h => up_old _ (J.cv13 (by rwa [up_other L (by decide)] at h)), fun h => up_old _ (J.cv16 (by rwa [up_other L (by decide)] at h)), fun h => up_old _ (J.cv19 (by rwa [up_other L (by decide)] at h)), fun h => (J.a12 (by rwa [up_other L (by decide)] at h)).keep hk, fun h => (J.a15 (by rwa [up_other L (by decide)] at h)).keep hk, fun h => (J.a18 (by rwa [up_other L (by decide)] at h)).keep hk, fun h => by obtain ⟨m, es, c, h3, h4, h5, h6⟩ := J.mp (by rwa [up_other L (by decide)] at h); exact ⟨m, es, c, h3, h4, hkm m _ _ h5, h6.congr (fun x => (fC_up 28 (by decide) x).symm)⟩, fun h => by obtain ⟨e1, e2, e3, e4, e5, e6, e7, e8, e9, e10⟩ := J.m26 (by rwa [up_other L (by decide)] at h); exact ⟨e1, up_old _ e2, up_old _ e3, up_old _ e4, up_old _ e5, up_old _ e6, up_old _ e7, up_old _ e8, up_old _ e9, up_old _ e10⟩, fun h => J.m27 (by rwa [up_other L (by decide)] at h), fun _ => rfl, fun h => up_old _ (J.m29 (by rwa [up_other L (by decide)] at h))⟩

theorem JC.s29 (J : JC t b W mv2 L u8 u16 u18 u20 u25 u26 u27 w) (h0 : L 29 = false) (h26 : L 26 = true) : JC t b W mv2 (up L 29) u8 u16 u18 u20 u25 u26 u27 (w.setCell ⟨b, 8, none⟩ u25) := by
  have hb := J.hb
  have hk : ∀ k cs ty, W.heap.size ≤ k → w.heap[k]? = some (.cells cs ty) → (w.setCell ⟨b, 8, none⟩ u25).heap[k]? = some (.cells cs ty) := fun k cs ty hk h => by rw [Below.heap_setCell _ _ _ _ (show k ≠ b by omega)]; exact h
  have hkm : ∀ (m : Nat) (es : Array MapEntry) (c : Nat), w.heap[m]? = some (Obj.map es c) → (w.setCell ⟨b, 8, none⟩ u25).heap[m]? = some (Obj.map es c) := fun m es c h => by
    have hr := J.rd
    rw [Below.heap_setCell _ _ _ _ (show m ≠ b from fun e => by rw [e, hr] at h; cases h)]; exact h
  exact ⟨J.hb, J.mod.setCell 8 u25, by rw [up_same]; exact heap_setCell_at _ _ _ _ _ _ J.rd, fun h => up_old _ (J.cm4 (by rwa [up_other L (by decide)] at h)), fun h => up_old _ (J.cm7 (by rwa [up_other L (by decide)] at h)), fun h => up_old _ (J.cm10 (by rwa [up_other L (by decide)] at h)), fun h => up_old _ (J.cm13 (by rwa [up_other L (by decide)] at h)), fun h => up_old _ (J.cm16 (by rwa [up_other L (by decide)] at h)), fun h => up_old _ (J.cm19 (by rwa [up_other L (by decide)] at h)), fun h => up_old _ (J.cm22 (by rwa [up_other L (by decide)] at h)), fun h => up_old _ (J.cm25 (by rwa [up_other L (by decide)] at h)), fun h => up_old _ (J.cv13 (by rwa [up_other L (by decide)] at h)), fun h => up_old _ (J.cv16 (by rwa [up_other L (by decide)] at h)), fun h => up_old _ (J.cv19 (by rwa [up_other L (by decide)] at h)), fun h => (J.a12 (by rwa [up_other L (by decide)] at h)).keep hk, fun h => (J.a15 (by rwa [up_other L (by decide)] at h)).keep hk, fun h => (J.a18 (by rwa [up_other L (by decide)] at h)).keep hk, fun h => by obtain ⟨m, es, c, h3, h4, h5, h6⟩ := J.mp (by rwa [up_other L (by decide)] at h); exact ⟨m, es, c, h3, h4, hkm m _ _ h5, h6.congr (fun x => (fC_up 29 (by decide) x).symm)⟩, fun h => by obtain ⟨e1, e2, e3, e4, e5, e6, e7, e8, e9, e10⟩ := J.m26 (by rwa [up_other L (by decide)] at h); exact ⟨e1, up_old _ e2, up_old _ e3, up_old _ e4, up_old _ e5, up_old _ e6, up_old _ e7, up_old _ e8, up_old _ e9, up_old _ e10⟩, fun h => J.m27 (by rwa [up_other L (by decide)] at h), fun h => J.m28 (by rwa [up_other L (by decide)] at h), fun _ => up_old _ h26⟩

/-- When all have come up the map is laid. -/
theorem JC.done (J : JC t b W mv2 L u8 u16 u18 u20 u25 u26 u27 w) (hall : ∀ i, i < 30 → L i = true) : ∃ m p1 k1 p2 k2 p3 k3, w.heap[b]? = some (rdObj t (.map (some m)) mv2) ∧ CMap w b m p1 k1 p2 k2 p3 k3 ∧ Mod b W w ∧ W.heap.size ≤ m := by
  obtain ⟨m, es, c, h3, h4, h5, h6⟩ := J.mp (hall 1 (by decide))
  obtain ⟨p1, k1, e1, hp1, hk1, hp1', hk1'⟩ := J.a12 (hall 12 (by decide))
  obtain ⟨p2, k2, e2, hp2, hk2, hp2', hk2'⟩ := J.a15 (hall 15 (by decide))
  obtain ⟨p3, k3, e3, hp3, hk3, hp3', hk3'⟩ := J.a18 (hall 18 (by decide))
  have hb := J.hb
  have hr := J.rd
  rw [hall 29 (by decide), if_pos rfl, (J.m26 (hall 26 (by decide))).1, h3] at hr
  have hf : MapIs es (cmdFn b p1 k1 p2 k2 p3 k3) := h6.congr (fun x => by
    subst e1 e2 e3
    unfold fC cmdFn
    simp only [hall 4 (by decide), hall 7 (by decide), hall 10 (by decide), hall 13 (by decide), hall 16 (by decide), hall 19 (by decide), hall 22 (by decide), hall 25 (by decide), if_true]
    all_goals (
      generalize whichL cmdNames x = i
      match i with
      | 0 | 1 | 2 | 3 | 4 | 5 | 6 | 7 | 8 => rfl
      | n + 9 => rfl))
  exact ⟨m, p1, k1, p2, k2, p3, k3, hr, ⟨lookOk_of (K := 9) (E := 261) Tryz.underlying257 Tryz.underlying9 zeroFnC h5 hf, ⟨blk_cell hp1' 0, by omega⟩, blk_cell hk1' 0, ⟨blk_cell hp2' 0, by omega⟩, blk_cell hk2' 0, ⟨blk_cell hp3' 0, by omega⟩, blk_cell hk3' 0, by omega, by omega, by omega, by omega, blk_lt h5⟩, J.mod, h4⟩

end

/-- A region whose operations come in any order, some having been taken first. -/
theorem wpAnyH_inv {P : Program} {md : Region.Mode} {ops : Array Oper} {Q : Exit → Act → World → Prop} {S : World → Prop} (J : Array Bool → Act → World → Prop)
    (hsz : ∀ l a w, J l a w → l.size = ops.size) (hS : ∀ l a w, J l a w → S w)
    (hstep : ∀ l a w i, J l a w → i ∈ Region.ready md ops l → wpOp P ops Q i (fun a' w' => J (l.setIfInBounds i true) a' w') a w)
    (hdone : ∀ l a w, J l a w → Region.ready md ops l = [] → Q .normal a w) :
    ∀ (fuel : Nat) (l : Array Bool) (a : Act) (w : World), l.toList.count false ≤ fuel → J l a w → wpAnyH P md ops Q S fuel l a w
  | 0, l, a, w, hf, hJ => by
    have hr : Region.ready md ops l = [] := by
      rw [List.eq_nil_iff_forall_not_mem]
      intro i hi
      obtain ⟨h0, o, ho, _⟩ := mem_ready.1 hi
      have hlt : i < l.size := by rw [hsz l a w hJ]; exact (Array.getElem?_eq_some_iff.1 ho).1
      have : l[i] = false := by simpa [hlt] using h0
      have hm : false ∈ l.toList := by rw [← this]; simp
      have := List.count_pos_iff.2 hm
      omega
    exact ⟨hr, hdone l a w hJ hr⟩
  | fuel + 1, l, a, w, hf, hJ => by
    refine ⟨hdone l a w hJ, fun i hi => wpOp_mono (fun a' w' h => ⟨hS _ _ _ h, ?_⟩) (hstep l a w i hJ hi)⟩
    refine wpAnyH_inv J hsz hS hstep hdone fuel _ a' w' ?_ h
    obtain ⟨h0, o, ho, _⟩ := mem_ready.1 hi
    have hlt : i < l.size := by rw [hsz l a w hJ]; exact (Array.getElem?_eq_some_iff.1 ho).1
    have hv : l[i] = false := by simpa [hlt] using h0
    have e : (l.setIfInBounds i true).toList = l.toList.set i true := by simp
    rw [e]
    have hc := List.count_set (a := true) (b := false) (l := l.toList) (i := i) (h := by simpa using hlt)
    have hv' : l.toList[i]'(by simpa using hlt) = false := by simpa using hv
    rw [hv'] at hc
    simp only [beq_self_eq_true, if_true, show ((true : Bool) == false) = false from rfl, Bool.false_eq_true, if_false] at hc
    have hm : false ∈ l.toList := by rw [← hv']; simp
    have := List.count_pos_iff.2 hm
    omega
/-- Where nothing may come up, and each waits for earlier ones alone, all have come up. -/
theorem ready_nil_all {md : Region.Mode} {ops : Array Oper} {l : Array Bool} (hl : l.size = ops.size) (hd : ((List.range ops.size).all fun i => (ops[i]?).all fun o => o.after.all fun e => decide (e.on < i)) = true) (hr : Region.ready md ops l = []) : ∀ i, i < ops.size → l.getD i false = true := by
  intro i
  induction i using Nat.strongRecOn with
  | _ i ih =>
    intro hi
    apply Classical.byContradiction
    intro hn
    have hm : i ∈ Region.ready md ops l := by
      refine mem_ready.2 ⟨?_, ops[i], by simp [hi], fun e he _ => ?_⟩
      · have : i < l.size := by omega
        simp [this] at hn ⊢
        exact hn
      · have h1 := List.all_eq_true.1 hd i (List.mem_range.2 hi)
        rw [Array.getElem?_eq_getElem hi] at h1
        simp only [Option.all_some] at h1
        have h2 := Array.all_eq_true_iff_forall_mem.1 h1 e he
        have h3 : e.on < i := of_decide_eq_true h2
        exact ih e.on h3 (by omega)
    rw [hr] at hm
    cases hm
theorem wpOp_of {P : Program} {ops : Array Oper} {Q : Exit → Act → World → Prop} {i : Nat} {o : Oper} {K : Act → World → Prop} {a : Act} {w : World} (ho : ops[i]? = some o) (hw : Region.wanted o (yielded ops a.tmps) = true) (h : o.wp P a w K Q) : wpOp P ops Q i K a w := by
  unfold wpOp
  rw [ho]
  dsimp only
  rw [if_pos hw]
  exact Or.inl h

end Go.Proofs.YtbiclelojbfnbaaGreatDoor

namespace Go.Proofs.YtbiclelojbfnbaaGreatDoor
open Go.RowKit
set_option linter.unusedVariables false
set_option linter.unusedSimpArgs false

/-- A closure of 'truth', with its variable in a block of its own. -/
def TruthAt (w : World) (B : Nat) (h : Bool) (v : Value) : Prop :=
  ∃ p, v = .func (.func 251) #[] #[.pointer (some ⟨p, 0, none⟩)] ∧ B ≤ p ∧ w.heap[p]? = some (.cells #[.bool h] 4)
theorem TruthAt.keep {w w' : World} {B : Nat} {h : Bool} {v : Value} (hh : TruthAt w B h v) (hk : ∀ k cs ty, B ≤ k → w.heap[k]? = some (.cells cs ty) → w'.heap[k]? = some (.cells cs ty)) : TruthAt w' B h v := by
  obtain ⟨p, hv, hp, h1⟩ := hh
  exact ⟨p, hv, hp, hk p _ _ hp h1⟩

/-- What is laid in the map of tests when these operations have come up. -/
def fT (b : Nat) (L : Nat → Bool) (u30 u31 : Value) (x : List UInt8) : Option Value :=
  match whichL testNames x with
  | 1 => if L 3 then some (u30) else none
  | 2 => if L 5 then some (u31) else none
  | 3 => if L 8 then some (.func (.func 159) #[.pointer (some ⟨b, 0, none⟩)] #[]) else none
  | 4 => if L 10 then some (.func (.func 160) #[] #[.pointer (some ⟨b + 1, 0, none⟩)]) else none
  | 5 => if L 12 then some (.func (.func 162) #[] #[.pointer (some ⟨b + 1, 0, none⟩)]) else none
  | 6 => if L 14 then some (.func (.func 163) #[] #[.pointer (some ⟨b + 1, 0, none⟩)]) else none
  | 7 => if L 16 then some (.func (.func 166) #[] #[.pointer (some ⟨b + 1, 0, none⟩)]) else none
  | 8 => if L 18 then some (.func (.func 169) #[] #[.pointer (some ⟨b + 1, 0, none⟩)]) else none
  | 9 => if L 21 then some (.func (.func 170) #[.pointer (some ⟨b, 0, none⟩)] #[]) else none
  | 10 => if L 24 then some (.func (.func 171) #[.pointer (some ⟨b, 0, none⟩)] #[]) else none
  | _ => none

/-- What is known while the map of tests is laid, in whatever order. -/
structure JT (t : ByteArray) (b : Nat) (W : World) (mv1 : Value) (L : Nat → Bool) (u29 u30 u31 u43 u44 u45 : Value) (w : World) : Prop where
  hb : b < W.heap.size
  mod : Mod b W w
  rd : w.heap[b]? = some (rdObj t mv1 (if L 28 then u43 else Value.map none))
  cm3 : L 3 = true → L 1 = true
  cm5 : L 5 = true → L 1 = true
  cm8 : L 8 = true → L 1 = true
  cm10 : L 10 = true → L 1 = true
  cm12 : L 12 = true → L 1 = true
  cm14 : L 14 = true → L 1 = true
  cm16 : L 16 = true → L 1 = true
  cm18 : L 18 = true → L 1 = true
  cm21 : L 21 = true → L 1 = true
  cm24 : L 24 = true → L 1 = true
  cv3 : L 3 = true → L 2 = true
  cv5 : L 5 = true → L 4 = true
  a2 : L 2 = true → TruthAt w W.heap.size true u30
  a4 : L 4 = true → TruthAt w W.heap.size false u31
  mp : L 1 = true → ∃ m es c, u29 = .map (some m) ∧ W.heap.size ≤ m ∧ w.heap[m]? = some (.map es c) ∧ MapIs es (fT b L u30 u31)
  m25 : L 25 = true → u43 = u29 ∧ L 1 = true ∧ L 3 = true ∧ L 5 = true ∧ L 8 = true ∧ L 10 = true ∧ L 12 = true ∧ L 14 = true ∧ L 16 = true ∧ L 18 = true ∧ L 21 = true ∧ L 24 = true
  m26 : L 26 = true → u44 = .pointer (some ⟨b, 0, none⟩)
  m27 : L 27 = true → u45 = .pointer (some ⟨b, 9, none⟩)
  m28 : L 28 = true → L 25 = true

section
variable {t : ByteArray} {b : Nat} {W : World} {mv1 : Value} {L : Nat → Bool} {u29 u30 u31 u43 u44 u45 : Value} {w : World}

theorem fT_up (i : Nat) (h : i ≠ 3 ∧ i ≠ 5 ∧ i ≠ 8 ∧ i ≠ 10 ∧ i ≠ 12 ∧ i ≠ 14 ∧ i ≠ 16 ∧ i ≠ 18 ∧ i ≠ 21 ∧ i ≠ 24) (x : List UInt8) : fT b (up L i) u30 u31 x = fT b L u30 u31 x := by
  obtain ⟨h0, h1, h2, h3, h4, h5, h6, h7, h8, h9⟩ := h
  unfold fT
  simp only [up_other L (Ne.symm h0), up_other L (Ne.symm h1), up_other L (Ne.symm h2), up_other L (Ne.symm h3), up_other L (Ne.symm h4), up_other L (Ne.symm h5), up_other L (Ne.symm h6), up_other L (Ne.symm h7), up_other L (Ne.symm h8), up_other L (Ne.symm h9)]

theorem JT.s1 (J : JT t b W mv1 L u29 u30 u31 u43 u44 u45 w) (h0 : L 1 = false) : JT t b W mv1 (up L 1) (.map (some w.heap.size)) u30 u31 u43 u44 u45 (w.alloc (Obj.map #[] 0)) := by
  have hk : ∀ k cs ty, W.heap.size ≤ k → w.heap[k]? = some (.cells cs ty) → (w.alloc (Obj.map #[] 0)).heap[k]? = some (.cells cs ty) := fun k cs ty _ h => blk_alloc h
  have hkb : (w.alloc (Obj.map #[] 0)).heap[b]? = some (rdObj t mv1 (if L 28 then u43 else Value.map none)) := blk_alloc J.rd
  have n3 : L 3 = false := by cases hh : L 3 with | false => rfl | true => exact absurd (J.cm3 hh) (by rw [h0]; decide)
  have n5 : L 5 = false := by cases hh : L 5 with | false => rfl | true => exact absurd (J.cm5 hh) (by rw [h0]; decide)
  have n8 : L 8 = false := by cases hh : L 8 with | false => rfl | true => exact absurd (J.cm8 hh) (by rw [h0]; decide)
  have n10 : L 10 = false := by cases hh : L 10 with | false => rfl | true => exact absurd (J.cm10 hh) (by rw [h0]; decide)
  have n12 : L 12 = false := by cases hh : L 12 with | false => rfl | true => exact absurd (J.cm12 hh) (by rw [h0]; decide)
  have n14 : L 14 = false := by cases hh : L 14 with | false => rfl | true => exact absurd (J.cm14 hh) (by rw [h0]; decide)
  have n16 : L 16 = false := by cases hh : L 16 with | false => rfl | true => exact absurd (J.cm16 hh) (by rw [h0]; decide)
  have n18 : L 18 = false := by cases hh : L 18 with | false => rfl | true => exact absurd (J.cm18 hh) (by rw [h0]; decide)
  have n21 : L 21 = false := by cases hh : L 21 with | false => rfl | true => exact absurd (J.cm21 hh) (by rw [h0]; decide)
  have n24 : L 24 = false := by cases hh : L 24 with | false => rfl | true => exact absurd (J.cm24 hh) (by rw [h0]; decide)
  exact ⟨J.hb, J.mod.trans ((Mod.refl b w).alloc _), by rw [up_other L (by decide)]; exact hkb, fun h => up_old _ (J.cm3 (by rwa [up_other L (by decide)] at h)), fun h => up_old _ (J.cm5 (by rwa [up_other L (by decide)] at h)), fun h => up_old _ (J.cm8 (by rwa [up_other L (by decide)] at h)), fun h => up_old _ (J.cm10 (by rwa [up_other L (by decide)] at h)), fun h => up_old _ (J.cm12 (by rwa [up_other L (by decide)] at h)), fun h => up_old _ (J.cm14 (by rwa [up_other L (by decide)] at h)), fun h => up_old _ (J.cm16 (by rwa [up_other L (by decide)] at h)), fun h => up_old _ (J.cm18 (by rwa [up_other L (by decide)] at h)), fun h => up_old _ (J.cm21 (by rwa [up_other L (by decide)] at h)), fun h => up_old _ (J.cm24 (by rwa [up_other L (by decide)] at h)), fun h => up_old _ (J.cv3 (by rwa [up_other L (by decide)] at h)), fun h => up_old _ (J.cv5 (by rwa [up_other L (by decide)] at h)), fun h => (J.a2 (by rwa [up_other L (by decide)] at h)).keep hk, fun h => (J.a4 (by rwa [up_other L (by decide)] at h)).keep hk, fun _ => ⟨w.heap.size, #[], 0, rfl, J.mod.size, blk_new _ _, MapIs.empty.congr (fun x => by rw [fT_up 1 (by decide)]; unfold fT; simp only [n3, n5, n8, n10, n12, n14, n16, n18, n21, n24]; split <;> rfl)⟩, fun h => absurd (J.m25 (by rwa [up_other L (by decide)] at h)).2.1 (by rw [h0]; decide), fun h => J.m26 (by rwa [up_other L (by decide)] at h), fun h => J.m27 (by rwa [up_other L (by decide)] at h), fun h => up_old _ (J.m28 (by rwa [up_other L (by decide)] at h))⟩

theorem JT.s2 (J : JT t b W mv1 L u29 u30 u31 u43 u44 u45 w) (h0 : L 2 = false) : JT t b W mv1 (up L 2) u29 (.func (.func 251) #[] #[.pointer (some ⟨w.heap.size, 0, none⟩)]) u31 u43 u44 u45 (w.alloc (.cells #[.bool true] 4)) := by
  have hk : ∀ k cs ty, W.heap.size ≤ k → w.heap[k]? = some (.cells cs ty) → (w.alloc (.cells #[.bool true] 4)).heap[k]? = some (.cells cs ty) := fun k cs ty _ h => blk_alloc h
  have hkm : ∀ (m : Nat) (es : Array MapEntry) (c : Nat), w.heap[m]? = some (Obj.map es c) → (w.alloc (.cells #[.bool true] 4)).heap[m]? = some (Obj.map es c) := fun m es c h => blk_alloc h
  have hkb : (w.alloc (.cells #[.bool true] 4)).heap[b]? = some (rdObj t mv1 (if L 28 then u43 else Value.map none)) := blk_alloc J.rd
  have hn : L 3 = false := by cases hh : L 3 with | false => rfl | true => exact absurd (J.cv3 hh) (by rw [h0]; decide)
  have hsz := J.mod.size
  exact ⟨J.hb, J.mod.trans ((Mod.refl b w).alloc _), by rw [up_other L (by decide)]; exact hkb, fun h => up_old _ (J.cm3 (by rwa [up_other L (by decide)] at h)), fun h => up_old _ (J.cm5 (by rwa [up_other L (by decide)] at h)), fun h => up_old _ (J.cm8 (by rwa [up_other L (by decide)] at h)), fun h => up_old _ (J.cm10 (by rwa [up_other L (by decide)] at h)), fun h => up_old _ (J.cm12 (by rwa [up_other L (by decide)] at h)), fun h => up_old _ (J.cm14 (by rwa [up_other L (by decide)] at h)), fun h => up_old _ (J.cm16 (by rwa [up_other L (by decide)] at h)), fun h => up_old _ (J.cm18 (by rwa [up_other L (by decide)] at h)), fun h => up_old _ (J.cm21 (by rwa [up_other L (by decide)] at h)), fun h => up_old _ (J.cm24 (by rwa [up_other L (by decide)] at h)), fun h => up_old _ (J.cv3 (by rwa [up_other L (by decide)] at h)), fun h => up_old _ (J.cv5 (by rwa [up_other L (by decide)] at h)), fun _ => ⟨w.heap.size, rfl, hsz, blk_new _ _⟩, fun h => (J.a4 (by rwa [up_other L (by decide)] at h)).keep hk, fun h => by obtain ⟨m, es, c, h3, h4, h5, h6⟩ := J.mp (by rwa [up_other L (by decide)] at h); exact ⟨m, es, c, h3, h4, hkm m _ _ h5, h6.congr (fun x => by rw [fT_up 2 (by decide)]; unfold fT; simp only [hn, Bool.false_eq_true, if_false])⟩, fun h => by obtain ⟨e1, e2, e3, e4, e5, e6, e7, e8, e9, e10, e11, e12⟩ := J.m25 (by rwa [up_other L (by decide)] at h); exact ⟨e1, up_old _ e2, up_old _ e3, up_old _ e4, up_old _ e5, up_old _ e6, up_old _ e7, up_old _ e8, up_old _ e9, up_old _ e10, up_old _ e11, up_old _ e12⟩, fun h => J.m26 (by rwa [up_other L (by decide)] at h), fun h => J.m27 (by rwa [up_other L (by decide)] at h), fun h => up_old _ (J.m28 (by rwa [up_other L (by decide)] at h))⟩

theorem JT.s4 (J : JT t b W mv1 L u29 u30 u31 u43 u44 u45 w) (h0 : L 4 = false) : JT t b W mv1 (up L 4) u29 u30 (.func (.func 251) #[] #[.pointer (some ⟨w.heap.size, 0, none⟩)]) u43 u44 u45 (w.alloc (.cells #[.bool false] 4)) := by
  have hk : ∀ k cs ty, W.heap.size ≤ k → w.heap[k]? = some (.cells cs ty) → (w.alloc (.cells #[.bool false] 4)).heap[k]? = some (.cells cs ty) := fun k cs ty _ h => blk_alloc h
  have hkm : ∀ (m : Nat) (es : Array MapEntry) (c : Nat), w.heap[m]? = some (Obj.map es c) → (w.alloc (.cells #[.bool false] 4)).heap[m]? = some (Obj.map es c) := fun m es c h => blk_alloc h
  have hkb : (w.alloc (.cells #[.bool false] 4)).heap[b]? = some (rdObj t mv1 (if L 28 then u43 else Value.map none)) := blk_alloc J.rd
  have hn : L 5 = false := by cases hh : L 5 with | false => rfl | true => exact absurd (J.cv5 hh) (by rw [h0]; decide)
  have hsz := J.mod.size
  exact ⟨J.hb, J.mod.trans ((Mod.refl b w).alloc _), by rw [up_other L (by decide)]; exact hkb, fun h => up_old _ (J.cm3 (by rwa [up_other L (by decide)] at h)), fun h => up_old _ (J.cm5 (by rwa [up_other L (by decide)] at h)), fun h => up_old _ (J.cm8 (by rwa [up_other L (by decide)] at h)), fun h => up_old _ (J.cm10 (by rwa [up_other L (by decide)] at h)), fun h => up_old _ (J.cm12 (by rwa [up_other L (by decide)] at h)), fun h => up_old _ (J.cm14 (by rwa [up_other L (by decide)] at h)), fun h => up_old _ (J.cm16 (by rwa [up_other L (by decide)] at h)), fun h => up_old _ (J.cm18 (by rwa [up_other L (by decide)] at h)), fun h => up_old _ (J.cm21 (by rwa [up_other L (by decide)] at h)), fun h => up_old _ (J.cm24 (by rwa [up_other L (by decide)] at h)), fun h => up_old _ (J.cv3 (by rwa [up_other L (by decide)] at h)), fun h => up_old _ (J.cv5 (by rwa [up_other L (by decide)] at h)), fun h => (J.a2 (by rwa [up_other L (by decide)] at h)).keep hk, fun _ => ⟨w.heap.size, rfl, hsz, blk_new _ _⟩, fun h => by obtain ⟨m, es, c, h3, h4, h5, h6⟩ := J.mp (by rwa [up_other L (by decide)] at h); exact ⟨m, es, c, h3, h4, hkm m _ _ h5, h6.congr (fun x => by rw [fT_up 4 (by decide)]; unfold fT; simp only [hn, Bool.false_eq_true, if_false])⟩, fun h => by obtain ⟨e1, e2, e3, e4, e5, e6, e7, e8, e9, e10, e11, e12⟩ := J.m25 (by rwa [up_other L (by decide)] at h); exact ⟨e1, up_old _ e2, up_old _ e3, up_old _ e4, up_old _ e5, up_old _ e6, up_old _ e7, up_old _ e8, up_old _ e9, up_old _ e10, up_old _ e11, up_old _ e12⟩, fun h => J.m26 (by rwa [up_other L (by decide)] at h), fun h => J.m27 (by rwa [up_other L (by decide)] at h), fun h => up_old _ (J.m28 (by rwa [up_other L (by decide)] at h))⟩

theorem JT.s3 (J : JT t b W mv1 L u29 u30 u31 u43 u44 u45 w) (h0 : L 3 = false) (h1 : L 1 = true) (h2 : L 2 = true) : ∃ m es c, u29 = .map (some m) ∧ w.heap[m]? = some (.map es c) ∧ MapIs es (fT b L u30 u31) ∧ fT b L u30 u31 kTrue = none ∧ JT t b W mv1 (up L 3) u29 u30 u31 u43 u44 u45 (mapSet w m (.map (es.push ⟨.string (strA kTrue), u30, c⟩) (c + 1))) := by
  obtain ⟨m, es, c, h3, h4, h5, h6⟩ := J.mp h1
  have hn : fT b L u30 u31 kTrue = none := by unfold fT; rw [show whichL testNames kTrue = 1 from by decide]; simp only [h0]; rfl
  have hx : fT b (up L 3) u30 u31 kTrue = some (u30) := by unfold fT; rw [show whichL testNames kTrue = 1 from by decide]; simp only [up_same]; rfl
  have hg : ∀ z, z ≠ kTrue → fT b (up L 3) u30 u31 z = fT b L u30 u31 z := fun z hz => by
    have hw : whichL testNames z ≠ 1 := fun e => hz (by have := whichL_get testNames z 0 e; simpa [testNames] using this.symm)
    unfold fT
    split <;> first | (rename_i e; exact absurd e hw) | simp only [up_other L (by decide)] | rfl
  have hmb : m ≠ b := by have := J.hb; omega
  have hk : ∀ k cs ty, W.heap.size ≤ k → w.heap[k]? = some (.cells cs ty) → (mapSet w m (.map (es.push ⟨.string (strA kTrue), u30, c⟩) (c + 1))).heap[k]? = some (.cells cs ty) := fun k cs ty _ h => by
    rw [mapSet_other (fun e => by rw [e, h5] at h; cases h)]; exact h
  have hkb : (mapSet w m (.map (es.push ⟨.string (strA kTrue), u30, c⟩) (c + 1))).heap[b]? = some (rdObj t mv1 (if L 28 then u43 else Value.map none)) := by rw [mapSet_other (Ne.symm hmb)]; exact J.rd
  refine ⟨m, es, c, h3, h5, h6, hn, ?_⟩
  exact ⟨J.hb, mod_mapSet J.mod h4, by rw [up_other L (by decide)]; exact hkb, fun _ => up_old _ h1, fun h => up_old _ (J.cm5 (by rwa [up_other L (by decide)] at h)), fun h => up_old _ (J.cm8 (by rwa [up_other L (by decide)] at h)), fun h => up_old _ (J.cm10 (by rwa [up_other L (by decide)] at h)), fun h => up_old _ (J.cm12 (by rwa [up_other L (by decide)] at h)), fun h => up_old _ (J.cm14 (by rwa [up_other L (by decide)] at h)), fun h => up_old _ (J.cm16 (by rwa [up_other L (by decide)] at h)), fun h => up_old _ (J.cm18 (by rwa [up_other L (by decide)] at h)), fun h => up_old _ (J.cm21 (by rwa [up_other L (by decide)] at h)), fun h => up_old _ (J.cm24 (by rwa [up_other L (by decide)] at h)), fun _ => up_old _ h2, fun h => up_old _ (J.cv5 (by rwa [up_other L (by decide)] at h)), fun h => (J.a2 (by rwa [up_other L (by decide)] at h)).keep hk, fun h => (J.a4 (by rwa [up_other L (by decide)] at h)).keep hk, fun _ => ⟨m, _, _, h3, h4, mapSet_same h5, h6.push hn hx hg⟩, fun h => by obtain ⟨e1, e2, e3, e4, e5, e6, e7, e8, e9, e10, e11, e12⟩ := J.m25 (by rwa [up_other L (by decide)] at h); exact ⟨e1, up_old _ e2, up_old _ e3, up_old _ e4, up_old _ e5, up_old _ e6, up_old _ e7, up_old _ e8, up_old _ e9, up_old _ e10, up_old _ e11, up_old _ e12⟩, fun h => J.m26 (by rwa [up_other L (by decide)] at h), fun h => J.m27 (by rwa [up_other L (by decide)] at h), fun h => up_old _ (J.m28 (by rwa [up_other L (by decide)] at h))⟩

theorem JT.s5 (J : JT t b W mv1 L u29 u30 u31 u43 u44 u45 w) (h0 : L 5 = false) (h1 : L 1 = true) (h2 : L 4 = true) : ∃ m es c, u29 = .map (some m) ∧ w.heap[m]? = some (.map es c) ∧ MapIs es (fT b L u30 u31) ∧ fT b L u30 u31 kFalse = none ∧ JT t b W mv1 (up L 5) u29 u30 u31 u43 u44 u45 (mapSet w m (.map (es.push ⟨.string (strA kFalse), u31, c⟩) (c + 1))) := by
  obtain ⟨m, es, c, h3, h4, h5, h6⟩ := J.mp h1
  have hn : fT b L u30 u31 kFalse = none := by unfold fT; rw [show whichL testNames kFalse = 2 from by decide]; simp only [h0]; rfl
  have hx : fT b (up L 5) u30 u31 kFalse = some (u31) := by unfold fT; rw [show whichL testNames kFalse = 2 from by decide]; simp only [up_same]; rfl
  have hg : ∀ z, z ≠ kFalse → fT b (up L 5) u30 u31 z = fT b L u30 u31 z := fun z hz => by
    have hw : whichL testNames z ≠ 2 := fun e => hz (by have := whichL_get testNames z 1 e; simpa [testNames] using this.symm)
    unfold fT
    split <;> first | (rename_i e; exact absurd e hw) | simp only [up_other L (by decide)] | rfl
  have hmb : m ≠ b := by have := J.hb; omega
  have hk : ∀ k cs ty, W.heap.size ≤ k → w.heap[k]? = some (.cells cs ty) → (mapSet w m (.map (es.push ⟨.string (strA kFalse), u31, c⟩) (c + 1))).heap[k]? = some (.cells cs ty) := fun k cs ty _ h => by
    rw [mapSet_other (fun e => by rw [e, h5] at h; cases h)]; exact h
  have hkb : (mapSet w m (.map (es.push ⟨.string (strA kFalse), u31, c⟩) (c + 1))).heap[b]? = some (rdObj t mv1 (if L 28 then u43 else Value.map none)) := by rw [mapSet_other (Ne.symm hmb)]; exact J.rd
  refine ⟨m, es, c, h3, h5, h6, hn, ?_⟩
  exact ⟨J.hb, mod_mapSet J.mod h4, by rw [up_other L (by decide)]; exact hkb, fun h => up_old _ (J.cm3 (by rwa [up_other L (by decide)] at h)), fun _ => up_old _ h1, fun h => up_old _ (J.cm8 (by rwa [up_other L (by decide)] at h)), fun h => up_old _ (J.cm10 (by rwa [up_other L (by decide)] at h)), fun h => up_old _ (J.cm12 (by rwa [up_other L (by decide)] at h)), fun h => up_old _ (J.cm14 (by rwa [up_other L (by decide)] at h)), fun h => up_old _ (J.cm16 (by rwa [up_other L (by decide)] at h)), fun h => up_old _ (J.cm18 (by rwa [up_other L (by decide)] at h)), fun h => up_old _ (J.cm21 (by rwa [up_other L (by decide)] at h)), fun h => up_old _ (J.cm24 (by rwa [up_other L (by decide)] at h)), fun h => up_old _ (J.cv3 (by rwa [up_other L (by decide)] at h)), fun _ => up_old _ h2, fun h => (J.a2 (by rwa [up_other L (by decide)] at h)).keep hk, fun h => (J.a4 (by rwa [up_other L (by decide)] at h)).keep hk, fun _ => ⟨m, _, _, h3, h4, mapSet_same h5, h6.push hn hx hg⟩, fun h => by obtain ⟨e1, e2, e3, e4, e5, e6, e7, e8, e9, e10, e11, e12⟩ := J.m25 (by rwa [up_other L (by decide)] at h); exact ⟨e1, up_old _ e2, up_old _ e3, up_old _ e4, up_old _ e5, up_old _ e6, up_old _ e7, up_old _ e8, up_old _ e9, up_old _ e10, up_old _ e11, up_old _ e12⟩, fun h => J.m26 (by rwa [up_other L (by decide)] at h), fun h => J.m27 (by rwa [up_other L (by decide)] at h), fun h => up_old _ (J.m28 (by rwa [up_other L (by decide)] at h))⟩

theorem JT.s8 (J : JT t b W mv1 L u29 u30 u31 u43 u44 u45 w) (h0 : L 8 = false) (h1 : L 1 = true) : ∃ m es c, u29 = .map (some m) ∧ w.heap[m]? = some (.map es c) ∧ MapIs es (fT b L u30 u31) ∧ fT b L u30 u31 kNot = none ∧ JT t b W mv1 (up L 8) u29 u30 u31 u43 u44 u45 (mapSet w m (.map (es.push ⟨.string (strA kNot), .func (.func 159) #[.pointer (some ⟨b, 0, none⟩)] #[], c⟩) (c + 1))) := by
  obtain ⟨m, es, c, h3, h4, h5, h6⟩ := J.mp h1
  have hn : fT b L u30 u31 kNot = none := by unfold fT; rw [show whichL testNames kNot = 3 from by decide]; simp only [h0]; rfl
  have hx : fT b (up L 8) u30 u31 kNot = some (.func (.func 159) #[.pointer (some ⟨b, 0, none⟩)] #[]) := by unfold fT; rw [show whichL testNames kNot = 3 from by decide]; simp only [up_same]; rfl
  have hg : ∀ z, z ≠ kNot → fT b (up L 8) u30 u31 z = fT b L u30 u31 z := fun z hz => by
    have hw : whichL testNames z ≠ 3 := fun e => hz (by have := whichL_get testNames z 2 e; simpa [testNames] using this.symm)
    unfold fT
    split <;> first | (rename_i e; exact absurd e hw) | simp only [up_other L (by decide)] | rfl
  have hmb : m ≠ b := by have := J.hb; omega
  have hk : ∀ k cs ty, W.heap.size ≤ k → w.heap[k]? = some (.cells cs ty) → (mapSet w m (.map (es.push ⟨.string (strA kNot), .func (.func 159) #[.pointer (some ⟨b, 0, none⟩)] #[], c⟩) (c + 1))).heap[k]? = some (.cells cs ty) := fun k cs ty _ h => by
    rw [mapSet_other (fun e => by rw [e, h5] at h; cases h)]; exact h
  have hkb : (mapSet w m (.map (es.push ⟨.string (strA kNot), .func (.func 159) #[.pointer (some ⟨b, 0, none⟩)] #[], c⟩) (c + 1))).heap[b]? = some (rdObj t mv1 (if L 28 then u43 else Value.map none)) := by rw [mapSet_other (Ne.symm hmb)]; exact J.rd
  refine ⟨m, es, c, h3, h5, h6, hn, ?_⟩
  exact ⟨J.hb, mod_mapSet J.mod h4, by rw [up_other L (by decide)]; exact hkb, fun h => up_old _ (J.cm3 (by rwa [up_other L (by decide)] at h)), fun h => up_old _ (J.cm5 (by rwa [up_other L (by decide)] at h)), fun _ => up_old _ h1, fun h => up_old _ (J.cm10 (by rwa [up_other L (by decide)] at h)), fun h => up_old _ (J.cm12 (by rwa [up_other L (by decide)] at h)), fun h => up_old _ (J.cm14 (by rwa [up_other L (by decide)] at h)), fun h => up_old _ (J.cm16 (by rwa [up_other L (by decide)] at h)), fun h => up_old _ (J.cm18 (by rwa [up_other L (by decide)] at h)), fun h => up_old _ (J.cm21 (by rwa [up_other L (by decide)] at h)), fun h => up_old _ (J.cm24 (by rwa [up_other L (by decide)] at h)), fun h => up_old _ (J.cv3 (by rwa [up_other L (by decide)] at h)), fun h => up_old _ (J.cv5 (by rwa [up_other L (by decide)] at h)), fun h => (J.a2 (by rwa [up_other L (by decide)] at h)).keep hk, fun h => (J.a4 (by rwa [up_other L (by decide)] at h)).keep hk, fun _ => ⟨m, _, _, h3, h4, mapSet_same h5, h6.push hn hx hg⟩, fun h => by obtain ⟨e1, e2, e3, e4, e5, e6, e7, e8, e9, e10, e11, e12⟩ := J.m25 (by rwa [up_other L (by decide)] at h); exact ⟨e1, up_old _ e2, up_old _ e3, up_old _ e4, up_old _ e5, up_old _ e6, up_old _ e7, up_old _ e8, up_old _ e9, up_old _ e10, up_old _ e11, up_old _ e12⟩, fun h => J.m26 (by rwa [up_other L (by decide)] at h), fun h => J.m27 (by rwa [up_other L (by decide)] at h), fun h => up_old _ (J.m28 (by rwa [up_other L (by decide)] at h))⟩

theorem JT.s10 (J : JT t b W mv1 L u29 u30 u31 u43 u44 u45 w) (h0 : L 10 = false) (h1 : L 1 = true) : ∃ m es c, u29 = .map (some m) ∧ w.heap[m]? = some (.map es c) ∧ MapIs es (fT b L u30 u31) ∧ fT b L u30 u31 kAllof = none ∧ JT t b W mv1 (up L 10) u29 u30 u31 u43 u44 u45 (mapSet w m (.map (es.push ⟨.string (strA kAllof), .func (.func 160) #[] #[.pointer (some ⟨b + 1, 0, none⟩)], c⟩) (c + 1))) := by
  obtain ⟨m, es, c, h3, h4, h5, h6⟩ := J.mp h1
  have hn : fT b L u30 u31 kAllof = none := by unfold fT; rw [show whichL testNames kAllof = 4 from by decide]; simp only [h0]; rfl
  have hx : fT b (up L 10) u30 u31 kAllof = some (.func (.func 160) #[] #[.pointer (some ⟨b + 1, 0, none⟩)]) := by unfold fT; rw [show whichL testNames kAllof = 4 from by decide]; simp only [up_same]; rfl
  have hg : ∀ z, z ≠ kAllof → fT b (up L 10) u30 u31 z = fT b L u30 u31 z := fun z hz => by
    have hw : whichL testNames z ≠ 4 := fun e => hz (by have := whichL_get testNames z 3 e; simpa [testNames] using this.symm)
    unfold fT
    split <;> first | (rename_i e; exact absurd e hw) | simp only [up_other L (by decide)] | rfl
  have hmb : m ≠ b := by have := J.hb; omega
  have hk : ∀ k cs ty, W.heap.size ≤ k → w.heap[k]? = some (.cells cs ty) → (mapSet w m (.map (es.push ⟨.string (strA kAllof), .func (.func 160) #[] #[.pointer (some ⟨b + 1, 0, none⟩)], c⟩) (c + 1))).heap[k]? = some (.cells cs ty) := fun k cs ty _ h => by
    rw [mapSet_other (fun e => by rw [e, h5] at h; cases h)]; exact h
  have hkb : (mapSet w m (.map (es.push ⟨.string (strA kAllof), .func (.func 160) #[] #[.pointer (some ⟨b + 1, 0, none⟩)], c⟩) (c + 1))).heap[b]? = some (rdObj t mv1 (if L 28 then u43 else Value.map none)) := by rw [mapSet_other (Ne.symm hmb)]; exact J.rd
  refine ⟨m, es, c, h3, h5, h6, hn, ?_⟩
  exact ⟨J.hb, mod_mapSet J.mod h4, by rw [up_other L (by decide)]; exact hkb, fun h => up_old _ (J.cm3 (by rwa [up_other L (by decide)] at h)), fun h => up_old _ (J.cm5 (by rwa [up_other L (by decide)] at h)), fun h => up_old _ (J.cm8 (by rwa [up_other L (by decide)] at h)), fun _ => up_old _ h1, fun h => up_old _ (J.cm12 (by rwa [up_other L (by decide)] at h)), fun h => up_old _ (J.cm14 (by rwa [up_other L (by decide)] at h)), fun h => up_old _ (J.cm16 (by rwa [up_other L (by decide)] at h)), fun h => up_old _ (J.cm18 (by rwa [up_other L (by decide)] at h)), fun h => up_old _ (J.cm21 (by rwa [up_other L (by decide)] at h)), fun h => up_old _ (J.cm24 (by rwa [up_other L (by decide)] at h)), fun h => up_old _ (J.cv3 (by rwa [up_other L (by decide)] at h)), fun h => up_old _ (J.cv5 (by rwa [up_other L (by decide)] at h)), fun h => (J.a2 (by rwa [up_other L (by decide)] at h)).keep hk, fun h => (J.a4 (by rwa [up_other L (by decide)] at h)).keep hk, fun _ => ⟨m, _, _, h3, h4, mapSet_same h5, h6.push hn hx hg⟩, fun h => by obtain ⟨e1, e2, e3, e4, e5, e6, e7, e8, e9, e10, e11, e12⟩ := J.m25 (by rwa [up_other L (by decide)] at h); exact ⟨e1, up_old _ e2, up_old _ e3, up_old _ e4, up_old _ e5, up_old _ e6, up_old _ e7, up_old _ e8, up_old _ e9, up_old _ e10, up_old _ e11, up_old _ e12⟩, fun h => J.m26 (by rwa [up_other L (by decide)] at h), fun h => J.m27 (by rwa [up_other L (by decide)] at h), fun h => up_old _ (J.m28 (by rwa [up_other L (by decide)] at h))⟩

theorem JT.s12 (J : JT t b W mv1 L u29 u30 u31 u43 u44 u45 w) (h0 : L 12 = false) (h1 : L 1 = true) : ∃ m es c, u29 = .map (some m) ∧ w.heap[m]? = some (.map es c) ∧ MapIs es (fT b L u30 u31) ∧ fT b L u30 u31 kAnyof = none ∧ JT t b W mv1 (up L 12) u29 u30 u31 u43 u44 u45 (mapSet w m (.map (es.push ⟨.string (strA kAnyof), .func (.func 162) #[] #[.pointer (some ⟨b + 1, 0, none⟩)], c⟩) (c + 1))) := by
  obtain ⟨m, es, c, h3, h4, h5, h6⟩ := J.mp h1
  have hn : fT b L u30 u31 kAnyof = none := by unfold fT; rw [show whichL testNames kAnyof = 5 from by decide]; simp only [h0]; rfl
  have hx : fT b (up L 12) u30 u31 kAnyof = some (.func (.func 162) #[] #[.pointer (some ⟨b + 1, 0, none⟩)]) := by unfold fT; rw [show whichL testNames kAnyof = 5 from by decide]; simp only [up_same]; rfl
  have hg : ∀ z, z ≠ kAnyof → fT b (up L 12) u30 u31 z = fT b L u30 u31 z := fun z hz => by
    have hw : whichL testNames z ≠ 5 := fun e => hz (by have := whichL_get testNames z 4 e; simpa [testNames] using this.symm)
    unfold fT
    split <;> first | (rename_i e; exact absurd e hw) | simp only [up_other L (by decide)] | rfl
  have hmb : m ≠ b := by have := J.hb; omega
  have hk : ∀ k cs ty, W.heap.size ≤ k → w.heap[k]? = some (.cells cs ty) → (mapSet w m (.map (es.push ⟨.string (strA kAnyof), .func (.func 162) #[] #[.pointer (some ⟨b + 1, 0, none⟩)], c⟩) (c + 1))).heap[k]? = some (.cells cs ty) := fun k cs ty _ h => by
    rw [mapSet_other (fun e => by rw [e, h5] at h; cases h)]; exact h
  have hkb : (mapSet w m (.map (es.push ⟨.string (strA kAnyof), .func (.func 162) #[] #[.pointer (some ⟨b + 1, 0, none⟩)], c⟩) (c + 1))).heap[b]? = some (rdObj t mv1 (if L 28 then u43 else Value.map none)) := by rw [mapSet_other (Ne.symm hmb)]; exact J.rd
  refine ⟨m, es, c, h3, h5, h6, hn, ?_⟩
  exact ⟨J.hb, mod_mapSet J.mod h4, by rw [up_other L (by decide)]; exact hkb, fun h => up_old _ (J.cm3 (by rwa [up_other L (by decide)] at h)), fun h => up_old _ (J.cm5 (by rwa [up_other L (by decide)] at h)), fun h => up_old _ (J.cm8 (by rwa [up_other L (by decide)] at h)), fun h => up_old _ (J.cm10 (by rwa [up_other L (by decide)] at h)), fun _ => up_old _ h1, fun h => up_old _ (J.cm14 (by rwa [up_other L (by decide)] at h)), fun h => up_old _ (J.cm16 (by rwa [up_other L (by decide)] at h)), fun h => up_old _ (J.cm18 (by rwa [up_other L (by decide)] at h)), fun h => up_old _ (J.cm21 (by rwa [up_other L (by decide)] at h)), fun h => up_old _ (J.cm24 (by rwa [up_other L (by decide)] at h)), fun h => up_old _ (J.cv3 (by rwa [up_other L (by decide)] at h)), fun h => up_old _ (J.cv5 (by rwa [up_other L (by decide)] at h)), fun h => (J.a2 (by rwa [up_other L (by decide)] at h)).keep hk, fun h => (J.a4 (by rwa [up_other L (by decide)] at h)).keep hk, fun _ => ⟨m, _, _, h3, h4, mapSet_same h5, h6.push hn hx hg⟩, fun h => by obtain ⟨e1, e2, e3, e4, e5, e6, e7, e8, e9, e10, e11, e12⟩ := J.m25 (by rwa [up_other L (by decide)] at h); exact ⟨e1, up_old _ e2, up_old _ e3, up_old _ e4, up_old _ e5, up_old _ e6, up_old _ e7, up_old _ e8, up_old _ e9, up_old _ e10, up_old _ e11, up_old _ e12⟩, fun h => J.m26 (by rwa [up_other L (by decide)] at h), fun h => J.m27 (by rwa [up_other L (by decide)] at h), fun h => up_old _ (J.m28 (by rwa [up_other L (by decide)] at h))⟩

theorem JT.s14 (J : JT t b W mv1 L u29 u30 u31 u43 u44 u45 w) (h0 : L 14 = false) (h1 : L 1 = true) : ∃ m es c, u29 = .map (some m) ∧ w.heap[m]? = some (.map es c) ∧ MapIs es (fT b L u30 u31) ∧ fT b L u30 u31 kHeader = none ∧ JT t b W mv1 (up L 14) u29 u30 u31 u43 u44 u45 (mapSet w m (.map (es.push ⟨.string (strA kHeader), .func (.func 163) #[] #[.pointer (some ⟨b + 1, 0, none⟩)], c⟩) (c + 1))) := by
  obtain ⟨m, es, c, h3, h4, h5, h6⟩ := J.mp h1
  have hn : fT b L u30 u31 kHeader = none := by unfold fT; rw [show whichL testNames kHeader = 6 from by decide]; simp only [h0]; rfl
  have hx : fT b (up L 14) u30 u31 kHeader = some (.func (.func 163) #[] #[.pointer (some ⟨b + 1, 0, none⟩)]) := by unfold fT; rw [show whichL testNames kHeader = 6 from by decide]; simp only [up_same]; rfl
  have hg : ∀ z, z ≠ kHeader → fT b (up L 14) u30 u31 z = fT b L u30 u31 z := fun z hz => by
    have hw : whichL testNames z ≠ 6 := fun e => hz (by have := whichL_get testNames z 5 e; simpa [testNames] using this.symm)
    unfold fT
    split <;> first | (rename_i e; exact absurd e hw) | simp only [up_other L (by decide)] | rfl
  have hmb : m ≠ b := by have := J.hb; omega
  have hk : ∀ k cs ty, W.heap.size ≤ k → w.heap[k]? = some (.cells cs ty) → (mapSet w m (.map (es.push ⟨.string (strA kHeader), .func (.func 163) #[] #[.pointer (some ⟨b + 1, 0, none⟩)], c⟩) (c + 1))).heap[k]? = some (.cells cs ty) := fun k cs ty _ h => by
    rw [mapSet_other (fun e => by rw [e, h5] at h; cases h)]; exact h
  have hkb : (mapSet w m (.map (es.push ⟨.string (strA kHeader), .func (.func 163) #[] #[.pointer (some ⟨b + 1, 0, none⟩)], c⟩) (c + 1))).heap[b]? = some (rdObj t mv1 (if L 28 then u43 else Value.map none)) := by rw [mapSet_other (Ne.symm hmb)]; exact J.rd
  refine ⟨m, es, c, h3, h5, h6, hn, ?_⟩
  exact ⟨J.hb, mod_mapSet J.mod h4, by rw [up_other L (by decide)]; exact hkb, fun h => up_old _ (J.cm3 (by rwa [up_other L (by decide)] at h)), fun h => up_old _ (J.cm5 (by rwa [up_other L (by decide)] at h)), fun h => up_old _ (J.cm8 (by rwa [up_other L (by decide)] at h)), fun h => up_old _ (J.cm10 (by rwa [up_other L (by decide)] at h)), fun h => up_old _ (J.cm12 (by rwa [up_other L (by decide)] at h)), fun _ => up_old _ h1, fun h => up_old _ (J.cm16 (by rwa [up_other L (by decide)] at h)), fun h => up_old _ (J.cm18 (by rwa [up_other L (by decide)] at h)), fun h => up_old _ (J.cm21 (by rwa [up_other L (by decide)] at h)), fun h => up_old _ (J.cm24 (by rwa [up_other L (by decide)] at h)), fun h => up_old _ (J.cv3 (by rwa [up_other L (by decide)] at h)), fun h => up_old _ (J.cv5 (by rwa [up_other L (by decide)] at h)), fun h => (J.a2 (by rwa [up_other L (by decide)] at h)).keep hk, fun h => (J.a4 (by rwa [up_other L (by decide)] at h)).keep hk, fun _ => ⟨m, _, _, h3, h4, mapSet_same h5, h6.push hn hx hg⟩, fun h => by obtain ⟨e1, e2, e3, e4, e5, e6, e7, e8, e9, e10, e11, e12⟩ := J.m25 (by rwa [up_other L (by decide)] at h); exact ⟨e1, up_old _ e2, up_old _ e3, up_old _ e4, up_old _ e5, up_old _ e6, up_old _ e7, up_old _ e8, up_old _ e9, up_old _ e10, up_old _ e11, up_old _ e12⟩, fun h => J.m26 (by rwa [up_other L (by decide)] at h), fun h => J.m27 (by rwa [up_other L (by decide)] at h), fun h => up_old _ (J.m28 (by rwa [up_other L (by decide)] at h))⟩

theorem JT.s16 (J : JT t b W mv1 L u29 u30 u31 u43 u44 u45 w) (h0 : L 16 = false) (h1 : L 1 = true) : ∃ m es c, u29 = .map (some m) ∧ w.heap[m]? = some (.map es c) ∧ MapIs es (fT b L u30 u31) ∧ fT b L u30 u31 kEnvelope = none ∧ JT t b W mv1 (up L 16) u29 u30 u31 u43 u44 u45 (mapSet w m (.map (es.push ⟨.string (strA kEnvelope), .func (.func 166) #[] #[.pointer (some ⟨b + 1, 0, none⟩)], c⟩) (c + 1))) := by
  obtain ⟨m, es, c, h3, h4, h5, h6⟩ := J.mp h1
  have hn : fT b L u30 u31 kEnvelope = none := by unfold fT; rw [show whichL testNames kEnvelope = 7 from by decide]; simp only [h0]; rfl
  have hx : fT b (up L 16) u30 u31 kEnvelope = some (.func (.func 166) #[] #[.pointer (some ⟨b + 1, 0, none⟩)]) := by unfold fT; rw [show whichL testNames kEnvelope = 7 from by decide]; simp only [up_same]; rfl
  have hg : ∀ z, z ≠ kEnvelope → fT b (up L 16) u30 u31 z = fT b L u30 u31 z := fun z hz => by
    have hw : whichL testNames z ≠ 7 := fun e => hz (by have := whichL_get testNames z 6 e; simpa [testNames] using this.symm)
    unfold fT
    split <;> first | (rename_i e; exact absurd e hw) | simp only [up_other L (by decide)] | rfl
  have hmb : m ≠ b := by have := J.hb; omega
  have hk : ∀ k cs ty, W.heap.size ≤ k → w.heap[k]? = some (.cells cs ty) → (mapSet w m (.map (es.push ⟨.string (strA kEnvelope), .func (.func 166) #[] #[.pointer (some ⟨b + 1, 0, none⟩)], c⟩) (c + 1))).heap[k]? = some (.cells cs ty) := fun k cs ty _ h => by
    rw [mapSet_other (fun e => by rw [e, h5] at h; cases h)]; exact h
  have hkb : (mapSet w m (.map (es.push ⟨.string (strA kEnvelope), .func (.func 166) #[] #[.pointer (some ⟨b + 1, 0, none⟩)], c⟩) (c + 1))).heap[b]? = some (rdObj t mv1 (if L 28 then u43 else Value.map none)) := by rw [mapSet_other (Ne.symm hmb)]; exact J.rd
  refine ⟨m, es, c, h3, h5, h6, hn, ?_⟩
  exact ⟨J.hb, mod_mapSet J.mod h4, by rw [up_other L (by decide)]; exact hkb, fun h => up_old _ (J.cm3 (by rwa [up_other L (by decide)] at h)), fun h => up_old _ (J.cm5 (by rwa [up_other L (by decide)] at h)), fun h => up_old _ (J.cm8 (by rwa [up_other L (by decide)] at h)), fun h => up_old _ (J.cm10 (by rwa [up_other L (by decide)] at h)), fun h => up_old _ (J.cm12 (by rwa [up_other L (by decide)] at h)), fun h => up_old _ (J.cm14 (by rwa [up_other L (by decide)] at h)), fun _ => up_old _ h1, fun h => up_old _ (J.cm18 (by rwa [up_other L (by decide)] at h)), fun h => up_old _ (J.cm21 (by rwa [up_other L (by decide)] at h)), fun h => up_old _ (J.cm24 (by rwa [up_other L (by decide)] at h)), fun h => up_old _ (J.cv3 (by rwa [up_other L (by decide)] at h)), fun h => up_old _ (J.cv5 (by rwa [up_other L (by decide)] at h)), fun h => (J.a2 (by rwa [up_other L (by decide)] at h)).keep hk, fun h => (J.a4 (by rwa [up_other L (by decide)] at h)).keep hk, fun _ => ⟨m, _, _, h3, h4, mapSet_same h5, h6.push hn hx hg⟩, fun h => by obtain ⟨e1, e2, e3, e4, e5, e6, e7, e8, e9, e10, e11, e12⟩ := J.m25 (by rwa [up_other L (by decide)] at h); exact ⟨e1, up_old _ e2, up_old _ e3, up_old _ e4, up_old _ e5, up_old _ e6, up_old _ e7, up_old _ e8, up_old _ e9, up_old _ e10, up_old _ e11, up_old _ e12⟩, fun h => J.m26 (by rwa [up_other L (by decide)] at h), fun h => J.m27 (by rwa [up_other L (by decide)] at h), fun h => up_old _ (J.m28 (by rwa [up_other L (by decide)] at h))⟩

theorem JT.s18 (J : JT t b W mv1 L u29 u30 u31 u43 u44 u45 w) (h0 : L 18 = false) (h1 : L 1 = true) : ∃ m es c, u29 = .map (some m) ∧ w.heap[m]? = some (.map es c) ∧ MapIs es (fT b L u30 u31) ∧ fT b L u30 u31 kString = none ∧ JT t b W mv1 (up L 18) u29 u30 u31 u43 u44 u45 (mapSet w m (.map (es.push ⟨.string (strA kString), .func (.func 169) #[] #[.pointer (some ⟨b + 1, 0, none⟩)], c⟩) (c + 1))) := by
  obtain ⟨m, es, c, h3, h4, h5, h6⟩ := J.mp h1
  have hn : fT b L u30 u31 kString = none := by unfold fT; rw [show whichL testNames kString = 8 from by decide]; simp only [h0]; rfl
  have hx : fT b (up L 18) u30 u31 kString = some (.func (.func 169) #[] #[.pointer (some ⟨b + 1, 0, none⟩)]) := by unfold fT; rw [show whichL testNames kString = 8 from by decide]; simp only [up_same]; rfl
  have hg : ∀ z, z ≠ kString → fT b (up L 18) u30 u31 z = fT b L u30 u31 z := fun z hz => by
    have hw : whichL testNames z ≠ 8 := fun e => hz (by have := whichL_get testNames z 7 e; simpa [testNames] using this.symm)
    unfold fT
    split <;> first | (rename_i e; exact absurd e hw) | simp only [up_other L (by decide)] | rfl
  have hmb : m ≠ b := by have := J.hb; omega
  have hk : ∀ k cs ty, W.heap.size ≤ k → w.heap[k]? = some (.cells cs ty) → (mapSet w m (.map (es.push ⟨.string (strA kString), .func (.func 169) #[] #[.pointer (some ⟨b + 1, 0, none⟩)], c⟩) (c + 1))).heap[k]? = some (.cells cs ty) := fun k cs ty _ h => by
    rw [mapSet_other (fun e => by rw [e, h5] at h; cases h)]; exact h
  have hkb : (mapSet w m (.map (es.push ⟨.string (strA kString), .func (.func 169) #[] #[.pointer (some ⟨b + 1, 0, none⟩)], c⟩) (c + 1))).heap[b]? = some (rdObj t mv1 (if L 28 then u43 else Value.map none)) := by rw [mapSet_other (Ne.symm hmb)]; exact J.rd
  refine ⟨m, es, c, h3, h5, h6, hn, ?_⟩
  exact ⟨J.hb, mod_mapSet J.mod h4, by rw [up_other L (by decide)]; exact hkb, fun h => up_old _ (J.cm3 (by rwa [up_other L (by decide)] at h)), fun h => up_old _ (J.cm5 (by rwa [up_other L (by decide)] at h)), fun h => up_old _ (J.cm8 (by rwa [up_other L (by decide)] at h)), fun h => up_old _ (J.cm10 (by rwa [up_other L (by decide)] at h)), fun h => up_old _ (J.cm12 (by rwa [up_other L (by decide)] at h)), fun h => up_old _ (J.cm14 (by rwa [up_other L (by decide)] at h)), fun h => up_old _ (J.cm16 (by rwa [up_other L (by decide)] at h)), fun _ => up_old _ h1, fun h => up_old _ (J.cm21 (by rwa [up_other L (by decide)] at h)), fun h => up_old _ (J.cm24 (by rwa [up_other L (by decide)] at h)), fun h => up_old _ (J.cv3 (by rwa [up_other L (by decide)] at h)), fun h => up_old _ (J.cv5 (by rwa [up_other L (by decide)] at h)), fun h => (J.a2 (by rwa [up_other L (by decide)] at h)).keep hk, fun h => (J.a4 (by rwa [up_other L (by decide)] at h)).keep hk, fun _ => ⟨m, _, _, h3, h4, mapSet_same h5, h6.push hn hx hg⟩, fun h => by obtain ⟨e1, e2, e3, e4, e5, e6, e7, e8, e9, e10, e11, e12⟩ := J.m25 (by rwa [up_other L (by decide)] at h); exact ⟨e1, up_old _ e2, up_old _ e3, up_old _ e4, up_old _ e5, up_old _ e6, up_old _ e7, up_old _ e8, up_old _ e9, up_old _ e10, up_old _ e11, up_old _ e12⟩, fun h => J.m26 (by rwa [up_other L (by decide)] at h), fun h => J.m27 (by rwa [up_other L (by decide)] at h), fun h => up_old _ (J.m28 (by rwa [up_other L (by decide)] at h))⟩

theorem JT.s21 (J : JT t b W mv1 L u29 u30 u31 u43 u44 u45 w) (h0 : L 21 = false) (h1 : L 1 = true) : ∃ m es c, u29 = .map (some m) ∧ w.heap[m]? = some (.map es c) ∧ MapIs es (fT b L u30 u31) ∧ fT b L u30 u31 kExists = none ∧ JT t b W mv1 (up L 21) u29 u30 u31 u43 u44 u45 (mapSet w m (.map (es.push ⟨.string (strA kExists), .func (.func 170) #[.pointer (some ⟨b, 0, none⟩)] #[], c⟩) (c + 1))) := by
  obtain ⟨m, es, c, h3, h4, h5, h6⟩ := J.mp h1
  have hn : fT b L u30 u31 kExists = none := by unfold fT; rw [show whichL testNames kExists = 9 from by decide]; simp only [h0]; rfl
  have hx : fT b (up L 21) u30 u31 kExists = some (.func (.func 170) #[.pointer (some ⟨b, 0, none⟩)] #[]) := by unfold fT; rw [show whichL testNames kExists = 9 from by decide]; simp only [up_same]; rfl
  have hg : ∀ z, z ≠ kExists → fT b (up L 21) u30 u31 z = fT b L u30 u31 z := fun z hz => by
    have hw : whichL testNames z ≠ 9 := fun e => hz (by have := whichL_get testNames z 8 e; simpa [testNames] using this.symm)
    unfold fT
    split <;> first | (rename_i e; exact absurd e hw) | simp only [up_other L (by decide)] | rfl
  have hmb : m ≠ b := by have := J.hb; omega
  have hk : ∀ k cs ty, W.heap.size ≤ k → w.heap[k]? = some (.cells cs ty) → (mapSet w m (.map (es.push ⟨.string (strA kExists), .func (.func 170) #[.pointer (some ⟨b, 0, none⟩)] #[], c⟩) (c + 1))).heap[k]? = some (.cells cs ty) := fun k cs ty _ h => by
    rw [mapSet_other (fun e => by rw [e, h5] at h; cases h)]; exact h
  have hkb : (mapSet w m (.map (es.push ⟨.string (strA kExists), .func (.func 170) #[.pointer (some ⟨b, 0, none⟩)] #[], c⟩) (c + 1))).heap[b]? = some (rdObj t mv1 (if L 28 then u43 else Value.map none)) := by rw [mapSet_other (Ne.symm hmb)]; exact J.rd
  refine ⟨m, es, c, h3, h5, h6, hn, ?_⟩
  exact ⟨J.hb, mod_mapSet J.mod h4, by rw [up_other L (by decide)]; exact hkb, fun h => up_old _ (J.cm3 (by rwa [up_other L (by decide)] at h)), fun h => up_old _ (J.cm5 (by rwa [up_other L (by decide)] at h)), fun h => up_old _ (J.cm8 (by rwa [up_other L (by decide)] at h)), fun h => up_old _ (J.cm10 (by rwa [up_other L (by decide)] at h)), fun h => up_old _ (J.cm12 (by rwa [up_other L (by decide)] at h)), fun h => up_old _ (J.cm14 (by rwa [up_other L (by decide)] at h)), fun h => up_old _ (J.cm16 (by rwa [up_other L (by decide)] at h)), fun h => up_old _ (J.cm18 (by rwa [up_other L (by decide)] at h)), fun _ => up_old _ h1, fun h => up_old _ (J.cm24 (by rwa [up_other L (by decide)] at h)), fun h => up_old _ (J.cv3 (by rwa [up_other L (by decide)] at h)), fun h => up_old _ (J.cv5 (by rwa [up_other L (by decide)] at h)), fun h => (J.a2 (by rwa [up_other L (by decide)] at h)).keep hk, fun h => (J.a4 (by rwa [up_other L (by decide)] at h)).keep hk, fun _ => ⟨m, _, _, h3, h4, mapSet_same h5, h6.push hn hx hg⟩, fun h => by obtain ⟨e1, e2, e3, e4, e5, e6, e7, e8, e9, e10, e11, e12⟩ := J.m25 (by rwa [up_other L (by decide)] at h); exact ⟨e1, up_old _ e2, up_old _ e3, up_old _ e4, up_old _ e5, up_old _ e6, up_old _ e7, up_old _ e8, up_old _ e9, up_old _ e10, up_old _ e11, up_old _ e12⟩, fun h => J.m26 (by rwa [up_other L (by decide)] at h), fun h => J.m27 (by rwa [up_other L (by decide)] at h), fun h => up_old _ (J.m28 (by rwa [up_other L (by decide)] at h))⟩

theorem JT.s24 (J : JT t b W mv1 L u29 u30 u31 u43 u44 u45 w) (h0 : L 24 = false) (h1 : L 1 = true) : ∃ m es c, u29 = .map (some m) ∧ w.heap[m]? = some (.map es c) ∧ MapIs es (fT b L u30 u31) ∧ fT b L u30 u31 kSize = none ∧ JT t b W mv1 (up L 24) u29 u30 u31 u43 u44 u45 (mapSet w m (.map (es.push ⟨.string (strA kSize), .func (.func 171) #[.pointer (some ⟨b, 0, none⟩)] #[], c⟩) (c + 1))) := by
  obtain ⟨m, es, c, h3, h4, h5, h6⟩ := J.mp h1
  have hn : fT b L u30 u31 kSize = none := by unfold fT; rw [show whichL testNames kSize = 10 from by decide]; simp only [h0]; rfl
  have hx : fT b (up L 24) u30 u31 kSize = some (.func (.func 171) #[.pointer (some ⟨b, 0, none⟩)] #[]) := by unfold fT; rw [show whichL testNames kSize = 10 from by decide]; simp only [up_same]; rfl
  have hg : ∀ z, z ≠ kSize → fT b (up L 24) u30 u31 z = fT b L u30 u31 z := fun z hz => by
    have hw : whichL testNames z ≠ 10 := fun e => hz (by have := whichL_get testNames z 9 e; simpa [testNames] using this.symm)
    unfold fT
    split <;> first | (rename_i e; exact absurd e hw) | simp only [up_other L (by decide)] | rfl
  have hmb : m ≠ b := by have := J.hb; omega
  have hk : ∀ k cs ty, W.heap.size ≤ k → w.heap[k]? = some (.cells cs ty) → (mapSet w m (.map (es.push ⟨.string (strA kSize), .func (.func 171) #[.pointer (some ⟨b, 0, none⟩)] #[], c⟩) (c + 1))).heap[k]? = some (.cells cs ty) := fun k cs ty _ h => by
    rw [mapSet_other (fun e => by rw [e, h5] at h; cases h)]; exact h
  have hkb : (mapSet w m (.map (es.push ⟨.string (strA kSize), .func (.func 171) #[.pointer (some ⟨b, 0, none⟩)] #[], c⟩) (c + 1))).heap[b]? = some (rdObj t mv1 (if L 28 then u43 else Value.map none)) := by rw [mapSet_other (Ne.symm hmb)]; exact J.rd
  refine ⟨m, es, c, h3, h5, h6, hn, ?_⟩
  exact ⟨J.hb, mod_mapSet J.mod h4, by rw [up_other L (by decide)]; exact hkb, fun h => up_old _ (J.cm3 (by rwa [up_other L (by decide)] at h)), fun h => up_old _ (J.cm5 (by rwa [up_other L (by decide)] at h)), fun h => up_old _ (J.cm8 (by rwa [up_other L (by decide)] at h)), fun h => up_old _ (J.cm10 (by rwa [up_other L (by decide)] at h)), fun h => up_old _ (J.cm12 (by rwa [up_other L (by decide)] at h)), fun h => up_old _ (J.cm14 (by rwa [up_other L (by decide)] at h)), fun h => up_old _ (J.cm16 (by rwa [up_other L (by decide)] at h)), fun h => up_old _ (J.cm18 (by rwa [up_other L (by decide)] at h)), fun h => up_old _ (J.cm21 (by rwa [up_other L (by decide)] at h)), fun _ => up_old _ h1, fun h => up_old _ (J.cv3 (by rwa [up_other L (by decide)] at h)), fun h => up_old _ (J.cv5 (by rwa [up_other L (by decide)] at h)), fun h => (J.a2 (by rwa [up_other L (by decide)] at h)).keep hk, fun h => (J.a4 (by rwa [up_other L (by decide)] at h)).keep hk, fun _ => ⟨m, _, _, h3, h4, mapSet_same h5, h6.push hn hx hg⟩, fun h => by obtain ⟨e1, e2, e3, e4, e5, e6, e7, e8, e9, e10, e11, e12⟩ := J.m25 (by rwa [up_other L (by decide)] at h); exact ⟨e1, up_old _ e2, up_old _ e3, up_old _ e4, up_old _ e5, up_old _ e6, up_old _ e7, up_old _ e8, up_old _ e9, up_old _ e10, up_old _ e11, up_old _ e12⟩, fun h => J.m26 (by rwa [up_other L (by decide)] at h), fun h => J.m27 (by rwa [up_other L (by decide)] at h), fun h => up_old _ (J.m28 (by rwa [up_other L (by decide)] at h))⟩

theorem JT.s25 (J : JT t b W mv1 L u29 u30 u31 u43 u44 u45 w) (h0 : L 25 = false) (h1 : L 1 = true) (hi3 : L 3 = true) (hi5 : L 5 = true) (hi8 : L 8 = true) (hi10 : L 10 = true) (hi12 : L 12 = true) (hi14 : L 14 = true) (hi16 : L 16 = true) (hi18 : L 18 = true) (hi21 : L 21 = true) (hi24 : L 24 = true) : JT t b W mv1 (up L 25) u29 u30 u31 u29 u44 u45 w := by
  have n28 : L 28 = false := by cases hh : L 28 with | false => rfl | true => exact absurd (J.m28 hh) (by rw [h0]; decide)
  have hk : ∀ k cs ty, W.heap.size ≤ k → w.heap[k]? = some (.cells cs ty) → w.heap[k]? = some (.cells cs ty) := fun k cs ty _ h => h
  have hkm : ∀ (m : Nat) (es : Array MapEntry) (c : Nat), w.heap[m]? = some (Obj.map es c) → w.heap[m]? = some (Obj.map es c) := fun m es c h => h
  exact ⟨J.hb, J.mod, by have := J.rd; rw [n28] at this; rw [up_other L (by decide), n28]; exact this, fun h => up_old _ (J.cm3 (by rwa [up_other L (by decide)] at h)), fun h => up_old _ (J.cm5 (by rwa [up_other L (by decide)] at h)), fun h => up_old _ (J.cm8 (by rwa [up_other L (by decide)] at h)), fun h => up_old _ (J.cm10 (by rwa [up_other L (by decide)] at h)), fun h => up_old _ (J.cm12 (by rwa [up_other L (by decide)] at h)), fun h => up_old _ (J.cm14 (by rwa [up_other L (by decide)] at h)), fun h => up_old _ (J.cm16 (by rwa [up_other L (by decide)] at h)), fun h => up_old _ (J.cm18 (by rwa [up_other L (by decide)] at h)), fun h => up_old _ (J.cm21 (by rwa [up_other L (by decide)] at h)), fun h => up_old _ (J.cm24 (by rwa [up_other L (by decide)] at h)), fun h => up_old _ (J.cv3 (by rwa [up_other L (by decide)] at h)), fun h => up_old _ (J.cv5 (by rwa [up_other L (by decide)] at h)), fun h => (J.a2 (by rwa [up_other L (by decide)] at h)).keep hk, fun h => (J.a4 (by rwa [up_other L (by decide)] at h)).keep hk, fun h => by obtain ⟨m, es, c, h3, h4, h5, h6⟩ := J.mp (by rwa [up_other L (by decide)] at h); exact ⟨m, es, c, h3, h4, hkm m _ _ h5, h6.congr (fun x => (fT_up 25 (by decide) x).symm)⟩, fun _ => ⟨rfl, up_old _ h1, up_old _ hi3, up_old _ hi5, up_old _ hi8, up_old _ hi10, up_old _ hi12, up_old _ hi14, up_old _ hi16, up_old _ hi18, up_old _ hi21, up_old _ hi24⟩, fun h => J.m26 (by rwa [up_other L (by decide)] at h), fun h => J.m27 (by rwa [up_other L (by decide)] at h), fun h => up_old _ (J.m28 (by rwa [up_other L (by decide)] at h))⟩

theorem JT.s26 (J : JT t b W mv1 L u29 u30 u31 u43 u44 u45 w) (h0 : L 26 = false) : JT t b W mv1 (up L 26) u29 u30 u31 u43 (.pointer (some ⟨b, 0, none⟩)) u45 w := by
  have hk : ∀ k cs ty, W.heap.size ≤ k → w.heap[k]? = some (.cells cs ty) → w.heap[k]? = some (.cells cs ty) := fun k cs ty _ h => h
  have hkm : ∀ (m : Nat) (es : Array MapEntry) (c : Nat), w.heap[m]? = some (Obj.map es c) → w.heap[m]? = some (Obj.map es c) := fun m es c h => h
  exact ⟨J.hb, J.mod, by rw [up_other L (by decide)]; exact J.rd, fun h => up_old _ (J.cm3 (by rwa [up_other L (by decide)] at h)), fun h => up_old _ (J.cm5 (by rwa [up_other L (by decide)] at h)), fun h => up_old _ (J.cm8 (by rwa [up_other L (by decide)] at h)), fun h => up_old _ (J.cm10 (by rwa [up_other L (by decide)] at h)), fun h => up_old _ (J.cm12 (by rwa [up_other L (by decide)] at h)), fun h => up_old _ (J.cm14 (by rwa [up_other L (by decide)] at h)), fun h => up_old _ (J.cm16 (by rwa [up_other L (by decide)] at h)), fun h => up_old _ (J.cm18 (by rwa [up_other L (by decide)] at h)), fun h => up_old _ (J.cm21 (by rwa [up_other L (by decide)] at h)), fun h => up_old _ (J.cm24 (by rwa [up_other L (by decide)] at h)), fun h => up_old _ (J.cv3 (by rwa [up_other L (by decide)] at h)), fun h => up_old _ (J.cv5 (by rwa [up_other L (by decide)] at h)), fun h => (J.a2 (by rwa [up_other L (by decide)] at h)).keep hk, fun h => (J.a4 (by rwa [up_other L (by decide)] at h)).keep hk, fun h => by obtain ⟨m, es, c, h3, h4, h5, h6⟩ := J.mp (by rwa [up_other L (by decide)] at h); exact ⟨m, es, c, h3, h4, hkm m _ _ h5, h6.congr (fun x => (fT_up 26 (by decide) x).symm)⟩, fun h => by obtain ⟨e1, e2, e3, e4, e5, e6, e7, e8, e9, e10, e11, e12⟩ := J.m25 (by rwa [up_other L (by decide)] at h); exact ⟨e1, up_old _ e2, up_old _ e3, up_old _ e4, up_old _ e5, up_old _ e6, up_old _ e7, up_old _ e8, up_old _ e9, up_old _ e10, up_old _ e11, up_old _ e12⟩, fun _ => rfl, fun h => J.m27 (by rwa [up_other L (by decide)] at h), fun h => up_old _ (J.m28 (by rwa [up_other L (by decide)] at h))⟩

theorem JT.s27 (J : JT t b W mv1 L u29 u30 u31 u43 u44 u45 w) (h0 : L 27 = false) : JT t b W mv1 (up L 27) u29 u30 u31 u43 u44 (.pointer (some ⟨b, 9, none⟩)) w := by
  have hk : ∀ k cs ty, W.heap.size ≤ k → w.heap[k]? = some (.cells cs ty) → w.heap[k]? = some (.cells cs ty) := fun k cs ty _ h => h
  have hkm : ∀ (m : Nat) (es : Array MapEntry) (c : Nat), w.heap[m]? = some (Obj.map es c) → w.heap[m]? = some (Obj.map es c) := fun m es c h => h
  exact ⟨J.hb, J.mod, by rw [up_other L (by decide)]; exact J.rd, fun h => up_old _ (J.cm3 (by rwa [up_other L (by decide)] at h)), fun h => up_old _ (J.cm5 (by rwa [up_other L (by decide)] at h)), fun h => up_old _ (J.cm8 (by rwa [up_other L (by decide)] at h)), fun h => up_old _ (J.cm10 (by rwa [up_other L (by decide)] at h)), fun h => up_old _ (J.cm12 (by rwa [up_other L (by decide)] at h)), fun h => up_old _ (J.cm14 (by rwa [up_other L (by decide)] at h)), fun h => up_old _ (J.cm16 (by rwa [up_other L (by decide)] at h)), fun h => up_old _ (J.cm18 (by rwa [up_other L (by decide)] at h)), fun h => up_old _ (J.cm21 (by rwa [up_other L (by decide)] at h)), fun h => up_old _ (J.cm24 (by rwa [up_other L (by decide)] at h)), fun h => up_old _ (J.cv3 (by rwa [up_other L (by decide)] at h)), fun h => up_old _ (J.cv5 (by rwa [up_other L (by decide)] at h)), fun h => (J.a2 (by rwa [up_other L (by decide)] at h)).keep hk, fun h => (J.a4 (by rwa [up_other L (by decide)] at h)).keep hk, fun h => by obtain ⟨m, es, c, h3, h4, h5, h6⟩ := J.mp (by rwa [up_other L (by decide)] at h); exact ⟨m, es, c, h3, h4, hkm m _ _ h5, h6.congr (fun x => (fT_up 27 (by decide) x).symm)⟩, fun h => by obtain ⟨e1, e2, e3, e4, e5, e6, e7, e8, e9, e10, e11, e12⟩ := J.m25 (by rwa [up_other L (by decide)] at h); exact ⟨e1, up_old _ e2, up_old _ e3, up_old _ e4, up_old _ e5, up_old _ e6, up_old _ e7, up_old _ e8, up_old _ e9, up_old _ e10, up_old _ e11, up_old _ e12⟩, fun h => J.m26 (by rwa [up_other L (by decide)] at h), fun _ => rfl, fun h => up_old _ (J.m28 (by rwa [up_other L (by decide)] at h))⟩

theorem JT.s28 (J : JT t b W mv1 L u29 u30 u31 u43 u44 u45 w) (h0 : L 28 = false) (h25 : L 25 = true) : JT t b W mv1 (up L 28) u29 u30 u31 u43 u44 u45 (w.setCell ⟨b, 9, none⟩ u43) := by
  have hb := J.hb
  have hk : ∀ k cs ty, W.heap.size ≤ k → w.heap[k]? = some (.cells cs ty) → (w.setCell ⟨b, 9, none⟩ u43).heap[k]? = some (.cells cs ty) := fun k cs ty hk h => by rw [Below.heap_setCell _ _ _ _ (show k ≠ b by omega)]; exact h
  have hkm : ∀ (m : Nat) (es : Array MapEntry) (c : Nat), w.heap[m]? = some (Obj.map es c) → (w.setCell ⟨b, 9, none⟩ u43).heap[m]? = some (Obj.map es c) := fun m es c h => by
    have hr := J.rd
    rw [Below.heap_setCell _ _ _ _ (show m ≠ b from fun e => by rw [e, hr] at h; cases h)]; exact h
  exact ⟨J.hb, J.mod.setCell 9 u43, by rw [up_same]; exact heap_setCell_at _ _ _ _ _ _ J.rd, fun h => up_old _ (J.cm3 (by rwa [up_other L (by decide)] at h)), fun h => up_old _ (J.cm5 (by rwa [up_other L (by decide)] at h)), fun h => up_old _ (J.cm8 (by rwa [up_other L (by decide)] at h)), fun h => up_old _ (J.cm10 (by rwa [up_other L (by decide)] at h)), fun h => up_old _ (J.cm12 (by rwa [up_other L (by decide)] at h)), fun h => up_old _ (J.cm14 (by rwa [up_other L (by decide)] at h)), fun h => up_old _ (J.cm16 (by rwa [up_other L (by decide)] at h)), fun h => up_old _ (J.cm18 (by rwa [up_other L (by decide)] at h)), fun h => up_old _ (J.cm21 (by rwa [up_other L (by decide)] at h)), fun h => up_old _ (J.cm24 (by rwa [up_other L (by decide)] at h)), fun h => up_old _ (J.cv3 (by rwa [up_other L (by decide)] at h)), fun h => up_old _ (J.cv5 (by rwa [up_other L (by decide)] at h)), fun h => (J.a2 (by rwa [up_other L (by decide)] at h)).keep hk, fun h => (J.a4 (by rwa [up_other L (by decide)] at h)).keep hk, fun h => by obtain ⟨m, es, c, h3, h4, h5, h6⟩ := J.mp (by rwa [up_other L (by decide)] at h); exact ⟨m, es, c, h3, h4, hkm m _ _ h5, h6.congr (fun x => (fT_up 28 (by decide) x).symm)⟩, fun h => by obtain ⟨e1, e2, e3, e4, e5, e6, e7, e8, e9, e10, e11, e12⟩ := J.m25 (by rwa [up_other L (by decide)] at h); exact ⟨e1, up_old _ e2, up_old _ e3, up_old _ e4, up_old _ e5, up_old _ e6, up_old _ e7, up_old _ e8, up_old _ e9, up_old _ e10, up_old _ e11, up_old _ e12⟩, fun h => J.m26 (by rwa [up_other L (by decide)] at h), fun h => J.m27 (by rwa [up_other L (by decide)] at h), fun _ => up_old _ h25⟩

/-- When all have come up the map is laid. -/
theorem JT.done (J : JT t b W mv1 L u29 u30 u31 u43 u44 u45 w) (hall : ∀ i, i < 29 → L i = true) (hpr : PrAt W (b + 1) b) : ∃ m pt pf, w.heap[b]? = some (rdObj t mv1 (.map (some m))) ∧ TMap w b m (b + 1) pt pf ∧ Mod b W w ∧ W.heap.size ≤ m := by
  obtain ⟨m, es, c, h3, h4, h5, h6⟩ := J.mp (hall 1 (by decide))
  obtain ⟨pt, e1, hp1, hp1'⟩ := J.a2 (hall 2 (by decide))
  obtain ⟨pf, e2, hp2, hp2'⟩ := J.a4 (hall 4 (by decide))
  have hb := J.hb
  have hr := J.rd
  rw [hall 28 (by decide), if_pos rfl, (J.m25 (hall 25 (by decide))).1, h3] at hr
  have hf : MapIs es (testFn b (b + 1) pt pf) := h6.congr (fun x => by
    subst e1 e2
    unfold fT testFn
    simp only [hall 3 (by decide), hall 5 (by decide), hall 8 (by decide), hall 10 (by decide), hall 12 (by decide), hall 14 (by decide), hall 16 (by decide), hall 18 (by decide), hall 21 (by decide), hall 24 (by decide), if_true]
    generalize whichL testNames x = i
    match i with
    | 0 | 1 | 2 | 3 | 4 | 5 | 6 | 7 | 8 | 9 | 10 => rfl
    | n + 11 => rfl)
  exact ⟨m, pt, pf, hr, ⟨lookOk_of (K := 9) (E := 263) Tryz.underlying258 Tryz.underlying9 zeroFnT h5 hf, hpr.mod J.mod, blk_cell hp1' 0, blk_cell hp2' 0, by omega, by omega, by omega, blk_lt h5⟩, J.mod, h4⟩

end
end Go.Proofs.YtbiclelojbfnbaaGreatDoor

namespace Go.Proofs.YtbiclelojbfnbaaGreatDoor
open Go.RowKit
set_option linter.unusedVariables false
set_option linter.unusedSimpArgs false
attribute [local go_sem ↓] Go.wp_at_zero Go.wp_at_succ

theorem getD_up {l : Array Bool} {i : Nat} (h : i < l.size) : (fun j => (l.setIfInBounds i true).getD j false) = up (fun j => l.getD j false) i := by
  funext j
  unfold up
  by_cases e : j = i
  · subst e; simp [h]
  · rw [if_neg e]; exact getD_set_ne false (Ne.symm e)

/-- The temporaries of newReader while the map of commands is laid. -/
def tmC (t : ByteArray) (b : Nat) (u8 u16 u18 u20 u25 u26 u27 : Value) : Act :=
  { tmps := #[.string t, undef, .pointer none, .pointer (some ⟨b + 1, 0, none⟩), .string t, .agg #[.string t, .int .i64 0, .int .i64 0, .string ⟨#[]⟩, .string ⟨#[]⟩, .int .i64 0, .int .i64 0, .slice none 0 0, .map none, .map none], (.pointer (some ⟨b, 0, none⟩)), (.pointer (some ⟨b, 0, none⟩)), u8, (.pointer (some ⟨b, 0, none⟩)), (.func (.func 152) #[.pointer (some ⟨b, 0, none⟩)] #[]), (.pointer (some ⟨b, 0, none⟩)), (.func (.func 153) #[.pointer (some ⟨b, 0, none⟩)] #[]), (.pointer (some ⟨b, 0, none⟩)), (.func (.func 154) #[.pointer (some ⟨b, 0, none⟩)] #[]), (.pointer (some ⟨b, 0, none⟩)), u16, (.pointer (some ⟨b, 0, none⟩)), u18, (.pointer (some ⟨b, 0, none⟩)), u20, (.pointer (some ⟨b, 0, none⟩)), (.func (.func 156) #[.pointer (some ⟨b, 0, none⟩)] #[]), (.pointer (some ⟨b, 0, none⟩)), (.func (.func 157) #[.pointer (some ⟨b, 0, none⟩)] #[]), u25, u26, u27, undef, undef, undef, undef, undef, undef, undef, undef, undef, undef, undef, undef, undef, undef, undef, undef, undef, undef, undef], defers := [] }
/-- What is known at each point of it. -/
def JJC (t : ByteArray) (b : Nat) (W : World) (l : Array Bool) (a : Act) (w : World) : Prop :=
  l.size = 30 ∧ (∀ i ∈ [0, 2, 3, 5, 6, 8, 9, 11, 14, 17, 20, 21, 23, 24], l.getD i false = true) ∧ ∃ u8 u16 u18 u20 u25 u26 u27, a = tmC t b u8 u16 u18 u20 u25 u26 u27 ∧ JC t b W (.map none) (fun j => l.getD j false) u8 u16 u18 u20 u25 u26 u27 w
theorem JJC.next {t : ByteArray} {b : Nat} {W : World} {l : Array Bool} {i : Nat} {u8 u16 u18 u20 u25 u26 u27 : Value} {w : World} (hl : l.size = 30) (ht : ∀ i ∈ [0, 2, 3, 5, 6, 8, 9, 11, 14, 17, 20, 21, 23, 24], l.getD i false = true) (hi : i < 30) (J : JC t b W (.map none) (up (fun j => l.getD j false) i) u8 u16 u18 u20 u25 u26 u27 w) : JJC t b W (l.setIfInBounds i true) (tmC t b u8 u16 u18 u20 u25 u26 u27) w :=
  ⟨by simp [hl], fun k hk => getD_set_true (ht k hk), u8, u16, u18, u20, u25, u26, u27, rfl, by rw [getD_up (by omega)]; exact J⟩

/-- What newReader leaves: a reader in a new block, with its maps. -/
def NRPost (t : ByteArray) (w : World) (e : Ending) (w' : World) : Prop := ∃ mc mt pr pt pf p1 k1 p2 k2 p3 k3, e = .returned (.pointer (some ⟨w.heap.size, 0, none⟩)) ∧ RC w' w.heap.size t ps0 (.slice none 0 0) mc mt ∧ TMap w' w.heap.size mt pr pt pf ∧ CMap w' w.heap.size mc p1 k1 p2 k2 p3 k3 ∧ Below w.heap.size w w'
/-- The temporaries of newReader while the map of tests is laid. -/
def tmT (t : ByteArray) (b : Nat) (u8 u16 u18 u20 u25 u26 u27 u29 u30 u31 u43 u44 u45 : Value) : Act :=
  { tmps := #[.string t, undef, .pointer none, .pointer (some ⟨b + 1, 0, none⟩), .string t, .agg #[.string t, .int .i64 0, .int .i64 0, .string ⟨#[]⟩, .string ⟨#[]⟩, .int .i64 0, .int .i64 0, .slice none 0 0, .map none, .map none], (.pointer (some ⟨b, 0, none⟩)), (.pointer (some ⟨b, 0, none⟩)), u8, (.pointer (some ⟨b, 0, none⟩)), (.func (.func 152) #[.pointer (some ⟨b, 0, none⟩)] #[]), (.pointer (some ⟨b, 0, none⟩)), (.func (.func 153) #[.pointer (some ⟨b, 0, none⟩)] #[]), (.pointer (some ⟨b, 0, none⟩)), (.func (.func 154) #[.pointer (some ⟨b, 0, none⟩)] #[]), (.pointer (some ⟨b, 0, none⟩)), u16, (.pointer (some ⟨b, 0, none⟩)), u18, (.pointer (some ⟨b, 0, none⟩)), u20, (.pointer (some ⟨b, 0, none⟩)), (.func (.func 156) #[.pointer (some ⟨b, 0, none⟩)] #[]), (.pointer (some ⟨b, 0, none⟩)), (.func (.func 157) #[.pointer (some ⟨b, 0, none⟩)] #[]), u25, u26, u27, (.pointer (some ⟨b, 0, none⟩)), u29, u30, u31, (.pointer (some ⟨b, 0, none⟩)), (.func (.func 159) #[.pointer (some ⟨b, 0, none⟩)] #[]), (.func (.func 160) #[] #[.pointer (some ⟨b + 1, 0, none⟩)]), (.func (.func 162) #[] #[.pointer (some ⟨b + 1, 0, none⟩)]), (.func (.func 163) #[] #[.pointer (some ⟨b + 1, 0, none⟩)]), (.func (.func 166) #[] #[.pointer (some ⟨b + 1, 0, none⟩)]), (.func (.func 169) #[] #[.pointer (some ⟨b + 1, 0, none⟩)]), (.pointer (some ⟨b, 0, none⟩)), (.func (.func 170) #[.pointer (some ⟨b, 0, none⟩)] #[]), (.pointer (some ⟨b, 0, none⟩)), (.func (.func 171) #[.pointer (some ⟨b, 0, none⟩)] #[]), u43, u44, u45, undef], defers := [] }
def JJT (t : ByteArray) (b : Nat) (W : World) (mv1 : Value) (u8 u16 u18 u20 u25 u26 u27 : Value) (l : Array Bool) (a : Act) (w : World) : Prop :=
  l.size = 29 ∧ (∀ i ∈ [0, 6, 7, 9, 11, 13, 15, 17, 19, 20, 22, 23], l.getD i false = true) ∧ ∃ u29 u30 u31 u43 u44 u45, a = tmT t b u8 u16 u18 u20 u25 u26 u27 u29 u30 u31 u43 u44 u45 ∧ JT t b W mv1 (fun j => l.getD j false) u29 u30 u31 u43 u44 u45 w
theorem JJT.next {t : ByteArray} {b : Nat} {W : World} {mv1 : Value} {l : Array Bool} {i : Nat} {u8 u16 u18 u20 u25 u26 u27 u29 u30 u31 u43 u44 u45 : Value} {w : World} (hl : l.size = 29) (ht : ∀ i ∈ [0, 6, 7, 9, 11, 13, 15, 17, 19, 20, 22, 23], l.getD i false = true) (hi : i < 29) (J : JT t b W mv1 (up (fun j => l.getD j false) i) u29 u30 u31 u43 u44 u45 w) : JJT t b W mv1 u8 u16 u18 u20 u25 u26 u27 (l.setIfInBounds i true) (tmT t b u8 u16 u18 u20 u25 u26 u27 u29 u30 u31 u43 u44 u45) w :=
  ⟨by simp [hl], fun k hk => getD_set_true (ht k hk), u29, u30, u31, u43, u44, u45, rfl, by rw [getD_up (by omega)]; exact J⟩
theorem below_of_mod {w w' : World} {o o' : Obj} (h : Mod w.heap.size ((w.alloc o).alloc o') w') : Below w.heap.size w w' :=
  ⟨h.os, h.tape, h.output, by have := h.size; simp at this; omega, fun k hk => by
    rw [h.block k (by simp; omega) (by omega), Below.heap_alloc _ _ _ (by simp; omega), Below.heap_alloc _ _ _ hk]⟩

set_option maxRecDepth 100000 in
set_option maxHeartbeats 16000000 in
theorem newReader_any (t : ByteArray) (w : World) (ht : t.size ≤ 600) (hm1 : ∃ m, w.cell? ⟨1, 0, none⟩ = some (.int .i64 m)) :
    Calls Tryz.prog 104 #[.string t] w (NRPost t w) := by
  have hmf : ∀ (fn : Fn) (first cap : Array Value) (w : World), (Instr.makeFunc fn first cap).run Tryz.prog w = .ok (.func fn first cap) w := fun _ _ _ _ => rfl
  go_enter Tryz.func104, Tryz.ntmps104
  go_wp2_with fail
  refine wp_region_held (S := fun w' => w'.cell? ⟨w.heap.size + 1, 0, none⟩ = some (.pointer (some ⟨w.heap.size, 0, none⟩))) (by kernel_rfl) ?_
  have hS : ({ ((w.alloc (rdObj t (.map none) (.map none))).alloc (.cells #[.pointer (some ⟨w.heap.size, 0, none⟩)] 182)) with drawn := ((w.alloc (rdObj t (.map none) (.map none))).alloc (.cells #[.pointer (some ⟨w.heap.size, 0, none⟩)] 182)).drawn + 1 } : World).cell? ⟨w.heap.size + 1, 0, none⟩ = some (.pointer (some ⟨w.heap.size, 0, none⟩)) := blk_cell (blk_newAt (by simp)) 0
  refine wpAnyH_take (i := 0) (v := .pointer (some ⟨w.heap.size, 0, none⟩)) rfl (by kernel_rfl) (by kernel_rfl) (by kernel_rfl) (fun _ _ _ h => h) (Or.inl ⟨by rfl, ?_⟩) hS ?_
  · intro w' hSw; (try dsimp only at hSw); go_simp
  change wpAnyH _ _ _ _ _ _ _ (Act.put _ (some 7) _) _
  simp only [Act.put, List.setIfInBounds_toArray, List.set_cons_zero, List.set_cons_succ]
  refine wpAnyH_take (i := 2) (v := .pointer (some ⟨w.heap.size, 0, none⟩)) rfl (by kernel_rfl) (by kernel_rfl) (by kernel_rfl) (fun _ _ _ h => h) (Or.inl ⟨by rfl, ?_⟩) hS ?_
  · intro w' hSw; (try dsimp only at hSw); go_simp
  change wpAnyH _ _ _ _ _ _ _ (Act.put _ (some 9) _) _
  simp only [Act.put, List.setIfInBounds_toArray, List.set_cons_zero, List.set_cons_succ]
  refine wpAnyH_take (i := 3) (v := .func (.func 152) #[.pointer (some ⟨w.heap.size, 0, none⟩)] #[]) rfl (by kernel_rfl) (by kernel_rfl) (by kernel_rfl) (fun _ _ _ h => h) (Or.inl ⟨by rfl, ?_⟩) hS ?_
  · intro w' hSw; (try dsimp only at hSw); go_simp
  change wpAnyH _ _ _ _ _ _ _ (Act.put _ (some 10) _) _
  simp only [Act.put, List.setIfInBounds_toArray, List.set_cons_zero, List.set_cons_succ]
  refine wpAnyH_take (i := 5) (v := .pointer (some ⟨w.heap.size, 0, none⟩)) rfl (by kernel_rfl) (by kernel_rfl) (by kernel_rfl) (fun _ _ _ h => h) (Or.inl ⟨by rfl, ?_⟩) hS ?_
  · intro w' hSw; (try dsimp only at hSw); go_simp
  change wpAnyH _ _ _ _ _ _ _ (Act.put _ (some 11) _) _
  simp only [Act.put, List.setIfInBounds_toArray, List.set_cons_zero, List.set_cons_succ]
  refine wpAnyH_take (i := 6) (v := .func (.func 153) #[.pointer (some ⟨w.heap.size, 0, none⟩)] #[]) rfl (by kernel_rfl) (by kernel_rfl) (by kernel_rfl) (fun _ _ _ h => h) (Or.inl ⟨by rfl, ?_⟩) hS ?_
  · intro w' hSw; (try dsimp only at hSw); go_simp
  change wpAnyH _ _ _ _ _ _ _ (Act.put _ (some 12) _) _
  simp only [Act.put, List.setIfInBounds_toArray, List.set_cons_zero, List.set_cons_succ]
  refine wpAnyH_take (i := 8) (v := .pointer (some ⟨w.heap.size, 0, none⟩)) rfl (by kernel_rfl) (by kernel_rfl) (by kernel_rfl) (fun _ _ _ h => h) (Or.inl ⟨by rfl, ?_⟩) hS ?_
  · intro w' hSw; (try dsimp only at hSw); go_simp
  change wpAnyH _ _ _ _ _ _ _ (Act.put _ (some 13) _) _
  simp only [Act.put, List.setIfInBounds_toArray, List.set_cons_zero, List.set_cons_succ]
  refine wpAnyH_take (i := 9) (v := .func (.func 154) #[.pointer (some ⟨w.heap.size, 0, none⟩)] #[]) rfl (by kernel_rfl) (by kernel_rfl) (by kernel_rfl) (fun _ _ _ h => h) (Or.inl ⟨by rfl, ?_⟩) hS ?_
  · intro w' hSw; (try dsimp only at hSw); go_simp
  change wpAnyH _ _ _ _ _ _ _ (Act.put _ (some 14) _) _
  simp only [Act.put, List.setIfInBounds_toArray, List.set_cons_zero, List.set_cons_succ]
  refine wpAnyH_take (i := 11) (v := .pointer (some ⟨w.heap.size, 0, none⟩)) rfl (by kernel_rfl) (by kernel_rfl) (by kernel_rfl) (fun _ _ _ h => h) (Or.inl ⟨by rfl, ?_⟩) hS ?_
  · intro w' hSw; (try dsimp only at hSw); go_simp
  change wpAnyH _ _ _ _ _ _ _ (Act.put _ (some 15) _) _
  simp only [Act.put, List.setIfInBounds_toArray, List.set_cons_zero, List.set_cons_succ]
  refine wpAnyH_take (i := 14) (v := .pointer (some ⟨w.heap.size, 0, none⟩)) rfl (by kernel_rfl) (by kernel_rfl) (by kernel_rfl) (fun _ _ _ h => h) (Or.inl ⟨by rfl, ?_⟩) hS ?_
  · intro w' hSw; (try dsimp only at hSw); go_simp
  change wpAnyH _ _ _ _ _ _ _ (Act.put _ (some 17) _) _
  simp only [Act.put, List.setIfInBounds_toArray, List.set_cons_zero, List.set_cons_succ]
  refine wpAnyH_take (i := 17) (v := .pointer (some ⟨w.heap.size, 0, none⟩)) rfl (by kernel_rfl) (by kernel_rfl) (by kernel_rfl) (fun _ _ _ h => h) (Or.inl ⟨by rfl, ?_⟩) hS ?_
  · intro w' hSw; (try dsimp only at hSw); go_simp
  change wpAnyH _ _ _ _ _ _ _ (Act.put _ (some 19) _) _
  simp only [Act.put, List.setIfInBounds_toArray, List.set_cons_zero, List.set_cons_succ]
  refine wpAnyH_take (i := 20) (v := .pointer (some ⟨w.heap.size, 0, none⟩)) rfl (by kernel_rfl) (by kernel_rfl) (by kernel_rfl) (fun _ _ _ h => h) (Or.inl ⟨by rfl, ?_⟩) hS ?_
  · intro w' hSw; (try dsimp only at hSw); go_simp
  change wpAnyH _ _ _ _ _ _ _ (Act.put _ (some 21) _) _
  simp only [Act.put, List.setIfInBounds_toArray, List.set_cons_zero, List.set_cons_succ]
  refine wpAnyH_take (i := 21) (v := .func (.func 156) #[.pointer (some ⟨w.heap.size, 0, none⟩)] #[]) rfl (by kernel_rfl) (by kernel_rfl) (by kernel_rfl) (fun _ _ _ h => h) (Or.inl ⟨by rfl, ?_⟩) hS ?_
  · intro w' hSw; (try dsimp only at hSw); go_simp
  change wpAnyH _ _ _ _ _ _ _ (Act.put _ (some 22) _) _
  simp only [Act.put, List.setIfInBounds_toArray, List.set_cons_zero, List.set_cons_succ]
  refine wpAnyH_take (i := 23) (v := .pointer (some ⟨w.heap.size, 0, none⟩)) rfl (by kernel_rfl) (by kernel_rfl) (by kernel_rfl) (fun _ _ _ h => h) (Or.inl ⟨by rfl, ?_⟩) hS ?_
  · intro w' hSw; (try dsimp only at hSw); go_simp
  change wpAnyH _ _ _ _ _ _ _ (Act.put _ (some 23) _) _
  simp only [Act.put, List.setIfInBounds_toArray, List.set_cons_zero, List.set_cons_succ]
  refine wpAnyH_take (i := 24) (v := .func (.func 157) #[.pointer (some ⟨w.heap.size, 0, none⟩)] #[]) rfl (by kernel_rfl) (by kernel_rfl) (by kernel_rfl) (fun _ _ _ h => h) (Or.inl ⟨by rfl, ?_⟩) hS ?_
  · intro w' hSw; (try dsimp only at hSw); go_simp
  change wpAnyH _ _ _ _ _ _ _ (Act.put _ (some 24) _) _
  simp only [Act.put, List.setIfInBounds_toArray, List.set_cons_zero, List.set_cons_succ]
  refine wpAnyH_inv (JJC t w.heap.size ((w.alloc (rdObj t (.map none) (.map none))).alloc (.cells #[.pointer (some ⟨w.heap.size, 0, none⟩)] 182))) (fun l a w' h => by rw [h.1]; rfl) (fun l a w' h => ?hSS) (fun l a w' i h hi => ?hstep) (fun l a w' h hr => ?hdone) _ _ _ _ (by decide) ?hinit
  case hSS =>
    obtain ⟨_, _, _, _, _, _, _, _, _, _, J⟩ := h
    exact cell_mod (blk_cell (blk_newAt (by simp)) 0) J.mod (by omega)
  case hinit =>
    refine ⟨rfl, by decide, undef, undef, undef, undef, undef, undef, undef, rfl, ?_⟩
    exact ⟨by simp; omega, (Mod.refl _ _).drew, blk_alloc (blk_new _ _), fun h => absurd h (by decide), fun h => absurd h (by decide), fun h => absurd h (by decide), fun h => absurd h (by decide), fun h => absurd h (by decide), fun h => absurd h (by decide), fun h => absurd h (by decide), fun h => absurd h (by decide), fun h => absurd h (by decide), fun h => absurd h (by decide), fun h => absurd h (by decide), fun h => absurd h (by decide), fun h => absurd h (by decide), fun h => absurd h (by decide), fun h => absurd h (by decide), fun h => absurd h (by decide), fun h => absurd h (by decide), fun h => absurd h (by decide), fun h => absurd h (by decide)⟩
  case hdone =>
    obtain ⟨hl, htk, u8, u16, u18, u20, u25, u26, u27, rfl, J⟩ := h
    have hal := ready_nil_all hl (by kernel_rfl) hr
    obtain ⟨m, p1, k1, p2, k2, p3, k3, hrd, hcm, hmod, hWm⟩ := J.done hal
    clear J hal hr htk hl hS
    unfold tmC
    go_wp2_with fail
    have hpr : PrAt w' (w.heap.size + 1) w.heap.size := ⟨cell_mod (blk_cell (blk_newAt (by simp)) 0) hmod (by omega), by omega⟩
    have hbW := blk_lt hrd
    have HRD := hide hrd
    have HCM := hide hcm
    have HMOD := hide hmod
    have HPR := hide hpr
    clear hrd hcm hmod hpr
    refine wp_region_held (S := fun w2 => w2.cell? ⟨w.heap.size + 1, 0, none⟩ = some (.pointer (some ⟨w.heap.size, 0, none⟩))) (by kernel_rfl) ?_
    have hS : ({ w' with drawn := w'.drawn + 1 } : World).cell? ⟨w.heap.size + 1, 0, none⟩ = some (.pointer (some ⟨w.heap.size, 0, none⟩)) := HPR.out.1
    refine wpAnyH_take (i := 0) (v := .pointer (some ⟨w.heap.size, 0, none⟩)) rfl (by kernel_rfl) (by kernel_rfl) (by kernel_rfl) (fun _ _ _ h => h) (Or.inl ⟨by rfl, ?_⟩) hS ?_
    · intro w' hSw; (try dsimp only at hSw); go_simp
    change wpAnyH _ _ _ _ _ _ _ (Act.put _ (some 28) _) _
    simp only [Act.put, List.setIfInBounds_toArray, List.set_cons_zero, List.set_cons_succ]
    refine wpAnyH_take (i := 6) (v := .pointer (some ⟨w.heap.size, 0, none⟩)) rfl (by kernel_rfl) (by kernel_rfl) (by kernel_rfl) (fun _ _ _ h => h) (Or.inl ⟨by rfl, ?_⟩) hS ?_
    · intro w' hSw; (try dsimp only at hSw); go_simp
    change wpAnyH _ _ _ _ _ _ _ (Act.put _ (some 32) _) _
    simp only [Act.put, List.setIfInBounds_toArray, List.set_cons_zero, List.set_cons_succ]
    refine wpAnyH_take (i := 7) (v := .func (.func 159) #[.pointer (some ⟨w.heap.size, 0, none⟩)] #[]) rfl (by kernel_rfl) (by kernel_rfl) (by kernel_rfl) (fun _ _ _ h => h) (Or.inl ⟨by rfl, ?_⟩) hS ?_
    · intro w' hSw; (try dsimp only at hSw); go_simp
    change wpAnyH _ _ _ _ _ _ _ (Act.put _ (some 33) _) _
    simp only [Act.put, List.setIfInBounds_toArray, List.set_cons_zero, List.set_cons_succ]
    refine wpAnyH_take (i := 9) (v := .func (.func 160) #[] #[.pointer (some ⟨w.heap.size + 1, 0, none⟩)]) rfl (by kernel_rfl) (by kernel_rfl) (by kernel_rfl) (fun _ _ _ h => h) (Or.inl ⟨by rfl, ?_⟩) hS ?_
    · intro w' hSw; (try dsimp only at hSw); go_simp
    change wpAnyH _ _ _ _ _ _ _ (Act.put _ (some 34) _) _
    simp only [Act.put, List.setIfInBounds_toArray, List.set_cons_zero, List.set_cons_succ]
    refine wpAnyH_take (i := 11) (v := .func (.func 162) #[] #[.pointer (some ⟨w.heap.size + 1, 0, none⟩)]) rfl (by kernel_rfl) (by kernel_rfl) (by kernel_rfl) (fun _ _ _ h => h) (Or.inl ⟨by rfl, ?_⟩) hS ?_
    · intro w' hSw; (try dsimp only at hSw); go_simp
    change wpAnyH _ _ _ _ _ _ _ (Act.put _ (some 35) _) _
    simp only [Act.put, List.setIfInBounds_toArray, List.set_cons_zero, List.set_cons_succ]
    refine wpAnyH_take (i := 13) (v := .func (.func 163) #[] #[.pointer (some ⟨w.heap.size + 1, 0, none⟩)]) rfl (by kernel_rfl) (by kernel_rfl) (by kernel_rfl) (fun _ _ _ h => h) (Or.inl ⟨by rfl, ?_⟩) hS ?_
    · intro w' hSw; (try dsimp only at hSw); go_simp
    change wpAnyH _ _ _ _ _ _ _ (Act.put _ (some 36) _) _
    simp only [Act.put, List.setIfInBounds_toArray, List.set_cons_zero, List.set_cons_succ]
    refine wpAnyH_take (i := 15) (v := .func (.func 166) #[] #[.pointer (some ⟨w.heap.size + 1, 0, none⟩)]) rfl (by kernel_rfl) (by kernel_rfl) (by kernel_rfl) (fun _ _ _ h => h) (Or.inl ⟨by rfl, ?_⟩) hS ?_
    · intro w' hSw; (try dsimp only at hSw); go_simp
    change wpAnyH _ _ _ _ _ _ _ (Act.put _ (some 37) _) _
    simp only [Act.put, List.setIfInBounds_toArray, List.set_cons_zero, List.set_cons_succ]
    refine wpAnyH_take (i := 17) (v := .func (.func 169) #[] #[.pointer (some ⟨w.heap.size + 1, 0, none⟩)]) rfl (by kernel_rfl) (by kernel_rfl) (by kernel_rfl) (fun _ _ _ h => h) (Or.inl ⟨by rfl, ?_⟩) hS ?_
    · intro w' hSw; (try dsimp only at hSw); go_simp
    change wpAnyH _ _ _ _ _ _ _ (Act.put _ (some 38) _) _
    simp only [Act.put, List.setIfInBounds_toArray, List.set_cons_zero, List.set_cons_succ]
    refine wpAnyH_take (i := 19) (v := .pointer (some ⟨w.heap.size, 0, none⟩)) rfl (by kernel_rfl) (by kernel_rfl) (by kernel_rfl) (fun _ _ _ h => h) (Or.inl ⟨by rfl, ?_⟩) hS ?_
    · intro w' hSw; (try dsimp only at hSw); go_simp
    change wpAnyH _ _ _ _ _ _ _ (Act.put _ (some 39) _) _
    simp only [Act.put, List.setIfInBounds_toArray, List.set_cons_zero, List.set_cons_succ]
    refine wpAnyH_take (i := 20) (v := .func (.func 170) #[.pointer (some ⟨w.heap.size, 0, none⟩)] #[]) rfl (by kernel_rfl) (by kernel_rfl) (by kernel_rfl) (fun _ _ _ h => h) (Or.inl ⟨by rfl, ?_⟩) hS ?_
    · intro w' hSw; (try dsimp only at hSw); go_simp
    change wpAnyH _ _ _ _ _ _ _ (Act.put _ (some 40) _) _
    simp only [Act.put, List.setIfInBounds_toArray, List.set_cons_zero, List.set_cons_succ]
    refine wpAnyH_take (i := 22) (v := .pointer (some ⟨w.heap.size, 0, none⟩)) rfl (by kernel_rfl) (by kernel_rfl) (by kernel_rfl) (fun _ _ _ h => h) (Or.inl ⟨by rfl, ?_⟩) hS ?_
    · intro w' hSw; (try dsimp only at hSw); go_simp
    change wpAnyH _ _ _ _ _ _ _ (Act.put _ (some 41) _) _
    simp only [Act.put, List.setIfInBounds_toArray, List.set_cons_zero, List.set_cons_succ]
    refine wpAnyH_take (i := 23) (v := .func (.func 171) #[.pointer (some ⟨w.heap.size, 0, none⟩)] #[]) rfl (by kernel_rfl) (by kernel_rfl) (by kernel_rfl) (fun _ _ _ h => h) (Or.inl ⟨by rfl, ?_⟩) hS ?_
    · intro w' hSw; (try dsimp only at hSw); go_simp
    change wpAnyH _ _ _ _ _ _ _ (Act.put _ (some 42) _) _
    simp only [Act.put, List.setIfInBounds_toArray, List.set_cons_zero, List.set_cons_succ]
    refine wpAnyH_inv (JJT t w.heap.size w' (.map (some m)) u8 u16 u18 u20 u25 u26 u27) (fun l a w' h => by rw [h.1]; rfl) (fun l a w' h => ?hSS2) (fun l a w2 i h hi => ?hstep2) (fun l a w2 h hr => ?hdone2) _ _ _ _ (by decide) ?hinit2
    case hSS2 =>
      obtain ⟨_, _, _, _, _, _, _, _, _, J⟩ := h
      exact cell_mod HPR.out.1 J.mod (by omega)
    case hinit2 =>
      refine ⟨rfl, by decide, undef, undef, undef, undef, undef, undef, rfl, ?_⟩
      exact ⟨hbW, (Mod.refl _ _).drew, HRD.out, fun h => absurd h (by decide), fun h => absurd h (by decide), fun h => absurd h (by decide), fun h => absurd h (by decide), fun h => absurd h (by decide), fun h => absurd h (by decide), fun h => absurd h (by decide), fun h => absurd h (by decide), fun h => absurd h (by decide), fun h => absurd h (by decide), fun h => absurd h (by decide), fun h => absurd h (by decide), fun h => absurd h (by decide), fun h => absurd h (by decide), fun h => absurd h (by decide), fun h => absurd h (by decide), fun h => absurd h (by decide), fun h => absurd h (by decide), fun h => absurd h (by decide)⟩
    case hdone2 =>
      obtain ⟨hl, htk, u29, u30, u31, u43, u44, u45, rfl, J⟩ := h
      have hal := ready_nil_all hl (by kernel_rfl) hr
      obtain ⟨mt, pt, pf, hrd, htm, hmod, _⟩ := J.done hal HPR.out
      have hc0 := (HPR.out.mod hmod).1
      have HFIN : Hid (NRPost t w (.returned (.pointer (some ⟨w.heap.size, 0, none⟩))) w2) := by
        have hbl := below_of_mod (HMOD.out.trans hmod)
        obtain ⟨mm, hmm⟩ := hm1
        have h1lt := cell_lt hmm
        exact ⟨m, mt, w.heap.size + 1, pt, pf, p1, k1, p2, k2, p3, k3, rfl, ⟨hrd, Nat.zero_le _, ⟨mm, by rw [hbl.cell (p := ⟨1, 0, none⟩) h1lt]; exact hmm⟩, h1lt, ht, ⟨Nat.zero_le _, by decide⟩, fun _ => rfl, fun _ c r e => by cases e⟩, htm, HCM.out.mod hmod, hbl⟩
      clear J hal hr htk hl hS hrd htm hmod
      unfold tmT
      go_wp2
      go_ret
      exact HFIN.out
    case hstep2 =>
      obtain ⟨hl, htk, u29, u30, u31, u43, u44, u45, rfl, J⟩ := h
      obtain ⟨h0, o, ho, hall⟩ := mem_ready.1 hi
      have hi30 : i < 29 := (Array.getElem?_eq_some_iff.1 ho).1
      have h0' : l.getD i false = false := by
        have : i < l.size := by omega
        simp [this] at h0 ⊢
        exact h0
      clear h0
      rcases (by omega : i = 0 ∨ i = 1 ∨ i = 2 ∨ i = 3 ∨ i = 4 ∨ i = 5 ∨ i = 6 ∨ i = 7 ∨ i = 8 ∨ i = 9 ∨ i = 10 ∨ i = 11 ∨ i = 12 ∨ i = 13 ∨ i = 14 ∨ i = 15 ∨ i = 16 ∨ i = 17 ∨ i = 18 ∨ i = 19 ∨ i = 20 ∨ i = 21 ∨ i = 22 ∨ i = 23 ∨ i = 24 ∨ i = 25 ∨ i = 26 ∨ i = 27 ∨ i = 28) with hh | hh | hh | hh | hh | hh | hh | hh | hh | hh | hh | hh | hh | hh | hh | hh | hh | hh | hh | hh | hh | hh | hh | hh | hh | hh | hh | hh | hh <;> subst hh
      · rw [htk 0 (by decide)] at h0'; cases h0'
      · clear ho hall hi
        refine wpOp_of rfl (by rfl) ?_
        unfold tmT
        go_simp
        exact JJT.next hl htk (by decide) (J.s1 h0')
      · clear ho hall hi
        refine wpOp_of rfl (by rfl) ?_
        unfold tmT
        go_simp
        refine (truth_any true _).mono ?_
        rintro e w3 ⟨rfl, rfl⟩
        exact JJT.next hl htk (by decide) (J.s2 h0')
      · have ho2 := Option.some.inj (show some _ = some o from ho)
        subst ho2
        have h1 := hall { on := 1, ground := .data } (by simp) rfl
        have h2 := hall { on := 2, ground := .data } (by simp) rfl
        clear ho hall hi
        obtain ⟨m2, es, c, rfl, hm, hf, hn, J'⟩ := J.s3 h0' h1 h2
        have hrun : (Instr.mapUpdate 258 (.map (some m2)) (.string ⟨#[116, 114, 117, 101]⟩) (u30)).run Tryz.prog w2 = .ok () _ := run_insert_new Tryz.underlying258 Tryz.underlying9 hm hf hn _
        refine wpOp_of rfl (by rfl) ?_
        unfold tmT
        go_simp
        exact JJT.next hl htk (by decide) J'
      · clear ho hall hi
        refine wpOp_of rfl (by rfl) ?_
        unfold tmT
        go_simp
        refine (truth_any false _).mono ?_
        rintro e w3 ⟨rfl, rfl⟩
        exact JJT.next hl htk (by decide) (J.s4 h0')
      · have ho2 := Option.some.inj (show some _ = some o from ho)
        subst ho2
        have h1 := hall { on := 1, ground := .data } (by simp) rfl
        have h2 := hall { on := 4, ground := .data } (by simp) rfl
        clear ho hall hi
        obtain ⟨m2, es, c, rfl, hm, hf, hn, J'⟩ := J.s5 h0' h1 h2
        have hrun : (Instr.mapUpdate 258 (.map (some m2)) (.string ⟨#[102, 97, 108, 115, 101]⟩) (u31)).run Tryz.prog w2 = .ok () _ := run_insert_new Tryz.underlying258 Tryz.underlying9 hm hf hn _
        refine wpOp_of rfl (by rfl) ?_
        unfold tmT
        go_simp
        exact JJT.next hl htk (by decide) J'
      · rw [htk 6 (by decide)] at h0'; cases h0'
      · rw [htk 7 (by decide)] at h0'; cases h0'
      · have ho2 := Option.some.inj (show some _ = some o from ho)
        subst ho2
        have h1 := hall { on := 1, ground := .data } (by simp) rfl
        clear ho hall hi
        obtain ⟨m2, es, c, rfl, hm, hf, hn, J'⟩ := J.s8 h0' h1
        have hrun : (Instr.mapUpdate 258 (.map (some m2)) (.string ⟨#[110, 111, 116]⟩) (.func (.func 159) #[.pointer (some ⟨w.heap.size, 0, none⟩)] #[])).run Tryz.prog w2 = .ok () _ := run_insert_new Tryz.underlying258 Tryz.underlying9 hm hf hn _
        refine wpOp_of rfl (by rfl) ?_
        unfold tmT
        go_simp
        exact JJT.next hl htk (by decide) J'
      · rw [htk 9 (by decide)] at h0'; cases h0'
      · have ho2 := Option.some.inj (show some _ = some o from ho)
        subst ho2
        have h1 := hall { on := 1, ground := .data } (by simp) rfl
        clear ho hall hi
        obtain ⟨m2, es, c, rfl, hm, hf, hn, J'⟩ := J.s10 h0' h1
        have hrun : (Instr.mapUpdate 258 (.map (some m2)) (.string ⟨#[97, 108, 108, 111, 102]⟩) (.func (.func 160) #[] #[.pointer (some ⟨w.heap.size + 1, 0, none⟩)])).run Tryz.prog w2 = .ok () _ := run_insert_new Tryz.underlying258 Tryz.underlying9 hm hf hn _
        refine wpOp_of rfl (by rfl) ?_
        unfold tmT
        go_simp
        exact JJT.next hl htk (by decide) J'
      · rw [htk 11 (by decide)] at h0'; cases h0'
      · have ho2 := Option.some.inj (show some _ = some o from ho)
        subst ho2
        have h1 := hall { on := 1, ground := .data } (by simp) rfl
        clear ho hall hi
        obtain ⟨m2, es, c, rfl, hm, hf, hn, J'⟩ := J.s12 h0' h1
        have hrun : (Instr.mapUpdate 258 (.map (some m2)) (.string ⟨#[97, 110, 121, 111, 102]⟩) (.func (.func 162) #[] #[.pointer (some ⟨w.heap.size + 1, 0, none⟩)])).run Tryz.prog w2 = .ok () _ := run_insert_new Tryz.underlying258 Tryz.underlying9 hm hf hn _
        refine wpOp_of rfl (by rfl) ?_
        unfold tmT
        go_simp
        exact JJT.next hl htk (by decide) J'
      · rw [htk 13 (by decide)] at h0'; cases h0'
      · have ho2 := Option.some.inj (show some _ = some o from ho)
        subst ho2
        have h1 := hall { on := 1, ground := .data } (by simp) rfl
        clear ho hall hi
        obtain ⟨m2, es, c, rfl, hm, hf, hn, J'⟩ := J.s14 h0' h1
        have hrun : (Instr.mapUpdate 258 (.map (some m2)) (.string ⟨#[104, 101, 97, 100, 101, 114]⟩) (.func (.func 163) #[] #[.pointer (some ⟨w.heap.size + 1, 0, none⟩)])).run Tryz.prog w2 = .ok () _ := run_insert_new Tryz.underlying258 Tryz.underlying9 hm hf hn _
        refine wpOp_of rfl (by rfl) ?_
        unfold tmT
        go_simp
        exact JJT.next hl htk (by decide) J'
      · rw [htk 15 (by decide)] at h0'; cases h0'
      · have ho2 := Option.some.inj (show some _ = some o from ho)
        subst ho2
        have h1 := hall { on := 1, ground := .data } (by simp) rfl
        clear ho hall hi
        obtain ⟨m2, es, c, rfl, hm, hf, hn, J'⟩ := J.s16 h0' h1
        have hrun : (Instr.mapUpdate 258 (.map (some m2)) (.string ⟨#[101, 110, 118, 101, 108, 111, 112, 101]⟩) (.func (.func 166) #[] #[.pointer (some ⟨w.heap.size + 1, 0, none⟩)])).run Tryz.prog w2 = .ok () _ := run_insert_new Tryz.underlying258 Tryz.underlying9 hm hf hn _
        refine wpOp_of rfl (by rfl) ?_
        unfold tmT
        go_simp
        exact JJT.next hl htk (by decide) J'
      · rw [htk 17 (by decide)] at h0'; cases h0'
      · have ho2 := Option.some.inj (show some _ = some o from ho)
        subst ho2
        have h1 := hall { on := 1, ground := .data } (by simp) rfl
        clear ho hall hi
        obtain ⟨m2, es, c, rfl, hm, hf, hn, J'⟩ := J.s18 h0' h1
        have hrun : (Instr.mapUpdate 258 (.map (some m2)) (.string ⟨#[115, 116, 114, 105, 110, 103]⟩) (.func (.func 169) #[] #[.pointer (some ⟨w.heap.size + 1, 0, none⟩)])).run Tryz.prog w2 = .ok () _ := run_insert_new Tryz.underlying258 Tryz.underlying9 hm hf hn _
        refine wpOp_of rfl (by rfl) ?_
        unfold tmT
        go_simp
        exact JJT.next hl htk (by decide) J'
      · rw [htk 19 (by decide)] at h0'; cases h0'
      · rw [htk 20 (by decide)] at h0'; cases h0'
      · have ho2 := Option.some.inj (show some _ = some o from ho)
        subst ho2
        have h1 := hall { on := 1, ground := .data } (by simp) rfl
        clear ho hall hi
        obtain ⟨m2, es, c, rfl, hm, hf, hn, J'⟩ := J.s21 h0' h1
        have hrun : (Instr.mapUpdate 258 (.map (some m2)) (.string ⟨#[101, 120, 105, 115, 116, 115]⟩) (.func (.func 170) #[.pointer (some ⟨w.heap.size, 0, none⟩)] #[])).run Tryz.prog w2 = .ok () _ := run_insert_new Tryz.underlying258 Tryz.underlying9 hm hf hn _
        refine wpOp_of rfl (by rfl) ?_
        unfold tmT
        go_simp
        exact JJT.next hl htk (by decide) J'
      · rw [htk 22 (by decide)] at h0'; cases h0'
      · rw [htk 23 (by decide)] at h0'; cases h0'
      · have ho2 := Option.some.inj (show some _ = some o from ho)
        subst ho2
        have h1 := hall { on := 1, ground := .data } (by simp) rfl
        clear ho hall hi
        obtain ⟨m2, es, c, rfl, hm, hf, hn, J'⟩ := J.s24 h0' h1
        have hrun : (Instr.mapUpdate 258 (.map (some m2)) (.string ⟨#[115, 105, 122, 101]⟩) (.func (.func 171) #[.pointer (some ⟨w.heap.size, 0, none⟩)] #[])).run Tryz.prog w2 = .ok () _ := run_insert_new Tryz.underlying258 Tryz.underlying9 hm hf hn _
        refine wpOp_of rfl (by rfl) ?_
        unfold tmT
        go_simp
        exact JJT.next hl htk (by decide) J'
      · have ho2 := Option.some.inj (show some _ = some o from ho)
        subst ho2
        have h1 := hall { on := 1, ground := .data } (by simp) rfl
        have hi3 := hall { on := 3, ground := .data } (by simp) rfl
        have hi5 := hall { on := 5, ground := .data } (by simp) rfl
        have hi8 := hall { on := 8, ground := .data } (by simp) rfl
        have hi10 := hall { on := 10, ground := .data } (by simp) rfl
        have hi12 := hall { on := 12, ground := .data } (by simp) rfl
        have hi14 := hall { on := 14, ground := .data } (by simp) rfl
        have hi16 := hall { on := 16, ground := .data } (by simp) rfl
        have hi18 := hall { on := 18, ground := .data } (by simp) rfl
        have hi21 := hall { on := 21, ground := .data } (by simp) rfl
        have hi24 := hall { on := 24, ground := .data } (by simp) rfl
        clear ho hall hi
        refine wpOp_of rfl (by rfl) ?_
        unfold tmT
        go_simp
        exact JJT.next hl htk (by decide) (J.s25 h0' h1 hi3 hi5 hi8 hi10 hi12 hi14 hi16 hi18 hi21 hi24)
      · clear ho hall hi
        refine wpOp_of rfl (by rfl) ?_
        unfold tmT
        go_simp
        exact JJT.next hl htk (by decide) (J.s26 h0')
      · have ho2 := Option.some.inj (show some _ = some o from ho)
        subst ho2
        have h1 := hall { on := 26, ground := .data } (by simp) rfl
        obtain rfl := J.m26 h1
        clear ho hall hi
        refine wpOp_of rfl (by rfl) ?_
        unfold tmT
        go_simp
        exact JJT.next hl htk (by decide) (J.s27 h0')
      · have ho2 := Option.some.inj (show some _ = some o from ho)
        subst ho2
        have h27 := hall { on := 27, ground := .data } (by simp) rfl
        have h25 := hall { on := 25, ground := .data } (by simp) rfl
        obtain rfl := J.m27 h27
        obtain ⟨rfl, h1, _⟩ := J.m25 h25
        obtain ⟨m2, es, c, rfl, _, _, _⟩ := J.mp h1
        clear ho hall hi
        have hr := J.rd
        unfold rdObj at hr
        have hc9 : w2.cell? ⟨w.heap.size, 9, none⟩ = some _ := blk_cell hr 9
        rw [show (l.getD 28 false) = false from h0'] at hc9
        have hfz := blk_frozen hr
        refine wpOp_of rfl (by rfl) ?_
        unfold tmT
        go_simp
        exact JJT.next hl htk (by decide) (J.s28 h0' h25)
  case hstep =>
    obtain ⟨hl, htk, u8, u16, u18, u20, u25, u26, u27, rfl, J⟩ := h
    obtain ⟨h0, o, ho, hall⟩ := mem_ready.1 hi
    have hi30 : i < 30 := (Array.getElem?_eq_some_iff.1 ho).1
    have h0' : l.getD i false = false := by
      have : i < l.size := by omega
      simp [this] at h0 ⊢
      exact h0
    clear h0
    rcases (by omega : i = 0 ∨ i = 1 ∨ i = 2 ∨ i = 3 ∨ i = 4 ∨ i = 5 ∨ i = 6 ∨ i = 7 ∨ i = 8 ∨ i = 9 ∨ i = 10 ∨ i = 11 ∨ i = 12 ∨ i = 13 ∨ i = 14 ∨ i = 15 ∨ i = 16 ∨ i = 17 ∨ i = 18 ∨ i = 19 ∨ i = 20 ∨ i = 21 ∨ i = 22 ∨ i = 23 ∨ i = 24 ∨ i = 25 ∨ i = 26 ∨ i = 27 ∨ i = 28 ∨ i = 29) with hh | hh | hh | hh | hh | hh | hh | hh | hh | hh | hh | hh | hh | hh | hh | hh | hh | hh | hh | hh | hh | hh | hh | hh | hh | hh | hh | hh | hh | hh <;> subst hh
    · rw [htk 0 (by decide)] at h0'; cases h0'
    · clear ho hall hi
      refine wpOp_of rfl (by rfl) ?_
      unfold tmC
      go_simp
      exact JJC.next hl htk (by decide) (J.s1 h0')
    · rw [htk 2 (by decide)] at h0'; cases h0'
    · rw [htk 3 (by decide)] at h0'; cases h0'
    · have ho2 := Option.some.inj (show some _ = some o from ho)
      subst ho2
      have h1 := hall { on := 1, ground := .data } (by simp) rfl
      clear ho hall hi
      obtain ⟨m, es, c, rfl, hm, hf, hn, J'⟩ := J.s4 h0' h1
      have hrun : (Instr.mapUpdate 257 (.map (some m)) (.string ⟨#[107, 101, 101, 112]⟩) (.func (.func 152) #[.pointer (some ⟨w.heap.size, 0, none⟩)] #[])).run Tryz.prog w' = .ok () _ := run_insert_new Tryz.underlying257 Tryz.underlying9 hm hf hn _
      refine wpOp_of rfl (by rfl) ?_
      unfold tmC
      go_simp
      exact JJC.next hl htk (by decide) J'
    · rw [htk 5 (by decide)] at h0'; cases h0'
    · rw [htk 6 (by decide)] at h0'; cases h0'
    · have ho2 := Option.some.inj (show some _ = some o from ho)
      subst ho2
      have h1 := hall { on := 1, ground := .data } (by simp) rfl
      clear ho hall hi
      obtain ⟨m, es, c, rfl, hm, hf, hn, J'⟩ := J.s7 h0' h1
      have hrun : (Instr.mapUpdate 257 (.map (some m)) (.string ⟨#[100, 105, 115, 99, 97, 114, 100]⟩) (.func (.func 153) #[.pointer (some ⟨w.heap.size, 0, none⟩)] #[])).run Tryz.prog w' = .ok () _ := run_insert_new Tryz.underlying257 Tryz.underlying9 hm hf hn _
      refine wpOp_of rfl (by rfl) ?_
      unfold tmC
      go_simp
      exact JJC.next hl htk (by decide) J'
    · rw [htk 8 (by decide)] at h0'; cases h0'
    · rw [htk 9 (by decide)] at h0'; cases h0'
    · have ho2 := Option.some.inj (show some _ = some o from ho)
      subst ho2
      have h1 := hall { on := 1, ground := .data } (by simp) rfl
      clear ho hall hi
      obtain ⟨m, es, c, rfl, hm, hf, hn, J'⟩ := J.s10 h0' h1
      have hrun : (Instr.mapUpdate 257 (.map (some m)) (.string ⟨#[115, 116, 111, 112]⟩) (.func (.func 154) #[.pointer (some ⟨w.heap.size, 0, none⟩)] #[])).run Tryz.prog w' = .ok () _ := run_insert_new Tryz.underlying257 Tryz.underlying9 hm hf hn _
      refine wpOp_of rfl (by rfl) ?_
      unfold tmC
      go_simp
      exact JJC.next hl htk (by decide) J'
    · rw [htk 11 (by decide)] at h0'; cases h0'
    · clear ho hall hi
      refine wpOp_of rfl (by rfl) ?_
      unfold tmC
      go_simp
      refine (act_any _ w.heap.size 2 _ rfl).mono ?_
      rintro e w2 ⟨rfl, rfl⟩
      exact JJC.next hl htk (by decide) (J.s12 h0')
    · have ho2 := Option.some.inj (show some _ = some o from ho)
      subst ho2
      have h1 := hall { on := 1, ground := .data } (by simp) rfl
      have h2 := hall { on := 12, ground := .data } (by simp) rfl
      clear ho hall hi
      obtain ⟨m, es, c, rfl, hm, hf, hn, J'⟩ := J.s13 h0' h1 h2
      have hrun : (Instr.mapUpdate 257 (.map (some m)) (.string ⟨#[102, 105, 108, 101, 105, 110, 116, 111]⟩) (u16)).run Tryz.prog w' = .ok () _ := run_insert_new Tryz.underlying257 Tryz.underlying9 hm hf hn _
      refine wpOp_of rfl (by rfl) ?_
      unfold tmC
      go_simp
      exact JJC.next hl htk (by decide) J'
    · rw [htk 14 (by decide)] at h0'; cases h0'
    · clear ho hall hi
      refine wpOp_of rfl (by rfl) ?_
      unfold tmC
      go_simp
      refine (act_any _ w.heap.size 3 _ rfl).mono ?_
      rintro e w2 ⟨rfl, rfl⟩
      exact JJC.next hl htk (by decide) (J.s15 h0')
    · have ho2 := Option.some.inj (show some _ = some o from ho)
      subst ho2
      have h1 := hall { on := 1, ground := .data } (by simp) rfl
      have h2 := hall { on := 15, ground := .data } (by simp) rfl
      clear ho hall hi
      obtain ⟨m, es, c, rfl, hm, hf, hn, J'⟩ := J.s16 h0' h1 h2
      have hrun : (Instr.mapUpdate 257 (.map (some m)) (.string ⟨#[114, 101, 100, 105, 114, 101, 99, 116]⟩) (u18)).run Tryz.prog w' = .ok () _ := run_insert_new Tryz.underlying257 Tryz.underlying9 hm hf hn _
      refine wpOp_of rfl (by rfl) ?_
      unfold tmC
      go_simp
      exact JJC.next hl htk (by decide) J'
    · rw [htk 17 (by decide)] at h0'; cases h0'
    · clear ho hall hi
      refine wpOp_of rfl (by rfl) ?_
      unfold tmC
      go_simp
      refine (act_any _ w.heap.size 4 _ rfl).mono ?_
      rintro e w2 ⟨rfl, rfl⟩
      exact JJC.next hl htk (by decide) (J.s18 h0')
    · have ho2 := Option.some.inj (show some _ = some o from ho)
      subst ho2
      have h1 := hall { on := 1, ground := .data } (by simp) rfl
      have h2 := hall { on := 18, ground := .data } (by simp) rfl
      clear ho hall hi
      obtain ⟨m, es, c, rfl, hm, hf, hn, J'⟩ := J.s19 h0' h1 h2
      have hrun : (Instr.mapUpdate 257 (.map (some m)) (.string ⟨#[114, 101, 106, 101, 99, 116]⟩) (u20)).run Tryz.prog w' = .ok () _ := run_insert_new Tryz.underlying257 Tryz.underlying9 hm hf hn _
      refine wpOp_of rfl (by rfl) ?_
      unfold tmC
      go_simp
      exact JJC.next hl htk (by decide) J'
    · rw [htk 20 (by decide)] at h0'; cases h0'
    · rw [htk 21 (by decide)] at h0'; cases h0'
    · have ho2 := Option.some.inj (show some _ = some o from ho)
      subst ho2
      have h1 := hall { on := 1, ground := .data } (by simp) rfl
      clear ho hall hi
      obtain ⟨m, es, c, rfl, hm, hf, hn, J'⟩ := J.s22 h0' h1
      have hrun : (Instr.mapUpdate 257 (.map (some m)) (.string ⟨#[115, 101, 116]⟩) (.func (.func 156) #[.pointer (some ⟨w.heap.size, 0, none⟩)] #[])).run Tryz.prog w' = .ok () _ := run_insert_new Tryz.underlying257 Tryz.underlying9 hm hf hn _
      refine wpOp_of rfl (by rfl) ?_
      unfold tmC
      go_simp
      exact JJC.next hl htk (by decide) J'
    · rw [htk 23 (by decide)] at h0'; cases h0'
    · rw [htk 24 (by decide)] at h0'; cases h0'
    · have ho2 := Option.some.inj (show some _ = some o from ho)
      subst ho2
      have h1 := hall { on := 1, ground := .data } (by simp) rfl
      clear ho hall hi
      obtain ⟨m, es, c, rfl, hm, hf, hn, J'⟩ := J.s25 h0' h1
      have hrun : (Instr.mapUpdate 257 (.map (some m)) (.string ⟨#[105, 102]⟩) (.func (.func 157) #[.pointer (some ⟨w.heap.size, 0, none⟩)] #[])).run Tryz.prog w' = .ok () _ := run_insert_new Tryz.underlying257 Tryz.underlying9 hm hf hn _
      refine wpOp_of rfl (by rfl) ?_
      unfold tmC
      go_simp
      exact JJC.next hl htk (by decide) J'
    · have ho2 := Option.some.inj (show some _ = some o from ho)
      subst ho2
      have h1 := hall { on := 1, ground := .data } (by simp) rfl
      have hi4 := hall { on := 4, ground := .data } (by simp) rfl
      have hi7 := hall { on := 7, ground := .data } (by simp) rfl
      have hi10 := hall { on := 10, ground := .data } (by simp) rfl
      have hi13 := hall { on := 13, ground := .data } (by simp) rfl
      have hi16 := hall { on := 16, ground := .data } (by simp) rfl
      have hi19 := hall { on := 19, ground := .data } (by simp) rfl
      have hi22 := hall { on := 22, ground := .data } (by simp) rfl
      have hi25 := hall { on := 25, ground := .data } (by simp) rfl
      clear ho hall hi
      refine wpOp_of rfl (by rfl) ?_
      unfold tmC
      go_simp
      exact JJC.next hl htk (by decide) (J.s26 h0' h1 hi4 hi7 hi10 hi13 hi16 hi19 hi22 hi25)
    · clear ho hall hi
      refine wpOp_of rfl (by rfl) ?_
      unfold tmC
      go_simp
      exact JJC.next hl htk (by decide) (J.s27 h0')
    · have ho2 := Option.some.inj (show some _ = some o from ho)
      subst ho2
      have h1 := hall { on := 27, ground := .data } (by simp) rfl
      obtain rfl := J.m27 h1
      clear ho hall hi
      refine wpOp_of rfl (by rfl) ?_
      unfold tmC
      go_simp
      exact JJC.next hl htk (by decide) (J.s28 h0')
    · have ho2 := Option.some.inj (show some _ = some o from ho)
      subst ho2
      have h28 := hall { on := 28, ground := .data } (by simp) rfl
      have h26 := hall { on := 26, ground := .data } (by simp) rfl
      obtain rfl := J.m28 h28
      obtain ⟨rfl, h1, _⟩ := J.m26 h26
      obtain ⟨m, es, c, rfl, _, _, _⟩ := J.mp h1
      clear ho hall hi
      have hr := J.rd
      unfold rdObj at hr
      have hc8 : w'.cell? ⟨w.heap.size, 8, none⟩ = some _ := blk_cell hr 8
      rw [show (l.getD 29 false) = false from h0'] at hc8
      have hfz := blk_frozen hr
      refine wpOp_of rfl (by rfl) ?_
      unfold tmC
      go_simp
      exact JJC.next hl htk (by decide) (J.s29 h0' h26)

end Go.Proofs.YtbiclelojbfnbaaGreatDoor

namespace Go.Proofs.YtbiclelojbfnbaaGreatDoor
open Go.RowKit
set_option linter.unusedVariables false
set_option linter.unusedSimpArgs false

theorem assertFault_yes (W : World) (v : Value) (xT : TypeId) : (Instr.typeAssert (.iface 140 v) xT 140 true).run Tryz.prog W = .ok (.tuple #[v, .bool true]) W := by kernel_rfl

set_option maxHeartbeats 1000000 in
theorem caught_nil (w : World) : Calls Tryz.prog 103 #[.nilIface] w fun e w' => e = .returned (.pointer none) ∧ w' = w := by
  go_enter Tryz.func103, Tryz.ntmps103
  go_wp2
  go_ret
  exact ⟨rfl, rfl⟩
set_option maxRecDepth 100000 in
set_option maxHeartbeats 1000000 in
theorem caught_fault (a : Addr) (w : World) : Calls Tryz.prog 103 #[.iface 140 (.pointer (some a))] w fun e w' => e = .returned (.pointer (some a)) ∧ w' = w := by
  go_enter Tryz.func103, Tryz.ntmps103
  have hta := assertFault_yes w (.pointer (some a))
  go_wp2
  go_ret
  exact ⟨rfl, rfl⟩

theorem catch_idle (p q : Addr) (w : World) :
    CallsD Tryz.prog 102 #[.pointer (some p), .pointer (some q)] .returning w fun e u' w' => e = .returned (.tuple #[]) ∧ u' = .returning ∧ w' = w := by
  refine callsD_of_wpS Tryz.func102 rfl fun c₀ cs hu => ?_
  apply wpS_seq
  apply wpS_region
  simp [wpOpsS, go_sem, recoverD, hu, Tryz.ntmps102, Exit.thenS]
  refine (caught_nil w).mono ?_
  rintro e w' ⟨rfl, rfl⟩
  apply wpS_seq
  apply wpS_region
  simp [wpOpsS, go_sem, Exit.thenS]
  refine wpS_cond (t := false) (by simp [Act.eval, Array.replicate]) ?_
  simp only [Bool.false_eq_true, if_false]
  refine wpS_of_wp (wp_skip ?_)
  cases c₀
  simp_all [bodyPostS, results, Tryz.results102]

theorem catch_panicking (P Q : Nat) (x1 x2 x3 : Value) (a : Addr) (older : List PanicEntry) (w : World) (hc1 : w.cell? ⟨P, 0, none⟩ = some x1) (hc2 : w.cell? ⟨P, 1, none⟩ = some x2) (hc3 : w.cell? ⟨Q, 0, none⟩ = some x3) (hz1 : ∀ j, w.frozen? ⟨P, j, none⟩ = false) (hz2 : ∀ j, w.frozen? ⟨Q, j, none⟩ = false) (hPQ : P ≠ Q) :
    CallsD Tryz.prog 102 #[.pointer (some ⟨P, 0, none⟩), .pointer (some ⟨Q, 0, none⟩)] (.panicking ({ v := .iface 140 (.pointer (some a)), recovered := false } :: older)) w fun e u' w' =>
      e = .returned (.tuple #[]) ∧ u' = .panicking ({ v := .iface 140 (.pointer (some a)), recovered := true } :: older) ∧ w' = ((w.setCell ⟨P, 0, none⟩ (.slice none 0 0)).setCell ⟨P, 1, none⟩ (.slice none 0 0)).setCell ⟨Q, 0, none⟩ (.iface 140 (.pointer (some a))) := by
  refine callsD_of_wpS Tryz.func102 rfl fun c₀ cs hu => ?_
  apply wpS_seq
  apply wpS_region
  simp [wpOpsS, go_sem, recoverD, hu, Tryz.ntmps102, Exit.thenS]
  refine (caught_fault a w).mono ?_
  rintro e w' ⟨rfl, rfl⟩
  apply wpS_seq
  apply wpS_region
  simp [wpOpsS, go_sem, Exit.thenS]
  refine wpS_cond (t := true) (by simp [Act.eval, Array.replicate]) ?_
  simp only [if_true]
  apply wpS_region
  simp [wpOpsS, go_sem, hc1, hc2, hc3, hz1, hz2, bodyPostS, results, Tryz.results102]

end Go.Proofs.YtbiclelojbfnbaaGreatDoor

namespace Go.Proofs.YtbiclelojbfnbaaGreatDoor
open Go.RowKit
set_option linter.unusedVariables false
set_option linter.unusedSimpArgs false
attribute [local go_sem ↓] Go.wp_at_zero Go.wp_at_succ

/-- What Parse leaves. -/
def PPost (r : Except Flt (List (List UInt8) × List (CmdT 7))) (w : World) (e : Ending) (w' : World) : Prop :=
  Below w.heap.size w w' ∧ ((∃ y tv, r = .ok y ∧ e = .returned (.tuple #[tv, .nilIface]) ∧ treeX (fromB w.heap.size) y w' tv) ∨ (∃ f bb, r = .error f ∧ e = .returned (.tuple #[.agg #[.slice none 0 0, .slice none 0 0], .iface 140 (.pointer (some ⟨bb, 0, none⟩))]) ∧ w.heap.size ≤ bb ∧ w'.heap[bb]? = some (.cells #[.int .i64 f.err, .int .i64 f.pos] 145)))

set_option maxRecDepth 100000 in
set_option maxHeartbeats 4000000 in
theorem parse_short (t : ByteArray) (w : World) (ht : t.size ≤ 600) (hm1 : ∃ m, w.cell? ⟨1, 0, none⟩ = some (.int .i64 m)) :
    Calls Tryz.prog 74 #[.string t] w (PPost (parseL t.data.toList) w) := by
  have hmf : ∀ (fn : Fn) (first cap : Array Value) (w : World), (Instr.makeFunc fn first cap).run Tryz.prog w = .ok (.func fn first cap) w := fun _ _ _ _ => rfl
  have ht' : ¬ (600 : Int) < (t.size : Int) := by omega
  go_enter_defers Tryz.func74, Tryz.ntmps74
  go_wp2_with fail
  obtain ⟨V, hV⟩ : ∃ V, V = (w.alloc (.cells #[.slice none 0 0, .slice none 0 0] 97)).alloc (.cells #[.nilIface] 90) := ⟨_, rfl⟩
  have hzV : V.heap.size = w.heap.size + 1 + 1 := by rw [hV]; simp
  have hVP : V.heap[w.heap.size]? = some (.cells #[.slice none 0 0, .slice none 0 0] 97) := by rw [hV]; exact blk_alloc (blk_new _ _)
  have hVQ : V.heap[w.heap.size + 1]? = some (.cells #[.nilIface] 90) := by rw [hV]; exact blk_newAt (by simp)
  have hVB : Below w.heap.size w V := by rw [hV]; exact ((Below.refl _ _).alloc (Nat.le_refl _) _).alloc (by simp) _
  have hV1 : ∃ m, V.cell? ⟨1, 0, none⟩ = some (.int .i64 m) := by
    obtain ⟨m, hm⟩ := hm1
    exact ⟨m, by rw [hVB.cell (p := ⟨1, 0, none⟩) (cell_lt hm)]; exact hm⟩
  rw [← hV]
  clear hV
  refine (newReader_any t V ht hV1).mono ?_
  rintro e w1 ⟨mc, mt, pr, pt, pf, p1, k1, p2, k2, p3, k3, rfl, hrc, htm, hcm, hbl⟩
  rw [hzV] at hrc htm hcm hbl
  have HVB := hide hVB
  have HRC := hide hrc
  have HTM := hide htm
  have HCM := hide hcm
  have hP1 : w1.heap[w.heap.size]? = some (.cells #[.slice none 0 0, .slice none 0 0] 97) := by rw [hbl.block _ (by omega)]; exact hVP
  have hQ1 : w1.heap[w.heap.size + 1]? = some (.cells #[.nilIface] 90) := by rw [hbl.block _ (by omega)]; exact hVQ
  have HBL := hide hbl
  have HP1 := hide hP1
  have HQ1 := hide hQ1
  have hz1 := hbl.size
  clear hVB hVP hVQ hV1 hm1 hrc htm hcm hbl hP1 hQ1
  go_wp2_with fail
  refine (script_any (w.heap.size + 1 + 1) t mc mt pr pt pf p1 k1 p2 k2 p3 k3 w1 HRC.out HTM.out HCM.out).mono ?_
  rintro e w2 ⟨hm2, ⟨y, v, hy, rfl, hv⟩ | ⟨f, hf, ⟨bb, hz, rfl, hcc⟩⟩⟩
  · obtain ⟨rv, lv, rfl, hrq, hbl⟩ := hv
    have HRQ := hide hrq
    have HBX := hide hbl
    obtain ⟨ra, rn, rc, rfl⟩ := hrq.form
    obtain ⟨la, ln, lc, rfl⟩ := hbl.form
    have hP2 := blk_mod HP1.out hm2 (by omega)
    have hQ2 := blk_mod HQ1.out hm2 (by omega)
    have c0 : w2.cell? ⟨w.heap.size, 0, none⟩ = some (.slice none 0 0) := blk_cell hP2 0
    have c1 : w2.cell? ⟨w.heap.size, 1, none⟩ = some (.slice none 0 0) := blk_cell hP2 1
    have c2 : w2.cell? ⟨w.heap.size + 1, 0, none⟩ = some .nilIface := blk_cell hQ2 0
    have z1 := blk_frozen hP2
    have z2 := blk_frozen hQ2
    have HM2 := hide hm2
    have HY := hide hy
    clear hm2 hy hrq hbl hP2 hQ2
    go_wp2
    have hB2 : Below w.heap.size w w2 := ⟨HM2.out.os.trans (HBL.out.os.trans HVB.out.os), HM2.out.tape.trans (HBL.out.tape.trans HVB.out.tape), HM2.out.output.trans (HBL.out.output.trans HVB.out.output), Nat.le_trans HVB.out.size (Nat.le_trans HBL.out.size HM2.out.size), fun k hk => by rw [HM2.out.block k (by omega) (by omega), HBL.out.block k (by omega), HVB.out.block k hk]⟩
    have hq0 : ¬ fromB w1.heap.size w.heap.size := by unfold fromB; omega
    have hq1 : ¬ fromB w1.heap.size (w.heap.size + 1) := by unfold fromB; omega
    have HFIN : Hid (PPost (parseL t.data.toList) w (.returned (.tuple #[.agg #[.slice ra rn rc, .slice la ln lc], .nilIface])) (((w2.setCell ⟨w.heap.size, 0, none⟩ (.slice ra rn rc)).setCell ⟨w.heap.size, 1, none⟩ (.slice la ln lc)).setCell ⟨w.heap.size + 1, 0, none⟩ .nilIface)) := ⟨((hB2.setCell (Nat.le_refl _) _).setCell (Nat.le_refl _) _).setCell (by show w.heap.size ≤ w.heap.size + 1; omega) _, Or.inl ⟨y, _, HY.out, rfl, ⟨_, _, rfl, (((HRQ.out.keep (AbvX.set hq0 _ _)).keep (AbvX.set hq0 _ _)).keep (AbvX.set hq1 _ _)).weak (fun k hk _ => by unfold fromB at *; omega), blX.weak (cmdV_tree 7) (((HBX.out.keep (cmdV_tree 7) (AbvX.set hq0 _ _)).keep (cmdV_tree 7) (AbvX.set hq0 _ _)).keep (cmdV_tree 7) (AbvX.set hq1 _ _)) (fun k hk _ => by unfold fromB at *; omega)⟩⟩⟩
    refine leaves_cons (f := 102) (args := #[.pointer (some ⟨w.heap.size, 0, none⟩), .pointer (some ⟨w.heap.size + 1, 0, none⟩)]) (by simp) (by simp [go_sem]) ?_
    refine (catch_idle ⟨w.heap.size, 0, none⟩ ⟨w.heap.size + 1, 0, none⟩ _).mono ?_
    rintro e u' w'' ⟨rfl, rfl, rfl⟩
    simp [Leaves, settle, results, Tryz.results74, go_sem, c0, c1, c2]
    exact HFIN.out
  · have hP2 := blk_mod HP1.out hm2 (by omega)
    have hQ2 := blk_mod HQ1.out hm2 (by omega)
    have c0 : w2.cell? ⟨w.heap.size, 0, none⟩ = some (.slice none 0 0) := blk_cell hP2 0
    have c1 : w2.cell? ⟨w.heap.size, 1, none⟩ = some (.slice none 0 0) := blk_cell hP2 1
    have c2 : w2.cell? ⟨w.heap.size + 1, 0, none⟩ = some .nilIface := blk_cell hQ2 0
    have z1 := blk_frozen hP2
    have z2 := blk_frozen hQ2
    have hB2 : Below w.heap.size w w2 := ⟨hm2.os.trans (HBL.out.os.trans HVB.out.os), hm2.tape.trans (HBL.out.tape.trans HVB.out.tape), hm2.output.trans (HBL.out.output.trans HVB.out.output), Nat.le_trans HVB.out.size (Nat.le_trans HBL.out.size hm2.size), fun k hk => by rw [hm2.block k (by omega) (by omega), HBL.out.block k (by omega), HVB.out.block k hk]⟩
    have HFIN : Hid (PPost (parseL t.data.toList) w (.returned (.tuple #[.agg #[.slice none 0 0, .slice none 0 0], .iface 140 (.pointer (some ⟨bb, 0, none⟩))])) (((w2.setCell ⟨w.heap.size, 0, none⟩ (.slice none 0 0)).setCell ⟨w.heap.size, 1, none⟩ (.slice none 0 0)).setCell ⟨w.heap.size + 1, 0, none⟩ (.iface 140 (.pointer (some ⟨bb, 0, none⟩))))) := ⟨((hB2.setCell (Nat.le_refl _) _).setCell (Nat.le_refl _) _).setCell (by show w.heap.size ≤ w.heap.size + 1; omega) _, Or.inr ⟨f, bb, hf, rfl, by omega, by
      rw [Below.heap_setCell _ _ _ _ (show bb ≠ w.heap.size + 1 by omega), Below.heap_setCell _ _ _ _ (show bb ≠ w.heap.size by omega), Below.heap_setCell _ _ _ _ (show bb ≠ w.heap.size by omega)]
      exact hcc⟩⟩
    refine leaves_cons (f := 102) (args := #[.pointer (some ⟨w.heap.size, 0, none⟩), .pointer (some ⟨w.heap.size + 1, 0, none⟩)]) (by simp) (by simp [go_sem]) ?_
    refine (catch_panicking w.heap.size (w.heap.size + 1) _ _ _ ⟨bb, 0, none⟩ [] _ c0 c1 c2 z1 z2 (by omega)).mono ?_
    rintro e u' w'' ⟨rfl, rfl, rfl⟩
    simp [Leaves, settle, results, Tryz.results74, go_sem, c0, c1, c2]
    exact HFIN.out

end Go.Proofs.YtbiclelojbfnbaaGreatDoor

namespace Go.Proofs.YtbiclelojbfnbaaGreatDoor
open Go.RowKit
set_option linter.unusedVariables false
set_option linter.unusedSimpArgs false
attribute [local go_sem ↓] Go.wp_at_zero Go.wp_at_succ

set_option maxRecDepth 100000 in
set_option maxHeartbeats 1000000 in
theorem parse_long (t : ByteArray) (w : World) (ht : 600 < t.size) :
    Calls Tryz.prog 74 #[.string t] w fun e w' => e = .returned (.tuple #[.agg #[.slice none 0 0, .slice none 0 0], .iface 39 (.int .i64 1)]) ∧ Below w.heap.size w w' := by
  have hmf : ∀ (fn : Fn) (first cap : Array Value) (w : World), (Instr.makeFunc fn first cap).run Tryz.prog w = .ok (.func fn first cap) w := fun _ _ _ _ => rfl
  have ht' : (600 : Int) < (t.size : Int) := by omega
  go_enter_defers Tryz.func74, Tryz.ntmps74
  go_wp2
  have hB : Below w.heap.size w ((w.alloc (.cells #[.slice none 0 0, .slice none 0 0] 97)).alloc (.cells #[.iface 39 (.int .i64 1)] 90)) := ((Below.refl _ _).alloc (Nat.le_refl _) _).alloc (by simp) _
  have HB := hide hB
  clear hB
  simp [bodyPostD, Leaves, settle, results, Tryz.results74, go_sem]
  exact HB.out

/-- What mailsieve's Parse leaves: a script in a block of its own, or a fault. -/
def MPost (r : Except Flt (List (List UInt8) × List (CmdT 7))) (w : World) (e : Ending) (w' : World) : Prop :=
  Below w.heap.size w w' ∧ ((∃ y g rv lv, r = .ok y ∧ e = .returned (.tuple #[.pointer (some ⟨g, 0, none⟩), .nilIface]) ∧ w.heap.size ≤ g ∧ w'.heap[g]? = some (.cells #[rv, lv] 139) ∧ reqX (fromB w.heap.size) y.1 w' rv ∧ blX (fromB w.heap.size) (CmdV 7) y.2 w' lv) ∨ (∃ f bb, r = .error f ∧ e = .returned (.tuple #[.pointer none, .iface 140 (.pointer (some ⟨bb, 0, none⟩))]) ∧ w.heap.size ≤ bb ∧ w'.heap[bb]? = some (.cells #[.int .i64 f.err, .int .i64 f.pos] 145)))

set_option maxRecDepth 100000 in
set_option maxHeartbeats 1000000 in
theorem mparse_short (t : ByteArray) (w : World) (ht : t.size ≤ 600) (hm1 : ∃ m, w.cell? ⟨1, 0, none⟩ = some (.int .i64 m)) :
    Calls Tryz.prog 43 #[.string t] w (MPost (parseL t.data.toList) w) := by
  go_enter Tryz.func43, Tryz.ntmps43
  go_wp2_with fail
  refine (parse_short t w ht hm1).mono ?_
  rintro e w1 ⟨hbl, ⟨y, tv, hy, rfl, hv⟩ | ⟨f, bb, hf, rfl, hz, hcc⟩⟩
  · obtain ⟨rv, lv, rfl, hrq, hbx⟩ := hv
    have HB := hide hbl
    have HY := hide hy
    have HRQ := hide hrq
    have HBX := hide hbx
    obtain ⟨ra, rn, rc, rfl⟩ := hrq.form
    obtain ⟨la, ln, lc, rfl⟩ := hbx.form
    have hz := hbl.size
    clear hbl hy hrq hbx
    go_wp2
    refine bodyPost_ret (v := .tuple #[.pointer (some ⟨w1.heap.size + 1, 0, none⟩), .nilIface]) (by simp [results, Tryz.results43, go_sem]) rfl ?_
    have hal : ∀ X, AbvX X w1 ((w1.alloc (.cells #[.slice ra rn rc, .slice la ln lc] 97)).alloc (.cells #[.slice ra rn rc, .slice la ln lc] 139)) := fun X k _ hk => by
      rw [Below.heap_alloc _ _ _ (by simp; omega), Below.heap_alloc _ _ _ hk]
    exact ⟨(HB.out.alloc hz _).alloc (by simp; omega) _, Or.inl ⟨y, _, _, _, HY.out, rfl, by omega, blk_newAt (by simp), HRQ.out.keep (hal _), HBX.out.keep (cmdV_tree 7) (hal _)⟩⟩
  · have HB := hide hbl
    have HF := hide hf
    have HC := hide hcc
    have hz2 := hbl.size
    clear hbl hf hcc
    go_wp2
    refine bodyPost_ret (v := .tuple #[.pointer none, .iface 140 (.pointer (some ⟨bb, 0, none⟩))]) (by simp [results, Tryz.results43, go_sem]) rfl ?_
    exact ⟨HB.out.alloc hz2 _, Or.inr ⟨f, bb, HF.out, rfl, hz, blk_alloc HC.out⟩⟩

end Go.Proofs.YtbiclelojbfnbaaGreatDoor

