import Derived.Test.YtbiclelojbfnbaaGreatDoorSet
namespace Go.Proofs.YtbiclelojbfnbaaGreatDoor
open Go.RowKit
set_option linter.unusedVariables false
set_option linter.unusedSimpArgs false

/-- What is required, as the reader's field holds it. -/
def ReqV (w : World) (b : Nat) (rv : Value) (req : List (List UInt8)) : Prop :=
  (rv = .slice none 0 0 ∧ req = []) ∨ ∃ g c, rv = .slice (some ⟨g, 0, none⟩) req.length c ∧ g ≠ b ∧ TxtAt w g req ∧ req ≠ [] ∧ req.length ≤ 1000
theorem ReqV.mod {w w' : World} {b : Nat} {rv : Value} {req : List (List UInt8)} (h : ReqV w b rv req) (hm : Mod b w w') : ReqV w' b rv req := by
  rcases h with h | ⟨g, c, h1, h2, h3, h4, h5⟩
  · exact Or.inl h
  · exact Or.inr ⟨g, c, h1, h2, fun j hj => cell_mod (h3 j hj) hm h2, h4, h5⟩

theorem contains_req (w : World) (b : Nat) (rv : Value) (req : List (List UInt8)) (x : List UInt8) (h : ReqV w b rv req) :
    Calls Tryz.prog 79 #[rv, .string (strA x)] w fun e w' => e = .returned (.bool (decide (0 < whichL req x))) ∧ w' = w := by
  rcases h with ⟨rfl, rfl⟩ | ⟨g, c, rfl, h2, h3, h4, h5⟩
  · exact Tryz.slices_Contains_string_empty none 0 (strA x) w
  · exact contains_any g _ c req x w h3 rfl h5

theorem useOk_one {req : List (List UInt8)} {sp : List UInt8} (h : sp = kFileinto ∨ sp = kReject ∨ sp = kEnvelope) : useOk req sp = decide (0 < whichL req sp) := by unfold useOk; rw [if_pos h]
theorem useOk_two {req : List (List UInt8)} {sp : List UInt8} (h : ¬ (sp = kFileinto ∨ sp = kReject ∨ sp = kEnvelope)) (h2 : sp = kSet ∨ sp = kString) : useOk req sp = decide (0 < whichL req kVariables) := by unfold useOk; rw [if_neg h, if_pos h2]
theorem useOk_three {req : List (List UInt8)} {sp : List UInt8} (h : ¬ (sp = kFileinto ∨ sp = kReject ∨ sp = kEnvelope)) (h2 : ¬ (sp = kSet ∨ sp = kString)) : useOk req sp = true := by unfold useOk; rw [if_neg h, if_neg h2]

set_option maxRecDepth 100000 in
set_option maxHeartbeats 2000000 in
theorem mayUse_any (sp : List UInt8) (req : List (List UInt8)) (b : Nat) (t : ByteArray) (s : PS) (rv : Value) (mc mt : Nat) (w : World) (h : RC w b t s rv mc mt) (hr : ReqV w b rv req) :
    Calls Tryz.prog 316 #[.pointer (some ⟨b, 0, none⟩), .string (strA sp)] w fun e w' => e = .returned (.bool (useOk req sp)) ∧ w' = w := by
  have h7 : w.cell? ⟨b, 7, none⟩ = some rv := h.at_.cell 7
  have HC := hide (fun x => contains_req w b rv req x hr)
  obtain ⟨ra, rn, rc, hrv⟩ : ∃ a n c, rv = .slice a n c := by
    rcases hr with ⟨h, _⟩ | ⟨g, c, h, _⟩
    · exact ⟨_, _, _, h⟩
    · exact ⟨_, _, _, h⟩
  subst hrv
  clear h hr
  have e1 : ((strA sp).toList == [102, 105, 108, 101, 105, 110, 116, 111]) = decide (sp = kFileinto) := strA_beq sp kFileinto
  have e2 : ((strA sp).toList == [114, 101, 106, 101, 99, 116]) = decide (sp = kReject) := strA_beq sp kReject
  have e3 : ((strA sp).toList == [101, 110, 118, 101, 108, 111, 112, 101]) = decide (sp = kEnvelope) := strA_beq sp kEnvelope
  have e4 : ((strA sp).toList == [115, 101, 116]) = decide (sp = kSet) := strA_beq sp kSet
  have e5 : ((strA sp).toList == [115, 116, 114, 105, 110, 103]) = decide (sp = kString) := strA_beq sp kString
  by_cases a1 : sp = kFileinto
  · have HE := hide (useOk_one (req := req) (Or.inl a1))
    rw [decide_eq_true a1] at e1
    clear e2 e3 e4 e5
    clear a1
    go_enter Tryz.func316, Tryz.ntmps316
    go_wp2_with (go_at_call 79; refine (HC.out sp).mono ?_; rintro e w' ⟨rfl, rfl⟩)
    go_ret
    exact ⟨ret_bool (by rw [HE.out]), rfl⟩
  by_cases a2 : sp = kReject
  · have HE := hide (useOk_one (req := req) (Or.inr (Or.inl a2)))
    rw [decide_eq_false a1] at e1
    rw [decide_eq_true a2] at e2
    clear e3 e4 e5
    clear a2 a1
    go_enter Tryz.func316, Tryz.ntmps316
    go_wp2_with (go_at_call 79; refine (HC.out sp).mono ?_; rintro e w' ⟨rfl, rfl⟩)
    go_ret
    exact ⟨ret_bool (by rw [HE.out]), rfl⟩
  by_cases a3 : sp = kEnvelope
  · have HE := hide (useOk_one (req := req) (Or.inr (Or.inr a3)))
    rw [decide_eq_false a1] at e1
    rw [decide_eq_false a2] at e2
    rw [decide_eq_true a3] at e3
    clear e4 e5
    clear a3 a1 a2
    go_enter Tryz.func316, Tryz.ntmps316
    go_wp2_with (go_at_call 79; refine (HC.out sp).mono ?_; rintro e w' ⟨rfl, rfl⟩)
    go_ret
    exact ⟨ret_bool (by rw [HE.out]), rfl⟩
  have hN : ¬ (sp = kFileinto ∨ sp = kReject ∨ sp = kEnvelope) := by
    rintro (h | h | h)
    · exact a1 h
    · exact a2 h
    · exact a3 h
  by_cases a4 : sp = kSet
  · have HE := hide (useOk_two (req := req) hN (Or.inl a4))
    clear hN
    rw [decide_eq_false a1] at e1
    rw [decide_eq_false a2] at e2
    rw [decide_eq_false a3] at e3
    rw [decide_eq_true a4] at e4
    clear e5
    clear a4 a1 a2 a3
    go_enter Tryz.func316, Tryz.ntmps316
    go_wp2_with (go_at_call 79; refine (HC.out kVariables).mono ?_; rintro e w' ⟨rfl, rfl⟩)
    go_ret
    exact ⟨ret_bool (by rw [HE.out]), rfl⟩
  by_cases a5 : sp = kString
  · have HE := hide (useOk_two (req := req) hN (Or.inr a5))
    clear hN
    rw [decide_eq_false a1] at e1
    rw [decide_eq_false a2] at e2
    rw [decide_eq_false a3] at e3
    rw [decide_eq_false a4] at e4
    rw [decide_eq_true a5] at e5
    clear a5 a1 a2 a3 a4
    go_enter Tryz.func316, Tryz.ntmps316
    go_wp2_with (go_at_call 79; refine (HC.out kVariables).mono ?_; rintro e w' ⟨rfl, rfl⟩)
    go_ret
    exact ⟨ret_bool (by rw [HE.out]), rfl⟩
  have HE := hide (useOk_three (req := req) hN (by rintro (h | h) <;> contradiction))
  clear hN
  rw [decide_eq_false a1] at e1
  rw [decide_eq_false a2] at e2
  rw [decide_eq_false a3] at e3
  rw [decide_eq_false a4] at e4
  rw [decide_eq_false a5] at e5
  clear a1 a2 a3 a4 a5
  go_enter Tryz.func316, Tryz.ntmps316
  go_wp2_with (go_at_call 79; refine (HC.out sp).mono ?_; rintro e w' ⟨rfl, rfl⟩)
  go_ret
  exact ⟨ret_bool (by rw [HE.out]), rfl⟩

end Go.Proofs.YtbiclelojbfnbaaGreatDoor
