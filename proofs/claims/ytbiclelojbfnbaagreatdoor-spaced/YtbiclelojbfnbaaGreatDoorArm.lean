import Derived.Test.YtbiclelojbfnbaaGreatDoorBlock
namespace Go.Proofs.YtbiclelojbfnbaaGreatDoor
open Go.RowKit
set_option linter.unusedVariables false
set_option linter.unusedSimpArgs false

/-- An arm, as a value. -/
def armV {α β : Type} (X : Nat → Prop) (P1 : (Nat → Prop) → β → World → Value → Prop) (P2 : (Nat → Prop) → α → World → Value → Prop) (a : β × List α) (w : World) (v : Value) : Prop :=
  ∃ u bv, v = .agg #[u, bv] ∧ P1 X a.1 w u ∧ blX X P2 a.2 w bv
theorem fromB_not {b B : Nat} (h : b < B) : ¬ fromB B b := by unfold fromB; omega

set_option maxRecDepth 100000 in
set_option maxHeartbeats 2000000 in
theorem arm_any {α β : Type} (tst : PS → Except Flt (β × PS)) (P1 : (Nat → Prop) → β → World → Value → Prop) (sub : PS → Except Flt (α × PS)) (P2 : (Nat → Prop) → α → World → Value → Prop) (d : Int) (b F : Nat) (t : ByteArray) (s : PS) (rv : Value) (mc mt : Nat) (w : World) (h : RC w b t s rv mc mt) (hF : 2 * t.size + 1 < F) (hd0 : 0 ≤ d) (hd1 : d ≤ 100) (hP1 : TreeP P1) (hP2 : TreeP P2) (hS : SubMu t.size sub) (ho1 : SubOk 252 w b t rv mc mt (d + 1) tst P1) (ho2 : SubOk 174 w b t rv mc mt (d + 1) sub P2) :
    Calls Tryz.prog 249 #[.pointer (some ⟨b, 0, none⟩), .int .i64 d] w (RPost (armL t.data.toList F tst sub s) b t rv mc mt w (armV (fromB w.heap.size) P1 P2)) := by
  have H := hide h
  have HO1 := hide ho1
  have HO2 := hide ho2
  have HP1 := hide hP1
  have HP2 := hide hP2
  have HSM := hide hS
  have hlt := h.at_.lt
  clear h ho1 ho2 hP1 hP2 hS
  go_enter Tryz.func249, Tryz.ntmps249
  go_wp2_with fail
  have HM0 := hide ((Mod.refl b w).alloc (.cells #[.nilIface, .slice none 0 0] 369))
  refine (HO1.out _ s HM0.out (H.out.alloc _)).mono ?_
  intro e w1 h1
  rcases h1.cases with ⟨y, v, hy, rfl, hv, hc, hm⟩ | ⟨f, hf, ⟨bb, hz, rfl, hcc⟩, hm⟩
  rotate_left
  · exact ⟨rfl, RPost.err (thenL_err hf) (HM0.out.trans hm) ⟨bb, by simp at hz; omega, rfl, hcc⟩⟩
  have HV := hide hv
  obtain ⟨ty, x, rfl⟩ := HP1.out.form _ _ _ _ hv
  have HY := hide hy
  have HC := hide hc
  have HM1 := hide (HM0.out.trans hm)
  have HR1 := hide (blk_mod (blk_new w (.cells #[.nilIface, .slice none 0 0] 369)) hm (by omega))
  have hz1 : w.heap.size < w1.heap.size := blk_lt HR1.out
  clear h1 hy hc hm hv
  go_wp2_with fail
  refine (block_any sub P2 (d + 1) b F t y.2 rv mc mt _ HC.out hF HP2.out HSM.out (HO2.out.mod HM1.out)).mono ?_
  intro e w2 h2
  rcases h2.cases with ⟨z, v2, hy2, rfl, hv2, hc2, hm2⟩ | ⟨f, hf, ⟨bb, hz, rfl, hcc⟩, hm2⟩
  rotate_left
  · exact ⟨rfl, RPost.err ((thenL_ok HY.out).trans (thenL_err hf)) (HM1.out.trans hm2) ⟨bb, Nat.le_trans HM1.out.size hz, rfl, hcc⟩⟩
  have HV2 := hide hv2
  obtain ⟨ba, bn, bc, rfl⟩ := hv2.form
  have HV1 := hide (HP1.out.keep _ _ _ _ _ HV.out (hm2.abvX (fromB_not (by simp; omega))))
  have HY2 := hide hy2
  have HC2 := hide hc2
  have HM2 := hide (HM1.out.trans hm2)
  have HR2 := hide (blk_mod HR1.out hm2 (by omega))
  have r0 : w2.cell? ⟨w.heap.size, 0, none⟩ = some .nilIface := blk_cell HR2.out 0
  have r1 : w2.cell? ⟨w.heap.size, 1, none⟩ = some (.slice none 0 0) := blk_cell HR2.out 1
  have rf := blk_frozen HR2.out
  clear h2 hy2 hc2 hm2 hv2
  go_wp2
  have hq1 : ¬ fromB (w.heap.size + 1) w.heap.size := by unfold fromB; omega
  have hq2 : ¬ fromB w1.heap.size w.heap.size := by unfold fromB; omega
  have HV1' := HV1.out
  rw [show (w.alloc (.cells #[.nilIface, .slice none 0 0] 369)).heap.size = w.heap.size + 1 from by simp] at HV1'
  refine bodyPost_ret (v := .agg #[.iface ty x, .slice ba bn bc]) (by simp [results, Tryz.results249, go_sem, r0, r1]) rfl (RPost.ok ((thenL_ok HY.out).trans (thenL_ok HY2.out)) ((HM2.out.setNew (Nat.le_refl _) _ _).setNew (Nat.le_refl _) _ _) ⟨_, _, rfl, ?_, ?_⟩ ((HC2.out.setNew hlt _ _).setNew hlt _ _))
  · exact HP1.out.weak _ _ _ _ _ (HP1.out.keep _ _ _ _ _ (HP1.out.keep _ _ _ _ _ HV1' (AbvX.set hq1 _ _)) (AbvX.set hq1 _ _)) (fun k hk _ => by unfold fromB at *; omega)
  · exact blX.weak HP2.out ((HV2.out.keep HP2.out (AbvX.set hq2 _ _)).keep HP2.out (AbvX.set hq2 _ _)) (fun k hk _ => by unfold fromB at *; omega)

end Go.Proofs.YtbiclelojbfnbaaGreatDoor
