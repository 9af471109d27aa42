import Derived.Test.YtbiclelojbfnbaaGreatDoorCmds
namespace Go.Proofs.YtbiclelojbfnbaaGreatDoor
open Go.RowKit
set_option linter.unusedVariables false
set_option linter.unusedSimpArgs false
attribute [local go_sem ↓] Go.wp_at_zero Go.wp_at_succ

/-- An action that has an argument: what is read behind its word. -/
def actL (l : List UInt8) (s : PS) : Except Flt (List UInt8 × PS) := thenL (stringL l (fun _ => 0) s) fun x s1 => semi l s1 x

set_option maxRecDepth 100000 in
set_option maxHeartbeats 1000000 in
theorem act1_any (hw : List UInt8) (hp : Nat) (d : Int) (pr pk kd : Nat) (b : Nat) (t : ByteArray) (s : PS) (rv : Value) (mc mt : Nat) (w : World) (h : RC w b t s rv mc mt) (hpr : PrAt w pr b) (hpk : w.cell? ⟨pk, 0, none⟩ = some (.int .i64 kd)) (hpkb : pk ≠ b) :
    Calls Tryz.prog 244 #[headV hw hp, .int .i64 d, .pointer (some ⟨pr, 0, none⟩), .pointer (some ⟨pk, 0, none⟩)] w (RPost (actL t.data.toList s) b t rv mc mt w (fun x _ v => v = .iface 318 (.agg #[.string (strA hw), .int .i64 hp, .int .i64 kd, .string (strA x)]))) := by
  have hlt := hpr.lt
  have hb := h.at_.lt
  have h' : (w.alloc (.cells #[.string (strA hw), .int .i64 hp] 266)).cell? ⟨pr, 0, none⟩ = some (.pointer (some ⟨b, 0, none⟩)) := by rw [World.cell?_alloc_past _ _ _ hlt]; exact hpr.1
  have H := hide h
  have HPR := hide hpr
  have HPK := hide hpk
  clear h hpr
  unfold headV
  go_enter Tryz.func244, Tryz.ntmps244
  go_wp2_with fail
  refine (string_anything b t s rv mc mt _ (H.out.alloc _)).mono ?_
  intro e w1 h1
  rcases h1.cases with ⟨y, v, hy, rfl, hv, hc, hm⟩ | ⟨f, hf, ⟨bb, hz, rfl, hcc⟩, hm⟩
  rotate_left
  · exact ⟨rfl, RPost.err (thenL_err hf) (((Mod.refl b w).alloc _).trans hm) ⟨bb, by simp at hz; omega, rfl, hcc⟩⟩
  unfold strV at hv
  subst hv
  have HY := hide hy
  have HC := hide hc
  have HM := hide (((Mod.refl b w).alloc (.cells #[.string (strA hw), .int .i64 hp] 266)).trans hm)
  have HH := hide (blk_mod (g := w.heap.size) (blk_new w (.cells #[.string (strA hw), .int .i64 hp] 266)) hm (by omega))
  have hp1 := (HPR.out.mod HM.out).1
  clear h1 hy hc hm h' hpk
  go_wp2_with fail
  have HP := hide (pass_any b w1.heap.size 1 1 [[59]] t y.2 rv mc mt _ (HC.out.alloc (.cells (tcells [[59]]).toArray 9)) (txt_newAt _ _ rfl) rfl (by decide))
  refine HP.out.mono ?_
  intro e w2 h2
  rcases h2.cases with ⟨y2, v2, hy2, rfl, hv2, hc2, hm2⟩ | ⟨f, hf, ⟨bb, hz, rfl, hcc⟩, hm2⟩
  rotate_left
  · exact ⟨rfl, RPost.err ((thenL_ok HY.out).trans (thenL_err hf)) ((HM.out.alloc _).trans hm2) ⟨bb, Nat.le_trans (HM.out.alloc _).size hz, rfl, hcc⟩⟩
  unfold numV at hv2
  subst hv2
  have hhb := blk_mod (blk_alloc HH.out) hm2 (by omega)
  have hh0 : w2.cell? ⟨w.heap.size, 0, none⟩ = some (.string (strA hw)) := blk_cell hhb 0
  have hh1 : w2.cell? ⟨w.heap.size, 1, none⟩ = some (.int .i64 hp) := blk_cell hhb 1
  have HY2 := hide hy2
  have HC2 := hide hc2
  have HM2 := hide ((HM.out.alloc (.cells (tcells [[59]]).toArray 9)).trans hm2)
  have hk2 := cell_mod HPK.out HM2.out hpkb
  clear h2 hy2 hc2 hm2 hhb HP hp1
  go_wp2
  go_ret
  exact RPost.ok ((thenL_ok HY.out).trans (thenL_ok HY2.out)) HM2.out rfl HC2.out

end Go.Proofs.YtbiclelojbfnbaaGreatDoor
