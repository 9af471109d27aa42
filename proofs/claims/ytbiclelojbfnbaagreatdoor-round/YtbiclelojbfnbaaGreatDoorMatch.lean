import Derived.Test.YtbiclelojbfnbaaGreatDoorOpts
namespace Go.Proofs.YtbiclelojbfnbaaGreatDoor
open Go.RowKit
set_option linter.unusedVariables false
set_option linter.unusedSimpArgs false

theorem StrOk.mod {w w' : World} {b : Nat} {t : ByteArray} {rv : Value} {mc mt : Nat} {cv : Value} {chk : List UInt8 → Nat} (h : StrOk w b t rv mc mt cv chk) (hm : Mod b w w') : StrOk w' b t rv mc mt cv chk :=
  fun W s hW hr => h W s (hm.trans hW) hr
theorem strOk_any (w : World) (b : Nat) (t : ByteArray) (rv : Value) (mc mt : Nat) : StrOk w b t rv mc mt (.func (.func 165) #[] #[]) (fun _ => 0) :=
  fun W s _ hr => string_anything b t s rv mc mt W hr

/-- A match, as a value: its lists lie in memory. -/
def mtV (B : Nat) (hw : List UInt8) (x : TLab) (w : World) (v : Value) : Prop :=
  ∃ fv kv, v = .agg #[.string (strA hw), .int .i64 x.pos, .int .i64 x.tag, .bool x.octet, fv, kv] ∧ slB B x.fr w fv ∧ slB B x.keys w kv

theorem RC.mu_lt {w : World} {b : Nat} {t : ByteArray} {s : PS} {rv : Value} {mc mt : Nat} (h : RC w b t s rv mc mt) {F : Nat} (hF : 2 * t.size + 1 < F) : mu t.size s < F := by
  unfold mu
  split <;> omega

set_option maxRecDepth 100000 in
set_option maxHeartbeats 4000000 in
theorem match_any (cv : Value) (chk : List UInt8 → Nat) (k : Nat) (hw : List UInt8) (hp : Nat) (b F : Nat) (t : ByteArray) (s : PS) (rv : Value) (mc mt : Nat) (w : World) (h : RC w b t s rv mc mt) (ho : StrOk w b t rv mc mt cv chk) (hF : 2 * t.size + 1 < F) :
    Calls Tryz.prog 164 #[.pointer (some ⟨b, 0, none⟩), .agg #[.string (strA hw), .int .i64 hp], cv] w (RPost (matchL t.data.toList F chk k hp s) b t rv mc mt w (mtV w.heap.size hw)) := by
  have H := hide h
  have HO := hide ho
  have hlt := h.at_.lt
  clear h ho
  go_enter Tryz.func164, Tryz.ntmps164
  go_wp2_with fail
  have HM0 := hide (((Mod.refl b w).alloc (.cells #[.string (strA hw), .int .i64 hp] 266)).alloc (.cells #[.string ⟨#[]⟩, .int .i64 0, .int .i64 0, .bool false, .slice none 0 0, .slice none 0 0] 277))
  refine (options_any hw hp b F t s rv mc mt _ ((H.out.alloc _).alloc _) (H.out.mu_lt hF)).mono ?_
  intro e w1 h1
  rcases h1.cases with ⟨o, v, hy, rfl, hv, hc, hm⟩ | ⟨f, hf, ⟨bb, hz, rfl, hcc⟩, hm⟩
  rotate_left
  · exact ⟨rfl, RPost.err (thenL_err hf) (HM0.out.trans hm) ⟨bb, Nat.le_trans HM0.out.size hz, rfl, hcc⟩⟩
  unfold matV mCells at hv
  subst hv
  have HY := hide hy
  have HC := hide hc
  have HM1 := hide (HM0.out.trans hm)
  have HR1 := hide (blk_mod (g := w.heap.size + 1) (o := .cells #[.string ⟨#[]⟩, .int .i64 0, .int .i64 0, .bool false, .slice none 0 0, .slice none 0 0] 277) (blk_newAt (by simp)) hm (by omega))
  have hz1 : w.heap.size + 1 < w1.heap.size := blk_lt HR1.out
  clear h1 hy hc hm
  go_wp2_with fail
  obtain ⟨V, hV⟩ : ∃ V, V = w1.alloc (.cells #[.string (strA hw), .int .i64 hp, .int .i64 o.1.1, .bool o.1.2, .slice none 0 0, .slice none 0 0] 277) := ⟨_, rfl⟩
  have HRV : Hid (RC V b t o.2 rv mc mt) := by rw [hV]; exact HC.out.alloc _
  have HMV : Hid (Mod b w V) := by rw [hV]; exact HM1.out.alloc _
  have HVR : Hid (V.heap[w.heap.size + 1]? = some (.cells #[.string ⟨#[]⟩, .int .i64 0, .int .i64 0, .bool false, .slice none 0 0, .slice none 0 0] 277)) := by rw [hV]; exact blk_alloc HR1.out
  have HVM : Hid (V.heap[w1.heap.size]? = some (.cells #[.string (strA hw), .int .i64 hp, .int .i64 o.1.1, .bool o.1.2, .slice none 0 0, .slice none 0 0] 277)) := by rw [hV]; exact blk_new _ _
  rw [← hV]
  have hzM : w1.heap.size < V.heap.size := blk_lt HVM.out
  generalize w1.heap.size = M at *
  clear hV HC HM1 HR1
  refine (strings_any cv chk b F t o.2 rv mc mt V HRV.out (HO.out.mod HMV.out) (HRV.out.mu_lt hF)).mono ?_
  intro e w2 h2
  rcases h2.cases with ⟨y2, v2, hy2, rfl, hv2, hc2, hm2⟩ | ⟨f, hf, ⟨bb, hz, rfl, hcc⟩, hm2⟩
  rotate_left
  · exact ⟨rfl, RPost.err ((thenL_ok HY.out).trans (thenL_err hf)) (HMV.out.trans hm2) ⟨bb, Nat.le_trans HMV.out.size hz, rfl, hcc⟩⟩
  have hs2 := hv2
  obtain ⟨g2, n2, c2, rfl⟩ := hs2.form
  have HS2 := hide hs2
  have HY2 := hide hy2
  have HC2 := hide hc2
  have HM2 := hide (HMV.out.trans hm2)
  have HR2 := hide (blk_mod HVR.out hm2 (by omega))
  have HMM2 := hide (blk_mod HVM.out hm2 (by omega))
  have hzM2 : M < w2.heap.size := blk_lt HMM2.out
  have m4 : w2.cell? ⟨M, 4, none⟩ = some (.slice none 0 0) := blk_cell HMM2.out 4
  have mf := blk_frozen HMM2.out
  have hbM : b < M := by omega
  have hwM : w.heap.size + 1 < M := by omega
  clear h2 hy2 hc2 hm2 hs2 hv2
  go_wp2_with fail
  obtain ⟨U, hU⟩ : ∃ U, U = w2.setCell ⟨M, 4, none⟩ (.slice (some ⟨g2, 0, none⟩) n2 c2) := ⟨_, rfl⟩
  have HRU : Hid (RC U b t y2.2 rv mc mt) := by rw [hU]; exact HC2.out.setNew hbM _ _
  have HMU : Hid (Mod b w U) := by rw [hU]; exact HM2.out.setNew (by omega) _ _
  have HUR : Hid (U.heap[w.heap.size + 1]? = some (.cells #[.string ⟨#[]⟩, .int .i64 0, .int .i64 0, .bool false, .slice none 0 0, .slice none 0 0] 277)) := by rw [hU]; exact blk_setOther HR2.out (by omega) _ _
  have HUM : Hid (U.heap[M]? = some (.cells #[.string (strA hw), .int .i64 hp, .int .i64 o.1.1, .bool o.1.2, .slice (some ⟨g2, 0, none⟩) n2 c2, .slice none 0 0] 277)) := by rw [hU]; exact heap_setCell_at _ _ _ _ _ _ HMM2.out
  have HSU : Hid (slB V.heap.size y2.1 U (.slice (some ⟨g2, 0, none⟩) n2 c2)) := by
    rw [hU]
    exact HS2.out.keep (Abv.set hzM _ _)
  rw [← hU]
  clear hU mf m4
  have hzU : M < U.heap.size := blk_lt HUM.out
  refine (strings_any (.func (.func 165) #[] #[]) (fun _ => 0) b F t y2.2 rv mc mt U HRU.out (strOk_any _ _ _ _ _ _) (HRU.out.mu_lt hF)).mono ?_
  intro e w3 h3
  rcases h3.cases with ⟨y3, v3, hy3, rfl, hv3, hc3, hm3⟩ | ⟨f, hf, ⟨bb, hz, rfl, hcc⟩, hm3⟩
  rotate_left
  · exact ⟨rfl, RPost.err ((thenL_ok HY.out).trans ((thenL_ok HY2.out).trans (thenL_err hf))) (HMU.out.trans hm3) ⟨bb, Nat.le_trans HMU.out.size hz, rfl, hcc⟩⟩
  have hs3 := hv3
  obtain ⟨g3, n3, c3, rfl⟩ := hs3.form
  have HS3 := hide hs3
  have HS2' := hide (HSU.out.keep (hm3.abv (by omega)))
  have HY3 := hide hy3
  have HC3 := hide hc3
  have HM3 := hide (HMU.out.trans hm3)
  have HR3 := hide (blk_mod HUR.out hm3 (by omega))
  have HMM3 := hide (blk_mod HUM.out hm3 (by omega))
  have m0 : w3.cell? ⟨M, 0, none⟩ = some (.string (strA hw)) := blk_cell HMM3.out 0
  have m1 : w3.cell? ⟨M, 1, none⟩ = some (.int .i64 hp) := blk_cell HMM3.out 1
  have m2 : w3.cell? ⟨M, 2, none⟩ = some (.int .i64 o.1.1) := blk_cell HMM3.out 2
  have m3 : w3.cell? ⟨M, 3, none⟩ = some (.bool o.1.2) := blk_cell HMM3.out 3
  have m4 : w3.cell? ⟨M, 4, none⟩ = some (.slice (some ⟨g2, 0, none⟩) n2 c2) := blk_cell HMM3.out 4
  have m5 : w3.cell? ⟨M, 5, none⟩ = some (.slice none 0 0) := blk_cell HMM3.out 5
  have mf := blk_frozen HMM3.out
  have r0 : w3.cell? ⟨w.heap.size + 1, 0, none⟩ = some (.string ⟨#[]⟩) := blk_cell HR3.out 0
  have r1 : w3.cell? ⟨w.heap.size + 1, 1, none⟩ = some (.int .i64 0) := blk_cell HR3.out 1
  have r2 : w3.cell? ⟨w.heap.size + 1, 2, none⟩ = some (.int .i64 0) := blk_cell HR3.out 2
  have r3 : w3.cell? ⟨w.heap.size + 1, 3, none⟩ = some (.bool false) := blk_cell HR3.out 3
  have r4 : w3.cell? ⟨w.heap.size + 1, 4, none⟩ = some (.slice none 0 0) := blk_cell HR3.out 4
  have r5 : w3.cell? ⟨w.heap.size + 1, 5, none⟩ = some (.slice none 0 0) := blk_cell HR3.out 5
  have rf := blk_frozen HR3.out
  have hne : ¬ M = w.heap.size + 1 := by omega
  have hne' : ¬ w.heap.size + 1 = M := by omega
  clear h3 hy3 hc3 hm3 hs3 hv3
  go_wp2
  have hb1 : b < w.heap.size + 1 := by omega
  have hw1 : w.heap.size ≤ w.heap.size + 1 := by omega
  have hwM' : w.heap.size ≤ M := by omega
  have hV1 : w.heap.size + 1 < V.heap.size := by omega
  have hU1 : w.heap.size + 1 < U.heap.size := by omega
  refine bodyPost_ret (v := .agg #[.string (strA hw), .int .i64 hp, .int .i64 o.1.1, .bool o.1.2, .slice (some ⟨g2, 0, none⟩) n2 c2, .slice (some ⟨g3, 0, none⟩) n3 c3]) (by simp [results, Tryz.results164, go_sem, r0, r1, r2, r3, r4, r5]) rfl (RPost.ok ((thenL_ok HY.out).trans ((thenL_ok HY2.out).trans (thenL_ok HY3.out))) (((((((HM3.out.setNew hwM' _ _).setNew hw1 _ _).setNew hw1 _ _).setNew hw1 _ _).setNew hw1 _ _).setNew hw1 _ _).setNew hw1 _ _) ⟨_, _, rfl, ?_, ?_⟩ (((((((HC3.out.setNew hbM _ _).setNew hb1 _ _).setNew hb1 _ _).setNew hb1 _ _).setNew hb1 _ _).setNew hb1 _ _).setNew hb1 _ _))
  · exact (((((((HS2'.out.keep (Abv.set hzM _ _)).keep (Abv.set hV1 _ _)).keep (Abv.set hV1 _ _)).keep (Abv.set hV1 _ _)).keep (Abv.set hV1 _ _)).keep (Abv.set hV1 _ _)).keep (Abv.set hV1 _ _)).weak (by omega)
  · exact (((((((HS3.out.keep (Abv.set hzU _ _)).keep (Abv.set hU1 _ _)).keep (Abv.set hU1 _ _)).keep (Abv.set hU1 _ _)).keep (Abv.set hU1 _ _)).keep (Abv.set hU1 _ _)).keep (Abv.set hU1 _ _)).weak (by omega)

end Go.Proofs.YtbiclelojbfnbaaGreatDoor
