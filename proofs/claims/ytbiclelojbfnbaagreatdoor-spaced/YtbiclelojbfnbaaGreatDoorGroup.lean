import Derived.Test.YtbiclelojbfnbaaGreatDoorTests3
import Derived.Maps.AppendAt
namespace Go.Proofs.YtbiclelojbfnbaaGreatDoor
open Go.RowKit
set_option linter.unusedVariables false
set_option linter.unusedSimpArgs false

theorem Tryz.infoTest : (Tryz.prog.info? 268).map (fun i => (i.zero, i.size, i.bytes)) = some (some .nilIface, 1, 16) := by kernel_rfl

theorem groupMore_passErr {α : Type} {l : List UInt8} {sub : PS → Except Flt (α × PS)} {f : Nat} {acc : List α} {s : PS} {e : Flt} (h : passL l [[44], [41]] s = .error e) : groupMore l sub (f + 1) acc s = .error e := by rw [groupMore]; exact thenL_err h
theorem groupMore_end {α : Type} {l : List UInt8} {sub : PS → Except Flt (α × PS)} {f : Nat} {acc : List α} {s : PS} {y : Nat × PS} (h : passL l [[44], [41]] s = .ok y) (h1 : ¬ y.1 = 1) : groupMore l sub (f + 1) acc s = .ok (acc, y.2) := by rw [groupMore, thenL_ok h, if_neg h1]
theorem groupMore_subErr {α : Type} {l : List UInt8} {sub : PS → Except Flt (α × PS)} {f : Nat} {acc : List α} {s : PS} {y : Nat × PS} {e : Flt} (h : passL l [[44], [41]] s = .ok y) (h1 : y.1 = 1) (h2 : sub y.2 = .error e) : groupMore l sub (f + 1) acc s = .error e := by rw [groupMore, thenL_ok h, if_pos h1]; exact thenL_err h2
theorem groupMore_go {α : Type} {l : List UInt8} {sub : PS → Except Flt (α × PS)} {f : Nat} {acc : List α} {s : PS} {y : Nat × PS} {z : α × PS} (h : passL l [[44], [41]] s = .ok y) (h1 : y.1 = 1) (h2 : sub y.2 = .ok z) : groupMore l sub (f + 1) acc s = groupMore l sub f (acc ++ [z.1]) z.2 := by rw [groupMore, thenL_ok h, if_pos h1]; exact thenL_ok h2
theorem paren_ne : ∀ z ∈ ([[44], [41]] : List (List UInt8)), z ≠ [] := by decide
/-- What is read is less than what there was. -/
def SubMu {α : Type} (n : Nat) (sub : PS → Except Flt (α × PS)) : Prop := ∀ s y, s.2 ≤ n → (s.1.kind = 0 → s.1.spelt = []) → sub s = .ok y → mu n y.2 < mu n s

set_option maxRecDepth 100000 in
set_option maxHeartbeats 4000000 in
theorem group_any {α : Type} (sub : PS → Except Flt (α × PS)) (P : (Nat → Prop) → α → World → Value → Prop) (hw : List UInt8) (hp : Nat) (d : Int) (b F : Nat) (t : ByteArray) (s : PS) (rv : Value) (mc mt : Nat) (w : World) (h : RC w b t s rv mc mt) (hF : 2 * t.size + 1 < F) (hd0 : 0 ≤ d) (hd1 : d ≤ 100) (hP : TreeP P) (hS : SubMu t.size sub) (ho : SubOk 252 w b t rv mc mt (d + 1) sub P) :
    Calls Tryz.prog 161 #[.pointer (some ⟨b, 0, none⟩), headV hw hp, .int .i64 d] w (RPost (groupL t.data.toList F sub s) b t rv mc mt w (fun xs w' v => ∃ u, v = .agg #[.string (strA hw), .int .i64 hp, u] ∧ trX (fromB w.heap.size) P xs w' u ∧ xs ≠ [])) := by
  have H := hide h
  have HO := hide ho
  have HP := hide hP
  have HSM := hide hS
  have hlt := h.at_.lt
  clear h ho hP hS
  unfold headV
  obtain ⟨i0, hi, hz0, hz1, hz2⟩ := info_parts Tryz.infoTest
  go_enter Tryz.func161, Tryz.ntmps161
  go_wp2_with fail
  obtain ⟨V, hV⟩ : ∃ V, V = (w.alloc (.cells #[.string (strA hw), .int .i64 hp] 266)).alloc (.cells #[.string ⟨#[]⟩, .int .i64 0, .slice none 0 0] 271) := ⟨_, rfl⟩
  have HRV : Hid (RC V b t s rv mc mt) := by rw [hV]; exact (H.out.alloc _).alloc _
  have HMV : Hid (Mod b w V) := by rw [hV]; exact ((Mod.refl b w).alloc _).alloc _
  have HVH : Hid (V.heap[w.heap.size]? = some (.cells #[.string (strA hw), .int .i64 hp] 266)) := by rw [hV]; exact blk_alloc (blk_new _ _)
  have HVR : Hid (V.heap[w.heap.size + 1]? = some (.cells #[.string ⟨#[]⟩, .int .i64 0, .slice none 0 0] 271)) := by rw [hV]; exact blk_newAt (by simp)
  have hzV : V.heap.size = w.heap.size + 1 + 1 := by rw [hV]; simp
  have hp1 := hide (pass_any b V.heap.size 1 1 [[40]] t s rv mc mt _ (HRV.out.alloc (.cells (tcells [[40]]).toArray 9)) (txt_alloc V [[40]] _ _ rfl) rfl (by decide))
  rw [hV] at hp1
  rw [show ((w.alloc (.cells #[.string (strA hw), .int .i64 hp] 266)).alloc (.cells #[.string ⟨#[]⟩, .int .i64 0, .slice none 0 0] 271)).heap.size = w.heap.size + 1 + 1 from by simp] at hp1
  refine hp1.out.mono ?_
  rw [← hV]
  intro e w1 h1
  rcases h1.cases with ⟨y, v, hy, rfl, hv, hc, hm⟩ | ⟨f, hf, ⟨bb, hz, rfl, hcc⟩, hm⟩
  rotate_left
  · exact ⟨rfl, RPost.err (thenL_err hf) ((HMV.out.alloc _).trans hm) ⟨bb, by simp at hz; omega, rfl, hcc⟩⟩
  unfold numV at hv
  subst hv
  have HY := hide hy
  have HC := hide hc
  have HM1 := hide ((HMV.out.alloc (.cells (tcells [[40]]).toArray 9)).trans hm)
  have HH1 := hide (blk_mod (blk_alloc HVH.out) hm (by omega))
  have HR1 := hide (blk_mod (blk_alloc HVR.out) hm (by omega))
  clear h1 hy hc hm hV hp1
  go_wp2_with fail
  refine (HO.out _ y.2 HM1.out HC.out).mono ?_
  intro e w2 h2
  rcases h2.cases with ⟨z, v, hy2, rfl, hv, hc, hm⟩ | ⟨f, hf, ⟨bb, hz, rfl, hcc⟩, hm⟩
  rotate_left
  · exact ⟨rfl, RPost.err ((thenL_ok HY.out).trans (thenL_err hf)) (HM1.out.trans hm) ⟨bb, Nat.le_trans HM1.out.size hz, rfl, hcc⟩⟩
  have hz1' : w.heap.size + 1 < w1.heap.size := blk_lt HR1.out
  have HV2 := hide hv
  obtain ⟨ty, x, rfl⟩ := HP.out.form _ _ _ _ hv
  have HY2 := hide hy2
  have HC2 := hide hc
  have HM2 := hide (HM1.out.trans hm)
  have HH2 := hide (blk_mod HH1.out hm (by omega))
  have HR2 := hide (blk_mod HR1.out hm (by omega))
  have hwz : w.heap.size + 1 < w2.heap.size := blk_lt HR2.out
  have hmuL := HC2.out.mu_le
  have hmuF := HC2.out.mu_lt hF
  clear h2 hy2 hc hm hv
  go_wp2_with fail
  go_loopw [7] (fun v wr => ∃ (s' : PS) (acc : List α) (vs : List Value) (f : Nat), wr.ownsRow (w.heap.size + 1 + 1) 268 1 v acc.length vs ∧ RowP (fun a u => Gath P (w.heap.size + 1 + 1) wr v a u) acc vs ∧ acc ≠ [] ∧ RC wr b t s' rv mc mt ∧ Mod b w wr ∧ wr.heap[w.heap.size]? = some (.cells #[.string (strA hw), .int .i64 hp] 266) ∧ wr.heap[w.heap.size + 1]? = some (.cells #[.string ⟨#[]⟩, .int .i64 0, .slice none 0 0] 271) ∧ mu t.size s' < f ∧ acc.length + mu t.size s' ≤ 1300 ∧ groupL t.data.toList F sub s = groupMore t.data.toList sub f acc s') (fun _ wr => muW wr b t.size)
  case atStart =>
    have hA : Mod b w2 (w2.alloc (.cells #[.iface ty x] 268)) := (Mod.refl b w2).alloc _
    have hG : Gath P (w.heap.size + 1 + 1) w2 (.slice (some ⟨w2.heap.size, 0, none⟩) 1 1) z.1 (.iface ty x) := ⟨fun k => w1.heap.size ≤ k ∧ k < w2.heap.size, HP.out.weak _ _ _ _ _ HV2.out (fun k hk hz => ⟨hk, hz⟩), fun k hk => ⟨by omega, hk.2⟩, fun g hg hX => by
      have : w2.heap.size = g := by simpa [Value.ownBlock] using hg
      omega⟩
    refine ⟨z.2, [z.1], [.iface ty x], F, ?_, ⟨hG.mod HP.out hA (by omega), trivial⟩, by simp, HC2.out.alloc _, HM2.out.alloc _, blk_alloc HH2.out, blk_alloc HR2.out, hmuF, by simp; omega, (thenL_ok HY.out).trans (thenL_ok HY2.out)⟩
    exact World.ownsRow_lit (e := 268) (size := 1) w2 #[.iface ty x] 1 hwz (by unfold maxLen; omega) rfl
  case round =>
    obtain ⟨s', acc, vs, f, hown, hrow, hne, hrc, hmod, hbh, hbr, hf, hbd, hsp⟩ := hrel
    obtain ⟨f, rfl⟩ : ∃ g, f = g + 1 := ⟨f - 1, by omega⟩
    have HR := hide hrc
    have HMr := hide hmod
    have HSP := hide hsp
    have HOW := hide hown
    have HRW := hide hrow
    have HBH := hide hbh
    have HBR := hide hbr
    have hwr : w.heap.size + 1 < wr.heap.size := blk_lt hbr
    clear hrc hmod hsp hown hrow hbh hbr HC HC2 HY HY2 hmuL hmuF
    go_wp2_with fail
    refine (pass_any b wr.heap.size 2 2 [[44], [41]] t s' rv mc mt _ (HR.out.alloc _) (txt_alloc wr [[44], [41]] _ _ rfl) rfl (by decide)).mono ?_
    intro e w3 h3
    rcases h3.cases with ⟨y3, v3, hy3, rfl, hv3, hc3, hm3⟩ | ⟨f3, hf3, ⟨bb, hz, rfl, hcc⟩, hm3⟩
    rotate_left
    · exact ⟨rfl, RPost.err (HSP.out.trans (groupMore_passErr hf3)) ((HMr.out.alloc _).trans hm3) ⟨bb, by simp at hz; omega, rfl, hcc⟩⟩
    have hmu3 := passL_mu (l := t.data.toList) (by simpa using HR.out.le) HR.out.e0 paren_ne hy3
    rw [bal] at hmu3
    replace hmu3 := hmu3.1
    have hA3 := ((Mod.refl b wr).alloc (.cells #[.string ⟨#[44]⟩, .string ⟨#[41]⟩] 9)).trans hm3
    have HM3 := hide (HMr.out.trans hA3)
    have HY3 := hide hy3
    have HC3 := hide hc3
    have HO3 := hide (ownsRow_mod (b := b) HOW.out hA3 (by omega))
    have HW3 := hide (HRW.out.imp (fun a u hu => Gath.mod HP.out (b := b) (w' := w3) hu hA3 (by omega)))
    have HH3 := hide (blk_mod HBH.out hA3 (by omega))
    have HR3 := hide (blk_mod HBR.out hA3 (by omega))
    unfold numV at hv3
    subst hv3
    clear h3 hy3 hc3 hm3 hA3
    by_cases h1 : y3.1 = 1
    rotate_left
    · have h1' : ((y3.1 : Int) == 1) = false := by simp; omega
      have H1 := hide h1
      have HT := hide (trX.of_owns HP.out HO3.out rfl hne HW3.out)
      obtain ⟨gg, nn, cc, rfl⟩ := HT.out.form
      have k0 : w3.cell? ⟨w.heap.size, 0, none⟩ = some (.string (strA hw)) := blk_cell HH3.out 0
      have k1 : w3.cell? ⟨w.heap.size, 1, none⟩ = some (.int .i64 hp) := blk_cell HH3.out 1
      have r0 : w3.cell? ⟨w.heap.size + 1, 0, none⟩ = some (.string ⟨#[]⟩) := blk_cell HR3.out 0
      have r1 : w3.cell? ⟨w.heap.size + 1, 1, none⟩ = some (.int .i64 0) := blk_cell HR3.out 1
      have r2 : w3.cell? ⟨w.heap.size + 1, 2, none⟩ = some (.slice none 0 0) := blk_cell HR3.out 2
      have rf := blk_frozen HR3.out
      clear h1
      go_wp2
      have hb1 : b < w.heap.size + 1 := by omega
      have hw1 : w.heap.size ≤ w.heap.size + 1 := by omega
      have hq : ¬ fromB (w.heap.size + 1 + 1) (w.heap.size + 1) := by unfold fromB; omega
      have hwk : ∀ k, fromB (w.heap.size + 1 + 1) k → fromB w.heap.size k := fun k hk => by unfold fromB at *; omega
      refine bodyPost_ret (v := .agg #[.string (strA hw), .int .i64 hp, .slice (some ⟨gg, 0, none⟩) nn cc]) (by simp [results, Tryz.results161, go_sem, r0, r1, r2]) rfl (RPost.ok (HSP.out.trans (groupMore_end HY3.out H1.out)) (((HM3.out.setNew hw1 _ _).setNew hw1 _ _).setNew hw1 _ _) ⟨_, rfl, ?_, hne⟩ (((HC3.out.setNew hb1 _ _).setNew hb1 _ _).setNew hb1 _ _))
      exact trX.weak HP.out hne (((HT.out.keep HP.out (AbvX.set hq _ _)).keep HP.out (AbvX.set hq _ _)).keep HP.out (AbvX.set hq _ _)) (fun k hk _ => hwk k hk)
    have h1' : ((y3.1 : Int) == 1) = true := by simp; omega
    have H1 := hide h1
    clear h1
    go_wp2_with fail
    refine (HO.out _ y3.2 HM3.out HC3.out).mono ?_
    intro e w4 h4
    rcases h4.cases with ⟨z4, v4, hy4, rfl, hv4, hc4, hm4⟩ | ⟨f4, hf4, ⟨bb, hz, rfl, hcc⟩, hm4⟩
    rotate_left
    · exact ⟨rfl, RPost.err (HSP.out.trans (groupMore_subErr HY3.out H1.out hf4)) (HM3.out.trans hm4) ⟨bb, Nat.le_trans HM3.out.size hz, rfl, hcc⟩⟩
    have hmu4 := HSM.out y3.2 z4 HC3.out.le HC3.out.e0 hy4
    have hz3 : w.heap.size + 1 < w3.heap.size := blk_lt HR3.out
    have HV4 := hide hv4
    obtain ⟨ty4, x4, rfl⟩ := HP.out.form _ _ _ _ hv4
    have HM4 := hide (HM3.out.trans hm4)
    have HY4 := hide hy4
    have HC4 := hide hc4
    have hown4 := ownsRow_mod (b := b) HO3.out hm4 (by omega)
    have HW4 := hide (HW3.out.imp (fun a u hu => Gath.mod HP.out (b := b) (w' := w4) hu hm4 (by omega)))
    have hlt3 := hide (fun k hk => (HO3.out.lt k hk).2)
    have HG4 := hide (Gath.new HP.out (base := w.heap.size + 1 + 1) HV4.out (by omega) hlt3.out)
    have HH4 := hide (blk_mod HH3.out hm4 (by omega))
    have HR4 := hide (blk_mod HR3.out hm4 (by omega))
    have hz4 : w.heap.size + 1 < w4.heap.size := blk_lt HR4.out
    clear h4 hy4 hc4 hm4 hv4
    go_wp2_with (at_builtin; refine wpList_append_own_at _ rfl _ _ 269 rfl (w.heap.size + 1 + 1) 268 i0 .nilIface 1 16 Tryz.underlying269 hi hz0 hz1 hz2 rfl (by decide) _ _ _ rfl (hown4.alloc _) ⟨w4.heap.size, 0, none⟩ 1 1 [.iface ty4 x4] rfl rfl ?c1 ?c2 ?c3 ?c4 ?c5 ?_)
    case c1 =>
      intro j u hj
      match j, hj with
      | 0, hj => simp at hj; subst hj; simp [Addr.add]
    case c2 => intro u hu; simp at hu; subst hu; rfl
    case c3 => unfold maxLen; omega
    case c4 => omega
    case c5 => simp; omega
    · intro v' w5 hown5 hgrow _ hat
      have hrow : ∀ k, (u7).ownBlock = some k → w.heap.size + 1 + 1 ≤ k := fun k hk => (hown4.lt k hk).1
      have HM5 := hide ((HM4.out.alloc (Obj.cells #[.iface ty4 x4] 268)).grown hgrow (fun k hk => by have := hrow k hk; omega))
      have HC5 := hide ((HC4.out.alloc (Obj.cells #[.iface ty4 x4] 268)).grown hgrow (fun k hk => by have := hrow k hk; omega))
      have HO5 := hide hown5
      have HR5 := hide (RowP.snoc (P := fun a u => Gath P (w.heap.size + 1 + 1) w5 v' a u) (HG4.out.grown HP.out hgrow hat) (HW4.out.imp (fun a u hu => Gath.grown HP.out hu hgrow hat)))
      have hk5 : ∀ k, k < w.heap.size + 1 + 1 → w5.heap[k]? = w4.heap[k]? := fun k hk => by
        rw [hgrow.block k (by simp; omega) (fun e => by have := hrow k e.symm; omega)]
        exact Below.heap_alloc _ _ _ (by omega)
      have HH5 := hide ((hk5 w.heap.size (by omega)).trans HH4.out)
      have HR6 := hide ((hk5 (w.heap.size + 1) (by omega)).trans HR4.out)
      have hmw : muW w5 b t.size < muW wr b t.size := by rw [HC5.out.muEq, HR.out.muEq]; omega
      have HMW := hide hmw
      clear hown5 hgrow hmw hown4 hrow hk5 hat
      go_wp2
      go_roundw
      case rel => exact ⟨z4.2, acc ++ [z4.1], vs ++ [.iface ty4 x4], f, by simpa using HO5.out, HR5.out, by simp, HC5.out, HM5.out, HH5.out, HR6.out, by omega, by simp; omega, HSP.out.trans (groupMore_go HY3.out H1.out HY4.out)⟩
      case measure => exact HMW.out

end Go.Proofs.YtbiclelojbfnbaaGreatDoor
