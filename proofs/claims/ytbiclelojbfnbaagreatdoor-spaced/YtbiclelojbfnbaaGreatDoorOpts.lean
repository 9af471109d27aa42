import Derived.Test.YtbiclelojbfnbaaGreatDoorStrs
import Derived.Test.YtbiclelojbfnbaaGreatDoorPlainParse
namespace Go.Proofs.YtbiclelojbfnbaaGreatDoor
open Go.RowKit
set_option linter.unusedVariables false
set_option linter.unusedSimpArgs false

theorem blk_mod {w w' : World} {b g : Nat} {o : Obj} (h : w.heap[g]? = some o) (hm : Mod b w w') (hn : g ≠ b) : w'.heap[g]? = some o := by
  rw [hm.block g (blk_lt h) hn]; exact h
set_option maxHeartbeats 400000 in
theorem matchTags_any (w : World) : Calls Tryz.prog 307 #[] w fun e w' => e = .returned (.slice (some ⟨w.heap.size, 0, none⟩) 3 3) ∧ w' = w.alloc (.cells (tcells [tIs, tContains, tMatches]).toArray 9) := by
  go_enter Tryz.func307, Tryz.ntmps307
  go_wp2
  go_ret
  exact ⟨rfl, rfl⟩
set_option maxHeartbeats 400000 in
theorem turnTags_any (w : World) : Calls Tryz.prog 183 #[] w fun e w' => e = .returned (.slice (some ⟨w.heap.size, 0, none⟩) 3 3) ∧ w' = w.alloc (.cells (tcells [tLower, tUpper, tLength]).toArray 9) := by
  go_enter Tryz.func183, Tryz.ntmps183
  go_wp2
  go_ret
  exact ⟨rfl, rfl⟩
set_option maxHeartbeats 400000 in
theorem sizeTags_any (w : World) : Calls Tryz.prog 257 #[] w fun e w' => e = .returned (.slice (some ⟨w.heap.size, 0, none⟩) 2 2) ∧ w' = w.alloc (.cells (tcells [tOver, tUnder]).toArray 9) := by
  go_enter Tryz.func257, Tryz.ntmps257
  go_wp2
  go_ret
  exact ⟨rfl, rfl⟩

theorem Mod.setNew {b : Nat} {u w : World} (h : Mod b u w) {g : Nat} (hg : u.heap.size ≤ g) (o : Nat) (v : Value) : Mod b u (w.setCell ⟨g, o, none⟩ v) :=
  ⟨h.os, h.tape, h.output, by have := h.size; simpa [World.setCell] using this, fun k hk hn => (Below.heap_setCell _ _ _ _ (by show k ≠ g; omega)).trans (h.block k hk hn)⟩
theorem RC.setNew {w : World} {b : Nat} {t : ByteArray} {s : PS} {rv : Value} {mc mt : Nat} (h : RC w b t s rv mc mt) {g : Nat} (hg : b < g) (o : Nat) (v : Value) : RC (w.setCell ⟨g, o, none⟩ v) b t s rv mc mt := by
  have h1 := h.b1
  refine ⟨?_, h.le, ?_, h.b1, h.hs, h.sz, h.e0, h.nm⟩
  · unfold RAt; rw [Below.heap_setCell _ _ _ _ (by show b ≠ g; omega)]; exact h.at_
  · obtain ⟨m, hm⟩ := h.m
    exact ⟨m, by rw [World.cell?_of_block (w := w) (a := ⟨1, 0, none⟩) (Below.heap_setCell _ _ _ _ (by show 1 ≠ g; omega))]; exact hm⟩
theorem blk_setOther {w : World} {g g' : Nat} {o : Obj} (h : w.heap[g]? = some o) (hn : g ≠ g') (k : Nat) (v : Value) : (w.setCell ⟨g', k, none⟩ v).heap[g]? = some o := by
  rw [Below.heap_setCell _ _ _ _ hn]; exact h

theorem optL_tagErr {l : List UInt8} {f tag : Nat} {oct cmp : Bool} {s : PS} (h : ¬ whichL [tIs, tContains, tMatches] s.1.spelt = 0) (ht : ¬ tag = 0) : optL l (f + 1) tag oct cmp s = .error ⟨7, s.1.pos⟩ := by
  rw [optL, if_neg h, if_neg ht]
theorem optL_tagNext {l : List UInt8} {f tag : Nat} {oct cmp : Bool} {s : PS} {e : Flt} (h : ¬ whichL [tIs, tContains, tMatches] s.1.spelt = 0) (ht : tag = 0) (hn : nextL l s.2 = .error e) : optL l (f + 1) tag oct cmp s = .error e := by
  rw [optL, if_neg h, if_pos ht, nextThen, hn]
theorem optL_tag {l : List UInt8} {f tag : Nat} {oct cmp : Bool} {s y : PS} (h : ¬ whichL [tIs, tContains, tMatches] s.1.spelt = 0) (ht : tag = 0) (hn : nextL l s.2 = .ok y) : optL l (f + 1) tag oct cmp s = optL l f (whichL [tIs, tContains, tMatches] s.1.spelt) oct cmp y := by
  rw [optL, if_neg h, if_pos ht, nextThen, hn]
theorem optL_end {l : List UInt8} {f tag : Nat} {oct cmp : Bool} {s : PS} (h : whichL [tIs, tContains, tMatches] s.1.spelt = 0) (h2 : whichL [tComparator] s.1.spelt = 0) : optL l (f + 1) tag oct cmp s = .ok ((max tag 1, oct), s) := by
  rw [optL, if_pos h, if_pos h2]
theorem optL_cmpErr {l : List UInt8} {f tag : Nat} {oct : Bool} {s : PS} (h : whichL [tIs, tContains, tMatches] s.1.spelt = 0) (h2 : ¬ whichL [tComparator] s.1.spelt = 0) : optL l (f + 1) tag oct true s = .error ⟨7, s.1.pos⟩ := by
  rw [optL, if_pos h, if_neg h2, if_pos rfl]
theorem optL_cmpNext {l : List UInt8} {f tag : Nat} {oct : Bool} {s : PS} {e : Flt} (h : whichL [tIs, tContains, tMatches] s.1.spelt = 0) (h2 : ¬ whichL [tComparator] s.1.spelt = 0) (hn : nextL l s.2 = .error e) : optL l (f + 1) tag oct false s = .error e := by
  rw [optL, if_pos h, if_neg h2, if_neg (by decide), nextThen, hn]
theorem optL_cmpStr {l : List UInt8} {f tag : Nat} {oct : Bool} {s y : PS} {e : Flt} (h : whichL [tIs, tContains, tMatches] s.1.spelt = 0) (h2 : ¬ whichL [tComparator] s.1.spelt = 0) (hn : nextL l s.2 = .ok y) (hs : stringL l (chkOne 7 [cOctet, cCasemap]) y = .error e) : optL l (f + 1) tag oct false s = .error e := by
  rw [optL, if_pos h, if_neg h2, if_neg (by decide), nextThen_ok hn]; exact thenL_err hs
theorem optL_cmp {l : List UInt8} {f tag : Nat} {oct : Bool} {s y : PS} {z : List UInt8 × PS} (h : whichL [tIs, tContains, tMatches] s.1.spelt = 0) (h2 : ¬ whichL [tComparator] s.1.spelt = 0) (hn : nextL l s.2 = .ok y) (hs : stringL l (chkOne 7 [cOctet, cCasemap]) y = .ok z) : optL l (f + 1) tag oct false s = optL l f tag (decide (z.1 = cOctet)) true z.2 := by
  rw [optL, if_pos h, if_neg h2, if_neg (by decide), nextThen_ok hn]; exact thenL_ok hs
theorem mtags_ne : ∀ z ∈ [tIs, tContains, tMatches], z ≠ [] := by decide
theorem ctag_ne : ∀ z ∈ [tComparator], z ≠ [] := by decide
theorem kind_of_which {zs : List (List UInt8)} {s : PS} (hz : ∀ z ∈ zs, z ≠ []) (he : s.1.kind = 0 → s.1.spelt = []) (h : ¬ whichL zs s.1.spelt = 0) : ¬ s.1.kind = 0 := fun e => h (by rw [he e]; exact whichL_nil zs hz)

/-- A match's cells, its lists not yet read. -/
def mCells (hw : List UInt8) (hp tag : Nat) (oct : Bool) : Array Value := #[.string (strA hw), .int .i64 hp, .int .i64 tag, .bool oct, .slice none 0 0, .slice none 0 0]
def matV (hw : List UInt8) (hp : Nat) (o : Nat × Bool) (_ : World) (v : Value) : Prop := v = .agg (mCells hw hp o.1 o.2)

set_option maxRecDepth 100000 in
set_option maxHeartbeats 4000000 in
theorem options_any (hw : List UInt8) (hp : Nat) (b F : Nat) (t : ByteArray) (s : PS) (rv : Value) (mc mt : Nat) (w : World) (h : RC w b t s rv mc mt) (hF : mu t.size s < F) :
    Calls Tryz.prog 253 #[.pointer (some ⟨b, 0, none⟩), .agg #[.string (strA hw), .int .i64 hp]] w (RPost (optL t.data.toList F 0 false false s) b t rv mc mt w (matV hw hp)) := by
  have H := hide h
  have hlt := h.at_.lt
  clear h
  go_enter Tryz.func253, Tryz.ntmps253
  go_wp2_with fail
  go_loopw [6, 7] (fun c6 _ wr => ∃ (s' : PS) (tag : Nat) (oct cmp : Bool) (f : Nat), c6 = .bool cmp ∧ wr.heap[w.heap.size + 1 + 1]? = some (.cells (mCells hw hp tag oct) 277) ∧ wr.heap[w.heap.size + 1]? = some (.cells #[.string ⟨#[]⟩, .int .i64 0, .int .i64 0, .bool false, .slice none 0 0, .slice none 0 0] 277) ∧ RC wr b t s' rv mc mt ∧ Mod b w wr ∧ mu t.size s' < f ∧ tag ≤ 3 ∧ optL t.data.toList F 0 false false s = optL t.data.toList f tag oct cmp s') (fun _ _ wr => muW wr b t.size)
  case atStart =>
    refine ⟨s, 0, false, false, F, rfl, ?_, ?_, ((H.out.alloc _).alloc _).alloc _, (((Mod.refl b w).alloc _).alloc _).alloc _, hF, by omega, rfl⟩
    · exact blk_newAt (by simp)
    · exact blk_alloc (blk_newAt (by simp))
  case round =>
    obtain ⟨s', tag, oct, cmp, f, rfl, hM, hR, hrc, hmod, hf, htag, hsp⟩ := hrel
    obtain ⟨f, rfl⟩ : ∃ g, f = g + 1 := ⟨f - 1, by omega⟩
    have HR := hide hrc
    have HMr := hide hmod
    have HSP := hide hsp
    have HM := hide hM
    have HRR := hide hR
    have hwr : w.heap.size + 1 + 1 < wr.heap.size := blk_lt hM
    have hw1 := hide (which_any b wr.heap.size 3 3 [tIs, tContains, tMatches] t s'.1 s'.2 rv mc mt _ (hrc.alloc (.cells (tcells [tIs, tContains, tMatches]).toArray 9)).at_ (txt_alloc wr [tIs, tContains, tMatches] _ _ rfl) rfl (by decide))
    have hle1 := whichL_le [tIs, tContains, tMatches] s'.1.spelt
    have HW1 := hide (kind_of_which (zs := [tIs, tContains, tMatches]) (s := s') mtags_ne hrc.e0)
    have HW2 := hide (kind_of_which (zs := [tComparator]) (s := s') ctag_ne hrc.e0)
    clear hrc hmod hsp hM hR
    go_wp2_with (go_at_call 307; refine (matchTags_any _).mono ?_; rintro e w' ⟨rfl, rfl⟩)
    refine hw1.out.mono ?_
    rintro e w' ⟨rfl, rfl⟩
    by_cases h1 : whichL [tIs, tContains, tMatches] s'.1.spelt = 0
    · have H1 := hide h1
      have h1' : ¬ (0 : Int) < (whichL [tIs, tContains, tMatches] s'.1.spelt : Int) := by omega
      obtain ⟨W, hW⟩ : ∃ W, W = wr.alloc (.cells (tcells [tIs, tContains, tMatches]).toArray 9) := ⟨_, rfl⟩
      rw [← hW]
      have HRW : Hid (RC W b t s' rv mc mt) := by rw [hW]; exact HR.out.alloc _
      have HMW : Hid (Mod b w W) := by rw [hW]; exact HMr.out.alloc _
      have HMM : Hid (W.heap[w.heap.size + 1 + 1]? = some (.cells (mCells hw hp tag oct) 277)) := by rw [hW]; exact blk_alloc HM.out
      have HRM : Hid (W.heap[w.heap.size + 1]? = some (.cells #[.string ⟨#[]⟩, .int .i64 0, .int .i64 0, .bool false, .slice none 0 0, .slice none 0 0] 277)) := by rw [hW]; exact blk_alloc HRR.out
      have hzW : w.heap.size + 1 + 1 < W.heap.size := blk_lt HMM.out
      have hw2 := hide (which_any b W.heap.size 1 1 [tComparator] t s'.1 s'.2 rv mc mt _ (HRW.out.alloc (.cells (tcells [tComparator]).toArray 9)).at_ (txt_alloc W [tComparator] _ _ rfl) rfl (by decide))
      have hle2 := whichL_le [tComparator] s'.1.spelt
      clear h1 hw1 hW hle1
      go_wp2_with fail
      refine hw2.out.mono ?_
      rintro e w' ⟨rfl, hww⟩
      subst hww
      obtain ⟨V, hV⟩ : ∃ V, V = W.alloc (.cells (tcells [tComparator]).toArray 9) := ⟨_, rfl⟩
      rw [← hV]
      have HRV : Hid (RC V b t s' rv mc mt) := by rw [hV]; exact HRW.out.alloc _
      have HMV : Hid (Mod b w V) := by rw [hV]; exact HMW.out.alloc _
      have HVM : Hid (V.heap[w.heap.size + 1 + 1]? = some (.cells (mCells hw hp tag oct) 277)) := by rw [hV]; exact blk_alloc HMM.out
      have HVR : Hid (V.heap[w.heap.size + 1]? = some (.cells #[.string ⟨#[]⟩, .int .i64 0, .int .i64 0, .bool false, .slice none 0 0, .slice none 0 0] 277)) := by rw [hV]; exact blk_alloc HRM.out
      have hzV : w.heap.size + 1 + 1 < V.heap.size := blk_lt HVM.out
      clear hV hw2
      by_cases h2 : whichL [tComparator] s'.1.spelt = 0
      · have H2 := hide h2
        have h2' : ¬ (0 : Int) < (whichL [tComparator] s'.1.spelt : Int) := by omega
        have m0 : V.cell? ⟨w.heap.size + 1 + 1, 0, none⟩ = some (.string (strA hw)) := blk_cell HVM.out 0
        have m1 : V.cell? ⟨w.heap.size + 1 + 1, 1, none⟩ = some (.int .i64 hp) := blk_cell HVM.out 1
        have m2 : V.cell? ⟨w.heap.size + 1 + 1, 2, none⟩ = some (.int .i64 tag) := blk_cell HVM.out 2
        have m3 : V.cell? ⟨w.heap.size + 1 + 1, 3, none⟩ = some (.bool oct) := blk_cell HVM.out 3
        have m4 : V.cell? ⟨w.heap.size + 1 + 1, 4, none⟩ = some (.slice none 0 0) := blk_cell HVM.out 4
        have m5 : V.cell? ⟨w.heap.size + 1 + 1, 5, none⟩ = some (.slice none 0 0) := blk_cell HVM.out 5
        have mf := blk_frozen HVM.out
        have r0 : V.cell? ⟨w.heap.size + 1, 0, none⟩ = some (.string ⟨#[]⟩) := blk_cell HVR.out 0
        have r1 : V.cell? ⟨w.heap.size + 1, 1, none⟩ = some (.int .i64 0) := blk_cell HVR.out 1
        have r2 : V.cell? ⟨w.heap.size + 1, 2, none⟩ = some (.int .i64 0) := blk_cell HVR.out 2
        have r3 : V.cell? ⟨w.heap.size + 1, 3, none⟩ = some (.bool false) := blk_cell HVR.out 3
        have r4 : V.cell? ⟨w.heap.size + 1, 4, none⟩ = some (.slice none 0 0) := blk_cell HVR.out 4
        have r5 : V.cell? ⟨w.heap.size + 1, 5, none⟩ = some (.slice none 0 0) := blk_cell HVR.out 5
        have rf := blk_frozen HVR.out
        clear h2
        go_wp2
        have hbz1 : b < w.heap.size + 1 := by omega
        have hbz2 : b < w.heap.size + 1 + 1 := by omega
        have hg1 : w.heap.size ≤ w.heap.size + 1 := by omega
        have hg2 : w.heap.size ≤ w.heap.size + 1 + 1 := by omega
        refine bodyPost_ret (v := .agg #[.string (strA hw), .int .i64 hp, .int .i64 (max (tag : Int) 1), .bool oct, .slice none 0 0, .slice none 0 0]) (by simp [results, Tryz.results253, go_sem, r0, r1, r2, r3, r4, r5]) rfl (RPost.ok (HSP.out.trans (optL_end H1.out H2.out)) (((((((HMV.out.setNew hg2 _ _).setNew hg1 _ _).setNew hg1 _ _).setNew hg1 _ _).setNew hg1 _ _).setNew hg1 _ _).setNew hg1 _ _) ?_ (((((((HRV.out.setNew hbz2 _ _).setNew hbz1 _ _).setNew hbz1 _ _).setNew hbz1 _ _).setNew hbz1 _ _).setNew hbz1 _ _).setNew hbz1 _ _))
        unfold matV mCells
        have : (max (tag : Int) 1) = ((max tag 1 : Nat) : Int) := by omega
        rw [this]
      · have H2 := hide h2
        have h2' : (0 : Int) < (whichL [tComparator] s'.1.spelt : Int) := by omega
        clear h2
        cases cmp
        rotate_left
        · go_wp2_with fail
          refine (demand_no b 7 _ _ t s'.1 s'.2 rv mc mt _ HRV.out.at_ rfl rfl).mono ?_
          rintro e w1 ⟨⟨bb, hz, rfl, hcc⟩, hm⟩
          exact ⟨rfl, RPost.err (HSP.out.trans (optL_cmpErr H1.out H2.out)) (HMV.out.trans (Mod.of_below hm)) ⟨bb, Nat.le_trans HMV.out.size hz, rfl, hcc⟩⟩
        go_wp2_with fail
        refine (demand_yes b _ _ _ rfl).mono ?_
        rintro e w' ⟨rfl, hww⟩
        subst hww
        go_wp2_with fail
        refine (next_rc b t s' rv mc mt _ HRV.out).mono ?_
        rintro e w2 (⟨y, hy, rfl, hc, hm⟩ | ⟨f2, hf2, ⟨bb, hz, rfl, hcc⟩, hm⟩)
        rotate_left
        · exact ⟨rfl, RPost.err (HSP.out.trans (optL_cmpNext H1.out H2.out hf2)) (HMV.out.trans hm) ⟨bb, Nat.le_trans HMV.out.size hz, rfl, hcc⟩⟩
        have hmu := nextL_mu (l := t.data.toList) (s := s') (by simpa using HRV.out.le) (HW2.out H2.out) hy
        rw [bal] at hmu
        have HM2 := hide (HMV.out.trans hm)
        have HC2 := hide hc
        have HB2 := hide (blk_mod HVM.out hm (by omega))
        have HB3 := hide (blk_mod HVR.out hm (by omega))
        have hz2 : w.heap.size + 1 + 1 < w2.heap.size := blk_lt HB2.out
        have HY := hide hy
        clear hc hm hy
        go_wp2_with (go_at_call 168; refine (oneOf_any _ _ _ _ _).mono ?_; rintro e w' ⟨rfl, rfl⟩)
        obtain ⟨U, hU⟩ : ∃ U, U = ((w2.alloc (.cells #[.string ⟨#[105, 59, 111, 99, 116, 101, 116]⟩, .string ⟨#[105, 59, 97, 115, 99, 105, 105, 45, 99, 97, 115, 101, 109, 97, 112]⟩] 9)).alloc (.cells #[.int .i64 7] 39)).alloc (.cells #[.slice (some ⟨w2.heap.size, 0, none⟩) 2 2] 60) := ⟨_, rfl⟩
        have HOU : Hid (OneAt U (w2.heap.size + 1 + 1) (w2.heap.size + 1) w2.heap.size 2 2 7 [cOctet, cCasemap]) := by
          rw [hU]
          refine ⟨?_, ?_, ?_, rfl, by decide⟩
          · exact blk_cell (blk_newAt (by simp)) 0
          · exact blk_cell (blk_alloc (blk_newAt (by simp))) 0
          · exact ((txt_alloc w2 [cOctet, cCasemap] _ _ rfl).below ((Below.refl _ _).alloc (Nat.le_refl _) _)).below ((Below.refl _ _).alloc (Nat.le_refl _) _)
        have HRU : Hid (RC U b t y rv mc mt) := by rw [hU]; exact ((HC2.out.alloc _).alloc _).alloc _
        have HMU : Hid (Mod b w U) := by rw [hU]; exact ((HM2.out.alloc _).alloc _).alloc _
        have HUM : Hid (U.heap[w.heap.size + 1 + 1]? = some (.cells (mCells hw hp tag oct) 277)) := by rw [hU]; exact blk_alloc (blk_alloc (blk_alloc HB2.out))
        have HUR : Hid (U.heap[w.heap.size + 1]? = some (.cells #[.string ⟨#[]⟩, .int .i64 0, .int .i64 0, .bool false, .slice none 0 0, .slice none 0 0] 277)) := by rw [hU]; exact blk_alloc (blk_alloc (blk_alloc HB3.out))
        rw [← hU]
        clear hU
        refine (string_oneOf (w2.heap.size + 1 + 1) (w2.heap.size + 1) w2.heap.size 2 2 7 [cOctet, cCasemap] b t y rv mc mt _ HRU.out HOU.out).mono ?_
        intro e w3 h3
        rcases h3.cases with ⟨z, v, hy3, rfl, hv, hc3, hm3⟩ | ⟨f3, hf3, ⟨bb, hz, rfl, hcc⟩, hm3⟩
        rotate_left
        · exact ⟨rfl, RPost.err (HSP.out.trans (optL_cmpStr H1.out H2.out HY.out hf3)) (HMU.out.trans hm3) ⟨bb, Nat.le_trans HMU.out.size hz, rfl, hcc⟩⟩
        unfold strV at hv
        subst hv
        have hmu3 := stringL_mu (l := t.data.toList) (by simpa using HRU.out.le) hy3
        rw [bal] at hmu3
        replace hmu3 := hmu3.1
        have HM3 := hide (HMU.out.trans hm3)
        have HC3 := hide hc3
        have HB4 := hide (blk_mod HUM.out hm3 (by omega))
        have HB5 := hide (blk_mod HUR.out hm3 (by omega))
        have HY3 := hide hy3
        have m3 : w3.cell? ⟨w.heap.size + 1 + 1, 3, none⟩ = some (.bool oct) := blk_cell HB4.out 3
        have mf := blk_frozen HB4.out
        clear h3 hy3 hc3 hm3
        have hbz2 : b < w.heap.size + 1 + 1 := by omega
        go_wp2
        have hoct : ((strA z.1).toList == [105, 59, 111, 99, 116, 101, 116]) = decide (z.1 = cOctet) := strA_beq z.1 cOctet
        rw [hoct]
        have hrc4 := HC3.out.setNew hbz2 3 (.bool (decide (z.1 = cOctet)))
        refine ⟨⟨z.2, tag, decide (z.1 = cOctet), true, f, rfl, heap_setCell_at _ _ _ _ _ _ HB4.out, blk_setOther HB5.out (by omega) _ _, hrc4, HM3.out.setNew (by omega) _ _, by omega, htag, HSP.out.trans (optL_cmp H1.out H2.out HY.out HY3.out)⟩, ?_⟩
        rw [hrc4.muEq, HR.out.muEq]
        omega
    · have H1 := hide h1
      have h1' : (0 : Int) < (whichL [tIs, tContains, tMatches] s'.1.spelt : Int) := by omega
      have hc2 : (wr.alloc (.cells (tcells [tIs, tContains, tMatches]).toArray 9)).cell? ⟨w.heap.size + 1 + 1, 2, none⟩ = some (.int .i64 tag) := blk_cell (blk_alloc HM.out) 2
      have hf2 : (wr.alloc (.cells (tcells [tIs, tContains, tMatches]).toArray 9)).frozen? ⟨w.heap.size + 1 + 1, 2, none⟩ = false := blk_frozen (blk_alloc HM.out) 2
      have hle : (whichL [tIs, tContains, tMatches] s'.1.spelt) ≤ 3 := hle1
      obtain ⟨W, hW⟩ : ∃ W, W = wr.alloc (.cells (tcells [tIs, tContains, tMatches]).toArray 9) := ⟨_, rfl⟩
      rw [← hW] at hc2 hf2 ⊢
      have HRW : Hid (RC W b t s' rv mc mt) := by rw [hW]; exact HR.out.alloc _
      have HMW : Hid (Mod b w W) := by rw [hW]; exact HMr.out.alloc _
      have HMM : Hid (W.heap[w.heap.size + 1 + 1]? = some (.cells (mCells hw hp tag oct) 277)) := by rw [hW]; exact blk_alloc HM.out
      have HRM : Hid (W.heap[w.heap.size + 1]? = some (.cells #[.string ⟨#[]⟩, .int .i64 0, .int .i64 0, .bool false, .slice none 0 0, .slice none 0 0] 277)) := by rw [hW]; exact blk_alloc HRR.out
      have HZ : Hid (w.heap.size ≤ W.heap.size) := HMW.out.size
      clear h1 hw1 hW hle1
      by_cases ht : tag = 0
      · have ht' : ((tag : Int) == 0) = true := by simp; omega
        have HT := hide ht
        clear ht
        go_wp2_with fail
        refine (demand_yes b _ _ _ rfl).mono ?_
        rintro e w' ⟨rfl, rfl⟩
        go_wp2_with fail
        have hbz : b < w.heap.size + 1 + 1 := by omega
        have hsz := HMW.out.size
        refine (next_rc b t s' rv mc mt _ (HRW.out.setNew hbz _ _)).mono ?_
        rintro e w2 (⟨y, hy, rfl, hc, hm⟩ | ⟨f2, hf2, ⟨bb, hz, rfl, hcc⟩, hm⟩)
        rotate_left
        · exact ⟨rfl, RPost.err (HSP.out.trans (optL_tagNext H1.out HT.out hf2)) ((HMW.out.setNew (by omega) _ _).trans hm) ⟨bb, Nat.le_trans (HMW.out.setNew (by omega) _ _).size hz, rfl, hcc⟩⟩
        have hmu := nextL_mu (l := t.data.toList) (s := s') (by simpa using HRW.out.le) (HW1.out H1.out) hy
        rw [bal] at hmu
        have hmw : muW w2 b t.size < muW wr b t.size := by rw [hc.muEq, HR.out.muEq]; exact hmu
        have HMW2 := hide hmw
        have HC2 := hide hc
        have HM2 := hide ((HMW.out.setNew (g := w.heap.size + 1 + 1) (by omega) 2 (.int .i64 (whichL [tIs, tContains, tMatches] s'.1.spelt))).trans hm)
        have HB2 := hide (blk_mod (b := b) (g := w.heap.size + 1 + 1) (heap_setCell_at _ (w.heap.size + 1 + 1) 2 (.int .i64 (whichL [tIs, tContains, tMatches] s'.1.spelt)) _ _ HMM.out) hm (by omega))
        have HB3 := hide (blk_mod (blk_setOther HRM.out (by omega : w.heap.size + 1 ≠ w.heap.size + 1 + 1) 2 (.int .i64 (whichL [tIs, tContains, tMatches] s'.1.spelt))) hm (by omega))
        have HY := hide hy
        clear hc hm hmw hy
        go_wp2
        go_roundw
        case rel => exact ⟨y, whichL [tIs, tContains, tMatches] s'.1.spelt, oct, cmp, f, rfl, HB2.out, HB3.out, HC2.out, HM2.out, by omega, hle, HSP.out.trans (optL_tag H1.out HT.out HY.out)⟩
        case measure => exact HMW2.out
      · have ht' : ((tag : Int) == 0) = false := by simp; omega
        have HT := hide ht
        clear ht
        go_wp2_with fail
        refine (demand_no b 7 _ _ t s'.1 s'.2 rv mc mt _ HRW.out.at_ rfl rfl).mono ?_
        rintro e w1 ⟨⟨bb, hz, rfl, hcc⟩, hm⟩
        exact ⟨rfl, RPost.err (HSP.out.trans (optL_tagErr H1.out HT.out)) (HMW.out.trans (Mod.of_below hm)) ⟨bb, Nat.le_trans HZ.out hz, rfl, hcc⟩⟩

end Go.Proofs.YtbiclelojbfnbaaGreatDoor
