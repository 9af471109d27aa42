import Derived.Test.YtbiclelojbfnbaaGreatDoorLawsZ
import Derived.Test.YtbiclelojbfnbaaGreatDoorRoundF
import Derived.Test.YtbiclelojbfnbaaGreatDoorTie
import Derived.Test.YtbiclelojbfnbaaGreatDoorCards
import Derived.SevenTiedAt
namespace Go.Proofs.YtbiclelojbfnbaaGreatDoor
open Go.RowKit
set_option linter.unusedVariables false
set_option linter.unusedSimpArgs false
attribute [local go_sem ↓] Go.wp_at_zero Go.wp_at_succ

set_option maxRecDepth 100000 in
set_option maxHeartbeats 4000000 in
theorem round_any (s : ByteArray) (w : World) (he : Env w) (hs : s.size ≤ 9223372036854775807) :
    Calls Tryz.prog 10 #[.string s] w fun e w' => e = .returned (.bool true) ∧ Below w.heap.size w w' := by
  have HE := hide he
  clear he
  go_enter Tryz.func10, Tryz.ntmps10
  go_wp2_with fail
  refine (parses_any w HE.out).mono ?_
  rintro e w1 ⟨rfl, hB1⟩
  have HB1 := hide hB1
  have HE1 := hide (HE.out.below hB1)
  have hs1 := hB1.size
  clear hB1
  go_wp2_with fail
  refine (pparse_any s w1 HE1.out.m1 HE1.out.et).mono ?_
  rintro e w2 ⟨hB2, hP⟩
  have HB2 := hide (HB1.out.trans (hB2.mono hs1))
  have HE2 := hide (HE1.out.below hB2)
  have hs2 := HB2.out.size
  clear hB2
  rcases hP with ⟨hl, rfl⟩ | ⟨hsz, y, g, rv, lv, hy, rfl, hz, hc, hr, hb⟩ | ⟨hsz, f, hf, rfl⟩
  · have h6 : (600 : Int) < (s.size : Int) := by omega
    go_wp2
    go_ret
    exact ⟨rfl, HB2.out⟩
  · have HY := hide hy
    have hwf := parse_wf hy
    have HTS := hide (text_small hy hsz)
    obtain ⟨y2, hy2, ht2⟩ := text_back hy
    have HC := hide hc
    have HR := hide hr
    have HBL := hide hb
    have HWF := hide hwf
    have HY2 := hide hy2
    have HT2 := hide ht2
    clear hy hwf hy2 ht2 hc hr hb
    go_wp2_with fail
    refine (scriptText_any g y rv lv w2 _ HC.out HR.out HBL.out HE2.out.tab HWF.out.2 HTS.out).mono ?_
    rintro e w3 ⟨rfl, hB3⟩
    have HB3 := hide (HB2.out.trans (hB3.mono hs2))
    have HE3 := hide (HE2.out.below hB3)
    have hs3 := HB3.out.size
    clear hB3
    go_wp2_with fail
    refine (pparse_any (strA (textL y)) w3 HE3.out.m1 HE3.out.et).mono ?_
    rintro e w4 ⟨hB4, hP4⟩
    have HB4 := hide (HB3.out.trans (hB4.mono hs3))
    have HE4 := hide (HE3.out.below hB4)
    have hs4 := HB4.out.size
    clear hB4
    rcases hP4 with ⟨hl4, rfl⟩ | ⟨hsz4, y4, g4, rv4, lv4, hy4, rfl, hz4, hc4, hr4, hb4⟩ | ⟨hsz4, f4, hf4, rfl⟩
    · have h6 : (600 : Int) < ((strA (textL y)).size : Int) := by omega
      generalize strA (textL y) = T at *
      go_wp2
      go_ret
      exact ⟨rfl, HB4.out⟩
    · have hyy : parseL (textL y) = .ok y4 := hy4
      rw [HY2.out] at hyy
      cases hyy
      have hwf4 := parse_wf HY2.out
      have HC4 := hide hc4
      have HR4 := hide hr4
      have HBL4 := hide hb4
      have HWF4 := hide hwf4
      have HTS4 : Hid ((textL y2).length ≤ 4294967200) := by rw [HT2.out]; exact HTS.out
      clear hy4 hwf4 hc4 hr4 hb4
      go_wp2_with fail
      refine (scriptText_any g4 y2 rv4 lv4 w4 _ HC4.out HR4.out HBL4.out HE4.out.tab HWF4.out.2 HTS4.out).mono ?_
      rintro e w5 ⟨rfl, hB5⟩
      rw [HT2.out]
      have HB5 := hide (HB4.out.trans (hB5.mono hs4))
      clear hB5
      generalize strA (textL y) = T at *
      go_wp2
      go_ret
      exact ⟨by simp, HB5.out⟩
    · have hyy : parseL (textL y) = .error f4 := hf4
      rw [HY2.out] at hyy
      cases hyy
  · obtain ⟨g1, g2, g3⟩ := parse_fok s.data.toList f hf
    have e : s.data.toList.length = s.size := by simp
    rw [e] at g3
    have h0 : ((f.err : Int) != 0) = true := by simp; omega
    have h1 : ((f.err : Int) == 1) = false := by simp; omega
    have h6 : ¬ (600 : Int) < (s.size : Int) := by omega
    have h7 : (0 : Int) ≤ (f.pos : Int) := by omega
    have h8 : (f.pos : Int) ≤ (s.size : Int) := by omega
    have h9 : decide ((600 : Int) < (s.size : Int)) = false := decide_eq_false h6
    clear hf e g1 g2 g3
    go_wp2
    go_ret
    first | exact ⟨rfl, HB2.out⟩ | exact ⟨by simp [h9], HB2.out⟩

end Go.Proofs.YtbiclelojbfnbaaGreatDoor

namespace Go.Proofs.YtbiclelojbfnbaaGreatDoor
open Go.ChangeShapes Go.WideShapes Go.ChangeAt Go.WideMaps Go.WideElems Go.RowKit
open Go.ChangeMaps (open_string shut_string)
set_option linter.unusedVariables false

set_option maxRecDepth 100000 in
theorem round_lifted (os : Os) (started : os.Started) (H : Type) (enc : TypeId × Value → H) :
    ReturnsInHanded {} Tryz.checked os 10 .any (fun w args => (Rows.roundSpec.pre enc Tryz.prog Tryz.f10 [] false w args ∧ laidMetH Tryz.prog laid4 w) ∧ sizedMet enc Tryz.prog Tryz.f10 (OpenSpec.ofChange Rows.roundSpec) false w args)
      (Rows.roundSpec.post enc Tryz.prog Tryz.f10 false true false false) := by
  refine wrap_both (C := Tryz.checked) (X := fun w _ => laidMetH Tryz.prog laid4 w) (fun _ _ _ hh h => h.of_heap hh) Tryz.own started (by kernel_rfl) Tryz.func10
    (ChangeSpec.witness_shaped (enc := enc) (C := Tryz.checked) (os := os) (X := fun w _ => laidMetH Tryz.prog laid4 w) false (World.doorLaid Tryz.prog 400 os) #[.string ⟨#[]⟩] 8 rfl (World.shaped_of_RefB (by kernel_rfl) (by kernel_rfl)) (by kernel_rfl) (by kernel_rfl) (by kernel_rfl) (door_met os _)) ?_
  intro W base args ds gs before hval0 hW hwt hL hsh
  have hval : ∀ (j : Nat) t v, Tryz.f10.params[j]? = some t → args[j]? = some v → Value.okWide Tryz.prog W .any base t v := hval0
  have hW' := hW
  obtain ⟨p, q, hA0, hV, rfl, hfz, hnd⟩ := hW
  have hA : DataW.TrodAll enc Tryz.prog W 0 (fun _ => true) true Tryz.f10.params.toList args.toList ds p := hA0
  rw [Tryz.params10] at hA hval
  obtain ⟨v0, d0, rfl, rfl, h0⟩ := trodAll_one hA
  obtain ⟨rfl, rfl⟩ := trodVars_none hV
  obtain ⟨s, rfl, rfl, rfl, hs⟩ := open_string Tryz.underlying9 (hval 0 9 v0 rfl rfl) h0
  have hL' := of_laid hL
  have e1 : Rows.roundSpec.fn H ([.lit (.string s.data.toList)] ++ []) = { results := [.lit (.bool true)], args := [.lit (.string s.data.toList)] } := by simp [Rows.roundSpec]
  refine (round_any s W ⟨max_any hsh, hL'.1, hL'.2⟩ (by unfold maxLen at hs; omega)).mono fun e W' ⟨he, hb⟩ => ?_
  subst he
  refine ⟨_, rfl, _, _, _, [], [], [], hW', ?_, ?_, ?_, hb.frame _, fun h => by cases h⟩
  · rw [e1]; exact trodAll_mk1 (shut_bool Tryz.underlying4 true)
  · rw [e1]; exact trodAll_mk1 (shut_string Tryz.underlying9 hs)
  · rw [e1]; rfl

end Go.Proofs.YtbiclelojbfnbaaGreatDoor

namespace Go.Proofs.YtbiclelojbfnbaaGreatDoor
open Go

theorem round_inst : (Tryz.f10).isInstance Tryz.prog Rows.roundRow.origin Rows.roundRow.targs := of_decide_eq_true (by kernel_rfl)
theorem round_wrap : (Tryz.f10).isWrapper Tryz.prog Rows.roundRow.wrapper Rows.roundRow.mainSum := by
  unfold Func.isWrapper
  first
    | (rw [if_pos (by decide +kernel)]; kernel_rfl)
    | (rw [if_neg (by decide +kernel)]; exact ⟨rfl, rfl⟩)
theorem round_holds : Rows.RoundSaid :=
  OpenClaim.holds_of_wide 10 Tryz.f10 rfl rfl rfl rfl rfl rfl rfl ⟨rfl, rfl, rfl, rfl, rfl⟩ rfl rfl rfl rfl rfl round_named Tryz.func10 round_closed
    round_inst round_wrap (fun os started H enc _ => round_lifted os started H enc)
theorem round_want : ∀ (j : Nat) (t : TypeId), (Tryz.f10).params[j]? = some t → Tryz.prog.wantsStandIn t = false := fun j t ht => by
  rw [Tryz.params10] at ht
  have hm : t ∈ [9] := by
    have := List.mem_of_getElem? (l := [9]) (by simpa using ht)
    exact this
  simp only [List.mem_cons, List.not_mem_nil, or_false] at hm
  subst hm; exact (show Tryz.prog.wantsStandIn 9 = false by kernel_rfl)
theorem round_wf : Rows.roundRow.wfByText (OpenSpec.ofChange Rows.roundSpec) = true := by kernel_rfl
theorem round_main : Tryz.pinned.checked.prog.mainIs = some (true, "9ceb2eaf1a16ec9e22eeaf2f53cd7e632e19e15a0eaf49145f9bde2ade0bd6a0".toList) := by kernel_rfl
theorem round_looks : true = Tryz.pinned.checked.prog.looks [] := by kernel_rfl
theorem round_goes : false = Rows.roundRow.goesBy Tryz.pinned.checked.prog := by kernel_rfl
theorem round_card_holds : Rows.RoundCardSaid :=
  Claim7.holds_tied_plain_at .later [] [.data, .data, .data, .handle] true (true, "9ceb2eaf1a16ec9e22eeaf2f53cd7e632e19e15a0eaf49145f9bde2ade0bd6a0") true
    round_holds (fun _ h => by cases h) round_wf (fun _ h => by cases h) round_row_tie rfl ⟨rfl, rfl⟩ round_main rfl
    (fun f fn hf hfn => by
      obtain rfl : f = 10 := (Option.some.inj (round_named.symm.trans hf)).symm
      obtain rfl : fn = Tryz.f10 := (Option.some.inj (Tryz.func10.symm.trans hfn)).symm
      exact ⟨round_looks, round_want⟩)
    round_goes

end Go.Proofs.YtbiclelojbfnbaaGreatDoor

