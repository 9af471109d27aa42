import Derived.Test.YtbiclelojbfnbaaGreatDoorLawsZ
import Derived.Test.YtbiclelojbfnbaaGreatDoorSpacedF
import Derived.Test.YtbiclelojbfnbaaGreatDoorTie
import Derived.Test.YtbiclelojbfnbaaGreatDoorCards
import Derived.SevenTiedAt
namespace Go.Proofs.YtbiclelojbfnbaaGreatDoor
open Go.RowKit
set_option linter.unusedVariables false
set_option linter.unusedSimpArgs false
attribute [local go_sem ↓] Go.wp_at_zero Go.wp_at_succ

theorem pad_list (A B : List UInt8) (s : ByteArray) : (strA A ++ s ++ strA B).data.toList = A ++ (s.data.toList ++ B) := by
  simp [strA]
theorem pad_size (A B : List UInt8) (s : ByteArray) : (strA A ++ s ++ strA B).size = A.length + s.size + B.length := by
  have h := congrArg List.length (pad_list A B s)
  simp only [List.length_append] at h
  have e1 : (strA A ++ s ++ strA B).data.toList.length = (strA A ++ s ++ strA B).size := by simp; omega
  have e2 : s.data.toList.length = s.size := by simp
  omega
/-- The plain law, as the walk asks it. -/
theorem spaced_plain (m : Nat) (hm : m < 4) (s U : ByteArray) (hU : U.data.toList = padA m ++ (s.data.toList ++ padB m)) :
    (∀ y, parseL s.data.toList = .ok y → ∃ y', parseL U.data.toList = .ok y' ∧ textL y' = textL y) ∧ (∀ e, parseL s.data.toList = .error e → e.err = 2 ∨ ∃ e', parseL U.data.toList = .error e' ∧ e'.err = e.err ∧ e.pos ≤ e'.pos) := by
  obtain ⟨h1, h2⟩ := parse_sim (pad_ok m hm) hU
  refine ⟨fun y hy => ?_, h2⟩
  obtain ⟨y', h3, h4, h5⟩ := h1 y hy
  refine ⟨y', h3, ?_⟩
  unfold textL
  rw [h4, lines_z y.2 y'.2 h5]

set_option maxRecDepth 100000 in
set_option maxHeartbeats 8000000 in
theorem spaced_0 (s : ByteArray) (k : Int) (w : World) (he : Env w) (hp : ∀ W, Calls Tryz.prog 23 #[.int .i64 k, .int .i64 4] W fun e w' => e = .returned (.int .i64 0) ∧ w' = W) (hs : s.size ≤ 281474976710656) :
    Calls Tryz.prog 11 #[.string s, .int .i64 k] w fun e w' => e = .returned (.bool true) ∧ Below w.heap.size w w' := by
  have HE := hide he
  have HPK := hide hp
  clear he hp
  go_enter Tryz.func11, Tryz.ntmps11
  go_wp2_with fail
  refine (parses_any w HE.out).mono ?_
  rintro e w1 ⟨rfl, hB1⟩
  have HB1 := hide hB1
  have HE1 := hide (HE.out.below hB1)
  have hs1 := hB1.size
  clear hB1
  go_wp2_with fail
  refine (HPK.out w1).mono ?_
  rintro e w0 ⟨rfl, hw0⟩
  have hw0' := hw0.symm
  subst hw0'
  have HUl : Hid (((⟨#[32]⟩ : ByteArray) ++ s ++ (⟨#[10]⟩ : ByteArray)).data.toList = padA 0 ++ (s.data.toList ++ padB 0)) := pad_list [32] [10] s
  have hUs : ((⟨#[32]⟩ : ByteArray) ++ s ++ (⟨#[10]⟩ : ByteArray)).size = 1 + s.size + 1 := pad_size [32] [10] s
  have HUs := hide hUs
  obtain ⟨U, hUU⟩ : ∃ U, (⟨#[32]⟩ : ByteArray) ++ s ++ (⟨#[10]⟩ : ByteArray) = U := ⟨_, rfl⟩
  rw [hUU] at HUl hUs
  · have HSP := hide (spaced_plain 0 (by decide) s U HUl.out)
    clear HUl
    go_wp2_with fail
    refine (pparse_any s w1 HE1.out.m1 HE1.out.et).mono ?_
    rintro e w2 ⟨hB2, hP⟩
    have HB2 := hide (HB1.out.trans (hB2.mono hs1))
    have HE2 := hide (HE1.out.below hB2)
    have hs2 := HB2.out.size
    clear hB2
    rcases hP with ⟨hl, rfl⟩ | ⟨hsz, y, g, rv, lv, hy, rfl, hz, hc, hr, hb⟩ | ⟨hsz, f, hf, rfl⟩
    · have h6 : (600 : Int) < (U.size : Int) := by omega
      go_wp2_with fail
      refine (pparse_any U w2 HE2.out.m1 HE2.out.et).mono ?_
      rintro e w3 ⟨hB3, hP3⟩
      have HB3 := hide (HB2.out.trans (hB3.mono hs2))
      clear hB3
      rcases hP3 with ⟨hl3, rfl⟩ | ⟨hsz3, y3, g3, rv3, lv3, hy3, rfl, _⟩ | ⟨hsz3, f3, hf3, rfl⟩
      · go_wp2
        go_ret
        exact ⟨rfl, HB3.out⟩
      · exact absurd hsz3 (by omega)
      · exact absurd hsz3 (by omega)
    · have HY := hide hy
      have hwf := parse_wf hy
      have HTS := hide (text_small hy hsz)
      obtain ⟨y2, hy2, ht2⟩ := HSP.out.1 y hy
      have HC := hide hc
      have HR := hide hr
      have HBL := hide hb
      have HWF := hide hwf
      have HY2 := hide hy2
      have HT2 := hide ht2
      clear hy hwf hy2 ht2 hc hr hb
      go_wp2_with fail
      refine (pparse_any U w2 HE2.out.m1 HE2.out.et).mono ?_
      rintro e w3 ⟨hB3, hP3⟩
      have HB3 := hide (HB2.out.trans (hB3.mono hs2))
      have HE3 := hide (HE2.out.below hB3)
      have HC3 := hide (blk_below HC.out hB3)
      have HR3 := hide (HR.out.keep (fun k _ hk => hB3.block k hk))
      have HBL3 := hide (HBL.out.keep (cmdV_tree 7) (fun k _ hk => hB3.block k hk))
      have hs3 := HB3.out.size
      clear hB3
      rcases hP3 with ⟨hl3, rfl⟩ | ⟨hsz3, y3, g3, rv3, lv3, hy3, rfl, hz3, hc3, hr3, hb3⟩ | ⟨hsz3, f3, hf3, rfl⟩
      · have h6 : (600 : Int) < (U.size : Int) := by omega
        go_wp2
        go_ret
        exact ⟨rfl, HB3.out⟩
      · have h6 : ¬ (600 : Int) < (U.size : Int) := by omega
        rw [HY2.out] at hy3
        cases hy3
        have HTS3 := hide (text_small HY2.out hsz3)
        have HWF3 := hide (parse_wf HY2.out)
        have HC3' := hide hc3
        have HR3' := hide hr3
        have HBL3' := hide hb3
        clear hc3 hr3 hb3
        go_wp2_with fail
        refine (scriptText_any g y rv lv w3 _ HC3.out HR3.out HBL3.out HE3.out.tab HWF.out.2 HTS.out).mono ?_
        rintro e w4 ⟨rfl, hB4⟩
        have HB4 := hide (HB3.out.trans (hB4.mono hs3))
        have HE4 := hide (HE3.out.below hB4)
        have HC4 := hide (blk_below HC3'.out hB4)
        have HR4 := hide (HR3'.out.keep (fun k _ hk => hB4.block k hk))
        have HBL4 := hide (HBL3'.out.keep (cmdV_tree 7) (fun k _ hk => hB4.block k hk))
        have hs4 := HB4.out.size
        clear hB4
        go_wp2_with fail
        refine (scriptText_any g3 y2 rv3 lv3 w4 _ HC4.out HR4.out HBL4.out HE4.out.tab HWF3.out.2 HTS3.out).mono ?_
        rintro e w5 ⟨rfl, hB5⟩
        rw [HT2.out]
        have HB5 := hide (HB4.out.trans (hB5.mono hs4))
        clear hB5
        generalize strA (textL y) = T at *
        go_wp2
        go_ret
        exact ⟨by simp, HB5.out⟩
      · rw [HY2.out] at hf3
        cases hf3
    · have HF := hide hf
      have HSE := hide (HSP.out.2 f hf)
      clear hf
      go_wp2_with fail
      refine (pparse_any U w2 HE2.out.m1 HE2.out.et).mono ?_
      rintro e w3 ⟨hB3, hP3⟩
      have HB3 := hide (HB2.out.trans (hB3.mono hs2))
      clear hB3
      rcases hP3 with ⟨hl3, rfl⟩ | ⟨hsz3, y3, g3, rv3, lv3, hy3, rfl, hz3, hc3, hr3, hb3⟩ | ⟨hsz3, f3, hf3, rfl⟩
      · have h6 : (600 : Int) < (U.size : Int) := by omega
        go_wp2
        go_ret
        exact ⟨rfl, HB3.out⟩
      · have h6 : ¬ (600 : Int) < (U.size : Int) := by omega
        have h2 : f.err = 2 := by
          rcases HSE.out with h | ⟨e', h, _⟩
          · exact h
          · rw [hy3] at h; cases h
        have h2' : ((f.err : Int) == 2) = true := by rw [h2]; rfl
        clear hy3 hc3 hr3 hb3 h2
        go_wp2
        go_ret
        first | exact ⟨rfl, HB3.out⟩ | exact ⟨by simp [h2'], HB3.out⟩
      · have h6 : ¬ (600 : Int) < (U.size : Int) := by omega
        by_cases h2 : f.err = 2
        · have h2' : ((f.err : Int) == 2) = true := by rw [h2]; rfl
          clear hf3 h2
          go_wp2
          go_ret
          first | exact ⟨rfl, HB3.out⟩ | exact ⟨by simp [h2'], HB3.out⟩
        · obtain ⟨h3, h4⟩ : f3.err = f.err ∧ f.pos ≤ f3.pos := by
            rcases HSE.out with h | ⟨e', h, h7, h8⟩
            · exact absurd h h2
            · rw [hf3] at h; cases h; exact ⟨h7, h8⟩
          have h2' : ((f.err : Int) == 2) = false := by simp; omega
          have h3' : ((f.err : Int) == (f3.err : Int)) = true := by simp; omega
          have h4' : (f.pos : Int) ≤ (f3.pos : Int) := by omega
          have h5' : decide ((f.pos : Int) ≤ (f3.pos : Int)) = true := decide_eq_true h4'
          clear hf3 h2 h3 h4
          go_wp2
          go_ret
          first | exact ⟨rfl, HB3.out⟩ | exact ⟨by simp [h5'], HB3.out⟩ | exact ⟨by simp [h2', h3', h5'], HB3.out⟩
set_option maxRecDepth 100000 in
set_option maxHeartbeats 8000000 in
theorem spaced_1 (s : ByteArray) (k : Int) (w : World) (he : Env w) (hp : ∀ W, Calls Tryz.prog 23 #[.int .i64 k, .int .i64 4] W fun e w' => e = .returned (.int .i64 1) ∧ w' = W) (hs : s.size ≤ 281474976710656) :
    Calls Tryz.prog 11 #[.string s, .int .i64 k] w fun e w' => e = .returned (.bool true) ∧ Below w.heap.size w w' := by
  have HE := hide he
  have HPK := hide hp
  clear he hp
  go_enter Tryz.func11, Tryz.ntmps11
  go_wp2_with fail
  refine (parses_any w HE.out).mono ?_
  rintro e w1 ⟨rfl, hB1⟩
  have HB1 := hide hB1
  have HE1 := hide (HE.out.below hB1)
  have hs1 := hB1.size
  clear hB1
  go_wp2_with fail
  refine (HPK.out w1).mono ?_
  rintro e w0 ⟨rfl, hw0⟩
  have hw0' := hw0.symm
  subst hw0'
  have HUl : Hid (((⟨#[35, 10]⟩ : ByteArray) ++ s ++ (⟨#[10, 47, 42, 42, 47]⟩ : ByteArray)).data.toList = padA 1 ++ (s.data.toList ++ padB 1)) := pad_list [35, 10] [10, 47, 42, 42, 47] s
  have hUs : ((⟨#[35, 10]⟩ : ByteArray) ++ s ++ (⟨#[10, 47, 42, 42, 47]⟩ : ByteArray)).size = 2 + s.size + 5 := pad_size [35, 10] [10, 47, 42, 42, 47] s
  have HUs := hide hUs
  obtain ⟨U, hUU⟩ : ∃ U, (⟨#[35, 10]⟩ : ByteArray) ++ s ++ (⟨#[10, 47, 42, 42, 47]⟩ : ByteArray) = U := ⟨_, rfl⟩
  rw [hUU] at HUl hUs
  · have HSP := hide (spaced_plain 1 (by decide) s U HUl.out)
    clear HUl
    go_wp2_with fail
    refine (pparse_any s w1 HE1.out.m1 HE1.out.et).mono ?_
    rintro e w2 ⟨hB2, hP⟩
    have HB2 := hide (HB1.out.trans (hB2.mono hs1))
    have HE2 := hide (HE1.out.below hB2)
    have hs2 := HB2.out.size
    clear hB2
    rcases hP with ⟨hl, rfl⟩ | ⟨hsz, y, g, rv, lv, hy, rfl, hz, hc, hr, hb⟩ | ⟨hsz, f, hf, rfl⟩
    · have h6 : (600 : Int) < (U.size : Int) := by omega
      go_wp2_with fail
      refine (pparse_any U w2 HE2.out.m1 HE2.out.et).mono ?_
      rintro e w3 ⟨hB3, hP3⟩
      have HB3 := hide (HB2.out.trans (hB3.mono hs2))
      clear hB3
      rcases hP3 with ⟨hl3, rfl⟩ | ⟨hsz3, y3, g3, rv3, lv3, hy3, rfl, _⟩ | ⟨hsz3, f3, hf3, rfl⟩
      · go_wp2
        go_ret
        exact ⟨rfl, HB3.out⟩
      · exact absurd hsz3 (by omega)
      · exact absurd hsz3 (by omega)
    · have HY := hide hy
      have hwf := parse_wf hy
      have HTS := hide (text_small hy hsz)
      obtain ⟨y2, hy2, ht2⟩ := HSP.out.1 y hy
      have HC := hide hc
      have HR := hide hr
      have HBL := hide hb
      have HWF := hide hwf
      have HY2 := hide hy2
      have HT2 := hide ht2
      clear hy hwf hy2 ht2 hc hr hb
      go_wp2_with fail
      refine (pparse_any U w2 HE2.out.m1 HE2.out.et).mono ?_
      rintro e w3 ⟨hB3, hP3⟩
      have HB3 := hide (HB2.out.trans (hB3.mono hs2))
      have HE3 := hide (HE2.out.below hB3)
      have HC3 := hide (blk_below HC.out hB3)
      have HR3 := hide (HR.out.keep (fun k _ hk => hB3.block k hk))
      have HBL3 := hide (HBL.out.keep (cmdV_tree 7) (fun k _ hk => hB3.block k hk))
      have hs3 := HB3.out.size
      clear hB3
      rcases hP3 with ⟨hl3, rfl⟩ | ⟨hsz3, y3, g3, rv3, lv3, hy3, rfl, hz3, hc3, hr3, hb3⟩ | ⟨hsz3, f3, hf3, rfl⟩
      · have h6 : (600 : Int) < (U.size : Int) := by omega
        go_wp2
        go_ret
        exact ⟨rfl, HB3.out⟩
      · have h6 : ¬ (600 : Int) < (U.size : Int) := by omega
        rw [HY2.out] at hy3
        cases hy3
        have HTS3 := hide (text_small HY2.out hsz3)
        have HWF3 := hide (parse_wf HY2.out)
        have HC3' := hide hc3
        have HR3' := hide hr3
        have HBL3' := hide hb3
        clear hc3 hr3 hb3
        go_wp2_with fail
        refine (scriptText_any g y rv lv w3 _ HC3.out HR3.out HBL3.out HE3.out.tab HWF.out.2 HTS.out).mono ?_
        rintro e w4 ⟨rfl, hB4⟩
        have HB4 := hide (HB3.out.trans (hB4.mono hs3))
        have HE4 := hide (HE3.out.below hB4)
        have HC4 := hide (blk_below HC3'.out hB4)
        have HR4 := hide (HR3'.out.keep (fun k _ hk => hB4.block k hk))
        have HBL4 := hide (HBL3'.out.keep (cmdV_tree 7) (fun k _ hk => hB4.block k hk))
        have hs4 := HB4.out.size
        clear hB4
        go_wp2_with fail
        refine (scriptText_any g3 y2 rv3 lv3 w4 _ HC4.out HR4.out HBL4.out HE4.out.tab HWF3.out.2 HTS3.out).mono ?_
        rintro e w5 ⟨rfl, hB5⟩
        rw [HT2.out]
        have HB5 := hide (HB4.out.trans (hB5.mono hs4))
        clear hB5
        generalize strA (textL y) = T at *
        go_wp2
        go_ret
        exact ⟨by simp, HB5.out⟩
      · rw [HY2.out] at hf3
        cases hf3
    · have HF := hide hf
      have HSE := hide (HSP.out.2 f hf)
      clear hf
      go_wp2_with fail
      refine (pparse_any U w2 HE2.out.m1 HE2.out.et).mono ?_
      rintro e w3 ⟨hB3, hP3⟩
      have HB3 := hide (HB2.out.trans (hB3.mono hs2))
      clear hB3
      rcases hP3 with ⟨hl3, rfl⟩ | ⟨hsz3, y3, g3, rv3, lv3, hy3, rfl, hz3, hc3, hr3, hb3⟩ | ⟨hsz3, f3, hf3, rfl⟩
      · have h6 : (600 : Int) < (U.size : Int) := by omega
        go_wp2
        go_ret
        exact ⟨rfl, HB3.out⟩
      · have h6 : ¬ (600 : Int) < (U.size : Int) := by omega
        have h2 : f.err = 2 := by
          rcases HSE.out with h | ⟨e', h, _⟩
          · exact h
          · rw [hy3] at h; cases h
        have h2' : ((f.err : Int) == 2) = true := by rw [h2]; rfl
        clear hy3 hc3 hr3 hb3 h2
        go_wp2
        go_ret
        first | exact ⟨rfl, HB3.out⟩ | exact ⟨by simp [h2'], HB3.out⟩
      · have h6 : ¬ (600 : Int) < (U.size : Int) := by omega
        by_cases h2 : f.err = 2
        · have h2' : ((f.err : Int) == 2) = true := by rw [h2]; rfl
          clear hf3 h2
          go_wp2
          go_ret
          first | exact ⟨rfl, HB3.out⟩ | exact ⟨by simp [h2'], HB3.out⟩
        · obtain ⟨h3, h4⟩ : f3.err = f.err ∧ f.pos ≤ f3.pos := by
            rcases HSE.out with h | ⟨e', h, h7, h8⟩
            · exact absurd h h2
            · rw [hf3] at h; cases h; exact ⟨h7, h8⟩
          have h2' : ((f.err : Int) == 2) = false := by simp; omega
          have h3' : ((f.err : Int) == (f3.err : Int)) = true := by simp; omega
          have h4' : (f.pos : Int) ≤ (f3.pos : Int) := by omega
          have h5' : decide ((f.pos : Int) ≤ (f3.pos : Int)) = true := decide_eq_true h4'
          clear hf3 h2 h3 h4
          go_wp2
          go_ret
          first | exact ⟨rfl, HB3.out⟩ | exact ⟨by simp [h5'], HB3.out⟩ | exact ⟨by simp [h2', h3', h5'], HB3.out⟩
set_option maxRecDepth 100000 in
set_option maxHeartbeats 8000000 in
theorem spaced_2 (s : ByteArray) (k : Int) (w : World) (he : Env w) (hp : ∀ W, Calls Tryz.prog 23 #[.int .i64 k, .int .i64 4] W fun e w' => e = .returned (.int .i64 2) ∧ w' = W) (hs : s.size ≤ 281474976710656) :
    Calls Tryz.prog 11 #[.string s, .int .i64 k] w fun e w' => e = .returned (.bool true) ∧ Below w.heap.size w w' := by
  have HE := hide he
  have HPK := hide hp
  clear he hp
  go_enter Tryz.func11, Tryz.ntmps11
  go_wp2_with fail
  refine (parses_any w HE.out).mono ?_
  rintro e w1 ⟨rfl, hB1⟩
  have HB1 := hide hB1
  have HE1 := hide (HE.out.below hB1)
  have hs1 := hB1.size
  clear hB1
  go_wp2_with fail
  refine (HPK.out w1).mono ?_
  rintro e w0 ⟨rfl, hw0⟩
  have hw0' := hw0.symm
  subst hw0'
  have HUl : Hid (((⟨#[47, 42, 32, 34, 32, 42, 47]⟩ : ByteArray) ++ s ++ (⟨#[10, 35, 32, 101, 110, 100]⟩ : ByteArray)).data.toList = padA 2 ++ (s.data.toList ++ padB 2)) := pad_list [47, 42, 32, 34, 32, 42, 47] [10, 35, 32, 101, 110, 100] s
  have hUs : ((⟨#[47, 42, 32, 34, 32, 42, 47]⟩ : ByteArray) ++ s ++ (⟨#[10, 35, 32, 101, 110, 100]⟩ : ByteArray)).size = 7 + s.size + 6 := pad_size [47, 42, 32, 34, 32, 42, 47] [10, 35, 32, 101, 110, 100] s
  have HUs := hide hUs
  obtain ⟨U, hUU⟩ : ∃ U, (⟨#[47, 42, 32, 34, 32, 42, 47]⟩ : ByteArray) ++ s ++ (⟨#[10, 35, 32, 101, 110, 100]⟩ : ByteArray) = U := ⟨_, rfl⟩
  rw [hUU] at HUl hUs
  · have HSP := hide (spaced_plain 2 (by decide) s U HUl.out)
    clear HUl
    go_wp2_with fail
    refine (pparse_any s w1 HE1.out.m1 HE1.out.et).mono ?_
    rintro e w2 ⟨hB2, hP⟩
    have HB2 := hide (HB1.out.trans (hB2.mono hs1))
    have HE2 := hide (HE1.out.below hB2)
    have hs2 := HB2.out.size
    clear hB2
    rcases hP with ⟨hl, rfl⟩ | ⟨hsz, y, g, rv, lv, hy, rfl, hz, hc, hr, hb⟩ | ⟨hsz, f, hf, rfl⟩
    · have h6 : (600 : Int) < (U.size : Int) := by omega
      go_wp2_with fail
      refine (pparse_any U w2 HE2.out.m1 HE2.out.et).mono ?_
      rintro e w3 ⟨hB3, hP3⟩
      have HB3 := hide (HB2.out.trans (hB3.mono hs2))
      clear hB3
      rcases hP3 with ⟨hl3, rfl⟩ | ⟨hsz3, y3, g3, rv3, lv3, hy3, rfl, _⟩ | ⟨hsz3, f3, hf3, rfl⟩
      · go_wp2
        go_ret
        exact ⟨rfl, HB3.out⟩
      · exact absurd hsz3 (by omega)
      · exact absurd hsz3 (by omega)
    · have HY := hide hy
      have hwf := parse_wf hy
      have HTS := hide (text_small hy hsz)
      obtain ⟨y2, hy2, ht2⟩ := HSP.out.1 y hy
      have HC := hide hc
      have HR := hide hr
      have HBL := hide hb
      have HWF := hide hwf
      have HY2 := hide hy2
      have HT2 := hide ht2
      clear hy hwf hy2 ht2 hc hr hb
      go_wp2_with fail
      refine (pparse_any U w2 HE2.out.m1 HE2.out.et).mono ?_
      rintro e w3 ⟨hB3, hP3⟩
      have HB3 := hide (HB2.out.trans (hB3.mono hs2))
      have HE3 := hide (HE2.out.below hB3)
      have HC3 := hide (blk_below HC.out hB3)
      have HR3 := hide (HR.out.keep (fun k _ hk => hB3.block k hk))
      have HBL3 := hide (HBL.out.keep (cmdV_tree 7) (fun k _ hk => hB3.block k hk))
      have hs3 := HB3.out.size
      clear hB3
      rcases hP3 with ⟨hl3, rfl⟩ | ⟨hsz3, y3, g3, rv3, lv3, hy3, rfl, hz3, hc3, hr3, hb3⟩ | ⟨hsz3, f3, hf3, rfl⟩
      · have h6 : (600 : Int) < (U.size : Int) := by omega
        go_wp2
        go_ret
        exact ⟨rfl, HB3.out⟩
      · have h6 : ¬ (600 : Int) < (U.size : Int) := by omega
        rw [HY2.out] at hy3
        cases hy3
        have HTS3 := hide (text_small HY2.out hsz3)
        have HWF3 := hide (parse_wf HY2.out)
        have HC3' := hide hc3
        have HR3' := hide hr3
        have HBL3' := hide hb3
        clear hc3 hr3 hb3
        go_wp2_with fail
        refine (scriptText_any g y rv lv w3 _ HC3.out HR3.out HBL3.out HE3.out.tab HWF.out.2 HTS.out).mono ?_
        rintro e w4 ⟨rfl, hB4⟩
        have HB4 := hide (HB3.out.trans (hB4.mono hs3))
        have HE4 := hide (HE3.out.below hB4)
        have HC4 := hide (blk_below HC3'.out hB4)
        have HR4 := hide (HR3'.out.keep (fun k _ hk => hB4.block k hk))
        have HBL4 := hide (HBL3'.out.keep (cmdV_tree 7) (fun k _ hk => hB4.block k hk))
        have hs4 := HB4.out.size
        clear hB4
        go_wp2_with fail
        refine (scriptText_any g3 y2 rv3 lv3 w4 _ HC4.out HR4.out HBL4.out HE4.out.tab HWF3.out.2 HTS3.out).mono ?_
        rintro e w5 ⟨rfl, hB5⟩
        rw [HT2.out]
        have HB5 := hide (HB4.out.trans (hB5.mono hs4))
        clear hB5
        generalize strA (textL y) = T at *
        go_wp2
        go_ret
        exact ⟨by simp, HB5.out⟩
      · rw [HY2.out] at hf3
        cases hf3
    · have HF := hide hf
      have HSE := hide (HSP.out.2 f hf)
      clear hf
      go_wp2_with fail
      refine (pparse_any U w2 HE2.out.m1 HE2.out.et).mono ?_
      rintro e w3 ⟨hB3, hP3⟩
      have HB3 := hide (HB2.out.trans (hB3.mono hs2))
      clear hB3
      rcases hP3 with ⟨hl3, rfl⟩ | ⟨hsz3, y3, g3, rv3, lv3, hy3, rfl, hz3, hc3, hr3, hb3⟩ | ⟨hsz3, f3, hf3, rfl⟩
      · have h6 : (600 : Int) < (U.size : Int) := by omega
        go_wp2
        go_ret
        exact ⟨rfl, HB3.out⟩
      · have h6 : ¬ (600 : Int) < (U.size : Int) := by omega
        have h2 : f.err = 2 := by
          rcases HSE.out with h | ⟨e', h, _⟩
          · exact h
          · rw [hy3] at h; cases h
        have h2' : ((f.err : Int) == 2) = true := by rw [h2]; rfl
        clear hy3 hc3 hr3 hb3 h2
        go_wp2
        go_ret
        first | exact ⟨rfl, HB3.out⟩ | exact ⟨by simp [h2'], HB3.out⟩
      · have h6 : ¬ (600 : Int) < (U.size : Int) := by omega
        by_cases h2 : f.err = 2
        · have h2' : ((f.err : Int) == 2) = true := by rw [h2]; rfl
          clear hf3 h2
          go_wp2
          go_ret
          first | exact ⟨rfl, HB3.out⟩ | exact ⟨by simp [h2'], HB3.out⟩
        · obtain ⟨h3, h4⟩ : f3.err = f.err ∧ f.pos ≤ f3.pos := by
            rcases HSE.out with h | ⟨e', h, h7, h8⟩
            · exact absurd h h2
            · rw [hf3] at h; cases h; exact ⟨h7, h8⟩
          have h2' : ((f.err : Int) == 2) = false := by simp; omega
          have h3' : ((f.err : Int) == (f3.err : Int)) = true := by simp; omega
          have h4' : (f.pos : Int) ≤ (f3.pos : Int) := by omega
          have h5' : decide ((f.pos : Int) ≤ (f3.pos : Int)) = true := decide_eq_true h4'
          clear hf3 h2 h3 h4
          go_wp2
          go_ret
          first | exact ⟨rfl, HB3.out⟩ | exact ⟨by simp [h5'], HB3.out⟩ | exact ⟨by simp [h2', h3', h5'], HB3.out⟩
set_option maxRecDepth 100000 in
set_option maxHeartbeats 8000000 in
theorem spaced_3 (s : ByteArray) (k : Int) (w : World) (he : Env w) (hp : ∀ W, Calls Tryz.prog 23 #[.int .i64 k, .int .i64 4] W fun e w' => e = .returned (.int .i64 3) ∧ w' = W) (hs : s.size ≤ 281474976710656) :
    Calls Tryz.prog 11 #[.string s, .int .i64 k] w fun e w' => e = .returned (.bool true) ∧ Below w.heap.size w w' := by
  have HE := hide he
  have HPK := hide hp
  clear he hp
  go_enter Tryz.func11, Tryz.ntmps11
  go_wp2_with fail
  refine (parses_any w HE.out).mono ?_
  rintro e w1 ⟨rfl, hB1⟩
  have HB1 := hide hB1
  have HE1 := hide (HE.out.below hB1)
  have hs1 := hB1.size
  clear hB1
  go_wp2_with fail
  refine (HPK.out w1).mono ?_
  rintro e w0 ⟨rfl, hw0⟩
  have hw0' := hw0.symm
  subst hw0'
  have HUl : Hid (((⟨#[32, 9, 13, 10, 47, 42, 32, 107, 101, 101, 112, 59, 32, 42, 47, 35, 32, 100, 105, 115, 99, 97, 114, 100, 59, 10]⟩ : ByteArray) ++ s ++ (⟨#[10]⟩ : ByteArray)).data.toList = padA 3 ++ (s.data.toList ++ padB 3)) := pad_list [32, 9, 13, 10, 47, 42, 32, 107, 101, 101, 112, 59, 32, 42, 47, 35, 32, 100, 105, 115, 99, 97, 114, 100, 59, 10] [10] s
  have hUs : ((⟨#[32, 9, 13, 10, 47, 42, 32, 107, 101, 101, 112, 59, 32, 42, 47, 35, 32, 100, 105, 115, 99, 97, 114, 100, 59, 10]⟩ : ByteArray) ++ s ++ (⟨#[10]⟩ : ByteArray)).size = 26 + s.size + 1 := pad_size [32, 9, 13, 10, 47, 42, 32, 107, 101, 101, 112, 59, 32, 42, 47, 35, 32, 100, 105, 115, 99, 97, 114, 100, 59, 10] [10] s
  have HUs := hide hUs
  obtain ⟨U, hUU⟩ : ∃ U, (⟨#[32, 9, 13, 10, 47, 42, 32, 107, 101, 101, 112, 59, 32, 42, 47, 35, 32, 100, 105, 115, 99, 97, 114, 100, 59, 10]⟩ : ByteArray) ++ s ++ (⟨#[10]⟩ : ByteArray) = U := ⟨_, rfl⟩
  rw [hUU] at HUl hUs
  · have HSP := hide (spaced_plain 3 (by decide) s U HUl.out)
    clear HUl
    go_wp2_with fail
    refine (pparse_any s w1 HE1.out.m1 HE1.out.et).mono ?_
    rintro e w2 ⟨hB2, hP⟩
    have HB2 := hide (HB1.out.trans (hB2.mono hs1))
    have HE2 := hide (HE1.out.below hB2)
    have hs2 := HB2.out.size
    clear hB2
    rcases hP with ⟨hl, rfl⟩ | ⟨hsz, y, g, rv, lv, hy, rfl, hz, hc, hr, hb⟩ | ⟨hsz, f, hf, rfl⟩
    · have h6 : (600 : Int) < (U.size : Int) := by omega
      go_wp2_with fail
      refine (pparse_any U w2 HE2.out.m1 HE2.out.et).mono ?_
      rintro e w3 ⟨hB3, hP3⟩
      have HB3 := hide (HB2.out.trans (hB3.mono hs2))
      clear hB3
      rcases hP3 with ⟨hl3, rfl⟩ | ⟨hsz3, y3, g3, rv3, lv3, hy3, rfl, _⟩ | ⟨hsz3, f3, hf3, rfl⟩
      · go_wp2
        go_ret
        exact ⟨rfl, HB3.out⟩
      · exact absurd hsz3 (by omega)
      · exact absurd hsz3 (by omega)
    · have HY := hide hy
      have hwf := parse_wf hy
      have HTS := hide (text_small hy hsz)
      obtain ⟨y2, hy2, ht2⟩ := HSP.out.1 y hy
      have HC := hide hc
      have HR := hide hr
      have HBL := hide hb
      have HWF := hide hwf
      have HY2 := hide hy2
      have HT2 := hide ht2
      clear hy hwf hy2 ht2 hc hr hb
      go_wp2_with fail
      refine (pparse_any U w2 HE2.out.m1 HE2.out.et).mono ?_
      rintro e w3 ⟨hB3, hP3⟩
      have HB3 := hide (HB2.out.trans (hB3.mono hs2))
      have HE3 := hide (HE2.out.below hB3)
      have HC3 := hide (blk_below HC.out hB3)
      have HR3 := hide (HR.out.keep (fun k _ hk => hB3.block k hk))
      have HBL3 := hide (HBL.out.keep (cmdV_tree 7) (fun k _ hk => hB3.block k hk))
      have hs3 := HB3.out.size
      clear hB3
      rcases hP3 with ⟨hl3, rfl⟩ | ⟨hsz3, y3, g3, rv3, lv3, hy3, rfl, hz3, hc3, hr3, hb3⟩ | ⟨hsz3, f3, hf3, rfl⟩
      · have h6 : (600 : Int) < (U.size : Int) := by omega
        go_wp2
        go_ret
        exact ⟨rfl, HB3.out⟩
      · have h6 : ¬ (600 : Int) < (U.size : Int) := by omega
        rw [HY2.out] at hy3
        cases hy3
        have HTS3 := hide (text_small HY2.out hsz3)
        have HWF3 := hide (parse_wf HY2.out)
        have HC3' := hide hc3
        have HR3' := hide hr3
        have HBL3' := hide hb3
        clear hc3 hr3 hb3
        go_wp2_with fail
        refine (scriptText_any g y rv lv w3 _ HC3.out HR3.out HBL3.out HE3.out.tab HWF.out.2 HTS.out).mono ?_
        rintro e w4 ⟨rfl, hB4⟩
        have HB4 := hide (HB3.out.trans (hB4.mono hs3))
        have HE4 := hide (HE3.out.below hB4)
        have HC4 := hide (blk_below HC3'.out hB4)
        have HR4 := hide (HR3'.out.keep (fun k _ hk => hB4.block k hk))
        have HBL4 := hide (HBL3'.out.keep (cmdV_tree 7) (fun k _ hk => hB4.block k hk))
        have hs4 := HB4.out.size
        clear hB4
        go_wp2_with fail
        refine (scriptText_any g3 y2 rv3 lv3 w4 _ HC4.out HR4.out HBL4.out HE4.out.tab HWF3.out.2 HTS3.out).mono ?_
        rintro e w5 ⟨rfl, hB5⟩
        rw [HT2.out]
        have HB5 := hide (HB4.out.trans (hB5.mono hs4))
        clear hB5
        generalize strA (textL y) = T at *
        go_wp2
        go_ret
        exact ⟨by simp, HB5.out⟩
      · rw [HY2.out] at hf3
        cases hf3
    · have HF := hide hf
      have HSE := hide (HSP.out.2 f hf)
      clear hf
      go_wp2_with fail
      refine (pparse_any U w2 HE2.out.m1 HE2.out.et).mono ?_
      rintro e w3 ⟨hB3, hP3⟩
      have HB3 := hide (HB2.out.trans (hB3.mono hs2))
      clear hB3
      rcases hP3 with ⟨hl3, rfl⟩ | ⟨hsz3, y3, g3, rv3, lv3, hy3, rfl, hz3, hc3, hr3, hb3⟩ | ⟨hsz3, f3, hf3, rfl⟩
      · have h6 : (600 : Int) < (U.size : Int) := by omega
        go_wp2
        go_ret
        exact ⟨rfl, HB3.out⟩
      · have h6 : ¬ (600 : Int) < (U.size : Int) := by omega
        have h2 : f.err = 2 := by
          rcases HSE.out with h | ⟨e', h, _⟩
          · exact h
          · rw [hy3] at h; cases h
        have h2' : ((f.err : Int) == 2) = true := by rw [h2]; rfl
        clear hy3 hc3 hr3 hb3 h2
        go_wp2
        go_ret
        first | exact ⟨rfl, HB3.out⟩ | exact ⟨by simp [h2'], HB3.out⟩
      · have h6 : ¬ (600 : Int) < (U.size : Int) := by omega
        by_cases h2 : f.err = 2
        · have h2' : ((f.err : Int) == 2) = true := by rw [h2]; rfl
          clear hf3 h2
          go_wp2
          go_ret
          first | exact ⟨rfl, HB3.out⟩ | exact ⟨by simp [h2'], HB3.out⟩
        · obtain ⟨h3, h4⟩ : f3.err = f.err ∧ f.pos ≤ f3.pos := by
            rcases HSE.out with h | ⟨e', h, h7, h8⟩
            · exact absurd h h2
            · rw [hf3] at h; cases h; exact ⟨h7, h8⟩
          have h2' : ((f.err : Int) == 2) = false := by simp; omega
          have h3' : ((f.err : Int) == (f3.err : Int)) = true := by simp; omega
          have h4' : (f.pos : Int) ≤ (f3.pos : Int) := by omega
          have h5' : decide ((f.pos : Int) ≤ (f3.pos : Int)) = true := decide_eq_true h4'
          clear hf3 h2 h3 h4
          go_wp2
          go_ret
          first | exact ⟨rfl, HB3.out⟩ | exact ⟨by simp [h5'], HB3.out⟩ | exact ⟨by simp [h2', h3', h5'], HB3.out⟩

theorem spaced_any (s : ByteArray) (k : Int) (w : World) (he : Env w) (h0 : -9223372036854775808 ≤ k) (h1 : k ≤ 9223372036854775807) (hs : s.size ≤ 281474976710656) :
    Calls Tryz.prog 11 #[.string s, .int .i64 k] w fun e w' => e = .returned (.bool true) ∧ Below w.heap.size w w' := by
  obtain ⟨m, hm, hp⟩ := pick_four k h0 h1
  rcases (by omega : m = 0 ∨ m = 1 ∨ m = 2 ∨ m = 3) with rfl | rfl | rfl | rfl
  · exact spaced_0 s k w he hp hs
  · exact spaced_1 s k w he hp hs
  · exact spaced_2 s k w he hp hs
  · exact spaced_3 s k w he hp hs

end Go.Proofs.YtbiclelojbfnbaaGreatDoor

namespace Go.Proofs.YtbiclelojbfnbaaGreatDoor
open Go.ChangeShapes Go.WideShapes Go.ChangeAt Go.WideMaps Go.WideElems Go.RowKit
open Go.ChangeMaps (open_string shut_string)
set_option linter.unusedVariables false

set_option maxRecDepth 100000 in
theorem spaced_lifted (os : Os) (started : os.Started) (H : Type) (enc : TypeId × Value → H) :
    ReturnsInHanded {} Tryz.checked os 11 .any (fun w args => (Rows.spacedSpec.pre enc Tryz.prog Tryz.f11 [] false w args ∧ laidMetH Tryz.prog laid4 w) ∧ sizedMet enc Tryz.prog Tryz.f11 (OpenSpec.ofChange Rows.spacedSpec) false w args)
      (Rows.spacedSpec.post enc Tryz.prog Tryz.f11 false true false false) := by
  refine wrap_both (C := Tryz.checked) (X := fun w _ => laidMetH Tryz.prog laid4 w) (fun _ _ _ hh h => h.of_heap hh) Tryz.own started (by kernel_rfl) Tryz.func11
    (ChangeSpec.witness_shaped (enc := enc) (C := Tryz.checked) (os := os) (X := fun w _ => laidMetH Tryz.prog laid4 w) false (World.doorLaid Tryz.prog 400 os) #[.string ⟨#[]⟩, .int .i64 0] 8 rfl (World.shaped_of_RefB (by kernel_rfl) (by kernel_rfl)) (by kernel_rfl) (by kernel_rfl) (by kernel_rfl) (door_met os _)) ?_
  intro W base args ds gs before hval0 hW hwt hL hsh
  have hval : ∀ (j : Nat) t v, Tryz.f11.params[j]? = some t → args[j]? = some v → Value.okWide Tryz.prog W .any base t v := hval0
  have hW' := hW
  obtain ⟨p, q, hA0, hV, rfl, hfz, hnd⟩ := hW
  have hA : DataW.TrodAll enc Tryz.prog W 0 (fun _ => true) true Tryz.f11.params.toList args.toList ds p := hA0
  rw [Tryz.params11] at hA hval
  obtain ⟨v0, v1, d0, d1, p0, p1, rfl, rfl, hps, h0, h1⟩ := trodAll_two hA
  obtain ⟨rfl, rfl⟩ := trodVars_none hV
  obtain ⟨s, rfl, rfl, rfl, hs⟩ := open_string Tryz.underlying9 (hval 0 9 v0 rfl rfl) h0
  obtain ⟨k, rfl, rfl, rfl, hk⟩ := open_int Tryz.underlying3 (hval 1 3 v1 rfl rfl) h1
  have hL' := of_laid hL
  have hk2 : -9223372036854775808 ≤ k ∧ k ≤ 9223372036854775807 := by
    have h : (decide (IntKind.i64.min ≤ k) && decide (k ≤ IntKind.i64.max)) = true := hk
    simp only [Bool.and_eq_true, decide_eq_true_eq] at h
    have e1 : IntKind.i64.min = -9223372036854775808 := by decide
    have e2 : IntKind.i64.max = 9223372036854775807 := by decide
    omega
  have hs2 : s.size ≤ 140737488351232 := by
    have h := sized_string (j := 0) (t := 9) (bytes := s.data.toList) hwt (by rfl) (by rfl)
    have e : s.data.toList.length = s.size := by simp
    have e2 : reachBytes = 140737488351232 := by decide
    omega
  have e1 : Rows.spacedSpec.fn H ([.lit (.string s.data.toList), .lit (.int .i64 k)] ++ []) = { results := [.lit (.bool true)], args := [.lit (.string s.data.toList), .lit (.int .i64 k)] } := by simp [Rows.spacedSpec]
  refine (spaced_any s k W ⟨max_any hsh, hL'.1, hL'.2⟩ hk2.1 hk2.2 (by omega)).mono fun e W' ⟨he, hb⟩ => ?_
  subst he
  refine ⟨_, rfl, _, _, _, [], [], [], hW', ?_, ?_, ?_, hb.frame _, fun h => by cases h⟩
  · rw [e1]; exact trodAll_mk1 (shut_bool Tryz.underlying4 true)
  · rw [e1]; exact trodAll_mk2 (shut_string Tryz.underlying9 hs) (shut_int Tryz.underlying3 hk)
  · rw [e1]; rfl

end Go.Proofs.YtbiclelojbfnbaaGreatDoor

namespace Go.Proofs.YtbiclelojbfnbaaGreatDoor
open Go

theorem spaced_inst : (Tryz.f11).isInstance Tryz.prog Rows.spacedRow.origin Rows.spacedRow.targs := of_decide_eq_true (by kernel_rfl)
theorem spaced_wrap : (Tryz.f11).isWrapper Tryz.prog Rows.spacedRow.wrapper Rows.spacedRow.mainSum := by
  unfold Func.isWrapper
  first
    | (rw [if_pos (by decide +kernel)]; kernel_rfl)
    | (rw [if_neg (by decide +kernel)]; exact ⟨rfl, rfl⟩)
theorem spaced_holds : Rows.SpacedSaid :=
  OpenClaim.holds_of_wide 11 Tryz.f11 rfl rfl rfl rfl rfl rfl rfl ⟨rfl, rfl, rfl, rfl, rfl⟩ rfl rfl rfl rfl rfl spaced_named Tryz.func11 spaced_closed
    spaced_inst spaced_wrap (fun os started H enc _ => spaced_lifted os started H enc)
theorem spaced_want : ∀ (j : Nat) (t : TypeId), (Tryz.f11).params[j]? = some t → Tryz.prog.wantsStandIn t = false := fun j t ht => by
  rw [Tryz.params11] at ht
  have hm : t ∈ [9, 3] := by
    have := List.mem_of_getElem? (l := [9, 3]) (by simpa using ht)
    exact this
  simp only [List.mem_cons, List.not_mem_nil, or_false] at hm
  rcases hm with rfl | rfl
  · exact (show Tryz.prog.wantsStandIn 9 = false by kernel_rfl)
  · exact (show Tryz.prog.wantsStandIn 3 = false by kernel_rfl)
theorem spaced_wf : Rows.spacedRow.wfByText (OpenSpec.ofChange Rows.spacedSpec) = true := by kernel_rfl
theorem spaced_main : Tryz.pinned.checked.prog.mainIs = some (true, "9ceb2eaf1a16ec9e22eeaf2f53cd7e632e19e15a0eaf49145f9bde2ade0bd6a0".toList) := by kernel_rfl
theorem spaced_looks : true = Tryz.pinned.checked.prog.looks [] := by kernel_rfl
theorem spaced_goes : false = Rows.spacedRow.goesBy Tryz.pinned.checked.prog := by kernel_rfl
theorem spaced_card_holds : Rows.SpacedCardSaid :=
  Claim7.holds_tied_plain_at .later [] [.data, .data, .data, .handle] true (true, "9ceb2eaf1a16ec9e22eeaf2f53cd7e632e19e15a0eaf49145f9bde2ade0bd6a0") true
    spaced_holds (fun _ h => by cases h) spaced_wf (fun _ h => by cases h) spaced_row_tie rfl ⟨rfl, rfl⟩ spaced_main rfl
    (fun f fn hf hfn => by
      obtain rfl : f = 11 := (Option.some.inj (spaced_named.symm.trans hf)).symm
      obtain rfl : fn = Tryz.f11 := (Option.some.inj (Tryz.func11.symm.trans hfn)).symm
      exact ⟨spaced_looks, spaced_want⟩)
    spaced_goes

end Go.Proofs.YtbiclelojbfnbaaGreatDoor

