import Derived.Test.YtbiclelojbfnbaaGreatDoorCheck
namespace Go.Proofs.YtbiclelojbfnbaaGreatDoor
open Go.RowKit
set_option linter.unusedVariables false
set_option linter.unusedSimpArgs false

/-- A text, as a value. -/
def strV (x : List UInt8) (_ : World) (v : Value) : Prop := v = .string (strA x)

theorem stringL_kind {l : List UInt8} {chk : List UInt8 → Nat} {s : PS} (h : ¬ s.1.kind = 5) : stringL l chk s = .error ⟨4, s.1.pos⟩ := by unfold stringL; rw [if_neg h]
theorem stringL_chk {l : List UInt8} {chk : List UInt8 → Nat} {s : PS} (h : s.1.kind = 5) (hc : ¬ chk s.1.said = 0) : stringL l chk s = .error ⟨chk s.1.said, s.1.pos⟩ := by unfold stringL; rw [if_pos h, if_neg hc]
theorem stringL_ok {l : List UInt8} {chk : List UInt8 → Nat} {s y : PS} (h : s.1.kind = 5) (hc : chk s.1.said = 0) (hn : nextL l s.2 = .ok y) : stringL l chk s = .ok (s.1.said, y) := by unfold stringL; rw [if_pos h, if_pos hc, hn]
theorem stringL_err {l : List UInt8} {chk : List UInt8 → Nat} {s : PS} {f : Flt} (h : s.1.kind = 5) (hc : chk s.1.said = 0) (hn : nextL l s.2 = .error f) : stringL l chk s = .error f := by unfold stringL; rw [if_pos h, if_pos hc, hn]

set_option maxRecDepth 100000 in
set_option maxHeartbeats 1000000 in
theorem string_anything (b : Nat) (t : ByteArray) (s : PS) (rv : Value) (mc mt : Nat) (w : World) (h : RC w b t s rv mc mt) :
    Calls Tryz.prog 245 #[.pointer (some ⟨b, 0, none⟩), .func (.func 165) #[] #[]] w (RPost (stringL t.data.toList chkAny s) b t rv mc mt w strV) := by
  have h1 : w.cell? ⟨b, 1, none⟩ = some (.int .i64 s.1.kind) := h.at_.cell 1
  have h4 : w.cell? ⟨b, 4, none⟩ = some (.string (strA s.1.said)) := h.at_.cell 4
  have H := hide h
  clear h
  by_cases hk : s.1.kind = 5
  rotate_left
  · have HE := hide (stringL_kind (l := t.data.toList) (chk := chkAny) hk)
    have hk' : ((s.1.kind : Int) == 5) = false := by simp; omega
    clear hk
    go_enter Tryz.func245, Tryz.ntmps245
    go_wp2_with fail
    refine (demand_no b 4 _ _ t s.1 s.2 rv mc mt _ H.out.at_ rfl rfl).mono ?_
    rintro e w1 ⟨⟨bb, hz, rfl, hcc⟩, hm⟩
    exact ⟨rfl, RPost.err HE.out (Mod.of_below hm) ⟨bb, hz, rfl, hcc⟩⟩
  have hk' : ((s.1.kind : Int) == 5) = true := by simp; omega
  have HK := hide hk
  clear hk
  go_enter Tryz.func245, Tryz.ntmps245
  go_wp2_with fail
  refine (demand_yes b _ _ _ rfl).mono ?_
  rintro e w' ⟨rfl, rfl⟩
  go_wp2_with fail
  refine (anything_any _ _).mono ?_
  rintro e w1 ⟨rfl, rfl⟩
  go_wp2_with fail
  refine (demand_yes b _ _ _ (by rfl)).mono ?_
  rintro e w' ⟨rfl, rfl⟩
  go_wp2_with fail
  refine (next_rc b t s rv mc mt _ H.out).mono ?_
  rintro e w2 (⟨y, hy, rfl, hc, hm⟩ | ⟨f, hf, ⟨bb, hz, rfl, hcc⟩, hm⟩)
  · go_wp2
    go_ret
    exact RPost.ok (stringL_ok HK.out rfl hy) hm rfl hc
  · exact ⟨rfl, RPost.err (stringL_err HK.out rfl hf) hm ⟨bb, hz, rfl, hcc⟩⟩

set_option maxRecDepth 100000 in
set_option maxHeartbeats 1000000 in
theorem string_aName (b : Nat) (t : ByteArray) (s : PS) (rv : Value) (mc mt : Nat) (w : World) (h : RC w b t s rv mc mt) :
    Calls Tryz.prog 245 #[.pointer (some ⟨b, 0, none⟩), .func (.func 248) #[] #[]] w (RPost (stringL t.data.toList chkName s) b t rv mc mt w strV) := by
  have h1 : w.cell? ⟨b, 1, none⟩ = some (.int .i64 s.1.kind) := h.at_.cell 1
  have h4 : w.cell? ⟨b, 4, none⟩ = some (.string (strA s.1.said)) := h.at_.cell 4
  have H := hide h
  clear h
  by_cases hk : s.1.kind = 5
  rotate_left
  · have HE := hide (stringL_kind (l := t.data.toList) (chk := chkName) hk)
    have hk' : ((s.1.kind : Int) == 5) = false := by simp; omega
    clear hk
    go_enter Tryz.func245, Tryz.ntmps245
    go_wp2_with fail
    refine (demand_no b 4 _ _ t s.1 s.2 rv mc mt _ H.out.at_ rfl rfl).mono ?_
    rintro e w1 ⟨⟨bb, hz, rfl, hcc⟩, hm⟩
    exact ⟨rfl, RPost.err HE.out (Mod.of_below hm) ⟨bb, hz, rfl, hcc⟩⟩
  have hk' : ((s.1.kind : Int) == 5) = true := by simp; omega
  have HK := hide hk
  clear hk
  go_enter Tryz.func245, Tryz.ntmps245
  go_wp2_with fail
  refine (demand_yes b _ _ _ rfl).mono ?_
  rintro e w' ⟨rfl, rfl⟩
  go_wp2_with fail
  refine (aName_any _ _ (by have := H.out.sz.1; omega)).mono ?_
  rintro e w1 ⟨rfl, rfl⟩
  generalize hC : chkName s.1.said = C
  have HC := hide hC
  clear hC
  by_cases hc : C = 0
  rotate_left
  · have HE := hide (stringL_chk (l := t.data.toList) (chk := chkName) HK.out (by rw [HC.out]; exact hc))
    rw [HC.out] at HE
    have hc' : ((C : Int) == 0) = false := by simp; omega
    clear hc
    go_wp2_with fail
    refine (demand_no b C _ _ t s.1 s.2 rv mc mt _ H.out.at_ rfl rfl).mono ?_
    rintro e w2 ⟨⟨bb, hz, rfl, hcc⟩, hm⟩
    exact ⟨rfl, RPost.err HE.out (Mod.of_below hm) ⟨bb, hz, rfl, hcc⟩⟩
  subst hc
  go_wp2_with fail
  refine (demand_yes b _ _ _ (by rfl)).mono ?_
  rintro e w' ⟨rfl, rfl⟩
  go_wp2_with fail
  refine (next_rc b t s rv mc mt _ H.out).mono ?_
  rintro e w2 (⟨y, hy, rfl, hc, hm⟩ | ⟨f, hf, ⟨bb, hz, rfl, hcc⟩, hm⟩)
  · go_wp2
    go_ret
    exact RPost.ok (stringL_ok HK.out HC.out hy) hm rfl hc
  · exact ⟨rfl, RPost.err (stringL_err HK.out HC.out hf) hm ⟨bb, hz, rfl, hcc⟩⟩

set_option maxRecDepth 100000 in
set_option maxHeartbeats 1000000 in
theorem string_oneOf (p1 p2 g n c er : Nat) (zs : List (List UInt8)) (b : Nat) (t : ByteArray) (s : PS) (rv : Value) (mc mt : Nat) (w : World) (h : RC w b t s rv mc mt) (ho : OneAt w p1 p2 g n c er zs) :
    Calls Tryz.prog 245 #[.pointer (some ⟨b, 0, none⟩), .func (.func 256) #[] #[.pointer (some ⟨p1, 0, none⟩), .pointer (some ⟨p2, 0, none⟩)]] w (RPost (stringL t.data.toList (chkOne er zs) s) b t rv mc mt w strV) := by
  have h1 : w.cell? ⟨b, 1, none⟩ = some (.int .i64 s.1.kind) := h.at_.cell 1
  have h4 : w.cell? ⟨b, 4, none⟩ = some (.string (strA s.1.said)) := h.at_.cell 4
  have H := hide h
  clear h
  have HO := hide ho
  clear ho
  by_cases hk : s.1.kind = 5
  rotate_left
  · have HE := hide (stringL_kind (l := t.data.toList) (chk := (chkOne er zs)) hk)
    have hk' : ((s.1.kind : Int) == 5) = false := by simp; omega
    clear hk
    go_enter Tryz.func245, Tryz.ntmps245
    go_wp2_with fail
    refine (demand_no b 4 _ _ t s.1 s.2 rv mc mt _ H.out.at_ rfl rfl).mono ?_
    rintro e w1 ⟨⟨bb, hz, rfl, hcc⟩, hm⟩
    exact ⟨rfl, RPost.err HE.out (Mod.of_below hm) ⟨bb, hz, rfl, hcc⟩⟩
  have hk' : ((s.1.kind : Int) == 5) = true := by simp; omega
  have HK := hide hk
  clear hk
  go_enter Tryz.func245, Tryz.ntmps245
  go_wp2_with fail
  refine (demand_yes b _ _ _ rfl).mono ?_
  rintro e w' ⟨rfl, rfl⟩
  go_wp2_with fail
  refine (oneOf1_any p1 p2 g n c er zs _ _ HO.out).mono ?_
  rintro e w1 ⟨rfl, rfl⟩
  generalize hC : (chkOne er zs) s.1.said = C
  have HC := hide hC
  clear hC
  by_cases hc : C = 0
  rotate_left
  · have HE := hide (stringL_chk (l := t.data.toList) (chk := (chkOne er zs)) HK.out (by rw [HC.out]; exact hc))
    rw [HC.out] at HE
    have hc' : ((C : Int) == 0) = false := by simp; omega
    clear hc
    go_wp2_with fail
    refine (demand_no b C _ _ t s.1 s.2 rv mc mt _ H.out.at_ rfl rfl).mono ?_
    rintro e w2 ⟨⟨bb, hz, rfl, hcc⟩, hm⟩
    exact ⟨rfl, RPost.err HE.out (Mod.of_below hm) ⟨bb, hz, rfl, hcc⟩⟩
  subst hc
  go_wp2_with fail
  refine (demand_yes b _ _ _ (by rfl)).mono ?_
  rintro e w' ⟨rfl, rfl⟩
  go_wp2_with fail
  refine (next_rc b t s rv mc mt _ H.out).mono ?_
  rintro e w2 (⟨y, hy, rfl, hc, hm⟩ | ⟨f, hf, ⟨bb, hz, rfl, hcc⟩, hm⟩)
  · go_wp2
    go_ret
    exact RPost.ok (stringL_ok HK.out HC.out hy) hm rfl hc
  · exact ⟨rfl, RPost.err (stringL_err HK.out HC.out hf) hm ⟨bb, hz, rfl, hcc⟩⟩

set_option maxRecDepth 100000 in
set_option maxHeartbeats 1000000 in
theorem string_inSmall (q p1 p2 g n c er : Nat) (zs : List (List UInt8)) (b : Nat) (t : ByteArray) (s : PS) (rv : Value) (mc mt : Nat) (w : World) (h : RC w b t s rv mc mt) (ho : SmallAt w q p1 p2 g n c er zs) :
    Calls Tryz.prog 245 #[.pointer (some ⟨b, 0, none⟩), .func (.func 255) #[] #[.pointer (some ⟨q, 0, none⟩)]] w (RPost (stringL t.data.toList (chkSmall (chkOne er zs)) s) b t rv mc mt w strV) := by
  have h1 : w.cell? ⟨b, 1, none⟩ = some (.int .i64 s.1.kind) := h.at_.cell 1
  have h4 : w.cell? ⟨b, 4, none⟩ = some (.string (strA s.1.said)) := h.at_.cell 4
  have H := hide h
  clear h
  have HO := hide ho
  clear ho
  by_cases hk : s.1.kind = 5
  rotate_left
  · have HE := hide (stringL_kind (l := t.data.toList) (chk := (chkSmall (chkOne er zs))) hk)
    have hk' : ((s.1.kind : Int) == 5) = false := by simp; omega
    clear hk
    go_enter Tryz.func245, Tryz.ntmps245
    go_wp2_with fail
    refine (demand_no b 4 _ _ t s.1 s.2 rv mc mt _ H.out.at_ rfl rfl).mono ?_
    rintro e w1 ⟨⟨bb, hz, rfl, hcc⟩, hm⟩
    exact ⟨rfl, RPost.err HE.out (Mod.of_below hm) ⟨bb, hz, rfl, hcc⟩⟩
  have hk' : ((s.1.kind : Int) == 5) = true := by simp; omega
  have HK := hide hk
  clear hk
  go_enter Tryz.func245, Tryz.ntmps245
  go_wp2_with fail
  refine (demand_yes b _ _ _ rfl).mono ?_
  rintro e w' ⟨rfl, rfl⟩
  go_wp2_with fail
  refine (inSmall1_any q p1 p2 g n c er zs _ _ HO.out (by have := H.out.sz.1; omega)).mono ?_
  rintro e w1 ⟨rfl, hb⟩
  have H1 := hide (H.out.below hb)
  have HB := hide (Mod.of_below (b := b) hb)
  have h4 : w1.cell? ⟨b, 4, none⟩ = some (.string (strA s.1.said)) := H1.out.at_.cell 4
  clear hb
  generalize hC : (chkSmall (chkOne er zs)) s.1.said = C
  have HC := hide hC
  clear hC
  by_cases hc : C = 0
  rotate_left
  · have HE := hide (stringL_chk (l := t.data.toList) (chk := (chkSmall (chkOne er zs))) HK.out (by rw [HC.out]; exact hc))
    rw [HC.out] at HE
    have hc' : ((C : Int) == 0) = false := by simp; omega
    clear hc
    go_wp2_with fail
    refine (demand_no b C _ _ t s.1 s.2 rv mc mt _ H1.out.at_ rfl rfl).mono ?_
    rintro e w2 ⟨⟨bb, hz, rfl, hcc⟩, hm⟩
    exact ⟨rfl, RPost.err HE.out (HB.out.trans (Mod.of_below hm)) ⟨bb, Nat.le_trans HB.out.size hz, rfl, hcc⟩⟩
  subst hc
  go_wp2_with fail
  refine (demand_yes b _ _ _ (by rfl)).mono ?_
  rintro e w' ⟨rfl, rfl⟩
  go_wp2_with fail
  refine (next_rc b t s rv mc mt _ H1.out).mono ?_
  rintro e w2 (⟨y, hy, rfl, hc, hm⟩ | ⟨f, hf, ⟨bb, hz, rfl, hcc⟩, hm⟩)
  · go_wp2
    go_ret
    exact RPost.ok (stringL_ok HK.out HC.out hy) (HB.out.trans hm) rfl hc
  · exact ⟨rfl, RPost.err (stringL_err HK.out HC.out hf) (HB.out.trans hm) ⟨bb, Nat.le_trans HB.out.size hz, rfl, hcc⟩⟩

end Go.Proofs.YtbiclelojbfnbaaGreatDoor
