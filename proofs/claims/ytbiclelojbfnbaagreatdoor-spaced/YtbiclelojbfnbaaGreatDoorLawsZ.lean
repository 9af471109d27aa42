import Derived.Test.YtbiclelojbfnbaaGreatDoorReadZ
import Derived.Test.YtbiclelojbfnbaaGreatDoorToldZ
import Derived.Test.YtbiclelojbfnbaaGreatDoorWZ
import Derived.Test.YtbiclelojbfnbaaGreatDoorPlainZ
import Derived.Test.YtbiclelojbfnbaaGreatDoorRows
import Derived.ProofKit
import Derived.LaidMore
import Derived.OpenShut
import Derived.Stop.Joined
import Derived.LaidHandle
import Derived.Stop.LaidErr
import Derived.Lib.LaidTab
import Derived.HandedShaped
import Derived.Shelf.Vars
namespace Go.Proofs.YtbiclelojbfnbaaGreatDoor
open Go.RowKit
set_option linter.unusedVariables false
set_option linter.unusedSimpArgs false
attribute [local go_sem ↓] Go.wp_at_zero Go.wp_at_succ

set_option maxRecDepth 100000 in
set_option maxHeartbeats 1000000 in
theorem mparse_long (t : ByteArray) (w : World) (ht : 600 < t.size) :
    Calls Tryz.prog 43 #[.string t] w fun e w' => e = .returned (.tuple #[.pointer none, .iface 39 (.int .i64 1)]) ∧ Below w.heap.size w w' := by
  go_enter Tryz.func43, Tryz.ntmps43
  go_wp2_with fail
  refine (parse_long t w ht).mono ?_
  rintro e w1 ⟨rfl, hbl⟩
  have HB := hide hbl
  have hz2 := hbl.size
  clear hbl
  go_wp2
  refine bodyPost_ret (v := .tuple #[.pointer none, .iface 39 (.int .i64 1)]) (by simp [results, Tryz.results43, go_sem]) rfl ?_
  exact ⟨rfl, HB.out.alloc hz2 _⟩

/-- What plain.Parse leaves: a script, or a fault. -/
def PP (t : ByteArray) (w : World) (e : Ending) (w' : World) : Prop :=
  Below w.heap.size w w' ∧ ((600 < t.size ∧ e = .returned (.tuple #[.pointer none, .int .i64 1, .int .i64 (-1)])) ∨
    (t.size ≤ 600 ∧ ∃ y g rv lv, parseL t.data.toList = .ok y ∧ e = .returned (.tuple #[.pointer (some ⟨g, 0, none⟩), .int .i64 0, .int .i64 (-1)]) ∧ w.heap.size ≤ g ∧ w'.heap[g]? = some (.cells #[rv, lv] 139) ∧ reqX (fromB w.heap.size) y.1 w' rv ∧ blX (fromB w.heap.size) (CmdV 7) y.2 w' lv) ∨
    (t.size ≤ 600 ∧ ∃ f, parseL t.data.toList = .error f ∧ e = .returned (.tuple #[.pointer none, .int .i64 f.err, .int .i64 f.pos])))

set_option maxRecDepth 100000 in
set_option maxHeartbeats 1000000 in
theorem pparse_any (t : ByteArray) (w : World) (hm1 : ∃ m, w.cell? ⟨1, 0, none⟩ = some (.int .i64 m)) (hg : ErrT w) :
    Calls Tryz.prog 21 #[.string t] w (PP t w) := by
  have HG := hide hg
  clear hg
  rcases Nat.lt_or_ge 600 t.size with ht | ht
  · go_enter Tryz.func21, Tryz.ntmps21
    go_wp2_with fail
    refine (mparse_long t w ht).mono ?_
    rintro e w1 ⟨rfl, hB⟩
    have HB := hide hB
    have hs := hB.size
    clear hB
    go_wp2_with fail
    refine (told_errno 1 w1 (HG.out.below HB.out)).mono ?_
    rintro e w2 ⟨rfl, hB2⟩
    have HB2 := hide (HB.out.trans (hB2.mono hs))
    clear hB2
    go_wp2
    refine bodyPost_ret (v := .tuple #[.pointer none, .int .i64 1, .int .i64 (-1)]) (by simp [results, Tryz.results21, go_sem]) rfl ?_
    exact ⟨HB2.out, Or.inl ⟨ht, rfl⟩⟩
  · go_enter Tryz.func21, Tryz.ntmps21
    go_wp2_with fail
    refine (mparse_short t w ht hm1).mono ?_
    rintro e w1 ⟨hB, ⟨y, g, rv, lv, hy, rfl, hz, hc, hr, hb⟩ | ⟨f, bb, hf, rfl, hz, hcc⟩⟩
    · have HB := hide hB
      have hs := hB.size
      have HY := hide hy
      have HC := hide hc
      have HR := hide hr
      have HBL := hide hb
      clear hB hy hc hr hb
      go_wp2_with fail
      refine (told_nil w1).mono ?_
      rintro e w2 ⟨rfl, hB2⟩
      have HB2 := hide (HB.out.trans (hB2.mono hs))
      have HC2 := hide (World.cell?_of_block (w := w1) (w' := w2) (a := ⟨g, 0, none⟩) (hB2.block g (blk_lt HC.out)))
      have HK := hide (hB2.block g (blk_lt HC.out))
      have HR2 := hide (HR.out.keep (fun k _ hk => hB2.block k hk))
      have HBL2 := hide (HBL.out.keep (cmdV_tree 7) (fun k _ hk => hB2.block k hk))
      clear hB2
      go_wp2
      refine bodyPost_ret (v := .tuple #[.pointer (some ⟨g, 0, none⟩), .int .i64 0, .int .i64 (-1)]) (by simp [results, Tryz.results21, go_sem]) rfl ?_
      exact ⟨HB2.out, Or.inr (Or.inl ⟨ht, y, g, rv, lv, HY.out, rfl, hz, by rw [HK.out]; exact HC.out, HR2.out, HBL2.out⟩)⟩
    · have HB := hide hB
      have hs := hB.size
      have HF := hide hf
      have c0 : w1.cell? ⟨bb, 0, none⟩ = some (.int .i64 f.err) := blk_cell hcc 0
      have c1 : w1.cell? ⟨bb, 1, none⟩ = some (.int .i64 f.pos) := blk_cell hcc 1
      have HC0 := hide c0
      have HC1 := hide c1
      clear hB hf hcc c0 c1
      go_wp2_with fail
      refine (told_fault bb f.err f.pos w1 (HG.out.below HB.out) HC0.out HC1.out).mono ?_
      rintro e w2 ⟨rfl, hB2⟩
      have HB2 := hide (HB.out.trans (hB2.mono hs))
      clear hB2
      go_wp2
      refine bodyPost_ret (v := .tuple #[.pointer none, .int .i64 f.err, .int .i64 f.pos]) (by simp [results, Tryz.results21, go_sem]) rfl ?_
      exact ⟨HB2.out, Or.inr (Or.inr ⟨ht, f, HF.out, rfl⟩)⟩

end Go.Proofs.YtbiclelojbfnbaaGreatDoor

namespace Go.Proofs.YtbiclelojbfnbaaGreatDoor
open Go.RowKit
set_option linter.unusedVariables false
set_option linter.unusedSimpArgs false
attribute [local go_sem ↓] Go.wp_at_zero Go.wp_at_succ

/-- commandText writes commands of so many levels. -/
def CmdIH (req : List (List UInt8)) (n : Nat) : Prop :=
  ∀ (X : Nat → Prop) (x : CmdT n) (i : List UInt8) (w : World) (v : Value), CmdV n X x w v → allC (WfT req) (WfC req) n x → Tab w → (cmdTxt n x i).length ≤ 4294967200 →
    Calls Tryz.prog 114 #[v, .string (strA i)] w fun e w' => e = .returned (.string (strA (cmdTxt n x i))) ∧ Below w.heap.size w w'
theorem linesT_mem (i : List UInt8) : ∀ (ts : List (List UInt8)) (t : List UInt8), t ∈ ts → t.length ≤ (linesT i ts).length
  | [], t, h => by cases h
  | u :: ts, t, h => by
    unfold linesT
    rw [List.flatMap_cons]
    simp only [List.length_append, List.length_cons, List.length_nil]
    rcases List.mem_cons.1 h with h | h
    · subst h; omega
    · have := linesT_mem i ts t h
      unfold linesT at this
      simp only [List.append_assoc] at *
      omega
/-- lines writes a list of commands. -/
theorem lines_any {req : List (List UInt8)} {n : Nat} (ih : CmdIH req n) (X : Nat → Prop) (cs : List (CmdT n)) (i : List UInt8) (w : World) (v : Value) (h : blX X (CmdV n) cs w v) (ha : ∀ c ∈ cs, allC (WfT req) (WfC req) n c) (ht : Tab w) (hl : (linesL (cmdTxt n) cs i).length ≤ 4294967200) : LTxtOk w v i (linesL (cmdTxt n) cs i) := fun W hW => by
  rw [linesL_T] at hl ⊢
  rcases h with ⟨rfl, rfl⟩ | ⟨hne, g, c, rfl, hg, hx⟩
  · exact lines_nil i W
  · have hlen : (cs.map fun c => cmdTxt n c i).length = cs.length := by simp
    rw [← hlen]
    refine lines_some i g c _ W (by simpa using hne) (by omega) (fun j hj => ?_)
    rw [hlen] at hj
    obtain ⟨u, hcu, hvu⟩ := hx j hj
    obtain ⟨ty, y, rfl⟩ := (cmdV_tree n).form _ _ _ _ hvu
    refine ⟨ty, y, by rw [hW.cell (p := ⟨g, j, none⟩) (cell_lt hcu)]; exact hcu, ?_⟩
    have hmem : cs[j] ∈ cs := List.getElem_mem hj
    have hd : (cs.map fun c => cmdTxt n c i).getD j [] = cmdTxt n cs[j] i := by
      rw [List.getD_eq_getElem?_getD, List.getElem?_map, List.getElem?_eq_getElem hj]; rfl
    rw [hd]
    intro W2 hW2
    have hWW := hW.trans (hW2.mono hW.size)
    exact ih X cs[j] i W2 _ ((cmdV_tree n).keep _ _ _ _ _ hvu (fun k _ hk => hWW.block k hk)) (ha _ hmem) (ht.below hWW) (Nat.le_trans (linesT_mem i (cs.map fun c => cmdTxt n c i) _ (List.mem_map_of_mem (f := fun c => cmdTxt n c i) hmem)) hl)
theorem armsTxt_mem (i : List UInt8) : ∀ (al : List (List UInt8 × List UInt8)) (word : List UInt8) (a : List UInt8 × List UInt8), a ∈ al → a.1.length ≤ (armsTxt i word al).length ∧ a.2.length ≤ (armsTxt i word al).length
  | [], word, a, h => by cases h
  | u :: al, word, a, h => by
    show a.1.length ≤ (armTxt word i u.1 u.2 ++ armsTxt i kElsifB al).length ∧ a.2.length ≤ (armTxt word i u.1 u.2 ++ armsTxt i kElsifB al).length
    rw [List.length_append]
    rcases List.mem_cons.1 h with h | h
    · subst h
      have h1 := phraseL_mem (ps := [word, a.1, openB]) (p := a.1) (by simp)
      unfold armTxt
      rw [List.length_append, List.length_append]
      omega
    · have := armsTxt_mem i al kElsifB a h
      omega
theorem cmdText_any (req : List (List UInt8)) : ∀ n, CmdIH req n
  | 0 => fun X x i w v h ha _ _ => ha.elim
  | n + 1 => fun X x i w v h ha ht hlen => by
    have ih := cmdText_any req n
    obtain ⟨hw, harms, hels⟩ := ha
    have h : cnode X (TestV n) (CmdV n) x w v := h
    have hlen : (cmdNode x.1 i (x.2.1.map fun a => (testTxt n a.1, linesL (cmdTxt n) a.2 (i ++ [32, 32]))) (linesL (cmdTxt n) x.2.2 (i ++ [32, 32]))).length ≤ 4294967200 := hlen
    show Calls Tryz.prog 114 #[v, .string (strA i)] w fun e w' => e = .returned (.string (strA (cmdNode x.1 i (x.2.1.map fun a => (testTxt n a.1, linesL (cmdTxt n) a.2 (i ++ [32, 32]))) (linesL (cmdTxt n) x.2.2 (i ++ [32, 32]))))) ∧ Below w.heap.size w w'
    generalize hal : (x.2.1.map fun a => (testTxt n a.1, linesL (cmdTxt n) a.2 (i ++ [32, 32]))) = al at hlen
    generalize heb : linesL (cmdTxt n) x.2.2 (i ++ [32, 32]) = eb at hlen
    unfold cnode at h
    split at h
    · rename_i e
      subst h
      have et : cmdNode x.1 i al eb = kKeep ++ [59] := by unfold cmdNode; rw [e]; rfl
      rw [et]
      exact cmdText_keep kKeep i [] _ w (by decide)
    · rename_i e
      subst h
      have et : cmdNode x.1 i al eb = kDiscard ++ [59] := by unfold cmdNode; rw [e]; rfl
      rw [et]
      exact cmdText_discard kDiscard i _ w (by decide)
    · rename_i e
      subst h
      have et : cmdNode x.1 i al eb = kStop ++ [59] := by unfold cmdNode; rw [e]; rfl
      rw [et]
      exact cmdText_stop kStop i _ w (by decide)
    · rename_i e
      subst h
      have et : cmdNode x.1 i al eb = phraseL [kFileinto, quotedL x.1.arg] ++ [59] := by unfold cmdNode; rw [e]; rfl
      rw [et] at hlen ⊢
      rw [List.length_append] at hlen
      exact cmdText_act kFileinto i _ _ 2 w (by omega) (by omega) (by omega)
    · rename_i e
      subst h
      have et : cmdNode x.1 i al eb = phraseL [kRedirect, quotedL x.1.arg] ++ [59] := by unfold cmdNode; rw [e]; rfl
      rw [et] at hlen ⊢
      rw [List.length_append] at hlen
      exact cmdText_act kRedirect i _ _ 3 w (by omega) (by omega) (by omega)
    · rename_i e
      subst h
      have et : cmdNode x.1 i al eb = phraseL [kReject, quotedL x.1.arg] ++ [59] := by unfold cmdNode; rw [e]; rfl
      rw [et] at hlen ⊢
      rw [List.length_append] at hlen
      exact cmdText_act kReject i _ _ 4 w (by omega) (by omega) (by omega)
    · rename_i e
      subst h
      have et : cmdNode x.1 i al eb = phraseL [kSet, tagTextL x.1.tag [tLower, tUpper, tLength], quotedL x.1.var, quotedL x.1.arg] ++ [59] := by unfold cmdNode; rw [e]; rfl
      rw [et] at hlen ⊢
      rw [List.length_append] at hlen
      exact cmdText_set kSet i _ _ _ _ w hw.tag (by omega)
    · rename_i h0 h1 h2 h3 h4 h5 h6
      obtain ⟨av, ev, rfl, hav, hne, hev⟩ := h
      have e : x.1.kind = 7 := by
        have a0 : x.1.kind ≠ 0 := h0
        have a1 : x.1.kind ≠ 1 := h1
        have a2 : x.1.kind ≠ 2 := h2
        have a3 : x.1.kind ≠ 3 := h3
        have a4 : x.1.kind ≠ 4 := h4
        have a5 : x.1.kind ≠ 5 := h5
        have a6 : x.1.kind ≠ 6 := h6
        have := hw.kind
        omega
      have et : cmdNode x.1 i al eb = armsTxt i kIf al ++ (if x.1.els then elseB ++ eb ++ i else []) ++ [125] := by unfold cmdNode; rw [e]; rfl
      rw [et] at hlen ⊢
      obtain ⟨g, c, rfl, hg, hx⟩ := hav
      obtain ⟨ea, en, ec, rfl⟩ := hev.form
      have hall : al.length = x.2.1.length := by rw [← hal]; simp
      have hl1 : (armsTxt i kIf al).length ≤ 4294967200 := by rw [List.length_append, List.length_append] at hlen; omega
      rw [← hall]
      refine cmdText_if kIf i _ _ g _ c _ ea en ec w (fun W hW => ?_)
      refine choiceText_any i _ g c x.1.els ea en ec al eb W (by rw [← hal]; simpa using hne) (fun j hj => ?_) (fun he => ?_) (by omega)
      · have hj' : j < x.2.1.length := by rw [← hall]; exact hj
        obtain ⟨u, bv, hu, hb, hp, hq⟩ := hx j hj'
        obtain ⟨ty, y, rfl⟩ := (testV_tree n).form _ _ _ _ hp
        obtain ⟨a, m, c', rfl⟩ := hq.form
        have hmem : x.2.1[j] ∈ x.2.1 := List.getElem_mem hj'
        have hget : al[j] = (testTxt n x.2.1[j].1, linesL (cmdTxt n) x.2.1[j].2 (i ++ [32, 32])) := by
          simp only [← hal, List.getElem_map]
        have hmm := armsTxt_mem i al kIf al[j] (List.getElem_mem hj)
        rw [hget] at hmm ⊢
        obtain ⟨m1, m2⟩ := hmm
        have hT := harms _ hmem
        refine ⟨ty, y, a, m, c', by rw [hW.cell (p := ⟨g, 2 * j, none⟩) (cell_lt hu)]; exact hu, by rw [hW.cell (p := ⟨g, 2 * j + 1, none⟩) (cell_lt hb)]; exact hb, fun W2 hW2 => ?_, ?_⟩
        · have hWW := hW.trans (hW2.mono hW.size)
          exact testText_any n X _ W2 _ ((testV_tree n).keep _ _ _ _ _ hp (fun k _ hk => hWW.block k hk)) hT.1 (ht.below hWW) (by dsimp only at m1; omega)
        · exact (lines_any ih X _ _ w _ hq hT.2 ht (by dsimp only at m2; omega)).below hW
      · have hl2 : eb.length ≤ 4294967200 := by
          rw [he] at hlen
          simp only [if_true, List.length_append] at hlen
          omega
        rw [← heb] at hl2 ⊢
        exact (lines_any ih X _ _ w _ hev hels ht hl2).below hW

set_option maxRecDepth 100000 in
set_option maxHeartbeats 2000000 in
theorem treeText_any (y : List (List UInt8) × List (CmdT 7)) (rv lv : Value) (w : World) (X : Nat → Prop) (hr : reqX X y.1 w rv) (hb : blX X (CmdV 7) y.2 w lv) (ht : Tab w) (ha : ∀ c ∈ y.2, allC (WfT y.1) (WfC y.1) 7 c) (hl : (textL y).length ≤ 4294967200) :
    Calls Tryz.prog 46 #[.agg #[rv, lv]] w fun e w' => e = .returned (.string (strA (textL y))) ∧ Below w.heap.size w w' := by
  have hln := lines_any (cmdText_any y.1 7) X y.2 [] w lv hb ha ht (by unfold textL at hl; rw [List.length_append] at hl; omega)
  have HX : Hid (textL y = requireTxt y.1 ++ linesL (cmdTxt 7) y.2 []) := rfl
  have hl' : (requireTxt y.1).length + (linesL (cmdTxt 7) y.2 []).length ≤ 4294967200 := by unfold textL at hl; rw [List.length_append] at hl; exact hl
  obtain ⟨la, ln, lc, rfl⟩ := hb.form
  generalize linesL (cmdTxt 7) y.2 [] = L at HX hln hl'
  have HLN := hide hln
  clear hln hb ha
  have hB0 : ∀ o, Below w.heap.size w (w.alloc o) := fun o => (Below.refl _ _).alloc (Nat.le_refl _) o
  have HB0 := hide hB0
  have hsA : ∀ x : List UInt8, (strA x).size = x.length := strA_size
  clear hB0
  rcases hr with ⟨h0, rfl⟩ | ⟨gr, cr, rfl, hgr, htr, hnr⟩
  · have hR : requireTxt y.1 = [] := by unfold requireTxt; rw [if_pos h0]
    rw [hR, List.nil_append] at HX
    have HX' : Hid (textL y = L) := HX.out
    clear HX hl
    have q1 : ¬ 9223372036854775807 < L.length := by omega
    have hap1 : (⟨#[]⟩ : ByteArray) ++ strA L = strA L := strA_app [] L
    go_enter Tryz.func46, Tryz.ntmps46
    go_wp2_with fail
    refine (HLN.out _ (HB0.out _)).mono ?_
    rintro e w1 ⟨rfl, hB1⟩
    have HB1 := hide ((HB0.out _).trans (hB1.mono (by simp)))
    clear hB1
    go_wp2
    go_ret
    exact ⟨by rw [HX'.out]; rfl, HB1.out⟩
  · have hR : requireTxt y.1 = kRequire ++ [32] ++ quotesL y.1 ++ [59, 10] := by unfold requireTxt; rw [if_neg hnr]
    have hrl : (requireTxt y.1).length = 10 + (quotesL y.1).length := by
      rw [hR]; simp only [List.length_append, List.length_cons, List.length_nil, show kRequire.length = 7 from rfl]; omega
    have hql : (quotesL y.1).length ≤ 4294967280 := by omega
    have hpos : (0 : Int) < (y.1.length : Int) := by have := List.length_pos_iff.2 hnr; omega
    have HTR : Hid (∀ o, TxtAt (w.alloc o) gr y.1) := fun o => htr.alloc o
    generalize hQ : quotesL y.1 = Q at hR hrl hql
    obtain ⟨A, hA⟩ : ∃ A, kRequire ++ [32] ++ Q = A := ⟨_, rfl⟩
    rw [hA] at hR
    have hAl : A.length = 8 + Q.length := by rw [← hA]; simp only [List.length_append, List.length_cons, List.length_nil, show kRequire.length = 7 from rfl]
    generalize requireTxt y.1 = R at HX hR hrl hl'
    obtain ⟨Z, hZ⟩ : ∃ Z, R ++ L = Z := ⟨_, rfl⟩
    have HX' : Hid (textL y = Z) := by rw [← hZ]; exact HX.out
    have hap1 : (⟨#[114, 101, 113, 117, 105, 114, 101, 32]⟩ : ByteArray) ++ strA Q = strA A := by rw [← hA]; exact strA_app (kRequire ++ [32]) Q
    have hap2 : strA A ++ (⟨#[59, 10]⟩ : ByteArray) = strA R := by rw [hR]; exact strA_app A [59, 10]
    have hap3 : strA R ++ strA L = strA Z := by rw [← hZ]; exact strA_app R L
    have q1 : ¬ 9223372036854775807 < 8 + Q.length := by omega
    have q2 : ¬ 9223372036854775807 < A.length + 2 := by omega
    have q3 : ¬ 9223372036854775807 < R.length + L.length := by omega
    have HQ := hide hQ
    have HQL : Hid ((quotesL y.1).length ≤ 4294967280) := by show (quotesL y.1).length ≤ _; rw [hQ]; exact hql
    clear HX hl hQ hA hR hrl hAl hZ hl' htr hql
    generalize hyn : y.1.length = yn at hpos
    have HYN := hide hyn
    clear hyn
    go_enter Tryz.func46, Tryz.ntmps46
    go_wp2_with fail
    refine (quotes_any y.1 gr yn cr _ (HTR.out _) HYN.out.symm hnr HQL.out).mono ?_
    rintro e w1 ⟨rfl, hB1⟩
    rw [HQ.out]
    have HB1 := hide ((HB0.out _).trans (hB1.mono (by simp)))
    have hblk := blk_below (blk_new w (.cells #[.slice (some ⟨gr, 0, none⟩) yn cr, .slice la ln lc] 97)) hB1
    have c1 : w1.cell? ⟨w.heap.size, 1, none⟩ = some (.slice la ln lc) := blk_cell hblk 1
    have h1s := HB1.out.size
    clear hB1 hblk
    go_wp2_with fail
    refine (HLN.out _ HB1.out).mono ?_
    rintro e w2 ⟨rfl, hB2⟩
    have HB2 := hide (HB1.out.trans (hB2.mono h1s))
    clear hB2
    go_wp2
    go_ret
    exact ⟨by rw [HX'.out]; rfl, HB2.out⟩

set_option maxRecDepth 100000 in
set_option maxHeartbeats 1000000 in
theorem said_any (g : Nat) (a1 a2 : Option Addr) (n1 c1 n2 c2 : Nat) (w : World) (h : w.heap[g]? = some (.cells #[.slice a1 n1 c1, .slice a2 n2 c2] 139)) :
    Calls Tryz.prog 45 #[.pointer (some ⟨g, 0, none⟩)] w fun e w' => e = .returned (.agg #[.slice a1 n1 c1, .slice a2 n2 c2]) ∧ Below w.heap.size w w' := by
  have d0 : ∀ o, (w.alloc o).cell? ⟨g, 0, none⟩ = some (.slice a1 n1 c1) := fun o => blk_cell (blk_alloc h) 0
  have d1 : ∀ o, (w.alloc o).cell? ⟨g, 1, none⟩ = some (.slice a2 n2 c2) := fun o => blk_cell (blk_alloc h) 1
  clear h
  go_enter Tryz.func45, Tryz.ntmps45
  go_wp2
  refine bodyPost_ret (v := .agg #[.slice a1 n1 c1, .slice a2 n2 c2]) (by simp [results, Tryz.results45, go_sem]) rfl ?_
  exact ⟨rfl, ((Below.refl _ _).alloc (Nat.le_refl _) _)⟩

set_option maxRecDepth 100000 in
set_option maxHeartbeats 1000000 in
theorem scriptText_any (g : Nat) (y : List (List UInt8) × List (CmdT 7)) (rv lv : Value) (w : World) (X : Nat → Prop) (h : w.heap[g]? = some (.cells #[rv, lv] 139)) (hr : reqX X y.1 w rv) (hb : blX X (CmdV 7) y.2 w lv) (ht : Tab w) (ha : ∀ c ∈ y.2, allC (WfT y.1) (WfC y.1) 7 c) (hl : (textL y).length ≤ 4294967200) :
    Calls Tryz.prog 22 #[.pointer (some ⟨g, 0, none⟩)] w fun e w' => e = .returned (.string (strA (textL y))) ∧ Below w.heap.size w w' := by
  obtain ⟨a1, n1, c1, rfl⟩ : ∃ a n c, rv = .slice a n c := by
    rcases hr with ⟨_, rfl⟩ | ⟨g', c', rfl, _⟩
    · exact ⟨_, _, _, rfl⟩
    · exact ⟨_, _, _, rfl⟩
  obtain ⟨a2, n2, c2, rfl⟩ := hb.form
  have H := hide h
  have HR := hide hr
  have HBB := hide hb
  have HT := hide ht
  clear h hr hb ht
  go_enter Tryz.func22, Tryz.ntmps22
  go_wp2_with fail
  refine (said_any g a1 a2 n1 c1 n2 c2 w H.out).mono ?_
  rintro e w1 ⟨rfl, hB1⟩
  have HB1 := hide hB1
  have h1s := hB1.size
  have HR1 := hide (HR.out.keep (fun k _ hk => hB1.block k hk))
  have HBB1 := hide (HBB.out.keep (cmdV_tree 7) (fun k _ hk => hB1.block k hk))
  have HT1 := hide (HT.out.below hB1)
  clear hB1
  go_wp2_with fail
  refine (treeText_any y _ _ _ X HR1.out HBB1.out HT1.out ha hl).mono ?_
  rintro e w2 ⟨rfl, hB2⟩
  have HB2 := hide (HB1.out.trans (hB2.mono h1s))
  clear hB2
  go_wp2
  go_ret
  exact ⟨rfl, HB2.out⟩

end Go.Proofs.YtbiclelojbfnbaaGreatDoor

namespace Go.Proofs.YtbiclelojbfnbaaGreatDoor
open Go.RowKit
set_option linter.unusedVariables false
set_option linter.unusedSimpArgs false
attribute [local go_sem ↓] Go.wp_at_zero Go.wp_at_succ

/-- What is asked of the package-level variables. -/
structure Env (w : World) : Prop where
  m1 : ∃ m, w.cell? ⟨1, 0, none⟩ = some (.int .i64 m)
  et : ErrT w
  tab : Tab w
theorem Env.below {w w' : World} (h : Env w) (hb : Below w.heap.size w w') : Env w' := by
  obtain ⟨m, hm⟩ := h.m1
  exact ⟨⟨m, by rw [hb.cell (p := ⟨1, 0, none⟩) (cell_lt hm)]; exact hm⟩, h.et.below hb, h.tab.below hb⟩

def exT1 : List UInt8 := [105, 102, 32, 104, 101, 97, 100, 101, 114, 32, 34, 83, 117, 98, 106, 101, 99, 116, 34, 32, 34, 120, 34, 32, 123, 32, 100, 105, 115, 99, 97, 114, 100, 59, 32, 125, 32, 101, 108, 115, 101, 32, 123, 32, 107, 101, 101, 112, 59, 32, 125]
def exT2 : List UInt8 := [107, 101, 101, 112, 59, 32, 105, 102, 32, 123, 32, 125]
def isOk {α : Type} (r : Except Flt α) : Bool := match r with | .ok _ => true | .error _ => false
def isFlt {α : Type} (r : Except Flt α) (n p : Nat) : Bool := match r with | .ok _ => false | .error f => f.err == n && f.pos == p
theorem ex1_ok : isOk (parseL exT1) = true := by kernel_rfl
theorem ex2_flt : isFlt (parseL exT2) 4 9 = true := by kernel_rfl
theorem ex1 : ∃ y, parseL exT1 = .ok y := by
  cases h : parseL exT1 with
  | ok y => exact ⟨y, rfl⟩
  | error f => have := ex1_ok; rw [h] at this; cases this
theorem ex2 : parseL exT2 = .error ⟨4, 9⟩ := by
  cases h : parseL exT2 with
  | ok y => have := ex2_flt; rw [h] at this; cases this
  | error f =>
    have := ex2_flt
    rw [h] at this
    have h2 : (f.err == 4 && f.pos == 9) = true := this
    simp at h2
    cases f
    simp at h2
    rw [h2.1, h2.2]

set_option maxRecDepth 100000 in
set_option maxHeartbeats 2000000 in
theorem parses_any (w : World) (he : Env w) : Calls Tryz.prog 20 #[] w fun e w' => e = .returned (.bool true) ∧ Below w.heap.size w w' := by
  have HE := hide he
  clear he
  go_enter Tryz.func20, Tryz.ntmps20
  go_wp2_with fail
  refine (pparse_any ⟨exT1.toArray⟩ w HE.out.m1 HE.out.et).mono ?_
  rintro e w1 ⟨hB, ⟨hbig, _⟩ | ⟨_, y, g, rv, lv, hy, rfl, hz, _⟩ | ⟨_, f, hf, _⟩⟩
  · exact absurd hbig (by decide)
  · have HB := hide hB
    have hs := hB.size
    clear hB hy
    go_wp2_with fail
    refine (pparse_any ⟨exT2.toArray⟩ w1 (HE.out.below HB.out).m1 (HE.out.below HB.out).et).mono ?_
    rintro e w2 ⟨hB2, ⟨hbig, _⟩ | ⟨_, y2, g2, rv2, lv2, hy2, _⟩ | ⟨_, f, hf, rfl⟩⟩
    · exact absurd hbig (by decide)
    · have h2 : parseL exT2 = .ok y2 := hy2
      rw [ex2] at h2
      cases h2
    · have h2 : parseL exT2 = .error f := hf
      rw [ex2] at h2
      cases h2
      have HB2 := hide (HB.out.trans (hB2.mono hs))
      clear hB2 hf
      go_wp2
      go_ret
      exact ⟨rfl, HB2.out⟩
  · obtain ⟨y, hy⟩ := ex1
    have h2 : parseL exT1 = .error f := hf
    rw [hy] at h2
    cases h2

set_option maxRecDepth 100000 in
set_option maxHeartbeats 2000000 in
theorem pick_neg (k : Int) (w : World) (h0 : -9223372036854775808 ≤ k) (hk : k < 0) : Calls Tryz.prog 23 #[.int .i64 k, .int .i64 4] w fun e w' => e = .returned (.int .i64 ((-(k + 1)) % 4)) ∧ w' = w := by
  have he : -(k + 1).tmod 4 = (-(k + 1)) % 4 := by rw [← Int.neg_tmod, Int.tmod_eq_emod_of_nonneg (by omega)]
  have HE := hide he
  clear he
  go_enter Tryz.func23, Tryz.ntmps23
  go_wp2
  go_ret
  refine ⟨?_, rfl⟩
  show Ending.returned (Value.int IntKind.i64 (-(k + 1).tmod 4)) = _
  rw [HE.out]
set_option maxRecDepth 100000 in
set_option maxHeartbeats 2000000 in
theorem pick_pos (k : Int) (w : World) (h1 : k ≤ 9223372036854775807) (hk : 0 ≤ k) : Calls Tryz.prog 23 #[.int .i64 k, .int .i64 4] w fun e w' => e = .returned (.int .i64 (k % 4)) ∧ w' = w := by
  go_enter Tryz.func23, Tryz.ntmps23
  go_wp2
  go_ret
  exact ⟨rfl, rfl⟩
theorem pick_four (k : Int) (h0 : -9223372036854775808 ≤ k) (h1 : k ≤ 9223372036854775807) : ∃ m : Nat, m < 4 ∧ ∀ W, Calls Tryz.prog 23 #[.int .i64 k, .int .i64 4] W fun e w' => e = .returned (.int .i64 (m : Int)) ∧ w' = W := by
  by_cases hk : k < 0
  · refine ⟨((-(k + 1)) % 4).toNat, by omega, fun W => ?_⟩
    have e : (((-(k + 1)) % 4).toNat : Int) = (-(k + 1)) % 4 := by omega
    rw [e]
    exact pick_neg k W h0 hk
  · refine ⟨(k % 4).toNat, by omega, fun W => ?_⟩
    have e : ((k % 4).toNat : Int) = k % 4 := by omega
    rw [e]
    exact pick_pos k W h1 (by omega)

theorem text_small {t : ByteArray} {y : List (List UInt8) × List (CmdT 7)} (h : parseL t.data.toList = .ok y) (ht : t.size ≤ 600) : (textL y).length ≤ 4294967200 := by
  have := textL_len h
  have e : t.data.toList.length = t.size := by simp
  rw [e] at this
  omega

end Go.Proofs.YtbiclelojbfnbaaGreatDoor

namespace Go.Proofs.YtbiclelojbfnbaaGreatDoor
open Go.ChangeShapes Go.WideShapes Go.ChangeAt Go.WideMaps Go.WideElems Go.RowKit
open Go.ChangeMaps (open_string shut_string)
set_option linter.unusedVariables false

theorem Tryz.own : ownKnob Tryz.prog.godebug = none := by kernel_rfl
theorem Tryz.gErr : Tryz.prog.globalNamed "errors.errorType" = some 0 := by kernel_rfl
theorem Tryz.gMax : Tryz.prog.globalNamed "internal/bytealg.MaxLen" = some 1 := by kernel_rfl
theorem Tryz.gPow : Tryz.prog.globalNamed "internal/strconv.uint64pow10" = some 2 := by kernel_rfl
theorem Tryz.rtypeT : (Tryz.prog.cutTypes.find? (·.1 == "internal/reflectlite.rtype")).map (·.2) = some 288 := by kernel_rfl
theorem Tryz.tyCount : Tryz.prog.types.size = 539 := by kernel_rfl
theorem Tryz.oneRow : ((List.range 539).filter fun t => Tryz.prog.rowNamed t [101, 114, 114, 111, 114]) = [90] := by kernel_rfl
theorem Tryz.powTy : (Tryz.prog.globals[2]?).map (·.type) = some 484 := by kernel_rfl

def laid4 : List (String × DataW Unit) := [("math/bits.deBruijn32tab", Rows.laid_math_bits_deBruijn32tab), ("math/bits.deBruijn64tab", Rows.laid_math_bits_deBruijn64tab), ("internal/strconv.uint64pow10", Rows.laid_internal_strconv_uint64pow10), ("errors.errorType", Rows.laid_errors_errorType)]

/-- What the condition gives the walks. -/
theorem of_laid {W : World} (h : laidMetH Tryz.prog laid4 W) : ErrT W ∧ Tab W := by
  have h' : laidMet Tryz.prog [("math/bits.deBruijn32tab", Rows.laid_math_bits_deBruijn32tab), ("math/bits.deBruijn64tab", Rows.laid_math_bits_deBruijn64tab), ("internal/strconv.uint64pow10", Rows.laid_internal_strconv_uint64pow10)] W ∧ handlesMet Tryz.prog [("errors.errorType", Rows.laid_errors_errorType)] W := h
  refine ⟨?_, ?_⟩
  · obtain ⟨name, u, ty, e1, e2, e3, e4, e5⟩ := h'.2 _ (List.mem_singleton.2 rfl)
    have en : name = [101, 114, 114, 111, 114] := (Option.some.inj e1).symm
    subst en
    obtain rfl := Option.some.inj (Tryz.rtypeT.symm.trans e2)
    have hm : ty ∈ (List.range 539).filter fun t => Tryz.prog.rowNamed t [101, 114, 114, 111, 114] := List.mem_filter.2 ⟨List.mem_range.2 (by rw [← Tryz.tyCount]; exact e3), e4⟩
    rw [Tryz.oneRow] at hm
    obtain rfl := List.mem_singleton.1 hm
    have hh : typeHandle Tryz.prog 90 = .pointer (some ⟨7, 90, none⟩) := by kernel_rfl
    rw [hh] at e5
    have := World.var?_cell Tryz.gErr e5 0
    unfold ErrT
    simpa using this
  · have h3 := laidMet.tail (laidMet.tail h'.1)
    exact Lib.tabIs_of_head Tryz.gPow Tryz.powTy Tryz.underlying484 Tryz.underlying356 (by kernel_rfl) (by kernel_rfl) h3

theorem door_met (os : Os) (args : Array Value) : laidMetH Tryz.prog laid4 ((World.doorLaid Tryz.prog 400 os).forCall (fun _ _ => 0) ⟨#[], args, []⟩).memory :=
  laidMetH_of_parts3 (fuel := 8) (laidMet_of_run' 70 (by kernel_rfl) (by kernel_rfl)) (by kernel_rfl) (by kernel_rfl)

/-- The wrap: what is listed, and the world's shape. -/
theorem wrap_both {H : Type} {enc : TypeId × Value → H} {a : Assume} {C : Checked} {os : Os} {f : FuncId} {fn : Func} {s : ChangeSpec} {conds : List PathCond} {apart fresh handsOn again : Bool} {X : World → Array Value → Prop}
    (hX : ∀ (w w' : World) (args : Array Value), w.heap = w'.heap → X w args → X w' args)
    (own : ownKnob C.prog.godebug = none) (started : os.Started) (noInit : C.prog.inits.idxOf? f = none) (hfn : C.prog.funcs[f]? = some fn)
    (witness : ∃ (w : World) (tape : Tape) (i : Input), w.os = os ∧ (w.forCall tape i).Shaped C.prog ∧ i.vars = [] ∧ Input.okWide C.prog (w.forCall tape i) .any w.heap.size f i ∧
      ((s.pre enc C.prog fn conds apart (w.forCall tape i).memory i.args ∧ X (w.forCall tape i).memory i.args) ∧ sizedMet enc C.prog fn (OpenSpec.ofChange s) apart (w.forCall tape i).memory i.args) ∧ a.holds C.prog (lone (Frame.enter C.prog f i.args .normal) [] (w.forCall tape i)))
    (contract : ∀ (W : World) (base : Nat) (args : Array Value) (ds gs : List (DataW H)) (before : List MemPlace),
      (∀ (j : Nat) t v, fn.params[j]? = some t → args[j]? = some v → Value.okWide C.prog W .any base t v) →
      DataW.Whole enc C.prog fn.params.toList s.vars apart W args.toList ds gs before →
      (DataW.weightsEach C.prog (fn.params.toList ++ s.plain.varTypes C.prog) (ds ++ gs)).all (· ≤ reachBytes) = true → X W args → W.ShapedOpen C.prog →
      Calls C.prog f args W fun e W' => ∃ v, e = .returned v ∧ s.post enc C.prog fn apart fresh handsOn again W args v W') :
    ReturnsInHanded a C os f .any (fun w args => (s.pre enc C.prog fn conds apart w args ∧ X w args) ∧ sizedMet enc C.prog fn (OpenSpec.ofChange s) apart w args) (s.post enc C.prog fn apart fresh handsOn again) := by
  refine returnsInHanded_of_calls own started noInit witness ?_
  intro w tape i _ hsh _ hok hpre _
  obtain ⟨_, _, _, fn', hfn', _, _, _, _, hval⟩ := hok
  have e : fn' = fn := Option.some.inj (hfn'.symm.trans hfn)
  subst e
  obtain ⟨⟨⟨ds, gs, before, hw, hc⟩, hx⟩, hz⟩ := hpre
  have hw' := DataW.Whole.of_heap (w' := w.forCall tape i) (by rfl) hw
  refine (contract (w.forCall tape i) w.heap.size i.args ds gs before hval hw' (hz.weights hw) (hX _ _ _ (by rfl) hx) hsh).mono fun e W' ⟨v, he, hp⟩ => ?_
  subst he
  exact ChangeSpec.post_blind hp
theorem max_any {W : World} (h : W.ShapedOpen Tryz.prog) : ∃ m, W.cell? ⟨1, 0, none⟩ = some (.int .i64 m) :=
  cell_of_shapedOpen_int (g := 1) (t := 3) (zero := #[.int .i64 0]) h (by rw [show Tryz.prog.globals.size = 7 by kernel_rfl]; decide) (by kernel_rfl) rfl (by kernel_rfl) (by kernel_rfl) Tryz.underlying3

end Go.Proofs.YtbiclelojbfnbaaGreatDoor

