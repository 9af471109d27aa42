import Derived.Test.YtenahlandohgaaaGreatDoorEBoxR
import Derived.Test.YtenahlandohgaaaGreatDoorPlainTwice
namespace Go.Proofs.YtenahlandohgaaaGreatDoor
set_option linter.unusedVariables false
set_option linter.unusedSimpArgs false
set_option maxRecDepth 100000
set_option maxHeartbeats 4000000
open Go.RowKit
structure EnvD (w:World):Prop where
 tab:Tab w
 tz:Tz w
 err:ErrT w
theorem EnvD.below {w w':World} (h:EnvD w) (hb:Below w.heap.size w w'):EnvD w':=
 ⟨h.tab.below hb,h.tz.below hb,(hb.cell (p:=⟨0,0,none⟩) (cell_lt (a:=⟨0,0,none⟩) h.err)).trans h.err⟩
theorem Fr.lowB {B:Nat} {u w w':World} (h:Below u.heap.size u w) (hf:Fr (PDk B) w w') (hB:u.heap.size≤B):Below u.heap.size u w':=
 h.trans (hf.below (fun _ _ hp=>Nat.le_trans hB hp.1) h.size)
theorem aft_own (id text:List UInt8) (acts:List (Int×List UInt8)) (F:Fs) (h3:∀ a∈acts,a.2.length≤2000000) (hF:∀ x,(F x).isSome=true→Lib.hasPrefix x [46]=false) (x:List UInt8) (hx:(aft id acts text F x).isSome=true):Lib.hasPrefix x [46]=false:=by
 cases h:filesL id acts text with
 | error k=>rw [(aft_err _ h).1] at hx;exact hF x hx
 | ok fs=>
  rw [(aft_ok _ h).1] at hx
  rcases putFs_names fs F x hx with hx | ⟨f,hf,rfl⟩
  ·exact hF x hx
  ·exact nameOk_own (((filesL_all 2000000 h h3).2.2.1 f hf).1)
theorem own_jou {F:Fs} (hF:∀ x,(F x).isSome=true→Lib.hasPrefix x [46]=false):F kJournal=none:=by
 cases h:F kJournal with
 | none=>rfl
 | some s=>have:=hF kJournal (by rw [h];rfl);cases this
theorem filesL_len {id text:List UInt8} {acts:List (Int×List UInt8)} {fs:List Fl} (h:filesL id acts text=.ok fs):fs.length=acts.length:=by
 unfold filesL at h
 split at h
 ·split at h
  ·cases h
  ·exact filesTo_len _ _ _ h
 ·cases h
theorem PDk.notFil {B k:Nat} {cs:Array Value}:¬ PDk B k (.cells cs 86):=by
 rintro ⟨_,⟨cs',e⟩ | ⟨es,c,e⟩ | ⟨cs',e⟩⟩
 ·injection e with e1 e2;exact absurd e2 (by decide)
 ·cases e
 ·injection e with e1 e2;exact absurd e2 (by decide)
end Go.Proofs.YtenahlandohgaaaGreatDoor
