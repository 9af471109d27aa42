import Derived.Test.YtbiclelojbfnbaaGreatDoorTie
import Derived.Test.YtbiclelojbfnbaaGreatDoorCards
import Derived.SevenTiedAt
import Derived.Test.YtbiclelojbfnbaaGreatDoorSameF
import Derived.Test.YtbiclelojbfnbaaGreatDoorSameL
namespace Go.Proofs.YtbiclelojbfnbaaGreatDoor
set_option linter.unusedVariables false
set_option linter.unusedSimpArgs false
set_option maxRecDepth 100000
set_option maxHeartbeats 4000000
open Go
theorem Qr2:(Tryz.f12).isInstance Tryz.prog Rows.sameRow.origin Rows.sameRow.targs:=of_decide_eq_true (by kernel_rfl)
theorem Qr5:(Tryz.f12).isWrapper Tryz.prog Rows.sameRow.wrapper Rows.sameRow.mainSum:=by
 unfold Func.isWrapper
 first
  | (rw [if_pos (by decide +kernel)];kernel_rfl)
  | (rw [if_neg (by decide +kernel)];exact ⟨rfl,rfl⟩)
theorem QpM:Rows.SameSaid:=
 OpenClaim.holds_of_wide 12 Tryz.f12 rfl rfl rfl rfl rfl rfl rfl ⟨rfl,rfl,rfl,rfl,rfl⟩ rfl rfl rfl rfl rfl QjC Tryz.func12 QnE
  Qr2 Qr5 (fun os started H enc _=>QnX os started H enc)
theorem Qsq:∀ (j:Nat) (t:TypeId),(Tryz.f12).params[j]?=some t→Tryz.prog.wantsStandIn t=false:=fun j t ht=>by
 rw [Tryz.params12] at ht
 have hm:t∈[9,48]:=by
  have:=List.mem_of_getElem? (l:=[9,48]) (by simpa using ht)
  exact this
 simp only [List.mem_cons,List.not_mem_nil,or_false] at hm
 rcases hm with rfl | rfl
 ·exact (show Tryz.prog.wantsStandIn 9=false by kernel_rfl)
 ·exact (show Tryz.prog.wantsStandIn 48=false by kernel_rfl)
theorem QuB:Rows.sameRow.wfByText (OpenSpec.ofChange Rows.sameSpec)=true:=by kernel_rfl
theorem Qsy:Tryz.pinned.checked.prog.mainIs=some (true, "9ceb2eaf1a16ec9e22eeaf2f53cd7e632e19e15a0eaf49145f9bde2ade0bd6a0".toList):=by kernel_rfl
theorem QpE:true=Tryz.pinned.checked.prog.looks []:=by kernel_rfl
theorem Qrp:false=Rows.sameRow.goesBy Tryz.pinned.checked.prog:=by kernel_rfl
theorem same_card_holds:Rows.SameCardSaid:=
 Claim7.holds_tied_plain_at .later [] [.data,.data,.data,.handle] true (true, "9ceb2eaf1a16ec9e22eeaf2f53cd7e632e19e15a0eaf49145f9bde2ade0bd6a0") true
  QpM (fun _ h=>by cases h) QuB (fun _ h=>by cases h) same_row_tie rfl ⟨rfl,rfl⟩ Qsy rfl
  (fun f fn hf hfn=>by
    obtain rfl:f=12:=(Option.some.inj (QjC.symm.trans hf)).symm
    obtain rfl:fn=Tryz.f12:=(Option.some.inj (Tryz.func12.symm.trans hfn)).symm
    exact ⟨QpE,Qsq⟩)
  Qrp
end Go.Proofs.YtbiclelojbfnbaaGreatDoor
