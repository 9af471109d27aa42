import Derived.Test.YtbiclelojbfnbabGreatDoorTie
import Derived.Test.YtbiclelojbfnbabGreatDoorCards
import Derived.SevenTiedAt
import Derived.Test.YtbiclelojbfnbabGreatDoorGlobbedF
import Derived.Test.YtbiclelojbfnbabGreatDoorGlobbedL
namespace Go.Proofs.YtbiclelojbfnbabGreatDoor
set_option linter.unusedVariables false
set_option linter.unusedSimpArgs false
set_option maxRecDepth 100000
set_option maxHeartbeats 4000000
open Go
theorem Qk8:(Tryz.f3).isInstance Tryz.prog Rows.globbedRow.origin Rows.globbedRow.targs:=of_decide_eq_true (by kernel_rfl)
theorem QkQ:(Tryz.f3).isWrapper Tryz.prog Rows.globbedRow.wrapper Rows.globbedRow.mainSum:=by
 unfold Func.isWrapper
 first
  | (rw [if_pos (by decide +kernel)];kernel_rfl)
  | (rw [if_neg (by decide +kernel)];exact ⟨rfl,rfl⟩)
theorem QjO:Rows.GlobbedSaid:=
 OpenClaim.holds_of_wide 3 Tryz.f3 rfl rfl rfl rfl rfl rfl rfl ⟨rfl,rfl,rfl,rfl,rfl⟩ rfl rfl rfl rfl rfl Qf5 Tryz.func3 QiA
  Qk8 QkQ (fun os started H enc _=>Qiw os started H enc)
theorem QkB:∀ (j:Nat) (t:TypeId),(Tryz.f3).params[j]?=some t→Tryz.prog.wantsStandIn t=false:=fun j t ht=>by
 rw [Tryz.params3] at ht
 have hm:t∈[9,3,3]:=by
  have:=List.mem_of_getElem? (l:=[9,3,3]) (by simpa using ht)
  exact this
 simp only [List.mem_cons,List.not_mem_nil,or_false] at hm
 rcases hm with rfl | rfl | rfl
 ·exact (show Tryz.prog.wantsStandIn 9=false by kernel_rfl)
 ·exact (show Tryz.prog.wantsStandIn 3=false by kernel_rfl)
 ·exact (show Tryz.prog.wantsStandIn 3=false by kernel_rfl)
theorem QoR:Rows.globbedRow.wfByText (OpenSpec.ofChange Rows.globbedSpec)=true:=by kernel_rfl
theorem Ql7:Tryz.pinned.checked.prog.mainIs=some (true, "451a72b5529391aa752af144814bfefe244a412250c476e7ee0a89e091554ba3".toList):=by kernel_rfl
theorem QjQ:true=Tryz.pinned.checked.prog.looks []:=by kernel_rfl
theorem Qlc:false=Rows.globbedRow.goesBy Tryz.pinned.checked.prog:=by kernel_rfl
theorem globbed_card_holds:Rows.GlobbedCardSaid:=
 Claim7.holds_tied_plain_at .later [] [.data,.data,.data,.handle] true (true, "451a72b5529391aa752af144814bfefe244a412250c476e7ee0a89e091554ba3") true
  QjO (fun _ h=>by cases h) QoR (fun _ h=>by cases h) globbed_row_tie rfl ⟨rfl,rfl⟩ Ql7 rfl
  (fun f fn hf hfn=>by
    obtain rfl:f=3:=(Option.some.inj (Qf5.symm.trans hf)).symm
    obtain rfl:fn=Tryz.f3:=(Option.some.inj (Tryz.func3.symm.trans hfn)).symm
    exact ⟨QjQ,QkB⟩)
  Qlc
end Go.Proofs.YtbiclelojbfnbabGreatDoor
