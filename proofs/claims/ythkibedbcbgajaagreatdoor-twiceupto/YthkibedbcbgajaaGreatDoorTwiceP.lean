import Derived.Test.YthkibedbcbgajaaGreatDoorTie
import Derived.Test.YthkibedbcbgajaaGreatDoorCards
import Derived.JoinedCond
import Derived.SevenTiedAt
import Derived.Test.YthkibedbcbgajaaGreatDoorTwiceF
import Derived.Test.YthkibedbcbgajaaGreatDoorTwiceL
namespace Go.Proofs.YthkibedbcbgajaaGreatDoor
set_option linter.unusedVariables false
set_option linter.unusedSimpArgs false
set_option maxRecDepth 100000
set_option maxHeartbeats 4000000
open Go
theorem twice_inst:(Tryz.f4).isInstance Tryz.prog Rows.twiceUptoRow.origin Rows.twiceUptoRow.targs:=of_decide_eq_true (by kernel_rfl)
theorem twice_wrap:(Tryz.f4).isWrapper Tryz.prog Rows.twiceUptoRow.wrapper Rows.twiceUptoRow.mainSum:=by
 unfold Func.isWrapper
 first
  | (rw [if_pos (by decide +kernel)];kernel_rfl)
  | (rw [if_neg (by decide +kernel)];exact ⟨rfl,rfl⟩)
theorem twiceUpto_holds:Rows.TwiceUptoSaid:=
 OpenClaim.holds_of_cond 4 Tryz.f4 rfl rfl rfl rfl rfl rfl rfl ⟨rfl,rfl,rfl,rfl,rfl⟩ rfl rfl rfl rfl rfl twiceUpto_named Tryz.func4 twiceUpto_closed
  twice_inst twice_wrap (fun os started H enc _ F=>by rw [OpenClaim.pre_eq_preRow];exact twice_lifted os started H enc F)
theorem twice_want:∀ (j:Nat) (t:TypeId),(Tryz.f4).params[j]?=some t→Tryz.prog.wantsStandIn t=false:=fun j t ht=>by
 rw [Tryz.params4] at ht
 have hm:t∈[9,29,9]:=by
  have:=List.mem_of_getElem? (l:=[9,29,9]) (by simpa using ht)
  exact this
 simp only [List.mem_cons,List.not_mem_nil,or_false] at hm
 rcases hm with rfl | rfl | rfl
 ·exact (show Tryz.prog.wantsStandIn 9=false by kernel_rfl)
 ·exact (show Tryz.prog.wantsStandIn 29=false by kernel_rfl)
 ·exact (show Tryz.prog.wantsStandIn 9=false by kernel_rfl)
theorem twice_wf:Rows.twiceUptoRow.wfByText (Rows.OpenSpec.upto Rows.twiceSpec)=true:=by kernel_rfl
theorem twice_main:Tryz.pinned.checked.prog.mainIs=some (true, "451a72b5529391aa752af144814bfefe244a412250c476e7ee0a89e091554ba3".toList):=by kernel_rfl
theorem twice_looks:true=Tryz.pinned.checked.prog.looks []:=by kernel_rfl
theorem twice_goes:false=Rows.twiceUptoRow.goesBy Tryz.pinned.checked.prog:=by kernel_rfl
theorem twiceUpto_card_holds:Rows.TwiceUptoCardSaid:=
 Claim7.holds_tied_plain_at .later [] [.data,.data,.data,.handle,.sentinel,.sentinel] true (true, "451a72b5529391aa752af144814bfefe244a412250c476e7ee0a89e091554ba3") true
  twiceUpto_holds (fun _ h=>by cases h) twice_wf (fun _ h=>by cases h) twiceUpto_row_tie rfl ⟨rfl,rfl⟩ twice_main rfl
  (fun f fn hf hfn=>by
    obtain rfl:f=4:=(Option.some.inj (twiceUpto_named.symm.trans hf)).symm
    obtain rfl:fn=Tryz.f4:=(Option.some.inj (Tryz.func4.symm.trans hfn)).symm
    exact ⟨twice_looks,twice_want⟩)
  twice_goes
end Go.Proofs.YthkibedbcbgajaaGreatDoor
