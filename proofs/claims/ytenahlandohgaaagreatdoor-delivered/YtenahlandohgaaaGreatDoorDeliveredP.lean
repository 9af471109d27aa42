import Derived.Test.YtenahlandohgaaaGreatDoorTie
import Derived.Test.YtenahlandohgaaaGreatDoorCards
import Derived.SevenTiedAt
import Derived.Test.YtenahlandohgaaaGreatDoorDeliveredF
import Derived.Test.YtenahlandohgaaaGreatDoorDeliveredL
namespace Go.Proofs.YtenahlandohgaaaGreatDoor
set_option linter.unusedVariables false
set_option linter.unusedSimpArgs false
set_option maxRecDepth 100000
set_option maxHeartbeats 4000000
open Go
theorem delivered_inst:(Tryz.f3).isInstance Tryz.prog Rows.deliveredRow.origin Rows.deliveredRow.targs:=of_decide_eq_true (by kernel_rfl)
theorem delivered_wrap:(Tryz.f3).isWrapper Tryz.prog Rows.deliveredRow.wrapper Rows.deliveredRow.mainSum:=by
 unfold Func.isWrapper
 first
  | (rw [if_pos (by decide +kernel)];kernel_rfl)
  | (rw [if_neg (by decide +kernel)];exact ⟨rfl,rfl⟩)
theorem delivered_holds:Rows.DeliveredSaid:=
 OpenClaim.holds_of_wide 3 Tryz.f3 rfl rfl rfl rfl rfl rfl rfl ⟨rfl,rfl,rfl,rfl,rfl⟩ rfl rfl rfl rfl rfl delivered_named Tryz.func3 delivered_closed
  delivered_inst delivered_wrap (fun os started H enc _=>delivered_lifted os started H enc)
theorem delivered_want:∀ (j:Nat) (t:TypeId),(Tryz.f3).params[j]?=some t→Tryz.prog.wantsStandIn t=false:=fun j t ht=>by
 rw [Tryz.params3] at ht
 have hm:t∈[22]:=by
  have:=List.mem_of_getElem? (l:=[22]) (by simpa using ht)
  exact this
 simp only [List.mem_cons,List.not_mem_nil,or_false] at hm
 subst hm
 exact (show Tryz.prog.wantsStandIn 22=false by kernel_rfl)
theorem delivered_wf:Rows.deliveredRow.wfByText (OpenSpec.ofChange Rows.deliveredSpec)=true:=by kernel_rfl
theorem delivered_main:Tryz.pinned.checked.prog.mainIs=some (true, "cbefaecbfc1553b11fdc0e51d4464b46dd17f93004bc63905b584ef29d2e352d".toList):=by kernel_rfl
theorem delivered_looks:true=Tryz.pinned.checked.prog.looks []:=by kernel_rfl
theorem delivered_goes:false=Rows.deliveredRow.goesBy Tryz.pinned.checked.prog:=by kernel_rfl
theorem delivered_card_holds:Rows.DeliveredCardSaid:=
 Claim7.holds_tied_plain_at .later [] [.data,.data,.data,.handle,.sentinel,.sentinel] true (true, "cbefaecbfc1553b11fdc0e51d4464b46dd17f93004bc63905b584ef29d2e352d") true
  delivered_holds (fun _ h=>by cases h) delivered_wf (fun _ h=>by cases h) delivered_row_tie rfl ⟨rfl,rfl⟩ delivered_main rfl
  (fun f fn hf hfn=>by
    obtain rfl:f=3:=(Option.some.inj (delivered_named.symm.trans hf)).symm
    obtain rfl:fn=Tryz.f3:=(Option.some.inj (Tryz.func3.symm.trans hfn)).symm
    exact ⟨delivered_looks,delivered_want⟩)
  delivered_goes
end Go.Proofs.YtenahlandohgaaaGreatDoor
