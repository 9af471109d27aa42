import Derived.Test.YtgnkjijocdmniaaGreatDoorTie
import Derived.Test.YtgnkjijocdmniaaGreatDoorCards
import Derived.SevenTiedAt
import Derived.Test.YtgnkjijocdmniaaGreatDoorParsedF
import Derived.Test.YtgnkjijocdmniaaGreatDoorParsedL
namespace Go.Proofs.YtgnkjijocdmniaaGreatDoor
set_option linter.unusedVariables false
set_option linter.unusedSimpArgs false
set_option maxRecDepth 100000
set_option maxHeartbeats 4000000
open Go
theorem parsed_inst:(Tryz.f3).isInstance Tryz.prog Rows.parsedRow.origin Rows.parsedRow.targs:=of_decide_eq_true (by kernel_rfl)
theorem parsed_wrap:(Tryz.f3).isWrapper Tryz.prog Rows.parsedRow.wrapper Rows.parsedRow.mainSum:=by
 unfold Func.isWrapper
 first
  | (rw [if_pos (by decide +kernel)];kernel_rfl)
  | (rw [if_neg (by decide +kernel)];exact ⟨rfl,rfl⟩)
theorem parsed_holds:Rows.ParsedSaid:=
 OpenClaim.holds_of_wide 3 Tryz.f3 rfl rfl rfl rfl rfl rfl rfl ⟨rfl,rfl,rfl,rfl,rfl⟩ rfl rfl rfl rfl rfl parsed_named Tryz.func3 parsed_closed
  parsed_inst parsed_wrap (fun os started H enc _=>parsed_lifted os started H enc)
theorem parsed_want:∀ (j:Nat) (t:TypeId),(Tryz.f3).params[j]?=some t→Tryz.prog.wantsStandIn t=false:=fun j t ht=>by
 rw [Tryz.params3] at ht
 have hm:t∈[22]:=by
  have:=List.mem_of_getElem? (l:=[22]) (by simpa using ht)
  exact this
 simp only [List.mem_cons,List.not_mem_nil,or_false] at hm
 subst hm
 exact (show Tryz.prog.wantsStandIn 22=false by kernel_rfl)
theorem parsed_wf:Rows.parsedRow.wfByText (OpenSpec.ofChange Rows.parsedSpec)=true:=by kernel_rfl
theorem parsed_main:Tryz.pinned.checked.prog.mainIs=some (true, "f92bcb6c8891d389d7e26fd120d8b9519b3e2ba37a68b58703642a3997de0636".toList):=by kernel_rfl
theorem parsed_looks:true=Tryz.pinned.checked.prog.looks []:=by kernel_rfl
theorem parsed_goes:false=Rows.parsedRow.goesBy Tryz.pinned.checked.prog:=by kernel_rfl
theorem parsed_card_holds:Rows.ParsedCardSaid:=
 Claim7.holds_tied_plain_at .later [] [.data,.data,.data,.handle] true (true, "f92bcb6c8891d389d7e26fd120d8b9519b3e2ba37a68b58703642a3997de0636") true
  parsed_holds (fun _ h=>by cases h) parsed_wf (fun _ h=>by cases h) parsed_row_tie rfl ⟨rfl,rfl⟩ parsed_main rfl
  (fun f fn hf hfn=>by
    obtain rfl:f=3:=(Option.some.inj (parsed_named.symm.trans hf)).symm
    obtain rfl:fn=Tryz.f3:=(Option.some.inj (Tryz.func3.symm.trans hfn)).symm
    exact ⟨parsed_looks,parsed_want⟩)
  parsed_goes
end Go.Proofs.YtgnkjijocdmniaaGreatDoor
