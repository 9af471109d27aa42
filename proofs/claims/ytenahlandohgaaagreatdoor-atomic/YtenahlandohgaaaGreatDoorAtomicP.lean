import Derived.Test.YtenahlandohgaaaGreatDoorTie
import Derived.Test.YtenahlandohgaaaGreatDoorCards
import Derived.SevenTiedAt
import Derived.Test.YtenahlandohgaaaGreatDoorAtomicF
import Derived.Test.YtenahlandohgaaaGreatDoorAtomicL
namespace Go.Proofs.YtenahlandohgaaaGreatDoor
set_option linter.unusedVariables false
set_option linter.unusedSimpArgs false
set_option maxRecDepth 100000
set_option maxHeartbeats 4000000
open Go
theorem atomic_inst:(Tryz.f4).isInstance Tryz.prog Rows.atomicRow.origin Rows.atomicRow.targs:=of_decide_eq_true (by kernel_rfl)
theorem atomic_wrap:(Tryz.f4).isWrapper Tryz.prog Rows.atomicRow.wrapper Rows.atomicRow.mainSum:=by
 unfold Func.isWrapper
 first
  | (rw [if_pos (by decide +kernel)];kernel_rfl)
  | (rw [if_neg (by decide +kernel)];exact ⟨rfl,rfl⟩)
theorem atomic_holds:Rows.AtomicSaid:=
 OpenClaim.holds_of_wide 4 Tryz.f4 rfl rfl rfl rfl rfl rfl rfl ⟨rfl,rfl,rfl,rfl,rfl⟩ rfl rfl rfl rfl rfl atomic_named Tryz.func4 atomic_closed
  atomic_inst atomic_wrap (fun os started H enc _=>atomic_lifted os started H enc)
theorem atomic_want:∀ (j:Nat) (t:TypeId),(Tryz.f4).params[j]?=some t→Tryz.prog.wantsStandIn t=false:=fun j t ht=>by
 rw [Tryz.params4] at ht
 have hm:t∈[22]:=by
  have:=List.mem_of_getElem? (l:=[22]) (by simpa using ht)
  exact this
 simp only [List.mem_cons,List.not_mem_nil,or_false] at hm
 subst hm
 exact (show Tryz.prog.wantsStandIn 22=false by kernel_rfl)
theorem atomic_wf:Rows.atomicRow.wfByText (OpenSpec.ofChange Rows.atomicSpec)=true:=by kernel_rfl
theorem atomic_main:Tryz.pinned.checked.prog.mainIs=some (true, "cbefaecbfc1553b11fdc0e51d4464b46dd17f93004bc63905b584ef29d2e352d".toList):=by kernel_rfl
theorem atomic_looks:true=Tryz.pinned.checked.prog.looks []:=by kernel_rfl
theorem atomic_goes:false=Rows.atomicRow.goesBy Tryz.pinned.checked.prog:=by kernel_rfl
theorem atomic_card_holds:Rows.AtomicCardSaid:=
 Claim7.holds_tied_plain_at .later [] [.data,.data,.data,.handle,.sentinel,.sentinel] true (true, "cbefaecbfc1553b11fdc0e51d4464b46dd17f93004bc63905b584ef29d2e352d") true
  atomic_holds (fun _ h=>by cases h) atomic_wf (fun _ h=>by cases h) atomic_row_tie rfl ⟨rfl,rfl⟩ atomic_main rfl
  (fun f fn hf hfn=>by
    obtain rfl:f=4:=(Option.some.inj (atomic_named.symm.trans hf)).symm
    obtain rfl:fn=Tryz.f4:=(Option.some.inj (Tryz.func4.symm.trans hfn)).symm
    exact ⟨atomic_looks,atomic_want⟩)
  atomic_goes
end Go.Proofs.YtenahlandohgaaaGreatDoor
