import Derived.Test.YthkibedbcbgajaaGreatDoorTie
import Derived.Test.YthkibedbcbgajaaGreatDoorCards
import Derived.SevenTiedAt
import Derived.Test.YthkibedbcbgajaaGreatDoorThroughF
import Derived.Test.YthkibedbcbgajaaGreatDoorZThroughL
namespace Go.Proofs.YthkibedbcbgajaaGreatDoor
set_option linter.unusedVariables false
set_option linter.unusedSimpArgs false
set_option maxRecDepth 100000
set_option maxHeartbeats 4000000
open Go.Proofs.Tryz
open Go
theorem QnE:(Tryz.f5).isInstance Tryz.prog Rows.throughRow.origin Rows.throughRow.targs:=of_decide_eq_true (by kernel_rfl)
theorem Qnk:(Tryz.f5).isWrapper Tryz.prog Rows.throughRow.wrapper Rows.throughRow.mainSum:=by
 unfold Func.isWrapper
 first
  |(rw[if_pos (by decide +kernel)];kernel_rfl)
  |(rw[if_neg (by decide +kernel)];exact⟨rfl,rfl⟩)
theorem Qll:Rows.ThroughSaid:=
 OpenClaim.holds_of_wide 5 Tryz.f5 rfl rfl rfl rfl rfl rfl rfl ⟨rfl,rfl,rfl,rfl,rfl⟩ rfl rfl rfl rfl rfl Qgy func5 QjC
  QnE Qnk (fun os started H enc _=>Qjk os started H enc)
theorem Qme:∀(j:Nat) (t:TypeId),(Tryz.f5).params[j]?=some t->Tryz.prog.wantsStandIn t=false:=fun j t ht=>by
 rw[Tryz.params5]at ht
 have hm:t∈[9,28,3,3,3]:=by
  have:=List.mem_of_getElem? (l:=[9,28,3,3,3]) (by simpa using ht);exact this
 simp only[List.mem_cons,List.not_mem_nil,or_false]at hm;rcases hm with rfl|rfl|rfl|rfl|rfl
 ·exact(show Tryz.prog.wantsStandIn 9=false by kernel_rfl)
 ·exact(show Tryz.prog.wantsStandIn 28=false by kernel_rfl)
 ·exact(show Tryz.prog.wantsStandIn 3=false by kernel_rfl)
 ·exact(show Tryz.prog.wantsStandIn 3=false by kernel_rfl)
 ·exact(show Tryz.prog.wantsStandIn 3=false by kernel_rfl)
theorem QrY:Rows.throughRow.wfByText (OpenSpec.ofChange Rows.throughSpec)=true:=by kernel_rfl
theorem QmX:Tryz.pinned.checked.prog.mainIs=some (true, "451a72b5529391aa752af144814bfefe244a412250c476e7ee0a89e091554ba3".toList):=by kernel_rfl
theorem QlK:true=Tryz.pinned.checked.prog.looks []:=by kernel_rfl
theorem Ql2:false=Rows.throughRow.goesBy Tryz.pinned.checked.prog:=by kernel_rfl
theorem through_card_holds:Rows.ThroughCardSaid:=
 Claim7.holds_tied_plain_at .later [] [.data,.data,.data,.handle,.sentinel,.sentinel] true (true, "451a72b5529391aa752af144814bfefe244a412250c476e7ee0a89e091554ba3") true
  Qll (fun _ h=>by cases h) QrY (fun _ h=>by cases h) through_row_tie rfl ⟨rfl,rfl⟩ QmX rfl
  (fun f fn hf hfn=>by
    obtain rfl:f=5:=(Option.some.inj (Qgy.symm.trans hf)).symm;obtain rfl:fn=Tryz.f5:=(Option.some.inj (func5.symm.trans hfn)).symm
    exact ⟨QlK,Qme⟩)
  Ql2
end Go.Proofs.YthkibedbcbgajaaGreatDoor
