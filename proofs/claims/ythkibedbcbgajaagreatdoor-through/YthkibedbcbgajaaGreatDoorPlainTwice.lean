import Derived.Test.YthkibedbcbgajaaGreatDoorZEDeliver
namespace Go.Proofs.YthkibedbcbgajaaGreatDoor
set_option linter.unusedVariables false
set_option linter.unusedSimpArgs false
set_option maxRecDepth 100000
set_option maxHeartbeats 4000000
open Go.RowKit
theorem Qui(fs:List Fl)(F G:Fs)(x:L8)(h:∃ f∈fs,f.1=x):Qbo F fs x=Qbo G fs x:=by
 induction fs generalizing F G with
 |nil=>obtain⟨f,hf,_⟩:=h;cases hf
 |cons f r ih=>
  show Qbo (Que F f) r x=Qbo (Que G f) r x
  by_cases hr:∃ g∈r,g.1=x
  ·exact ih _ _ hr
  ·obtain⟨g,hg,rfl⟩:=h;rcases List.mem_cons.1 hg with rfl|hg
   ·apply QqI;show(if g.1=g.1 then some g.2 else F g.1)=if g.1=g.1 then some g.2 else G g.1
    rw[if_pos rfl,if_pos rfl]
   ·exact absurd ⟨g,hg,rfl⟩ hr
theorem QoG(fs:List Fl)(F:Fs):Qbo (Qbo F fs) fs=Qbo F fs:=by
 funext x;by_cases h:∃ f∈fs,f.1=x
 ·exact Qui fs _ _ x h
 ·rw[Qcw fs (Qbo F fs) x (fun f hf e=>h ⟨f,hf,e⟩)]
end Go.Proofs.YthkibedbcbgajaaGreatDoor
