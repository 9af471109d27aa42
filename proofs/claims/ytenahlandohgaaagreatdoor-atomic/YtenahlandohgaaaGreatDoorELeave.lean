import Derived.Test.YtenahlandohgaaaGreatDoorEFiles
import Derived.Test.YtenahlandohgaaaGreatDoorZEOut
import Derived.Test.YtenahlandohgaaaGreatDoorETurn
namespace Go.Proofs.YtenahlandohgaaaGreatDoor
set_option linter.unusedVariables false
set_option linter.unusedSimpArgs false
set_option maxRecDepth 100000
set_option maxHeartbeats 4000000
open Go.RowKit
attribute [local go_sem ↓] Go.wp_at_zero Go.wp_at_succ
theorem wpOpE {P:Program} {ops:Array Oper} {Q:Exit→Act→World→Prop} {i:Nat} {o:Oper} {K:Act→World→Prop} {a:Act} {w:World} (ho:ops[i]?=some o) (hw:Region.wanted o (yielded ops a.tmps)=true) (h:o.wp P a w K Q):wpOp P ops Q i K a w:=by
 unfold wpOp
 rw [ho]
 dsimp only
 rw [if_pos hw]
 exact Or.inl h
theorem putFs_other (fs:List Fl) (F:Fs) (x:List UInt8) (h:∀ f∈fs,f.1≠x):putFs F fs x=F x:=by
 induction fs generalizing F with
 | nil=>rfl
 | cons f r ih=>
  show putFs (putP F f) r x=_
  rw [ih _ (fun g hg=>h g (by simp [hg]))]
  show (if x=f.1 then some f.2 else F x)=F x
  rw [if_neg (fun e=>h f (by simp) e.symm)]
theorem below_drewE {B:Nat} {u w:World} (h:Below B u w):Below B u w.drew:=⟨h.os,h.tape,h.output,h.size,h.block⟩
end Go.Proofs.YtenahlandohgaaaGreatDoor
