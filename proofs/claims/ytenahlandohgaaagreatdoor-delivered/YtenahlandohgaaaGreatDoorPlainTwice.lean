import Derived.Test.YtenahlandohgaaaGreatDoorDList
import Derived.Test.YtenahlandohgaaaGreatDoorELeave
namespace Go.Proofs.YtenahlandohgaaaGreatDoor
set_option linter.unusedVariables false
set_option linter.unusedSimpArgs false
set_option maxRecDepth 100000
set_option maxHeartbeats 4000000
open Go.RowKit
theorem putFs_names (fs:List Fl) (F:Fs) (x:List UInt8) (h:(putFs F fs x).isSome=true):(F x).isSome=true∨∃ f∈fs,f.1=x:=by
 by_cases e:∃ f∈fs,f.1=x
 ·exact Or.inr e
 ·rw [putFs_other fs F x (fun f hf e'=>e ⟨f,hf,e'⟩)] at h
  exact Or.inl h
theorem nameOk_own {x:List UInt8} (h:NameOk x):Lib.hasPrefix x [46]=false:=by
 obtain ⟨_,c,r,rfl,hc⟩:=h
 show (((46:UInt8) == c) && List.isPrefixOf [] r)=false
 have:((46:UInt8) == c)=false:=by simp only [beq_eq_false_iff_ne];exact Ne.symm hc
 rw [this];rfl
def aft (id:List UInt8) (acts:List (Int×List UInt8)) (text:List UInt8) (F:Fs):Fs:=
 match filesL id acts text with
 | .error _=>F
 | .ok fs=>putFs F fs
def aftN (id:List UInt8) (acts:List (Int×List UInt8)) (text:List UInt8):Nat:=
 match filesL id acts text with
 | .error k=>k
 | .ok _=>0
theorem aft_err {id text:List UInt8} {acts:List (Int×List UInt8)} {k:Nat} (F:Fs) (h:filesL id acts text=.error k):aft id acts text F=F∧aftN id acts text=k:=by
 unfold aft aftN;rw [h];exact ⟨rfl,rfl⟩
theorem aft_ok {id text:List UInt8} {acts:List (Int×List UInt8)} {fs:List Fl} (F:Fs) (h:filesL id acts text=.ok fs):aft id acts text F=putFs F fs∧aftN id acts text=0:=by
 unfold aft aftN;rw [h];exact ⟨rfl,rfl⟩
end Go.Proofs.YtenahlandohgaaaGreatDoor
