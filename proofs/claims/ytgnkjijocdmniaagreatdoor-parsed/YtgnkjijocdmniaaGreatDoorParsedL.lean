import Derived.Carry
import Derived.Test.YtgnkjijocdmniaaGreatDoorLPlaysP
import Derived.Test.YtgnkjijocdmniaaGreatDoorZLSmall
import Derived.Test.YtgnkjijocdmniaaGreatDoorRowsC
namespace Go.Proofs.YtgnkjijocdmniaaGreatDoor
set_option linter.unusedVariables false
set_option linter.unusedSimpArgs false
set_option maxRecDepth 100000
set_option maxHeartbeats 4000000
open Go.ChangeShapes Go.WideShapes Go.ChangeAt Go.WideMaps Go.WideElems Go.RowKit
open Go.ChangeMaps (open_string shut_string)
theorem laidOutL:laidOutB Tryz.prog=true:=by kernel_rfl
theorem parsed_lifted (os:Os) (started:os.Started) (H:Type) (enc:TypeId×Value→H) :
 ReturnsInHanded {} Tryz.checked os 3 .any (fun w args=>(Rows.parsedSpec.pre enc Tryz.prog Tryz.f3 [] false w args∧laidMetH Tryz.prog laid4 w)∧sizedMet enc Tryz.prog Tryz.f3 (OpenSpec.ofChange Rows.parsedSpec) false w args)
  (Rows.parsedSpec.post enc Tryz.prog Tryz.f3 false true false false):=by
 refine wrap_both (C:=Tryz.checked) (X:=fun w _=>laidMetH Tryz.prog laid4 w) (fun _ _ _ hh h=>h.of_heap hh) Tryz.own started (by kernel_rfl) Tryz.func3
  (ChangeSpec.witness_shaped (enc:=enc) (C:=Tryz.checked) (os:=os) (X:=fun w _=>laidMetH Tryz.prog laid4 w) false (World.doorLaid Tryz.prog 400 os) #[.slice none 0 0] 8 rfl (World.shaped_of_RefB (by kernel_rfl) (by kernel_rfl)) (by kernel_rfl) (by kernel_rfl) (by kernel_rfl) (door_met os _)) ?_
 intro W base args ds gs before hval0 hW hwt hL hsh
 have hval:∀ (j:Nat) t v,Tryz.f3.params[j]?=some t→args[j]?=some v→Value.okWide Tryz.prog W .any base t v:=hval0
 have hW':=hW
 obtain ⟨p,q,hA0,hV,rfl,hfz,hnd⟩:=hW
 have hA:DataW.TrodAll enc Tryz.prog W 0 (fun _=>true) true Tryz.f3.params.toList args.toList ds p:=hA0
 rw [Tryz.params3] at hA hval
 obtain ⟨v0,d0,rfl,rfl,h0⟩:=trodAll_one hA
 obtain ⟨rfl,rfl⟩:=trodVars_none hV
 have hlt:∀ x∈p,x.block < W.heap.size:=fun x hx=>hW'.lt x (by simp [hx])
 obtain ⟨l,hl,hs,hll⟩:=open_opsL (hval 0 22 v0 rfl rfl) h0 (fun k hk=>of_decide_eq_true (List.all_eq_true.1 hwt k (DataW.weights_mem_each (j:=0) (t:=22) (d:=d0) rfl rfl k hk)))
 have hL':=of_laid hL
 have e1:Rows.parsedSpec.fn H ([d0]++[])={ results:=[.lit (.bool true)],args:=[d0] }:=by simp [Rows.parsedSpec]
 refine (lparsed_all l v0 W ⟨max_any hsh,hL'.1,hL'.2⟩ hl hs (by omega)).mono fun e W' ⟨he,hb⟩=>?_
 subst he
 refine ⟨_,rfl,_,_,_,[],p,[],hW',?_,?_,?_,hb.frame _,fun h=>by cases h⟩
 ·rw [e1];exact trodAll_mk1 (shut_bool Tryz.underlying4 true)
 ·rw [e1]
  exact trodAll_mk1 (Below.trod laidOutL (by kernel_rfl) (by rw [Tryz.tyCount];decide) h0 hb (fun x hx=>hlt x (by simpa using hx)))
 ·rw [e1];rfl
end Go.Proofs.YtgnkjijocdmniaaGreatDoor
