import Derived.Test.YtbiclelojbfnbaaGreatDoorMsgOpen
import Derived.Test.YtbiclelojbfnbaaGreatDoorRowsC
import Derived.Test.YtbiclelojbfnbaaGreatDoorZSameW
namespace Go.Proofs.YtbiclelojbfnbaaGreatDoor
set_option linter.unusedVariables false
set_option linter.unusedSimpArgs false
set_option maxRecDepth 100000
set_option maxHeartbeats 4000000
open Go.ChangeShapes Go.WideShapes Go.ChangeAt Go.WideMaps Go.WideElems Go.RowKit
open Go.ChangeMaps (open_string shut_string)
theorem QnX (os:Os) (started:os.Started) (H:Type) (enc:TypeId×Value→H) :
 ReturnsInHanded {} Tryz.checked os 12 .any (fun w args=>(Rows.sameSpec.pre enc Tryz.prog Tryz.f12 [] false w args∧laidMetH Tryz.prog Qsf w)∧sizedMet enc Tryz.prog Tryz.f12 (OpenSpec.ofChange Rows.sameSpec) false w args)
  (Rows.sameSpec.post enc Tryz.prog Tryz.f12 false true false false):=by
 refine Qru (C:=Tryz.checked) (X:=fun w _=>laidMetH Tryz.prog Qsf w) (fun _ _ _ hh h=>h.of_heap hh) Tryz.own started (by kernel_rfl) Tryz.func12
  (ChangeSpec.witness_shaped (enc:=enc) (C:=Tryz.checked) (os:=os) (X:=fun w _=>laidMetH Tryz.prog Qsf w) false (World.doorLaid Tryz.prog 400 os) #[.string ⟨#[]⟩,.agg #[.string ⟨#[]⟩,.string ⟨#[]⟩,.int .i64 0,.slice none 0 0]] 8 rfl (World.shaped_of_RefB (by kernel_rfl) (by kernel_rfl)) (by kernel_rfl) (by kernel_rfl) (by kernel_rfl) (Qtq os _)) ?_
 intro W base args ds gs before hval0 hW hwt hL hsh
 have hval:∀ (j:Nat) t v,Tryz.f12.params[j]?=some t→args[j]?=some v→Value.okWide Tryz.prog W .any base t v:=hval0
 have hW':=hW
 obtain ⟨p,q,hA0,hV,rfl,hfz,hnd⟩:=hW
 have hA:DataW.TrodAll enc Tryz.prog W 0 (fun _=>true) true Tryz.f12.params.toList args.toList ds p:=hA0
 rw [Tryz.params12] at hA hval
 obtain ⟨v0,v1,d0,d1,p0,p1,rfl,rfl,hps,h0,h1⟩:=trodAll_two hA
 obtain ⟨rfl,rfl⟩:=trodVars_none hV
 have hlt:∀ x∈p,x.block < W.heap.size:=fun x hx=>hW'.lt x (by simp [hx])
 obtain ⟨s,rfl,rfl,rfl,hs⟩:=open_string Tryz.underlying9 (hval 0 9 v0 rfl rfl) h0
 obtain ⟨M,hv,rfl,hG,hMB⟩:=QtB (hval 1 48 v1 rfl rfl) h1 (fun k hk=>of_decide_eq_true (List.all_eq_true.1 hwt k (DataW.weights_mem_each (j:=1) (t:=48) (d:=d1) rfl rfl k hk)))
 have hL':=QuQ hL
 have hs2:s.size≤9223372036854775807:=by unfold maxLen at hs;omega
 have e1:Rows.sameSpec.fn H ([.lit (.string s.data.toList),d1]++[])={ results:=[.lit (.bool true)],args:=[.lit (.string s.data.toList),d1] }:=by simp [Rows.sameSpec]
 refine (Qoe s M hv W ⟨Qug hsh,hL'.1,hL'.2⟩ hs2 hG hMB).mono fun e W' ⟨he,hb⟩=>?_
 subst he
 refine ⟨_,rfl,_,_,_,[],p,[],hW',?_,?_,?_,hb.frame _,fun h=>by cases h⟩
 ·rw [e1];exact trodAll_mk1 (shut_bool Tryz.underlying4 true)
 ·rw [e1]
  subst hps
  exact trodAll_mk2 (shut_string Tryz.underlying9 hs) (Below.trod Tryz.laidOut (by kernel_rfl) (by rw [Tryz.tyCount];decide) h1 hb (fun x hx=>hlt x (by simp [hx])))
 ·rw [e1];rfl
end Go.Proofs.YtbiclelojbfnbaaGreatDoor
