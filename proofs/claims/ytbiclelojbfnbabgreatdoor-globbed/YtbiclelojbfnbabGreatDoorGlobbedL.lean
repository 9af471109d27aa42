import Derived.Test.YtbiclelojbfnbabGreatDoorZGlobbedY
import Derived.Test.YtbiclelojbfnbabGreatDoorZXPRun
namespace Go.Proofs.YtbiclelojbfnbabGreatDoor
set_option linter.unusedVariables false
set_option linter.unusedSimpArgs false
set_option maxRecDepth 100000
set_option maxHeartbeats 4000000
open Go.ChangeShapes Go.WideShapes Go.ChangeAt Go.WideMaps Go.WideElems Go.RowKit
open Go.ChangeMaps (open_string shut_string)
theorem Qiw (os:Os) (started:os.Started) (H:Type) (enc:TypeId×Value→H) :
 ReturnsInHanded {} Tryz.checked os 3 .any (fun w args=>(Rows.globbedSpec.pre enc Tryz.prog Tryz.f3 [] false w args∧laidMetH Tryz.prog Qq7 w)∧sizedMet enc Tryz.prog Tryz.f3 (OpenSpec.ofChange Rows.globbedSpec) false w args)
  (Rows.globbedSpec.post enc Tryz.prog Tryz.f3 false true false false):=by
 refine QqY (C:=Tryz.checked) (X:=fun w _=>laidMetH Tryz.prog Qq7 w) (fun _ _ _ hh h=>h.of_heap hh) Tryz.own started (by kernel_rfl) Tryz.func3
  (ChangeSpec.witness_shaped (enc:=enc) (C:=Tryz.checked) (os:=os) (X:=fun w _=>laidMetH Tryz.prog Qq7 w) false (World.doorLaid Tryz.prog 400 os) #[.string ⟨#[]⟩,.int .i64 0,.int .i64 0] 8 rfl (World.shaped_of_RefB (by kernel_rfl) (by kernel_rfl)) (by kernel_rfl) (by kernel_rfl) (by kernel_rfl) (Qse os _)) ?_
 intro W base args ds gs before hval0 hW hwt hL hsh
 have hval:∀ (j:Nat) t v,Tryz.f3.params[j]?=some t→args[j]?=some v→Value.okWide Tryz.prog W .any base t v:=hval0
 have hW':=hW
 obtain ⟨p,q,hA0,hV,rfl,hfz,hnd⟩:=hW
 have hA:DataW.TrodAll enc Tryz.prog W 0 (fun _=>true) true Tryz.f3.params.toList args.toList ds p:=hA0
 rw [Tryz.params3] at hA hval
 obtain ⟨v0,v1,v2,d0,d1,d2,p0,p1,p2,rfl,rfl,hps,h0,h1,h2⟩:=trodAll_three hA
 obtain ⟨rfl,rfl⟩:=trodVars_none hV
 obtain ⟨s,rfl,rfl,rfl,hs⟩:=open_string Tryz.underlying9 (hval 0 9 v0 rfl rfl) h0
 obtain ⟨k,rfl,rfl,rfl,hk⟩:=open_int Tryz.underlying3 (hval 1 3 v1 rfl rfl) h1
 obtain ⟨n,rfl,rfl,rfl,hn⟩:=open_int Tryz.underlying3 (hval 2 3 v2 rfl rfl) h2
 have hL':=Qtd hL
 have hk2:-9223372036854775808≤k∧k≤9223372036854775807:=by
  have h:(decide (IntKind.i64.min≤k) && decide (k≤IntKind.i64.max))=true:=hk
  simp only [Bool.and_eq_true,decide_eq_true_eq] at h
  have e1:IntKind.i64.min = -9223372036854775808:=by decide
  have e2:IntKind.i64.max=9223372036854775807:=by decide
  omega
 have hn2:-9223372036854775808≤n∧n≤9223372036854775807:=by
  have h:(decide (IntKind.i64.min≤n) && decide (n≤IntKind.i64.max))=true:=hn
  simp only [Bool.and_eq_true,decide_eq_true_eq] at h
  have e1:IntKind.i64.min = -9223372036854775808:=by decide
  have e2:IntKind.i64.max=9223372036854775807:=by decide
  omega
 have hs2:s.size≤140737488351232:=by
  have h:=sized_string (j:=0) (t:=9) (bytes:=s.data.toList) hwt (by rfl) (by rfl)
  have e:s.data.toList.length=s.size:=by simp
  have e2:reachBytes=140737488351232:=by decide
  omega
 have e1:Rows.globbedSpec.fn H ([.lit (.string s.data.toList),.lit (.int .i64 k),.lit (.int .i64 n)]++[])={ results:=[.lit (.bool true)],args:=[.lit (.string s.data.toList),.lit (.int .i64 k),.lit (.int .i64 n)] }:=by simp [Rows.globbedSpec]
 refine (Qiu s k n W ⟨QtP hsh,hL'.1,hL'.2⟩ (by omega) hk2.1 hk2.2 hn2.1 hn2.2).mono fun e W' ⟨he,hb⟩=>?_
 subst he
 refine ⟨_,rfl,_,_,_,[],[],[],hW',?_,?_,?_,hb.frame _,fun h=>by cases h⟩
 ·rw [e1];exact trodAll_mk1 (shut_bool Tryz.underlying4 true)
 ·rw [e1];exact trodAll_mk3 (shut_string Tryz.underlying9 hs) (shut_int Tryz.underlying3 hk) (shut_int Tryz.underlying3 hn)
 ·rw [e1];rfl
end Go.Proofs.YtbiclelojbfnbabGreatDoor
