import Derived.Deep.DeepHandedRow
import Derived.Deep.DeepWitnessRowRef
import Derived.Test.YthkibedbcbgajaaGreatDoorActOpen
import Derived.Test.YthkibedbcbgajaaGreatDoorTwiceX
namespace Go.Proofs.YthkibedbcbgajaaGreatDoor
set_option linter.unusedVariables false
set_option linter.unusedSimpArgs false
set_option maxRecDepth 100000
set_option maxHeartbeats 4000000
open Go.ChangeShapes Go.WideShapes Go.ChangeAt Go.WideMaps Go.WideElems Go.RowKit
open Go.ChangeMaps (open_string shut_string)
theorem Tryz.gBru:Tryz.prog.globalNamed "math/bits.deBruijn64tab"=some 6:=by kernel_rfl
theorem Tryz.bruTy:(Tryz.prog.globals[6]?).map (·.type)=some 390:=by kernel_rfl
def bruTab:List Int:=[0,1,56,2,57,49,28,3,61,58,42,50,38,29,17,4,62,47,59,36,45,43,51,22,53,39,33,30,24,18,12,5,63,55,48,27,60,41,37,16,46,35,44,21,52,32,23,11,54,26,40,15,34,20,31,10,25,14,19,9,13,8,7,6]
theorem of_laid6 {W:World} (h:laidMetH Tryz.prog Rows.twiceUptoRow.laid W):EnvD W:=by
 have h':laidMet Tryz.prog [("math/bits.deBruijn32tab",Rows.laid_math_bits_deBruijn32tab),("math/bits.deBruijn64tab",Rows.laid_math_bits_deBruijn64tab),("internal/strconv.uint64pow10",Rows.laid_internal_strconv_uint64pow10),("strconv.ErrRange",Rows.laid_strconv_ErrRange),("strconv.ErrSyntax",Rows.laid_strconv_ErrSyntax)] W∧handlesMet Tryz.prog [("errors.errorType",Rows.laid_errors_errorType)] W:=h
 refine ⟨?_,?_,?_⟩
 ·have h3:=laidMet.tail (laidMet.tail h'.1)
  exact Lib.tabIs_of_head Tryz.gPow Tryz.powTy Tryz.underlying377 Tryz.underlying177 (by kernel_rfl) (by kernel_rfl) h3
 ·have h2:=laidMet.tail h'.1
  have ht:Lib.TabIs Tryz.prog W "math/bits.deBruijn64tab" .u8 bruTab:=Lib.tabIs_of_head Tryz.gBru Tryz.bruTy Tryz.underlying390 Tryz.underlying5 (by kernel_rfl) (by kernel_rfl) h2
  exact ht.cell Tryz.gBru 15 (by decide)
 ·obtain ⟨name,u,ty,e1,e2,e3,e4,e5⟩:=h'.2 _ (List.mem_singleton.2 rfl)
  have en:name=[101,114,114,111,114]:=(Option.some.inj e1).symm
  subst en
  obtain rfl:=Option.some.inj (Tryz.rtypeT.symm.trans e2)
  have hm:ty∈(List.range 434).filter fun t=>Tryz.prog.rowNamed t [101,114,114,111,114]:=List.mem_filter.2 ⟨List.mem_range.2 (by rw [← Tryz.tyCount];exact e3),e4⟩
  rw [Tryz.oneRow] at hm
  obtain rfl:=List.mem_singleton.1 hm
  have hh:typeHandle Tryz.prog 61=.pointer (some ⟨7,61,none⟩):=by kernel_rfl
  rw [hh] at e5
  have:=World.var?_cell Tryz.gErr e5 0
  unfold ErrT
  simpa using this
theorem laidOutE:laidOutB Tryz.prog=true:=by kernel_rfl
theorem door_met6 (os:Os) (args:Array Value):laidMetH Tryz.prog Rows.twiceUptoRow.laid ((World.doorLaid Tryz.prog 400 os).forCall (fun _ _=>0) ⟨#[],args,[]⟩).memory:=
 laidMetH_of_parts3 (fuel:=8) (laidMet_of_run' 70 (by kernel_rfl) (by kernel_rfl)) (by kernel_rfl) (by kernel_rfl)
theorem twice_contract (H:Type) (enc:TypeId×Value→H) (F:Stop.Interp) (W:World) (base:Nat) (args:Array Value) (ds gs:List (DataW H)) (before:List MemPlace)
 (hval:∀ (j:Nat) t v,Tryz.f4.params[j]?=some t→args[j]?=some v→Value.okWide Tryz.prog W .any base t v)
 (hW:DataW.Whole enc Tryz.prog Tryz.f4.params.toList Rows.twiceSpec.vars false W args.toList ds gs before) (hk:Rows.uptoSmall H (ds++gs)=true) (hL:laidMetH Tryz.prog Rows.twiceUptoRow.laid W) :
 Calls Tryz.prog 4 args W fun e W'=>∃ v,e=.returned v∧Rows.twiceSpec.post enc Tryz.prog Tryz.f4 false true false false W args v W':=by
 have hW':=hW
 obtain ⟨p,q,hA0,hV,rfl,hfz,hnd⟩:=hW
 have hA:DataW.TrodAll enc Tryz.prog W 0 (fun _=>true) true Tryz.f4.params.toList args.toList ds p:=hA0
 rw [Tryz.params4] at hA hval
 obtain ⟨v0,v1,v2,d0,d1,d2,p0,p1,p2,rfl,rfl,hps,h0,h1,h2⟩:=trodAll_three hA
 obtain ⟨rfl,rfl⟩:=trodVars_none hV
 have hlt:∀ x∈p,x.block < W.heap.size:=fun x hx=>hW'.lt x (by simp [hx])
 obtain ⟨s,rfl,rfl,rfl,hs⟩:=open_string Tryz.underlying9 (hval 0 9 v0 rfl rfl) h0
 obtain ⟨l,hl,hl1,hl2⟩:=open_acts (hval 1 29 v1 rfl rfl) h1
 obtain ⟨s2,rfl,rfl,rfl,hs2⟩:=open_string Tryz.underlying9 (hval 2 9 v2 rfl rfl) h2
 have hb0:Rows.uptoBulkAll ([.lit (.string s.data.toList),d1,.lit (.string s2.data.toList)]++([]:List (DataW H)))≤1048576:=of_decide_eq_true hk
 simp only [List.append_nil,Rows.uptoBulkAll,Rows.uptoBulk] at hb0
 have e1:Rows.twiceSpec.fn H ([.lit (.string s.data.toList),d1,.lit (.string s2.data.toList)]++[])={ results:=[.lit (.bool true)],args:=[.lit (.string s.data.toList),d1,.lit (.string s2.data.toList)] }:=by simp [Rows.twiceSpec]
 have hcall:=twice_any s.data.toList s2.data.toList l v1 W (of_laid6 hL) hl (by omega) (by omega) (fun a ha=>by have:=hl2 a ha;omega) (by omega)
 rw [strA_backE,strA_backE] at hcall
 refine hcall.mono fun e W' ⟨he,hb⟩=>?_
 subst he
 refine ⟨_,rfl,_,_,_,[],p,[],hW',?_,?_,?_,hb.frame _,fun h=>by cases h⟩
 ·rw [e1];exact trodAll_mk1 (shut_bool Tryz.underlying4 true)
 ·rw [e1]
  subst hps
  exact trodAll_mk3 (shut_string Tryz.underlying9 hs) (Below.trod laidOutE (by kernel_rfl) (by rw [Tryz.tyCount];decide) h1 hb (fun x hx=>hlt x (by simpa using hx))) (shut_string Tryz.underlying9 hs2)
 ·rw [e1];rfl
theorem twice_reads (os:Os) {H:Type} (enc:TypeId×Value→H):∃ places,DataW.whole enc Tryz.prog ((World.doorLaid Tryz.prog 400 os).forCall (fun _ _=>0) ⟨#[],#[.string ⟨#[]⟩,.slice none 0 0,.string ⟨#[]⟩],[]⟩).memory Tryz.f4.params.toList Rows.twiceSpec.vars false #[Value.string ⟨#[]⟩,.slice none 0 0,.string ⟨#[]⟩].toList 8=some ([.lit (.string []),.nil,.lit (.string [])],[],places):=
 ⟨[],by kernel_rfl⟩
theorem twice_lifted (os:Os) (started:os.Started) (H:Type) (enc:TypeId×Value→H) (F:Stop.Interp) :
 ReturnsInHanded {} Tryz.checked os 4 .any ((Rows.OpenSpec.upto Rows.twiceSpec).preRow enc Tryz.prog Tryz.f4 Rows.twiceUptoRow.domain false Rows.twiceUptoRow.laid) (((Rows.OpenSpec.upto Rows.twiceSpec).at F).post enc Tryz.prog Tryz.f4 false true false false):=by
 obtain ⟨places,hx⟩:=twice_reads os enc
 refine returnsInHanded_of_row (C:=Tryz.checked) (s:=Rows.OpenSpec.upto Rows.twiceSpec) Tryz.own started (by kernel_rfl) Tryz.func4
  (witness_row_atRef (enc:=enc) (C:=Tryz.checked) false (World.doorLaid Tryz.prog 400 os) #[.string ⟨#[]⟩,.slice none 0 0,.string ⟨#[]⟩] rfl (by kernel_rfl) (by kernel_rfl) (by kernel_rfl)
    (OpenSpec.preRow_of_cond 8 hx (by kernel_rfl) (fun k hk=>by cases hk;kernel_rfl) (by kernel_rfl) (door_met6 os _))) ?_
 intro W base args ds gs before hval hW _ hcond _ hL _ _
 exact twice_contract H enc F W base args ds gs before hval hW (hcond _ rfl) hL
end Go.Proofs.YthkibedbcbgajaaGreatDoor
