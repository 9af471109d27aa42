import Derived.Test.YthkibedbcbgajaaGreatDoorRows
import Derived.ProofKit
import Derived.LaidMore
import Derived.OpenShut
import Derived.Stop.Joined
import Derived.LaidHandle
import Derived.Stop.LaidErr
import Derived.Lib.LaidTab
import Derived.HandedShaped
import Derived.Shelf.Vars
import Derived.Carry
import Derived.Test.YthkibedbcbgajaaGreatDoorZThruX
namespace Go.Proofs.YthkibedbcbgajaaGreatDoor
set_option linter.unusedVariables false
set_option linter.unusedSimpArgs false
set_option maxRecDepth 100000
set_option maxHeartbeats 4000000
open Go.ChangeShapes Go.WideShapes Go.ChangeAt Go.WideMaps Go.WideElems Go.RowKit
open Go.ChangeMaps (open_string shut_string)
theorem Tryz.ownD:ownKnob Tryz.prog.godebug=none:=by kernel_rfl
theorem Tryz.gErrD:Tryz.prog.globalNamed "errors.errorType"=some 0:=by kernel_rfl
theorem Tryz.gPowD:Tryz.prog.globalNamed "internal/strconv.uint64pow10"=some 2:=by kernel_rfl
theorem Tryz.rtypeTD:(Tryz.prog.cutTypes.find? (·.1 == "internal/reflectlite.rtype")).map (·.2)=some 160:=by kernel_rfl
theorem Tryz.tyCountD:Tryz.prog.types.size=434:=by kernel_rfl
theorem Tryz.oneRowD:((List.range 434).filter fun t=>Tryz.prog.rowNamed t [101,114,114,111,114])=[61]:=by kernel_rfl
theorem Tryz.powTyD:(Tryz.prog.globals[2]?).map (·.type)=some 377:=by kernel_rfl
def QtU:List (String×DataW Unit):=[("math/bits.deBruijn32tab",Rows.laid_math_bits_deBruijn32tab),("math/bits.deBruijn64tab",Rows.laid_math_bits_deBruijn64tab),("internal/strconv.uint64pow10",Rows.laid_internal_strconv_uint64pow10),("errors.errorType",Rows.laid_errors_errorType),("strconv.ErrRange",Rows.laid_strconv_ErrRange),("strconv.ErrSyntax",Rows.laid_strconv_ErrSyntax)]
theorem Tryz.gBruD:Tryz.prog.globalNamed "math/bits.deBruijn64tab"=some 6:=by kernel_rfl
theorem Tryz.bruTyD:(Tryz.prog.globals[6]?).map (·.type)=some 390:=by kernel_rfl
def Qxf:List Int:=[0,1,56,2,57,49,28,3,61,58,42,50,38,29,17,4,62,47,59,36,45,43,51,22,53,39,33,30,24,18,12,5,63,55,48,27,60,41,37,16,46,35,44,21,52,32,23,11,54,26,40,15,34,20,31,10,25,14,19,9,13,8,7,6]
theorem Qvg{W:World}(h:laidMetH Tryz.prog QtU W):Qxs W:=by
 have h':laidMet Tryz.prog [("math/bits.deBruijn32tab",Rows.laid_math_bits_deBruijn32tab),("math/bits.deBruijn64tab",Rows.laid_math_bits_deBruijn64tab),("internal/strconv.uint64pow10",Rows.laid_internal_strconv_uint64pow10),("strconv.ErrRange",Rows.laid_strconv_ErrRange),("strconv.ErrSyntax",Rows.laid_strconv_ErrSyntax)] W/\handlesMet Tryz.prog [("errors.errorType",Rows.laid_errors_errorType)] W:=h;refine⟨?_,?_,?_⟩
 ·have h3:=laidMet.tail (laidMet.tail h'.1);exact Lib.tabIs_of_head Tryz.gPowD Tryz.powTyD Tryz.underlying377 Tryz.underlying177 (by kernel_rfl) (by kernel_rfl) h3
 ·have h2:=laidMet.tail h'.1;have ht:Lib.TabIs Tryz.prog W "math/bits.deBruijn64tab" .u8 Qxf:=Lib.tabIs_of_head Tryz.gBruD Tryz.bruTyD Tryz.underlying390 Tryz.underlying5 (by kernel_rfl) (by kernel_rfl) h2;exact ht.cell Tryz.gBruD 15 (by decide)
 ·obtain⟨aa,u,ty,e1,e2,e3,e4,e5⟩:=h'.2 _ (List.mem_singleton.2 rfl);have en:aa=[101,114,114,111,114]:=(Option.some.inj e1).symm;subst en;obtain rfl:=Option.some.inj (Tryz.rtypeTD.symm.trans e2);have hm:ty∈(List.range 434).filter fun t=>Tryz.prog.rowNamed t [101,114,114,111,114]:=List.mem_filter.2 ⟨List.mem_range.2 (by rw[<-Tryz.tyCountD];exact e3),e4⟩
  rw[Tryz.oneRowD]at hm;obtain rfl:=List.mem_singleton.1 hm;have hh:typeHandle Tryz.prog 61=.pointer (some ⟨7,61,none⟩):=by kernel_rfl
  rw[hh]at e5;have:=World.var?_cell Tryz.gErrD e5 0;unfold Qfv;simpa using this
theorem Qvo:laidOutB Tryz.prog=true:=by kernel_rfl
theorem QtQ(os:Os)(args:Array Value):laidMetH Tryz.prog QtU ((World.doorLaid Tryz.prog 400 os).forCall (fun _ _=>0) ⟨#[],args,[]⟩).memory:=
 laidMetH_of_parts3 (fuel:=8) (laidMet_of_run' 70 (by kernel_rfl) (by kernel_rfl)) (by kernel_rfl) (by kernel_rfl)
theorem Qrr{H:Type}{enc:TypeId×Value->H}{a:Assume}{C:Checked}{os:Os}{f:FuncId}{fn:Func}{s:ChangeSpec}{conds:List PathCond}{apart fresh handsOn again:Bool}{X:World->Array Value->Prop}
 (hX:∀(w w':World) (args:Array Value),w.heap=w'.heap->X w args->X w' args)
 (ak:ownKnob C.prog.godebug=none) (aa:os.Started) (ab:C.prog.inits.idxOf? f=none) (aj:C.prog.funcs[f]?=some fn)
 (witness:∃ (w:World) (tape:Tape) (i:Input),w.os=os∧(w.forCall tape i).Shaped C.prog∧i.vars=[]∧Input.okWide C.prog (w.forCall tape i) .any w.heap.size f i∧
   ((s.pre enc C.prog fn conds apart (w.forCall tape i).memory i.args∧X (w.forCall tape i).memory i.args)∧sizedMet enc C.prog fn (OpenSpec.ofChange s) apart (w.forCall tape i).memory i.args)∧a.holds C.prog (lone (Frame.enter C.prog f i.args .normal) [] (w.forCall tape i)))
 (contract:∀ (W:World) (base:Nat) (args:Array Value) (ds gs:List (DataW H)) (before:List MemPlace),
   (∀(j:Nat) t v,fn.params[j]?=some t->args[j]?=some v->Value.okWide C.prog W .any base t v)->
   DataW.Whole enc C.prog fn.params.toList s.vars apart W args.toList ds gs before->
   (DataW.weightsEach C.prog (fn.params.toList++s.plain.varTypes C.prog) (ds++gs)).all (·<=reachBytes)=true->X W args->W.ShapedOpen C.prog->
   Calls C.prog f args W fun e W'=>∃ v,e=.returned v∧s.post enc C.prog fn apart fresh handsOn again W args v W') :
 ReturnsInHanded a C os f .any (fun w args=>(s.pre enc C.prog fn conds apart w args/\X w args)/\sizedMet enc C.prog fn (OpenSpec.ofChange s) apart w args) (s.post enc C.prog fn apart fresh handsOn again):=by
 refine returnsInHanded_of_calls ak aa ab witness ?_;intro w tape i _ ah _ af ae _;obtain⟨_,_,_,ag,ac,_,_,_,_,ad⟩:=af;have e:ag=fn:=Option.some.inj (ac.symm.trans aj);subst e;obtain⟨⟨⟨ds,gs,before,hw,hc⟩,hx⟩,hz⟩:=ae;have ai:=DataW.Whole.of_heap (w':=w.forCall tape i) (by rfl) hw;refine(contract (w.forCall tape i) w.heap.size i.args ds gs before ad ai (hz.weights hw) (hX _ _ _ (by rfl) hx) ah).mono fun e W' ⟨v,he,hp⟩=>?_
 subst he;exact ChangeSpec.post_blind hp
end Go.Proofs.YthkibedbcbgajaaGreatDoor
