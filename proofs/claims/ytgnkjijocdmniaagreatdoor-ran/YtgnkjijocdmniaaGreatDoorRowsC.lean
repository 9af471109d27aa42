import Derived.Test.YtgnkjijocdmniaaGreatDoorRows
import Derived.LaidMore
import Derived.Stop.Joined
import Derived.Stop.LaidErr
import Derived.HandedShaped
import Derived.Test.YtgnkjijocdmniaaGreatDoorZLTold
namespace Go.Proofs.YtgnkjijocdmniaaGreatDoor
set_option linter.all false
set_option maxRecDepth 100000
set_option maxHeartbeats 4000000
open Go.ChangeShapes Go.WideShapes Go.ChangeAt Go.WideMaps Go.WideElems Go.RowKit
open Go.ChangeMaps (open_string shut_string)
variable{W:World}
theorem Tryz.own:ownKnob Tryz.prog.godebug=none:=Qm
theorem Tryz.gErr:Tryz.prog.globalNamed "errors.errorType"=some 0:=Qm
theorem Tryz.gPow:Tryz.prog.globalNamed "internal/strconv.uint64pow10"=some 2:=Qm
theorem Tryz.rtypeT:(Tryz.prog.cutTypes.find? (·.1 == "internal/reflectlite.rtype")).map (·.2)=some 238:=Qm
theorem Tryz.tyCount:Tryz.prog.types.size=418:=Qm
theorem Tryz.oneRow:((List.range 418).filter fun t=>Tryz.prog.rowNamed t [101,114,114,111,114])=[84]:=Qm
theorem Tryz.powTy:(Tryz.prog.globals[2]?).map (·.type)=some 385:=Qm
def A2:List (String×DataW Unit):=[("math/bits.deBruijn32tab",Rows.laid_math_bits_deBruijn32tab),("math/bits.deBruijn64tab",Rows.laid_math_bits_deBruijn64tab),("internal/strconv.uint64pow10",Rows.laid_internal_strconv_uint64pow10),("errors.errorType",Rows.laid_errors_errorType)]
theorem Pd(h:laidMetH Tryz.prog A2 W):Yy W/\Tab W:=by
 have b:laidMet Tryz.prog [("math/bits.deBruijn32tab",Rows.laid_math_bits_deBruijn32tab),("math/bits.deBruijn64tab",Rows.laid_math_bits_deBruijn64tab),("internal/strconv.uint64pow10",Rows.laid_internal_strconv_uint64pow10)] W/\handlesMet Tryz.prog [("errors.errorType",Rows.laid_errors_errorType)] W:=h;refine⟨?_,?_⟩
 .obtain⟨l,u,m,d,e,f,g,a⟩:=b.2 _ (List.mem_singleton.2 rfl);have i:l=[101,114,114,111,114]:=(ZK d).symm;subst i;obtain rfl:=ZK (Tryz.rtypeT.symm.trans e);have c:m∈(List.range 418).filter fun t=>Tryz.prog.rowNamed t [101,114,114,111,114]:=List.mem_filter.2 ⟨List.mem_range.2 (by rw[<-Tryz.tyCount];exact f),g⟩
  rw[Tryz.oneRow]at c;obtain rfl:=ZV c;have k:typeHandle Tryz.prog 84=.pointer (some ⟨5,84,none⟩):=Qm
  rw[k]at a;have:=World.var?_cell Tryz.gErr a 0;unfold Yy;simpa using this
 .have j:=laidMet.tail (laidMet.tail b.1);exact Lib.tabIs_of_head Tryz.gPow Tryz.powTy Tryz.underlying385 Tryz.underlying379 Qm Qm j
theorem QyH(os:Os){args:Array Value}:laidMetH Tryz.prog A2 ((World.doorLaid Tryz.prog 400 os).forCall (fun _ _=>0) ⟨#[],args,[]⟩).memory:=
 laidMetH_of_parts3 (fuel:=8) (laidMet_of_run' 70 Qm Qm) Qm Qm
theorem QvY{H:Type}{enc:TypeId×Value->H}{a:Assume}{C:Checked}{os:Os}{f:FuncId}{fn:Func}{s:ChangeSpec}{conds:List PathCond}{apart fresh handsOn again:Bool}{X:World->Array Value->Prop}
 (d:∀(w w':World) (args:Array Value),w.heap=w'.heap->X w args->X w' args)
 (y:ownKnob C.prog.godebug=none) (z:os.Started) (x:C.prog.inits.idxOf? f=none) (g:C.prog.funcs[f]?=some fn)
 (witness:∃(w:World) (tape:Tape) (i:Input),w.os=os∧(w.forCall tape i).Shaped C.prog∧i.vars=[]∧Input.okWide C.prog (w.forCall tape i) .any w.heap.size f i∧
   ((s.pre enc C.prog fn conds apart (w.forCall tape i).memory i.args∧X (w.forCall tape i).memory i.args)∧sizedMet enc C.prog fn (OpenSpec.ofChange s) apart (w.forCall tape i).memory i.args)∧a.holds C.prog (lone (Frame.enter C.prog f i.args .normal) [] (w.forCall tape i)))
 (contract:∀(W:World) (base:Nat) (args:Array Value) (ds gs:List (DataW H)) (before:List MemPlace),
   (∀(j:Nat) t v,fn.params[j]?=some t->args[j]?=some v->Value.okWide C.prog W .any base t v)->
   DataW.Whole enc C.prog fn.params.toList s.vars apart W args.toList ds gs before->
   (DataW.weightsEach C.prog (fn.params.toList++s.plain.varTypes C.prog) (ds++gs)).all (·<=reachBytes)=true->X W args->W.ShapedOpen C.prog->
   Calls C.prog f args W fun e W'=>∃v,e=.returned v∧s.post enc C.prog fn apart fresh handsOn again W args v W') :
 ReturnsInHanded a C os f .any (fun w args=>(s.pre enc C.prog fn conds apart w args/\X w args)/\sizedMet enc C.prog fn (OpenSpec.ofChange s) apart w args) (s.post enc C.prog fn apart fresh handsOn again):=by
 refine returnsInHanded_of_calls y z x witness ?_;intro w tape i _ o _ l n _;obtain⟨_,_,_,c,k,_,_,_,_,p⟩:=l;have e:c=fn:=ZK (k.symm.trans g);subst e;obtain⟨⟨⟨ds,gs,before,b,A⟩,r⟩,u⟩:=n;have q:=DataW.Whole.of_heap (w':=w.forCall tape i) (by rfl) b;refine(contract (w.forCall tape i) w.heap.size i.args ds gs before p q (u.weights b) (d _ _ _ (by rfl) r) o).mono fun e W' ⟨v,he,m⟩=>?_
 subst he;exact ChangeSpec.post_blind m
theorem Qz0(h:W.ShapedOpen Tryz.prog):∃m,W.cell? (Ql 1 0)=some (Qa m):=
 cell_of_shapedOpen_int (g:=1) (t:=3) (zero:=#[Qa 0]) h (by rw[show Tryz.prog.globals.size=5 by kernel_rfl];decide) Qm rfl Qm Qm Tryz.underlying3
end Go.Proofs.YtgnkjijocdmniaaGreatDoor
