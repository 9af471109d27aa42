import Derived.Test.YthkibedbcbgajaaGreatDoorRows
import Derived.ProofKit
import Derived.LaidMore
import Derived.OpenShut
import Derived.Stop.Joined
import Derived.LaidHandle
import Derived.Stop.LaidErr
import Derived.Lib.LaidTab
import Derived.HandedShaped
import Derived.Shelf.Vars
import Derived.Deep.AppendLies
import Derived.Maps.AppendAt
import Derived.Deep.DeepCutAuto
import Derived.BigRegion
import Derived.Defers
import Derived.Recover
import Derived.OrdersHeld
import Derived.MapFrom
import Derived.Orders
import Derived.Test.YthkibedbcbgajaaGreatDoorNext
import Derived.Test.YthkibedbcbgajaaGreatDoorZPlainAsk
import Derived.Test.YthkibedbcbgajaaGreatDoorPlainLen
import Derived.Test.YthkibedbcbgajaaGreatDoorTake
import Derived.Test.YthkibedbcbgajaaGreatDoorTold4
import Derived.Test.YthkibedbcbgajaaGreatDoorZWTab
namespace Go.Proofs.YthkibedbcbgajaaGreatDoor
set_option linter.unusedVariables false
set_option linter.unusedSimpArgs false
set_option maxRecDepth 100000
set_option maxHeartbeats 4000000
open Go.ChangeShapes Go.WideShapes Go.ChangeAt Go.WideMaps Go.WideElems Go.RowKit
open Go.ChangeMaps (open_string shut_string)
theorem Tryz.own:ownKnob Tryz.prog.godebug=none:=by kernel_rfl
theorem Tryz.gErr:Tryz.prog.globalNamed "errors.errorType"=some 0:=by kernel_rfl
theorem Tryz.gPow:Tryz.prog.globalNamed "internal/strconv.uint64pow10"=some 2:=by kernel_rfl
theorem Tryz.rtypeT:(Tryz.prog.cutTypes.find? (·.1 == "internal/reflectlite.rtype")).map (·.2)=some 160:=by kernel_rfl
theorem Tryz.tyCount:Tryz.prog.types.size=434:=by kernel_rfl
theorem Tryz.oneRow:((List.range 434).filter fun t=>Tryz.prog.rowNamed t [101,114,114,111,114])=[61]:=by kernel_rfl
theorem Tryz.powTy:(Tryz.prog.globals[2]?).map (·.type)=some 377:=by kernel_rfl
end Go.Proofs.YthkibedbcbgajaaGreatDoor
