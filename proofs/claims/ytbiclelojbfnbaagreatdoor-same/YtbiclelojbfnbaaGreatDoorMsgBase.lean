import Derived.Lib.SmallJoins
import Derived.Deep.Slices
import Derived.Carry
import Derived.SizedLaws
import Derived.Test.YtbiclelojbfnbaaGreatDoorZKSmall
import Derived.Test.YtbiclelojbfnbaaGreatDoorRowsC
namespace Go.Proofs.YtbiclelojbfnbaaGreatDoor
set_option linter.unusedVariables false
set_option linter.unusedSimpArgs false
set_option maxRecDepth 100000
set_option maxHeartbeats 4000000
open Go.ChangeShapes Go.WideShapes Go.ChangeAt Go.WideMaps Go.WideElems Go.RowKit Go.Joins Go.Deep
theorem Tryz.laidOut:laidOutB Tryz.prog=true:=by kernel_rfl
theorem Tryz.cellsMsg:Tryz.prog.cellsOf 48=4:=by kernel_rfl
theorem Tryz.cellsHdr:Tryz.prog.cellsOf 100=2:=by kernel_rfl
theorem Tryz.bytesHdr:Tryz.prog.bytesOf 100=32:=by kernel_rfl
theorem Tryz.cellsStr:Tryz.prog.cellsOf 9=1:=by kernel_rfl
theorem Tryz.oneMsg:oneCellFields Tryz.prog #[{ name:= "From",type:=9,offset:=0,embedded:=false,tag:= "",pkgPath:= "",byteOffset:=0 },{ name:= "To",type:=9,offset:=1,embedded:=false,tag:= "",pkgPath:= "",byteOffset:=16 },{ name:= "Size",type:=3,offset:=2,embedded:=false,tag:= "",pkgPath:= "",byteOffset:=32 },{ name:= "Headers",type:=46,offset:=3,embedded:=false,tag:= "",pkgPath:= "",byteOffset:=40 }]=true:=by kernel_rfl
theorem QtA:reachBytes=140737488351232:=rfl
theorem QfG {H:Type} {P:Program} {e:TypeId}:∀ {l:List (DataW H)} {d:DataW H},d∈l→∀ n∈d.weights P e,n∈DataW.weightsAll P e l
 | d' :: r,d,hd,n,hn=>by
  simp only [DataW.weightsAll,List.mem_append]
  rcases List.mem_cons.1 hd with rfl | h
  ·exact Or.inl hn
  ·exact Or.inr (QfG h n hn)
theorem Qec (s:ByteArray):Qad s.data.toList=s:=by
 cases s
 rfl
end Go.Proofs.YtbiclelojbfnbaaGreatDoor
