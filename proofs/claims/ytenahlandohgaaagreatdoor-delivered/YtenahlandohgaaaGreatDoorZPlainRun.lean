import Derived.Lib.SlicesS
import Derived.Lib.Index
import Derived.Lib.Bytealg
import Derived.Lib.Strings
import Derived.Lib.ItoaNum
namespace Go.Proofs.YtenahlandohgaaaGreatDoor
set_option linter.unusedVariables false
set_option linter.unusedSimpArgs false
set_option maxRecDepth 100000
set_option maxHeartbeats 4000000
def isDigitN (c:Int):Bool:=decide (48≤c) && decide (c≤57)
def isCapN (c:Int):Bool:=decide (65≤c) && decide (c≤90)
def isSmN (c:Int):Bool:=decide (97≤c) && decide (c≤122)
def isLetN (c:Int):Bool:=(decide (97≤c) && decide (c≤122)) || isCapN c || c == 95
theorem isLetN_eq (c:Int):isLetN c=(isSmN c || isCapN c || c == 95):=rfl
def letdig (c:UInt8):Bool:=isLetN c.toNat || isDigitN c.toNat
def strA (x:List UInt8):ByteArray:=⟨x.toArray⟩
theorem strA_inj {x y:List UInt8} (h:strA x=strA y):x=y:=by
 have:=congrArg (fun b:ByteArray=>b.data.toList) h
 simpa [strA] using this
def boxB (c:UInt8):Bool:=letdig c || c == 45 || c == 46
def isBoxL (x:List UInt8):Bool:=!x.isEmpty && (decide (x.length≤16) && (x.head? != some 46 && x.all boxB))
end Go.Proofs.YtenahlandohgaaaGreatDoor
