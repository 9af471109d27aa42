import Derived.Lib.ItoaNum
import Derived.Lib.Index
import Derived.Test.YthkibedbcbgajaaGreatDoorZPlainAsk
namespace Go.Proofs.YthkibedbcbgajaaGreatDoor
set_option linter.unusedVariables false
set_option linter.unusedSimpArgs false
set_option maxRecDepth 100000
set_option maxHeartbeats 4000000
def boxB (c:UInt8):Bool:=letdig c || c == 45 || c == 46
def isBoxL (x:List UInt8):Bool:=!x.isEmpty && (decide (x.length≤16) && (x.head? != some 46 && x.all boxB))
end Go.Proofs.YthkibedbcbgajaaGreatDoor
