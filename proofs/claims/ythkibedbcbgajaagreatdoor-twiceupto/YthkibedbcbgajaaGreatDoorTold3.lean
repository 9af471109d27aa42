import Derived.Test.YthkibedbcbgajaaGreatDoorTold2
namespace Go.Proofs.YthkibedbcbgajaaGreatDoor
set_option linter.unusedVariables false
set_option linter.unusedSimpArgs false
set_option maxRecDepth 100000
set_option maxHeartbeats 4000000
open Go.RowKit Go.Extern.Stop Go.Stop Go.Extern
def cmpEntry (t:TypeId):Sem Value:=do Rtype.noPackHeld "Comparable" t;pure (.bool (← typeInfo t).comparable)
theorem Tryz.cmpN (w:World):(ReflectliteType.method cmpEntry #[.agg #[.pointer (some ⟨7,30,none⟩)]]).run Tryz.prog w=.ok (.bool true) w:=by kernel_rfl
theorem is_sameN (n:Int) (w:World) :
 Calls Tryz.prog 30 #[.iface 30 (.int .i64 n),.iface 30 (.int .i64 n)] w fun e w'=>e=.returned (.bool true)∧w'=w:=by
 have h8:=@run_callFunc_extern Tryz.prog 49 _ ReflectliteType.typeOf Tryz.func49 (by kernel_rfl) (by kernel_rfl) (by kernel_rfl) (by kernel_rfl)
 have h32:=@run_callFunc_extern Tryz.prog 346 _ (ReflectliteType.method cmpEntry) Tryz.func346 (by kernel_rfl) (by kernel_rfl) (by kernel_rfl) (by kernel_rfl)
 have tT:=Tryz.typeOfN
 have cT:=Tryz.cmpN
 have mR:=Tryz.methodComparable
 have heq:=eql_errno n w
 go_enter Tryz.func30,Tryz.ntmps30
 go_wp2
 refine wp_loop_rounds 1 ?_
 rw [rounds_succ]
 go_wp2
 go_ret
 exact ⟨rfl,rfl⟩
end Go.Proofs.YthkibedbcbgajaaGreatDoor
