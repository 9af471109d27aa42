import Derived.Test.YtenahlandohgaaaGreatDoorTold2
namespace Go.Proofs.YtenahlandohgaaaGreatDoor
set_option linter.unusedVariables false
set_option linter.unusedSimpArgs false
set_option maxRecDepth 100000
set_option maxHeartbeats 4000000
open Go.RowKit Go.Extern.Stop Go.Stop Go.Extern
def cmpEntry (t:TypeId):Sem Value:=do Rtype.noPackHeld "Comparable" t;pure (.bool (← typeInfo t).comparable)
theorem Tryz.cmpN (w:World):(ReflectliteType.method cmpEntry #[.agg #[.pointer (some ⟨7,40,none⟩)]]).run Tryz.prog w=.ok (.bool true) w:=by kernel_rfl
theorem is_sameN (n:Int) (w:World) :
 Calls Tryz.prog 44 #[.iface 40 (.int .i64 n),.iface 40 (.int .i64 n)] w fun e w'=>e=.returned (.bool true)∧w'=w:=by
 have h8:=@run_callFunc_extern Tryz.prog 64 _ ReflectliteType.typeOf Tryz.func64 (by kernel_rfl) (by kernel_rfl) (by kernel_rfl) (by kernel_rfl)
 have h32:=@run_callFunc_extern Tryz.prog 373 _ (ReflectliteType.method cmpEntry) Tryz.func373 (by kernel_rfl) (by kernel_rfl) (by kernel_rfl) (by kernel_rfl)
 have tT:=Tryz.typeOfN
 have cT:=Tryz.cmpN
 have mR:=Tryz.methodComparable
 have heq:=eql_errno n w
 go_enter Tryz.func44,Tryz.ntmps44
 go_wp2
 refine wp_loop_rounds 1 ?_
 rw [rounds_succ]
 go_wp2
 go_ret
 exact ⟨rfl,rfl⟩
end Go.Proofs.YtenahlandohgaaaGreatDoor
