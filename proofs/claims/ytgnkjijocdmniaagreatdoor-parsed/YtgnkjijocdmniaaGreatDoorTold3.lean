import Derived.Test.YtgnkjijocdmniaaGreatDoorTold2
namespace Go.Proofs.YtgnkjijocdmniaaGreatDoor
set_option linter.unusedVariables false
set_option linter.unusedSimpArgs false
set_option maxRecDepth 100000
set_option maxHeartbeats 4000000
open Go.RowKit Go.Extern.Stop Go.Stop Go.Extern
def cmpEntry (t:TypeId):Sem Value:=do Rtype.noPackHeld "Comparable" t;pure (.bool (← typeInfo t).comparable)
theorem Tryz.cmpN (w:World):(ReflectliteType.method cmpEntry #[.agg #[.pointer (some ⟨5,33,none⟩)]]).run Tryz.prog w=.ok (.bool true) w:=by kernel_rfl
theorem is_sameN (n:Int) (w:World) :
 Calls Tryz.prog 61 #[.iface 33 (.int .i64 n),.iface 33 (.int .i64 n)] w fun e w'=>e=.returned (.bool true)∧w'=w:=by
 have h8:=@run_callFunc_extern Tryz.prog 95 _ ReflectliteType.typeOf Tryz.func95 (by kernel_rfl) (by kernel_rfl) (by kernel_rfl) (by kernel_rfl)
 have h32:=@run_callFunc_extern Tryz.prog 331 _ (ReflectliteType.method cmpEntry) Tryz.func331 (by kernel_rfl) (by kernel_rfl) (by kernel_rfl) (by kernel_rfl)
 have tT:=Tryz.typeOfN
 have cT:=Tryz.cmpN
 have mR:=Tryz.methodComparable
 have heq:=eql_errno n w
 go_enter Tryz.func61,Tryz.ntmps61
 go_wp2
 refine wp_loop_rounds 1 ?_
 rw [rounds_succ]
 go_wp2
 go_ret
 exact ⟨rfl,rfl⟩
theorem is_wrapF (pb:Nat) (n:Int) (w:World) (h1:w.cell? ⟨pb,0,none⟩=some (.int .i64 n)) :
 Calls Tryz.prog 61 #[.iface 125 (.pointer (some ⟨pb,0,none⟩)),.iface 33 (.int .i64 n)] w fun e w'=>e=.returned (.bool true)∧w'=w:=by
 have h8:=@run_callFunc_extern Tryz.prog 95 _ ReflectliteType.typeOf Tryz.func95 (by kernel_rfl) (by kernel_rfl) (by kernel_rfl) (by kernel_rfl)
 have h32:=@run_callFunc_extern Tryz.prog 331 _ (ReflectliteType.method cmpEntry) Tryz.func331 (by kernel_rfl) (by kernel_rfl) (by kernel_rfl) (by kernel_rfl)
 have tT:=Tryz.typeOfN
 have cT:=Tryz.cmpN
 have mR:=Tryz.methodComparable
 have nW:=Tryz.noIsF
 have uW:=Tryz.hasUnwrapF
 have mU:=Tryz.methodUnwrap
 have heq:=eql_errno n w
 have hty:=run_eql_iface_types (P:=Tryz.prog) 125 33 (.pointer (some ⟨pb,0,none⟩)) (.int .i64 n) Tryz.underlying84 (by decide) w
 go_enter Tryz.func61,Tryz.ntmps61
 go_wp2
 refine wp_loop_rounds 2 ?_
 rw [rounds_succ]
 go_wp2
 rw [rounds_succ]
 go_wp2
 go_ret
 exact ⟨rfl,rfl⟩
end Go.Proofs.YtgnkjijocdmniaaGreatDoor
