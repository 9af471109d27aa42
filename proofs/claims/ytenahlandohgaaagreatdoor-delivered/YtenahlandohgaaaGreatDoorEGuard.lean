import Derived.Defers
import Derived.Recover
import Derived.Test.YtenahlandohgaaaGreatDoorZDDisk
namespace Go.Proofs.YtenahlandohgaaaGreatDoor
set_option linter.unusedVariables false
set_option linter.unusedSimpArgs false
set_option maxRecDepth 100000
set_option maxHeartbeats 4000000
open Go.RowKit
attribute [local go_sem ↓] Go.wp_at_zero Go.wp_at_succ
theorem gcatch_idle (p:Addr) (w:World) :
 CallsD Tryz.prog 140 #[.pointer (some p)] .returning w fun e u' w'=>e=.returned (.tuple #[])∧u'=.returning∧w'=w:=by
 refine callsD_of_wpS Tryz.func140 rfl fun c₀ cs hu=>?_
 apply wpS_seq
 apply wpS_region
 simp [wpOpsS,go_sem,recoverD,hu,Tryz.ntmps140,Exit.thenS]
 refine wpS_cond (t:=false) (by simp [Act.eval,Array.replicate]) ?_
 simp only [Bool.false_eq_true,if_false]
 refine wpS_of_wp (wp_skip ?_)
 cases c₀
 simp_all [bodyPostS,results,Tryz.results140]
theorem guarded_any (f:Nat) (caps:Array Value) (R:World→Prop) (w:World) (hcf:∀ args W,(callFunc f args).run Tryz.prog W=.ok (.enter f args) W)
 (hw:Calls Tryz.prog f caps (w.alloc (.cells #[.nilIface] 67)) fun e w'=>e=.returned .nilIface∧w'.heap[w.heap.size]?=some (.cells #[.nilIface] 67)∧R w') :
 Calls Tryz.prog 79 #[.func (.func f) #[] caps] w fun e w'=>e=.returned .nilIface∧∃ w1,R w1∧w1.heap[w.heap.size]?=some (.cells #[.nilIface] 67)∧w'=w1.setCell ⟨w.heap.size,0,none⟩ .nilIface:=by
 have hmf:∀ (fn:Fn) (first cap:Array Value) (w:World),(Instr.makeFunc fn first cap).run Tryz.prog w=.ok (.func fn first cap) w:=fun _ _ _ _=>rfl
 have HW:=hide hw
 clear hw
 go_enter_defers Tryz.func79,Tryz.ntmps79
 go_wp2_with fail
 refine HW.out.mono ?_
 rintro e w1 ⟨rfl,hE,hR⟩
 have c0:w1.cell? ⟨w.heap.size,0,none⟩=some .nilIface:=blk_cell hE 0
 have z0:∀ j,w1.frozen? ⟨w.heap.size,j,none⟩=false:=blk_frozen hE
 have HE:=hide hE
 have HR:=hide hR
 clear hE hR
 go_wp2
 refine leaves_cons (f:=140) (args:=#[.pointer (some ⟨w.heap.size,0,none⟩)]) (by simp) (by simp [go_sem]) ?_
 refine (gcatch_idle ⟨w.heap.size,0,none⟩ _).mono ?_
 rintro e u' w'' ⟨rfl,rfl,rfl⟩
 simp [Leaves,settle,results,Tryz.results79,go_sem,c0]
 exact ⟨w1,HR.out,HE.out,rfl⟩
end Go.Proofs.YtenahlandohgaaaGreatDoor
