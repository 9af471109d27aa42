import Derived.Test.YtbiclelojbfnbaaGreatDoorZCTestAll
namespace Go.Proofs.YtbiclelojbfnbaaGreatDoor
set_option linter.unusedVariables false
set_option linter.unusedSimpArgs false
set_option maxRecDepth 100000
set_option maxHeartbeats 4000000
open Go.RowKit
attribute [local go_sem ↓] Go.wp_at_zero Go.wp_at_succ
theorem QkS (hw:List UInt8) (p:Nat) (B cb:Nat) (cs:List Ins) (w:World) (h:CC w B cb cs) (hl:cs.length+1≤1000000) :
 Calls Tryz.prog 123 #[.pointer (some ⟨cb,0,none⟩),.iface 336 (.agg #[.string (Qad hw),.int .i64 p])] w (Qdq B cb (cs++[⟨13,0,0,false,[],[],p⟩]) w):=by
 have n0:=Tryz.noAct
 have n1:=Tryz.noSet
 have yy:=Tryz.yesDiscard
 have H:=Qab h
 have HL:=Qab hl
 have HC0:Hid (∀ o,CC (w.alloc o) B cb cs):=fun o=>h.alloc o
 have hB0:∀ o,Below w.heap.size w (w.alloc o):=fun o=>(Below.refl _ _).alloc (Nat.le_refl _) o
 have HB0:=Qab hB0
 clear h hl hB0
 go_enter Tryz.func123,Tryz.ntmps123
 go_wp2_with (first | (go_at_call 201;refine (Qld _ B cb cs ⟨13,0,0,false,[],[],p⟩ _ _ _ (by simp) (HC0.out _) (Qdi _ _ rfl rfl (by show (-9223372036854775808:Int)≤0;decide) (by show (0:Int)≤9223372036854775807;decide)) HL.out).mono ?_;rintro e w2 ⟨rfl,hc2,hf2⟩;have HC2:=Qab hc2;have HF2:=Qab ((Fr.of_below (HB0.out _)).trans hf2);clear hc2 hf2;skip))
 go_end0
 exact ⟨rfl,HC2.out,HF2.out⟩
end Go.Proofs.YtbiclelojbfnbaaGreatDoor
