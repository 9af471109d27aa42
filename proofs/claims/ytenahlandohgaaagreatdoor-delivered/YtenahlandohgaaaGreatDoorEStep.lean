import Derived.Test.YtenahlandohgaaaGreatDoorEWrite
namespace Go.Proofs.YtenahlandohgaaaGreatDoor
set_option linter.unusedVariables false
set_option linter.unusedSimpArgs false
set_option maxRecDepth 100000
set_option maxHeartbeats 4000000
open Go.RowKit
attribute [local go_sem ↓] Go.wp_at_zero Go.wp_at_succ
theorem mth_Remove (db:Nat) (W:World):(method 554 52 (.pointer (some ⟨db,0,none⟩)) "Remove").run Tryz.prog W=.ok (339,.pointer (some ⟨db,0,none⟩)) W:=by kernel_rfl
theorem mth_Sync (db:Nat) (W:World):(method 554 52 (.pointer (some ⟨db,0,none⟩)) "Sync").run Tryz.prog W=.ok (340,.pointer (some ⟨db,0,none⟩)) W:=by kernel_rfl
theorem mth_Names (db:Nat) (W:World):(method 554 52 (.pointer (some ⟨db,0,none⟩)) "Names").run Tryz.prog W=.ok (337,.pointer (some ⟨db,0,none⟩)) W:=by kernel_rfl
theorem rstep_any (B db bd bn n nb xb:Nat) (D N:Fs) (p:List Dop) (q:Int) (pv:Value) (x:List UInt8) (w:World) (h:DI w B db bd bn n D N p q pv) (hf:w.heap[nb]?=some (.cells #[.string (strA x)] 9)) (hx:w.heap[xb]?=some (.cells #[dskV db] 113))
 (hn:n≤490000) (hp:p.length≤100000) (hq:-100000≤q) (hq1:q≤-1) (hs:x.length≤1000) (hh:(N x).isSome=true) :
 Calls Tryz.prog 212 #[.pointer (some ⟨xb,0,none⟩),.pointer (some ⟨nb,0,none⟩)] w fun e w'=>e=.returned .nilIface∧(∃ pv',DI w' B db bd bn (n+1) D (delF N x) (p++[⟨3,x,[]⟩]) (q - 1) pv')∧Fr (PDk B) w w':=by
 have HD:=hide h
 have HH:=hide hh
 have f0:w.cell? ⟨nb,0,none⟩=some (.string (strA x)):=blk_cell hf 0
 have x0:w.cell? ⟨xb,0,none⟩=some (dskV db):=blk_cell hx 0
 have hmt:=mth_Remove db
 clear h hf hx hh
 go_enter Tryz.func212,Tryz.ntmps212
 go_wp2_with (go_at_call 339;refine (remove_any B db bd bn n D N p q pv x _ HD.out (by omega) hq1 (by omega) (by omega) (by omega) HH.out).mono ?_;rintro e w1 ⟨rfl,hD1,hF1⟩;have HD1:=hide hD1;have HF1:=hide hF1;clear hD1 hF1)
 go_ret
 exact ⟨rfl,HD1.out,HF1.out⟩
theorem writing_any (db:Nat) (a:Option Addr) (m c:Nat) (w:World) :
 Calls Tryz.prog 143 #[dskV db,.slice a m c] w fun e w'=>∃ fb xb,e=.returned (.func (.func 208) #[] #[.pointer (some ⟨fb,0,none⟩),.pointer (some ⟨xb,0,none⟩)])∧w'.heap[fb]?=some (.cells #[.slice a m c] 26)∧w'.heap[xb]?=some (.cells #[dskV db] 113)∧Below w.heap.size w w':=by
 go_enter Tryz.func143,Tryz.ntmps143
 go_wp2
 go_ret
 exact ⟨_,_,rfl,blk_newAt (by simp),blk_alloc (blk_new _ _),((Below.refl _ _).alloc (Nat.le_refl _) _).alloc (by simp) _⟩
theorem removing_any (db:Nat) (x:List UInt8) (w:World) :
 Calls Tryz.prog 145 #[dskV db,.string (strA x)] w fun e w'=>∃ xb nb,e=.returned (.func (.func 212) #[] #[.pointer (some ⟨xb,0,none⟩),.pointer (some ⟨nb,0,none⟩)])∧w'.heap[xb]?=some (.cells #[dskV db] 113)∧w'.heap[nb]?=some (.cells #[.string (strA x)] 9)∧Below w.heap.size w w':=by
 go_enter Tryz.func145,Tryz.ntmps145
 go_wp2
 go_ret
 exact ⟨_,_,rfl,blk_alloc (blk_new _ _),blk_newAt (by simp),((Below.refl _ _).alloc (Nat.le_refl _) _).alloc (by simp) _⟩
end Go.Proofs.YtenahlandohgaaaGreatDoor
