import Derived.Test.YtenahlandohgaaaGreatDoorEBox
namespace Go.Proofs.YtenahlandohgaaaGreatDoor
set_option linter.unusedVariables false
set_option linter.unusedSimpArgs false
set_option maxRecDepth 100000
set_option maxHeartbeats 4000000
open Go.RowKit
attribute [local go_sem ↓] Go.wp_at_zero Go.wp_at_succ
theorem bfiles_any (B bb db bd bn n:Nat) (F:Fs) (pv:Value) (w:World) (hb:w.heap[bb]?=some (.cells #[.pointer (some ⟨db,0,none⟩)] 55)) (h:DI w B db bd bn n F F [] (-1) pv) (hn:n≤500000) :
 Calls Tryz.prog 20 #[.pointer (some ⟨bb,0,none⟩)] w fun e w'=>Below w.heap.size w w'∧∃ v l,e=.returned v∧FilN w' v l∧Lists F l∧l.length≤n:=by
 have HL:=hide (dfiles_all B db bd bn n F F [] (-1) pv w h hn)
 have b0:w.cell? ⟨bb,0,none⟩=some (.pointer (some ⟨db,0,none⟩)):=blk_cell hb 0
 clear h hb
 go_enter Tryz.func20,Tryz.ntmps20
 go_wp2_with fail
 refine HL.out.mono ?_
 rintro e w1 ⟨hb1,v,l,rfl,h1,h2,h3⟩
 have HB1:=hide hb1
 have H1:=hide h1
 have H2:=hide h2
 clear hb1 h1 h2
 go_wp2
 go_ret
 exact ⟨HB1.out,v,l,rfl,H1.out,H2.out,h3⟩
theorem newBox_any (l:List (List UInt8×List UInt8)) (fv:Value) (w:World) (hl:FilG w fv l) (hn:l.length≤400000) (hx:∀ f∈l,f.1.length≤1000000) :
 Calls Tryz.prog 7 #[fv] w fun e w'=>Below w.heap.size w w'∧∃ bb bn,e=.returned (.pointer (some ⟨bb,0,none⟩))∧w'.heap[bb]?=some (.cells #[.pointer (some ⟨w.heap.size+1,0,none⟩)] 55)∧DI w' w.heap.size (w.heap.size+1) w.heap.size bn l.length (putFs noF l) (putFs noF l) [] (-1) (.slice none 0 0):=by
 have HL:=hide (newDisk_any l fv w hl hn hx)
 obtain ⟨a,c,hfv,_⟩:=hl
 subst hfv
 clear hx
 go_enter Tryz.func7,Tryz.ntmps7
 go_wp2_with fail
 refine HL.out.mono ?_
 rintro e w1 ⟨hb1,bn,rfl,h1⟩
 have HB1:=hide hb1
 have H1:=hide h1
 clear hb1 h1
 go_wp2
 go_ret
 exact ⟨HB1.out.alloc HB1.out.size _,w1.heap.size,bn,rfl,blk_new _ _,H1.out.below ((Below.refl _ _).alloc (Nat.le_refl _) _)⟩
end Go.Proofs.YtenahlandohgaaaGreatDoor
