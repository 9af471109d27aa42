import Derived.Test.YthkibedbcbgajaaGreatDoorEBox
namespace Go.Proofs.YthkibedbcbgajaaGreatDoor
set_option linter.unusedVariables false
set_option linter.unusedSimpArgs false
set_option maxRecDepth 100000
set_option maxHeartbeats 4000000
open Go.RowKit
attribute [local go_sem ↓] Go.wp_at_zero Go.wp_at_succ
theorem brecover_any (B bb db bd bn n:Nat) (F:Fs) (pv:Value) (w:World) (hb:w.heap[bb]?=some (.cells #[.pointer (some ⟨db,0,none⟩)] 55)) (h:DI w B db bd bn n F F [] (-1) pv) (hne:∃ x,(F x).isSome=true) (hown:∀ x,(F x).isSome=true→Lib.hasPrefix x [46]=false) (hn:n≤19000) :
 Calls Tryz.prog 12 #[.pointer (some ⟨bb,0,none⟩),.int .i64 (-1),.int .i64 (-1),.int .i64 0,.int .i64 0] w fun e w'=>e=.returned (.int .i64 0)∧Fr (PDk B) w w'∧∃ n' pv',n'≤n+20∧DI w' B db bd bn n' F F [] (-1) pv':=by
 have HD:=hide h
 have HNE:=hide hne
 have HOW:=hide hown
 have HBX:=hide hb
 have b0:w.cell? ⟨bb,0,none⟩=some (.pointer (some ⟨db,0,none⟩)):=blk_cell hb 0
 have d3:w.cell? ⟨db,3,none⟩=some (.int .i64 (-1)):=blk_cell h.blk 3
 have d4:w.cell? ⟨db,4,none⟩=some (.int .i64 (-1)):=blk_cell h.blk 4
 have z0:∀ j,w.frozen? ⟨db,j,none⟩=false:=blk_frozen h.blk
 clear h hne hown hb
 go_enter Tryz.func12,Tryz.ntmps12
 go_wp2_with fail
 refine wp_region_noPanic ?_
 go_region
 refine NoPanic.normal ?_
 obtain ⟨W,hW⟩:∃ W,W=((w.setCell ⟨db,3,none⟩ (.int .i64 (-1))).setCell ⟨db,4,none⟩ (.int .i64 (-1))).drew:=⟨_,rfl⟩
 obtain ⟨hDW,hFW⟩:=HD.out.aim (-1)
 rw [← hW] at hDW hFW
 rw [← hW]
 have HDW:=hide hDW
 have HFW:Hid (Fr (PDk B) w W):=hFW.mono (fun _ _ h=>h.toK HD.out.bb.1)
 have HBW:=hide (hFW.block _ _ HBX.out (fun ⟨_,cs,e⟩=>by injection e with e1 e2;exact absurd e2 (by decide)))
 have b5:W.cell? ⟨bb,0,none⟩=some (.pointer (some ⟨db,0,none⟩)):=blk_cell HBW.out 0
 have HL:=hide (mrecover_any B db bd bn n F (-1) pv W hDW HNE.out HOW.out hn (by omega) (by omega))
 unfold dskV at HL
 clear hW hDW hFW b0 d3 d4 z0
 go_wp2_with fail
 refine HL.out.mono ?_
 rintro e w6 ⟨rfl,hF6,n',q',pv',hn',hq1,hq2,hD6⟩
 have HF6:=hide (HFW.out.trans hF6)
 have HX6:=hide (hF6.block _ _ HBW.out PDk.notBox)
 have HD6:=hide hD6
 clear hF6 b5 hD6
 go_wp2_with fail
 refine (told_nil w6).mono ?_
 rintro e w7 ⟨rfl,hb7⟩
 have HD7:=hide (HD6.out.below hb7)
 have HF7:Hid (Fr (PDk B) w w7):=HF6.out.trans (Fr.of_below hb7)
 have hX7:=blk_below HX6.out hb7
 have b0:w7.cell? ⟨bb,0,none⟩=some (.pointer (some ⟨db,0,none⟩)):=blk_cell hX7 0
 have d3:w7.cell? ⟨db,3,none⟩=some (.int .i64 q'):=blk_cell HD7.out.blk 3
 have d4:w7.cell? ⟨db,4,none⟩=some (.int .i64 q'):=blk_cell HD7.out.blk 4
 have d5:w7.cell? ⟨db,5,none⟩=some (.bool false):=blk_cell HD7.out.blk 5
 have z0:∀ j,w7.frozen? ⟨db,j,none⟩=false:=blk_frozen HD7.out.blk
 have HAIM:=hide (HD7.out.aim (-1))
 clear hb7 hX7
 go_wp2_with fail
 refine wp_region_noPanic ?_
 go_region
 refine NoPanic.normal ?_
 go_wp2
 go_ret
 obtain ⟨h8,h9⟩:=HAIM.out
 exact ⟨rfl,HF7.out.trans (h9.mono (fun _ _ h=>h.toK HD7.out.bb.1)),n',_,hn',h8⟩
theorem bfiles_any (B bb db bd bn n:Nat) (F:Fs) (pv:Value) (w:World) (hb:w.heap[bb]?=some (.cells #[.pointer (some ⟨db,0,none⟩)] 55)) (h:DI w B db bd bn n F F [] (-1) pv) (hn:n≤500000) (hne:∃ x,(F x).isSome=true) :
 Calls Tryz.prog 11 #[.pointer (some ⟨bb,0,none⟩)] w fun e w'=>Below w.heap.size w w'∧∃ v l,e=.returned v∧FilB w' v l∧Lists F l∧l.length≤n:=by
 have HL:=hide (dfiles_any B db bd bn n F F [] (-1) pv w h hn hne)
 have b0:w.cell? ⟨bb,0,none⟩=some (.pointer (some ⟨db,0,none⟩)):=blk_cell hb 0
 clear h hb hne
 go_enter Tryz.func11,Tryz.ntmps11
 go_wp2_with fail
 refine HL.out.mono ?_
 rintro e w1 ⟨hb1,v,l,rfl,h1,h2,h3⟩
 have HB1:=hide hb1
 have H1:=hide h1
 have H2:=hide h2
 clear hb1 h1 h2
 go_wp2
 go_ret
 exact ⟨HB1.out,v,l,rfl,H1.out,H2.out,h3⟩
theorem newBox_any (l:List (List UInt8×List UInt8)) (fv:Value) (w:World) (hl:FilG w fv l) (hn:l.length≤400000) (hx:∀ f∈l,f.1.length≤1000000) :
 Calls Tryz.prog 9 #[fv] w fun e w'=>Below w.heap.size w w'∧∃ bb bn,e=.returned (.pointer (some ⟨bb,0,none⟩))∧w'.heap[bb]?=some (.cells #[.pointer (some ⟨w.heap.size+1,0,none⟩)] 55)∧DI w' w.heap.size (w.heap.size+1) w.heap.size bn l.length (putFs noF l) (putFs noF l) [] (-1) (.slice none 0 0):=by
 have HL:=hide (newDisk_any l fv w hl hn hx)
 obtain ⟨a,c,hfv,_⟩:=hl
 subst hfv
 clear hx
 go_enter Tryz.func9,Tryz.ntmps9
 go_wp2_with fail
 refine HL.out.mono ?_
 rintro e w1 ⟨hb1,bn,rfl,h1⟩
 have HB1:=hide hb1
 have H1:=hide h1
 clear hb1 h1
 go_wp2
 go_ret
 exact ⟨HB1.out.alloc HB1.out.size _,w1.heap.size,bn,rfl,blk_new _ _,H1.out.below ((Below.refl _ _).alloc (Nat.le_refl _) _)⟩
end Go.Proofs.YthkibedbcbgajaaGreatDoor
