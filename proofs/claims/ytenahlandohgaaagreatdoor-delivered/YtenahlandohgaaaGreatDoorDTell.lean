import Derived.Deep.RegionHeld3
import Derived.Deep.AppendLies
import Derived.Deep.RegionWith
import Derived.Deep.RegionLaw
import Derived.Test.YtenahlandohgaaaGreatDoorZDDisk
namespace Go.Proofs.YtenahlandohgaaaGreatDoor
set_option linter.unusedVariables false
set_option linter.unusedSimpArgs false
set_option maxRecDepth 100000
set_option maxHeartbeats 4000000
open Go.RowKit
attribute [local go_sem ↓] Go.wp_at_zero Go.wp_at_succ
theorem four_op (w:World) (o:Dop) (t:TypeId):∀ j u,(ocell o)[j]?=some u→(w.alloc (.cells #[.int .i64 o.kind,.string (strA o.name),.string ⟨#[]⟩,.string (strA o.data)] t)).cell? ((⟨w.heap.size,0,none⟩:Addr).add j)=some u:=by
 intro j u h
 rw [addr_add0,blk_cell (blk_new w _),← h]
 simp [ocell]
theorem one_op (o:Dop):∀ u∈ocell o,u.oneCell'=true:=by
 intro u hu
 unfold ocell at hu
 simp at hu
 rcases hu with rfl | rfl | rfl | rfl <;> rfl
theorem tell_put (B db bd bn n:Nat) (D N:Fs) (p:List Dop) (q:Int) (pv:Value) (x s:List UInt8) (w:World) (h:DI w B db bd bn n D N p q pv) (hq0:-1000000≤q) (hq1:q≤-1) (hn:n≤1000000) (hp:p.length≤1000000) (hx:x.length≤1000000) :
 Calls Tryz.prog 343 #[.pointer (some ⟨db,0,none⟩),.agg #[.int .i64 1,.string (strA x),.string ⟨#[]⟩,.string (strA s)]] w fun e w'=>e=.returned .nilIface∧(∃ pv',DI w' B db bd bn (n+1) D (putF N x s) (p++[⟨1,x,s⟩]) (q - 1) pv')∧Fr (PDk B) w w':=by
 obtain ⟨W,hW⟩:∃ W,W=w.alloc (.cells #[.int .i64 1,.string (strA x),.string ⟨#[]⟩,.string (strA s)] 116):=⟨_,rfl⟩
 have HWB:Hid (Below w.heap.size w W):=by rw [hW];exact (Below.refl _ _).alloc (Nat.le_refl _) _
 have HWO:Hid (W.heap[w.heap.size]?=some (.cells #[.int .i64 1,.string (strA x),.string ⟨#[]⟩,.string (strA s)] 116)):=by rw [hW];exact blk_new _ _
 have HD0:=hide (h.below HWB.out)
 have HWW:=hide hW
 have hdl:=blk_lt h.blk
 obtain ⟨la,lc,rfl⟩:=owns_len h.row
 clear hW h
 go_enter Tryz.func343,Tryz.ntmps343
 go_wp2_with fail
 rw [← HWW.out]
 refine (writes_any B db bd bn n D N p q _ W HD0.out hq0 hq1).mono ?_
 rintro e w1 ⟨rfl,hD1,hF1⟩
 have HD1:=hide hD1
 have HF1:=hide ((Fr.of_below (P:=PDk B) HWB.out).trans (hF1.mono (fun k o hk=>hk.toK HD0.out.bb.1)))
 have hO1:=hF1.block _ _ HWO.out (fun ⟨_,cs,e⟩=>by injection e with e1 e2;exact absurd e2 (by decide))
 have HO1:=hide hO1
 have d1:w1.cell? ⟨db,1,none⟩=some (.map (some bn)):=blk_cell hD1.blk 1
 have o0:w1.cell? ⟨w.heap.size,0,none⟩=some (.int .i64 1):=blk_cell hO1 0
 have o1:w1.cell? ⟨w.heap.size,1,none⟩=some (.string (strA x)):=blk_cell hO1 1
 have o2:w1.cell? ⟨w.heap.size,2,none⟩=some (.string ⟨#[]⟩):=blk_cell hO1 2
 have o3:w1.cell? ⟨w.heap.size,3,none⟩=some (.string (strA s)):=blk_cell hO1 3
 obtain ⟨lv,hlk⟩:=mapF_look (w:=w1.drew) hD1.mn hx
 generalize (N x).isSome=ok at hlk
 have hml:=blk_lt hO1
 have hdl1:=blk_lt hD1.blk
 clear hD1 hF1 hO1
 cases ok
 all_goals go_wp2_with fail
 all_goals go_region_held3 (fun w'=>w'.cell? ⟨db,1,none⟩=some (.map (some bn))∧w'.cell? ⟨w.heap.size,1,none⟩=some (.string (strA x))) (first | go_keep | exact ⟨d1,o1⟩) (fail)
 all_goals go_wp2_with fail
 all_goals clear hlk
 all_goals go_region_held3 (fun w'=>w'.cell? ⟨db,1,none⟩=some (.map (some bn))∧w'.cell? ⟨w.heap.size,0,none⟩=some (.int .i64 1)∧w'.cell? ⟨w.heap.size,1,none⟩=some (.string (strA x))∧w'.cell? ⟨w.heap.size,2,none⟩=some (.string ⟨#[]⟩)∧w'.cell? ⟨w.heap.size,3,none⟩=some (.string (strA s))) (first | go_keep | exact ⟨q1,q2,q3,q4,q5⟩) (first | (go_at_call 52;refine (do_put bn n N x s w1.drew.drew HD1.out.mn hn hx).mono ?_;rintro e w2 ⟨rfl,hm2,hf2'⟩;have hf2:=hf2'.undrew.undrew;have hD2:=HD1.out.nowTurn hf2 hm2;have HD2:=hide hD2;have hO2:=hf2.block _ _ HO1.out (fun ⟨_,es,c,e⟩=>by cases e);have HO2:=hide hO2;have q1:w2.cell? ⟨db,1,none⟩=some (.map (some bn)):=blk_cell hD2.blk 1;have q2:w2.cell? ⟨w.heap.size,0,none⟩=some (.int .i64 1):=blk_cell hO2 0;have q3:w2.cell? ⟨w.heap.size,1,none⟩=some (.string (strA x)):=blk_cell hO2 1;have q4:w2.cell? ⟨w.heap.size,2,none⟩=some (.string ⟨#[]⟩):=blk_cell hO2 2;have q5:w2.cell? ⟨w.heap.size,3,none⟩=some (.string (strA s)):=blk_cell hO2 3;have HF2:=hide (HF1.out.trans (hf2.mono (fun k o hk=>hk.toK HD0.out.bb.2.2)));clear hm2 hf2 hf2' hD2 hO2;skip))
 all_goals go_wp2_with fail
 all_goals have s2:w2.cell? ⟨db,2,none⟩=some (.slice la p.length lc):=blk_cell HD2.out.blk 2
 all_goals have hdl2:=blk_lt HD2.out.blk
 all_goals have hBd:=HD2.out.bb.1
 all_goals have hB2:B≤w2.heap.size:=by omega
 all_goals have HROW:=hide HD2.out.rowNe
 all_goals clear q1
 all_goals obtain ⟨i0,hi,hz0,hz1,hz2⟩:=info_parts Tryz.infoOp
 all_goals go_region_law (refine step_append_lies _ rfl (.tmp 51) (.tmp 53) 82 rfl B 116 i0 (.agg #[.int .i64 0,.string ⟨#[]⟩,.string ⟨#[]⟩,.string ⟨#[]⟩]) 4 56 Tryz.underlying82 hi hz0 hz1 hz2 rfl (by decide) (.slice la p.length lc) p.length (ocells p) (by simp [Act.eval,Act.put]) (HD2.out.row.alloc _) ⟨w2.heap.size,0,none⟩ 1 1 (ocell ⟨1,x,s⟩) (by simp [Act.eval,Act.put]) rfl (four_op _ ⟨1,x,s⟩ _) (one_op ⟨1,x,s⟩) (by decide) (by unfold maxLen;omega) (by omega) (by simp;omega) _ rfl ?_;intro g' cap' w5 hown5 hgrow hat hlt5;have HO5:=hide hown5;have HG5:=hide hgrow;have t2:w5.cell? ⟨db,2,none⟩=some (.slice la p.length lc):=hgrow.cell (a:=⟨db,2,none⟩) ((World.cell?_of_block (a:=⟨db,2,none⟩) (w:=w2) (Below.heap_alloc _ _ _ hdl2)).trans s2) (fun e=>HROW.out e.symm);have hft:∀ j,w5.frozen? ⟨db,j,none⟩=false:=fun j=>(World.frozen?_of_block (a:=⟨db,j,none⟩) (w:=w2) ((hgrow.block db (by simp;omega) (fun e=>HROW.out e.symm)).trans (Below.heap_alloc _ _ _ hdl2))).trans (blk_frozen HD2.out.blk j);clear hown5 hgrow;skip)
 all_goals go_wp2
 all_goals go_ret
 all_goals have hfin:=HD2.out.rowTurn (p':=p++[⟨1,x,s⟩]) ((((Fr.refl _ w2).alloc _).drew).grown HG5.out (fun k o e _=>e)) (v':=.slice (some ⟨g',0,none⟩) (p.length+1) cap') (by rw [List.length_append,← ocells_snoc];exact HO5.out)
 all_goals exact ⟨rfl,⟨_,hfin.1⟩,HF2.out.trans hfin.2⟩
theorem tell_del (B db bd bn n:Nat) (D N:Fs) (p:List Dop) (q:Int) (pv:Value) (x s:List UInt8) (w:World) (h:DI w B db bd bn n D N p q pv) (hq0:-1000000≤q) (hq1:q≤-1) (hn:n≤1000000) (hp:p.length≤1000000) (hx:x.length≤1000000) (hh:(N x).isSome=true) :
 Calls Tryz.prog 343 #[.pointer (some ⟨db,0,none⟩),.agg #[.int .i64 3,.string (strA x),.string ⟨#[]⟩,.string (strA s)]] w fun e w'=>e=.returned .nilIface∧(∃ pv',DI w' B db bd bn (n+1) D (delF N x) (p++[⟨3,x,s⟩]) (q - 1) pv')∧Fr (PDk B) w w':=by
 obtain ⟨W,hW⟩:∃ W,W=w.alloc (.cells #[.int .i64 3,.string (strA x),.string ⟨#[]⟩,.string (strA s)] 116):=⟨_,rfl⟩
 have HWB:Hid (Below w.heap.size w W):=by rw [hW];exact (Below.refl _ _).alloc (Nat.le_refl _) _
 have HWO:Hid (W.heap[w.heap.size]?=some (.cells #[.int .i64 3,.string (strA x),.string ⟨#[]⟩,.string (strA s)] 116)):=by rw [hW];exact blk_new _ _
 have HD0:=hide (h.below HWB.out)
 have HWW:=hide hW
 have HHX:=hide hh
 clear hh
 have hdl:=blk_lt h.blk
 obtain ⟨la,lc,rfl⟩:=owns_len h.row
 clear hW h
 go_enter Tryz.func343,Tryz.ntmps343
 go_wp2_with fail
 rw [← HWW.out]
 refine (writes_any B db bd bn n D N p q _ W HD0.out hq0 hq1).mono ?_
 rintro e w1 ⟨rfl,hD1,hF1⟩
 have HD1:=hide hD1
 have HF1:=hide ((Fr.of_below (P:=PDk B) HWB.out).trans (hF1.mono (fun k o hk=>hk.toK HD0.out.bb.1)))
 have hO1:=hF1.block _ _ HWO.out (fun ⟨_,cs,e⟩=>by injection e with e1 e2;exact absurd e2 (by decide))
 have HO1:=hide hO1
 have d1:w1.cell? ⟨db,1,none⟩=some (.map (some bn)):=blk_cell hD1.blk 1
 have o0:w1.cell? ⟨w.heap.size,0,none⟩=some (.int .i64 3):=blk_cell hO1 0
 have o1:w1.cell? ⟨w.heap.size,1,none⟩=some (.string (strA x)):=blk_cell hO1 1
 have o2:w1.cell? ⟨w.heap.size,2,none⟩=some (.string ⟨#[]⟩):=blk_cell hO1 2
 have o3:w1.cell? ⟨w.heap.size,3,none⟩=some (.string (strA s)):=blk_cell hO1 3
 obtain ⟨lv,hlk⟩:=mapF_look (w:=w1.drew) hD1.mn hx
 rw [HHX.out] at hlk
 have hml:=blk_lt hO1
 have hdl1:=blk_lt hD1.blk
 clear hD1 hF1 hO1
 all_goals go_wp2_with fail
 all_goals go_region_held3 (fun w'=>w'.cell? ⟨db,1,none⟩=some (.map (some bn))∧w'.cell? ⟨w.heap.size,1,none⟩=some (.string (strA x))) (first | go_keep | exact ⟨d1,o1⟩) (fail)
 all_goals go_wp2_with fail
 all_goals clear hlk
 all_goals go_region_held3 (fun w'=>w'.cell? ⟨db,1,none⟩=some (.map (some bn))∧w'.cell? ⟨w.heap.size,0,none⟩=some (.int .i64 3)∧w'.cell? ⟨w.heap.size,1,none⟩=some (.string (strA x))∧w'.cell? ⟨w.heap.size,2,none⟩=some (.string ⟨#[]⟩)∧w'.cell? ⟨w.heap.size,3,none⟩=some (.string (strA s))) (first | go_keep | exact ⟨q1,q2,q3,q4,q5⟩) (first | (go_at_call 52;refine (do_del bn n N x s w1.drew.drew HD1.out.mn hx).mono ?_;rintro e w2 ⟨rfl,hm2,hf2'⟩;have hf2:=hf2'.undrew.undrew;have hD2:=HD1.out.nowTurn hf2 (hm2.mono (Nat.le_succ _));have HD2:=hide hD2;have hO2:=hf2.block _ _ HO1.out (fun ⟨_,es,c,e⟩=>by cases e);have HO2:=hide hO2;have q1:w2.cell? ⟨db,1,none⟩=some (.map (some bn)):=blk_cell hD2.blk 1;have q2:w2.cell? ⟨w.heap.size,0,none⟩=some (.int .i64 3):=blk_cell hO2 0;have q3:w2.cell? ⟨w.heap.size,1,none⟩=some (.string (strA x)):=blk_cell hO2 1;have q4:w2.cell? ⟨w.heap.size,2,none⟩=some (.string ⟨#[]⟩):=blk_cell hO2 2;have q5:w2.cell? ⟨w.heap.size,3,none⟩=some (.string (strA s)):=blk_cell hO2 3;have HF2:=hide (HF1.out.trans (hf2.mono (fun k o hk=>hk.toK HD0.out.bb.2.2)));clear hm2 hf2 hf2' hD2 hO2;skip))
 all_goals go_wp2_with fail
 all_goals have s2:w2.cell? ⟨db,2,none⟩=some (.slice la p.length lc):=blk_cell HD2.out.blk 2
 all_goals have hdl2:=blk_lt HD2.out.blk
 all_goals have hBd:=HD2.out.bb.1
 all_goals have hB2:B≤w2.heap.size:=by omega
 all_goals have HROW:=hide HD2.out.rowNe
 all_goals clear q1
 all_goals obtain ⟨i0,hi,hz0,hz1,hz2⟩:=info_parts Tryz.infoOp
 all_goals go_region_law (refine step_append_lies _ rfl (.tmp 51) (.tmp 53) 82 rfl B 116 i0 (.agg #[.int .i64 0,.string ⟨#[]⟩,.string ⟨#[]⟩,.string ⟨#[]⟩]) 4 56 Tryz.underlying82 hi hz0 hz1 hz2 rfl (by decide) (.slice la p.length lc) p.length (ocells p) (by simp [Act.eval,Act.put]) (HD2.out.row.alloc _) ⟨w2.heap.size,0,none⟩ 1 1 (ocell ⟨3,x,s⟩) (by simp [Act.eval,Act.put]) rfl (four_op _ ⟨3,x,s⟩ _) (one_op ⟨3,x,s⟩) (by decide) (by unfold maxLen;omega) (by omega) (by simp;omega) _ rfl ?_;intro g' cap' w5 hown5 hgrow hat hlt5;have HO5:=hide hown5;have HG5:=hide hgrow;have t2:w5.cell? ⟨db,2,none⟩=some (.slice la p.length lc):=hgrow.cell (a:=⟨db,2,none⟩) ((World.cell?_of_block (a:=⟨db,2,none⟩) (w:=w2) (Below.heap_alloc _ _ _ hdl2)).trans s2) (fun e=>HROW.out e.symm);have hft:∀ j,w5.frozen? ⟨db,j,none⟩=false:=fun j=>(World.frozen?_of_block (a:=⟨db,j,none⟩) (w:=w2) ((hgrow.block db (by simp;omega) (fun e=>HROW.out e.symm)).trans (Below.heap_alloc _ _ _ hdl2))).trans (blk_frozen HD2.out.blk j);clear hown5 hgrow;skip)
 all_goals go_wp2
 all_goals go_ret
 all_goals have hfin:=HD2.out.rowTurn (p':=p++[⟨3,x,s⟩]) ((((Fr.refl _ w2).alloc _).drew).grown HG5.out (fun k o e _=>e)) (v':=.slice (some ⟨g',0,none⟩) (p.length+1) cap') (by rw [List.length_append,← ocells_snoc];exact HO5.out)
 all_goals exact ⟨rfl,⟨_,hfin.1⟩,HF2.out.trans hfin.2⟩
end Go.Proofs.YtenahlandohgaaaGreatDoor
