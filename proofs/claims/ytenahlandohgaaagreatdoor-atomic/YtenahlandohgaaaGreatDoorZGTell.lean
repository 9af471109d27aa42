import Derived.Deep.RegionHeld3
import Derived.Deep.AppendLies
import Derived.Deep.RegionWith
import Derived.Deep.RegionLaw
import Derived.Test.YtenahlandohgaaaGreatDoorZDDisk
import Derived.Test.YtenahlandohgaaaGreatDoorZDUp
namespace Go.Proofs.YtenahlandohgaaaGreatDoor
set_option linter.unusedVariables false
set_option linter.unusedSimpArgs false
set_option maxRecDepth 100000
set_option maxHeartbeats 4000000
section
open Go.RowKit
attribute [local go_sem ↓] Go.wp_at_zero Go.wp_at_succ
structure Lf where
 left:Int
 full:Int
 down:Bool
abbrev w64 (x:Int):Int:=wrap64 x
def aWr (a:Lf):Nat×Lf:=
 if a.down=true∨a.left=0 then (16,⟨a.left,a.full,true⟩)
 else if a.full=0 then (15,⟨w64 (a.left - 1),-1,false⟩)
 else (0,⟨w64 (a.left - 1),w64 (a.full - 1),false⟩)
def errV (k:Nat):Value:=if k=0 then .nilIface else .iface 40 (.int .i64 (k:Int))
structure DJ (w:World) (B db bd bn n:Nat) (D N:Fs) (p:List Dop) (ql qf:Int) (dn:Bool) (pv:Value):Prop where
 bb:B≤db∧B≤bd∧B≤bn
 ne:bd≠bn
 blk:w.heap[db]?=some (.cells #[.map (some bd),.map (some bn),pv,.int .i64 ql,.int .i64 qf,.bool dn] 84)
 md:MapF w bd n D
 mn:MapF w bn n N
 row:w.ownsRow B 116 4 pv p.length (ocells p)
theorem DJ.fr {P:Nat→Obj→Prop} {w w':World} {B db bd bn n:Nat} {D N:Fs} {p:List Dop} {ql qf:Int} {dn:Bool} {pv:Value} (h:DJ w B db bd bn n D N p ql qf dn pv) (hf:Fr P w w') (h1:∀ k cs,¬ P k (.cells cs 84)) (h2:∀ k es c,¬ P k (.map es c)) (h3:∀ k cs,¬ P k (.cells cs 116)) (h4:∀ k cs,¬ P k (.cells cs 9)):DJ w' B db bd bn n D N p ql qf dn pv:=
 ⟨h.bb,h.ne,hf.block _ _ h.blk (h1 _ _),h.md.fr hf (h2 _) h4,h.mn.fr hf (h2 _) h4,owns_fr h.row hf h3⟩
theorem DJ.below {w w':World} {B db bd bn n:Nat} {D N:Fs} {p:List Dop} {ql qf:Int} {dn:Bool} {pv:Value} (h:DJ w B db bd bn n D N p ql qf dn pv) (hb:Below w.heap.size w w'):DJ w' B db bd bn n D N p ql qf dn pv:=
 h.fr (P:=fun _ _=>False) (Fr.of_below hb) (fun _ _ h=>h) (fun _ _ _ h=>h) (fun _ _ h=>h) (fun _ _ h=>h)
theorem DJ.turn {w w':World} {B db bd bn n:Nat} {D N:Fs} {p:List Dop} {ql qf:Int} {dn:Bool} {ql' qf':Int} {dn':Bool} {pv:Value} (h:DJ w B db bd bn n D N p ql qf dn pv) (hf:Fr (PDb db) w w') (hb:w'.heap[db]?=some (.cells #[.map (some bd),.map (some bn),pv,.int .i64 ql',.int .i64 qf',.bool dn'] 84)):DJ w' B db bd bn n D N p ql' qf' dn' pv:=
 ⟨h.bb,h.ne,hb,h.md.fr hf (fun es c ⟨_,cs,e⟩=>by cases e) (fun k cs ⟨_,cs',e⟩=>by injection e with e1 e2;exact absurd e2 (by decide)),h.mn.fr hf (fun es c ⟨_,cs,e⟩=>by cases e) (fun k cs ⟨_,cs',e⟩=>by injection e with e1 e2;exact absurd e2 (by decide)),owns_fr h.row hf (fun k cs ⟨_,cs',e⟩=>by injection e with e1 e2;exact absurd e2 (by decide))⟩
theorem DJ.rowNe {w:World} {B db bd bn n:Nat} {D N:Fs} {p:List Dop} {ql qf:Int} {dn:Bool} {pv:Value} (h:DJ w B db bd bn n D N p ql qf dn pv):¬ pv.ownBlock=some db:=fun e=>by
 obtain ⟨_,cs,hcs⟩:=owns_blk h.row db _ e h.blk
 injection hcs with e1 e2
 exact absurd e2 (by decide)
theorem DJ.nowTurn {w w':World} {B db bd bn n:Nat} {D N N':Fs} {p:List Dop} {ql qf:Int} {dn:Bool} {pv:Value} (h:DJ w B db bd bn n D N p ql qf dn pv) (hf:Fr (PMap bn) w w') (hm:MapF w' bn (n+1) N'):DJ w' B db bd bn (n+1) D N' p ql qf dn pv:=
 ⟨h.bb,h.ne,hf.block _ _ h.blk (fun ⟨_,es,c,e⟩=>by cases e),(h.md.fr hf (fun es c ⟨e,_⟩=>h.ne e) (fun k cs ⟨_,es,c,e⟩=>by cases e)).mono (Nat.le_succ _),hm,owns_fr h.row hf (fun k cs ⟨_,es,c,e⟩=>by cases e)⟩
theorem DJ.durTurn {w w':World} {B db bd bn n:Nat} {D N D':Fs} {p:List Dop} {ql qf:Int} {dn:Bool} {pv:Value} (h:DJ w B db bd bn n D N p ql qf dn pv) (hf:Fr (PMap bd) w w') (hm:MapF w' bd (n+1) D'):DJ w' B db bd bn (n+1) D' N p ql qf dn pv:=
 ⟨h.bb,h.ne,hf.block _ _ h.blk (fun ⟨_,es,c,e⟩=>by cases e),hm,(h.mn.fr hf (fun es c ⟨e,_⟩=>h.ne e.symm) (fun k cs ⟨_,es,c,e⟩=>by cases e)).mono (Nat.le_succ _),owns_fr h.row hf (fun k cs ⟨_,es,c,e⟩=>by cases e)⟩
theorem DJ.rowTurn {w w5:World} {B db bd bn n:Nat} {D N:Fs} {p p':List Dop} {ql qf:Int} {dn:Bool} {pv v':Value} (h:DJ w B db bd bn n D N p ql qf dn pv) (hf:Fr (fun k _=>pv.ownBlock=some k) w w5) (ho:w5.ownsRow B 116 4 v' p'.length (ocells p')) :
 DJ (w5.setCell ⟨db,2,none⟩ v') B db bd bn n D N p' ql qf dn v'∧Fr (PDk B) w (w5.setCell ⟨db,2,none⟩ v'):=by
 have hg:Fr (fun k o=>B≤k∧∃ cs,o=.cells cs 116) w w5:=⟨hf.os,hf.tape,hf.output,hf.size,fun k o hk hn=>hf.block k o hk (fun e=>hn (owns_blk h.row k o e hk))⟩
 have hb5:=hg.block _ _ h.blk (fun ⟨_,cs,e⟩=>by injection e with e1 e2;exact absurd e2 (by decide))
 have hf5:=(Fr.refl (PDb db) w5).set hb5 ⟨rfl,_,rfl⟩ 2 v'
 refine ⟨⟨h.bb,h.ne,heap_setCell_at _ _ _ _ _ _ hb5,?_,?_,owns_fr ho hf5 (fun k cs ⟨_,cs',e⟩=>by injection e with e1 e2;exact absurd e2 (by decide))⟩,(hg.mono (fun k o hk=>⟨hk.1,Or.inr (Or.inr hk.2)⟩)).trans (hf5.mono (fun k o hk=>hk.toK h.bb.1))⟩
 ·exact (h.md.fr hg (fun es c ⟨_,cs,e⟩=>by cases e) (fun k cs ⟨_,cs',e⟩=>by injection e with e1 e2;exact absurd e2 (by decide))).fr hf5 (fun es c ⟨_,cs,e⟩=>by cases e) (fun k cs ⟨_,cs',e⟩=>by injection e with e1 e2;exact absurd e2 (by decide))
 ·exact (h.mn.fr hg (fun es c ⟨_,cs,e⟩=>by cases e) (fun k cs ⟨_,cs',e⟩=>by injection e with e1 e2;exact absurd e2 (by decide))).fr hf5 (fun es c ⟨_,cs,e⟩=>by cases e) (fun k cs ⟨_,cs',e⟩=>by injection e with e1 e2;exact absurd e2 (by decide))
theorem gwrites_any (B db bd bn n:Nat) (D N:Fs) (p:List Dop) (a:Lf) (pv:Value) (w:World) (h:DJ w B db bd bn n D N p a.left a.full a.down pv) :
 Calls Tryz.prog 344 #[.pointer (some ⟨db,0,none⟩)] w fun e w'=>e=.returned (errV (aWr a).1)∧DJ w' B db bd bn n D N p (aWr a).2.left (aWr a).2.full (aWr a).2.down pv∧Fr (PDb db) w w':=by
 obtain ⟨ql,qf,dn⟩:=a
 have HD:=hide h
 have d3:w.cell? ⟨db,3,none⟩=some (.int .i64 ql):=blk_cell h.blk 3
 have d4:w.cell? ⟨db,4,none⟩=some (.int .i64 qf):=blk_cell h.blk 4
 have d5:w.cell? ⟨db,5,none⟩=some (.bool dn):=blk_cell h.blk 5
 have f3:∀ j,w.frozen? ⟨db,j,none⟩=false:=fun j=>blk_frozen h.blk j
 clear h
 have hP:∀ cs,PDb db db (.cells cs 84):=fun cs=>⟨rfl,_,rfl⟩
 have HS:=hide (heap_setCell_at w db 5 (.bool true) _ _ HD.out.blk)
 have HS3:=hide (heap_setCell_at w db 3 (.int .i64 (w64 (ql - 1))) _ _ HD.out.blk)
 have HF5:=hide ((Fr.refl (PDb db) w).set HD.out.blk (hP _) 5 (.bool true))
 have HF3:=hide ((Fr.refl (PDb db) w).set HD.out.blk (hP _) 3 (.int .i64 (w64 (ql - 1))))
 by_cases hd:dn=true
 ·subst hd
  have HA:Hid (aWr ⟨ql,qf,true⟩=(16,⟨ql,qf,true⟩)):=rfl
  go_enter Tryz.func344,Tryz.ntmps344
  go_wp2
  go_ret
  rw [HA.out]
  exact ⟨rfl,HD.out.turn HF5.out HS.out,HF5.out⟩
 have hd':dn=false:=by cases dn with
  | true=>exact absurd rfl hd
  | false=>rfl
 subst hd'
 by_cases hl:ql=0
 ·subst hl
  have HA:Hid (aWr ⟨0,qf,false⟩=(16,⟨0,qf,true⟩)):=by show _=_;unfold aWr;rw [if_pos (Or.inr rfl)]
  go_enter Tryz.func344,Tryz.ntmps344
  go_wp2
  go_ret
  rw [HA.out]
  exact ⟨rfl,HD.out.turn HF5.out HS.out,HF5.out⟩
 by_cases hf:qf=0
 ·subst hf
  have HA:Hid (aWr ⟨ql,0,false⟩=(15,⟨w64 (ql - 1),-1,false⟩)):=by show _=_;unfold aWr;rw [if_neg (by simpa using hl),if_pos rfl]
  go_enter Tryz.func344,Tryz.ntmps344
  go_wp2
  go_ret
  rw [HA.out]
  have h4:=heap_setCell_at _ db 4 (.int .i64 (-1)) _ _ HS3.out
  have g4:=HF3.out.set HS3.out (hP _) 4 (.int .i64 (-1))
  exact ⟨rfl,HD.out.turn g4 h4,g4⟩
 ·have HA:Hid (aWr ⟨ql,qf,false⟩=(0,⟨w64 (ql - 1),w64 (qf - 1),false⟩)):=by show _=_;unfold aWr;rw [if_neg (by simpa using hl),if_neg hf]
  go_enter Tryz.func344,Tryz.ntmps344
  go_wp2
  go_ret
  rw [HA.out]
  have h4:=heap_setCell_at _ db 4 (.int .i64 (w64 (qf - 1))) _ _ HS3.out
  have g4:=HF3.out.set HS3.out (hP _) 4 (.int .i64 (w64 (qf - 1)))
  exact ⟨rfl,HD.out.turn g4 h4,g4⟩
end
section
open Go.RowKit
attribute [local go_sem ↓] Go.wp_at_zero Go.wp_at_succ
theorem gtell_put (B db bd bn n:Nat) (D N:Fs) (p:List Dop) (a:Lf) (pv:Value) (x s:List UInt8) (w:World) (h:DJ w B db bd bn n D N p a.left a.full a.down pv) (hn:n≤1000000) (hp:p.length≤1000000) (hx:x.length≤1000000) :
 Calls Tryz.prog 343 #[.pointer (some ⟨db,0,none⟩),.agg #[.int .i64 1,.string (strA x),.string ⟨#[]⟩,.string (strA s)]] w fun e w'=>Fr (PDk B) w w'∧(((aWr a).1=0∧e=.returned .nilIface∧∃ pv',DJ w' B db bd bn (n+1) D (putF N x s) (p++[⟨1,x,s⟩]) (aWr a).2.left (aWr a).2.full (aWr a).2.down pv')∨((aWr a).1≠0∧e=.returned (errV (aWr a).1)∧DJ w' B db bd bn n D N p (aWr a).2.left (aWr a).2.full (aWr a).2.down pv∧Fr (PDb db) w w')):=by
 obtain ⟨W,hW⟩:∃ W,W=w.alloc (.cells #[.int .i64 1,.string (strA x),.string ⟨#[]⟩,.string (strA s)] 116):=⟨_,rfl⟩
 have HWB:Hid (Below w.heap.size w W):=by rw [hW];exact (Below.refl _ _).alloc (Nat.le_refl _) _
 have HWO:Hid (W.heap[w.heap.size]?=some (.cells #[.int .i64 1,.string (strA x),.string ⟨#[]⟩,.string (strA s)] 116)):=by rw [hW];exact blk_new _ _
 have HD0:=hide (h.below HWB.out)
 have HWW:=hide hW
 have hdl:=blk_lt h.blk
 obtain ⟨la,lc,rfl⟩:=owns_len h.row
 clear hW h
 go_enter Tryz.func343,Tryz.ntmps343
 go_wp2_with fail
 rw [← HWW.out]
 refine (gwrites_any B db bd bn n D N p a _ W HD0.out).mono ?_
 rintro e w1 ⟨rfl,hD1,hF1⟩
 by_cases hk0:(aWr a).1=0
 rotate_left
 ·have HF1:=hide ((Fr.of_below (P:=PDk B) HWB.out).trans (hF1.mono (fun k o hk=>hk.toK HD0.out.bb.1)))
  have HFB:=hide ((Fr.of_below (P:=PDb db) HWB.out).trans hF1)
  have HD1:=hide hD1
  have HK0:=hide hk0
  have he:errV (aWr a).1=.iface 40 (.int .i64 (((aWr a).1:Nat):Int)):=by unfold errV;rw [if_neg hk0]
  rw [he]
  have HEV:=hide he
  clear hD1 hF1 he hk0
  go_wp2
  go_ret
  exact ⟨HF1.out,Or.inr ⟨HK0.out,by rw [HEV.out];rfl,HD1.out,HFB.out⟩⟩
 have HK0:=hide hk0
 have he:errV (aWr a).1=.nilIface:=by unfold errV;rw [if_pos hk0]
 rw [he]
 clear he hk0
 have HD1:=hide hD1
 have HF1:=hide ((Fr.of_below (P:=PDk B) HWB.out).trans (hF1.mono (fun k o hk=>hk.toK HD0.out.bb.1)))
 have hO1:=hF1.block _ _ HWO.out (fun ⟨_,cs,e⟩=>by injection e with e1 e2;exact absurd e2 (by decide))
 have HO1:=hide hO1
 have d1:w1.cell? ⟨db,1,none⟩=some (.map (some bn)):=blk_cell hD1.blk 1
 have o0:w1.cell? ⟨w.heap.size,0,none⟩=some (.int .i64 1):=blk_cell hO1 0
 have o1:w1.cell? ⟨w.heap.size,1,none⟩=some (.string (strA x)):=blk_cell hO1 1
 have o2:w1.cell? ⟨w.heap.size,2,none⟩=some (.string ⟨#[]⟩):=blk_cell hO1 2
 have o3:w1.cell? ⟨w.heap.size,3,none⟩=some (.string (strA s)):=blk_cell hO1 3
 obtain ⟨lv,hlk⟩:=mapF_look (w:=w1.drew) hD1.mn hx
 generalize (N x).isSome=ok at hlk
 have hml:=blk_lt hO1
 have hdl1:=blk_lt hD1.blk
 clear hD1 hF1 hO1
 cases ok
 all_goals go_wp2_with fail
 all_goals go_region_held3 (fun w'=>w'.cell? ⟨db,1,none⟩=some (.map (some bn))∧w'.cell? ⟨w.heap.size,1,none⟩=some (.string (strA x))) (first | go_keep | exact ⟨d1,o1⟩) (fail)
 all_goals go_wp2_with fail
 all_goals clear hlk
 all_goals go_region_held3 (fun w'=>w'.cell? ⟨db,1,none⟩=some (.map (some bn))∧w'.cell? ⟨w.heap.size,0,none⟩=some (.int .i64 1)∧w'.cell? ⟨w.heap.size,1,none⟩=some (.string (strA x))∧w'.cell? ⟨w.heap.size,2,none⟩=some (.string ⟨#[]⟩)∧w'.cell? ⟨w.heap.size,3,none⟩=some (.string (strA s))) (first | go_keep | exact ⟨q1,q2,q3,q4,q5⟩) (first | (go_at_call 52;refine (do_put bn n N x s w1.drew.drew HD1.out.mn hn hx).mono ?_;rintro e w2 ⟨rfl,hm2,hf2'⟩;have hf2:=hf2'.undrew.undrew;have hD2:=HD1.out.nowTurn hf2 hm2;have HD2:=hide hD2;have hO2:=hf2.block _ _ HO1.out (fun ⟨_,es,c,e⟩=>by cases e);have HO2:=hide hO2;have q1:w2.cell? ⟨db,1,none⟩=some (.map (some bn)):=blk_cell hD2.blk 1;have q2:w2.cell? ⟨w.heap.size,0,none⟩=some (.int .i64 1):=blk_cell hO2 0;have q3:w2.cell? ⟨w.heap.size,1,none⟩=some (.string (strA x)):=blk_cell hO2 1;have q4:w2.cell? ⟨w.heap.size,2,none⟩=some (.string ⟨#[]⟩):=blk_cell hO2 2;have q5:w2.cell? ⟨w.heap.size,3,none⟩=some (.string (strA s)):=blk_cell hO2 3;have HF2:=hide (HF1.out.trans (hf2.mono (fun k o hk=>hk.toK HD0.out.bb.2.2)));clear hm2 hf2 hf2' hD2 hO2;skip))
 all_goals go_wp2_with fail
 all_goals have s2:w2.cell? ⟨db,2,none⟩=some (.slice la p.length lc):=blk_cell HD2.out.blk 2
 all_goals have hdl2:=blk_lt HD2.out.blk
 all_goals have hBd:=HD2.out.bb.1
 all_goals have hB2:B≤w2.heap.size:=by omega
 all_goals have HROW:=hide HD2.out.rowNe
 all_goals clear q1
 all_goals obtain ⟨i0,hi,hz0,hz1,hz2⟩:=info_parts Tryz.infoOp
 all_goals go_region_law (refine step_append_lies _ rfl (.tmp 51) (.tmp 53) 82 rfl B 116 i0 (.agg #[.int .i64 0,.string ⟨#[]⟩,.string ⟨#[]⟩,.string ⟨#[]⟩]) 4 56 Tryz.underlying82 hi hz0 hz1 hz2 rfl (by decide) (.slice la p.length lc) p.length (ocells p) (by simp [Act.eval,Act.put]) (HD2.out.row.alloc _) ⟨w2.heap.size,0,none⟩ 1 1 (ocell ⟨1,x,s⟩) (by simp [Act.eval,Act.put]) rfl (four_op _ ⟨1,x,s⟩ _) (one_op ⟨1,x,s⟩) (by decide) (by unfold maxLen;omega) (by omega) (by simp;omega) _ rfl ?_;intro g' cap' w5 hown5 hgrow hat hlt5;have HO5:=hide hown5;have HG5:=hide hgrow;have t2:w5.cell? ⟨db,2,none⟩=some (.slice la p.length lc):=hgrow.cell (a:=⟨db,2,none⟩) ((World.cell?_of_block (a:=⟨db,2,none⟩) (w:=w2) (Below.heap_alloc _ _ _ hdl2)).trans s2) (fun e=>HROW.out e.symm);have hft:∀ j,w5.frozen? ⟨db,j,none⟩=false:=fun j=>(World.frozen?_of_block (a:=⟨db,j,none⟩) (w:=w2) ((hgrow.block db (by simp;omega) (fun e=>HROW.out e.symm)).trans (Below.heap_alloc _ _ _ hdl2))).trans (blk_frozen HD2.out.blk j);clear hown5 hgrow;skip)
 all_goals go_wp2
 all_goals go_ret
 all_goals have hfin:=HD2.out.rowTurn (p':=p++[⟨1,x,s⟩]) ((((Fr.refl _ w2).alloc _).drew).grown HG5.out (fun k o e _=>e)) (v':=.slice (some ⟨g',0,none⟩) (p.length+1) cap') (by rw [List.length_append,← ocells_snoc];exact HO5.out)
 all_goals exact ⟨HF2.out.trans hfin.2,Or.inl ⟨HK0.out,rfl,_,hfin.1⟩⟩
theorem gtell_del (B db bd bn n:Nat) (D N:Fs) (p:List Dop) (a:Lf) (pv:Value) (x s:List UInt8) (w:World) (h:DJ w B db bd bn n D N p a.left a.full a.down pv) (hn:n≤1000000) (hp:p.length≤1000000) (hx:x.length≤1000000) (hh:(N x).isSome=true) :
 Calls Tryz.prog 343 #[.pointer (some ⟨db,0,none⟩),.agg #[.int .i64 3,.string (strA x),.string ⟨#[]⟩,.string (strA s)]] w fun e w'=>Fr (PDk B) w w'∧(((aWr a).1=0∧e=.returned .nilIface∧∃ pv',DJ w' B db bd bn (n+1) D (delF N x) (p++[⟨3,x,s⟩]) (aWr a).2.left (aWr a).2.full (aWr a).2.down pv')∨((aWr a).1≠0∧e=.returned (errV (aWr a).1)∧DJ w' B db bd bn n D N p (aWr a).2.left (aWr a).2.full (aWr a).2.down pv∧Fr (PDb db) w w')):=by
 obtain ⟨W,hW⟩:∃ W,W=w.alloc (.cells #[.int .i64 3,.string (strA x),.string ⟨#[]⟩,.string (strA s)] 116):=⟨_,rfl⟩
 have HWB:Hid (Below w.heap.size w W):=by rw [hW];exact (Below.refl _ _).alloc (Nat.le_refl _) _
 have HWO:Hid (W.heap[w.heap.size]?=some (.cells #[.int .i64 3,.string (strA x),.string ⟨#[]⟩,.string (strA s)] 116)):=by rw [hW];exact blk_new _ _
 have HD0:=hide (h.below HWB.out)
 have HWW:=hide hW
 have HHX:=hide hh
 clear hh
 have hdl:=blk_lt h.blk
 obtain ⟨la,lc,rfl⟩:=owns_len h.row
 clear hW h
 go_enter Tryz.func343,Tryz.ntmps343
 go_wp2_with fail
 rw [← HWW.out]
 refine (gwrites_any B db bd bn n D N p a _ W HD0.out).mono ?_
 rintro e w1 ⟨rfl,hD1,hF1⟩
 by_cases hk0:(aWr a).1=0
 rotate_left
 ·have HF1:=hide ((Fr.of_below (P:=PDk B) HWB.out).trans (hF1.mono (fun k o hk=>hk.toK HD0.out.bb.1)))
  have HFB:=hide ((Fr.of_below (P:=PDb db) HWB.out).trans hF1)
  have HD1:=hide hD1
  have HK0:=hide hk0
  have he:errV (aWr a).1=.iface 40 (.int .i64 (((aWr a).1:Nat):Int)):=by unfold errV;rw [if_neg hk0]
  rw [he]
  have HEV:=hide he
  clear hD1 hF1 he hk0
  go_wp2
  go_ret
  exact ⟨HF1.out,Or.inr ⟨HK0.out,by rw [HEV.out];rfl,HD1.out,HFB.out⟩⟩
 have HK0:=hide hk0
 have he:errV (aWr a).1=.nilIface:=by unfold errV;rw [if_pos hk0]
 rw [he]
 clear he hk0
 have HD1:=hide hD1
 have HF1:=hide ((Fr.of_below (P:=PDk B) HWB.out).trans (hF1.mono (fun k o hk=>hk.toK HD0.out.bb.1)))
 have hO1:=hF1.block _ _ HWO.out (fun ⟨_,cs,e⟩=>by injection e with e1 e2;exact absurd e2 (by decide))
 have HO1:=hide hO1
 have d1:w1.cell? ⟨db,1,none⟩=some (.map (some bn)):=blk_cell hD1.blk 1
 have o0:w1.cell? ⟨w.heap.size,0,none⟩=some (.int .i64 3):=blk_cell hO1 0
 have o1:w1.cell? ⟨w.heap.size,1,none⟩=some (.string (strA x)):=blk_cell hO1 1
 have o2:w1.cell? ⟨w.heap.size,2,none⟩=some (.string ⟨#[]⟩):=blk_cell hO1 2
 have o3:w1.cell? ⟨w.heap.size,3,none⟩=some (.string (strA s)):=blk_cell hO1 3
 obtain ⟨lv,hlk⟩:=mapF_look (w:=w1.drew) hD1.mn hx
 rw [HHX.out] at hlk
 have hml:=blk_lt hO1
 have hdl1:=blk_lt hD1.blk
 clear hD1 hF1 hO1
 all_goals go_wp2_with fail
 all_goals go_region_held3 (fun w'=>w'.cell? ⟨db,1,none⟩=some (.map (some bn))∧w'.cell? ⟨w.heap.size,1,none⟩=some (.string (strA x))) (first | go_keep | exact ⟨d1,o1⟩) (fail)
 all_goals go_wp2_with fail
 all_goals clear hlk
 all_goals go_region_held3 (fun w'=>w'.cell? ⟨db,1,none⟩=some (.map (some bn))∧w'.cell? ⟨w.heap.size,0,none⟩=some (.int .i64 3)∧w'.cell? ⟨w.heap.size,1,none⟩=some (.string (strA x))∧w'.cell? ⟨w.heap.size,2,none⟩=some (.string ⟨#[]⟩)∧w'.cell? ⟨w.heap.size,3,none⟩=some (.string (strA s))) (first | go_keep | exact ⟨q1,q2,q3,q4,q5⟩) (first | (go_at_call 52;refine (do_del bn n N x s w1.drew.drew HD1.out.mn hx).mono ?_;rintro e w2 ⟨rfl,hm2,hf2'⟩;have hf2:=hf2'.undrew.undrew;have hD2:=HD1.out.nowTurn hf2 (hm2.mono (Nat.le_succ _));have HD2:=hide hD2;have hO2:=hf2.block _ _ HO1.out (fun ⟨_,es,c,e⟩=>by cases e);have HO2:=hide hO2;have q1:w2.cell? ⟨db,1,none⟩=some (.map (some bn)):=blk_cell hD2.blk 1;have q2:w2.cell? ⟨w.heap.size,0,none⟩=some (.int .i64 3):=blk_cell hO2 0;have q3:w2.cell? ⟨w.heap.size,1,none⟩=some (.string (strA x)):=blk_cell hO2 1;have q4:w2.cell? ⟨w.heap.size,2,none⟩=some (.string ⟨#[]⟩):=blk_cell hO2 2;have q5:w2.cell? ⟨w.heap.size,3,none⟩=some (.string (strA s)):=blk_cell hO2 3;have HF2:=hide (HF1.out.trans (hf2.mono (fun k o hk=>hk.toK HD0.out.bb.2.2)));clear hm2 hf2 hf2' hD2 hO2;skip))
 all_goals go_wp2_with fail
 all_goals have s2:w2.cell? ⟨db,2,none⟩=some (.slice la p.length lc):=blk_cell HD2.out.blk 2
 all_goals have hdl2:=blk_lt HD2.out.blk
 all_goals have hBd:=HD2.out.bb.1
 all_goals have hB2:B≤w2.heap.size:=by omega
 all_goals have HROW:=hide HD2.out.rowNe
 all_goals clear q1
 all_goals obtain ⟨i0,hi,hz0,hz1,hz2⟩:=info_parts Tryz.infoOp
 all_goals go_region_law (refine step_append_lies _ rfl (.tmp 51) (.tmp 53) 82 rfl B 116 i0 (.agg #[.int .i64 0,.string ⟨#[]⟩,.string ⟨#[]⟩,.string ⟨#[]⟩]) 4 56 Tryz.underlying82 hi hz0 hz1 hz2 rfl (by decide) (.slice la p.length lc) p.length (ocells p) (by simp [Act.eval,Act.put]) (HD2.out.row.alloc _) ⟨w2.heap.size,0,none⟩ 1 1 (ocell ⟨3,x,s⟩) (by simp [Act.eval,Act.put]) rfl (four_op _ ⟨3,x,s⟩ _) (one_op ⟨3,x,s⟩) (by decide) (by unfold maxLen;omega) (by omega) (by simp;omega) _ rfl ?_;intro g' cap' w5 hown5 hgrow hat hlt5;have HO5:=hide hown5;have HG5:=hide hgrow;have t2:w5.cell? ⟨db,2,none⟩=some (.slice la p.length lc):=hgrow.cell (a:=⟨db,2,none⟩) ((World.cell?_of_block (a:=⟨db,2,none⟩) (w:=w2) (Below.heap_alloc _ _ _ hdl2)).trans s2) (fun e=>HROW.out e.symm);have hft:∀ j,w5.frozen? ⟨db,j,none⟩=false:=fun j=>(World.frozen?_of_block (a:=⟨db,j,none⟩) (w:=w2) ((hgrow.block db (by simp;omega) (fun e=>HROW.out e.symm)).trans (Below.heap_alloc _ _ _ hdl2))).trans (blk_frozen HD2.out.blk j);clear hown5 hgrow;skip)
 all_goals go_wp2
 all_goals go_ret
 all_goals have hfin:=HD2.out.rowTurn (p':=p++[⟨3,x,s⟩]) ((((Fr.refl _ w2).alloc _).drew).grown HG5.out (fun k o e _=>e)) (v':=.slice (some ⟨g',0,none⟩) (p.length+1) cap') (by rw [List.length_append,← ocells_snoc];exact HO5.out)
 all_goals exact ⟨HF2.out.trans hfin.2,Or.inl ⟨HK0.out,rfl,_,hfin.1⟩⟩
end
end Go.Proofs.YtenahlandohgaaaGreatDoor
