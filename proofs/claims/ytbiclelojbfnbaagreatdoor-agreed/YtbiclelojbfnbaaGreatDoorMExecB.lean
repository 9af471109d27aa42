import Derived.BigRegion
import Derived.Test.YtbiclelojbfnbaaGreatDoorZMExec
namespace Go.Proofs.YtbiclelojbfnbaaGreatDoor
set_option linter.unusedVariables false
set_option linter.unusedSimpArgs false
set_option maxRecDepth 100000
set_option maxHeartbeats 4000000
open Go.RowKit
attribute [local go_sem ↓] Go.wp_at_zero Go.wp_at_succ
theorem ends_ok {v:Bool} {code:List Ins} {M:Msg} {w w5:World} {lv x0 y0:Value} {l:List (Int×List UInt8)} {d B:Nat} (hx:execL v code M=(l,d,none)) (hB:Below w.heap.size w w5) (hv:ActsV w5 B lv l) (c0:w5.cell? ⟨w.heap.size+1,0,none⟩=some x0) (c1:w5.cell? ⟨w.heap.size+1+1,0,none⟩=some y0) (hlt:w.heap.size+1+1 < B) :
  ∃ W,W=(w5.setCell ⟨w.heap.size+1,0,none⟩ lv).setCell ⟨w.heap.size+1+1,0,none⟩ .nilIface∧W.cell? ⟨w.heap.size+1,0,none⟩=some lv∧W.cell? ⟨w.heap.size+1+1,0,none⟩=some .nilIface∧Hid (XPost (execL v code M) w (.returned (.tuple #[lv,.int .i64 (d:Int),.nilIface])) W):=by
 refine ⟨_,rfl,?_,?_,?_⟩
 ·rw [World.cell?_setCell_other _ _ _ _ (by simp),World.cell?_setCell_same _ _ _ c0]
 ·have d1':(w5.setCell ⟨w.heap.size+1,0,none⟩ lv).cell? ⟨w.heap.size+1+1,0,none⟩=some y0:=by rw [World.cell?_setCell_other _ _ _ _ (by simp)];exact c1
  exact World.cell?_setCell_same _ _ _ d1'
 ·rw [hx]
  exact ⟨(hB.setCell (show w.heap.size≤w.heap.size+1 by omega) _).setCell (show w.heap.size≤w.heap.size+1+1 by omega) _,Or.inl ⟨lv,rfl,rfl,((hv.set (by omega) _ _).set hlt _ _).lo (by omega)⟩⟩
theorem MI.atNext {w:World} {B xb sb:Nat} {M:Msg} {m:MS} {count:Nat} {kv:Value} (h:MI w B xb sb M m count kv) (hlt:m.next < count):MAt ((w.setCell ⟨xb,2,none⟩ (.int .i64 (m.next:Int))).setCell ⟨xb,3,none⟩ (.int .i64 ((m.next:Int)+1))).drew.drew B xb sb M (atL m) count∧Fr (PMc B xb) w ((w.setCell ⟨xb,2,none⟩ (.int .i64 (m.next:Int))).setCell ⟨xb,3,none⟩ (.int .i64 ((m.next:Int)+1))).drew.drew:=by
 have hcl:=h.cl
 have f1:=h.set 2 (.int .i64 (m.next:Int)) ⟨m.st,m.stack,m.next,m.next⟩ kv rfl rfl (owns_setOther h.stack h.row _ _) h.sl (show m.next≤400 by omega) h.nx
 have f2:=f1.1.set 3 (.int .i64 ((m.next:Int)+1)) (atL m) kv rfl rfl (owns_setOther f1.1.stack f1.1.row _ _) h.sl (show m.next≤400 by omega) (show m.next+1≤count by omega)
 obtain ⟨X,hX⟩:∃ X,X=(w.setCell ⟨xb,2,none⟩ (.int .i64 (m.next:Int))).setCell ⟨xb,3,none⟩ (.int .i64 ((m.next:Int)+1)):=⟨_,rfl⟩
 rw [← hX] at f2 ⊢
 have hb:Below X.heap.size X X.drew.drew:=below_drew1 (below_drew1 (Below.refl X.heap.size X))
 exact ⟨⟨_,f2.1.below hb⟩,((f1.2.trans f2.2).mono (fun _ _=>PMc.k)).trans (Fr.of_below hb)⟩
theorem exec_short (v:Bool) (cv hv:Value) (code:List Ins) (M:Msg) (w:World) (hc:CodeV w cv code) (hh:HdrV w hv M.hdrs) (hb:SBd M (ss0 v)) (h1:1 < w.heap.size) (hm:∃ m,w.cell? ⟨1,0,none⟩=some (.int .i64 m)) (ht:Tab w) (hn:code.length≤1000000) (hlong:¬ 400 < code.length) :
  Calls Tryz.prog 80 #[.bool v,cv,msgV M hv] w (XPost (execL v code M) w):=by
 have hmf:∀ (fn:Fn) (first cap:Array Value) (w:World),(Instr.makeFunc fn first cap).run Tryz.prog w=.ok (.func fn first cap) w:=fun _ _ _ _=>rfl
 obtain ⟨ca,cc,hcv⟩:=hc.len
 subst hcv
 obtain ⟨ha,hac,hhv⟩:=hh.len
 subst hhv
 unfold msgV
 have hlong':¬ (400:Int) < (code.length:Int):=by omega
 have HC:=hide hc
 have HH:=hide hh
 have HBD:=hide hb
 have HT:=hide ht
 have HM1:=hide hm
 clear hc hh hb ht hm
 go_enter_defers Tryz.func80,Tryz.ntmps80
 go_wp2_with fail
 obtain ⟨V,hV⟩:∃ V,V=((w.alloc (.cells #[.string (strA M.fr),.string (strA M.to),.int .i64 M.size,.slice ha M.hdrs.length hac] 48)).alloc (.cells #[.slice none 0 0] 33)).alloc (.cells #[.nilIface] 90):=⟨_,rfl⟩
 have hzV:V.heap.size=w.heap.size+3:=by rw [hV];simp
 have hP:V.heap[w.heap.size+1]?=some (.cells #[.slice none 0 0] 33):=by rw [hV];exact blk_alloc (blk_newAt (by simp))
 have hQ:V.heap[w.heap.size+1+1]?=some (.cells #[.nilIface] 90):=by rw [hV];exact blk_newAt (by simp)
 have hVB:Below w.heap.size w V:=by rw [hV];exact (((Below.refl _ _).alloc (Nat.le_refl _) _).alloc (by simp) _).alloc (by simp;omega) _
 rw [← hV]
 clear hV
 have HVB:=hide hVB
 have HP:=hide hP
 have HQ:=hide hQ
 refine (new_any v M (.slice ha M.hdrs.length hac) V (HH.out.fr (P:=fun _ _=>False) (Fr.of_below hVB) (fun _ _ h=>h)) HBD.out (by omega) (by obtain ⟨m,hm⟩:=HM1.out;exact ⟨m,(hVB.cell (p:=⟨1,0,none⟩) (cell_lt hm)).trans hm⟩)).mono ?_
 rintro e w1 ⟨sb,rfl,hs,hb1⟩
 have HS:=hide hs
 have HB1:=hide hb1
 have hz1:=hb1.size
 clear hVB hP hQ hs hb1
 go_wp2_with fail
 refine (table_any _).mono ?_
 rintro e w2 ⟨rfl,hw2,hb2,hz2⟩
 obtain ⟨xb,hxb⟩:∃ xb,xb=w1.heap.size:=⟨_,rfl⟩
 have hz2':w2.heap.size=xb+7:=by rw [hz2,hxb];simp
 have hxs:(w1.alloc (.cells (mcCells sb (.slice none 0 0) 0 0 code.length) 210)).heap.size=xb+1:=by rw [hxb];simp
 have hw2':WaysAt w2 (xb+1):=by rw [← hxs];exact hw2
 have hb2':Below (w1.alloc (.cells (mcCells sb (.slice none 0 0) 0 0 code.length) 210)).heap.size (w1.alloc (.cells (mcCells sb (.slice none 0 0) 0 0 code.length) 210)) w2:=hb2
 have hblk:w2.heap[xb]?=some (.cells (mcCells sb (.slice none 0 0) 0 0 code.length) 210):=by rw [hxb];exact blk_below (blk_new _ _) hb2'
 have hcl:code.length≤400:=by omega
 have hb12:Below w1.heap.size w1 w2:=((Below.refl _ _).alloc (Nat.le_refl _) _).trans (hb2'.mono (by simp))
 have HMA:Hid (MAt w2 V.heap.size xb sb M (ms0 v) code.length):=⟨.slice none 0 0,by omega,hblk,HS.out.below hb12,World.ownsRow_nil _ _ _ _,Nat.zero_le _,Nat.zero_le _,Nat.zero_le _,hcl,by omega⟩
 have HW2:=hide hw2'
 have HB2:=hide (HVB.out.trans ((HB1.out.trans (hb12.mono hz1)).mono (by omega)))
 have HBV2:=hide (HB1.out.trans (hb12.mono hz1))
 have hs2:w1.heap.size+6=xb+6:=by omega
 have hst:w1.heap.size+1+5=xb+6:=by omega
 have hxs3:∀ o:Obj,(w1.alloc o).heap.size=xb+1:=fun o=>by rw [hxb];simp
 rw [hxs3,← hxb]
 clear hw2 hb2 hb2' hblk hb12 hw2' hxs hz2
 have hxbV:V.heap.size≤xb:=by omega
 have hx2l:xb+7≤w2.heap.size:=by omega
 clear hxb hs2 hst hz2'
 go_wp2_with fail
 go_loopw [7] (fun dn wr=>∃ (m:MS) (d:Nat),dn=.int .i64 (d:Int)∧MAt wr V.heap.size xb sb M m code.length∧Fr (PMc V.heap.size xb) w2 wr∧d≤m.next∧∃ F,code.length - m.next≤F∧loopL M code code.length (ms0 v) 0=loopL M code F m d) (fun dn _=>code.length - (intOf dn).toNat)
 case atStart=>exact ⟨ms0 v,0,rfl,HMA.out,Fr.refl _ _,Nat.le_refl _,code.length,Nat.sub_le _ _,rfl⟩
 case round=>
  obtain ⟨m,d,rfl,hma,hfr,hdm,F,hF,hloop⟩:=hrel
  obtain ⟨kv,hMI⟩:=hma
  have HMI:=hide hMI
  have HFR:=hide hfr
  have HLP:=hide hloop
  have c0:wr.cell? ⟨xb,0,none⟩=some (.pointer (some ⟨sb,0,none⟩)):=blk_cell hMI.blk 0
  have c3:wr.cell? ⟨xb,3,none⟩=some (.int .i64 (m.next:Int)):=blk_cell hMI.blk 3
  have c4:wr.cell? ⟨xb,4,none⟩=some (.int .i64 (code.length:Int)):=blk_cell hMI.blk 4
  have hnx:=hMI.nx
  clear hMI hfr hloop
  by_cases hlt:m.next < code.length
  rotate_left
  ·have hlt':¬ (m.next:Int) < (code.length:Int):=by omega
   have HL:Hid (loopL M code code.length (ms0 v) 0=(.ok m,d)):=by
    show _=_
    rw [HLP.out]
    cases F with
    | zero=>rfl
    | succ F=>unfold loopL;rw [if_neg hlt]
   have HX:=hide (execL_ok (v:=v) hlong HL.out)
   go_wp2_with fail
   go_region_held3 (fun w'=>w'.cell? ⟨xb,3,none⟩=some (.int .i64 (m.next:Int))∧w'.cell? ⟨xb,4,none⟩=some (.int .i64 (code.length:Int))) (first | go_keep) (fail)
   all_goals go_wp2_with fail
   all_goals refine (actions_any V.heap.size sb M m.st _ ((HMI.out.st).below (below_drew1 (Below.refl _ _)))).mono ?_
   all_goals rintro e w5 ⟨lv,rfl,hv5,hb5⟩
   all_goals obtain ⟨a5,k5,hlv⟩:=owns_len hv5.1
   all_goals subst hlv
   all_goals have hP5:w5.heap[w.heap.size+1]?=some (.cells #[.slice none 0 0] 33):=blk_below (show wr.drew.heap[w.heap.size+1]?=_ from HFR.out.block _ _ (blk_below HP.out HBV2.out) (PMc.not (by decide) (by decide) (by decide) (by decide))) hb5
   all_goals have hQ5:w5.heap[w.heap.size+1+1]?=some (.cells #[.nilIface] 90):=blk_below (show wr.drew.heap[w.heap.size+1+1]?=_ from HFR.out.block _ _ (blk_below HQ.out HBV2.out) (PMc.not (by decide) (by decide) (by decide) (by decide))) hb5
   all_goals have x1:w5.cell? ⟨w.heap.size+1,0,none⟩=some (.slice none 0 0):=blk_cell hP5 0
   all_goals have x2:w5.cell? ⟨w.heap.size+1+1,0,none⟩=some .nilIface:=blk_cell hQ5 0
   all_goals have z1:=blk_frozen hP5
   all_goals have z2:=blk_frozen hQ5
   all_goals have hwr:w.heap.size+3≤wr.heap.size:=by have h1:=HFR.out.size;have h2:=HBV2.out.size;omega
   all_goals have hBr:Below w.heap.size w w5:=(HB2.out.trans ((HFR.out.below (B:=w.heap.size) (fun k o h=>by have:=h.1;omega) HB2.out.size).trans (((below_drew1 (Below.refl wr.heap.size wr)).trans (hb5.mono (Nat.le_refl _))).mono (by omega))))
   all_goals have HBR:=hide hBr
   all_goals have HV5:=hide hv5
   all_goals clear hBr hv5 hP5 hQ5 hb5
   all_goals go_wp2
   all_goals refine leaves_cons (f:=116) (args:=#[.pointer (some ⟨w.heap.size+1,0,none⟩),.pointer (some ⟨w.heap.size+1+1,0,none⟩)]) (by simp) (by simp [go_sem]) ?_
   all_goals refine (xcatch_idle ⟨w.heap.size+1,0,none⟩ ⟨w.heap.size+1+1,0,none⟩ _).mono ?_
   all_goals rintro e u' w'' ⟨rfl,rfl,rfl⟩
   all_goals obtain ⟨W,hW,e0,e1,HFIN⟩:=ends_ok HX.out HBR.out HV5.out x1 x2 (show w.heap.size+1+1 < wr.drew.heap.size from by show _ < wr.heap.size;omega)
   all_goals rw [← hW]
   all_goals clear hW
   all_goals simp [Leaves,settle,results,Tryz.results80,go_sem,e0,e1]
   all_goals exact HFIN.out
  ·have hlt':(m.next:Int) < (code.length:Int):=by omega
   have z0:=blk_frozen HMI.out.blk
   go_wp2_with fail
   go_region_held3 (fun w'=>w'.cell? ⟨xb,3,none⟩=some (.int .i64 (m.next:Int))∧w'.cell? ⟨xb,4,none⟩=some (.int .i64 (code.length:Int))) (first | go_keep) (fail)
   all_goals go_wp2_with fail
   all_goals have c2:wr.cell? ⟨xb,2,none⟩=some (.int .i64 (m.now:Int)):=blk_cell HMI.out.blk 2
   all_goals have hnx8:(m.next:Int) < 400:=by omega
   all_goals have hnx0:(0:Int)≤(m.next:Int):=by omega
   all_goals refine wp_region_noPanic ?_
   all_goals go_region
   all_goals refine NoPanic.normal ?_
   all_goals obtain ⟨hm2,hf2⟩:=HMI.out.atNext hlt
   all_goals obtain ⟨W,hW⟩:∃ W,W=((wr.setCell ⟨xb,2,none⟩ (.int .i64 (m.next:Int))).setCell ⟨xb,3,none⟩ (.int .i64 ((m.next:Int)+1))).drew.drew:=⟨_,rfl⟩
   all_goals rw [← hW] at hm2 hf2
   all_goals rw [← hW]
   all_goals clear hW
   all_goals have hFW:Fr (PMc V.heap.size xb) w2 W:=HFR.out.trans hf2
   all_goals obtain ⟨g,cs,hla,hg,av,bv,a1,a2,a3,a4,a5,a6,a7,ho⟩:=((HC.out.below HB2.out).pm hFW).get' m.next hlt
   all_goals subst hla
   all_goals have e0:W.cell? ⟨g,m.next*7,none⟩=some (.int .i64 code[m.next].op):=(blk_cell hg _).trans a1
   all_goals have e1:W.cell? ⟨g,m.next*7+1,none⟩=some (.int .i64 code[m.next].n):=(blk_cell hg _).trans a2
   all_goals have e2:W.cell? ⟨g,m.next*7+2,none⟩=some (.int .i64 code[m.next].tag):=(blk_cell hg _).trans a3
   all_goals have e3:W.cell? ⟨g,m.next*7+3,none⟩=some (.bool code[m.next].oct):=(blk_cell hg _).trans a4
   all_goals have e4:W.cell? ⟨g,m.next*7+4,none⟩=some av:=(blk_cell hg _).trans a5
   all_goals have e5:W.cell? ⟨g,m.next*7+5,none⟩=some bv:=(blk_cell hg _).trans a6
   all_goals have e6:W.cell? ⟨g,m.next*7+6,none⟩=some (.int .i64 code[m.next].at_):=(blk_cell hg _).trans a7
   all_goals have en:W.cell? ⟨xb,2,none⟩=some (.int .i64 (m.next:Int)):=hm2.now
   all_goals have HM2:=hide hm2
   all_goals have HFW:=hide hFW
   all_goals have HO:=hide ho
   all_goals have HBW:=hide (HB2.out.trans (hFW.below (B:=w.heap.size) (fun k o h=>by have:=h.1;omega) HB2.out.size))
   all_goals clear hm2 hf2 hFW hg a1 a2 a3 a4 a5 a6 a7 c0 c2 c3 c4 z0
   all_goals go_wp2_with fail
   all_goals refine (do_any code[m.next] av bv V.heap.size xb sb M (atL m) code.length W HM2.out HO.out (HW2.out.fr HFW.out) (HT.out.below HBW.out)).mono ?_
   all_goals rintro e w6 ⟨hf6,h6⟩
   all_goals have hgd:code.getD m.next ins0=code[m.next]:=by simp [List.getD,hlt]
   all_goals cases hr:stepL M code.length code[m.next] (atL m) with
   | ok m'=>
    rw [hr] at h6
    obtain ⟨rfl,hm6⟩:=h6
    have hnn:=stepL_next hr (show m.next+1≤code.length by omega)
    have hn1:m.next+1≤m'.next:=hnn.1
    have HFIN:Hid (∃ F,code.length - m'.next≤F∧loopL M code code.length (ms0 v) 0=loopL M code F m' (d+1)):=by
     show ∃ F,_
     rw [HLP.out]
     cases F with
     | zero=>omega
     | succ F=>exact ⟨F,by omega,by rw [loopL,if_pos hlt,hgd,hr]⟩
    have HM6:=hide hm6
    have HF6:=hide (HFW.out.trans hf6)
    clear hm6 hf6 hnn hr
    go_wp2_with fail
    refine ⟨⟨m',d+1,rfl,HM6.out,HF6.out,by omega,HFIN.out⟩,?_⟩
    simp [intOf]
    omega
   | error f=>
    rw [hr] at h6
    obtain ⟨bb,hbb,rfl,hF6⟩:=h6
    have hfw:Fr (PMc V.heap.size xb) w2 w6:=HFW.out.trans hf6
    have hWz:w.heap.size+3≤W.heap.size:=by have h1:=HFW.out.size;have h2:=HBV2.out.size;omega
    have hW6:W.heap.size≤w6.heap.size:=hf6.size
    have hP6:w6.heap[w.heap.size+1]?=some (.cells #[.slice none 0 0] 33):=hfw.block _ _ (blk_below HP.out HBV2.out) (PMc.not (by decide) (by decide) (by decide) (by decide))
    have hQ6:w6.heap[w.heap.size+1+1]?=some (.cells #[.nilIface] 90):=hfw.block _ _ (blk_below HQ.out HBV2.out) (PMc.not (by decide) (by decide) (by decide) (by decide))
    have hB6:Below w.heap.size w w6:=HB2.out.trans (hfw.below (B:=w.heap.size) (fun k o h=>by have:=h.1;omega) HB2.out.size)
    have HR:=hide (execL_err (v:=v) (f:=f) (d:=d+1) hlong (by
     rw [HLP.out]
     cases F with
     | zero=>omega
     | succ F=>rw [loopL,if_pos hlt,hgd,hr]))
    have x1:w6.cell? ⟨w.heap.size+1,0,none⟩=some (.slice none 0 0):=blk_cell hP6 0
    have x2:w6.cell? ⟨w.heap.size+1+1,0,none⟩=some .nilIface:=blk_cell hQ6 0
    have z1:=blk_frozen hP6
    have z2:=blk_frozen hQ6
    refine leaves_cons (f:=116) (args:=#[.pointer (some ⟨w.heap.size+1,0,none⟩),.pointer (some ⟨w.heap.size+1+1,0,none⟩)]) (by simp) (by simp [go_sem]) ?_
    refine (xcatch_panicking (w.heap.size+1) (w.heap.size+1+1) _ _ ⟨bb,0,none⟩ [] _ x1 x2 z1 z2 (by omega)).mono ?_
    rintro e u' w'' ⟨rfl,rfl,lv,w7,hv7,hb7,rfl⟩
    obtain ⟨X,hX,y0,y1,hB,hA,hFF⟩:=ends_fault (f:=f) (bb:=bb) (P:=w.heap.size+1) hB6 (by omega) (by omega) hv7 hb7 (by omega) (by omega) (by omega) hF6 _ _ x1 x2
    rw [← hX]
    have HFIN:Hid (XPost (execL v code M) w (.returned (.tuple #[lv,.int .i64 ((d:Int)+1),.iface 140 (.pointer (some ⟨bb,0,none⟩))])) X):=by
     rw [HR.out]
     exact ⟨hB,Or.inr ⟨lv,f,_,rfl,rfl,hA,by omega,hFF⟩⟩
    obtain ⟨la,lk,hlv⟩:=owns_len hA.1
    subst hlv
    simp [Leaves,settle,results,Tryz.results80,go_sem,y0,y1]
    exact HFIN.out
theorem exec_any (v:Bool) (cv hv:Value) (code:List Ins) (M:Msg) (w:World) (hc:CodeV w cv code) (hh:HdrV w hv M.hdrs) (hb:SBd M (ss0 v)) (h1:1 < w.heap.size) (hm:∃ m,w.cell? ⟨1,0,none⟩=some (.int .i64 m)) (ht:Tab w) (hn:code.length≤1000000) :
  Calls Tryz.prog 80 #[.bool v,cv,msgV M hv] w (XPost (execL v code M) w):=by
 by_cases hl:400 < code.length
 ·exact exec_long v cv hv code M w hc hh hb h1 hm ht hn hl
 ·exact exec_short v cv hv code M w hc hh hb h1 hm ht hn hl
end Go.Proofs.YtbiclelojbfnbaaGreatDoor
