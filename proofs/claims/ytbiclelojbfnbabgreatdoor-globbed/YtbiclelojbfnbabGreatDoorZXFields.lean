import Derived.BigRegion
import Derived.Test.YtbiclelojbfnbabGreatDoorZCCode
import Derived.Test.YtbiclelojbfnbabGreatDoorZMExec
namespace Go.Proofs.YtbiclelojbfnbabGreatDoor
set_option linter.unusedVariables false
set_option linter.unusedSimpArgs false
set_option maxRecDepth 100000
set_option maxHeartbeats 4000000
section
open Go.RowKit
attribute [local go_sem ↓] Go.wp_at_zero Go.wp_at_succ
theorem Qtp {v:Bool} {code:List Ins} {M:Msg} {w w5:World} {lv x0 y0:Value} {l:List (Int×List UInt8)} {d B:Nat} (hx:execL v code M=(l,d,none)) (hB:Below w.heap.size w w5) (hv:ActsV w5 B lv l) (c0:w5.cell? ⟨w.heap.size+1,0,none⟩=some x0) (c1:w5.cell? ⟨w.heap.size+1+1,0,none⟩=some y0) (hlt:w.heap.size+1+1 < B) :
 ∃ W,W=(w5.setCell ⟨w.heap.size+1,0,none⟩ lv).setCell ⟨w.heap.size+1+1,0,none⟩ .nilIface∧W.cell? ⟨w.heap.size+1,0,none⟩=some lv∧W.cell? ⟨w.heap.size+1+1,0,none⟩=some .nilIface∧Hid (Qo0 (execL v code M) w (.returned (.tuple #[lv,.int .i64 (d:Int),.nilIface])) W):=by
 refine ⟨_,rfl,?_,?_,?_⟩
 ·rw [World.cell?_setCell_other _ _ _ _ (by simp),World.cell?_setCell_same _ _ _ c0]
 ·have d1':(w5.setCell ⟨w.heap.size+1,0,none⟩ lv).cell? ⟨w.heap.size+1+1,0,none⟩=some y0:=by rw [World.cell?_setCell_other _ _ _ _ (by simp)];exact c1
  exact World.cell?_setCell_same _ _ _ d1'
 ·rw [hx]
  exact ⟨(hB.setCell (show w.heap.size≤w.heap.size+1 by omega) _).setCell (show w.heap.size≤w.heap.size+1+1 by omega) _,Or.inl ⟨lv,rfl,rfl,((hv.set (by omega) _ _).set hlt _ _).lo (by omega)⟩⟩
theorem MI.atNext {w:World} {B xb sb:Nat} {M:Msg} {m:MS} {count:Nat} {kv:Value} (h:MI w B xb sb M m count kv) (hlt:m.next < count):MAt ((w.setCell ⟨xb,2,none⟩ (.int .i64 (m.next:Int))).setCell ⟨xb,3,none⟩ (.int .i64 ((m.next:Int)+1))).drew.drew B xb sb M (atL m) count∧Fr (PMc B xb) w ((w.setCell ⟨xb,2,none⟩ (.int .i64 (m.next:Int))).setCell ⟨xb,3,none⟩ (.int .i64 ((m.next:Int)+1))).drew.drew:=by
 have hcl:=h.cl
 have f1:=h.set 2 (.int .i64 (m.next:Int)) ⟨m.st,m.stack,m.next,m.next⟩ kv rfl rfl (Qbt h.stack h.row _ _) h.sl (show m.next≤400 by omega) h.nx
 have f2:=f1.1.set 3 (.int .i64 ((m.next:Int)+1)) (atL m) kv rfl rfl (Qbt f1.1.stack f1.1.row _ _) h.sl (show m.next≤400 by omega) (show m.next+1≤count by omega)
 obtain ⟨X,hX⟩:∃ X,X=(w.setCell ⟨xb,2,none⟩ (.int .i64 (m.next:Int))).setCell ⟨xb,3,none⟩ (.int .i64 ((m.next:Int)+1)):=⟨_,rfl⟩
 rw [← hX] at f2 ⊢
 have hb:Below X.heap.size X X.drew.drew:=Qar (Qar (Below.refl X.heap.size X))
 exact ⟨⟨_,f2.1.below hb⟩,((f1.2.trans f2.2).mono (fun _ _=>PMc.k)).trans (Fr.of_below hb)⟩
theorem QoN (v:Bool) (cv hv:Value) (code:List Ins) (M:Msg) (w:World) (hc:QeB w cv code) (hh:Qik w hv M.hdrs) (hb:SBd M (ss0 v)) (h1:1 < w.heap.size) (hm:∃ m,w.cell? ⟨1,0,none⟩=some (.int .i64 m)) (ht:Tab w) (hn:code.length≤1000000) (hlong:¬ 400 < code.length) :
 Calls Tryz.prog 39 #[.bool v,cv,Qhe M hv] w (Qo0 (execL v code M) w):=by
 have hmf:∀ (fn:Fn) (first cap:Array Value) (w:World),(Instr.makeFunc fn first cap).run Tryz.prog w=.ok (.func fn first cap) w:=fun _ _ _ _=>rfl
 obtain ⟨ca,cc,hcv⟩:=hc.len
 subst hcv
 obtain ⟨ha,hac,hhv⟩:=hh.len
 subst hhv
 unfold Qhe
 have hlong':¬ (400:Int) < (code.length:Int):=by omega
 have HC:=Qaa hc
 have HH:=Qaa hh
 have HBD:=Qaa hb
 have HT:=Qaa ht
 have HM1:=Qaa hm
 clear hc hh hb ht hm
 go_enter_defers Tryz.func39,Tryz.ntmps39
 go_wp2_with fail
 obtain ⟨V,hV⟩:∃ V,V=((w.alloc (.cells #[.string (Qag M.fr),.string (Qag M.to),.int .i64 M.size,.slice ha M.hdrs.length hac] 28)).alloc (.cells #[.slice none 0 0] 29)).alloc (.cells #[.nilIface] 61):=⟨_,rfl⟩
 have hzV:V.heap.size=w.heap.size+3:=by rw [hV];simp
 have hP:V.heap[w.heap.size+1]?=some (.cells #[.slice none 0 0] 29):=by rw [hV];exact Qad (Qaw (by simp))
 have hQ:V.heap[w.heap.size+1+1]?=some (.cells #[.nilIface] 61):=by rw [hV];exact Qaw (by simp)
 have hVB:Below w.heap.size w V:=by rw [hV];exact (((Below.refl _ _).alloc (Nat.le_refl _) _).alloc (by simp) _).alloc (by simp;omega) _
 rw [← hV]
 clear hV
 have HVB:=Qaa hVB
 have HP:=Qaa hP
 have HQ:=Qaa hQ
 refine (Qtc v M (.slice ha M.hdrs.length hac) V (HH.out.fr (P:=fun _ _=>False) (Fr.of_below hVB) (fun _ _ h=>h)) HBD.out (by omega) (by obtain ⟨m,hm⟩:=HM1.out;exact ⟨m,(hVB.cell (p:=⟨1,0,none⟩) (Qay hm)).trans hm⟩)).mono ?_
 rintro e w1 ⟨sb,rfl,hs,hb1⟩
 have HS:=Qaa hs
 have HB1:=Qaa hb1
 have hz1:=hb1.size
 clear hVB hP hQ hs hb1
 go_wp2_with fail
 refine (QqV _).mono ?_
 rintro e w2 ⟨rfl,hw2,hb2,hz2⟩
 obtain ⟨xb,hxb⟩:∃ xb,xb=w1.heap.size:=⟨_,rfl⟩
 have hz2':w2.heap.size=xb+7:=by rw [hz2,hxb];simp
 have hxs:(w1.alloc (.cells (Qeg sb (.slice none 0 0) 0 0 code.length) 142)).heap.size=xb+1:=by rw [hxb];simp
 have hw2':Qev w2 (xb+1):=by rw [← hxs];exact hw2
 have hb2':Below (w1.alloc (.cells (Qeg sb (.slice none 0 0) 0 0 code.length) 142)).heap.size (w1.alloc (.cells (Qeg sb (.slice none 0 0) 0 0 code.length) 142)) w2:=hb2
 have hblk:w2.heap[xb]?=some (.cells (Qeg sb (.slice none 0 0) 0 0 code.length) 142):=by rw [hxb];exact Qaq (QaB _ _) hb2'
 have hcl:code.length≤400:=by omega
 have hb12:Below w1.heap.size w1 w2:=((Below.refl _ _).alloc (Nat.le_refl _) _).trans (hb2'.mono (by simp))
 have HMA:Hid (MAt w2 V.heap.size xb sb M (ms0 v) code.length):=⟨.slice none 0 0,by omega,hblk,HS.out.below hb12,World.ownsRow_nil _ _ _ _,Nat.zero_le _,Nat.zero_le _,Nat.zero_le _,hcl,by omega⟩
 have HW2:=Qaa hw2'
 have HB2:=Qaa (HVB.out.trans ((HB1.out.trans (hb12.mono hz1)).mono (by omega)))
 have HBV2:=Qaa (HB1.out.trans (hb12.mono hz1))
 have hs2:w1.heap.size+6=xb+6:=by omega
 have hst:w1.heap.size+1+5=xb+6:=by omega
 have hxs3:∀ o:Obj,(w1.alloc o).heap.size=xb+1:=fun o=>by rw [hxb];simp
 rw [hxs3,← hxb]
 clear hw2 hb2 hb2' hblk hb12 hw2' hxs hz2
 have hxbV:V.heap.size≤xb:=by omega
 have hx2l:xb+7≤w2.heap.size:=by omega
 clear hxb hs2 hst hz2'
 go_wp2_with fail
 go_loopw [7] (fun dn wr=>∃ (m:MS) (d:Nat),dn=.int .i64 (d:Int)∧MAt wr V.heap.size xb sb M m code.length∧Fr (PMc V.heap.size xb) w2 wr∧d≤m.next∧∃ F,code.length - m.next≤F∧loopL M code code.length (ms0 v) 0=loopL M code F m d) (fun dn _=>code.length - (intOf dn).toNat)
 case atStart=>exact ⟨ms0 v,0,rfl,HMA.out,Fr.refl _ _,Nat.le_refl _,code.length,Nat.sub_le _ _,rfl⟩
 case round=>
  obtain ⟨m,d,rfl,hma,hfr,hdm,F,hF,hloop⟩:=hrel
  obtain ⟨kv,hMI⟩:=hma
  have HMI:=Qaa hMI
  have HFR:=Qaa hfr
  have HLP:=Qaa hloop
  have c0:wr.cell? ⟨xb,0,none⟩=some (.pointer (some ⟨sb,0,none⟩)):=Qab hMI.blk 0
  have c3:wr.cell? ⟨xb,3,none⟩=some (.int .i64 (m.next:Int)):=Qab hMI.blk 3
  have c4:wr.cell? ⟨xb,4,none⟩=some (.int .i64 (code.length:Int)):=Qab hMI.blk 4
  have hnx:=hMI.nx
  clear hMI hfr hloop
  by_cases hlt:m.next < code.length
  rotate_left
  ·have hlt':¬ (m.next:Int) < (code.length:Int):=by omega
   have HL:Hid (loopL M code code.length (ms0 v) 0=(.ok m,d)):=by
    show _=_
    rw [HLP.out]
    cases F with
    | zero=>rfl
    | succ F=>unfold loopL;rw [if_neg hlt]
   have HX:=Qaa (Qsq (v:=v) hlong HL.out)
   go_wp2_with fail
   go_region_held3 (fun w'=>w'.cell? ⟨xb,3,none⟩=some (.int .i64 (m.next:Int))∧w'.cell? ⟨xb,4,none⟩=some (.int .i64 (code.length:Int))) (first | go_keep) (fail)
   all_goals go_wp2_with fail
   all_goals refine (Qmy V.heap.size sb M m.st _ ((HMI.out.st).below (Qar (Below.refl _ _)))).mono ?_
   all_goals rintro e w5 ⟨lv,rfl,hv5,hb5⟩
   all_goals obtain ⟨a5,k5,hlv⟩:=QaN hv5.1
   all_goals subst hlv
   all_goals have hP5:w5.heap[w.heap.size+1]?=some (.cells #[.slice none 0 0] 29):=Qaq (show wr.drew.heap[w.heap.size+1]?=_ from HFR.out.block _ _ (Qaq HP.out HBV2.out) (PMc.not (by decide) (by decide) (by decide) (by decide))) hb5
   all_goals have hQ5:w5.heap[w.heap.size+1+1]?=some (.cells #[.nilIface] 61):=Qaq (show wr.drew.heap[w.heap.size+1+1]?=_ from HFR.out.block _ _ (Qaq HQ.out HBV2.out) (PMc.not (by decide) (by decide) (by decide) (by decide))) hb5
   all_goals have x1:w5.cell? ⟨w.heap.size+1,0,none⟩=some (.slice none 0 0):=Qab hP5 0
   all_goals have x2:w5.cell? ⟨w.heap.size+1+1,0,none⟩=some .nilIface:=Qab hQ5 0
   all_goals have z1:=Qam hP5
   all_goals have z2:=Qam hQ5
   all_goals have hwr:w.heap.size+3≤wr.heap.size:=by have h1:=HFR.out.size;have h2:=HBV2.out.size;omega
   all_goals have hBr:Below w.heap.size w w5:=(HB2.out.trans ((HFR.out.below (B:=w.heap.size) (fun k o h=>by have:=h.1;omega) HB2.out.size).trans (((Qar (Below.refl wr.heap.size wr)).trans (hb5.mono (Nat.le_refl _))).mono (by omega))))
   all_goals have HBR:=Qaa hBr
   all_goals have HV5:=Qaa hv5
   all_goals clear hBr hv5 hP5 hQ5 hb5
   all_goals go_wp2
   all_goals refine leaves_cons (f:=62) (args:=#[.pointer (some ⟨w.heap.size+1,0,none⟩),.pointer (some ⟨w.heap.size+1+1,0,none⟩)]) (by simp) (by simp [go_sem]) ?_
   all_goals refine (Qm5 ⟨w.heap.size+1,0,none⟩ ⟨w.heap.size+1+1,0,none⟩ _).mono ?_
   all_goals rintro e u' w'' ⟨rfl,rfl,rfl⟩
   all_goals obtain ⟨W,hW,e0,e1,HFIN⟩:=Qtp HX.out HBR.out HV5.out x1 x2 (show w.heap.size+1+1 < wr.drew.heap.size from by show _ < wr.heap.size;omega)
   all_goals rw [← hW]
   all_goals clear hW
   all_goals simp [Leaves,settle,results,Tryz.results39,go_sem,e0,e1]
   all_goals exact HFIN.out
  ·have hlt':(m.next:Int) < (code.length:Int):=by omega
   have z0:=Qam HMI.out.blk
   go_wp2_with fail
   go_region_held3 (fun w'=>w'.cell? ⟨xb,3,none⟩=some (.int .i64 (m.next:Int))∧w'.cell? ⟨xb,4,none⟩=some (.int .i64 (code.length:Int))) (first | go_keep) (fail)
   all_goals go_wp2_with fail
   all_goals have c2:wr.cell? ⟨xb,2,none⟩=some (.int .i64 (m.now:Int)):=Qab HMI.out.blk 2
   all_goals have hnx8:(m.next:Int) < 400:=by omega
   all_goals have hnx0:(0:Int)≤(m.next:Int):=by omega
   all_goals refine wp_region_noPanic ?_
   all_goals go_region
   all_goals refine NoPanic.normal ?_
   all_goals obtain ⟨hm2,hf2⟩:=HMI.out.atNext hlt
   all_goals obtain ⟨W,hW⟩:∃ W,W=((wr.setCell ⟨xb,2,none⟩ (.int .i64 (m.next:Int))).setCell ⟨xb,3,none⟩ (.int .i64 ((m.next:Int)+1))).drew.drew:=⟨_,rfl⟩
   all_goals rw [← hW] at hm2 hf2
   all_goals rw [← hW]
   all_goals clear hW
   all_goals have hFW:Fr (PMc V.heap.size xb) w2 W:=HFR.out.trans hf2
   all_goals obtain ⟨g,cs,hla,hg,av,bv,a1,a2,a3,a4,a5,a6,a7,ho⟩:=((HC.out.below HB2.out).pm hFW).get' m.next hlt
   all_goals subst hla
   all_goals have e0:W.cell? ⟨g,m.next*7,none⟩=some (.int .i64 code[m.next].op):=(Qab hg _).trans a1
   all_goals have e1:W.cell? ⟨g,m.next*7+1,none⟩=some (.int .i64 code[m.next].n):=(Qab hg _).trans a2
   all_goals have e2:W.cell? ⟨g,m.next*7+2,none⟩=some (.int .i64 code[m.next].tag):=(Qab hg _).trans a3
   all_goals have e3:W.cell? ⟨g,m.next*7+3,none⟩=some (.bool code[m.next].oct):=(Qab hg _).trans a4
   all_goals have e4:W.cell? ⟨g,m.next*7+4,none⟩=some av:=(Qab hg _).trans a5
   all_goals have e5:W.cell? ⟨g,m.next*7+5,none⟩=some bv:=(Qab hg _).trans a6
   all_goals have e6:W.cell? ⟨g,m.next*7+6,none⟩=some (.int .i64 code[m.next].at_):=(Qab hg _).trans a7
   all_goals have en:W.cell? ⟨xb,2,none⟩=some (.int .i64 (m.next:Int)):=hm2.now
   all_goals have HM2:=Qaa hm2
   all_goals have HFW:=Qaa hFW
   all_goals have HO:=Qaa ho
   all_goals have HBW:=Qaa (HB2.out.trans (hFW.below (B:=w.heap.size) (fun k o h=>by have:=h.1;omega) HB2.out.size))
   all_goals clear hm2 hf2 hFW hg a1 a2 a3 a4 a5 a6 a7 c0 c2 c3 c4 z0
   all_goals go_wp2_with fail
   all_goals refine (Qt5 code[m.next] av bv V.heap.size xb sb M (atL m) code.length W HM2.out HO.out (HW2.out.fr HFW.out) (HT.out.below HBW.out)).mono ?_
   all_goals rintro e w6 ⟨hf6,h6⟩
   all_goals have hgd:code.getD m.next QpY=code[m.next]:=by simp [List.getD,hlt]
   all_goals cases hr:stepL M code.length code[m.next] (atL m) with
   | ok m'=>
    rw [hr] at h6
    obtain ⟨rfl,hm6⟩:=h6
    have hnn:=Qo3 hr (show m.next+1≤code.length by omega)
    have hn1:m.next+1≤m'.next:=hnn.1
    have HFIN:Hid (∃ F,code.length - m'.next≤F∧loopL M code code.length (ms0 v) 0=loopL M code F m' (d+1)):=by
     show ∃ F,_
     rw [HLP.out]
     cases F with
     | zero=>omega
     | succ F=>exact ⟨F,by omega,by rw [loopL,if_pos hlt,hgd,hr]⟩
    have HM6:=Qaa hm6
    have HF6:=Qaa (HFW.out.trans hf6)
    clear hm6 hf6 hnn hr
    go_wp2_with fail
    refine ⟨⟨m',d+1,rfl,HM6.out,HF6.out,by omega,HFIN.out⟩,?_⟩
    simp [intOf]
    omega
   | error f=>
    rw [hr] at h6
    obtain ⟨bb,hbb,rfl,hF6⟩:=h6
    have hfw:Fr (PMc V.heap.size xb) w2 w6:=HFW.out.trans hf6
    have hWz:w.heap.size+3≤W.heap.size:=by have h1:=HFW.out.size;have h2:=HBV2.out.size;omega
    have hW6:W.heap.size≤w6.heap.size:=hf6.size
    have hP6:w6.heap[w.heap.size+1]?=some (.cells #[.slice none 0 0] 29):=hfw.block _ _ (Qaq HP.out HBV2.out) (PMc.not (by decide) (by decide) (by decide) (by decide))
    have hQ6:w6.heap[w.heap.size+1+1]?=some (.cells #[.nilIface] 61):=hfw.block _ _ (Qaq HQ.out HBV2.out) (PMc.not (by decide) (by decide) (by decide) (by decide))
    have hB6:Below w.heap.size w w6:=HB2.out.trans (hfw.below (B:=w.heap.size) (fun k o h=>by have:=h.1;omega) HB2.out.size)
    have HR:=Qaa (Qqk (v:=v) (f:=f) (d:=d+1) hlong (by
     rw [HLP.out]
     cases F with
     | zero=>omega
     | succ F=>rw [loopL,if_pos hlt,hgd,hr]))
    have x1:w6.cell? ⟨w.heap.size+1,0,none⟩=some (.slice none 0 0):=Qab hP6 0
    have x2:w6.cell? ⟨w.heap.size+1+1,0,none⟩=some .nilIface:=Qab hQ6 0
    have z1:=Qam hP6
    have z2:=Qam hQ6
    refine leaves_cons (f:=62) (args:=#[.pointer (some ⟨w.heap.size+1,0,none⟩),.pointer (some ⟨w.heap.size+1+1,0,none⟩)]) (by simp) (by simp [go_sem]) ?_
    refine (Qet (w.heap.size+1) (w.heap.size+1+1) _ _ ⟨bb,0,none⟩ [] _ x1 x2 z1 z2 (by omega)).mono ?_
    rintro e u' w'' ⟨rfl,rfl,lv,w7,hv7,hb7,rfl⟩
    obtain ⟨X,hX,y0,y1,hB,hA,hFF⟩:=Qjo (f:=f) (bb:=bb) (P:=w.heap.size+1) hB6 (by omega) (by omega) hv7 hb7 (by omega) (by omega) (by omega) hF6 _ _ x1 x2
    rw [← hX]
    have HFIN:Hid (Qo0 (execL v code M) w (.returned (.tuple #[lv,.int .i64 ((d:Int)+1),.iface 76 (.pointer (some ⟨bb,0,none⟩))])) X):=by
     rw [HR.out]
     exact ⟨hB,Or.inr ⟨lv,f,_,rfl,rfl,hA,by omega,hFF⟩⟩
    obtain ⟨la,lk,hlv⟩:=QaN hA.1
    subst hlv
    simp [Leaves,settle,results,Tryz.results39,go_sem,y0,y1]
    exact HFIN.out
theorem Qsd (v:Bool) (cv hv:Value) (code:List Ins) (M:Msg) (w:World) (hc:QeB w cv code) (hh:Qik w hv M.hdrs) (hb:SBd M (ss0 v)) (h1:1 < w.heap.size) (hm:∃ m,w.cell? ⟨1,0,none⟩=some (.int .i64 m)) (ht:Tab w) (hn:code.length≤1000000) :
 Calls Tryz.prog 39 #[.bool v,cv,Qhe M hv] w (Qo0 (execL v code M) w):=by
 by_cases hl:400 < code.length
 ·exact Qry v cv hv code M w hc hh hb h1 hm ht hn hl
 ·exact QoN v cv hv code M w hc hh hb h1 hm ht hn hl
end
section
open Go.RowKit
attribute [local go_sem ↓] Go.wp_at_zero Go.wp_at_succ
theorem Qpz.codeV {w:World} {B:Nat} {cv:Value} {code:List Ins} (h:Qpz w B cv code):QeB w cv code:=by
 obtain ⟨ps,rfl,ho,hk,hn⟩:=h
 by_cases h0:ps=[]
 ·subst h0;exact Or.inl ⟨hn rfl,rfl⟩
 ·rcases ho.2 with ⟨_,h2⟩ | ⟨g,cap,cur,hv,hg,hb,hc,_,hs,ht⟩
  ·exact absurd (List.eq_nil_of_length_eq_zero h2) h0
  ·refine Or.inr ⟨g,cap,cur,by rw [List.length_map];exact hv,hb,fun j hj=>?_⟩
   rw [List.length_map] at hj
   have hcell:∀ k,k < 7→cur[j*7+k]?=(Qgt ps[j])[k]?:=fun k hk=>by
    rw [← Qia ps j hj k hk,← ht,List.getElem?_take_of_lt (by omega)];simp
   have hi:(ps.map Prod.fst)[j]'(by simpa using hj)=ps[j].1:=by simp
   rw [hi]
   exact ⟨ps[j].2.1,ps[j].2.2,hcell 0 (by omega),hcell 1 (by omega),hcell 2 (by omega),hcell 3 (by omega),hcell 4 (by omega),hcell 5 (by omega),hcell 6 (by omega),hk _ (List.getElem_mem hj)⟩
theorem Qrp (g:Nat) (y:List (List UInt8)×List (QcX 7)) (rv lv:Value) (w:World) (X:Nat→Prop) (h:w.heap[g]?=some (.cells #[rv,lv] 96)) (hr:Qkw X y.1 w rv) (hb:blX X (Qio 7) y.2 w lv) (ha:∀ c∈y.2,Qmf (WfT y.1) (WfC y.1) 7 c) (hl:(Qh4 y).length≤100000) :
 Calls Tryz.prog 40 #[.pointer (some ⟨g,0,none⟩)] w fun e w'=>∃ cv,e=.returned cv∧Qpz w' w.heap.size cv (Qdm y.2)∧Below w.heap.size w w':=by
 obtain ⟨a1,n1,c1,rfl⟩:∃ a n c,rv=.slice a n c:=by
  rcases hr with ⟨_,rfl⟩ | ⟨g',c',rfl,_⟩
  ·exact ⟨_,_,_,rfl⟩
  ·exact ⟨_,_,_,rfl⟩
 obtain ⟨a2,n2,c2,rfl⟩:=hb.form
 have H:=Qaa h
 have HBB:=Qaa hb
 clear h hr hb
 go_enter Tryz.func40,Tryz.ntmps40
 go_wp2_with fail
 refine (QnS g a1 a2 n1 c1 n2 c2 w H.out).mono ?_
 rintro e w1 ⟨rfl,hB1⟩
 have HB1:=Qaa hB1
 have h1s:=hB1.size
 have HBB1:=Qaa (HBB.out.keep (Qa3 7) (fun k _ hk=>hB1.block k hk))
 clear hB1
 go_wp2_with fail
 refine (Quo y _ _ X _ ⟨_,_,_,rfl⟩ HBB1.out ha hl).mono ?_
 rintro e w2 ⟨cv,rfl,hc2,hB2⟩
 have HB2:=Qaa (HB1.out.trans (hB2.mono h1s))
 obtain ⟨a5,k5,hv5⟩:=hc2.len
 subst hv5
 have HC2:=Qaa hc2
 clear hB2 hc2
 go_wp2
 go_ret
 obtain ⟨ps,e1,e2,e3,e4⟩:=HC2.out
 exact ⟨_,rfl,⟨ps,e1,Qig e2 h1s,e3,e4⟩,HB2.out⟩
def varsB (req:List (List UInt8)):Bool:=Lib.containsS (req.map Qag) (Qag Qbc)
theorem Qre (a b:Value) (W:World):(Instr.field 92 (.agg #[a,b]) 0).run Tryz.prog W=.ok a W:=by kernel_rfl
def Qmh (r:List (Int×List UInt8)×Nat×Option FZ) (w:World) (e:Ending) (w':World):Prop:=
 Below w.heap.size w w'∧((∃ lv,r.2.2=none∧e=.returned (.tuple #[lv,.nilIface])∧ActsV w' w.heap.size lv r.1)∨
  (∃ lv f bb,r.2.2=some f∧e=.returned (.tuple #[lv,.iface 76 (.pointer (some ⟨bb,0,none⟩))])∧ActsV w' w.heap.size lv r.1∧w.heap.size≤bb∧w'.heap[bb]?=some (.cells #[.int .i64 f.1,.int .i64 f.2] 81)))
theorem Qkl (X:Nat→Prop) (req:List (List UInt8)) (rv:Value) (w:World) (hr:Qkw X req w rv) (hl:req.length≤1000000) :
 Calls Tryz.prog 37 #[rv,.string (Qag Qbc)] w fun e w'=>e=.returned (.bool (varsB req))∧w'=w:=by
 rcases hr with ⟨h0,rfl⟩ | ⟨g,c,rfl,_,ht,hne⟩
 ·subst h0
  exact Tryz.slices_Contains_string_empty none 0 (Qag Qbc) w
 ·have:=Tryz.slices_Contains_string g 0 req.length c (req.map Qag) (Qag Qbc) w (by simp) (by omega) (fun j hj=>by
   rw [List.length_map] at hj
   rw [Nat.zero_add,ht j hj,List.getD_eq_getElem?_getD,List.getD_eq_getElem?_getD,List.getElem?_map,List.getElem?_eq_getElem hj]
   rfl)
  rw [List.take_of_length_le (by simp)] at this
  exact this
theorem QrO (g:Nat) (y:List (List UInt8)×List (QcX 7)) (rv lv hv:Value) (M:Msg) (w:World) (X:Nat→Prop) (h:w.heap[g]?=some (.cells #[rv,lv] 96)) (hr:Qkw X y.1 w rv) (hb:blX X (Qio 7) y.2 w lv) (ha:∀ c∈y.2,Qmf (WfT y.1) (WfC y.1) 7 c) (hl:(Qh4 y).length≤100000) (hrl:y.1.length≤1000000)
 (hh:Qik w hv M.hdrs) (hbd:∀ v,SBd M (ss0 v)) (h1:1 < w.heap.size) (hm:∃ m,w.cell? ⟨1,0,none⟩=some (.int .i64 m)) (ht:Tab w) :
 Calls Tryz.prog 25 #[.pointer (some ⟨g,0,none⟩),Qhe M hv] w (Qmh (execL (varsB y.1) (Qdm y.2) M) w):=by
 obtain ⟨a1,n1,c1,rfl⟩:∃ a n c,rv=.slice a n c:=by
  rcases hr with ⟨_,rfl⟩ | ⟨g',c',rfl,_⟩
  ·exact ⟨_,_,_,rfl⟩
  ·exact ⟨_,_,_,rfl⟩
 obtain ⟨a2,n2,c2,rfl⟩:=hb.form
 obtain ⟨ah,ch,rfl⟩:=hh.len
 have hcl:(Qdm y.2).length≤1000000:=by have:=QnY ha;omega
 have H:=Qaa h
 have HR:=Qaa hr
 have HBB:=Qaa hb
 have HHD:=Qaa hh
 have HT:=Qaa ht
 have HM:=Qaa hm
 have HBD:=Qaa hbd
 have HCL:=Qaa hcl
 clear h hr hb hh ht hm hbd hcl
 unfold Qhe
 have hft:=Qre
 go_enter Tryz.func25,Tryz.ntmps25
 obtain ⟨W0,hW0⟩:∃ W0,W0=w.alloc (.cells #[.string (Qag M.fr),.string (Qag M.to),.int .i64 M.size,.slice ah M.hdrs.length ch] 28):=⟨_,rfl⟩
 have HB0:Hid (Below w.heap.size w W0):=by show Below _ _ _;rw [hW0];exact (Below.refl _ _).alloc (Nat.le_refl _) _
 have HM0:Hid (W0.heap[w.heap.size]?=some (.cells #[.string (Qag M.fr),.string (Qag M.to),.int .i64 M.size,.slice ah M.hdrs.length ch] 28)):=by show _=_;rw [hW0];exact QaB _ _
 have h0s:=HB0.out.size
 have HWW:=Qaa hW0
 clear hW0
 go_wp2_with (first | (go_at_call 37;refine (Qkl X y.1 _ _ HR1.out hrl).mono ?_;rintro e w2 ⟨rfl,hww⟩;rw [hww];clear hww;skip) | (go_at_call 38;rw [← HWW.out];refine (QnS g a1 a2 n1 c1 n2 c2 W0 (Qaq H.out HB0.out)).mono ?_;rintro e w1 ⟨rfl,hB1⟩;have HB1:=Qaa (HB0.out.trans (hB1.mono h0s));have HM1:=Qaa (Qaq HM0.out hB1);have HR1:=Qaa (HR.out.keep (w':=w1) (fun k _ hk=>HB1.out.block k hk));clear hB1;skip))
 have c0:w1.cell? ⟨w.heap.size,0,none⟩=some (.string (Qag M.fr)):=Qab HM1.out 0
 have c1:w1.cell? ⟨w.heap.size,1,none⟩=some (.string (Qag M.to)):=Qab HM1.out 1
 have c2:w1.cell? ⟨w.heap.size,2,none⟩=some (.int .i64 M.size):=Qab HM1.out 2
 have c3:w1.cell? ⟨w.heap.size,3,none⟩=some (.slice ah M.hdrs.length ch):=Qab HM1.out 3
 have h1l:=QaM HM1.out
 have h1s:=HB1.out.size
 obtain ⟨vb,hvb⟩:∃ vb,varsB y.1=vb:=⟨_,rfl⟩
 rw [hvb]
 have HVB:=Qaa hvb
 clear hvb HWW
 go_region_held3 (fun w'=>w'.cell? ⟨w.heap.size,0,none⟩=some (.string (Qag M.fr))∧w'.cell? ⟨w.heap.size,1,none⟩=some (.string (Qag M.to))∧w'.cell? ⟨w.heap.size,2,none⟩=some (.int .i64 M.size)∧w'.cell? ⟨w.heap.size,3,none⟩=some (.slice ah M.hdrs.length ch)) (first | go_keep | exact ⟨Qab HM3.out 0,Qab HM3.out 1,Qab HM3.out 2,Qab HM3.out 3⟩) (first
  | (go_at_call 40;refine (Qrp g y _ _ _ X (Qaq (w:=w) (w':=w1.drew) H.out HB1.out.drew) (HR.out.keep (w':=w1.drew) (fun k _ hk=>HB1.out.block k hk)) (HBB.out.keep (Qa3 7) (w':=w1.drew) (fun k _ hk=>HB1.out.block k hk)) ha hl).mono ?_;rintro e w2 ⟨cv,rfl,hc2,hB2⟩;obtain ⟨a5,k5,hv5⟩:=hc2.len;subst hv5;have HC2:=Qaa hc2;have HB2:=Qaa (HB1.out.drew.trans (hB2.mono h1s));have HM2:=Qaa (Qaq (w:=w1.drew) HM1.out hB2);have d0:w2.cell? ⟨w.heap.size,0,none⟩=some (.string (Qag M.fr)):=Qab HM2.out 0;have d1:w2.cell? ⟨w.heap.size,1,none⟩=some (.string (Qag M.to)):=Qab HM2.out 1;have d2:w2.cell? ⟨w.heap.size,2,none⟩=some (.int .i64 M.size):=Qab HM2.out 2;have d3:w2.cell? ⟨w.heap.size,3,none⟩=some (.slice ah M.hdrs.length ch):=Qab HM2.out 3;have h2s:=HB2.out.size;clear hc2 hB2;skip)
  | (go_at_call 39;refine (Qsd vb _ _ (Qdm y.2) M w2 HC2.out.codeV (HHD.out.fr (P:=fun _ _=>False) (Fr.of_below HB2.out) (fun _ _ h=>h)) (HBD.out _) (by omega) (by obtain ⟨m,hm⟩:=HM.out;exact ⟨m,(HB2.out.cell (p:=⟨1,0,none⟩) h1).trans hm⟩) (HT.out.below HB2.out) HCL.out).mono ?_;rintro e w3 ⟨hB3,hX⟩;have HB3:=Qaa (HB2.out.trans (hB3.mono h2s));have HM3:=Qaa (Qaq HM2.out hB3);clear hB3;have hX':∃ lv' ev',e=.returned (.tuple #[lv',.int .i64 ((execL vb (Qdm y.2) M).2.1:Int),ev']):=(by rcases hX with ⟨lv,_,he,_⟩ | ⟨lv,f,bb,_,he,_⟩ <;> exact ⟨_,_,he⟩);have HX:=Qaa hX;obtain ⟨lv',ev',he⟩:=hX';subst he;clear hX;skip))
 all_goals (
  have HFIN:Hid (Qmh (execL vb (Qdm y.2) M) w (.returned (.tuple #[lv',ev'])) w3):=by
   refine ⟨HB3.out,?_⟩
   rcases HX.out with ⟨lv,h1,he,h3⟩ | ⟨lv,f,bb,h1,he,h3,h4,h5⟩
   ·injection he with he
    injection he with he
    simp at he
    obtain ⟨rfl,rfl⟩:=he
    exact Or.inl ⟨_,h1,rfl,h3.lo h2s⟩
   ·injection he with he
    injection he with he
    simp at he
    obtain ⟨rfl,rfl⟩:=he
    exact Or.inr ⟨_,f,bb,h1,rfl,h3.lo h2s,Nat.le_trans h2s h4,h5⟩
  obtain ⟨la3,lc3,hl3⟩:∃ a c,lv'=.slice a (execL vb (Qdm y.2) M).1.length c:=by
   rcases HX.out with ⟨lv,h1,he,h3⟩ | ⟨lv,f,bb,h1,he,h3,h4,h5⟩
   ·injection he with he
    injection he with he
    simp at he
    obtain ⟨rfl,rfl⟩:=he
    exact QaN h3.1
   ·injection he with he
    injection he with he
    simp at he
    obtain ⟨rfl,rfl⟩:=he
    exact QaN h3.1
  clear HX
  subst hl3
  go_wp2
  refine bodyPost_ret (v:=.tuple #[_,ev']) (by simp [results,Tryz.results25,go_sem];rfl) rfl ?_
  rw [HVB.out]
  exact HFIN.out)
end
section
open Go.RowKit
attribute [local go_sem ↓] Go.wp_at_zero Go.wp_at_succ
def hcells (l:List (List UInt8×List UInt8)):List Value:=l.flatMap fun a=>[.string (Qag a.1),.string (Qag a.2)]
theorem QfV (l:List (List UInt8×List UInt8)):(hcells l).length=l.length*2:=by
 induction l with
 | nil=>rfl
 | cons p r ih=>simp only [hcells,List.flatMap_cons,List.length_append,List.length_cons,List.length_nil] at ih ⊢;omega
theorem QlZ (l:List (List UInt8×List UInt8)) (j:Nat) (hj:j < l.length):(hcells l)[j*2]?=some (.string (Qag l[j].1))∧(hcells l)[j*2+1]?=some (.string (Qag l[j].2)):=by
 induction l generalizing j with
 | nil=>exact absurd hj (Nat.not_lt_zero _)
 | cons p r ih=>
  cases j with
  | zero=>exact ⟨rfl,rfl⟩
  | succ j=>
   have:=ih j (by simpa using hj)
   have e:hcells (p :: r)=.string (Qag p.1) :: .string (Qag p.2) :: hcells r:=rfl
   have e1:(j+1)*2=j*2+1+1:=by omega
   have e2:(j+1)*2+1=(j*2+1)+1+1:=by omega
   rw [e,e1,List.getElem?_cons_succ,List.getElem?_cons_succ,List.getElem?_cons_succ,List.getElem?_cons_succ]
   exact this
theorem Qov (l:List (List UInt8×List UInt8)):∀ u∈hcells l,u.oneCell'=true:=by
 intro u hu
 unfold hcells at hu
 obtain ⟨a,_,ha⟩:=List.mem_flatMap.1 hu
 simp at ha
 rcases ha with rfl | rfl <;> rfl
theorem Qph {l:List (List UInt8×List UInt8)} {j:Nat} {u:Value} (h:(hcells l)[j]?=some u):∃ k,∃ hk:k < l.length,(j=k*2∧u=.string (Qag l[k].1))∨(j=k*2+1∧u=.string (Qag l[k].2)):=by
 have hj:j < l.length*2:=by
  rw [← QfV]
  exact (List.getElem?_eq_some_iff.1 h).1
 have hk:j / 2 < l.length:=by omega
 have:=QlZ l (j / 2) hk
 by_cases e:j % 2=0
 ·have e1:j=j / 2*2:=by omega
  refine ⟨j / 2,hk,Or.inl ⟨e1,?_⟩⟩
  rw [e1,this.1] at h
  exact (Option.some.inj h).symm
 ·have e1:j=j / 2*2+1:=by omega
  refine ⟨j / 2,hk,Or.inr ⟨e1,?_⟩⟩
  rw [e1,this.2] at h
  exact (Option.some.inj h).symm
theorem Tryz.infoHeader:(Tryz.prog.info? 25).map (fun i=>(i.zero,i.size,i.bytes))=some (some (.agg #[.string ⟨#[]⟩,.string ⟨#[]⟩]),2,32):=by kernel_rfl
def QqC (w:World) (B:Nat) (hv:Value) (hs:List (List UInt8×List UInt8)):Prop:=w.ownsRow B 25 2 hv hs.length (hcells hs)
theorem QqC.hdrV {w:World} {B:Nat} {hv:Value} {hs:List (List UInt8×List UInt8)} (h:QqC w B hv hs):Qik w hv hs:=by
 rcases h.2 with ⟨h1,h2⟩ | ⟨g,cap,cur,hv',hg,hb,hc,_,hs',ht⟩
 ·exact Or.inl ⟨h1,List.eq_nil_of_length_eq_zero h2⟩
 ·refine Or.inr ⟨g,cap,cur,hv',hb,fun j hj=>?_⟩
  obtain ⟨a1,a2⟩:=QlZ hs j hj
  rw [← ht,List.getElem?_take_of_lt (by omega)] at a1 a2
  exact ⟨by rw [← a1];simp,by rw [← a2];simp⟩
def QrX (w:World) (v:Value) (hs:List (List UInt8×List UInt8)):Prop:=
 ∃ a c,v=.slice a hs.length c∧(hs≠[]→∃ b off,a=some ⟨b,off,none⟩∧∀ j (hj:j < hs.length),w.cell? ⟨b,off+j*2,none⟩=some (.string (Qag hs[j].1))∧w.cell? ⟨b,off+j*2+1,none⟩=some (.string (Qag hs[j].2)))
theorem QrX.len {w:World} {v:Value} {hs:List (List UInt8×List UInt8)} (h:QrX w v hs):∃ a c,v=.slice a hs.length c:=by
 obtain ⟨a,c,h,_⟩:=h
 exact ⟨a,c,h⟩
theorem QrX.below {w w':World} {v:Value} {hs:List (List UInt8×List UInt8)} (h:QrX w v hs) (hb:Below w.heap.size w w'):QrX w' v hs:=by
 obtain ⟨a,c,h,hc⟩:=h
 refine ⟨a,c,h,fun hne=>?_⟩
 obtain ⟨b,off,rfl,hcc⟩:=hc hne
 refine ⟨b,off,rfl,fun j hj=>?_⟩
 obtain ⟨h1,h2⟩:=hcc j hj
 exact ⟨(hb.cell (Qay h1)).trans h1,(hb.cell (Qay h2)).trans h2⟩
theorem Qik.g {w:World} {v:Value} {hs:List (List UInt8×List UInt8)} (h:Qik w v hs):QrX w v hs:=by
 obtain ⟨a,c,rfl⟩:=h.len
 refine ⟨a,c,rfl,fun hne=>?_⟩
 obtain ⟨g,c',hv,_⟩:=h.cells 0 (List.length_pos_iff.2 hne)
 injection hv with hv
 refine ⟨g,0,hv,fun j hj=>?_⟩
 obtain ⟨g2,c2,hv2,_,h1,h2⟩:=h.cells j hj
 injection hv2 with hv2
 rw [hv] at hv2
 injection hv2 with hv2
 injection hv2 with hv2
 subst hv2
 rw [Nat.zero_add]
 exact ⟨h1,h2⟩
theorem Qni (M:Msg) (g off c:Nat) (w:World) (hh:∀ j (hj:j < M.hdrs.length),w.cell? ⟨g,off+j*2,none⟩=some (.string (Qag M.hdrs[j].1))∧w.cell? ⟨g,off+j*2+1,none⟩=some (.string (Qag M.hdrs[j].2))) (hne:M.hdrs≠[]) (hl:M.hdrs.length≤100000) :
 Calls Tryz.prog 24 #[Qhe M (.slice (some ⟨g,off,none⟩) M.hdrs.length c)] w fun e w'=>∃ a k,e=.returned (Qhe M (.slice a M.hdrs.length k))∧QqC w' w.heap.size (.slice a M.hdrs.length k) M.hdrs∧Below w.heap.size w w':=by
 obtain ⟨i0,hi,hz0,hz1,hz2⟩:=info_parts Tryz.infoHeader
 have hgl:g < w.heap.size:=Qay (hh 0 (List.length_pos_iff.2 hne)).1
 have HC:Hid (∀ j u,(hcells M.hdrs)[j]?=some u→w.cell? ⟨g,off+j,none⟩=some u):=fun j u hj=>by
  obtain ⟨k,hk,⟨rfl,rfl⟩ | ⟨rfl,rfl⟩⟩:=Qph hj
  ·exact (hh k hk).1
  ·exact (hh k hk).2
 clear hh
 have HW:Hid (∀ j u,(hcells M.hdrs)[j]?=some u→((w.alloc (.cells #[.string (Qag M.fr),.string (Qag M.to),.int .i64 M.size,.slice (some ⟨g,off,none⟩) M.hdrs.length c] 28)).alloc (.cells #[.string ⟨#[]⟩,.string ⟨#[]⟩,.int .i64 0,.slice none 0 0] 28)).cell? ((⟨g,off,none⟩:Addr).add j)=some u):=fun j u hj=>by
  rw [Addr.add_lit,World.cell?_of_block (a:=⟨g,off+j,none⟩) (w:=w) ((Below.heap_alloc _ _ _ (by simp;omega)).trans (Below.heap_alloc _ _ _ hgl))]
  exact HC.out j u hj
 have HP:Hid (((w.alloc (.cells #[.string (Qag M.fr),.string (Qag M.to),.int .i64 M.size,.slice (some ⟨g,off,none⟩) M.hdrs.length c] 28)).alloc (.cells #[.string ⟨#[]⟩,.string ⟨#[]⟩,.int .i64 0,.slice none 0 0] 28)).heap[w.heap.size]?=some (.cells #[.string (Qag M.fr),.string (Qag M.to),.int .i64 M.size,.slice (some ⟨g,off,none⟩) M.hdrs.length c] 28)):=Qad (QaB _ _)
 have HQ:Hid (((w.alloc (.cells #[.string (Qag M.fr),.string (Qag M.to),.int .i64 M.size,.slice (some ⟨g,off,none⟩) M.hdrs.length c] 28)).alloc (.cells #[.string ⟨#[]⟩,.string ⟨#[]⟩,.int .i64 0,.slice none 0 0] 28)).heap[w.heap.size+1]?=some (.cells #[.string ⟨#[]⟩,.string ⟨#[]⟩,.int .i64 0,.slice none 0 0] 28)):=Qaw (by simp)
 unfold Qhe
 go_enter Tryz.func24,Tryz.ntmps24
 go_wp2_with (at_builtin;refine wpList_append_own _ rfl _ _ 26 rfl (w.heap.size+2) 25 i0 _ 2 32 Tryz.underlying26 hi hz0 hz1 hz2 rfl (by decide) _ _ _ rfl (World.ownsRow_nil _ _ _ _) ⟨g,off,none⟩ M.hdrs.length c (hcells M.hdrs) rfl (QfV _) HW.out (Qov _) (by unfold maxLen;omega) (by omega) (by simp) ?_;intro v5 w5 ho5 hg5 _;obtain ⟨a5,k5,hv5⟩:=QaN ho5;subst hv5;have hp5:=(hg5.block w.heap.size (by simp;omega) (fun e=>nomatch e)).trans HP.out;have hq5:=(hg5.block (w.heap.size+1) (by simp) (fun e=>nomatch e)).trans HQ.out;have HO5:=Qaa ho5;have HB5:=Qaa (QeY (((Below.refl w.heap.size w).alloc (Nat.le_refl _) (.cells #[.string (Qag M.fr),.string (Qag M.to),.int .i64 M.size,.slice (some ⟨g,off,none⟩) M.hdrs.length c] 28)).alloc (by simp) (.cells #[.string ⟨#[]⟩,.string ⟨#[]⟩,.int .i64 0,.slice none 0 0] 28)) hg5 (by simp;omega) (fun k hk=>nomatch hk));have HP5:=Qaa hp5;have HQ5:=Qaa hq5;have pf:=Qam hp5;have qf:=Qam hq5;have p0:w5.cell? ⟨w.heap.size,0,none⟩=some (.string (Qag M.fr)):=Qab hp5 0;have p1:w5.cell? ⟨w.heap.size,1,none⟩=some (.string (Qag M.to)):=Qab hp5 1;have p2:w5.cell? ⟨w.heap.size,2,none⟩=some (.int .i64 M.size):=Qab hp5 2;have p3:w5.cell? ⟨w.heap.size,3,none⟩=some (.slice (some ⟨g,off,none⟩) M.hdrs.length c):=Qab hp5 3;have z0:w5.cell? ⟨w.heap.size+1,0,none⟩=some (.string ⟨#[]⟩):=Qab hq5 0;have z1:w5.cell? ⟨w.heap.size+1,1,none⟩=some (.string ⟨#[]⟩):=Qab hq5 1;have z2:w5.cell? ⟨w.heap.size+1,2,none⟩=some (.int .i64 0):=Qab hq5 2;have z3:w5.cell? ⟨w.heap.size+1,3,none⟩=some (.slice none 0 0):=Qab hq5 3;clear ho5 hg5 hp5 hq5)
 refine bodyPost_ret (v:=.agg #[.string (Qag M.fr),.string (Qag M.to),.int .i64 M.size,.slice a5 M.hdrs.length k5]) (by simp [results,Tryz.results24,go_sem,z0,z1,z2,z3]) rfl ?_
 have ho:w5.ownsRow (w.heap.size+2) 25 2 (.slice a5 M.hdrs.length k5) M.hdrs.length (hcells M.hdrs):=by
  have:=HO5.out
  rw [Nat.zero_add,List.nil_append] at this
  exact this
 have hnb:∀ b,b < w.heap.size+2→(Value.slice a5 M.hdrs.length k5).ownBlock≠some b:=fun b hb e=>by have:=(ho.lt b e).1;omega
 refine ⟨a5,k5,rfl,Qig (QcV (QcV (QcV (QcV (QcV ho (hnb _ (by omega)) _ _) (hnb _ (by omega)) _ _) (hnb _ (by omega)) _ _) (hnb _ (by omega)) _ _) (hnb _ (by omega)) _ _) (by omega),?_⟩
 exact ((((HB5.out.setCell (show w.heap.size≤w.heap.size from Nat.le_refl _) _).setCell (show w.heap.size≤w.heap.size+1 by omega) _).setCell (show w.heap.size≤w.heap.size+1 by omega) _).setCell (show w.heap.size≤w.heap.size+1 by omega) _).setCell (show w.heap.size≤w.heap.size+1 by omega) _
theorem QoH (M:Msg) (a:Option Addr) (c:Nat) (w:World) (h0:M.hdrs=[]) :
 Calls Tryz.prog 24 #[Qhe M (.slice a 0 c)] w fun e w'=>∃ a k,e=.returned (Qhe M (.slice a M.hdrs.length k))∧QqC w' w.heap.size (.slice a M.hdrs.length k) M.hdrs∧Below w.heap.size w w':=by
 have HR:Hid (M.hdrs.length=0):=by show _=_;rw [h0];rfl
 have H0:=Qaa h0
 clear h0
 unfold Qhe
 cases a with
 | none=>
  go_enter Tryz.func24,Tryz.ntmps24
  go_wp2
  refine bodyPost_ret (v:=.agg #[.string (Qag M.fr),.string (Qag M.to),.int .i64 M.size,.slice none 0 0]) (by simp [results,Tryz.results24,go_sem]) rfl ?_
  refine ⟨none,0,by rw [HR.out],?_,?_⟩
  ·unfold QqC;rw [H0.out];exact World.ownsRow_nil _ _ _ _
  ·exact ((Below.refl _ _).alloc (Nat.le_refl _) _).alloc (by simp) _
 | some a=>
  go_enter Tryz.func24,Tryz.ntmps24
  go_wp2
  refine bodyPost_ret (v:=.agg #[.string (Qag M.fr),.string (Qag M.to),.int .i64 M.size,.slice none 0 0]) (by simp [results,Tryz.results24,go_sem]) rfl ?_
  refine ⟨none,0,by rw [HR.out],?_,?_⟩
  ·unfold QqC;rw [H0.out];exact World.ownsRow_nil _ _ _ _
  ·exact ((Below.refl _ _).alloc (Nat.le_refl _) _).alloc (by simp) _
theorem Qo7 (M:Msg) (hv:Value) (w:World) (hh:QrX w hv M.hdrs) (hl:M.hdrs.length≤100000) :
 Calls Tryz.prog 24 #[Qhe M hv] w fun e w'=>∃ a k,e=.returned (Qhe M (.slice a M.hdrs.length k))∧QqC w' w.heap.size (.slice a M.hdrs.length k) M.hdrs∧Below w.heap.size w w':=by
 obtain ⟨a,c,rfl,hc⟩:=hh
 by_cases h0:M.hdrs=[]
 ·have e:M.hdrs.length=0:=by rw [h0];rfl
  rw [e]
  have:=QoH M a c w h0
  rw [e] at this
  exact this
 ·obtain ⟨b,off,rfl,hcc⟩:=hc h0
  exact Qni M b off c w hcc h0 hl
theorem QnT (M:Msg) (a:Option Addr) (k B:Nat) (w:World) (hh:QqC w B (.slice a M.hdrs.length k) M.hdrs) (hl:M.hdrs.length≤100000) :
 Calls Tryz.prog 26 #[Qhe M (.slice a M.hdrs.length k)] w fun e w'=>e=.returned (.tuple #[])∧Fr (fun k o=>B≤k∧∃ cs,o=.cells cs 25) w w':=by
 obtain ⟨W0,hW0⟩:∃ W0,W0=w.alloc (.cells #[.string (Qag M.fr),.string (Qag M.to),.int .i64 M.size,.slice a M.hdrs.length k] 28):=⟨_,rfl⟩
 have HB0:Hid (Below w.heap.size w W0):=by show Below _ _ _;rw [hW0];exact (Below.refl _ _).alloc (Nat.le_refl _) _
 have HM0:Hid (W0.heap[w.heap.size]?=some (.cells #[.string (Qag M.fr),.string (Qag M.to),.int .i64 M.size,.slice a M.hdrs.length k] 28)):=by show _=_;rw [hW0];exact QaB _ _
 have HO0:Hid (W0.ownsRow B 25 2 (.slice a M.hdrs.length k) M.hdrs.length (hcells M.hdrs)):=by show World.ownsRow _ _ _ _ _ _ _;rw [hW0];exact World.ownsRow.alloc hh _
 have HWW:=Qaa hW0
 generalize hn:M.hdrs.length=n at *
 clear hh hW0
 unfold Qhe
 go_enter Tryz.func26,Tryz.ntmps26
 go_wp2_with fail
 rw [← HWW.out]
 go_loopw [2,6] (fun _ i wr=>∃ (j:Nat) (xs:List Value),j≤n∧i=.int .i64 (j:Int)∧wr.ownsRow B 25 2 (.slice a n k) n xs∧Fr (fun k o=>B≤k∧∃ cs,o=.cells cs 25) W0 wr) (fun _ i _=>n - (intOf i).toNat)
 case atStart=>exact ⟨0,_,Nat.zero_le _,by go_num,HO0.out,Fr.refl _ _⟩
 case round=>
  obtain ⟨j,xs,hj,rfl,hown,hF⟩:=hrel
  have hM:=hF.block _ _ HM0.out (fun h=>by obtain ⟨_,cs,e⟩:=h;injection e with _ e;exact absurd e (by decide))
  have c3:wr.cell? ⟨w.heap.size,3,none⟩=some (.slice a n k):=Qab hM 3
  by_cases hlt:j < n
  ·obtain ⟨g,c,hv,hbg,hgl,hcells⟩:=Qdn hown (by omega)
   injection hv with hv1 hv2 hv3
   subst hv1 hv3
   have hxl:=hown.1
   obtain ⟨u1,hu1⟩:∃ u,wr.cell? ⟨g,j*2,none⟩=some u:=⟨xs[j*2]'(by omega),hcells _ _ (List.getElem?_eq_getElem (by omega))⟩
   obtain ⟨u2,hu2⟩:∃ u,wr.cell? ⟨g,j*2+1,none⟩=some u:=⟨xs[j*2+1]'(by omega),hcells _ _ (List.getElem?_eq_getElem (by omega))⟩
   have hfz:∀ o,wr.frozen? ⟨g,o,none⟩=false:=hown.frozenAt
   have hP:∀ W:World,W.ownsRow B 25 2 (.slice (some ⟨g,0,none⟩) n k) n xs→True:=fun _ _=>trivial
   obtain ⟨s1,g1⟩:=hown.stored (j*2) (.string ⟨#[109,105,110,101]⟩)
   obtain ⟨s2,g2⟩:=s1.stored (j*2+1) (.string ⟨#[109,105,110,101]⟩)
   have hstep:∀ (u v:World) (ys:List Value),u.ownsRow B 25 2 (.slice (some ⟨g,0,none⟩) n k) n ys→u.grownBy v (some g)→Fr (fun k o=>B≤k∧∃ cs,o=.cells cs 25) u v:=fun u v ys ho hg=>(Fr.refl _ u).grown hg (fun k' o e ho'=>QbG ho k' o e ho')
   have HS:=Qaa (And.intro s2 ((hF.trans (hstep _ _ _ hown g1)).trans (hstep _ _ _ s1 g2)))
   clear hP hstep s1 s2 g1 g2 hown hF hM hcells hxl
   go_wp2
   go_roundw
   case rel=>exact ⟨j+1,_,by omega,by go_num,HS.out.1,HS.out.2⟩
   case measure=>simp [intOf];omega
  ·have HF:=Qaa hF
   have hjn:j=n:=by omega
   subst hjn
   clear hF hM hown
   go_wp2
   go_end0
   exact ⟨rfl,(Fr.of_below HB0.out).trans HF.out⟩
end
end Go.Proofs.YtbiclelojbfnbabGreatDoor
