import Derived.Test.YtgnkjijocdmniaaGreatDoorZQTestN
namespace Go.Proofs.YtgnkjijocdmniaaGreatDoor
set_option linter.unusedVariables false
set_option linter.unusedSimpArgs false
set_option maxRecDepth 100000
set_option maxHeartbeats 4000000
open Go.RowKit
attribute [local go_sem ↓] Go.wp_at_zero Go.wp_at_succ
theorem next_fail {l:List UInt8} {st:Except Flt PS} {f:Flt}:nextS l (failS st f)=failS st f:=by cases st <;> rfl
theorem size_body {α:Type} {l:List UInt8} {F pos:Nat} {sub:PS→Except Flt (α×PS)} {st:Except Flt PS}:stOf (bindS st (testBody l F sub 9 pos))=stOf (bindS st (sizeL l pos))∧∀ y,bindS st (testBody l F sub 9 pos)=.ok y→∃ z,bindS st (sizeL l pos)=.ok z∧y.1=(z.1,[]):=by
 cases st with
 | error g=>exact ⟨rfl,fun y e=>by cases e⟩
 | ok s=>
  simp only [bindS,testBody]
  cases sizeL l pos s with
  | error g=>exact ⟨rfl,fun y e=>by cases e⟩
  | ok z=>exact ⟨rfl,fun y e=>⟨z,rfl,by cases e;rfl⟩⟩
def SNode (w:World) (gb:Nat) (nm:List UInt8) (tag num:Nat):Prop:=w.heap[gb]?=some (.cells #[.string (strA nm),.slice none 0 0,.slice none 0 0,.slice none 0 0,.int .i64 tag,.bool false,.int .i64 num] 200)
theorem qtest_size (rb tb:Nat) (nv:Value) (rq:List (List UInt8)) (l:List UInt8) (F n deep:Nat) (st:Except Flt PS) (w:World) (hr:RdI w rb tb nv rq) (h:TSt w tb l st) (hl:l.length≤600) (hF:2*l.length+2≤F) (hd:deep+n=6) (hk:(wordS l st).1=119) (hw:(wordS l st).2.1=kSize) :
 Calls Tryz.prog 214 #[.pointer (some ⟨rb,0,none⟩),.int .i64 deep] w (QPost (bindS st (testL l rq F (n+1))) tb l w (RTest (n+1) (fromB w.heap.size)) anyPtr):=by
 have HX:Hid (bindS st (testL l rq F (n+1))=bindS (nextS l st) (testBody l F (testL l rq F n) 9 (wordS l st).2.2.2)):=by
  show _=_
  rw [test_is h hk (by rw [hw];decide),hw,pre_none (by decide) (by decide)]
  rfl
 have r0:w.cell? ⟨rb,0,none⟩=some (.pointer (some ⟨tb,0,none⟩)):=blk_cell hr.r 0
 obtain ⟨c2,c4,c5,c6,c7⟩:=h.cells
 have H:=hide h
 have HR:=hide hr
 have hrl:=blk_lt hr.r
 have htl:=h.lt
 have hgt:w.heap.size≠tb:=by omega
 obtain ⟨s0,hst,_,_⟩:=ok_word h hk
 have he:errS st=0:=by rw [hst];rfl
 have heb:((errS st:Int) != 0)=false:=by simp;omega
 have hkb:(((wordS l st).1:Int) != 119)=false:=by simp;omega
 have hdb:decide ((6:Int) < (deep:Int))=false:=decide_eq_false (by omega)
 obtain ⟨nm,hnm⟩:∃ nm,(wordS l st).2.1=nm:=⟨_,rfl⟩
 rw [hnm] at c5 hw
 have hx:=hw
 have e0:((strA nm).toList == [116,114,117,101])=false:=by rw [str_eq,hx];decide
 have e1:((strA nm).toList == [102,97,108,115,101])=false:=by rw [str_eq,hx];decide
 have e2:((strA nm).toList == [110,111,116])=false:=by rw [str_eq,hx];decide
 have e3:((strA nm).toList == [97,108,108,111,102])=false:=by rw [str_eq,hx];decide
 have e4:((strA nm).toList == [97,110,121,111,102])=false:=by rw [str_eq,hx];decide
 have e5:((strA nm).toList == [104,101,97,100,101,114])=false:=by rw [str_eq,hx];decide
 have e6:((strA nm).toList == [101,110,118,101,108,111,112,101])=false:=by rw [str_eq,hx];decide
 have e7:((strA nm).toList == [115,116,114,105,110,103])=false:=by rw [str_eq,hx];decide
 have e8:((strA nm).toList == [101,120,105,115,116,115])=false:=by rw [str_eq,hx];decide
 have e9:((strA nm).toList == [115,105,122,101])=true:=by rw [str_eq,hx];decide
 obtain ⟨W0,hW0⟩:∃ W0,W0=w.alloc (.cells #[.string (strA nm),.slice none 0 0,.slice none 0 0,.slice none 0 0,.int .i64 0,.bool false,.int .i64 0] 200):=⟨_,rfl⟩
 have HWW:=hide hW0
 have HM0:Hid (Mod tb w W0):=by show Mod _ _ _;rw [hW0];exact (Mod.refl _ _).alloc _
 have HN0:Hid (MNode W0 w.heap.size nm 0 false):=by show W0.heap[w.heap.size]?=_;rw [hW0];exact blk_new _ _
 have HT0:Hid (TSt W0 tb l st):=by show TSt _ _ _ _;rw [hW0];exact h.below ((Below.refl _ _).alloc (Nat.le_refl _) _)
 clear h hr hW0 hst he hk hnm
 have HWN:=hide hw
 clear hw hx
 go_enter Tryz.func214,Tryz.ntmps214
 go_wp2_with fail
 rw [← HWW.out]
 refine (qnext_st tb l st W0 HT0.out hl).mono ?_
 rintro e w1 ⟨rfl,hm1,ht1⟩
 have HM1:=hide (HM0.out.trans hm1)
 have HN1:=hide (blk_mod HN0.out hm1 hgt)
 have HT1:=hide ht1
 clear hm1 ht1
 obtain ⟨st1,hst1⟩:∃ st1,nextS l st=st1:=⟨_,rfl⟩
 rw [hst1] at HT1
 have HX1:Hid (bindS st (testL l rq F (n+1))=bindS st1 (testBody l F (testL l rq F n) 9 (wordS l st).2.2.2)):=by show _=_;rw [← hst1];exact HX.out
 clear hst1 HX HN0 HM0 HT0
 have qr:w1.cell? ⟨rb,0,none⟩=some (.pointer (some ⟨tb,0,none⟩)):=blk_cell (HR.out.mod HM1.out).r 0
 obtain ⟨q2,q4,q5,q6,q7⟩:=HT1.out.cells
 have f5:=fun o=>blk_frozen HN1.out o
 have t4:w1.cell? ⟨w.heap.size,4,none⟩=some (.int .i64 0):=blk_cell HN1.out 4
 have hl1:w.heap.size < w1.heap.size:=blk_lt HN1.out
 have o1:((strA (wordS l st1).2.1).toList == [111,118,101,114])=decide ((wordS l st1).2.1=qOver):=str_eq _ _
 have o2:((strA (wordS l st1).2.1).toList == [117,110,100,101,114])=decide ((wordS l st1).2.1=qUnder):=str_eq _ _
 go_upto_block 3 with fail
 go_cut [] (fun wx=>∃ v:Nat,(v=if (wordS l st1).1=58 then whichL [qOver,qUnder] (wordS l st1).2.1 else 0)∧Mod tb w wx∧SNode wx w.heap.size nm v 0∧TSt wx tb l (if v=0 then failS st1 ⟨4,(wordS l st1).2.2.2⟩ else st1))
 case first=>
  by_cases hk:(wordS l st1).1=58
  ·have hkb:(((wordS l st1).1:Int) == 58)=true:=by simp;omega
   by_cases h1:(wordS l st1).2.1=qOver
   ·rw [decide_eq_true h1] at o1
    have HV:Hid (1=if (wordS l st1).1=58 then whichL [qOver,qUnder] (wordS l st1).2.1 else 0):=by show _=_;rw [if_pos hk,h1];rfl
    clear hk h1 o2
    go_wp2
    go_meet
    exact ⟨1,HV.out,HM1.out.setNew (Nat.le_refl _) _ _,heap_setCell_at _ _ _ _ _ _ HN1.out,HT1.out.block (Below.heap_setCell _ _ _ _ (Ne.symm hgt))⟩
   ·rw [decide_eq_false h1] at o1
    by_cases h2:(wordS l st1).2.1=qUnder
    ·rw [decide_eq_true h2] at o2
     have HV:Hid (2=if (wordS l st1).1=58 then whichL [qOver,qUnder] (wordS l st1).2.1 else 0):=by show _=_;rw [if_pos hk,h2];rfl
     clear hk h1 h2
     go_wp2
     go_meet
     exact ⟨2,HV.out,HM1.out.setNew (Nat.le_refl _) _ _,heap_setCell_at _ _ _ _ _ _ HN1.out,HT1.out.block (Below.heap_setCell _ _ _ _ (Ne.symm hgt))⟩
    ·rw [decide_eq_false h2] at o2
     have HV:Hid (0=if (wordS l st1).1=58 then whichL [qOver,qUnder] (wordS l st1).2.1 else 0):=by show _=_;rw [if_pos hk,which_no (by intro z hz;simp at hz;rcases hz with rfl | rfl;exact h1;exact h2)]
     have HF:=hide (qfail_st tb l st1 ⟨4,(wordS l st1).2.2.2⟩ w1.drew (HT1.out.block rfl) hl (Nat.succ_ne_zero 3))
     clear hk h1 h2
     go_wp2_with fail
     go_region_with (first | (go_at_call 70;refine HF.out.mono ?_;rintro e w2 h1;obtain ⟨rfl,hm1,ht1⟩:=h1;have HM2:=hide hm1;have HT2:=hide ht1;clear hm1 ht1;skip))
     all_goals go_wp2
     all_goals go_meet
     all_goals exact ⟨0,HV.out,HM1.out.trans (mod_fix HM2.out),blk_mod HN1.out (mod_fix HM2.out) hgt,HT2.out⟩
  ·have hkb:(((wordS l st1).1:Int) == 58)=false:=by simp;omega
   have HV:Hid (0=if (wordS l st1).1=58 then whichL [qOver,qUnder] (wordS l st1).2.1 else 0):=by show _=_;rw [if_neg hk]
   have HF:=hide (qfail_st tb l st1 ⟨4,(wordS l st1).2.2.2⟩ w1.drew (HT1.out.block rfl) hl (Nat.succ_ne_zero 3))
   clear hk o1 o2
   go_wp2_with fail
   go_region_with (first | (go_at_call 70;refine HF.out.mono ?_;rintro e w2 h1;obtain ⟨rfl,hm1,ht1⟩:=h1;have HM2:=hide hm1;have HT2:=hide ht1;clear hm1 ht1;skip))
   all_goals go_wp2
   all_goals go_meet
   all_goals exact ⟨0,HV.out,HM1.out.trans (mod_fix HM2.out),blk_mod HN1.out (mod_fix HM2.out) hgt,HT2.out⟩
 case rest=>
  obtain ⟨v,hv,hm,hnd,ht⟩:=hcut
  have HSI:=hide (size_is (pos:=(wordS l st).2.2.2) HT1.out v hv)
  have HV:Hid (nextS l (if v=0 then failS st1 ⟨4,(wordS l st1).2.2.2⟩ else st1)=if v=0 then failS st1 ⟨4,(wordS l st1).2.2.2⟩ else nextS l st1):=by
   show _=_
   by_cases h0:v=0
   ·rw [if_pos h0,if_pos h0];exact next_fail
   ·rw [if_neg h0,if_neg h0]
  have HM:=hide hm
  have HND:=hide hnd
  have HNX:=hide (qnext_st tb l _ wc ht hl)
  rw [HV.out] at HNX
  have qr':wc.cell? ⟨rb,0,none⟩=some (.pointer (some ⟨tb,0,none⟩)):=blk_cell (HR.out.mod hm).r 0
  obtain ⟨st2,hst2⟩:∃ st2,(if v=0 then failS st1 ⟨4,(wordS l st1).2.2.2⟩ else nextS l st1)=st2:=⟨_,rfl⟩
  rw [hst2] at HNX HSI
  clear hm hnd ht hv hst2 HV q2 q4 q5 q6 q7 o1 o2 f5 t4 qr
  go_wp2_with fail
  refine HNX.out.mono ?_
  rintro e w2 ⟨rfl,hm2,ht2⟩
  have HM2:=hide (HM.out.trans hm2)
  have hn2:=blk_mod HND.out hm2 hgt
  have HSE:=hide (size_end (pos:=(wordS l st).2.2.2) (v:=v) ht2)
  obtain ⟨q2,q4,q5,q6,q7⟩:=ht2.cells
  have qr2:w2.cell? ⟨rb,0,none⟩=some (.pointer (some ⟨tb,0,none⟩)):=blk_cell (HR.out.mod HM2.out).r 0
  have f6:=fun o=>blk_frozen hn2 o
  have t6:w2.cell? ⟨w.heap.size,6,none⟩=some (.int .i64 0):=blk_cell hn2 6
  have hl2:w.heap.size < w2.heap.size:=blk_lt hn2
  obtain ⟨W3,hW3⟩:∃ W3,W3=w2.setCell ⟨w.heap.size,6,none⟩ (.int .i64 (wordS l st2).2.2.1):=⟨_,rfl⟩
  have HW3:=hide hW3
  have HM3:Hid (Mod tb w W3):=by show Mod _ _ _;rw [hW3];exact HM2.out.setNew (Nat.le_refl _) _ _
  have HN3:Hid (SNode W3 w.heap.size nm v (wordS l st2).2.2.1):=by show W3.heap[w.heap.size]?=_;rw [hW3];exact heap_setCell_at _ _ _ _ _ _ hn2
  have HT3:Hid (TSt W3 tb l st2):=by show TSt _ _ _ _;rw [hW3];exact ht2.block (Below.heap_setCell _ _ _ _ (Ne.symm hgt))
  have HS3:=hide (qsign_any rb tb nv l 48 st2 W3 (HR.out.mod HM3.out).r HT3.out hl)
  clear hm2 ht2 hn2 hW3
  go_wp2_with fail
  rw [← HW3.out]
  refine HS3.out.mono ?_
  rintro e w4 ⟨rfl,hm4,ht4⟩
  have HM4:=hide (HM3.out.trans hm4)
  have HN4:=hide (blk_mod HN3.out hm4 hgt)
  have HT4:=hide ht4
  clear hm4 ht4
  go_wp2
  go_ret
  refine QPost.mk HM4.out (by rw [(congrArg stOf HX1.out).trans size_body.1,HSI.out,HSE.out.1];exact HT4.out) ⟨_,rfl⟩ (fun y hy=>?_)
  obtain ⟨z,hz,hy1⟩:=size_body.2 y (HX1.out.symm.trans hy)
  rw [HSI.out] at hz
  rw [hy1,HSE.out.2 z hz]
  exact rtest_mk (Nat.le_refl _) HN4.out HWN.out.symm (Or.inl ⟨rfl,rfl⟩) (Or.inl ⟨rfl,rfl⟩) (Or.inl ⟨rfl,rfl⟩)
end Go.Proofs.YtgnkjijocdmniaaGreatDoor
