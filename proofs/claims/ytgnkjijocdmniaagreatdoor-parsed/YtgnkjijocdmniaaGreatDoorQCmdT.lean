import Derived.Test.YtgnkjijocdmniaaGreatDoorQCmdS
import Derived.Test.YtgnkjijocdmniaaGreatDoorQTestS
namespace Go.Proofs.YtgnkjijocdmniaaGreatDoor
set_option linter.unusedVariables false
set_option linter.unusedSimpArgs false
set_option maxRecDepth 100000
set_option maxHeartbeats 4000000
open Go.RowKit
attribute [local go_sem ↓] Go.wp_at_zero Go.wp_at_succ
theorem fits4:fitsL 4=fun x=>if isNameL x then 0 else 7:=rfl
theorem set_is {w:World} {tb:Nat} {α β:Type} {l:List UInt8} {F pos v:Nat} {tst:PS→Except Flt (β×PS)} {sub:PS→Except Flt (α×PS)} {st stx:Except Flt PS} (h:TSt w tb l st) (hv:v=if (wordS l st).1=58 then whichL [qLower,qUpper,qLength] (wordS l st).2.1 else 0) (hs:stx=if (wordS l st).1=58 then nextS l (if v=0 then failS st ⟨4,(wordS l st).2.2.2⟩ else st) else st) :
 bindS st (cmdBody l F tst sub 6 pos)=bindS stx fun s1=>thenL (stringL l (fitsL 4) s1) fun vn s2=>thenL (stringL l (fun _=>0) s2) fun x s3=>semi l s3 (⟨6,pos,v,x,smallL vn,false⟩,[],[]):=by
 rw [fits4]
 cases st with
 | error f=>
  rw [if_neg (by show ¬ (0:Nat)=58;decide)] at hs
  subst hs
  rfl
 | ok s=>
  have hw:whichL [tLower,tUpper,tLength] s.1.spelt=v:=by
   rw [hv]
   by_cases hk:s.1.kind=2
   ·have:(wordS l (.ok s)).1=58:=(kQ_tag h.wd).2 hk
    rw [if_pos this,tag_spelt h.wd hk,tagsT,which_tag];rfl
   ·have:¬ (wordS l (.ok s)).1=58:=fun e=>hk ((kQ_tag h.wd).1 e)
    rw [if_neg this,tagsT,which_tag0 h.wd hk _ neT]
  simp only [bindS,cmdBody]
  by_cases hk:s.1.kind=2
  ·have h58:(wordS l (.ok s)).1=58:=(kQ_tag h.wd).2 hk
   rw [if_pos h58] at hs
   by_cases h0:v=0
   ·rw [if_pos h0] at hs
    have hs':stx=.error ⟨4,s.1.pos⟩:=hs
    subst hs'
    unfold mayL
    rw [hw,if_pos h0]
    simp only [thenL]
    unfold stringL
    rw [if_neg (by omega)]
   ·rw [if_neg h0] at hs
    have hs':stx=nextL l s.2:=hs
    subst hs'
    unfold mayL
    rw [hw,if_neg h0]
    cases nextL l s.2 <;> rfl
  ·have h58:¬ (wordS l (.ok s)).1=58:=fun e=>hk ((kQ_tag h.wd).1 e)
   rw [if_neg h58] at hs hv
   subst hs
   have hm:mayL l [tLower,tUpper,tLength] s=.ok (0,s):=by
    unfold mayL
    rw [hw,if_pos hv]
   rw [hm,hv]
   rfl
theorem set_end {w:World} {tb:Nat} {α β:Type} {l:List UInt8} {pos v:Nat} {stx:Except Flt PS} (h:TSt w tb l (stOf (bindS (stOf (bindS stx (stringL l (fitsL 4)))) (stringL l (fitsL 0))))) :
 stOf (bindS stx fun s1=>thenL (stringL l (fitsL 4) s1) fun vn s2=>thenL (stringL l (fun _=>0) s2) fun x s3=>semi l s3 ((⟨6,pos,v,x,smallL vn,false⟩:CLab),([]:List (β×List α)),([]:List α)))=signS l 59 (stOf (bindS (stOf (bindS stx (stringL l (fitsL 4)))) (stringL l (fitsL 0))))∧∀ y,(bindS stx fun s1=>thenL (stringL l (fitsL 4) s1) fun vn s2=>thenL (stringL l (fun _=>0) s2) fun x s3=>semi l s3 ((⟨6,pos,v,x,smallL vn,false⟩:CLab),([]:List (β×List α)),([]:List α)))=.ok y→∃ z1 z2,bindS stx (stringL l (fitsL 4))=.ok z1∧bindS (stOf (bindS stx (stringL l (fitsL 4)))) (stringL l (fitsL 0))=.ok z2∧y.1=(⟨6,pos,v,z2.1,smallL z1.1,false⟩,[],[]):=by
 cases stx with
 | error g=>exact ⟨by simp only [bindS,stOf];unfold signS;split <;> rfl,fun y e=>by cases e⟩
 | ok s=>
  simp only [bindS] at h ⊢
  cases hz:stringL l (fitsL 4) s with
  | error g=>exact ⟨by simp only [thenL,stOf];unfold signS;split <;> rfl,fun y e=>by cases e⟩
  | ok z=>
   rw [hz] at h
   obtain ⟨a1,a2⟩:=arg_is (β:=Unit) (st:=.ok z.2) (mk:=fun x=>((⟨6,pos,v,x,smallL z.1,false⟩:CLab),([]:List (β×List α)),([]:List α))) h
   refine ⟨a1,fun y hy=>?_⟩
   obtain ⟨z2,h1,h2⟩:=a2 y hy
   exact ⟨z,z2,rfl,h1,h2⟩
theorem qcmd_set (rb tb:Nat) (nv:Value) (rq:List (List UInt8)) (l:List UInt8) (F n deep:Nat) (st:Except Flt PS) (w:World) (hr:RdI w rb tb nv rq) (h:TSt w tb l st) (hl:l.length≤600) (hF:2*l.length+2≤F) (hd:deep+n=6) (hk:(wordS l st).1=119) (hw:(wordS l st).2.1=kSet) :
 Calls Tryz.prog 115 #[.pointer (some ⟨rb,0,none⟩),.int .i64 deep] w (QPost (bindS st (cmdL l rq F (n+1))) tb l w (RCmd (n+1) (fromB w.heap.size)) anyPtr):=by
 have HX:Hid (bindS st (cmdL l rq F (n+1))=bindS (nextS l (usesS l rq kVariables st)) (cmdBody l F (testL l rq F n) (cmdL l rq F n) 6 (wordS l st).2.2.2)):=by
  show _=_
  rw [cmd_is h hk (by rw [hw];decide),hw]
  rw [show preC l rq kSet st=usesS l rq kVariables st from (if_neg (by decide)).trans (if_pos rfl)]
  rfl
 have r0:w.cell? ⟨rb,0,none⟩=some (.pointer (some ⟨tb,0,none⟩)):=blk_cell hr.r 0
 obtain ⟨c2,c4,c5,c6,c7⟩:=h.cells
 have H:=hide h
 have HR:=hide hr
 have hrl:=blk_lt hr.r
 have htl:=h.lt
 have hgt:w.heap.size≠tb:=by omega
 have hgr:w.heap.size≠rb:=by omega
 have hdb:decide ((6:Int) < (deep:Int))=false:=decide_eq_false (by omega)
 obtain ⟨nm,hnm⟩:∃ nm,(wordS l st).2.1=nm:=⟨_,rfl⟩
 rw [hnm] at c5 hw
 have hx:=hw
 have e0:((strA nm).toList == [107,101,101,112])=false:=by rw [str_eq,hx];decide
 have e1:((strA nm).toList == [100,105,115,99,97,114,100])=false:=by rw [str_eq,hx];decide
 have e2:((strA nm).toList == [115,116,111,112])=false:=by rw [str_eq,hx];decide
 have e3:((strA nm).toList == [102,105,108,101,105,110,116,111])=false:=by rw [str_eq,hx];decide
 have e4:((strA nm).toList == [114,101,100,105,114,101,99,116])=false:=by rw [str_eq,hx];decide
 have e5:((strA nm).toList == [114,101,106,101,99,116])=false:=by rw [str_eq,hx];decide
 have e6:((strA nm).toList == [115,101,116])=true:=by rw [str_eq,hx];decide
 obtain ⟨W0,hW0⟩:∃ W0,W0=(w.alloc (.cells #[.string (strA nm),.slice none 0 0,.int .i64 0,.slice none 0 0,.slice none 0 0,.int .i64 (wordS l st).2.2.2] 155)).drew:=⟨_,rfl⟩
 have HWW:=hide hW0
 have HM0:Hid (Mod tb w W0):=by show Mod _ _ _;rw [hW0];exact ((Mod.refl _ _).alloc _).drew
 have HN0:Hid (CNode W0 w.heap.size nm (.slice none 0 0) 0 (.slice none 0 0) (.slice none 0 0) (wordS l st).2.2.2):=by show W0.heap[w.heap.size]?=_;rw [hW0];exact blk_new _ _
 have HT0:Hid (TSt W0 tb l st):=by show TSt _ _ _ _;rw [hW0];exact (h.below ((Below.refl _ _).alloc (Nat.le_refl _) (.cells #[.string (strA nm),.slice none 0 0,.int .i64 0,.slice none 0 0,.slice none 0 0,.int .i64 (wordS l st).2.2.2] 155))).block rfl
 clear h hr hW0 hk hnm
 have HWN:=hide hw
 clear hw hx
 go_enter Tryz.func115,Tryz.ntmps115
 go_wp2_with fail
 go_region
 rw [← HWW.out]
 have d0:W0.cell? ⟨rb,0,none⟩=some (.pointer (some ⟨tb,0,none⟩)):=blk_cell (HR.out.r.mod HM0.out HR.out.n) 0
 have n0:W0.cell? ⟨w.heap.size,0,none⟩=some (.string (strA nm)):=blk_cell HN0.out 0
 have n5:W0.cell? ⟨w.heap.size,5,none⟩=some (.int .i64 (wordS l st).2.2.2):=blk_cell HN0.out 5
 go_wp2_with fail
 refine (quses_any rb tb nv rq l kVariables st W0 (HR.out.mod HM0.out).r (HR.out.mod HM0.out).txl HR.out.z HT0.out hl).mono ?_
 rintro e w0 ⟨rfl,hm0,ht0⟩
 have HM0':=hide (HM0.out.trans hm0)
 have HN0':=hide (blk_mod HN0.out hm0 hgt)
 have HT0':=hide ht0
 have q0:w0.cell? ⟨rb,0,none⟩=some (.pointer (some ⟨tb,0,none⟩)):=blk_cell (HR.out.mod HM0'.out).r 0
 clear hm0 ht0
 go_wp2_with fail
 refine (qnext_st tb l _ _ HT0'.out hl).mono ?_
 rintro e w1 ⟨rfl,hm1,ht1⟩
 have HM1:=hide (HM0'.out.trans hm1)
 have HN1:=hide (blk_mod HN0'.out hm1 hgt)
 have HT1:=hide ht1
 clear hm1 ht1
 obtain ⟨st1,hst1⟩:∃ st1,nextS l (usesS l rq kVariables st)=st1:=⟨_,rfl⟩
 rw [hst1] at HT1 HX
 clear hst1 HM0 HN0 HT0 HM0' HN0' HT0'
 have qr:w1.cell? ⟨rb,0,none⟩=some (.pointer (some ⟨tb,0,none⟩)):=blk_cell (HR.out.mod HM1.out).r 0
 obtain ⟨q2,q4,q5,q6,q7⟩:=HT1.out.cells
 have f5:=fun o=>blk_frozen HN1.out o
 have t2:w1.cell? ⟨w.heap.size,2,none⟩=some (.int .i64 0):=blk_cell HN1.out 2
 have hl1:w.heap.size < w1.heap.size:=blk_lt HN1.out
 obtain ⟨v,hv⟩:∃ v,v=if (wordS l st1).1=58 then whichL [qLower,qUpper,qLength] (wordS l st1).2.1 else 0:=⟨_,rfl⟩
 obtain ⟨stx,hsx⟩:∃ stx,stx=if (wordS l st1).1=58 then nextS l (if v=0 then failS st1 ⟨4,(wordS l st1).2.2.2⟩ else st1) else st1:=⟨_,rfl⟩
 have HSI:=hide (set_is (F:=F) (pos:=(wordS l st).2.2.2) (tst:=testL l rq F n) (sub:=cmdL l rq F n) HT1.out hv hsx)
 have HTU:=hide (fun W=>qturn_any (wordS l st1).2.1 W)
 go_upto_if 106 with fail
 go_cut [] (fun wx=>Mod tb w wx∧CNode wx w.heap.size nm (.slice none 0 0) v (.slice none 0 0) (.slice none 0 0) (wordS l st).2.2.2∧TSt wx tb l stx)
 case first=>
  by_cases hk:(wordS l st1).1=58
  rotate_left
  ·have hkb:(((wordS l st1).1:Int) == 58)=false:=by simp;omega
   rw [if_neg hk] at hv hsx
   subst hv hsx
   clear hk
   go_wp2
   go_meet
   exact ⟨HM1.out,HN1.out,HT1.out⟩
  ·have hkb:(((wordS l st1).1:Int) == 58)=true:=by simp;omega
   rw [if_pos hk] at hv hsx
   rw [← hv] at HTU
   have HSX:=hide hsx
   clear hk hv hsx
   obtain ⟨W3,hW3⟩:∃ W3,W3=w1.setCell ⟨w.heap.size,2,none⟩ (.int .i64 v):=⟨_,rfl⟩
   have HW3:=hide hW3
   have HM3:Hid (Mod tb w W3):=by show Mod _ _ _;rw [hW3];exact HM1.out.setNew (Nat.le_refl _) _ _
   have HN3:Hid (CNode W3 w.heap.size nm (.slice none 0 0) v (.slice none 0 0) (.slice none 0 0) (wordS l st).2.2.2):=by show W3.heap[w.heap.size]?=_;rw [hW3];exact heap_setCell_at _ _ _ _ _ _ HN1.out
   have HT3:Hid (TSt W3 tb l st1):=by show TSt _ _ _ _;rw [hW3];exact HT1.out.block (Below.heap_setCell _ _ _ _ (Ne.symm hgt))
   clear hW3
   by_cases h0:v=0
   ·have h0b:((v:Int) == 0)=true:=by simp;omega
    rw [if_pos h0] at HSX
    have HF:=hide (qfail_st tb l st1 ⟨4,(wordS l st1).2.2.2⟩ W3.drew (HT3.out.block rfl) hl (Nat.succ_ne_zero 3))
    have g0:W3.cell? ⟨rb,0,none⟩=some (.pointer (some ⟨tb,0,none⟩)):=blk_cell (HR.out.mod HM3.out).r 0
    have g2:W3.cell? ⟨w.heap.size,2,none⟩=some (.int .i64 v):=blk_cell HN3.out 2
    obtain ⟨y2,y4,y5,y6,y7⟩:=HT3.out.cells
    clear h0
    go_wp2_with fail
    refine (HTU.out _).mono ?_
    rintro e wt ⟨rfl,rfl⟩
    go_wp2_with (rw [← HW3.out])
    go_wp2_with fail
    go_region_with (first | (go_at_call 70;refine HF.out.mono ?_;rintro e w2 h1;obtain ⟨rfl,hm1,ht1⟩:=h1;have HM2:=hide hm1;have HT2:=hide ht1;clear hm1 ht1;skip))
    all_goals
     have HM4:=hide (HM3.out.trans (mod_fix HM2.out))
     have HN4:=hide (blk_mod HN3.out (mod_fix HM2.out) hgt)
     have k0:w2.cell? ⟨rb,0,none⟩=some (.pointer (some ⟨tb,0,none⟩)):=blk_cell (HR.out.mod HM4.out).r 0
     go_wp2_with fail
     refine (qnext_st tb l _ _ (HT2.out.block rfl) hl).mono ?_
     rintro e w4 ⟨rfl,hm4,ht4⟩
     have HM5:=hide (HM4.out.trans hm4)
     have HN5:=hide (blk_mod HN4.out hm4 hgt)
     have HT5:=hide ht4
     clear hm4 ht4
     go_wp2
     go_meet
     exact ⟨HM5.out,HN5.out,by rw [HSX.out];exact HT5.out⟩
   ·have h0b:((v:Int) == 0)=false:=by simp;omega
    rw [if_neg h0] at HSX
    have g0:W3.cell? ⟨rb,0,none⟩=some (.pointer (some ⟨tb,0,none⟩)):=blk_cell (HR.out.mod HM3.out).r 0
    have g2:W3.cell? ⟨w.heap.size,2,none⟩=some (.int .i64 v):=blk_cell HN3.out 2
    clear h0
    go_wp2_with fail
    refine (HTU.out _).mono ?_
    rintro e wt ⟨rfl,rfl⟩
    go_wp2_with (rw [← HW3.out])
    go_wp2_with fail
    refine (qnext_st tb l _ _ (HT3.out.block rfl) hl).mono ?_
    rintro e w4 ⟨rfl,hm4,ht4⟩
    have HM5:=hide (HM3.out.trans hm4)
    have HN5:=hide (blk_mod HN3.out hm4 hgt)
    have HT5:=hide ht4
    clear hm4 ht4
    go_wp2
    go_meet
    exact ⟨HM5.out,HN5.out,by rw [HSX.out];exact HT5.out⟩
 case rest=>
  obtain ⟨hm,hnd,ht⟩:=hcut
  have HM:=hide hm
  have HND:=hide hnd
  have HTT:=hide ht
  clear hm hnd ht hv hsx q2 q4 q5 q6 q7 f5 t2 qr HTU
  go_wp2_with fail
  refine (qone_any rb tb nv l 4 _ _ (HR.out.mod HM.out).r HR.out.n HTT.out hl (by decide)).mono ?_
  rintro e w2 h2
  obtain ⟨hm2,ht2,v2,rfl,⟨x2,rfl,hxl2⟩,hv2⟩:=h2.st
  have HM2:=hide (HM.out.trans hm2)
  have HN2:=hide (blk_mod HND.out hm2 hgt)
  have HT2:=hide ht2
  have HV2:=hide hv2
  clear h2 hm2 ht2 hv2
  go_wp2_with fail
  refine (qone_any rb tb nv l 0 _ _ (HR.out.mod HM2.out).r HR.out.n HT2.out hl (by decide)).mono ?_
  rintro e w3 h3
  obtain ⟨hm3,ht3,v3,rfl,⟨x3,rfl,hxl3⟩,hv3⟩:=h3.st
  have HM3:=hide (HM2.out.trans hm3)
  have HN3:=hide (blk_mod HN2.out hm3 hgt)
  have HT3:=hide ht3
  have HV3:=hide hv3
  have HSE:=hide (set_end (α:=CmdT n) (β:=TestT n) (pos:=(wordS l st).2.2.2) (v:=v) ht3)
  clear h3 hm3 ht3 hv3
  go_wp2_with fail
  refine (qsmall_any x2 _ (by omega)).mono ?_
  rintro e w4 ⟨rfl,hb4⟩
  have hm4:Mod tb w w4:=HM3.out.trans (Mod.of_below hb4)
  have hnb:=blk_below HN3.out hb4
  have ht4:=HT3.out.below hb4
  have hs4:w.heap.size < w4.heap.size:=blk_lt hnb
  obtain ⟨W5,hW5⟩:∃ W5,W5=(w4.setCell ⟨w.heap.size,1,none⟩ (.slice (some ⟨w4.heap.size,0,none⟩) 2 2)).alloc (.cells #[.string (strA (smallL x2)),.string (strA x3)] 9):=⟨_,rfl⟩
  have HW5:=hide hW5
  obtain ⟨hm5,hn5,hc5,hb5⟩:=set_alloc hm4 hnb 1 (.slice (some ⟨w4.heap.size,0,none⟩) 2 2) (.cells #[.string (strA (smallL x2)),.string (strA x3)] 9)
  rw [← hW5] at hm5 hn5 hc5 hb5
  have HM5:=hide hm5
  have HN5:Hid (CNode W5 w.heap.size nm (.slice (some ⟨w4.heap.size,0,none⟩) 2 2) v (.slice none 0 0) (.slice none 0 0) (wordS l st).2.2.2):=hn5
  have HT5:=hide (ht4.block (hb5 tb ht4.lt (Ne.symm hgt)))
  have HS5:Hid (slX (fromB w.heap.size) [smallL x2,x3] W5 (.slice (some ⟨w4.heap.size,0,none⟩) 2 2)):=by
   refine ⟨w4.heap.size,2,rfl,Nat.le_of_lt hs4,fun j hj=>?_,by simp⟩
   match j,hj with
   | 0,_=>exact blk_cell hc5 0
   | 1,_=>exact blk_cell hc5 1
  have hfz:=fun o=>blk_frozen hnb o
  have d2:w4.cell? ⟨w.heap.size,1,none⟩=some (.slice none 0 0):=blk_cell hnb 1
  have HSG:=hide (qsign_any rb tb nv l 59 _ _ (HR.out.mod HM5.out).r HT5.out hl)
  clear hb4 hm4 hnb ht4 hm5 hn5 hc5 hb5 hW5
  go_wp2_with fail
  rw [← HW5.out]
  refine HSG.out.mono ?_
  rintro e w6 ⟨rfl,hm6,ht6⟩
  have HM6:=hide (HM5.out.trans hm6)
  have HN6:=hide (blk_mod HN5.out hm6 hgt)
  have HS6:=hide (HS5.out.keep (hm6.abvX (fun e=>by have e':w.heap.size≤tb:=e;omega)))
  have HT6:=hide ht6
  clear hm6 ht6
  go_wp2
  go_ret
  refine QPost.mk HM6.out (by rw [((congrArg stOf HX.out).trans (congrArg stOf HSI.out)).trans HSE.out.1];exact HT6.out) ⟨_,rfl⟩ (fun y hy=>?_)
  obtain ⟨z1,z2,h1,h2,hy1⟩:=HSE.out.2 y ((HX.out.trans HSI.out).symm.trans hy)
  have e1:=strQ_inj (HV2.out z1 h1)
  have e2:=strQ_inj (HV3.out z2 h2)
  subst e1 e2
  rw [hy1]
  exact rcmd_mk (Nat.le_refl _) HN6.out HWN.out.symm (Or.inr HS6.out) (Or.inl ⟨rfl,rfl⟩) (Or.inl ⟨rfl,rfl⟩)
end Go.Proofs.YtgnkjijocdmniaaGreatDoor
