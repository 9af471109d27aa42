import Derived.Test.YtgnkjijocdmniaaGreatDoorZQMatch
namespace Go.Proofs.YtgnkjijocdmniaaGreatDoor
set_option linter.unusedVariables false
set_option linter.unusedSimpArgs false
set_option maxRecDepth 100000
set_option maxHeartbeats 4000000
open Go.RowKit
attribute [local go_sem ↓] Go.wp_at_zero Go.wp_at_succ
def MNode (w:World) (gb:Nat) (nm:List UInt8) (tag:Nat) (oct:Bool):Prop:=w.heap[gb]?=some (.cells #[.string (strA nm),.slice none 0 0,.slice none 0 0,.slice none 0 0,.int .i64 tag,.bool oct,.int .i64 0] 200)
def preS (l:List UInt8) (rq:List (List UInt8)) (nm:List UInt8) (st:Except Flt PS):Except Flt PS:=
 if nm=kEnvelope then usesS l rq kEnvelope st else if nm=kString then usesS l rq kVariables st else st
structure MPost (M:Except Flt (TLab×PS)) (u:World) (tb gb:Nat) (l nm:List UInt8) (e:Ending) (w':World):Prop where
 e:e=.returned (.tuple #[])
 m:Mod tb u w'
 t:TSt w' tb l (stOf M)
 any:∃ cs,w'.heap[gb]?=some (.cells cs 200)
 ok:∀ y,M=.ok y→∃ fv kv,w'.heap[gb]?=some (.cells #[.string (strA nm),.slice none 0 0,fv,kv,.int .i64 y.1.tag,.bool y.1.octet,.int .i64 0] 200)∧slX (fromB u.heap.size) y.1.fr w' fv∧slX (fromB u.heap.size) y.1.keys w' kv
theorem mpost_bad {M:Except Flt (TLab×PS)} {u w w':World} {tb gb:Nat} {l nm:List UInt8} {f:Flt} {tag:Nat} {oct:Bool} (hM:M=.error f) (h1:Mod tb u w) (h2:Mod tb w w') (ht:TSt w' tb l (.error f)) (hn:MNode w gb nm tag oct) (hg:gb≠tb):MPost M u tb gb l nm (.returned (.tuple #[])) w':=by
 subst hM
 exact ⟨rfl,h1.trans h2,ht,⟨_,blk_mod hn h2 hg⟩,fun y e=>by cases e⟩
theorem qmatching_any (u:World) (rb tb gb:Nat) (nv:Value) (rq:List (List UInt8)) (l nm:List UInt8) (k pos F what:Nat) (st:Except Flt PS) (w:World) (hr:RdQ u rb tb nv) (hn:rb≠tb) (hm:Mod tb u w) (hg:u.heap.size≤gb) (hnode:MNode w gb nm 0 false) (hq:TxL w nv rq) (hz:rq.length≤140737488355328) (h:TSt w tb l st) (htu:tb < u.heap.size) (hl:l.length≤600) (hF:2*l.length+2≤F) (hwhat:what=if nm=kEnvelope then 3 else 0) :
 Calls Tryz.prog 254 #[.pointer (some ⟨rb,0,none⟩),.pointer (some ⟨gb,0,none⟩)] w (MPost (matchM l F (fitsL what) k pos (bindS (nextS l (preS l rq nm st)) (optL l F 0 false false))) u tb gb l nm):=by
 have h1:((strA nm).toList == [101,110,118,101,108,111,112,101])=decide (nm=kEnvelope):=by rw [ByteArray.toList_eq];show (nm == kEnvelope)=_;rw [Bool.eq_iff_iff];simp
 have h2:((strA nm).toList == [115,116,114,105,110,103])=decide (nm=kString):=by rw [ByteArray.toList_eq];show (nm == kString)=_;rw [Bool.eq_iff_iff];simp
 go_enter Tryz.func254,Tryz.ntmps254
 have c0:w.cell? ⟨gb,0,none⟩=some (.string (strA nm)):=blk_cell hnode 0
 obtain ⟨b1,hb1⟩:∃ b1,decide (nm=kEnvelope)=b1:=⟨_,rfl⟩
 obtain ⟨b2,hb2⟩:∃ b2,decide (nm=kString)=b2:=⟨_,rfl⟩
 rw [hb1] at h1
 rw [hb2] at h2
 have HB1:=hide hb1
 have HB2:=hide hb2
 have H:=hide h
 have HN:=hide hnode
 have HQ:=hide hq
 have HM:=hide hm
 have HR:=hide hr
 clear hb1 hb2 h hnode hq hm hr
 have HW:=hide hwhat
 clear hwhat
 have hgw:=blk_lt HN.out
 have hrb:=blk_lt HR.out
 have hgr:gb≠rb:=by omega
 have hgt:gb≠tb:=by omega
 go_upto_if 12 with fail
 go_cut [] (fun wx=>Mod tb u wx∧MNode wx gb nm 0 false∧TSt wx tb l (if nm=kEnvelope then usesS l rq kEnvelope st else st)∧(¬ nm=kEnvelope→wx=w))
 case first=>
  cases b1 with
  | true=>
   have e1:nm=kEnvelope:=of_decide_eq_true HB1.out
   have HU:=hide (quses_any rb tb nv rq l kEnvelope st w (HR.out.mod HM.out hn) HQ.out hz H.out hl)
   have HX:Hid ((if nm=kEnvelope then usesS l rq kEnvelope st else st)=usesS l rq kEnvelope st):=if_pos e1
   have HE:=hide e1
   clear e1
   go_wp2_with fail
   refine HU.out.mono ?_
   rintro e w1 ⟨rfl,hm1,ht1⟩
   have HM1:=hide hm1
   have HT1:=hide ht1
   clear hm1 ht1
   go_wp2
   go_meet
   exact ⟨HM.out.trans HM1.out,blk_mod HN.out HM1.out hgt,by rw [HX.out];exact HT1.out,fun h=>absurd HE.out h⟩
  | false=>
   have e1:¬ nm=kEnvelope:=of_decide_eq_false HB1.out
   have HX:Hid ((if nm=kEnvelope then usesS l rq kEnvelope st else st)=st):=if_neg e1
   clear e1
   go_wp2
   go_meet
   exact ⟨HM.out,HN.out,by rw [HX.out];exact H.out,fun _=>rfl⟩
 case rest=>
  obtain ⟨hm0,hn0,ht0,hw0⟩:=hcut
  have HM0:=hide hm0
  have HN0:=hide hn0
  have HT0:=hide ht0
  have HW0:=hide hw0
  have c0':wc.cell? ⟨gb,0,none⟩=some (.string (strA nm)):=blk_cell hn0 0
  clear hm0 hn0 ht0 hw0 c0
  go_upto_if 19 with fail
  go_cut [] (fun wx=>Mod tb u wx∧MNode wx gb nm 0 false∧TSt wx tb l (preS l rq nm st))
  case first=>
   cases b2 with
   | true=>
    have e2:nm=kString:=of_decide_eq_true HB2.out
    have e1:¬ nm=kEnvelope:=by rw [e2];decide
    obtain rfl:=HW0.out e1
    have HU:=hide (quses_any rb tb nv rq l kVariables st wc (HR.out.mod HM.out hn) HQ.out hz H.out hl)
    have HX:Hid (preS l rq nm st=usesS l rq kVariables st):=by show _=_;unfold preS;rw [if_neg e1,if_pos e2]
    clear e1 e2
    go_wp2_with fail
    refine HU.out.mono ?_
    rintro e w1 ⟨rfl,hm1,ht1⟩
    have HM1:=hide hm1
    have HT1:=hide ht1
    clear hm1 ht1
    go_wp2
    go_meet
    exact ⟨HM.out.trans HM1.out,blk_mod HN.out HM1.out hgt,by rw [HX.out];exact HT1.out⟩
   | false=>
    have e2:¬ nm=kString:=of_decide_eq_false HB2.out
    have HX:Hid (preS l rq nm st=if nm=kEnvelope then usesS l rq kEnvelope st else st):=by show _=_;unfold preS;rw [if_neg e2]
    clear e2
    go_wp2
    go_meet
    exact ⟨HM0.out,HN0.out,by rw [HX.out];exact HT0.out⟩
  case rest=>
   clear HM0 HN0 HT0 HW0 c0' HN HM H HQ
   obtain ⟨hm0,hn0,ht0⟩:=hcut
   have HM0:=hide hm0
   have HN0:=hide hn0
   have HNX:=hide (qnext_st tb l (preS l rq nm st) _ ht0 hl)
   have hr0:=blk_cell (HR.out.mod hm0 hn) 0
   clear hm0 hn0 ht0
   generalize preS l rq nm st=st0 at *
   go_upto_block 0 with (go_at_call 66;refine HNX.out.mono ?_;rintro e w1 ⟨rfl,hm1,ht1⟩;have HM1:=hide (HM0.out.trans hm1);have HT1:=hide ht1;have HN1:=hide (blk_mod HN0.out hm1 hgt);clear hm1 ht1)
   have HO:Hid (OptI (bindS (nextS l st0) (optL l F 0 false false)) l (nextS l st0) 0 false false):=⟨⟨F,fun s hs=>by have ht:=HT1.out;rw [hs] at ht;have:=mu_bound ht hl;omega,rfl⟩,by omega⟩
   generalize bindS (nextS l st0) (optL l F 0 false false)=R at *
   go_cut [] (fun wx=>∃ (st1:Except Flt PS) (tag:Nat) (oct:Bool),Mod tb u wx∧MNode wx gb nm tag oct∧TSt wx tb l st1∧tag≤3∧R=bindS st1 fun s=>.ok ((max tag 1,oct),s))
   case first=>
    go_wp2_with fail
    go_loopg [4,5,6] (muS l (nextS l st0)) (fun m cv _ _ wr=>∃ (st':Except Flt PS) (tag:Nat) (oct cmp:Bool),m=muS l st'∧cv=.bool cmp∧Mod tb u wr∧MNode wr gb nm tag oct∧TSt wr tb l st'∧OptI R l st' tag oct cmp)
    case atStart=>exact ⟨_,0,false,false,rfl,rfl,HM1.out,HN1.out,HT1.out,HO.out⟩
    case round=>
     clear HM0 HN0 HNX HM1 HT1 HN1 HO hr0
     obtain ⟨st',tag,oct,cmp,rfl,rfl,hm,hnd,ht,ho⟩:=hrel
     have HMR:=hide hm
     have HND:=hide hnd
     have HTR:=hide ht
     have HOR:=hide ho
     obtain ⟨c2,c4,c5,_,c7⟩:=ht.cells
     have r0:wr.cell? ⟨rb,0,none⟩=some (.pointer (some ⟨tb,0,none⟩)):=blk_cell (HR.out.mod hm hn) 0
     have g4:wr.cell? ⟨gb,4,none⟩=some (.int .i64 tag):=blk_cell hnd 4
     have g5:wr.cell? ⟨gb,5,none⟩=some (.bool oct):=blk_cell hnd 5
     have hfz:=fun o=>blk_frozen hnd o
     have h3:=ho.t
     clear hm hnd ht ho h1 h2 HB1 HB2 HW
     by_cases hk:(wordS l st').1=58
     rotate_left
     ·have hkb:(((wordS l st').1:Int) == 58)=false:=by simp;omega
      have HE:=hide (opt_end HOR.out HTR.out hk)
      clear hk
      cases heb:((errS st':Int) == 0)
      all_goals go_wp2
      all_goals go_meet
      all_goals exact ⟨st',tag,oct,HMR.out,HND.out,HTR.out,h3,HE.out⟩
     ·have hkb:(((wordS l st').1:Int) == 58)=true:=by simp;omega
      have he:errS st'=0:=by obtain ⟨s,f,hs,he,_⟩:=opt_tag HOR.out HTR.out hk;exact he
      have HFS:Hid (∀ g,failS st' g=.error g):=by
       obtain ⟨s,hs⟩:=HTR.out.err0.1 he
       intro g
       rw [hs]
       rfl
      have heb:((errS st':Int) == 0)=true:=by simp;omega
      clear he
      have HK:=hide hk
      clear hk
      have e1:((strA (wordS l st').2.1).toList == [105,115])=decide ((wordS l st').2.1=qIs):=by rw [ByteArray.toList_eq];show ((wordS l st').2.1 == qIs)=_;rw [Bool.eq_iff_iff];simp
      have e2:((strA (wordS l st').2.1).toList == [99,111,110,116,97,105,110,115])=decide ((wordS l st').2.1=qContains):=by rw [ByteArray.toList_eq];show ((wordS l st').2.1 == qContains)=_;rw [Bool.eq_iff_iff];simp
      have e3:((strA (wordS l st').2.1).toList == [109,97,116,99,104,101,115])=decide ((wordS l st').2.1=qMatches):=by rw [ByteArray.toList_eq];show ((wordS l st').2.1 == qMatches)=_;rw [Bool.eq_iff_iff];simp
      have e4:((strA (wordS l st').2.1).toList == [99,111,109,112,97,114,97,116,111,114])=decide ((wordS l st').2.1=qComparator):=by rw [ByteArray.toList_eq];show ((wordS l st').2.1 == qComparator)=_;rw [Bool.eq_iff_iff];simp
      by_cases x4:(wordS l st').2.1=qComparator
      ·have HX4:=hide x4
       have hw0:whichL [qIs,qContains,qMatches] (wordS l st').2.1=0:=by rw [x4];decide
       have HC:=hide (opt_cmp HOR.out HTR.out HK.out hw0 x4)
       rw [decide_eq_true x4] at e4
       rw [decide_eq_false (by rw [x4];decide)] at e1 e2 e3
       clear x4 hw0
       cases cmp with
       | true=>
        have HRE:Hid (matchM l F (fitsL what) k pos R=.error ⟨7,(wordS l st').2.2.2⟩):=by show _=_;rw [HC.out.1 rfl];rfl
        clear HC
        have HF:=hide (qfail_st tb l st' ⟨7,(wordS l st').2.2.2⟩ wr.drew (HTR.out.block rfl) hl (Nat.succ_ne_zero 6))
        rw [HFS.out] at HF
        go_wp2_with fail
        go_region_with (first | (go_at_call 70;refine HF.out.mono ?_;rintro e w1 h1;obtain ⟨rfl,hm1,ht1⟩:=h1;have HM1:=hide hm1;have HT1:=hide ht1;clear hm1 ht1;skip))
        all_goals go_wp2
        all_goals go_end0
        all_goals exact mpost_bad HRE.out HMR.out ⟨HM1.out.os,HM1.out.tape,HM1.out.output,HM1.out.size,HM1.out.block⟩ HT1.out HND.out hgt
       | false=>
        have HC2:=hide (HC.out.2 rfl)
        clear HC
        go_wp2_with fail
        refine (qnext_st tb l st' _ HTR.out hl).mono ?_
        rintro e w2 ⟨rfl,hm2,ht2⟩
        have HM2:=hide (HMR.out.trans hm2)
        have HN2:=hide (blk_mod HND.out hm2 hgt)
        have HT2:=hide ht2
        clear hm2 ht2
        go_wp2_with fail
        refine (qone_any rb tb nv l 2 (nextS l st') _ (HR.out.mod HM2.out hn) hn HT2.out hl (by decide)).mono ?_
        rintro e w3 h3'
        obtain ⟨hm3,ht3,v,rfl,⟨x,rfl,hxl⟩,hv3⟩:=h3'.st
        have hn3:=blk_mod HN2.out hm3 hgt
        have d5:w3.cell? ⟨gb,5,none⟩=some (.bool oct):=blk_cell hn3 5
        have hfz3:=fun o=>blk_frozen hn3 o
        have e5:((strA x).toList == [105,59,111,99,116,101,116])=decide (x=cOctet):=by rw [ByteArray.toList_eq];show (x == cOctet)=_;rw [Bool.eq_iff_iff];simp
        obtain ⟨b5,hb5⟩:∃ b5,decide (x=cOctet)=b5:=⟨_,rfl⟩
        rw [hb5] at e5
        have HRL:Hid (MNode (w3.setCell ⟨gb,5,none⟩ (.bool b5)) gb nm tag b5∧Mod tb u (w3.setCell ⟨gb,5,none⟩ (.bool b5))∧TSt (w3.setCell ⟨gb,5,none⟩ (.bool b5)) tb l (stOf (bindS (nextS l st') (stringL l (fitsL 2))))∧OptI R l (stOf (bindS (nextS l st') (stringL l (fitsL 2)))) tag b5 true):=by
         refine ⟨heap_setCell_at _ _ _ _ _ _ hn3,(HM2.out.trans hm3).setNew hg _ _,ht3.block (Below.heap_setCell _ _ _ _ (Ne.symm hgt)),?_⟩
         rw [← hb5]
         exact HC2.out.2 x (fun z hz=>(strQ_inj (hv3 z hz)).symm)
        clear h3' hm3 ht3 hv3 hn3 hb5
        go_wp2
        go_roundg (muS l (stOf (bindS (nextS l st') (stringL l (fitsL 2)))))
        case measure=>exact HC2.out.1
        case rel=>exact ⟨_,tag,b5,true,rfl,rfl,HRL.out.2.1,HRL.out.1,HRL.out.2.2.1,HRL.out.2.2.2⟩
      ·rw [decide_eq_false x4] at e4
       by_cases hw0:whichL [qIs,qContains,qMatches] (wordS l st').2.1=0
       ·have HRE:=hide (match_bad (F:=F) (k:=k) (pos:=pos) (chk:=fitsL what) HOR.out HTR.out HK.out hw0 x4)
        have hno:∀ z∈[qIs,qContains,qMatches],¬ (wordS l st').2.1=z:=fun z hz e=>by have:=(whichL_pos_iff (wordS l st').2.1 [qIs,qContains,qMatches]).2 (by rw [e];exact hz);omega
        rw [decide_eq_false (hno _ (by simp))] at e1 e2 e3
        clear hno hw0 x4
        have HF:=hide (qfail_st tb l st' ⟨4,(wordS l st').2.2.2⟩ wr.drew (HTR.out.block rfl) hl (Nat.succ_ne_zero 3))
        rw [HFS.out] at HF
        go_wp2_with fail
        go_region_with (first | (go_at_call 70;refine HF.out.mono ?_;rintro e w1 h1;obtain ⟨rfl,hm1,ht1⟩:=h1;have HM1:=hide hm1;have HT1:=hide ht1;clear hm1 ht1;skip))
        all_goals go_wp2
        all_goals go_end0
        all_goals exact mpost_bad HRE.out HMR.out ⟨HM1.out.os,HM1.out.tape,HM1.out.output,HM1.out.size,HM1.out.block⟩ HT1.out HND.out hgt
       ·have HI:=hide (opt_is (w1:=wr) HOR.out HTR.out HK.out hw0)
        have hmem:(wordS l st').2.1=qIs∨(wordS l st').2.1=qContains∨(wordS l st').2.1=qMatches:=by have:=(whichL_pos_iff (wordS l st').2.1 [qIs,qContains,qMatches]).1 (by omega);simpa using this
        clear hw0 x4
        rcases hmem with hx | hx | hx
        ·have hv:whichL [qIs,qContains,qMatches] (wordS l st').2.1=1:=by rw [hx];decide
         rw [hv] at HI
         rw [decide_eq_true hx] at e1
         rw [decide_eq_false (by rw [hx];decide)] at e2
         rw [decide_eq_false (by rw [hx];decide)] at e3
         clear hv hx
         by_cases ht0:tag=0
         ·subst ht0
          have HI2:=hide (HI.out.2 rfl)
          clear HI
          have HNT:=hide (qnext_st tb l st' (wr.setCell ⟨gb,4,none⟩ (.int .i64 1)) (HTR.out.block (Below.heap_setCell _ _ _ _ (Ne.symm hgt))) hl)
          have HNN:Hid (MNode (wr.setCell ⟨gb,4,none⟩ (.int .i64 1)) gb nm 1 oct):=heap_setCell_at _ _ _ _ _ _ HND.out
          go_wp2_with fail
          refine HNT.out.mono ?_
          rintro e w2 ⟨rfl,hm2,ht2⟩
          have HM2:=hide ((HMR.out.setNew hg _ _).trans hm2)
          have HN2:=hide (blk_mod HNN.out hm2 hgt)
          have HT2:=hide ht2
          clear hm2 ht2
          go_wp2
          go_roundg (muS l (nextS l st'))
          case measure=>exact HI2.out.1
          case rel=>exact ⟨_,1,oct,cmp,rfl,rfl,HM2.out,HN2.out,HT2.out,HI2.out.2⟩
         ·have htb:((tag:Int) != 0)=true:=by simp;omega
          have HRE:Hid (matchM l F (fitsL what) k pos R=.error ⟨7,(wordS l st').2.2.2⟩):=by show _=_;rw [HI.out.1 ht0];rfl
          clear HI ht0
          have HF:=hide (qfail_st tb l st' ⟨7,(wordS l st').2.2.2⟩ wr.drew (HTR.out.block rfl) hl (Nat.succ_ne_zero 6))
          rw [HFS.out] at HF
          go_wp2_with fail
          go_region_with (first | (go_at_call 70;refine HF.out.mono ?_;rintro e w1 h1;obtain ⟨rfl,hm1,ht1⟩:=h1;have HM1:=hide hm1;have HT1:=hide ht1;clear hm1 ht1;skip))
          all_goals go_wp2
          all_goals go_end0
          all_goals exact mpost_bad HRE.out HMR.out ⟨HM1.out.os,HM1.out.tape,HM1.out.output,HM1.out.size,HM1.out.block⟩ HT1.out HND.out hgt
        ·have hv:whichL [qIs,qContains,qMatches] (wordS l st').2.1=2:=by rw [hx];decide
         rw [hv] at HI
         rw [decide_eq_false (by rw [hx];decide)] at e1
         rw [decide_eq_true hx] at e2
         rw [decide_eq_false (by rw [hx];decide)] at e3
         clear hv hx
         by_cases ht0:tag=0
         ·subst ht0
          have HI2:=hide (HI.out.2 rfl)
          clear HI
          have HNT:=hide (qnext_st tb l st' (wr.setCell ⟨gb,4,none⟩ (.int .i64 2)) (HTR.out.block (Below.heap_setCell _ _ _ _ (Ne.symm hgt))) hl)
          have HNN:Hid (MNode (wr.setCell ⟨gb,4,none⟩ (.int .i64 2)) gb nm 2 oct):=heap_setCell_at _ _ _ _ _ _ HND.out
          go_wp2_with fail
          refine HNT.out.mono ?_
          rintro e w2 ⟨rfl,hm2,ht2⟩
          have HM2:=hide ((HMR.out.setNew hg _ _).trans hm2)
          have HN2:=hide (blk_mod HNN.out hm2 hgt)
          have HT2:=hide ht2
          clear hm2 ht2
          go_wp2
          go_roundg (muS l (nextS l st'))
          case measure=>exact HI2.out.1
          case rel=>exact ⟨_,2,oct,cmp,rfl,rfl,HM2.out,HN2.out,HT2.out,HI2.out.2⟩
         ·have htb:((tag:Int) != 0)=true:=by simp;omega
          have HRE:Hid (matchM l F (fitsL what) k pos R=.error ⟨7,(wordS l st').2.2.2⟩):=by show _=_;rw [HI.out.1 ht0];rfl
          clear HI ht0
          have HF:=hide (qfail_st tb l st' ⟨7,(wordS l st').2.2.2⟩ wr.drew (HTR.out.block rfl) hl (Nat.succ_ne_zero 6))
          rw [HFS.out] at HF
          go_wp2_with fail
          go_region_with (first | (go_at_call 70;refine HF.out.mono ?_;rintro e w1 h1;obtain ⟨rfl,hm1,ht1⟩:=h1;have HM1:=hide hm1;have HT1:=hide ht1;clear hm1 ht1;skip))
          all_goals go_wp2
          all_goals go_end0
          all_goals exact mpost_bad HRE.out HMR.out ⟨HM1.out.os,HM1.out.tape,HM1.out.output,HM1.out.size,HM1.out.block⟩ HT1.out HND.out hgt
        ·have hv:whichL [qIs,qContains,qMatches] (wordS l st').2.1=3:=by rw [hx];decide
         rw [hv] at HI
         rw [decide_eq_false (by rw [hx];decide)] at e1
         rw [decide_eq_false (by rw [hx];decide)] at e2
         rw [decide_eq_true hx] at e3
         clear hv hx
         by_cases ht0:tag=0
         ·subst ht0
          have HI2:=hide (HI.out.2 rfl)
          clear HI
          have HNT:=hide (qnext_st tb l st' (wr.setCell ⟨gb,4,none⟩ (.int .i64 3)) (HTR.out.block (Below.heap_setCell _ _ _ _ (Ne.symm hgt))) hl)
          have HNN:Hid (MNode (wr.setCell ⟨gb,4,none⟩ (.int .i64 3)) gb nm 3 oct):=heap_setCell_at _ _ _ _ _ _ HND.out
          go_wp2_with fail
          refine HNT.out.mono ?_
          rintro e w2 ⟨rfl,hm2,ht2⟩
          have HM2:=hide ((HMR.out.setNew hg _ _).trans hm2)
          have HN2:=hide (blk_mod HNN.out hm2 hgt)
          have HT2:=hide ht2
          clear hm2 ht2
          go_wp2
          go_roundg (muS l (nextS l st'))
          case measure=>exact HI2.out.1
          case rel=>exact ⟨_,3,oct,cmp,rfl,rfl,HM2.out,HN2.out,HT2.out,HI2.out.2⟩
         ·have htb:((tag:Int) != 0)=true:=by simp;omega
          have HRE:Hid (matchM l F (fitsL what) k pos R=.error ⟨7,(wordS l st').2.2.2⟩):=by show _=_;rw [HI.out.1 ht0];rfl
          clear HI ht0
          have HF:=hide (qfail_st tb l st' ⟨7,(wordS l st').2.2.2⟩ wr.drew (HTR.out.block rfl) hl (Nat.succ_ne_zero 6))
          rw [HFS.out] at HF
          go_wp2_with fail
          go_region_with (first | (go_at_call 70;refine HF.out.mono ?_;rintro e w1 h1;obtain ⟨rfl,hm1,ht1⟩:=h1;have HM1:=hide hm1;have HT1:=hide ht1;clear hm1 ht1;skip))
          all_goals go_wp2
          all_goals go_end0
          all_goals exact mpost_bad HRE.out HMR.out ⟨HM1.out.os,HM1.out.tape,HM1.out.output,HM1.out.size,HM1.out.block⟩ HT1.out HND.out hgt
   case rest=>
    clear HM0 HN0 HNX HM1 HT1 HN1 HO hr0
    obtain ⟨st1,tag,oct,hm,hnd,ht,h3,hR⟩:=hcut
    have hkey:(((tag:Int) == 0)=true∧max tag 1=1)∨(((tag:Int) == 0)=false∧max tag 1=tag):=by
     rcases Nat.eq_zero_or_pos tag with h0 | h0
     ·left;subst h0;exact ⟨rfl,rfl⟩
     ·right;exact ⟨by simp;omega,by omega⟩
    have hwb:(b1=true∧what=3)∨(b1=false∧what=0):=by
     cases b1 with
     | true=>left;exact ⟨rfl,by rw [HW.out,if_pos (of_decide_eq_true HB1.out)]⟩
     | false=>right;exact ⟨rfl,by rw [HW.out,if_neg (of_decide_eq_false HB1.out)]⟩
    have hME:=hide (match_end (l:=l) (F:=F) (k:=k) (pos:=pos) (what:=what) hR)
    have HMM:=hide hm
    have HND:=hide hnd
    have HTT:=hide ht
    have c0:=blk_cell hnd 0
    have c4:=blk_cell hnd 4
    have hfz:=fun o=>blk_frozen hnd o
    clear hm hnd ht hR HW HB1 HB2 h2
    have HWa:Hid (MNode (wc.setCell ⟨gb,4,none⟩ (.int .i64 1)) gb nm 1 oct∧TSt (wc.setCell ⟨gb,4,none⟩ (.int .i64 1)) tb l st1∧Mod tb u (wc.setCell ⟨gb,4,none⟩ (.int .i64 1))):=⟨heap_setCell_at _ _ _ _ _ _ HND.out,HTT.out.block (Below.heap_setCell _ _ _ _ (Ne.symm hgt)),HMM.out.setNew hg _ _⟩
    have HWb:Hid (MNode wc gb nm tag oct∧TSt wc tb l st1∧Mod tb u wc):=⟨HND.out,HTT.out,HMM.out⟩
    rcases hkey with ⟨hb,hx⟩ | ⟨hb,hx⟩
    all_goals rw [hx] at hME
    all_goals rcases hwb with ⟨rfl,rfl⟩ | ⟨rfl,rfl⟩
    all_goals go_wp2_with fail
    all_goals
     first | (have HA:=HWa;clear HWa HWb;refine (qstrings_any rb tb nv l _ F st1 _ (HR.out.mod HA.out.2.2 hn) hn HA.out.2.1 hl (by decide) hF).mono ?_) | (have HA:=HWb;clear HWa HWb;refine (qstrings_any rb tb nv l _ F st1 _ (HR.out.mod HA.out.2.2 hn) hn HA.out.2.1 hl (by decide) hF).mono ?_)
     rintro e w2 h2
     obtain ⟨hm2,ht2,v,rfl,⟨xs,hv⟩,hv2⟩:=h2.st
     obtain ⟨g2,n2,k2,rfl⟩:=hv.form
     have hlt:=blk_lt HA.out.1
     have hn2:=blk_mod HA.out.1 hm2 hgt
     have HM2:=hide (HA.out.2.2.trans hm2)
     have HN2:=hide (heap_setCell_at _ _ 2 (.slice (some ⟨g2,0,none⟩) n2 k2) _ _ hn2)
     have HT2:=hide (TSt.block (w':=w2.setCell ⟨gb,2,none⟩ (.slice (some ⟨g2,0,none⟩) n2 k2)) ht2 (Below.heap_setCell _ _ _ _ (Ne.symm hgt)))
     have HV2:=hide hv2
     have hfz2:=fun o=>blk_frozen hn2 o
     have d2:w2.cell? ⟨gb,2,none⟩=some (.slice none 0 0):=blk_cell hn2 2
     clear h2 hm2 ht2 hv2 hv hn2
     go_wp2_with fail
     refine (qstrings_any rb tb nv l 0 F _ _ (HR.out.mod (HM2.out.setNew hg 2 (.slice (some ⟨g2,0,none⟩) n2 k2)) hn) hn HT2.out hl (by decide) hF).mono ?_
     rintro e w3 h3
     obtain ⟨hm3,ht3,v3,rfl,⟨xs3,hv3⟩,hv4⟩:=h3.st
     obtain ⟨g3,n3,k3,rfl⟩:=hv3.form
     have hn3:=blk_mod HN2.out hm3 hgt
     have HM3:=hide ((HM2.out.setNew hg 2 (.slice (some ⟨g2,0,none⟩) n2 k2)).trans hm3)
     have HN3:=hide (heap_setCell_at _ _ 3 (.slice (some ⟨g3,0,none⟩) n3 k3) _ _ hn3)
     have HT3:=hide (TSt.block (w':=w3.setCell ⟨gb,3,none⟩ (.slice (some ⟨g3,0,none⟩) n3 k3)) ht3 (Below.heap_setCell _ _ _ _ (Ne.symm hgt)))
     have HV4:=hide hv4
     have hz2:=HM2.out.size
     have hl2:gb < w2.heap.size:=by have:=blk_lt HN2.out;rw [World.size_setCell] at this;exact this
     have hz3:=hm3.size
     have HK:=hide hm3
     have hfz3:=fun o=>blk_frozen hn3 o
     have d3:w3.cell? ⟨gb,3,none⟩=some (.slice none 0 0):=blk_cell hn3 3
     clear h3 hm3 ht3 hv4 hv3 hn3
     go_wp2
     go_end0
     refine ⟨rfl,HM3.out.setNew hg _ _,by rw [hME.out.1];exact HT3.out,⟨_,HN3.out⟩,fun y hy=>?_⟩
     obtain ⟨a,b,ha,hb,hyy⟩:=hME.out.2 y hy
     rw [hyy]
     refine ⟨_,_,HN3.out,?_,?_⟩
     ·exact ((((HV2.out a ha).keep (Abv.set hlt _ _)).keep (HK.out.abv (by have:=HA.out.2.2.size;omega))).keep (Abv.set hlt _ _)).toX.weak (fun k hk _=>Nat.le_trans HA.out.2.2.size hk)
     ·exact ((HV4.out b hb).keep (Abv.set (by rw [World.size_setCell];omega) _ _)).toX.weak (fun k hk _=>by have hk':_≤k:=hk;rw [World.size_setCell] at hk';show u.heap.size≤k;omega)
end Go.Proofs.YtgnkjijocdmniaaGreatDoor
