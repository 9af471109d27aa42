import Derived.Test.YtgnkjijocdmniaaGreatDoorZQCmdL
namespace Go.Proofs.YtgnkjijocdmniaaGreatDoor
set_option linter.unusedVariables false
set_option linter.unusedSimpArgs false
set_option maxRecDepth 100000
set_option maxHeartbeats 4000000
open Go.RowKit
attribute [local go_sem ↓] Go.wp_at_zero Go.wp_at_succ
theorem arg_is {α β:Type} {w:World} {tb:Nat} {l:List UInt8} {st:Except Flt PS} {mk:List UInt8→α} (h:TSt w tb l (stOf (bindS st (stringL l (fitsL 0))))):stOf (bindS st fun s=>thenL (stringL l (fun _=>0) s) fun x s1=>semi l s1 (mk x))=signS l 59 (stOf (bindS st (stringL l (fitsL 0))))∧∀ y,(bindS st fun s=>thenL (stringL l (fun _=>0) s) fun x s1=>semi l s1 (mk x))=.ok y→∃ z,bindS st (stringL l (fitsL 0))=.ok z∧y.1=mk z.1:=by
 rw [fits0] at h ⊢
 cases st with
 | error g=>exact ⟨by simp only [bindS,stOf];unfold signS;split <;> rfl,fun y e=>by cases e⟩
 | ok s=>
  simp only [bindS] at h ⊢
  cases hz:stringL l (fun _=>0) s with
  | error g=>exact ⟨by simp only [thenL,stOf];unfold signS;split <;> rfl,fun y e=>by cases e⟩
  | ok z=>
   rw [hz] at h
   have e:=semi_is (a:=mk z.1) h
   have e2:bindS (stOf (Except.ok z)) (fun s=>semi l s (mk z.1))=semi l z.2 (mk z.1):=rfl
   rw [e2] at e
   simp only [thenL]
   rw [e]
   exact ⟨stOf_ok,fun y hy=>⟨z,rfl,bind_ok hy⟩⟩
theorem qcmd_fileinto (rb tb:Nat) (nv:Value) (rq:List (List UInt8)) (l:List UInt8) (F n deep:Nat) (st:Except Flt PS) (w:World) (hr:RdI w rb tb nv rq) (h:TSt w tb l st) (hl:l.length≤600) (hF:2*l.length+2≤F) (hd:deep+n=6) (hk:(wordS l st).1=119) (hw:(wordS l st).2.1=kFileinto) :
 Calls Tryz.prog 115 #[.pointer (some ⟨rb,0,none⟩),.int .i64 deep] w (QPost (bindS st (cmdL l rq F (n+1))) tb l w (RCmd (n+1) (fromB w.heap.size)) anyPtr):=by
 have HX:Hid (bindS st (cmdL l rq F (n+1))=bindS (nextS l (usesS l rq kFileinto st)) fun s=>thenL (stringL l (fun _=>0) s) fun x s1=>semi l s1 (⟨3,(wordS l st).2.2.2,0,x,[],false⟩,[],[])):=by
  show _=_
  rw [cmd_is h hk (by rw [hw];decide),hw]
  rw [show preC l rq kFileinto st=usesS l rq kFileinto st from if_pos (by decide)]
  rfl
 have r0:w.cell? ⟨rb,0,none⟩=some (.pointer (some ⟨tb,0,none⟩)):=blk_cell hr.r 0
 obtain ⟨c2,c4,c5,c6,c7⟩:=h.cells
 have H:=hide h
 have HR:=hide hr
 have hrl:=blk_lt hr.r
 have htl:=h.lt
 have hgt:w.heap.size≠tb:=by omega
 have hgr:w.heap.size≠rb:=by omega
 have hdb:decide ((6:Int) < (deep:Int))=false:=decide_eq_false (by omega)
 obtain ⟨nm,hnm⟩:∃ nm,(wordS l st).2.1=nm:=⟨_,rfl⟩
 rw [hnm] at c5 hw
 have hx:=hw
 have e0:((strA nm).toList == [107,101,101,112])=false:=by rw [str_eq,hx];decide
 have e1:((strA nm).toList == [100,105,115,99,97,114,100])=false:=by rw [str_eq,hx];decide
 have e2:((strA nm).toList == [115,116,111,112])=false:=by rw [str_eq,hx];decide
 have e3:((strA nm).toList == [102,105,108,101,105,110,116,111])=true:=by rw [str_eq,hx];decide
 have e4:((strA nm).toList == [114,101,100,105,114,101,99,116])=false:=by rw [str_eq,hx];decide
 have e4':((strA nm).toList != [114,101,100,105,114,101,99,116])=true:=by show (!((strA nm).toList == [114,101,100,105,114,101,99,116]))=true;rw [str_eq,hx];decide
 obtain ⟨W0,hW0⟩:∃ W0,W0=(w.alloc (.cells #[.string (strA nm),.slice none 0 0,.int .i64 0,.slice none 0 0,.slice none 0 0,.int .i64 (wordS l st).2.2.2] 155)).drew:=⟨_,rfl⟩
 have HWW:=hide hW0
 have HM0:Hid (Mod tb w W0):=by show Mod _ _ _;rw [hW0];exact ((Mod.refl _ _).alloc _).drew
 have HN0:Hid (CNode W0 w.heap.size nm (.slice none 0 0) 0 (.slice none 0 0) (.slice none 0 0) (wordS l st).2.2.2):=by show W0.heap[w.heap.size]?=_;rw [hW0];exact blk_new _ _
 have HT0:Hid (TSt W0 tb l st):=by show TSt _ _ _ _;rw [hW0];exact (h.below ((Below.refl _ _).alloc (Nat.le_refl _) (.cells #[.string (strA nm),.slice none 0 0,.int .i64 0,.slice none 0 0,.slice none 0 0,.int .i64 (wordS l st).2.2.2] 155))).block rfl
 clear h hr hW0 hk hnm
 have HWN:=hide hw
 clear hw hx
 go_enter Tryz.func115,Tryz.ntmps115
 go_wp2_with fail
 go_region
 rw [← HWW.out]
 have d0:W0.cell? ⟨rb,0,none⟩=some (.pointer (some ⟨tb,0,none⟩)):=blk_cell (HR.out.r.mod HM0.out HR.out.n) 0
 have n0:W0.cell? ⟨w.heap.size,0,none⟩=some (.string (strA nm)):=blk_cell HN0.out 0
 have n5:W0.cell? ⟨w.heap.size,5,none⟩=some (.int .i64 (wordS l st).2.2.2):=blk_cell HN0.out 5
 go_wp2_with fail
 refine (quses_any rb tb nv rq l nm st W0 (HR.out.mod HM0.out).r (HR.out.mod HM0.out).txl HR.out.z HT0.out hl).mono ?_
 rintro e w0 ⟨rfl,hm0,ht0⟩
 rw [HWN.out] at ht0
 have HM0':=hide (HM0.out.trans hm0)
 have HN0':=hide (blk_mod HN0.out hm0 hgt)
 have HT0':=hide ht0
 have q0:w0.cell? ⟨rb,0,none⟩=some (.pointer (some ⟨tb,0,none⟩)):=blk_cell (HR.out.mod HM0'.out).r 0
 clear hm0 ht0
 go_wp2_with fail
 refine (qnext_st tb l _ _ HT0'.out hl).mono ?_
 rintro e w1 ⟨rfl,hm1,ht1⟩
 have HM1:=hide (HM0'.out.trans hm1)
 have HN1:=hide (blk_mod HN0'.out hm1 hgt)
 have HT1:=hide ht1
 clear hm1 ht1
 go_wp2_with fail
 refine (qone_any rb tb nv l 0 _ _ (HR.out.mod HM1.out).r HR.out.n HT1.out hl (Nat.zero_le _)).mono ?_
 rintro e w2 h2
 obtain ⟨hm2,ht2,v,rfl,⟨x,rfl,hxl⟩,hv2⟩:=h2.st
 have HV2:=hide hv2
 have HAI:=hide (arg_is (α:=CLab×List (TestT n×List (CmdT n))×List (CmdT n)) (β:=Unit) (mk:=fun x=>(⟨3,(wordS l st).2.2.2,0,x,[],false⟩,[],[])) ht2)
 have hnb:=blk_mod HN1.out hm2 hgt
 have hs2:w.heap.size < w2.heap.size:=blk_lt hnb
 obtain ⟨W3,hW3⟩:∃ W3,W3=(w2.setCell ⟨w.heap.size,1,none⟩ (.slice (some ⟨w2.heap.size,0,none⟩) 1 1)).alloc (.cells #[.string (strA x)] 9):=⟨_,rfl⟩
 have HW3:=hide hW3
 obtain ⟨hm3,hn3,hc3,hb3⟩:=set_alloc (HM1.out.trans hm2) hnb 1 (.slice (some ⟨w2.heap.size,0,none⟩) 1 1) (.cells #[.string (strA x)] 9)
 rw [← hW3] at hm3 hn3 hc3 hb3
 have HM3:=hide hm3
 have HN3:Hid (CNode W3 w.heap.size nm (.slice (some ⟨w2.heap.size,0,none⟩) 1 1) 0 (.slice none 0 0) (.slice none 0 0) (wordS l st).2.2.2):=hn3
 have HT3:=hide (ht2.block (hb3 tb ht2.lt (Ne.symm hgt)))
 have HS3:Hid (slX (fromB w.heap.size) [x] W3 (.slice (some ⟨w2.heap.size,0,none⟩) 1 1)):=by
  refine ⟨w2.heap.size,1,rfl,Nat.le_of_lt hs2,fun j hj=>?_,by simp⟩
  have h0:j=0:=by simpa using hj
  subst h0
  exact blk_cell hc3 0
 have hfz2:=fun o=>blk_frozen hnb o
 have d2:w2.cell? ⟨w.heap.size,1,none⟩=some (.slice none 0 0):=blk_cell hnb 1
 have HS4:=hide (qsign_any rb tb nv l 59 _ _ (HR.out.mod HM3.out).r HT3.out hl)
 clear h2 hm2 ht2 hv2 hnb hm3 hn3 hc3 hb3 hW3
 go_wp2_with fail
 rw [← HW3.out]
 refine HS4.out.mono ?_
 rintro e w4 ⟨rfl,hm4,ht4⟩
 have HM4:=hide (HM3.out.trans hm4)
 have HN4:=hide (blk_mod HN3.out hm4 hgt)
 have HS5:=hide (HS3.out.keep (hm4.abvX (fun e=>by have e':w.heap.size≤tb:=e;omega)))
 have HT4:=hide ht4
 clear hm4 ht4
 go_wp2
 go_ret
 refine QPost.mk HM4.out (by rw [(congrArg stOf HX.out).trans HAI.out.1];exact HT4.out) ⟨_,rfl⟩ (fun y hy=>?_)
 obtain ⟨z,hz,hy1⟩:=HAI.out.2 y (HX.out.symm.trans hy)
 have:=strQ_inj (HV2.out z hz)
 subst this
 rw [hy1]
 exact rcmd_mk (Nat.le_refl _) HN4.out HWN.out.symm (Or.inr HS5.out) (Or.inl ⟨rfl,rfl⟩) (Or.inl ⟨rfl,rfl⟩)
theorem qcmd_redirect (rb tb:Nat) (nv:Value) (rq:List (List UInt8)) (l:List UInt8) (F n deep:Nat) (st:Except Flt PS) (w:World) (hr:RdI w rb tb nv rq) (h:TSt w tb l st) (hl:l.length≤600) (hF:2*l.length+2≤F) (hd:deep+n=6) (hk:(wordS l st).1=119) (hw:(wordS l st).2.1=kRedirect) :
 Calls Tryz.prog 115 #[.pointer (some ⟨rb,0,none⟩),.int .i64 deep] w (QPost (bindS st (cmdL l rq F (n+1))) tb l w (RCmd (n+1) (fromB w.heap.size)) anyPtr):=by
 have HX:Hid (bindS st (cmdL l rq F (n+1))=bindS (nextS l st) fun s=>thenL (stringL l (fun _=>0) s) fun x s1=>semi l s1 (⟨4,(wordS l st).2.2.2,0,x,[],false⟩,[],[])):=by
  show _=_
  rw [cmd_is h hk (by rw [hw];decide),hw]
  rw [prec_none (by decide) (by decide)]
  rfl
 have r0:w.cell? ⟨rb,0,none⟩=some (.pointer (some ⟨tb,0,none⟩)):=blk_cell hr.r 0
 obtain ⟨c2,c4,c5,c6,c7⟩:=h.cells
 have H:=hide h
 have HR:=hide hr
 have hrl:=blk_lt hr.r
 have htl:=h.lt
 have hgt:w.heap.size≠tb:=by omega
 have hgr:w.heap.size≠rb:=by omega
 have hdb:decide ((6:Int) < (deep:Int))=false:=decide_eq_false (by omega)
 obtain ⟨nm,hnm⟩:∃ nm,(wordS l st).2.1=nm:=⟨_,rfl⟩
 rw [hnm] at c5 hw
 have hx:=hw
 have e0:((strA nm).toList == [107,101,101,112])=false:=by rw [str_eq,hx];decide
 have e1:((strA nm).toList == [100,105,115,99,97,114,100])=false:=by rw [str_eq,hx];decide
 have e2:((strA nm).toList == [115,116,111,112])=false:=by rw [str_eq,hx];decide
 have e3:((strA nm).toList == [102,105,108,101,105,110,116,111])=false:=by rw [str_eq,hx];decide
 have e4:((strA nm).toList == [114,101,100,105,114,101,99,116])=true:=by rw [str_eq,hx];decide
 have e4':((strA nm).toList != [114,101,100,105,114,101,99,116])=false:=by show (!((strA nm).toList == [114,101,100,105,114,101,99,116]))=false;rw [str_eq,hx];decide
 obtain ⟨W0,hW0⟩:∃ W0,W0=(w.alloc (.cells #[.string (strA nm),.slice none 0 0,.int .i64 0,.slice none 0 0,.slice none 0 0,.int .i64 (wordS l st).2.2.2] 155)).drew:=⟨_,rfl⟩
 have HWW:=hide hW0
 have HM0:Hid (Mod tb w W0):=by show Mod _ _ _;rw [hW0];exact ((Mod.refl _ _).alloc _).drew
 have HN0:Hid (CNode W0 w.heap.size nm (.slice none 0 0) 0 (.slice none 0 0) (.slice none 0 0) (wordS l st).2.2.2):=by show W0.heap[w.heap.size]?=_;rw [hW0];exact blk_new _ _
 have HT0:Hid (TSt W0 tb l st):=by show TSt _ _ _ _;rw [hW0];exact (h.below ((Below.refl _ _).alloc (Nat.le_refl _) (.cells #[.string (strA nm),.slice none 0 0,.int .i64 0,.slice none 0 0,.slice none 0 0,.int .i64 (wordS l st).2.2.2] 155))).block rfl
 clear h hr hW0 hk hnm
 have HWN:=hide hw
 clear hw hx
 go_enter Tryz.func115,Tryz.ntmps115
 go_wp2_with fail
 go_region
 rw [← HWW.out]
 have d0:W0.cell? ⟨rb,0,none⟩=some (.pointer (some ⟨tb,0,none⟩)):=blk_cell (HR.out.r.mod HM0.out HR.out.n) 0
 have n0:W0.cell? ⟨w.heap.size,0,none⟩=some (.string (strA nm)):=blk_cell HN0.out 0
 have n5:W0.cell? ⟨w.heap.size,5,none⟩=some (.int .i64 (wordS l st).2.2.2):=blk_cell HN0.out 5
 go_wp2_with fail
 refine (qnext_st tb l st W0 HT0.out hl).mono ?_
 rintro e w1 ⟨rfl,hm1,ht1⟩
 have HM1:=hide (HM0.out.trans hm1)
 have HN1:=hide (blk_mod HN0.out hm1 hgt)
 have HT1:=hide ht1
 clear hm1 ht1
 go_wp2_with fail
 refine (qone_any rb tb nv l 0 _ _ (HR.out.mod HM1.out).r HR.out.n HT1.out hl (Nat.zero_le _)).mono ?_
 rintro e w2 h2
 obtain ⟨hm2,ht2,v,rfl,⟨x,rfl,hxl⟩,hv2⟩:=h2.st
 have HV2:=hide hv2
 have HAI:=hide (arg_is (α:=CLab×List (TestT n×List (CmdT n))×List (CmdT n)) (β:=Unit) (mk:=fun x=>(⟨4,(wordS l st).2.2.2,0,x,[],false⟩,[],[])) ht2)
 have hnb:=blk_mod HN1.out hm2 hgt
 have hs2:w.heap.size < w2.heap.size:=blk_lt hnb
 obtain ⟨W3,hW3⟩:∃ W3,W3=(w2.setCell ⟨w.heap.size,1,none⟩ (.slice (some ⟨w2.heap.size,0,none⟩) 1 1)).alloc (.cells #[.string (strA x)] 9):=⟨_,rfl⟩
 have HW3:=hide hW3
 obtain ⟨hm3,hn3,hc3,hb3⟩:=set_alloc (HM1.out.trans hm2) hnb 1 (.slice (some ⟨w2.heap.size,0,none⟩) 1 1) (.cells #[.string (strA x)] 9)
 rw [← hW3] at hm3 hn3 hc3 hb3
 have HM3:=hide hm3
 have HN3:Hid (CNode W3 w.heap.size nm (.slice (some ⟨w2.heap.size,0,none⟩) 1 1) 0 (.slice none 0 0) (.slice none 0 0) (wordS l st).2.2.2):=hn3
 have HT3:=hide (ht2.block (hb3 tb ht2.lt (Ne.symm hgt)))
 have HS3:Hid (slX (fromB w.heap.size) [x] W3 (.slice (some ⟨w2.heap.size,0,none⟩) 1 1)):=by
  refine ⟨w2.heap.size,1,rfl,Nat.le_of_lt hs2,fun j hj=>?_,by simp⟩
  have h0:j=0:=by simpa using hj
  subst h0
  exact blk_cell hc3 0
 have hfz2:=fun o=>blk_frozen hnb o
 have d2:w2.cell? ⟨w.heap.size,1,none⟩=some (.slice none 0 0):=blk_cell hnb 1
 have HS4:=hide (qsign_any rb tb nv l 59 _ _ (HR.out.mod HM3.out).r HT3.out hl)
 clear h2 hm2 ht2 hv2 hnb hm3 hn3 hc3 hb3 hW3
 go_wp2_with fail
 rw [← HW3.out]
 refine HS4.out.mono ?_
 rintro e w4 ⟨rfl,hm4,ht4⟩
 have HM4:=hide (HM3.out.trans hm4)
 have HN4:=hide (blk_mod HN3.out hm4 hgt)
 have HS5:=hide (HS3.out.keep (hm4.abvX (fun e=>by have e':w.heap.size≤tb:=e;omega)))
 have HT4:=hide ht4
 clear hm4 ht4
 go_wp2
 go_ret
 refine QPost.mk HM4.out (by rw [(congrArg stOf HX.out).trans HAI.out.1];exact HT4.out) ⟨_,rfl⟩ (fun y hy=>?_)
 obtain ⟨z,hz,hy1⟩:=HAI.out.2 y (HX.out.symm.trans hy)
 have:=strQ_inj (HV2.out z hz)
 subst this
 rw [hy1]
 exact rcmd_mk (Nat.le_refl _) HN4.out HWN.out.symm (Or.inr HS5.out) (Or.inl ⟨rfl,rfl⟩) (Or.inl ⟨rfl,rfl⟩)
theorem qcmd_reject (rb tb:Nat) (nv:Value) (rq:List (List UInt8)) (l:List UInt8) (F n deep:Nat) (st:Except Flt PS) (w:World) (hr:RdI w rb tb nv rq) (h:TSt w tb l st) (hl:l.length≤600) (hF:2*l.length+2≤F) (hd:deep+n=6) (hk:(wordS l st).1=119) (hw:(wordS l st).2.1=kReject) :
 Calls Tryz.prog 115 #[.pointer (some ⟨rb,0,none⟩),.int .i64 deep] w (QPost (bindS st (cmdL l rq F (n+1))) tb l w (RCmd (n+1) (fromB w.heap.size)) anyPtr):=by
 have HX:Hid (bindS st (cmdL l rq F (n+1))=bindS (nextS l (usesS l rq kReject st)) fun s=>thenL (stringL l (fun _=>0) s) fun x s1=>semi l s1 (⟨5,(wordS l st).2.2.2,0,x,[],false⟩,[],[])):=by
  show _=_
  rw [cmd_is h hk (by rw [hw];decide),hw]
  rw [show preC l rq kReject st=usesS l rq kReject st from if_pos (by decide)]
  rfl
 have r0:w.cell? ⟨rb,0,none⟩=some (.pointer (some ⟨tb,0,none⟩)):=blk_cell hr.r 0
 obtain ⟨c2,c4,c5,c6,c7⟩:=h.cells
 have H:=hide h
 have HR:=hide hr
 have hrl:=blk_lt hr.r
 have htl:=h.lt
 have hgt:w.heap.size≠tb:=by omega
 have hgr:w.heap.size≠rb:=by omega
 have hdb:decide ((6:Int) < (deep:Int))=false:=decide_eq_false (by omega)
 obtain ⟨nm,hnm⟩:∃ nm,(wordS l st).2.1=nm:=⟨_,rfl⟩
 rw [hnm] at c5 hw
 have hx:=hw
 have e0:((strA nm).toList == [107,101,101,112])=false:=by rw [str_eq,hx];decide
 have e1:((strA nm).toList == [100,105,115,99,97,114,100])=false:=by rw [str_eq,hx];decide
 have e2:((strA nm).toList == [115,116,111,112])=false:=by rw [str_eq,hx];decide
 have e3:((strA nm).toList == [102,105,108,101,105,110,116,111])=false:=by rw [str_eq,hx];decide
 have e4:((strA nm).toList == [114,101,100,105,114,101,99,116])=false:=by rw [str_eq,hx];decide
 have e5:((strA nm).toList == [114,101,106,101,99,116])=true:=by rw [str_eq,hx];decide
 have e4':((strA nm).toList != [114,101,100,105,114,101,99,116])=true:=by show (!((strA nm).toList == [114,101,100,105,114,101,99,116]))=true;rw [str_eq,hx];decide
 obtain ⟨W0,hW0⟩:∃ W0,W0=(w.alloc (.cells #[.string (strA nm),.slice none 0 0,.int .i64 0,.slice none 0 0,.slice none 0 0,.int .i64 (wordS l st).2.2.2] 155)).drew:=⟨_,rfl⟩
 have HWW:=hide hW0
 have HM0:Hid (Mod tb w W0):=by show Mod _ _ _;rw [hW0];exact ((Mod.refl _ _).alloc _).drew
 have HN0:Hid (CNode W0 w.heap.size nm (.slice none 0 0) 0 (.slice none 0 0) (.slice none 0 0) (wordS l st).2.2.2):=by show W0.heap[w.heap.size]?=_;rw [hW0];exact blk_new _ _
 have HT0:Hid (TSt W0 tb l st):=by show TSt _ _ _ _;rw [hW0];exact (h.below ((Below.refl _ _).alloc (Nat.le_refl _) (.cells #[.string (strA nm),.slice none 0 0,.int .i64 0,.slice none 0 0,.slice none 0 0,.int .i64 (wordS l st).2.2.2] 155))).block rfl
 clear h hr hW0 hk hnm
 have HWN:=hide hw
 clear hw hx
 go_enter Tryz.func115,Tryz.ntmps115
 go_wp2_with fail
 go_region
 rw [← HWW.out]
 have d0:W0.cell? ⟨rb,0,none⟩=some (.pointer (some ⟨tb,0,none⟩)):=blk_cell (HR.out.r.mod HM0.out HR.out.n) 0
 have n0:W0.cell? ⟨w.heap.size,0,none⟩=some (.string (strA nm)):=blk_cell HN0.out 0
 have n5:W0.cell? ⟨w.heap.size,5,none⟩=some (.int .i64 (wordS l st).2.2.2):=blk_cell HN0.out 5
 go_wp2_with fail
 refine (quses_any rb tb nv rq l nm st W0 (HR.out.mod HM0.out).r (HR.out.mod HM0.out).txl HR.out.z HT0.out hl).mono ?_
 rintro e w0 ⟨rfl,hm0,ht0⟩
 rw [HWN.out] at ht0
 have HM0':=hide (HM0.out.trans hm0)
 have HN0':=hide (blk_mod HN0.out hm0 hgt)
 have HT0':=hide ht0
 have q0:w0.cell? ⟨rb,0,none⟩=some (.pointer (some ⟨tb,0,none⟩)):=blk_cell (HR.out.mod HM0'.out).r 0
 clear hm0 ht0
 go_wp2_with fail
 refine (qnext_st tb l _ _ HT0'.out hl).mono ?_
 rintro e w1 ⟨rfl,hm1,ht1⟩
 have HM1:=hide (HM0'.out.trans hm1)
 have HN1:=hide (blk_mod HN0'.out hm1 hgt)
 have HT1:=hide ht1
 clear hm1 ht1
 go_wp2_with fail
 refine (qone_any rb tb nv l 0 _ _ (HR.out.mod HM1.out).r HR.out.n HT1.out hl (Nat.zero_le _)).mono ?_
 rintro e w2 h2
 obtain ⟨hm2,ht2,v,rfl,⟨x,rfl,hxl⟩,hv2⟩:=h2.st
 have HV2:=hide hv2
 have HAI:=hide (arg_is (α:=CLab×List (TestT n×List (CmdT n))×List (CmdT n)) (β:=Unit) (mk:=fun x=>(⟨5,(wordS l st).2.2.2,0,x,[],false⟩,[],[])) ht2)
 have hnb:=blk_mod HN1.out hm2 hgt
 have hs2:w.heap.size < w2.heap.size:=blk_lt hnb
 obtain ⟨W3,hW3⟩:∃ W3,W3=(w2.setCell ⟨w.heap.size,1,none⟩ (.slice (some ⟨w2.heap.size,0,none⟩) 1 1)).alloc (.cells #[.string (strA x)] 9):=⟨_,rfl⟩
 have HW3:=hide hW3
 obtain ⟨hm3,hn3,hc3,hb3⟩:=set_alloc (HM1.out.trans hm2) hnb 1 (.slice (some ⟨w2.heap.size,0,none⟩) 1 1) (.cells #[.string (strA x)] 9)
 rw [← hW3] at hm3 hn3 hc3 hb3
 have HM3:=hide hm3
 have HN3:Hid (CNode W3 w.heap.size nm (.slice (some ⟨w2.heap.size,0,none⟩) 1 1) 0 (.slice none 0 0) (.slice none 0 0) (wordS l st).2.2.2):=hn3
 have HT3:=hide (ht2.block (hb3 tb ht2.lt (Ne.symm hgt)))
 have HS3:Hid (slX (fromB w.heap.size) [x] W3 (.slice (some ⟨w2.heap.size,0,none⟩) 1 1)):=by
  refine ⟨w2.heap.size,1,rfl,Nat.le_of_lt hs2,fun j hj=>?_,by simp⟩
  have h0:j=0:=by simpa using hj
  subst h0
  exact blk_cell hc3 0
 have hfz2:=fun o=>blk_frozen hnb o
 have d2:w2.cell? ⟨w.heap.size,1,none⟩=some (.slice none 0 0):=blk_cell hnb 1
 have HS4:=hide (qsign_any rb tb nv l 59 _ _ (HR.out.mod HM3.out).r HT3.out hl)
 clear h2 hm2 ht2 hv2 hnb hm3 hn3 hc3 hb3 hW3
 go_wp2_with fail
 rw [← HW3.out]
 refine HS4.out.mono ?_
 rintro e w4 ⟨rfl,hm4,ht4⟩
 have HM4:=hide (HM3.out.trans hm4)
 have HN4:=hide (blk_mod HN3.out hm4 hgt)
 have HS5:=hide (HS3.out.keep (hm4.abvX (fun e=>by have e':w.heap.size≤tb:=e;omega)))
 have HT4:=hide ht4
 clear hm4 ht4
 go_wp2
 go_ret
 refine QPost.mk HM4.out (by rw [(congrArg stOf HX.out).trans HAI.out.1];exact HT4.out) ⟨_,rfl⟩ (fun y hy=>?_)
 obtain ⟨z,hz,hy1⟩:=HAI.out.2 y (HX.out.symm.trans hy)
 have:=strQ_inj (HV2.out z hz)
 subst this
 rw [hy1]
 exact rcmd_mk (Nat.le_refl _) HN4.out HWN.out.symm (Or.inr HS5.out) (Or.inl ⟨rfl,rfl⟩) (Or.inl ⟨rfl,rfl⟩)
end Go.Proofs.YtgnkjijocdmniaaGreatDoor
