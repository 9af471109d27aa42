import Derived.Test.YtgnkjijocdmniaaGreatDoorZQBr
import Derived.Test.YtgnkjijocdmniaaGreatDoorQCmdT
import Derived.Test.YtgnkjijocdmniaaGreatDoorQTestG
import Derived.Test.YtgnkjijocdmniaaGreatDoorZQTestN
import Derived.Test.YtgnkjijocdmniaaGreatDoorQTestS
namespace Go.Proofs.YtgnkjijocdmniaaGreatDoor
set_option linter.unusedVariables false
set_option linter.unusedSimpArgs false
set_option maxRecDepth 100000
set_option maxHeartbeats 4000000
section
open Go.RowKit
attribute [local go_sem ↓] Go.wp_at_zero Go.wp_at_succ
theorem mat_is {α:Type} {R:Except Flt (TLab×PS)}:stOf (thenL R fun x s1=>.ok ((x,([]:List α)),s1))=stOf R∧∀ y,(thenL R fun x s1=>.ok ((x,([]:List α)),s1))=.ok y→∃ z,R=.ok z∧y.1=(z.1,[]):=by
 cases R with
 | error g=>exact ⟨rfl,fun y e=>by cases e⟩
 | ok z=>exact ⟨rfl,fun y e=>⟨z,rfl,by cases e;rfl⟩⟩
theorem bind_then {α β:Type} {st:Except Flt PS} {g:PS→Except Flt (α×PS)} {k:α→PS→Except Flt (β×PS)}:bindS st (fun s=>thenL (g s) k)=thenL (bindS st g) k:=by cases st <;> rfl
theorem matchM_kind {l:List UInt8} {F:Nat} {chk:List UInt8→Nat} {k pos:Nat} {R:Except Flt ((Nat×Bool)×PS)} {y:TLab×PS} (h:matchM l F chk k pos R=.ok y):y.1.kind=k∧y.1.num=0:=by
 unfold matchM at h
 cases R with
 | error g=>cases h
 | ok o=>
  simp only [thenL] at h
  cases h1:stringsL l chk F o.2 with
  | error g=>rw [h1] at h;cases h
  | ok a=>
   rw [h1] at h
   simp only at h
   cases h2:stringsL l (fun _=>0) F a.2 with
   | error g=>rw [h2] at h;cases h
   | ok b=>rw [h2] at h;cases h;exact ⟨rfl,rfl⟩
theorem qtest_header (rb tb:Nat) (nv:Value) (rq:List (List UInt8)) (l:List UInt8) (F n deep:Nat) (st:Except Flt PS) (w:World) (hr:RdI w rb tb nv rq) (h:TSt w tb l st) (hl:l.length≤600) (hF:2*l.length+2≤F) (hd:deep+n=6) (hk:(wordS l st).1=119) (hw:(wordS l st).2.1=kHeader) :
 Calls Tryz.prog 214 #[.pointer (some ⟨rb,0,none⟩),.int .i64 deep] w (QPost (bindS st (testL l rq F (n+1))) tb l w (RTest (n+1) (fromB w.heap.size)) anyPtr):=by
 have HX:Hid (bindS st (testL l rq F (n+1))=thenL (matchM l F (fitsL 0) 5 (wordS l st).2.2.2 (bindS (nextS l (preS l rq kHeader st)) (optL l F 0 false false))) fun x s1=>.ok ((x,[]),s1)):=by
  show _=_
  rw [test_is h hk (by rw [hw];decide),hw,← match_is,← bind_then]
  rfl
 have r0:w.cell? ⟨rb,0,none⟩=some (.pointer (some ⟨tb,0,none⟩)):=blk_cell hr.r 0
 obtain ⟨c2,c4,c5,c6,c7⟩:=h.cells
 have H:=hide h
 have HR:=hide hr
 have hrl:=blk_lt hr.r
 have htl:=h.lt
 have hgt:w.heap.size≠tb:=by omega
 obtain ⟨s0,hst,_,_⟩:=ok_word h hk
 have he:errS st=0:=by rw [hst];rfl
 have heb:((errS st:Int) != 0)=false:=by simp;omega
 have hkb:(((wordS l st).1:Int) != 119)=false:=by simp;omega
 have hdb:decide ((6:Int) < (deep:Int))=false:=decide_eq_false (by omega)
 obtain ⟨nm,hnm⟩:∃ nm,(wordS l st).2.1=nm:=⟨_,rfl⟩
 rw [hnm] at c5 hw
 have hx:=hw
 have e0:((strA nm).toList == [116,114,117,101])=false:=by rw [str_eq,hx];decide
 have e1:((strA nm).toList == [102,97,108,115,101])=false:=by rw [str_eq,hx];decide
 have e2:((strA nm).toList == [110,111,116])=false:=by rw [str_eq,hx];decide
 have e3:((strA nm).toList == [97,108,108,111,102])=false:=by rw [str_eq,hx];decide
 have e4:((strA nm).toList == [97,110,121,111,102])=false:=by rw [str_eq,hx];decide
 have e5:((strA nm).toList == [104,101,97,100,101,114])=true:=by rw [str_eq,hx];decide
 obtain ⟨W0,hW0⟩:∃ W0,W0=w.alloc (.cells #[.string (strA nm),.slice none 0 0,.slice none 0 0,.slice none 0 0,.int .i64 0,.bool false,.int .i64 0] 200):=⟨_,rfl⟩
 have HWW:=hide hW0
 have HM0:Hid (Mod tb w W0):=by show Mod _ _ _;rw [hW0];exact (Mod.refl _ _).alloc _
 have HN0:Hid (MNode W0 w.heap.size nm 0 false):=by show W0.heap[w.heap.size]?=_;rw [hW0];exact blk_new _ _
 have HT0:Hid (TSt W0 tb l st):=by show TSt _ _ _ _;rw [hW0];exact h.below ((Below.refl _ _).alloc (Nat.le_refl _) _)
 clear h hr hW0 hst he hk hnm
 have HMM:=hide (qmatching_any w rb tb w.heap.size nv rq l nm 5 (wordS l st).2.2.2 F 0 st W0 HR.out.r HR.out.n HM0.out (Nat.le_refl _) HN0.out (HR.out.mod HM0.out).txl HR.out.z HT0.out htl hl hF (by rw [hw];rfl))
 rw [← hw] at HX
 have HWN:=hide hw
 clear hw hx
 go_enter Tryz.func214,Tryz.ntmps214
 go_wp2_with fail
 rw [← HWW.out]
 refine HMM.out.mono ?_
 rintro e w2 h2
 have H2:=hide h2
 obtain rfl:=h2.e
 clear h2
 go_wp2
 go_ret
 refine QPost.mk H2.out.m (by rw [(congrArg stOf HX.out).trans mat_is.1];exact H2.out.t) ⟨_,rfl⟩ (fun y hy=>?_)
 obtain ⟨z,hz,hy1⟩:=mat_is.2 y (HX.out.symm.trans hy)
 rw [hy1]
 obtain ⟨hk1,hk2⟩:=matchM_kind hz
 obtain ⟨fv,kv,hc,h1,h2⟩:=H2.out.ok z hz
 exact rtest_mk (Nat.le_refl _) (by rw [hk2];exact hc) (by rw [hk1];exact HWN.out.symm) (Or.inl ⟨rfl,rfl⟩) (Or.inr h1) (Or.inr h2)
theorem qtest_envelope (rb tb:Nat) (nv:Value) (rq:List (List UInt8)) (l:List UInt8) (F n deep:Nat) (st:Except Flt PS) (w:World) (hr:RdI w rb tb nv rq) (h:TSt w tb l st) (hl:l.length≤600) (hF:2*l.length+2≤F) (hd:deep+n=6) (hk:(wordS l st).1=119) (hw:(wordS l st).2.1=kEnvelope) :
 Calls Tryz.prog 214 #[.pointer (some ⟨rb,0,none⟩),.int .i64 deep] w (QPost (bindS st (testL l rq F (n+1))) tb l w (RTest (n+1) (fromB w.heap.size)) anyPtr):=by
 have HX:Hid (bindS st (testL l rq F (n+1))=thenL (matchM l F (fitsL 3) 6 (wordS l st).2.2.2 (bindS (nextS l (preS l rq kEnvelope st)) (optL l F 0 false false))) fun x s1=>.ok ((x,[]),s1)):=by
  show _=_
  rw [test_is h hk (by rw [hw];decide),hw,← match_is,← bind_then]
  rfl
 have r0:w.cell? ⟨rb,0,none⟩=some (.pointer (some ⟨tb,0,none⟩)):=blk_cell hr.r 0
 obtain ⟨c2,c4,c5,c6,c7⟩:=h.cells
 have H:=hide h
 have HR:=hide hr
 have hrl:=blk_lt hr.r
 have htl:=h.lt
 have hgt:w.heap.size≠tb:=by omega
 obtain ⟨s0,hst,_,_⟩:=ok_word h hk
 have he:errS st=0:=by rw [hst];rfl
 have heb:((errS st:Int) != 0)=false:=by simp;omega
 have hkb:(((wordS l st).1:Int) != 119)=false:=by simp;omega
 have hdb:decide ((6:Int) < (deep:Int))=false:=decide_eq_false (by omega)
 obtain ⟨nm,hnm⟩:∃ nm,(wordS l st).2.1=nm:=⟨_,rfl⟩
 rw [hnm] at c5 hw
 have hx:=hw
 have e0:((strA nm).toList == [116,114,117,101])=false:=by rw [str_eq,hx];decide
 have e1:((strA nm).toList == [102,97,108,115,101])=false:=by rw [str_eq,hx];decide
 have e2:((strA nm).toList == [110,111,116])=false:=by rw [str_eq,hx];decide
 have e3:((strA nm).toList == [97,108,108,111,102])=false:=by rw [str_eq,hx];decide
 have e4:((strA nm).toList == [97,110,121,111,102])=false:=by rw [str_eq,hx];decide
 have e5:((strA nm).toList == [104,101,97,100,101,114])=false:=by rw [str_eq,hx];decide
 have e6:((strA nm).toList == [101,110,118,101,108,111,112,101])=true:=by rw [str_eq,hx];decide
 obtain ⟨W0,hW0⟩:∃ W0,W0=w.alloc (.cells #[.string (strA nm),.slice none 0 0,.slice none 0 0,.slice none 0 0,.int .i64 0,.bool false,.int .i64 0] 200):=⟨_,rfl⟩
 have HWW:=hide hW0
 have HM0:Hid (Mod tb w W0):=by show Mod _ _ _;rw [hW0];exact (Mod.refl _ _).alloc _
 have HN0:Hid (MNode W0 w.heap.size nm 0 false):=by show W0.heap[w.heap.size]?=_;rw [hW0];exact blk_new _ _
 have HT0:Hid (TSt W0 tb l st):=by show TSt _ _ _ _;rw [hW0];exact h.below ((Below.refl _ _).alloc (Nat.le_refl _) _)
 clear h hr hW0 hst he hk hnm
 have HMM:=hide (qmatching_any w rb tb w.heap.size nv rq l nm 6 (wordS l st).2.2.2 F 3 st W0 HR.out.r HR.out.n HM0.out (Nat.le_refl _) HN0.out (HR.out.mod HM0.out).txl HR.out.z HT0.out htl hl hF (by rw [hw];rfl))
 rw [← hw] at HX
 have HWN:=hide hw
 clear hw hx
 go_enter Tryz.func214,Tryz.ntmps214
 go_wp2_with fail
 rw [← HWW.out]
 refine HMM.out.mono ?_
 rintro e w2 h2
 have H2:=hide h2
 obtain rfl:=h2.e
 clear h2
 go_wp2
 go_ret
 refine QPost.mk H2.out.m (by rw [(congrArg stOf HX.out).trans mat_is.1];exact H2.out.t) ⟨_,rfl⟩ (fun y hy=>?_)
 obtain ⟨z,hz,hy1⟩:=mat_is.2 y (HX.out.symm.trans hy)
 rw [hy1]
 obtain ⟨hk1,hk2⟩:=matchM_kind hz
 obtain ⟨fv,kv,hc,h1,h2⟩:=H2.out.ok z hz
 exact rtest_mk (Nat.le_refl _) (by rw [hk2];exact hc) (by rw [hk1];exact HWN.out.symm) (Or.inl ⟨rfl,rfl⟩) (Or.inr h1) (Or.inr h2)
theorem qtest_string (rb tb:Nat) (nv:Value) (rq:List (List UInt8)) (l:List UInt8) (F n deep:Nat) (st:Except Flt PS) (w:World) (hr:RdI w rb tb nv rq) (h:TSt w tb l st) (hl:l.length≤600) (hF:2*l.length+2≤F) (hd:deep+n=6) (hk:(wordS l st).1=119) (hw:(wordS l st).2.1=kString) :
 Calls Tryz.prog 214 #[.pointer (some ⟨rb,0,none⟩),.int .i64 deep] w (QPost (bindS st (testL l rq F (n+1))) tb l w (RTest (n+1) (fromB w.heap.size)) anyPtr):=by
 have HX:Hid (bindS st (testL l rq F (n+1))=thenL (matchM l F (fitsL 0) 7 (wordS l st).2.2.2 (bindS (nextS l (preS l rq kString st)) (optL l F 0 false false))) fun x s1=>.ok ((x,[]),s1)):=by
  show _=_
  rw [test_is h hk (by rw [hw];decide),hw,← match_is,← bind_then]
  rfl
 have r0:w.cell? ⟨rb,0,none⟩=some (.pointer (some ⟨tb,0,none⟩)):=blk_cell hr.r 0
 obtain ⟨c2,c4,c5,c6,c7⟩:=h.cells
 have H:=hide h
 have HR:=hide hr
 have hrl:=blk_lt hr.r
 have htl:=h.lt
 have hgt:w.heap.size≠tb:=by omega
 obtain ⟨s0,hst,_,_⟩:=ok_word h hk
 have he:errS st=0:=by rw [hst];rfl
 have heb:((errS st:Int) != 0)=false:=by simp;omega
 have hkb:(((wordS l st).1:Int) != 119)=false:=by simp;omega
 have hdb:decide ((6:Int) < (deep:Int))=false:=decide_eq_false (by omega)
 obtain ⟨nm,hnm⟩:∃ nm,(wordS l st).2.1=nm:=⟨_,rfl⟩
 rw [hnm] at c5 hw
 have hx:=hw
 have e0:((strA nm).toList == [116,114,117,101])=false:=by rw [str_eq,hx];decide
 have e1:((strA nm).toList == [102,97,108,115,101])=false:=by rw [str_eq,hx];decide
 have e2:((strA nm).toList == [110,111,116])=false:=by rw [str_eq,hx];decide
 have e3:((strA nm).toList == [97,108,108,111,102])=false:=by rw [str_eq,hx];decide
 have e4:((strA nm).toList == [97,110,121,111,102])=false:=by rw [str_eq,hx];decide
 have e5:((strA nm).toList == [104,101,97,100,101,114])=false:=by rw [str_eq,hx];decide
 have e6:((strA nm).toList == [101,110,118,101,108,111,112,101])=false:=by rw [str_eq,hx];decide
 have e7:((strA nm).toList == [115,116,114,105,110,103])=true:=by rw [str_eq,hx];decide
 obtain ⟨W0,hW0⟩:∃ W0,W0=w.alloc (.cells #[.string (strA nm),.slice none 0 0,.slice none 0 0,.slice none 0 0,.int .i64 0,.bool false,.int .i64 0] 200):=⟨_,rfl⟩
 have HWW:=hide hW0
 have HM0:Hid (Mod tb w W0):=by show Mod _ _ _;rw [hW0];exact (Mod.refl _ _).alloc _
 have HN0:Hid (MNode W0 w.heap.size nm 0 false):=by show W0.heap[w.heap.size]?=_;rw [hW0];exact blk_new _ _
 have HT0:Hid (TSt W0 tb l st):=by show TSt _ _ _ _;rw [hW0];exact h.below ((Below.refl _ _).alloc (Nat.le_refl _) _)
 clear h hr hW0 hst he hk hnm
 have HMM:=hide (qmatching_any w rb tb w.heap.size nv rq l nm 7 (wordS l st).2.2.2 F 0 st W0 HR.out.r HR.out.n HM0.out (Nat.le_refl _) HN0.out (HR.out.mod HM0.out).txl HR.out.z HT0.out htl hl hF (by rw [hw];rfl))
 rw [← hw] at HX
 have HWN:=hide hw
 clear hw hx
 go_enter Tryz.func214,Tryz.ntmps214
 go_wp2_with fail
 rw [← HWW.out]
 refine HMM.out.mono ?_
 rintro e w2 h2
 have H2:=hide h2
 obtain rfl:=h2.e
 clear h2
 go_wp2
 go_ret
 refine QPost.mk H2.out.m (by rw [(congrArg stOf HX.out).trans mat_is.1];exact H2.out.t) ⟨_,rfl⟩ (fun y hy=>?_)
 obtain ⟨z,hz,hy1⟩:=mat_is.2 y (HX.out.symm.trans hy)
 rw [hy1]
 obtain ⟨hk1,hk2⟩:=matchM_kind hz
 obtain ⟨fv,kv,hc,h1,h2⟩:=H2.out.ok z hz
 exact rtest_mk (Nat.le_refl _) (by rw [hk2];exact hc) (by rw [hk1];exact HWN.out.symm) (Or.inl ⟨rfl,rfl⟩) (Or.inr h1) (Or.inr h2)
end
section
open Go.RowKit
theorem qtest_any (rb tb:Nat) (nv:Value) (rq:List (List UInt8)) (l:List UInt8) (F:Nat) (hl:l.length≤600) (hF:2*l.length+2≤F):∀ (n deep:Nat),deep+n=7→TOk rb tb nv rq l F n deep:=by
 intro n
 induction n with
 | zero=>
  intro deep hd st w hr h
  by_cases hk:(wordS l st).1=119
  ·exact qtest_bad rb tb nv rq l F 0 deep st w hr h hl hF hd (Or.inr (Or.inl ⟨rfl,hk⟩))
  ·exact qtest_bad rb tb nv rq l F 0 deep st w hr h hl hF hd (Or.inl hk)
 | succ n ih=>
  intro deep hd st w hr h
  have hI:=ih (deep+1) (by omega)
  have hd':deep+n=6:=by omega
  by_cases hk:(wordS l st).1=119
  ·by_cases hw:whichL testNames (wordS l st).2.1=0
   ·exact qtest_bad rb tb nv rq l F (n+1) deep st w hr h hl hF hd (Or.inr (Or.inr ⟨hk,Nat.succ_pos n,hw⟩))
   ·have hm:=(whichL_pos_iff (wordS l st).2.1 testNames).1 (by omega)
    simp only [testNames,List.mem_cons,List.not_mem_nil,or_false] at hm
    rcases hm with e | e | e | e | e | e | e | e | e | e
    ·exact qtest_true rb tb nv rq l F n deep st w hr h hl hF hd' hk e
    ·exact qtest_false rb tb nv rq l F n deep st w hr h hl hF hd' hk e
    ·exact qtest_not rb tb nv rq l F n deep st w hr h hl hF hd' hI hk e
    ·exact qtest_allof rb tb nv rq l F n deep st w hr h hl hF hd' hI hk e
    ·exact qtest_anyof rb tb nv rq l F n deep st w hr h hl hF hd' hI hk e
    ·exact qtest_header rb tb nv rq l F n deep st w hr h hl hF hd' hk e
    ·exact qtest_envelope rb tb nv rq l F n deep st w hr h hl hF hd' hk e
    ·exact qtest_string rb tb nv rq l F n deep st w hr h hl hF hd' hk e
    ·exact qtest_exists rb tb nv rq l F n deep st w hr h hl hF hd' hk e
    ·exact qtest_size rb tb nv rq l F n deep st w hr h hl hF hd' hk e
  ·exact qtest_bad rb tb nv rq l F (n+1) deep st w hr h hl hF hd (Or.inl hk)
end
section
open Go.RowKit
attribute [local go_sem ↓] Go.wp_at_zero Go.wp_at_succ
theorem if_lab {α β:Type} {l:List UInt8} {F pos:Nat} {tst:PS→Except Flt (β×PS)} {sub:PS→Except Flt (α×PS)} {st:Except Flt PS} {y:(CLab×List (β×List α)×List α)×PS} (h:bindS st (cmdBody l F tst sub 7 pos)=.ok y):∃ els,y.1.1=⟨7,pos,0,[],[],els⟩:=by
 cases st with
 | error f=>cases h
 | ok s=>
  simp only [bindS,cmdBody] at h
  cases h1:armL l F tst sub s with
  | error f=>rw [h1] at h;cases h
  | ok a=>
   rw [h1] at h
   simp only [thenL] at h
   cases h2:armsMore l F tst sub F [a.1] a.2 with
   | error f=>rw [h2] at h;cases h
   | ok b=>
    rw [h2] at h
    simp only at h
    cases h3:mayL l [kElse] b.2 with
    | error f=>rw [h3] at h;cases h
    | ok c=>
     rw [h3] at h
     simp only at h
     by_cases hc:c.1=0
     ·rw [if_pos hc] at h;cases h;exact ⟨false,rfl⟩
     ·rw [if_neg hc] at h
      cases h4:blockL l F sub c.2 with
      | error f=>rw [h4] at h;cases h
      | ok d=>rw [h4] at h;cases h;exact ⟨true,rfl⟩
theorem qcmd_if (rb tb:Nat) (nv:Value) (rq:List (List UInt8)) (l:List UInt8) (F n deep:Nat) (st:Except Flt PS) (w:World) (hr:RdI w rb tb nv rq) (h:TSt w tb l st) (hl:l.length≤600) (hF:2*l.length+2≤F) (hd:deep+n=6) (hk:(wordS l st).1=119) (hT:TOk rb tb nv rq l F n (deep+1)) (hC:COk rb tb nv rq l F n (deep+1)) (hw:(wordS l st).2.1=kIf) :
 Calls Tryz.prog 115 #[.pointer (some ⟨rb,0,none⟩),.int .i64 deep] w (QPost (bindS st (cmdL l rq F (n+1))) tb l w (RCmd (n+1) (fromB w.heap.size)) anyPtr):=by
 have HX:Hid (bindS st (cmdL l rq F (n+1))=bindS (nextS l st) (cmdBody l F (testL l rq F n) (cmdL l rq F n) 7 (wordS l st).2.2.2)):=by
  show _=_
  rw [cmd_is h hk (by rw [hw];decide),hw,prec_none (by decide) (by decide)]
  rfl
 have r0:w.cell? ⟨rb,0,none⟩=some (.pointer (some ⟨tb,0,none⟩)):=blk_cell hr.r 0
 obtain ⟨c2,c4,c5,c6,c7⟩:=h.cells
 have H:=hide h
 have HR:=hide hr
 have hrl:=blk_lt hr.r
 have htl:=h.lt
 have hgt:w.heap.size≠tb:=by omega
 have hgr:w.heap.size≠rb:=by omega
 have hdb:decide ((6:Int) < (deep:Int))=false:=decide_eq_false (by omega)
 obtain ⟨nm,hnm⟩:∃ nm,(wordS l st).2.1=nm:=⟨_,rfl⟩
 rw [hnm] at c5 hw
 have hx:=hw
 have e0:((strA nm).toList == [107,101,101,112])=false:=by rw [str_eq,hx];decide
 have e1:((strA nm).toList == [100,105,115,99,97,114,100])=false:=by rw [str_eq,hx];decide
 have e2:((strA nm).toList == [115,116,111,112])=false:=by rw [str_eq,hx];decide
 have e3:((strA nm).toList == [102,105,108,101,105,110,116,111])=false:=by rw [str_eq,hx];decide
 have e4:((strA nm).toList == [114,101,100,105,114,101,99,116])=false:=by rw [str_eq,hx];decide
 have e5:((strA nm).toList == [114,101,106,101,99,116])=false:=by rw [str_eq,hx];decide
 have e6:((strA nm).toList == [115,101,116])=false:=by rw [str_eq,hx];decide
 have e7:((strA nm).toList == [105,102])=true:=by rw [str_eq,hx];decide
 obtain ⟨W0,hW0⟩:∃ W0,W0=(w.alloc (.cells #[.string (strA nm),.slice none 0 0,.int .i64 0,.slice none 0 0,.slice none 0 0,.int .i64 (wordS l st).2.2.2] 155)).drew:=⟨_,rfl⟩
 have HWW:=hide hW0
 have HM0:Hid (Mod tb w W0):=by show Mod _ _ _;rw [hW0];exact ((Mod.refl _ _).alloc _).drew
 have HN0:Hid (CNode W0 w.heap.size nm (.slice none 0 0) 0 (.slice none 0 0) (.slice none 0 0) (wordS l st).2.2.2):=by show W0.heap[w.heap.size]?=_;rw [hW0];exact blk_new _ _
 have HT0:Hid (TSt W0 tb l st):=by show TSt _ _ _ _;rw [hW0];exact (h.below ((Below.refl _ _).alloc (Nat.le_refl _) (.cells #[.string (strA nm),.slice none 0 0,.int .i64 0,.slice none 0 0,.slice none 0 0,.int .i64 (wordS l st).2.2.2] 155))).block rfl
 clear h hr hW0 hk hnm
 have HWN:=hide hw
 have HTO:=hide hT
 have HCO:=hide hC
 clear hw hx hT hC
 have hd6:deep≤6:=by omega
 go_enter Tryz.func115,Tryz.ntmps115
 go_wp2_with fail
 go_region
 rw [← HWW.out]
 have d0:W0.cell? ⟨rb,0,none⟩=some (.pointer (some ⟨tb,0,none⟩)):=blk_cell (HR.out.r.mod HM0.out HR.out.n) 0
 have n0:W0.cell? ⟨w.heap.size,0,none⟩=some (.string (strA nm)):=blk_cell HN0.out 0
 have n5:W0.cell? ⟨w.heap.size,5,none⟩=some (.int .i64 (wordS l st).2.2.2):=blk_cell HN0.out 5
 go_wp2_with fail
 refine (qnext_st tb l _ _ HT0.out hl).mono ?_
 rintro e w1 ⟨rfl,hm1,ht1⟩
 have HM1:=hide (HM0.out.trans hm1)
 have HN1:Hid (CNode w1 w.heap.size nm (.slice none 0 0) 0 (.slice none 0 0) (.slice none 0 0) (wordS l st).2.2.2):=blk_mod HN0.out hm1 hgt
 have HBR:=hide (qbranches_any w rb tb w.heap.size nv rq l F n deep nm (wordS l st).2.2.2 (nextS l st) w1 HR.out HM1.out (Nat.le_refl _) htl HN1.out ht1 hl hF hd6 HTO.out HCO.out)
 clear hm1 ht1
 go_wp2_with fail
 refine HBR.out.mono ?_
 rintro e w2 h2
 obtain rfl:=h2.e
 have H2:=hide h2
 clear h2
 go_wp2
 go_ret
 refine QPost.mk H2.out.m (by rw [congrArg stOf HX.out];exact H2.out.t) ⟨_,rfl⟩ (fun y hy=>?_)
 have hy':=HX.out.symm.trans hy
 obtain ⟨tv,bv,hc,ht,hb⟩:=H2.out.ok y hy'
 obtain ⟨els,hlab⟩:=if_lab hy'
 obtain ⟨⟨x,arms,el⟩,s⟩:=y
 simp only at hlab
 subst hlab
 exact rcmd_mk (Nat.le_refl _) hc HWN.out.symm (Or.inl ⟨rfl,rfl⟩) ht hb
theorem qcommand_any (rb tb:Nat) (nv:Value) (rq:List (List UInt8)) (l:List UInt8) (F:Nat) (hl:l.length≤600) (hF:2*l.length+2≤F):∀ (n deep:Nat),deep+n=7→COk rb tb nv rq l F n deep:=by
 intro n
 induction n with
 | zero=>
  intro deep hd st w hr h hk
  exact qcmd_deep rb tb nv rq l F deep st w hr h hl hF (by omega) hk
 | succ n ih=>
  intro deep hd st w hr h hk
  have hC:=ih (deep+1) (by omega)
  have hT:=qtest_any rb tb nv rq l F hl hF n (deep+1) (by omega)
  have hd':deep+n=6:=by omega
  by_cases hw:whichL cmdNames (wordS l st).2.1=0
  ·exact qcmd_bad rb tb nv rq l F n deep st w hr h hl hF hd' hk hw
  ·have hm:=(whichL_pos_iff (wordS l st).2.1 cmdNames).1 (by omega)
   simp only [cmdNames,List.mem_cons,List.not_mem_nil,or_false] at hm
   rcases hm with e | e | e | e | e | e | e | e
   ·exact qcmd_keep rb tb nv rq l F n deep st w hr h hl hF hd' hk e
   ·exact qcmd_discard rb tb nv rq l F n deep st w hr h hl hF hd' hk e
   ·exact qcmd_stop rb tb nv rq l F n deep st w hr h hl hF hd' hk e
   ·exact qcmd_fileinto rb tb nv rq l F n deep st w hr h hl hF hd' hk e
   ·exact qcmd_redirect rb tb nv rq l F n deep st w hr h hl hF hd' hk e
   ·exact qcmd_reject rb tb nv rq l F n deep st w hr h hl hF hd' hk e
   ·exact qcmd_set rb tb nv rq l F n deep st w hr h hl hF hd' hk e
   ·exact qcmd_if rb tb nv rq l F n deep st w hr h hl hF hd' hk hT hC e
end
section
open Go.RowKit
theorem fits1:fitsL 1=fun x=>if 0 < whichL [kEnvelope,kFileinto,kReject,kVariables] x then 0 else 6:=rfl
structure ReqI (R:Except Flt (List (List UInt8)×PS)) (l:List UInt8) (F:Nat) (st:Except Flt PS) (rq:List (List UInt8)):Prop where
 r:∃ f,(∀ s,st=.ok s→mu l.length s < f)∧R=bindS st (reqMore l F f rq)
theorem req_end {w:World} {tb:Nat} {R:Except Flt (List (List UInt8)×PS)} {l:List UInt8} {F:Nat} {st:Except Flt PS} {rq:List (List UInt8)} (h:ReqI R l F st rq) (ht:TSt w tb l st) (hk:¬ ((wordS l st).1=119∧(wordS l st).2.1=kRequire)):R=bindS st fun s=>.ok (rq,s):=by
 obtain ⟨⟨f,hf,hR⟩⟩:=h
 cases st with
 | error g=>exact hR
 | ok s=>
  have hfs:=hf s rfl
  obtain ⟨f,rfl⟩:∃ g,f=g+1:=⟨f - 1,by omega⟩
  have hg:TGood w tb l s:=ht
  simp only [bindS] at hR ⊢
  rw [reqMore,may_word hg kRequire ⟨_,_,rfl,rfl⟩,if_neg (fun e=>hk ⟨(kQ_word hg.wd).2 e.1,e.2⟩)] at hR
  exact hR
theorem req_step {w w2:World} {tb:Nat} {R:Except Flt (List (List UInt8)×PS)} {l:List UInt8} {F:Nat} {st:Except Flt PS} {rq rq':List (List UInt8)} (h:ReqI R l F st rq) (ht:TSt w tb l st) (hk:(wordS l st).1=119∧(wordS l st).2.1=kRequire) (h2:TSt w2 tb l (stOf (bindS (nextS l st) (stringsL l (fitsL 1) F)))) (hq:∀ z,bindS (nextS l st) (stringsL l (fitsL 1) F)=.ok z→rq'=z.1.foldl addReq rq) :
 muS l (signS l 59 (stOf (bindS (nextS l st) (stringsL l (fitsL 1) F)))) < muS l st∧ReqI R l F (signS l 59 (stOf (bindS (nextS l st) (stringsL l (fitsL 1) F)))) rq':=by
 obtain ⟨⟨f,hf,hR⟩⟩:=h
 obtain ⟨s,rfl,h1,hg⟩:=ok_word ht hk.1
 have hfs:=hf s rfl
 obtain ⟨f,rfl⟩:∃ g,f=g+1:=⟨f - 1,by omega⟩
 simp only [bindS] at hR
 rw [reqMore,may_word hg kRequire ⟨_,_,rfl,rfl⟩,if_pos ⟨h1,hk.2⟩] at hR
 rw [fits1] at h2 hq ⊢
 have he:∀ g,signS l 59 (.error g)=.error g:=fun g=>by unfold signS;split <;> rfl
 have hn:nextS l (.ok s)=nextL l s.2:=rfl
 rw [hn] at h2 hq ⊢
 cases hx:nextL l s.2 with
 | error g=>
  rw [hx] at hR
  rw [show stOf (bindS (.error g) (stringsL l (fun x=>if 0 < whichL [kEnvelope,kFileinto,kReject,kVariables] x then 0 else 6) F))=.error g from rfl,he]
  exact ⟨Nat.succ_pos _,⟨0,(fun s e=>by cases e),hR⟩⟩
 | ok s1=>
  rw [hx] at hR h2 hq
  simp only [bindS] at h2 hq ⊢
  have hR2:R=thenL (stringsL l (fun x=>if 0 < whichL [kEnvelope,kFileinto,kReject,kVariables] x then 0 else 6) F s1) fun xs s2=>thenL (passL l [[59]] s2) fun _ s3=>reqMore l F f (xs.foldl addReq rq) s3:=by
   rw [hR]
   simp only [thenL]
   rw [if_neg (by decide)]
  have hm1:=nextL_mu hg.le (by omega) hx
  have hg1:Gd l s1:=next_gd hg.gd hx
  cases hz:stringsL l (fun x=>if 0 < whichL [kEnvelope,kFileinto,kReject,kVariables] x then 0 else 6) F s1 with
  | error g=>
   rw [hz] at hR2
   rw [show stOf (Except.error g:Except Flt (List (List UInt8)×PS))=.error g from rfl,he]
   exact ⟨Nat.succ_pos _,⟨0,(fun s e=>by cases e),hR2⟩⟩
  | ok z=>
   rw [hz] at hR2 h2
   have hgz:TGood w2 tb l z.2:=h2
   have hmz:=(strings_dn hg1 z hz).2
   rw [hq z hz]
   have hp:=pass_then (β:=List (List UInt8)) h2 59 rfl (fun s3=>reqMore l F f (z.1.foldl addReq rq) s3)
   have hR3:R=bindS (signS l 59 (.ok z.2)) fun s3=>reqMore l F f (z.1.foldl addReq rq) s3:=hR2.trans hp
   rw [show stOf (Except.ok z)=.ok z.2 from rfl]
   have hsg:∀ s3,signS l 59 (.ok z.2)=.ok s3→mu l.length s3 < mu l.length z.2:=by
    intro s3 h3
    unfold signS at h3
    by_cases h59:(wordS l (.ok z.2)).1=59
    ·rw [if_pos h59] at h3
     have h59':kQ z.2.1=59:=h59
     exact nextL_mu hgz.le (fun e0=>by have:kQ z.2.1=0:=(kQ_end hgz.wd).2 e0;omega) h3
    ·rw [if_neg h59] at h3;cases h3
   refine ⟨?_,⟨f,fun s3 h3=>?_,hR3⟩⟩
   ·cases h3:signS l 59 (.ok z.2) with
    | error g=>exact Nat.succ_pos _
    | ok s3=>have:=hsg s3 h3;show mu l.length s3+1 < mu l.length s+1;omega
   ·have:=hsg s3 h3
    omega
theorem parse_is {l:List UInt8} {rq:List (List UInt8)} {st:Except Flt PS} (h:bindS (nextL l 0) (reqMore l (2*l.length+10) (2*l.length+10) [])=bindS st fun s=>.ok (rq,s)):parseL l=match bindS st (cmdsMore (cmdL l rq (2*l.length+10) 7) (2*l.length+10) []) with | .ok cs=>.ok (rq,cs) | .error f=>.error f:=by
 have h1:parseL l=match bindS (nextL l 0) (reqMore l (2*l.length+10) (2*l.length+10) []) with
  | .error f=>.error f
  | .ok y=>match cmdsMore (cmdL l y.1 (2*l.length+10) 7) (2*l.length+10) [] y.2 with
   | .error f=>.error f
   | .ok cs=>.ok (y.1,cs):=by
  unfold parseL
  cases nextL l 0 with
  | error f=>rfl
  | ok s=>rfl
 rw [h1,h]
 cases st with
 | error f=>rfl
 | ok s=>
  simp only [bindS]
  cases cmdsMore (cmdL l rq (2*l.length+10) 7) (2*l.length+10) [] s <;> rfl
theorem foldl_take (rq:List (List UInt8)) (xs:List (List UInt8)) (k:Nat) (h:k < xs.length):(xs.take (k+1)).foldl addReq rq=addReq ((xs.take k).foldl addReq rq) (xs.getD k []):=by
 rw [List.take_succ_eq_append_getElem h,List.foldl_append,List.getD_eq_getElem?_getD,List.getElem?_eq_getElem h]
 rfl
theorem RdI.of_owns {w:World} {rb tb base:Nat} {nv:Value} {rq:List (List UInt8)} (hr:RdQ w rb tb nv) (hn:rb≠tb) (ho:w.ownsRow base 9 1 nv rq.length (tcells rq)) (hb:tb < base) (hz:rq.length≤140737488355328):RdI w rb tb nv rq:=by
 refine ⟨hr,hn,?_,hz⟩
 have hc:=fun g (hg:nv.ownBlock=some g)=>ho.cells hg
 rcases ho.2 with ⟨h1,h2⟩ | ⟨g,cap,cur,hv,hg,r⟩
 ·exact Or.inl ⟨List.eq_nil_of_length_eq_zero h2,h1⟩
 ·refine Or.inr ⟨g,cap,hv,fun j hj=>?_,by omega⟩
  have:=hc g (by rw [hv];rfl) j (.string (strA (rq.getD j []))) (by unfold tcells;rw [List.getElem?_map,List.getElem?_eq_getElem hj,List.getD_eq_getElem?_getD,List.getElem?_eq_getElem hj];rfl)
  rw [addr_add0] at this
  exact this
end
end Go.Proofs.YtgnkjijocdmniaaGreatDoor
