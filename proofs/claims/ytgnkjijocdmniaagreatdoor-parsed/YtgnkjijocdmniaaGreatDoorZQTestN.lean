import Derived.Test.YtgnkjijocdmniaaGreatDoorZQTestB
namespace Go.Proofs.YtgnkjijocdmniaaGreatDoor
set_option linter.unusedVariables false
set_option linter.unusedSimpArgs false
set_option maxRecDepth 100000
set_option maxHeartbeats 4000000
section
open Go.RowKit
attribute [local go_sem ↓] Go.wp_at_zero Go.wp_at_succ
theorem pre_none {l:List UInt8} {rq:List (List UInt8)} {nm:List UInt8} {st:Except Flt PS} (h1:¬ nm=kEnvelope) (h2:¬ nm=kString):preS l rq nm st=st:=by unfold preS;rw [if_neg h1,if_neg h2]
theorem stOf_ok {α:Type} {st:Except Flt PS} {a:α}:stOf (bindS st fun s=>.ok (a,s))=st:=by cases st <;> rfl
theorem bind_ok {α:Type} {st:Except Flt PS} {a:α} {y:α×PS} (h:(bindS st fun s=>.ok (a,s))=.ok y):y.1=a:=by
 cases st with
 | ok s=>cases h;rfl
 | error f=>cases h
theorem qtest_true (rb tb:Nat) (nv:Value) (rq:List (List UInt8)) (l:List UInt8) (F n deep:Nat) (st:Except Flt PS) (w:World) (hr:RdI w rb tb nv rq) (h:TSt w tb l st) (hl:l.length≤600) (hF:2*l.length+2≤F) (hd:deep+n=6) (hk:(wordS l st).1=119) (hw:(wordS l st).2.1=kTrue) :
 Calls Tryz.prog 214 #[.pointer (some ⟨rb,0,none⟩),.int .i64 deep] w (QPost (bindS st (testL l rq F (n+1))) tb l w (RTest (n+1) (fromB w.heap.size)) anyPtr):=by
 have HX:Hid (bindS st (testL l rq F (n+1))=bindS (nextS l st) fun s=>.ok ((⟨0,(wordS l st).2.2.2,0,false,[],[],0⟩,[]),s)):=by
  show _=_
  rw [test_is h hk (by rw [hw];decide),hw,pre_none (by decide) (by decide)]
  rfl
 have r0:w.cell? ⟨rb,0,none⟩=some (.pointer (some ⟨tb,0,none⟩)):=blk_cell hr.r 0
 obtain ⟨c2,c4,c5,c6,c7⟩:=h.cells
 have H:=hide h
 have HR:=hide hr
 have hrl:=blk_lt hr.r
 have htl:=h.lt
 have hgt:w.heap.size≠tb:=by omega
 obtain ⟨s0,hst,_,_⟩:=ok_word h hk
 have he:errS st=0:=by rw [hst];rfl
 have heb:((errS st:Int) != 0)=false:=by simp;omega
 have hkb:(((wordS l st).1:Int) != 119)=false:=by simp;omega
 have hdb:decide ((6:Int) < (deep:Int))=false:=decide_eq_false (by omega)
 obtain ⟨nm,hnm⟩:∃ nm,(wordS l st).2.1=nm:=⟨_,rfl⟩
 rw [hnm] at c5 hw
 have hx:=hw
 have e0:((strA nm).toList == [116,114,117,101])=true:=by rw [str_eq,hx];decide
 obtain ⟨W0,hW0⟩:∃ W0,W0=w.alloc (.cells #[.string (strA nm),.slice none 0 0,.slice none 0 0,.slice none 0 0,.int .i64 0,.bool false,.int .i64 0] 200):=⟨_,rfl⟩
 have HWW:=hide hW0
 have HM0:Hid (Mod tb w W0):=by show Mod _ _ _;rw [hW0];exact (Mod.refl _ _).alloc _
 have HN0:Hid (MNode W0 w.heap.size nm 0 false):=by show W0.heap[w.heap.size]?=_;rw [hW0];exact blk_new _ _
 have HT0:Hid (TSt W0 tb l st):=by show TSt _ _ _ _;rw [hW0];exact h.below ((Below.refl _ _).alloc (Nat.le_refl _) _)
 clear h hr hW0 hst he hk hnm
 have HWN:=hide hw
 clear hw hx
 go_enter Tryz.func214,Tryz.ntmps214
 go_wp2_with fail
 rw [← HWW.out]
 refine (qnext_st tb l st W0 HT0.out hl).mono ?_
 rintro e w1 ⟨rfl,hm1,ht1⟩
 have HM1:=hide (HM0.out.trans hm1)
 have HN1:=hide (blk_mod HN0.out hm1 hgt)
 have HT1:=hide ht1
 clear hm1 ht1
 go_wp2
 go_ret
 exact QPost.mk HM1.out (by rw [(congrArg stOf HX.out).trans stOf_ok];exact HT1.out) ⟨_,rfl⟩ (fun y hy=>by rw [show y.1=_ from bind_ok (HX.out.symm.trans hy)];exact rtest_mk (Nat.le_refl _) HN1.out HWN.out.symm (Or.inl ⟨rfl,rfl⟩) (Or.inl ⟨rfl,rfl⟩) (Or.inl ⟨rfl,rfl⟩))
theorem qtest_false (rb tb:Nat) (nv:Value) (rq:List (List UInt8)) (l:List UInt8) (F n deep:Nat) (st:Except Flt PS) (w:World) (hr:RdI w rb tb nv rq) (h:TSt w tb l st) (hl:l.length≤600) (hF:2*l.length+2≤F) (hd:deep+n=6) (hk:(wordS l st).1=119) (hw:(wordS l st).2.1=kFalse) :
 Calls Tryz.prog 214 #[.pointer (some ⟨rb,0,none⟩),.int .i64 deep] w (QPost (bindS st (testL l rq F (n+1))) tb l w (RTest (n+1) (fromB w.heap.size)) anyPtr):=by
 have HX:Hid (bindS st (testL l rq F (n+1))=bindS (nextS l st) fun s=>.ok ((⟨1,(wordS l st).2.2.2,0,false,[],[],0⟩,[]),s)):=by
  show _=_
  rw [test_is h hk (by rw [hw];decide),hw,pre_none (by decide) (by decide)]
  rfl
 have r0:w.cell? ⟨rb,0,none⟩=some (.pointer (some ⟨tb,0,none⟩)):=blk_cell hr.r 0
 obtain ⟨c2,c4,c5,c6,c7⟩:=h.cells
 have H:=hide h
 have HR:=hide hr
 have hrl:=blk_lt hr.r
 have htl:=h.lt
 have hgt:w.heap.size≠tb:=by omega
 obtain ⟨s0,hst,_,_⟩:=ok_word h hk
 have he:errS st=0:=by rw [hst];rfl
 have heb:((errS st:Int) != 0)=false:=by simp;omega
 have hkb:(((wordS l st).1:Int) != 119)=false:=by simp;omega
 have hdb:decide ((6:Int) < (deep:Int))=false:=decide_eq_false (by omega)
 obtain ⟨nm,hnm⟩:∃ nm,(wordS l st).2.1=nm:=⟨_,rfl⟩
 rw [hnm] at c5 hw
 have hx:=hw
 have e0:((strA nm).toList == [116,114,117,101])=false:=by rw [str_eq,hx];decide
 have e1:((strA nm).toList == [102,97,108,115,101])=true:=by rw [str_eq,hx];decide
 obtain ⟨W0,hW0⟩:∃ W0,W0=w.alloc (.cells #[.string (strA nm),.slice none 0 0,.slice none 0 0,.slice none 0 0,.int .i64 0,.bool false,.int .i64 0] 200):=⟨_,rfl⟩
 have HWW:=hide hW0
 have HM0:Hid (Mod tb w W0):=by show Mod _ _ _;rw [hW0];exact (Mod.refl _ _).alloc _
 have HN0:Hid (MNode W0 w.heap.size nm 0 false):=by show W0.heap[w.heap.size]?=_;rw [hW0];exact blk_new _ _
 have HT0:Hid (TSt W0 tb l st):=by show TSt _ _ _ _;rw [hW0];exact h.below ((Below.refl _ _).alloc (Nat.le_refl _) _)
 clear h hr hW0 hst he hk hnm
 have HWN:=hide hw
 clear hw hx
 go_enter Tryz.func214,Tryz.ntmps214
 go_wp2_with fail
 rw [← HWW.out]
 refine (qnext_st tb l st W0 HT0.out hl).mono ?_
 rintro e w1 ⟨rfl,hm1,ht1⟩
 have HM1:=hide (HM0.out.trans hm1)
 have HN1:=hide (blk_mod HN0.out hm1 hgt)
 have HT1:=hide ht1
 clear hm1 ht1
 go_wp2
 go_ret
 exact QPost.mk HM1.out (by rw [(congrArg stOf HX.out).trans stOf_ok];exact HT1.out) ⟨_,rfl⟩ (fun y hy=>by rw [show y.1=_ from bind_ok (HX.out.symm.trans hy)];exact rtest_mk (Nat.le_refl _) HN1.out HWN.out.symm (Or.inl ⟨rfl,rfl⟩) (Or.inl ⟨rfl,rfl⟩) (Or.inl ⟨rfl,rfl⟩))
theorem exists_is {l:List UInt8} {F pos:Nat} {α:Type} {sub:PS→Except Flt (α×PS)} {st:Except Flt PS}:stOf (bindS st (testBody l F sub 8 pos))=stOf (bindS st (stringsL l (fitsL 0) F))∧∀ y,bindS st (testBody l F sub 8 pos)=.ok y→∃ z,bindS st (stringsL l (fitsL 0) F)=.ok z∧y.1=(⟨8,pos,0,false,z.1,[],0⟩,[]):=by
 rw [fits0]
 cases st with
 | error g=>exact ⟨rfl,fun y e=>by cases e⟩
 | ok s=>
  simp only [bindS,testBody]
  cases stringsL l (fun _=>0) F s with
  | error g=>exact ⟨rfl,fun y e=>by cases e⟩
  | ok z=>exact ⟨rfl,fun y e=>⟨z,rfl,by cases e;rfl⟩⟩
theorem qtest_exists (rb tb:Nat) (nv:Value) (rq:List (List UInt8)) (l:List UInt8) (F n deep:Nat) (st:Except Flt PS) (w:World) (hr:RdI w rb tb nv rq) (h:TSt w tb l st) (hl:l.length≤600) (hF:2*l.length+2≤F) (hd:deep+n=6) (hk:(wordS l st).1=119) (hw:(wordS l st).2.1=kExists) :
 Calls Tryz.prog 214 #[.pointer (some ⟨rb,0,none⟩),.int .i64 deep] w (QPost (bindS st (testL l rq F (n+1))) tb l w (RTest (n+1) (fromB w.heap.size)) anyPtr):=by
 have HX:Hid (bindS st (testL l rq F (n+1))=bindS (nextS l st) (testBody l F (testL l rq F n) 8 (wordS l st).2.2.2)):=by
  show _=_
  rw [test_is h hk (by rw [hw];decide),hw,pre_none (by decide) (by decide)]
  rfl
 have r0:w.cell? ⟨rb,0,none⟩=some (.pointer (some ⟨tb,0,none⟩)):=blk_cell hr.r 0
 obtain ⟨c2,c4,c5,c6,c7⟩:=h.cells
 have H:=hide h
 have HR:=hide hr
 have hrl:=blk_lt hr.r
 have htl:=h.lt
 have hgt:w.heap.size≠tb:=by omega
 obtain ⟨s0,hst,_,_⟩:=ok_word h hk
 have he:errS st=0:=by rw [hst];rfl
 have heb:((errS st:Int) != 0)=false:=by simp;omega
 have hkb:(((wordS l st).1:Int) != 119)=false:=by simp;omega
 have hdb:decide ((6:Int) < (deep:Int))=false:=decide_eq_false (by omega)
 obtain ⟨nm,hnm⟩:∃ nm,(wordS l st).2.1=nm:=⟨_,rfl⟩
 rw [hnm] at c5 hw
 have hx:=hw
 have e0:((strA nm).toList == [116,114,117,101])=false:=by rw [str_eq,hx];decide
 have e1:((strA nm).toList == [102,97,108,115,101])=false:=by rw [str_eq,hx];decide
 have e2:((strA nm).toList == [110,111,116])=false:=by rw [str_eq,hx];decide
 have e3:((strA nm).toList == [97,108,108,111,102])=false:=by rw [str_eq,hx];decide
 have e4:((strA nm).toList == [97,110,121,111,102])=false:=by rw [str_eq,hx];decide
 have e5:((strA nm).toList == [104,101,97,100,101,114])=false:=by rw [str_eq,hx];decide
 have e6:((strA nm).toList == [101,110,118,101,108,111,112,101])=false:=by rw [str_eq,hx];decide
 have e7:((strA nm).toList == [115,116,114,105,110,103])=false:=by rw [str_eq,hx];decide
 have e8:((strA nm).toList == [101,120,105,115,116,115])=true:=by rw [str_eq,hx];decide
 obtain ⟨W0,hW0⟩:∃ W0,W0=w.alloc (.cells #[.string (strA nm),.slice none 0 0,.slice none 0 0,.slice none 0 0,.int .i64 0,.bool false,.int .i64 0] 200):=⟨_,rfl⟩
 have HWW:=hide hW0
 have HM0:Hid (Mod tb w W0):=by show Mod _ _ _;rw [hW0];exact (Mod.refl _ _).alloc _
 have HN0:Hid (MNode W0 w.heap.size nm 0 false):=by show W0.heap[w.heap.size]?=_;rw [hW0];exact blk_new _ _
 have HT0:Hid (TSt W0 tb l st):=by show TSt _ _ _ _;rw [hW0];exact h.below ((Below.refl _ _).alloc (Nat.le_refl _) _)
 clear h hr hW0 hst he hk hnm
 have HWN:=hide hw
 clear hw hx
 go_enter Tryz.func214,Tryz.ntmps214
 go_wp2_with fail
 rw [← HWW.out]
 refine (qnext_st tb l st W0 HT0.out hl).mono ?_
 rintro e w1 ⟨rfl,hm1,ht1⟩
 have HM1:=hide (HM0.out.trans hm1)
 have HN1:=hide (blk_mod HN0.out hm1 hgt)
 have HT1:=hide ht1
 clear hm1 ht1
 go_wp2_with fail
 refine (qstrings_any rb tb nv l 0 F _ _ (HR.out.mod HM1.out).r HR.out.n HT1.out hl (Nat.zero_le _) hF).mono ?_
 rintro e w2 h2
 obtain ⟨hm2,ht2,v,rfl,⟨xs,hv⟩,hv2⟩:=h2.st
 obtain ⟨g2,n2,k2,rfl⟩:=hv.form
 have hn2:=blk_mod HN1.out hm2 hgt
 have hlt:=blk_lt HN1.out
 have HM2:=hide ((HM1.out.trans hm2).setNew (Nat.le_refl _) 2 (.slice (some ⟨g2,0,none⟩) n2 k2))
 have HN2:=hide (heap_setCell_at _ _ 2 (.slice (some ⟨g2,0,none⟩) n2 k2) _ _ hn2)
 have HT2:=hide (TSt.block (w':=w2.setCell ⟨w.heap.size,2,none⟩ (.slice (some ⟨g2,0,none⟩) n2 k2)) ht2 (Below.heap_setCell _ _ _ _ (Ne.symm hgt)))
 have HV2:=hide hv2
 have hfz2:=fun o=>blk_frozen hn2 o
 have d2:w2.cell? ⟨w.heap.size,2,none⟩=some (.slice none 0 0):=blk_cell hn2 2
 have hs1:=HM1.out.size
 clear h2 hm2 ht2 hv2 hv hn2
 go_wp2
 go_ret
 refine QPost.mk HM2.out (by rw [(congrArg stOf HX.out).trans exists_is.1];exact HT2.out) ⟨_,rfl⟩ (fun y hy=>?_)
 obtain ⟨z,hz,hy1⟩:=exists_is.2 y (HX.out.symm.trans hy)
 rw [hy1]
 exact rtest_mk (Nat.le_refl _) HN2.out HWN.out.symm (Or.inl ⟨rfl,rfl⟩) (Or.inr (((HV2.out z hz).keep (Abv.set hlt _ _)).toX.weak (fun k hk _=>Nat.le_trans hs1 hk))) (Or.inl ⟨rfl,rfl⟩)
end
section
open Go.RowKit
attribute [local go_sem ↓] Go.wp_at_zero Go.wp_at_succ
theorem not_is {l:List UInt8} {F pos:Nat} {α:Type} {sub:PS→Except Flt (α×PS)} {st:Except Flt PS}:stOf (bindS st (testBody l F sub 2 pos))=stOf (bindS st sub)∧∀ y,bindS st (testBody l F sub 2 pos)=.ok y→∃ z,bindS st sub=.ok z∧y.1=(⟨2,pos,0,false,[],[],0⟩,[z.1]):=by
 cases st with
 | error g=>exact ⟨rfl,fun y e=>by cases e⟩
 | ok s=>
  simp only [bindS,testBody]
  cases sub s with
  | error g=>exact ⟨rfl,fun y e=>by cases e⟩
  | ok z=>exact ⟨rfl,fun y e=>⟨z,rfl,by cases e;rfl⟩⟩
theorem set_alloc {tb gb:Nat} {w w2:World} {cs:Array Value} {ty:TypeId} (hm:Mod tb w w2) (hn:w2.heap[gb]?=some (.cells cs ty)) (o:Nat) (v:Value) (ob:Obj) (hg:w.heap.size≤gb:=by omega):Mod tb w ((w2.setCell ⟨gb,o,none⟩ v).alloc ob)∧((w2.setCell ⟨gb,o,none⟩ v).alloc ob).heap[gb]?=some (.cells (cs.setIfInBounds o v) ty)∧((w2.setCell ⟨gb,o,none⟩ v).alloc ob).heap[w2.heap.size]?=some ob∧∀ k,k < w2.heap.size→k≠gb→((w2.setCell ⟨gb,o,none⟩ v).alloc ob).heap[k]?=w2.heap[k]?:=by
 have hlt:=blk_lt hn
 have hz:(w2.setCell ⟨gb,o,none⟩ v).heap.size=w2.heap.size:=World.size_setCell _ _ _
 refine ⟨(hm.setNew hg _ _).alloc _,?_,?_,fun k hk hne=>?_⟩
 ·rw [Below.heap_alloc _ _ _ (by rw [hz];exact hlt)]
  exact heap_setCell_at _ _ _ _ _ _ hn
 ·rw [← hz];exact blk_new _ _
 ·rw [Below.heap_alloc _ _ _ (by rw [hz];exact hk)]
  exact Below.heap_setCell _ _ _ _ hne
def TOk (rb tb:Nat) (nv:Value) (rq:List (List UInt8)) (l:List UInt8) (F n deep:Nat):Prop:=
 ∀ st w,RdI w rb tb nv rq→TSt w tb l st→Calls Tryz.prog 214 #[.pointer (some ⟨rb,0,none⟩),.int .i64 deep] w (QPost (bindS st (testL l rq F n)) tb l w (RTest n (fromB w.heap.size)) anyPtr)
theorem qtest_not (rb tb:Nat) (nv:Value) (rq:List (List UInt8)) (l:List UInt8) (F n deep:Nat) (st:Except Flt PS) (w:World) (hr:RdI w rb tb nv rq) (h:TSt w tb l st) (hl:l.length≤600) (hF:2*l.length+2≤F) (hd:deep+n=6) (hI:TOk rb tb nv rq l F n (deep+1)) (hk:(wordS l st).1=119) (hw:(wordS l st).2.1=kNot) :
 Calls Tryz.prog 214 #[.pointer (some ⟨rb,0,none⟩),.int .i64 deep] w (QPost (bindS st (testL l rq F (n+1))) tb l w (RTest (n+1) (fromB w.heap.size)) anyPtr):=by
 have HX:Hid (bindS st (testL l rq F (n+1))=bindS (nextS l st) (testBody l F (testL l rq F n) 2 (wordS l st).2.2.2)):=by
  show _=_
  rw [test_is h hk (by rw [hw];decide),hw,pre_none (by decide) (by decide)]
  rfl
 have r0:w.cell? ⟨rb,0,none⟩=some (.pointer (some ⟨tb,0,none⟩)):=blk_cell hr.r 0
 obtain ⟨c2,c4,c5,c6,c7⟩:=h.cells
 have H:=hide h
 have HR:=hide hr
 have hrl:=blk_lt hr.r
 have htl:=h.lt
 have hgt:w.heap.size≠tb:=by omega
 obtain ⟨s0,hst,_,_⟩:=ok_word h hk
 have he:errS st=0:=by rw [hst];rfl
 have heb:((errS st:Int) != 0)=false:=by simp;omega
 have hkb:(((wordS l st).1:Int) != 119)=false:=by simp;omega
 have hdb:decide ((6:Int) < (deep:Int))=false:=decide_eq_false (by omega)
 obtain ⟨nm,hnm⟩:∃ nm,(wordS l st).2.1=nm:=⟨_,rfl⟩
 rw [hnm] at c5 hw
 have hx:=hw
 have e0:((strA nm).toList == [116,114,117,101])=false:=by rw [str_eq,hx];decide
 have e1:((strA nm).toList == [102,97,108,115,101])=false:=by rw [str_eq,hx];decide
 have e2:((strA nm).toList == [110,111,116])=true:=by rw [str_eq,hx];decide
 obtain ⟨W0,hW0⟩:∃ W0,W0=w.alloc (.cells #[.string (strA nm),.slice none 0 0,.slice none 0 0,.slice none 0 0,.int .i64 0,.bool false,.int .i64 0] 200):=⟨_,rfl⟩
 have HWW:=hide hW0
 have HM0:Hid (Mod tb w W0):=by show Mod _ _ _;rw [hW0];exact (Mod.refl _ _).alloc _
 have HN0:Hid (MNode W0 w.heap.size nm 0 false):=by show W0.heap[w.heap.size]?=_;rw [hW0];exact blk_new _ _
 have HT0:Hid (TSt W0 tb l st):=by show TSt _ _ _ _;rw [hW0];exact h.below ((Below.refl _ _).alloc (Nat.le_refl _) _)
 clear h hr hW0 hst he hk hnm
 have HWN:=hide hw
 clear hw hx
 have HI:=hide hI
 clear hI
 have hd6:deep≤6:=by omega
 go_enter Tryz.func214,Tryz.ntmps214
 go_wp2_with fail
 rw [← HWW.out]
 refine (qnext_st tb l st W0 HT0.out hl).mono ?_
 rintro e w1 ⟨rfl,hm1,ht1⟩
 have HM1:=hide (HM0.out.trans hm1)
 have HN1:=hide (blk_mod HN0.out hm1 hgt)
 have HT1:=hide ht1
 clear hm1 ht1
 go_wp2_with fail
 refine (HI.out (nextS l st) _ (HR.out.mod HM1.out) HT1.out).mono ?_
 rintro e w2 h2
 obtain ⟨hm2,ht2,v,rfl,⟨g2,rfl⟩,hv2⟩:=h2.st
 have hlt:=blk_lt HN1.out
 have hnb:=blk_mod HN1.out hm2 hgt
 have hl2:w.heap.size < w2.heap.size:=blk_lt hnb
 have hs1:=HM1.out.size
 have hs2:=hm2.size
 obtain ⟨W3,hW3⟩:∃ W3,W3=(w2.setCell ⟨w.heap.size,1,none⟩ (.slice (some ⟨w2.heap.size,0,none⟩) 1 1)).alloc (.cells #[.pointer (some ⟨g2,0,none⟩)] 158):=⟨_,rfl⟩
 have HW3:=hide hW3
 obtain ⟨hm3,hn3,hc3,hb3⟩:=set_alloc (HM1.out.trans hm2) hnb 1 (.slice (some ⟨w2.heap.size,0,none⟩) 1 1) (.cells #[.pointer (some ⟨g2,0,none⟩)] 158)
 rw [← hW3] at hm3 hn3 hc3 hb3
 have HM2:=hide hm3
 have HN2:=hide hn3
 have HT2:=hide (ht2.block (hb3 tb ht2.lt (Ne.symm hgt)))
 have HV2:Hid (∀ z,bindS (nextS l st) (testL l rq F n)=.ok z→trY (RTest n) (fromB w.heap.size) [z.1] W3 (.slice (some ⟨w2.heap.size,0,none⟩) 1 1)):=by
  intro z hz
  refine Or.inr ⟨by simp,w2.heap.size,1,rfl,Nat.le_trans hs1 hs2,fun j hj=>?_⟩
  have h0:j=0:=by simpa using hj
  subst h0
  refine ⟨.pointer (some ⟨g2,0,none⟩),blk_cell hc3 0,?_⟩
  refine (rtest_tree n).weak (fromB w1.heap.size) _ _ _ _ ((rtest_tree n).keep _ _ _ _ _ (hv2 z hz) ?_) (fun k hk _=>Nat.le_trans hs1 hk)
  intro k hk hkz
  have hk':w1.heap.size≤k:=hk
  have:=blk_lt HN1.out
  exact hb3 k hkz (by omega)
 have hfz2:=fun o=>blk_frozen hnb o
 have d2:w2.cell? ⟨w.heap.size,1,none⟩=some (.slice none 0 0):=blk_cell hnb 1
 clear h2 hm2 ht2 hv2 hnb hm3 hn3 hc3 hb3 hW3
 go_wp2
 go_ret
 rw [← HW3.out]
 refine QPost.mk HM2.out (by rw [(congrArg stOf HX.out).trans not_is.1];exact HT2.out) ⟨_,rfl⟩ (fun y hy=>?_)
 obtain ⟨z,hz,hy1⟩:=not_is.2 y (HX.out.symm.trans hy)
 rw [hy1]
 exact rtest_mk (Nat.le_refl _) HN2.out HWN.out.symm (HV2.out z hz) (Or.inl ⟨rfl,rfl⟩) (Or.inl ⟨rfl,rfl⟩)
end
end Go.Proofs.YtgnkjijocdmniaaGreatDoor
