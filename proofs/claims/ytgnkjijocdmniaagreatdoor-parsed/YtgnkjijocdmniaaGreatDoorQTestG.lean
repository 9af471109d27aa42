import Derived.Test.YtgnkjijocdmniaaGreatDoorZQCmdL
import Derived.Test.YtgnkjijocdmniaaGreatDoorZQTestN
namespace Go.Proofs.YtgnkjijocdmniaaGreatDoor
set_option linter.unusedVariables false
set_option linter.unusedSimpArgs false
set_option maxRecDepth 100000
set_option maxHeartbeats 4000000
open Go.RowKit
attribute [local go_sem ↓] Go.wp_at_zero Go.wp_at_succ
theorem Tryz.infoPtrTest:(Tryz.prog.info? 158).map (fun i=>(i.zero,i.size,i.bytes))=some (some (.pointer none),1,8):=by kernel_rfl
theorem group_is3 {l:List UInt8} {F pos:Nat} {α:Type} {sub:PS→Except Flt (α×PS)} {st:Except Flt PS}:stOf (bindS st (testBody l F sub 3 pos))=stOf (bindS st (groupL l F sub))∧∀ y,bindS st (testBody l F sub 3 pos)=.ok y→∃ z,bindS st (groupL l F sub)=.ok z∧y.1=(⟨3,pos,0,false,[],[],0⟩,z.1):=by
 cases st with
 | error g=>exact ⟨rfl,fun y e=>by cases e⟩
 | ok s=>
  simp only [bindS,testBody]
  cases groupL l F sub s with
  | error g=>exact ⟨rfl,fun y e=>by cases e⟩
  | ok z=>exact ⟨rfl,fun y e=>⟨z,rfl,by cases e;rfl⟩⟩
theorem group_is4 {l:List UInt8} {F pos:Nat} {α:Type} {sub:PS→Except Flt (α×PS)} {st:Except Flt PS}:stOf (bindS st (testBody l F sub 4 pos))=stOf (bindS st (groupL l F sub))∧∀ y,bindS st (testBody l F sub 4 pos)=.ok y→∃ z,bindS st (groupL l F sub)=.ok z∧y.1=(⟨4,pos,0,false,[],[],0⟩,z.1):=by
 cases st with
 | error g=>exact ⟨rfl,fun y e=>by cases e⟩
 | ok s=>
  simp only [bindS,testBody]
  cases groupL l F sub s with
  | error g=>exact ⟨rfl,fun y e=>by cases e⟩
  | ok z=>exact ⟨rfl,fun y e=>⟨z,rfl,by cases e;rfl⟩⟩
theorem ownsRow_setQ {w:World} {base T o:Nat} {x:Value} {e:TypeId} {size:Nat} {v:Value} {n:Nat} {xs:List Value} (h:w.ownsRow base e size v n xs) (hT:T < base):(w.setCell ⟨T,o,none⟩ x).ownsRow base e size v n xs:=by
 obtain ⟨h1,h2⟩:=h
 refine ⟨h1,?_⟩
 rcases h2 with h2 | ⟨g,cap,cur,hv,hg,hh,r⟩
 ·exact Or.inl h2
 ·exact Or.inr ⟨g,cap,cur,hv,hg,by rw [Below.heap_setCell _ _ _ _ (show g≠T by omega)];exact hh,r⟩
def GNode (w:World) (gb:Nat) (nm:List UInt8) (tv:Value):Prop:=w.heap[gb]?=some (.cells #[.string (strA nm),tv,.slice none 0 0,.slice none 0 0,.int .i64 0,.bool false,.int .i64 0] 200)
theorem qtest_allof (rb tb:Nat) (nv:Value) (rq:List (List UInt8)) (l:List UInt8) (F n deep:Nat) (st:Except Flt PS) (w:World) (hr:RdI w rb tb nv rq) (h:TSt w tb l st) (hl:l.length≤600) (hF:2*l.length+2≤F) (hd:deep+n=6) (hI:TOk rb tb nv rq l F n (deep+1)) (hk:(wordS l st).1=119) (hw:(wordS l st).2.1=kAllof) :
 Calls Tryz.prog 214 #[.pointer (some ⟨rb,0,none⟩),.int .i64 deep] w (QPost (bindS st (testL l rq F (n+1))) tb l w (RTest (n+1) (fromB w.heap.size)) anyPtr):=by
 have HX:Hid (bindS st (testL l rq F (n+1))=bindS (nextS l st) (testBody l F (testL l rq F n) 3 (wordS l st).2.2.2)):=by
  show _=_
  rw [test_is h hk (by rw [hw];decide),hw,pre_none (by decide) (by decide)]
  rfl
 have r0:w.cell? ⟨rb,0,none⟩=some (.pointer (some ⟨tb,0,none⟩)):=blk_cell hr.r 0
 obtain ⟨c2,c4,c5,c6,c7⟩:=h.cells
 have H:=hide h
 have HR:=hide hr
 have hrl:=blk_lt hr.r
 have htl:=h.lt
 have hgt:w.heap.size≠tb:=by omega
 obtain ⟨s0,hst,_,_⟩:=ok_word h hk
 have he:errS st=0:=by rw [hst];rfl
 have heb:((errS st:Int) != 0)=false:=by simp;omega
 have hkb:(((wordS l st).1:Int) != 119)=false:=by simp;omega
 have hdb:decide ((6:Int) < (deep:Int))=false:=decide_eq_false (by omega)
 obtain ⟨nm,hnm⟩:∃ nm,(wordS l st).2.1=nm:=⟨_,rfl⟩
 rw [hnm] at c5 hw
 have hx:=hw
 have e0:((strA nm).toList == [116,114,117,101])=false:=by rw [str_eq,hx];decide
 have e1:((strA nm).toList == [102,97,108,115,101])=false:=by rw [str_eq,hx];decide
 have e2:((strA nm).toList == [110,111,116])=false:=by rw [str_eq,hx];decide
 have e3:((strA nm).toList == [97,108,108,111,102])=true:=by rw [str_eq,hx];decide
 obtain ⟨W0,hW0⟩:∃ W0,W0=w.alloc (.cells #[.string (strA nm),.slice none 0 0,.slice none 0 0,.slice none 0 0,.int .i64 0,.bool false,.int .i64 0] 200):=⟨_,rfl⟩
 have HWW:=hide hW0
 have HM0:Hid (Mod tb w W0):=by show Mod _ _ _;rw [hW0];exact (Mod.refl _ _).alloc _
 have HN0:Hid (MNode W0 w.heap.size nm 0 false):=by show W0.heap[w.heap.size]?=_;rw [hW0];exact blk_new _ _
 have HT0:Hid (TSt W0 tb l st):=by show TSt _ _ _ _;rw [hW0];exact h.below ((Below.refl _ _).alloc (Nat.le_refl _) _)
 clear h hr hW0 hst he hk hnm
 have HWN:=hide hw
 clear hw hx
 have HI:=hide hI
 clear hI
 have hd6:deep≤6:=by omega
 have HP:=hide (group_is3 (l:=l) (F:=F) (pos:=(wordS l st).2.2.2) (sub:=testL l rq F n) (st:=nextS l st))
 have HDN:=hide (fun s hs=>test_dn (l:=l) (req:=rq) (F:=F) n s hs)
 obtain ⟨i0,hi,hz0,hz1,hz2⟩:=info_parts Tryz.infoPtrTest
 go_enter Tryz.func214,Tryz.ntmps214
 go_wp2_with fail
 rw [← HWW.out]
 refine (qnext_st tb l st W0 HT0.out hl).mono ?_
 rintro e w1 ⟨rfl,hm1,ht1⟩
 have HM1:=hide (HM0.out.trans hm1)
 have HN1:=hide (blk_mod HN0.out hm1 hgt)
 have HT1:=hide ht1
 clear hm1 ht1
 go_wp2_with fail
 refine (qsign_any rb tb nv l 40 _ _ (HR.out.mod HM1.out).r HT1.out hl).mono ?_
 rintro e w2 ⟨rfl,hm2,ht2⟩
 have HM2:=hide (HM1.out.trans hm2)
 have HN2:Hid (GNode w2 w.heap.size nm (.slice none 0 0)):=blk_mod HN1.out hm2 hgt
 have HT2:=hide ht2
 have HGI:=hide (grp_begin (F:=F) (sub:=testL l rq F n) HT1.out ht2 hl hF)
 have hms:=muS_le ht2 hl
 have hw2:w.heap.size+1≤w2.heap.size:=blk_lt HN2.out
 clear hm2 ht2 HM1 HN1 HN0 HM0 HT0
 generalize bindS (nextS l st) (groupL l F (testL l rq F n))=R at *
 go_upto_block 1 with fail
 go_cut [] (fun wx=>∃ (st1:Except Flt PS) (vs:List Value) (tv:Value),GNode wx w.heap.size nm tv∧wx.ownsRow (w.heap.size+1) 158 1 tv vs.length vs∧TSt wx tb l st1∧Mod tb w wx∧stOf R=signS l 41 st1∧∀ y,R=.ok y→y.1≠[]∧RowP (fun a u=>Gath (RTest n) (w.heap.size+1) wx tv a u) y.1 vs)
 case first=>
  go_wp2_with fail
  go_loopg [7] (muS l (signS l 40 (nextS l st))) (fun k _ wr=>∃ (st1:Except Flt PS) (ts:List (TestT n)) (vs:List Value) (tv:Value),k=muS l st1∧GNode wr w.heap.size nm tv∧wr.ownsRow (w.heap.size+1) 158 1 tv vs.length vs∧TSt wr tb l st1∧Mod tb w wr∧GrpI R l (testL l rq F n) st1 ts∧vs.length+muS l st1≤1300∧∀ s,st1=.ok s→RowP (fun a u=>Gath (RTest n) (w.heap.size+1) wr tv a u) ts vs)
  case atStart=>exact ⟨_,[],[],_,rfl,HN2.out,World.ownsRow_nil _ _ _ _,HT2.out,HM2.out,HGI.out,by simp;omega,fun _ _=>trivial⟩
  case round=>
   obtain ⟨st1,ts,vs,tv,rfl,hnd,hown,ht,hm,hj,hlen,hrow⟩:=hrel
   have HND:=hide hnd
   have HOW:=hide hown
   have HTR:=hide ht
   have HMR:=hide hm
   have HJR:=hide hj
   have HRW:=hide hrow
   have hwr:w.heap.size+1≤wr.heap.size:=blk_lt hnd
   have r0':wr.cell? ⟨rb,0,none⟩=some (.pointer (some ⟨tb,0,none⟩)):=blk_cell (HR.out.mod hm).r 0
   have HCA:=hide (HI.out st1 wr (HR.out.mod hm) ht)
   clear hown ht hm hj hrow hnd HGI HT2 HN2 HM2 hms
   go_wp2_with fail
   refine HCA.out.mono ?_
   rintro e w3 h3
   obtain ⟨hm3,ht3,v,rfl,⟨g2,rfl⟩,hv3⟩:=h3.st
   have HGS:=hide (grp_step HDN.out HJR.out HTR.out ht3)
   have HM3:=hide (HMR.out.trans hm3)
   have HT3:=hide ht3
   have hown3:=ownsRow_mod (b:=tb) HOW.out hm3 (by omega)
   have hn3:=blk_mod HND.out hm3 hgt
   have HN3:=hide hn3
   have hw3:w.heap.size+1≤w3.heap.size:=blk_lt hn3
   have t1:w3.cell? ⟨w.heap.size,1,none⟩=some tv:=blk_cell hn3 1
   have hltr:=hide (fun k hk=>(HOW.out.lt k hk).2)
   have HRW3:Hid (∀ z,bindS st1 (testL l rq F n)=.ok z→RowP (fun a u=>Gath (RTest n) (w.heap.size+1) w3 tv a u) (ts++[z.1]) (vs++[.pointer (some ⟨g2,0,none⟩)])):=by
    intro z hz
    obtain ⟨s,hs⟩:∃ s,st1=.ok s:=by
     cases st1 with
     | ok s=>exact ⟨s,rfl⟩
     | error f=>cases hz
    exact RowP.snoc (P:=fun a u=>Gath (RTest n) (w.heap.size+1) w3 tv a u) (GathQ.new (rtest_tree n) (hv3 z hz) hwr hltr.out) ((HRW.out s hs).imp (fun a u hu=>GathQ.mod (rtest_tree n) (b:=tb) hu hm3 (by omega)))
   obtain ⟨st3,hst3⟩:∃ st3,stOf (bindS st1 (testL l rq F n))=st3:=⟨_,rfl⟩
   rw [hst3] at HGS HT3
   clear h3 hm3 ht3 hv3 hn3 HOW HND HTR HMR HJR HCA
   go_wp2_with (at_builtin;refine wpList_append_own_at _ rfl _ _ 152 rfl (w.heap.size+1) 158 i0 (.pointer none) 1 8 Tryz.underlying152 hi hz0 hz1 hz2 rfl (by decide) _ _ _ rfl (hown3.alloc _) ⟨w3.heap.size,0,none⟩ 1 1 [.pointer (some ⟨g2,0,none⟩)] rfl rfl ?c1 ?c2 ?c3 ?c4 ?c5 ?_)
   case c1=>
    intro j u hj
    match j,hj with
    | 0,hj=>simp at hj;subst hj;simp [Addr.add]
   case c2=>intro u hu;simp at hu;subst hu;rfl
   case c3=>unfold maxLen;omega
   case c4=>omega
   case c5=>simp;omega
   ·intro v' w5 hown5 hgrow _ hat
    have hrowb:∀ k,tv.ownBlock=some k→w.heap.size+1≤k:=fun k hk=>(hown3.lt k hk).1
    have hm5:=(HM3.out.alloc (Obj.cells #[.pointer (some ⟨g2,0,none⟩)] 158)).grown hgrow (fun k hk=>by have:=hrowb k hk;omega)
    have hk5:∀ k,k < w.heap.size+1→w5.heap[k]?=w3.heap[k]?:=fun k hk=>by
     rw [hgrow.block k (by simp;omega) (fun e=>by have:=hrowb k e.symm;omega)]
     exact Below.heap_alloc _ _ _ (by omega)
    have hn5:=(hk5 w.heap.size (by omega)).trans HN3.out
    obtain ⟨p5,m5,c5',rfl⟩:=own_form hown5
    obtain ⟨W6,hW6⟩:∃ W6,W6=w5.setCell ⟨w.heap.size,1,none⟩ (.slice p5 m5 c5'):=⟨_,rfl⟩
    have HW6:=hide hW6
    have HM6:Hid (Mod tb w W6):=by show Mod _ _ _;rw [hW6];exact hm5.setNew (Nat.le_refl _) _ _
    have HN6:Hid (GNode W6 w.heap.size nm (.slice p5 m5 c5')):=by show W6.heap[w.heap.size]?=_;rw [hW6];exact heap_setCell_at _ _ _ _ _ _ hn5
    have HO6:Hid (W6.ownsRow (w.heap.size+1) 158 1 (.slice p5 m5 c5') (vs++[Value.pointer (some ⟨g2,0,none⟩)]).length (vs++[.pointer (some ⟨g2,0,none⟩)])):=by
     show World.ownsRow _ _ _ _ _ _ _
     rw [hW6]
     exact ownsRow_setQ (by simpa using hown5) (by omega)
    have HT6:Hid (TSt W6 tb l st3):=by
     show TSt _ _ _ _
     rw [hW6]
     exact (HT3.out.block (hk5 tb (by omega))).block (Below.heap_setCell _ _ _ _ (Ne.symm hgt))
    have HRW6:Hid (∀ z,bindS st1 (testL l rq F n)=.ok z→RowP (fun a u=>Gath (RTest n) (w.heap.size+1) W6 (.slice p5 m5 c5') a u) (ts++[z.1]) (vs++[.pointer (some ⟨g2,0,none⟩)])):=by
     intro z hz
     rw [hW6]
     exact (HRW3.out z hz).imp (fun a u hu=>GathQ.set (rtest_tree n) (GathQ.grown (rtest_tree n) hu hgrow hat) (by omega) _ _)
    have f5:=fun o=>blk_frozen hn5 o
    have t5:w5.cell? ⟨w.heap.size,1,none⟩=some tv:=blk_cell hn5 1
    have hl5:w.heap.size < w5.heap.size:=blk_lt hn5
    obtain ⟨q2,q4,_,_,_⟩:=HT6.out.cells
    have qr:W6.cell? ⟨rb,0,none⟩=some (.pointer (some ⟨tb,0,none⟩)):=blk_cell (HR.out.mod HM6.out).r 0
    clear hown5 hgrow hown3 hrowb hat hm5 hk5 hn5 hW6
    by_cases hk:(wordS l st3).1=44
    ·obtain ⟨he,hmu,z,hz,hx⟩:=HGS.out.1 hk
     have hkb:(((wordS l st3).1:Int) != 44)=false:=by simp;omega
     have heb:((errS st3:Int) != 0)=false:=by simp;omega
     have HX6:=hide hx
     have HZ:=hide hz
     clear hx hz HGS hst3 HT3 HN3 HM3
     go_wp2_with (rw [← HW6.out])
     go_wp2_with fail
     refine (qnext_st tb l st3 _ (HT6.out.block rfl) hl).mono ?_
     rintro e w7 ⟨rfl,hm7,ht7⟩
     have HM7:=hide (HM6.out.trans hm7)
     have HT7:=hide ht7
     have HO7:=hide (ownsRow_mod (b:=tb) HO6.out hm7 (by omega))
     have HN7:=hide (blk_mod HN6.out hm7 hgt)
     have HR7:=hide ((HRW6.out z HZ.out).imp (fun a u hu=>GathQ.mod (rtest_tree n) (b:=tb) hu hm7 (by omega)))
     clear hm7 ht7
     go_wp2
     go_roundg (muS l (nextS l st3))
     case measure=>exact hmu
     case rel=>exact ⟨nextS l st3,ts++[z.1],_,_,rfl,HN7.out,HO7.out,HT7.out,HM7.out,HX6.out,by simp;omega,fun _ _=>HR7.out⟩
    ·obtain ⟨hR,hy⟩:=HGS.out.2 hk
     have hkb:(((wordS l st3).1:Int) != 44)=true:=by simp;omega
     have HY:=hide hy
     clear hy HGS hst3 HT3 HN3 HM3
     cases heb:((errS st3:Int) != 0)
     all_goals go_wp2_with (rw [← HW6.out])
     all_goals go_wp2
     all_goals go_meet
     all_goals
      refine ⟨st3,_,_,HN6.out,HO6.out,HT6.out,HM6.out,hR,fun y e=>?_⟩
      obtain ⟨z,hz,h⟩:=HY.out y e
      rw [h]
      exact ⟨by simp,HRW6.out z hz⟩
 case rest=>
  obtain ⟨st1,vs,tv,hnd,hown,ht,hm,hR,hy⟩:=hcut
  have HS:=hide (qsign_any rb tb nv l 41 st1 wc (HR.out.mod hm).r ht hl)
  have HOW:=hide hown
  have HM:=hide hm
  have HY:=hide hy
  have HND:=hide hnd
  clear ht hm hown hy hnd HGI HT2 HN2 HM2 hms
  go_wp2_with fail
  refine HS.out.mono ?_
  rintro e w3 ⟨rfl,hm3,ht3⟩
  have HM3:=hide (HM.out.trans hm3)
  have HT3:=hide ht3
  have HO3:=hide (ownsRow_mod (b:=tb) HOW.out hm3 (by omega))
  have HN3:=hide (blk_mod HND.out hm3 hgt)
  have HY3:=hide (fun y e=>(HY.out y e).2.imp (fun a u hu=>GathQ.mod (rtest_tree n) (b:=tb) hu hm3 (by omega)))
  clear hm3 ht3
  go_wp2
  go_ret
  refine QPost.mk HM3.out (by rw [(congrArg stOf HX.out).trans HP.out.1,hR];exact HT3.out) ⟨_,rfl⟩ (fun y e=>?_)
  obtain ⟨z,hz,hy1⟩:=HP.out.2 y (HX.out.symm.trans e)
  rw [hy1]
  refine rtest_mk (Nat.le_refl _) HN3.out HWN.out.symm (Or.inr ⟨(HY.out z hz).1,?_⟩) (Or.inl ⟨rfl,rfl⟩) (Or.inl ⟨rfl,rfl⟩)
  have hlen:=row_len (HY3.out z hz)
  have ho:=HO3.out
  rw [← hlen] at ho
  exact trX.weakQ (rtest_tree n) (HY.out z hz).1 (trX.of_ownsQ (rtest_tree n) ho rfl (HY.out z hz).1 (HY3.out z hz)) (fun k hk _=>Nat.le_trans (Nat.le_succ _) hk)
theorem qtest_anyof (rb tb:Nat) (nv:Value) (rq:List (List UInt8)) (l:List UInt8) (F n deep:Nat) (st:Except Flt PS) (w:World) (hr:RdI w rb tb nv rq) (h:TSt w tb l st) (hl:l.length≤600) (hF:2*l.length+2≤F) (hd:deep+n=6) (hI:TOk rb tb nv rq l F n (deep+1)) (hk:(wordS l st).1=119) (hw:(wordS l st).2.1=kAnyof) :
 Calls Tryz.prog 214 #[.pointer (some ⟨rb,0,none⟩),.int .i64 deep] w (QPost (bindS st (testL l rq F (n+1))) tb l w (RTest (n+1) (fromB w.heap.size)) anyPtr):=by
 have HX:Hid (bindS st (testL l rq F (n+1))=bindS (nextS l st) (testBody l F (testL l rq F n) 4 (wordS l st).2.2.2)):=by
  show _=_
  rw [test_is h hk (by rw [hw];decide),hw,pre_none (by decide) (by decide)]
  rfl
 have r0:w.cell? ⟨rb,0,none⟩=some (.pointer (some ⟨tb,0,none⟩)):=blk_cell hr.r 0
 obtain ⟨c2,c4,c5,c6,c7⟩:=h.cells
 have H:=hide h
 have HR:=hide hr
 have hrl:=blk_lt hr.r
 have htl:=h.lt
 have hgt:w.heap.size≠tb:=by omega
 obtain ⟨s0,hst,_,_⟩:=ok_word h hk
 have he:errS st=0:=by rw [hst];rfl
 have heb:((errS st:Int) != 0)=false:=by simp;omega
 have hkb:(((wordS l st).1:Int) != 119)=false:=by simp;omega
 have hdb:decide ((6:Int) < (deep:Int))=false:=decide_eq_false (by omega)
 obtain ⟨nm,hnm⟩:∃ nm,(wordS l st).2.1=nm:=⟨_,rfl⟩
 rw [hnm] at c5 hw
 have hx:=hw
 have e0:((strA nm).toList == [116,114,117,101])=false:=by rw [str_eq,hx];decide
 have e1:((strA nm).toList == [102,97,108,115,101])=false:=by rw [str_eq,hx];decide
 have e2:((strA nm).toList == [110,111,116])=false:=by rw [str_eq,hx];decide
 have e3:((strA nm).toList == [97,108,108,111,102])=false:=by rw [str_eq,hx];decide
 have e4:((strA nm).toList == [97,110,121,111,102])=true:=by rw [str_eq,hx];decide
 obtain ⟨W0,hW0⟩:∃ W0,W0=w.alloc (.cells #[.string (strA nm),.slice none 0 0,.slice none 0 0,.slice none 0 0,.int .i64 0,.bool false,.int .i64 0] 200):=⟨_,rfl⟩
 have HWW:=hide hW0
 have HM0:Hid (Mod tb w W0):=by show Mod _ _ _;rw [hW0];exact (Mod.refl _ _).alloc _
 have HN0:Hid (MNode W0 w.heap.size nm 0 false):=by show W0.heap[w.heap.size]?=_;rw [hW0];exact blk_new _ _
 have HT0:Hid (TSt W0 tb l st):=by show TSt _ _ _ _;rw [hW0];exact h.below ((Below.refl _ _).alloc (Nat.le_refl _) _)
 clear h hr hW0 hst he hk hnm
 have HWN:=hide hw
 clear hw hx
 have HI:=hide hI
 clear hI
 have hd6:deep≤6:=by omega
 have HP:=hide (group_is4 (l:=l) (F:=F) (pos:=(wordS l st).2.2.2) (sub:=testL l rq F n) (st:=nextS l st))
 have HDN:=hide (fun s hs=>test_dn (l:=l) (req:=rq) (F:=F) n s hs)
 obtain ⟨i0,hi,hz0,hz1,hz2⟩:=info_parts Tryz.infoPtrTest
 go_enter Tryz.func214,Tryz.ntmps214
 go_wp2_with fail
 rw [← HWW.out]
 refine (qnext_st tb l st W0 HT0.out hl).mono ?_
 rintro e w1 ⟨rfl,hm1,ht1⟩
 have HM1:=hide (HM0.out.trans hm1)
 have HN1:=hide (blk_mod HN0.out hm1 hgt)
 have HT1:=hide ht1
 clear hm1 ht1
 go_wp2_with fail
 refine (qsign_any rb tb nv l 40 _ _ (HR.out.mod HM1.out).r HT1.out hl).mono ?_
 rintro e w2 ⟨rfl,hm2,ht2⟩
 have HM2:=hide (HM1.out.trans hm2)
 have HN2:Hid (GNode w2 w.heap.size nm (.slice none 0 0)):=blk_mod HN1.out hm2 hgt
 have HT2:=hide ht2
 have HGI:=hide (grp_begin (F:=F) (sub:=testL l rq F n) HT1.out ht2 hl hF)
 have hms:=muS_le ht2 hl
 have hw2:w.heap.size+1≤w2.heap.size:=blk_lt HN2.out
 clear hm2 ht2 HM1 HN1 HN0 HM0 HT0
 generalize bindS (nextS l st) (groupL l F (testL l rq F n))=R at *
 go_upto_block 1 with fail
 go_cut [] (fun wx=>∃ (st1:Except Flt PS) (vs:List Value) (tv:Value),GNode wx w.heap.size nm tv∧wx.ownsRow (w.heap.size+1) 158 1 tv vs.length vs∧TSt wx tb l st1∧Mod tb w wx∧stOf R=signS l 41 st1∧∀ y,R=.ok y→y.1≠[]∧RowP (fun a u=>Gath (RTest n) (w.heap.size+1) wx tv a u) y.1 vs)
 case first=>
  go_wp2_with fail
  go_loopg [7] (muS l (signS l 40 (nextS l st))) (fun k _ wr=>∃ (st1:Except Flt PS) (ts:List (TestT n)) (vs:List Value) (tv:Value),k=muS l st1∧GNode wr w.heap.size nm tv∧wr.ownsRow (w.heap.size+1) 158 1 tv vs.length vs∧TSt wr tb l st1∧Mod tb w wr∧GrpI R l (testL l rq F n) st1 ts∧vs.length+muS l st1≤1300∧∀ s,st1=.ok s→RowP (fun a u=>Gath (RTest n) (w.heap.size+1) wr tv a u) ts vs)
  case atStart=>exact ⟨_,[],[],_,rfl,HN2.out,World.ownsRow_nil _ _ _ _,HT2.out,HM2.out,HGI.out,by simp;omega,fun _ _=>trivial⟩
  case round=>
   obtain ⟨st1,ts,vs,tv,rfl,hnd,hown,ht,hm,hj,hlen,hrow⟩:=hrel
   have HND:=hide hnd
   have HOW:=hide hown
   have HTR:=hide ht
   have HMR:=hide hm
   have HJR:=hide hj
   have HRW:=hide hrow
   have hwr:w.heap.size+1≤wr.heap.size:=blk_lt hnd
   have r0':wr.cell? ⟨rb,0,none⟩=some (.pointer (some ⟨tb,0,none⟩)):=blk_cell (HR.out.mod hm).r 0
   have HCA:=hide (HI.out st1 wr (HR.out.mod hm) ht)
   clear hown ht hm hj hrow hnd HGI HT2 HN2 HM2 hms
   go_wp2_with fail
   refine HCA.out.mono ?_
   rintro e w3 h3
   obtain ⟨hm3,ht3,v,rfl,⟨g2,rfl⟩,hv3⟩:=h3.st
   have HGS:=hide (grp_step HDN.out HJR.out HTR.out ht3)
   have HM3:=hide (HMR.out.trans hm3)
   have HT3:=hide ht3
   have hown3:=ownsRow_mod (b:=tb) HOW.out hm3 (by omega)
   have hn3:=blk_mod HND.out hm3 hgt
   have HN3:=hide hn3
   have hw3:w.heap.size+1≤w3.heap.size:=blk_lt hn3
   have t1:w3.cell? ⟨w.heap.size,1,none⟩=some tv:=blk_cell hn3 1
   have hltr:=hide (fun k hk=>(HOW.out.lt k hk).2)
   have HRW3:Hid (∀ z,bindS st1 (testL l rq F n)=.ok z→RowP (fun a u=>Gath (RTest n) (w.heap.size+1) w3 tv a u) (ts++[z.1]) (vs++[.pointer (some ⟨g2,0,none⟩)])):=by
    intro z hz
    obtain ⟨s,hs⟩:∃ s,st1=.ok s:=by
     cases st1 with
     | ok s=>exact ⟨s,rfl⟩
     | error f=>cases hz
    exact RowP.snoc (P:=fun a u=>Gath (RTest n) (w.heap.size+1) w3 tv a u) (GathQ.new (rtest_tree n) (hv3 z hz) hwr hltr.out) ((HRW.out s hs).imp (fun a u hu=>GathQ.mod (rtest_tree n) (b:=tb) hu hm3 (by omega)))
   obtain ⟨st3,hst3⟩:∃ st3,stOf (bindS st1 (testL l rq F n))=st3:=⟨_,rfl⟩
   rw [hst3] at HGS HT3
   clear h3 hm3 ht3 hv3 hn3 HOW HND HTR HMR HJR HCA
   go_wp2_with (at_builtin;refine wpList_append_own_at _ rfl _ _ 152 rfl (w.heap.size+1) 158 i0 (.pointer none) 1 8 Tryz.underlying152 hi hz0 hz1 hz2 rfl (by decide) _ _ _ rfl (hown3.alloc _) ⟨w3.heap.size,0,none⟩ 1 1 [.pointer (some ⟨g2,0,none⟩)] rfl rfl ?c1 ?c2 ?c3 ?c4 ?c5 ?_)
   case c1=>
    intro j u hj
    match j,hj with
    | 0,hj=>simp at hj;subst hj;simp [Addr.add]
   case c2=>intro u hu;simp at hu;subst hu;rfl
   case c3=>unfold maxLen;omega
   case c4=>omega
   case c5=>simp;omega
   ·intro v' w5 hown5 hgrow _ hat
    have hrowb:∀ k,tv.ownBlock=some k→w.heap.size+1≤k:=fun k hk=>(hown3.lt k hk).1
    have hm5:=(HM3.out.alloc (Obj.cells #[.pointer (some ⟨g2,0,none⟩)] 158)).grown hgrow (fun k hk=>by have:=hrowb k hk;omega)
    have hk5:∀ k,k < w.heap.size+1→w5.heap[k]?=w3.heap[k]?:=fun k hk=>by
     rw [hgrow.block k (by simp;omega) (fun e=>by have:=hrowb k e.symm;omega)]
     exact Below.heap_alloc _ _ _ (by omega)
    have hn5:=(hk5 w.heap.size (by omega)).trans HN3.out
    obtain ⟨p5,m5,c5',rfl⟩:=own_form hown5
    obtain ⟨W6,hW6⟩:∃ W6,W6=w5.setCell ⟨w.heap.size,1,none⟩ (.slice p5 m5 c5'):=⟨_,rfl⟩
    have HW6:=hide hW6
    have HM6:Hid (Mod tb w W6):=by show Mod _ _ _;rw [hW6];exact hm5.setNew (Nat.le_refl _) _ _
    have HN6:Hid (GNode W6 w.heap.size nm (.slice p5 m5 c5')):=by show W6.heap[w.heap.size]?=_;rw [hW6];exact heap_setCell_at _ _ _ _ _ _ hn5
    have HO6:Hid (W6.ownsRow (w.heap.size+1) 158 1 (.slice p5 m5 c5') (vs++[Value.pointer (some ⟨g2,0,none⟩)]).length (vs++[.pointer (some ⟨g2,0,none⟩)])):=by
     show World.ownsRow _ _ _ _ _ _ _
     rw [hW6]
     exact ownsRow_setQ (by simpa using hown5) (by omega)
    have HT6:Hid (TSt W6 tb l st3):=by
     show TSt _ _ _ _
     rw [hW6]
     exact (HT3.out.block (hk5 tb (by omega))).block (Below.heap_setCell _ _ _ _ (Ne.symm hgt))
    have HRW6:Hid (∀ z,bindS st1 (testL l rq F n)=.ok z→RowP (fun a u=>Gath (RTest n) (w.heap.size+1) W6 (.slice p5 m5 c5') a u) (ts++[z.1]) (vs++[.pointer (some ⟨g2,0,none⟩)])):=by
     intro z hz
     rw [hW6]
     exact (HRW3.out z hz).imp (fun a u hu=>GathQ.set (rtest_tree n) (GathQ.grown (rtest_tree n) hu hgrow hat) (by omega) _ _)
    have f5:=fun o=>blk_frozen hn5 o
    have t5:w5.cell? ⟨w.heap.size,1,none⟩=some tv:=blk_cell hn5 1
    have hl5:w.heap.size < w5.heap.size:=blk_lt hn5
    obtain ⟨q2,q4,_,_,_⟩:=HT6.out.cells
    have qr:W6.cell? ⟨rb,0,none⟩=some (.pointer (some ⟨tb,0,none⟩)):=blk_cell (HR.out.mod HM6.out).r 0
    clear hown5 hgrow hown3 hrowb hat hm5 hk5 hn5 hW6
    by_cases hk:(wordS l st3).1=44
    ·obtain ⟨he,hmu,z,hz,hx⟩:=HGS.out.1 hk
     have hkb:(((wordS l st3).1:Int) != 44)=false:=by simp;omega
     have heb:((errS st3:Int) != 0)=false:=by simp;omega
     have HX6:=hide hx
     have HZ:=hide hz
     clear hx hz HGS hst3 HT3 HN3 HM3
     go_wp2_with (rw [← HW6.out])
     go_wp2_with fail
     refine (qnext_st tb l st3 _ (HT6.out.block rfl) hl).mono ?_
     rintro e w7 ⟨rfl,hm7,ht7⟩
     have HM7:=hide (HM6.out.trans hm7)
     have HT7:=hide ht7
     have HO7:=hide (ownsRow_mod (b:=tb) HO6.out hm7 (by omega))
     have HN7:=hide (blk_mod HN6.out hm7 hgt)
     have HR7:=hide ((HRW6.out z HZ.out).imp (fun a u hu=>GathQ.mod (rtest_tree n) (b:=tb) hu hm7 (by omega)))
     clear hm7 ht7
     go_wp2
     go_roundg (muS l (nextS l st3))
     case measure=>exact hmu
     case rel=>exact ⟨nextS l st3,ts++[z.1],_,_,rfl,HN7.out,HO7.out,HT7.out,HM7.out,HX6.out,by simp;omega,fun _ _=>HR7.out⟩
    ·obtain ⟨hR,hy⟩:=HGS.out.2 hk
     have hkb:(((wordS l st3).1:Int) != 44)=true:=by simp;omega
     have HY:=hide hy
     clear hy HGS hst3 HT3 HN3 HM3
     cases heb:((errS st3:Int) != 0)
     all_goals go_wp2_with (rw [← HW6.out])
     all_goals go_wp2
     all_goals go_meet
     all_goals
      refine ⟨st3,_,_,HN6.out,HO6.out,HT6.out,HM6.out,hR,fun y e=>?_⟩
      obtain ⟨z,hz,h⟩:=HY.out y e
      rw [h]
      exact ⟨by simp,HRW6.out z hz⟩
 case rest=>
  obtain ⟨st1,vs,tv,hnd,hown,ht,hm,hR,hy⟩:=hcut
  have HS:=hide (qsign_any rb tb nv l 41 st1 wc (HR.out.mod hm).r ht hl)
  have HOW:=hide hown
  have HM:=hide hm
  have HY:=hide hy
  have HND:=hide hnd
  clear ht hm hown hy hnd HGI HT2 HN2 HM2 hms
  go_wp2_with fail
  refine HS.out.mono ?_
  rintro e w3 ⟨rfl,hm3,ht3⟩
  have HM3:=hide (HM.out.trans hm3)
  have HT3:=hide ht3
  have HO3:=hide (ownsRow_mod (b:=tb) HOW.out hm3 (by omega))
  have HN3:=hide (blk_mod HND.out hm3 hgt)
  have HY3:=hide (fun y e=>(HY.out y e).2.imp (fun a u hu=>GathQ.mod (rtest_tree n) (b:=tb) hu hm3 (by omega)))
  clear hm3 ht3
  go_wp2
  go_ret
  refine QPost.mk HM3.out (by rw [(congrArg stOf HX.out).trans HP.out.1,hR];exact HT3.out) ⟨_,rfl⟩ (fun y e=>?_)
  obtain ⟨z,hz,hy1⟩:=HP.out.2 y (HX.out.symm.trans e)
  rw [hy1]
  refine rtest_mk (Nat.le_refl _) HN3.out HWN.out.symm (Or.inr ⟨(HY.out z hz).1,?_⟩) (Or.inl ⟨rfl,rfl⟩) (Or.inl ⟨rfl,rfl⟩)
  have hlen:=row_len (HY3.out z hz)
  have ho:=HO3.out
  rw [← hlen] at ho
  exact trX.weakQ (rtest_tree n) (HY.out z hz).1 (trX.of_ownsQ (rtest_tree n) ho rfl (HY.out z hz).1 (HY3.out z hz)) (fun k hk _=>Nat.le_trans (Nat.le_succ _) hk)
end Go.Proofs.YtgnkjijocdmniaaGreatDoor
