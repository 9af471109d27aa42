import Derived.BigRegion
import Derived.Test.YtgnkjijocdmniaaGreatDoorZQTestB
import Derived.Test.YtgnkjijocdmniaaGreatDoorZQTestN
namespace Go.Proofs.YtgnkjijocdmniaaGreatDoor
set_option linter.unusedVariables false
set_option linter.unusedSimpArgs false
set_option maxRecDepth 100000
set_option maxHeartbeats 4000000
section
open Go.RowKit
attribute [local go_sem ↓] Go.wp_at_zero Go.wp_at_succ
theorem Tryz.infoPtrCmd:(Tryz.prog.info? 151).map (fun i=>(i.zero,i.size,i.bytes))=some (some (.pointer none),1,8):=by kernel_rfl
def anySl (_:World) (v:Value):Prop:=∃ p m c,v=.slice p m c
def COk (rb tb:Nat) (nv:Value) (rq:List (List UInt8)) (l:List UInt8) (F n deep:Nat):Prop:=
 ∀ st w,RdI w rb tb nv rq→TSt w tb l st→(wordS l st).1=119→Calls Tryz.prog 115 #[.pointer (some ⟨rb,0,none⟩),.int .i64 deep] w (QPost (bindS st (cmdL l rq F n)) tb l w (RCmd n (fromB w.heap.size)) anyPtr)
def CmPost (n:Nat) (J:Except Flt PS→List (CmdT n)→Prop) (tb:Nat) (l:List UInt8) (w:World) (e:Ending) (w':World):Prop:=
 ∃ v st1 cs,e=.returned v∧Mod tb w w'∧TSt w' tb l st1∧J st1 cs∧¬ (wordS l st1).1=119∧anySl w' v∧∀ s,st1=.ok s→trY (RCmd n) (fromB w.heap.size) cs w' v
theorem own_form {w:World} {base:Nat} {e:TypeId} {size:Nat} {v:Value} {n:Nat} {xs:List Value} (h:w.ownsRow base e size v n xs):anySl w v:=by
 rcases h.2 with ⟨h,_⟩ | ⟨g,c,_,h,_⟩
 ·exact ⟨_,_,_,h⟩
 ·exact ⟨_,_,_,h⟩
theorem row_len {α:Type} {P:α→Value→Prop}:∀ {xs:List α} {vs:List Value},RowP P xs vs→xs.length=vs.length
 | [],[],_=>rfl
 | _ :: _,_ :: _,h=>by simp [row_len h.2]
 | [],_ :: _,h=>h.elim
 | _ :: _,[],h=>h.elim
theorem trY.of_owns {α:Type} {P:(Nat→Prop)→α→World→Value→Prop} (hP:TreeQ P) {w:World} {base:Nat} {e:TypeId} {v:Value} {xs:List α} {vs:List Value} (h:w.ownsRow base e 1 v vs.length vs) (h0:vs=[]→v=.slice none 0 0) (hr:RowP (fun a u=>Gath P base w v a u) xs vs):trY P (fromB base) xs w v:=by
 have hl:=row_len hr
 by_cases hx:xs=[]
 ·subst hx
  have hv:vs=[]:=List.eq_nil_of_length_eq_zero hl.symm
  exact Or.inl ⟨rfl,h0 hv⟩
 ·exact Or.inr ⟨hx,trX.of_ownsQ hP (by rw [← hl] at h;exact h) rfl hx hr⟩
theorem mu_cmd {w:World} {tb:Nat} {l:List UInt8} {α:Type} {sub:PS→Except Flt (α×PS)} {st:Except Flt PS} (hd:∀ s,Gd l s→Dn 1 l (sub s) s) (ht:TSt w tb l st) (hk:(wordS l st).1=119):muS l (stOf (bindS st sub)) < muS l st:=by
 obtain ⟨s,rfl,h1,hg⟩:=ok_word ht hk
 simp only [bindS]
 cases hs:sub s with
 | error g=>exact Nat.succ_pos _
 | ok z=>
  have:=(hd s hg.gd z hs).2
  show mu l.length z.2+1 < mu l.length s+1
  omega
theorem qcommands_any (n:Nat) (J:Except Flt PS→List (CmdT n)→Prop) (rb tb:Nat) (nv:Value) (rq:List (List UInt8)) (l:List UInt8) (F deep:Nat) (st:Except Flt PS) (w:World) (hr:RdI w rb tb nv rq) (h:TSt w tb l st) (hl:l.length≤600) (hC:COk rb tb nv rq l F n deep) (hJ0:J st []) (hJ:∀ w1 st1 acc acc',J st1 acc→TSt w1 tb l st1→(wordS l st1).1=119→(∀ z,bindS st1 (cmdL l rq F n)=.ok z→acc'=acc++[z.1])→J (stOf (bindS st1 (cmdL l rq F n))) acc') :
 Calls Tryz.prog 69 #[.pointer (some ⟨rb,0,none⟩),.int .i64 deep] w (CmPost n J tb l w):=by
 have htl:=h.lt
 have hrl:=blk_lt hr.r
 have H:=hide h
 have HR:=hide hr
 have HC:=hide hC
 have HJ:=hide hJ
 have HJ0:=hide hJ0
 have HDN:=hide (fun s hs=>cmd_dn (l:=l) (req:=rq) (F:=F) n s hs)
 have hms:=muS_le h hl
 clear h hr hC hJ hJ0
 obtain ⟨i0,hi,hz0,hz1,hz2⟩:=info_parts Tryz.infoPtrCmd
 go_enter Tryz.func69,Tryz.ntmps69
 go_upto_block 0 with fail
 go_cut [5] (fun ov wx=>∃ (st1:Except Flt PS) (cs:List (CmdT n)) (vs:List Value),wx.ownsRow w.heap.size 151 1 ov vs.length vs∧(vs=[]→ov=.slice none 0 0)∧TSt wx tb l st1∧Mod tb w wx∧J st1 cs∧¬ (wordS l st1).1=119∧∀ s,st1=.ok s→RowP (fun a u=>Gath (RCmd n) w.heap.size wx ov a u) cs vs)
 case first=>
  go_wp2_with fail
  go_loopg [5,6] (muS l st) (fun k ov _ wr=>∃ (st1:Except Flt PS) (cs:List (CmdT n)) (vs:List Value),k=muS l st1∧wr.ownsRow w.heap.size 151 1 ov vs.length vs∧(vs=[]→ov=.slice none 0 0)∧TSt wr tb l st1∧Mod tb w wr∧J st1 cs∧vs.length+muS l st1≤1300∧∀ s,st1=.ok s→RowP (fun a u=>Gath (RCmd n) w.heap.size wr ov a u) cs vs)
  case atStart=>exact ⟨st,[],[],rfl,World.ownsRow_nil _ _ _ _,fun _=>rfl,H.out,Mod.refl _ _,HJ0.out,by simp;omega,fun _ _=>trivial⟩
  case round=>
   obtain ⟨st1,cs,vs,rfl,hown,hnil,ht,hm,hj,hlen,hrow⟩:=hrel
   have HOW:=hide hown
   have HNI:=hide hnil
   have HTR:=hide ht
   have HMR:=hide hm
   have HJR:=hide hj
   have HRW:=hide hrow
   have hwr:=hm.size
   have r0:wr.cell? ⟨rb,0,none⟩=some (.pointer (some ⟨tb,0,none⟩)):=blk_cell (HR.out.mod hm).r 0
   obtain ⟨c2,c4,_,_,_⟩:=ht.cells
   clear hown hnil ht hm hj hrow
   by_cases hk:(wordS l st1).1=119
   rotate_left
   ·have hkb:(((wordS l st1).1:Int) == 119)=false:=by simp;omega
    have HK:=hide hk
    clear hk
    cases heb:((errS st1:Int) == 0)
    all_goals go_wp2
    all_goals go_meet
    all_goals exact ⟨st1,cs,vs,HOW.out,HNI.out,HTR.out,HMR.out,HJR.out,HK.out,HRW.out⟩
   ·have hkb:(((wordS l st1).1:Int) == 119)=true:=by simp;omega
    have he:errS st1=0:=by obtain ⟨s,rfl,_,_⟩:=ok_word HTR.out hk;rfl
    have heb:((errS st1:Int) == 0)=true:=by simp;omega
    have HMU:=hide (mu_cmd HDN.out HTR.out hk)
    have HCA:=hide (HC.out st1 wr (HR.out.mod HMR.out) HTR.out hk)
    have HJN:=hide (fun acc'=>HJ.out wr st1 cs acc' HJR.out HTR.out hk)
    have HOKW:Hid (∃ s,st1=.ok s):=by obtain ⟨s,h,_,_⟩:=ok_word HTR.out hk;exact ⟨s,h⟩
    clear he hk
    go_wp2_with fail
    refine HCA.out.mono ?_
    rintro e w2 h2
    obtain ⟨hm2,ht2,v,rfl,⟨g2,rfl⟩,hv2⟩:=h2.st
    have HM2:=hide (HMR.out.trans hm2)
    have HT2:=hide ht2
    have hown2:=ownsRow_mod HOW.out hm2 htl
    have hw2:w.heap.size≤w2.heap.size:=HM2.out.size
    have hltr:=hide (fun k hk=>(HOW.out.lt k hk).2)
    have HRW2:Hid (∀ z,bindS st1 (cmdL l rq F n)=.ok z→RowP (fun a u=>Gath (RCmd n) w.heap.size w2 u5 a u) (cs++[z.1]) (vs++[.pointer (some ⟨g2,0,none⟩)])):=by
     intro z hz
     obtain ⟨s,hs⟩:=HOKW.out
     exact RowP.snoc (P:=fun a u=>Gath (RCmd n) w.heap.size w2 u5 a u) (GathQ.new (rcmd_tree n) (hv2 z hz) hwr hltr.out) ((HRW.out s hs).imp (fun a u hu=>GathQ.mod (rcmd_tree n) hu hm2 htl))
    have hmu:=HMU.out
    clear h2 hm2 ht2 hv2
    go_wp2_with (at_builtin;refine wpList_append_own_at _ rfl _ _ 113 rfl w.heap.size 151 i0 (.pointer none) 1 8 Tryz.underlying113 hi hz0 hz1 hz2 rfl (by decide) _ _ _ rfl (hown2.alloc _) ⟨w2.heap.size,0,none⟩ 1 1 [.pointer (some ⟨g2,0,none⟩)] rfl rfl ?c1 ?c2 ?c3 ?c4 ?c5 ?_)
    case c1=>
     intro j u hj
     match j,hj with
     | 0,hj=>simp at hj;subst hj;simp [Addr.add]
    case c2=>intro u hu;simp at hu;subst hu;rfl
    case c3=>unfold maxLen;omega
    case c4=>omega
    case c5=>simp;omega
    ·intro v' w5 hown5 hgrow _ hat
     have hrow:∀ k,(u5).ownBlock=some k→w.heap.size≤k:=fun k hk=>(hown2.lt k hk).1
     have HM5:=hide ((HM2.out.alloc (Obj.cells #[.pointer (some ⟨g2,0,none⟩)] 151)).grown hgrow hrow)
     have HT5:=hide ((HT2.out.below ((Below.refl _ _).alloc (Nat.le_refl _) (Obj.cells #[.pointer (some ⟨g2,0,none⟩)] 151))).block (hgrow.block tb (by simp;omega) (fun e=>by have:=hrow tb e.symm;omega)))
     have HO5:=hide hown5
     have HRW5:=hide (fun z hz=>(HRW2.out z hz).imp (fun a u hu=>GathQ.grown (rcmd_tree n) hu hgrow hat))
     clear hown5 hgrow hown2 hrow hat
     go_wp2
     go_roundg (muS l (stOf (bindS st1 (cmdL l rq F n))))
     case measure=>exact hmu
     case rel=>
      cases hz:bindS st1 (cmdL l rq F n) with
      | error f=>
       have hj:=HJN.out cs (fun z e=>by rw [hz] at e;cases e)
       have ht:=HT5.out
       rw [hz] at hj ht
       exact ⟨_,cs,vs++[.pointer (some ⟨g2,0,none⟩)],rfl,by simpa using HO5.out,fun e=>by simp at e,ht,HM5.out,hj,by rw [hz] at hmu;simp;omega,fun s e=>by cases e⟩
      | ok z=>
       have hj:=HJN.out (cs++[z.1]) (fun z' e=>by rw [hz] at e;cases e;rfl)
       have ht:=HT5.out
       rw [hz] at hj ht
       exact ⟨_,cs++[z.1],vs++[.pointer (some ⟨g2,0,none⟩)],rfl,by simpa using HO5.out,fun e=>by simp at e,ht,HM5.out,hj,by rw [hz] at hmu;simp;omega,fun s e=>HRW5.out z hz⟩
 case rest=>
  obtain ⟨st1,cs,vs,hown,hnil,ht,hm,hj,hk,hrow⟩:=hcut
  obtain ⟨p,m,c,rfl⟩:=own_form hown
  go_wp2
  go_ret
  exact ⟨_,st1,cs,rfl,hm,ht,hj,hk,⟨p,m,c,rfl⟩,fun s hs=>trY.of_owns (rcmd_tree n) hown hnil (hrow s hs)⟩
theorem qblock_any (rb tb:Nat) (nv:Value) (rq:List (List UInt8)) (l:List UInt8) (F n deep:Nat) (st:Except Flt PS) (w:World) (hr:RdI w rb tb nv rq) (h:TSt w tb l st) (hl:l.length≤600) (hF:2*l.length+2≤F) (hd:deep≤6) (hC:COk rb tb nv rq l F n (deep+1)) :
 Calls Tryz.prog 215 #[.pointer (some ⟨rb,0,none⟩),.int .i64 deep] w (QPost (bindS st (blockL l F (cmdL l rq F n))) tb l w (trY (RCmd n) (fromB w.heap.size)) anySl):=by
 have HS:=hide (qsign_any rb tb nv l 123 st w hr.r h hl)
 have HR:=hide hr
 have H:=hide h
 have HC:=hide hC
 have HDN:=hide (fun s hs=>cmd_dn (l:=l) (req:=rq) (F:=F) n s hs)
 clear h hr hC
 go_enter Tryz.func215,Tryz.ntmps215
 go_wp2_with fail
 refine HS.out.mono ?_
 rintro e w1 ⟨rfl,hm1,ht1⟩
 have HM1:=hide hm1
 have HT1:=hide ht1
 have HB:=hide (blk_begin (F:=F) (sub:=cmdL l rq F n) H.out ht1 hl hF)
 have hs1:=hm1.size
 clear hm1 ht1
 go_wp2_with fail
 refine (qcommands_any n (BlkI (bindS st (blockL l F (cmdL l rq F n))) l (cmdL l rq F n)) rb tb nv rq l F (deep+1) _ _ (HR.out.mod HM1.out) HT1.out hl HC.out HB.out (fun w1 st1 acc acc' h1 h2 h3 h4=>blk_step HDN.out h1 h2 h3 h4)).mono ?_
 rintro e w2 ⟨v,st1,cs,rfl,hm2,ht2,hj,hk,⟨p,m,c,rfl⟩,hv⟩
 have HE:=hide (blk_end (fun s h1 h2=>cmd_noword h1 h2) hj ht2 hk)
 have HM2:=hide (HM1.out.trans hm2)
 have HS2:=hide (qsign_any rb tb nv l 125 st1 w2 (HR.out.mod HM2.out).r ht2 hl)
 have HV:=hide hv
 clear hm2 ht2 hj hk hv
 go_wp2_with fail
 refine HS2.out.mono ?_
 rintro e w3 ⟨rfl,hm3,ht3⟩
 have HM3:=hide (HM2.out.trans hm3)
 have HK3:=hide hm3
 have HT3:=hide ht3
 have htl:=H.out.lt
 clear hm3 ht3
 go_wp2
 go_ret
 refine QPost.mk HM3.out (by rw [HE.out.1];exact HT3.out) ⟨_,_,_,rfl⟩ (fun y hy=>?_)
 rw [HE.out.2 y hy]
 have hst:∃ s,st1=.ok s:=by
  cases st1 with
  | ok s=>exact ⟨s,rfl⟩
  | error f=>
   have h1:=HE.out.1
   rw [hy] at h1
   have:signS l 125 (.error f)=.error f:=by unfold signS;split <;> rfl
   rw [this] at h1
   cases h1
 obtain ⟨s,hs⟩:=hst
 refine (trY_tree (rcmd_tree n)).weak (fromB w1.heap.size) _ _ _ _ ((trY_tree (rcmd_tree n)).keep _ _ _ _ _ (HV.out s hs) (HK3.out.abvX (fun e=>by have e':w1.heap.size≤tb:=e;omega))) (fun k hk _=>Nat.le_trans hs1 hk)
end
section
open Go.RowKit
attribute [local go_sem ↓] Go.wp_at_zero Go.wp_at_succ
def CNode (w:World) (gb:Nat) (nm:List UInt8) (av:Value) (tag:Nat) (tv bv:Value) (pos:Nat):Prop:=w.heap[gb]?=some (.cells #[.string (strA nm),av,.int .i64 tag,tv,bv,.int .i64 pos] 155)
theorem rcmd_mk {n gb:Nat} {X:Nat→Prop} {x:CLab} {arms:List (TestT n×List (CmdT n))} {els:List (CmdT n)} {w:World} {av tv bv:Value} {nm:List UInt8} (hX:X gb) (hc:CNode w gb nm av x.tag tv bv x.pos) (hn:cmdNames.getD x.kind []=nm) (ha:slY X (argsL x) w av) (ht:trY (RTest n) X (arms.map Prod.fst) w tv) (hb:trY (trY (RCmd n)) X (blocksL (x,arms,els)) w bv):RCmd (n+1) X (x,arms,els) w (.pointer (some ⟨gb,0,none⟩)):=by
 subst hn
 exact ⟨gb,av,tv,bv,rfl,hX,hc,ha,ht,hb⟩
theorem semi_is {α:Type} {w:World} {tb:Nat} {l:List UInt8} {st:Except Flt PS} {a:α} (h:TSt w tb l st):bindS st (fun s=>semi l s a)=bindS (signS l 59 st) fun s=>.ok (a,s):=pass_then h 59 rfl fun s=>.ok (a,s)
theorem qcmd_deep (rb tb:Nat) (nv:Value) (rq:List (List UInt8)) (l:List UInt8) (F deep:Nat) (st:Except Flt PS) (w:World) (hr:RdI w rb tb nv rq) (h:TSt w tb l st) (hl:l.length≤600) (hF:2*l.length+2≤F) (hd:deep=7) (hk:(wordS l st).1=119) :
 Calls Tryz.prog 115 #[.pointer (some ⟨rb,0,none⟩),.int .i64 deep] w (QPost (bindS st (cmdL l rq F 0)) tb l w (RCmd 0 (fromB w.heap.size)) anyPtr):=by
 have r0:w.cell? ⟨rb,0,none⟩=some (.pointer (some ⟨tb,0,none⟩)):=blk_cell hr.r 0
 obtain ⟨c2,c4,c5,c6,c7⟩:=h.cells
 have H:=hide h
 have HR:=hide hr
 have hrl:=blk_lt hr.r
 have htl:=h.lt
 have hgt:w.heap.size≠tb:=by omega
 have hgr:w.heap.size≠rb:=by omega
 have hdb:decide ((6:Int) < (deep:Int))=true:=decide_eq_true (by omega)
 obtain ⟨nm,hnm⟩:∃ nm,(wordS l st).2.1=nm:=⟨_,rfl⟩
 rw [hnm] at c5
 have HX:=hide (cmd_deep (rq:=rq) (F:=F) h hk)
 have HE:Hid (∀ g,failS st g=.error g):=by intro g;obtain ⟨s,hs,_⟩:=ok_word h hk;rw [hs];rfl
 obtain ⟨W0,hW0⟩:∃ W0,W0=(w.alloc (.cells #[.string (strA nm),.slice none 0 0,.int .i64 0,.slice none 0 0,.slice none 0 0,.int .i64 (wordS l st).2.2.2] 155)).drew:=⟨_,rfl⟩
 have HWW:=hide hW0
 have HM0:Hid (Mod tb w W0):=by show Mod _ _ _;rw [hW0];exact ((Mod.refl _ _).alloc _).drew
 have HN0:Hid (CNode W0 w.heap.size nm (.slice none 0 0) 0 (.slice none 0 0) (.slice none 0 0) (wordS l st).2.2.2):=by show W0.heap[w.heap.size]?=_;rw [hW0];exact blk_new _ _
 have HT0:Hid (TSt W0 tb l st):=by show TSt _ _ _ _;rw [hW0];exact (h.below ((Below.refl _ _).alloc (Nat.le_refl _) (.cells #[.string (strA nm),.slice none 0 0,.int .i64 0,.slice none 0 0,.slice none 0 0,.int .i64 (wordS l st).2.2.2] 155))).block rfl
 clear h hr hW0 hk hnm
 have HF4:=hide (qfail_st tb l st ⟨5,(wordS l st).2.2.2⟩ W0.drew (HT0.out.block rfl) hl (Nat.succ_ne_zero 4))
 go_enter Tryz.func115,Tryz.ntmps115
 go_wp2_with fail
 go_region
 rw [← HWW.out]
 have d0:W0.cell? ⟨rb,0,none⟩=some (.pointer (some ⟨tb,0,none⟩)):=blk_cell (HR.out.r.mod HM0.out HR.out.n) 0
 have n0:W0.cell? ⟨w.heap.size,0,none⟩=some (.string (strA nm)):=blk_cell HN0.out 0
 have n5:W0.cell? ⟨w.heap.size,5,none⟩=some (.int .i64 (wordS l st).2.2.2):=blk_cell HN0.out 5
 go_wp2_with fail
 go_region_with (first | (go_at_call 70;refine HF4.out.mono ?_;rintro e w1 h1;obtain ⟨rfl,hm1,ht1⟩:=h1;have HM1:=hide hm1;have HT1:=hide ht1;clear hm1 ht1;skip))
 all_goals go_wp2
 all_goals go_ret
 all_goals exact QPost.mk (HM0.out.trans (mod_fix HM1.out)) (by rw [HX.out];have:=HT1.out;rw [HE.out] at this;exact this) ⟨_,rfl⟩ (fun y hy=>by rw [HX.out] at hy;cases hy)
theorem qcmd_bad (rb tb:Nat) (nv:Value) (rq:List (List UInt8)) (l:List UInt8) (F n deep:Nat) (st:Except Flt PS) (w:World) (hr:RdI w rb tb nv rq) (h:TSt w tb l st) (hl:l.length≤600) (hF:2*l.length+2≤F) (hd:deep+n=6) (hk:(wordS l st).1=119) (hw:whichL cmdNames (wordS l st).2.1=0) :
 Calls Tryz.prog 115 #[.pointer (some ⟨rb,0,none⟩),.int .i64 deep] w (QPost (bindS st (cmdL l rq F (n+1))) tb l w (RCmd (n+1) (fromB w.heap.size)) anyPtr):=by
 have HX:=hide (cmd_unknown (rq:=rq) (F:=F) (n:=n) h hk hw)
 have HE:Hid (∀ g,failS st g=.error g):=by intro g;obtain ⟨s,hs,_⟩:=ok_word h hk;rw [hs];rfl
 have r0:w.cell? ⟨rb,0,none⟩=some (.pointer (some ⟨tb,0,none⟩)):=blk_cell hr.r 0
 obtain ⟨c2,c4,c5,c6,c7⟩:=h.cells
 have H:=hide h
 have HR:=hide hr
 have hrl:=blk_lt hr.r
 have htl:=h.lt
 have hgt:w.heap.size≠tb:=by omega
 have hgr:w.heap.size≠rb:=by omega
 have hdb:decide ((6:Int) < (deep:Int))=false:=decide_eq_false (by omega)
 obtain ⟨nm,hnm⟩:∃ nm,(wordS l st).2.1=nm:=⟨_,rfl⟩
 rw [hnm] at c5 hw
 have hno:∀ z∈cmdNames,¬ nm=z:=fun z hz e=>by have:=(whichL_pos_iff nm cmdNames).2 (by rw [e];exact hz);omega
 have e0:((strA nm).toList == [107,101,101,112])=false:=by rw [str_eq];exact decide_eq_false (hno kKeep (by simp [cmdNames]))
 have e1:((strA nm).toList == [100,105,115,99,97,114,100])=false:=by rw [str_eq];exact decide_eq_false (hno kDiscard (by simp [cmdNames]))
 have e2:((strA nm).toList == [115,116,111,112])=false:=by rw [str_eq];exact decide_eq_false (hno kStop (by simp [cmdNames]))
 have e3:((strA nm).toList == [102,105,108,101,105,110,116,111])=false:=by rw [str_eq];exact decide_eq_false (hno kFileinto (by simp [cmdNames]))
 have e4:((strA nm).toList == [114,101,100,105,114,101,99,116])=false:=by rw [str_eq];exact decide_eq_false (hno kRedirect (by simp [cmdNames]))
 have e5:((strA nm).toList == [114,101,106,101,99,116])=false:=by rw [str_eq];exact decide_eq_false (hno kReject (by simp [cmdNames]))
 have e6:((strA nm).toList == [115,101,116])=false:=by rw [str_eq];exact decide_eq_false (hno kSet (by simp [cmdNames]))
 have e7:((strA nm).toList == [105,102])=false:=by rw [str_eq];exact decide_eq_false (hno kIf (by simp [cmdNames]))
 obtain ⟨W0,hW0⟩:∃ W0,W0=(w.alloc (.cells #[.string (strA nm),.slice none 0 0,.int .i64 0,.slice none 0 0,.slice none 0 0,.int .i64 (wordS l st).2.2.2] 155)).drew:=⟨_,rfl⟩
 have HWW:=hide hW0
 have HM0:Hid (Mod tb w W0):=by show Mod _ _ _;rw [hW0];exact ((Mod.refl _ _).alloc _).drew
 have HN0:Hid (CNode W0 w.heap.size nm (.slice none 0 0) 0 (.slice none 0 0) (.slice none 0 0) (wordS l st).2.2.2):=by show W0.heap[w.heap.size]?=_;rw [hW0];exact blk_new _ _
 have HT0:Hid (TSt W0 tb l st):=by show TSt _ _ _ _;rw [hW0];exact (h.below ((Below.refl _ _).alloc (Nat.le_refl _) (.cells #[.string (strA nm),.slice none 0 0,.int .i64 0,.slice none 0 0,.slice none 0 0,.int .i64 (wordS l st).2.2.2] 155))).block rfl
 clear h hr hW0 hk hnm
 have HF4:=hide (qfail_st tb l st ⟨4,(wordS l st).2.2.2⟩ W0.drew (HT0.out.block rfl) hl (Nat.succ_ne_zero 3))
 clear hno hw
 go_enter Tryz.func115,Tryz.ntmps115
 go_wp2_with fail
 go_region
 rw [← HWW.out]
 have d0:W0.cell? ⟨rb,0,none⟩=some (.pointer (some ⟨tb,0,none⟩)):=blk_cell (HR.out.r.mod HM0.out HR.out.n) 0
 have n0:W0.cell? ⟨w.heap.size,0,none⟩=some (.string (strA nm)):=blk_cell HN0.out 0
 have n5:W0.cell? ⟨w.heap.size,5,none⟩=some (.int .i64 (wordS l st).2.2.2):=blk_cell HN0.out 5
 go_wp2_with fail
 go_region_with (first | (go_at_call 70;refine HF4.out.mono ?_;rintro e w1 h1;obtain ⟨rfl,hm1,ht1⟩:=h1;have HM1:=hide hm1;have HT1:=hide ht1;clear hm1 ht1;skip))
 all_goals go_wp2
 all_goals go_ret
 all_goals exact QPost.mk (HM0.out.trans (mod_fix HM1.out)) (by rw [HX.out];have:=HT1.out;rw [HE.out] at this;exact this) ⟨_,rfl⟩ (fun y hy=>by rw [HX.out] at hy;cases hy)
theorem prec_none {l:List UInt8} {rq:List (List UInt8)} {nm:List UInt8} {st:Except Flt PS} (h1:¬ (nm=kFileinto∨nm=kReject)) (h2:¬ nm=kSet):preC l rq nm st=st:=by unfold preC;rw [if_neg h1,if_neg h2]
theorem qcmd_keep (rb tb:Nat) (nv:Value) (rq:List (List UInt8)) (l:List UInt8) (F n deep:Nat) (st:Except Flt PS) (w:World) (hr:RdI w rb tb nv rq) (h:TSt w tb l st) (hl:l.length≤600) (hF:2*l.length+2≤F) (hd:deep+n=6) (hk:(wordS l st).1=119) (hw:(wordS l st).2.1=kKeep) :
 Calls Tryz.prog 115 #[.pointer (some ⟨rb,0,none⟩),.int .i64 deep] w (QPost (bindS st (cmdL l rq F (n+1))) tb l w (RCmd (n+1) (fromB w.heap.size)) anyPtr):=by
 have HX:Hid (bindS st (cmdL l rq F (n+1))=bindS (nextS l st) fun s=>semi l s (⟨0,(wordS l st).2.2.2,0,[],[],false⟩,[],[])):=by
  show _=_
  rw [cmd_is h hk (by rw [hw];decide),hw,prec_none (by decide) (by decide)]
  rfl
 have r0:w.cell? ⟨rb,0,none⟩=some (.pointer (some ⟨tb,0,none⟩)):=blk_cell hr.r 0
 obtain ⟨c2,c4,c5,c6,c7⟩:=h.cells
 have H:=hide h
 have HR:=hide hr
 have hrl:=blk_lt hr.r
 have htl:=h.lt
 have hgt:w.heap.size≠tb:=by omega
 have hgr:w.heap.size≠rb:=by omega
 have hdb:decide ((6:Int) < (deep:Int))=false:=decide_eq_false (by omega)
 obtain ⟨nm,hnm⟩:∃ nm,(wordS l st).2.1=nm:=⟨_,rfl⟩
 rw [hnm] at c5 hw
 have hx:=hw
 have e0:((strA nm).toList == [107,101,101,112])=true:=by rw [str_eq,hx];decide
 obtain ⟨W0,hW0⟩:∃ W0,W0=(w.alloc (.cells #[.string (strA nm),.slice none 0 0,.int .i64 0,.slice none 0 0,.slice none 0 0,.int .i64 (wordS l st).2.2.2] 155)).drew:=⟨_,rfl⟩
 have HWW:=hide hW0
 have HM0:Hid (Mod tb w W0):=by show Mod _ _ _;rw [hW0];exact ((Mod.refl _ _).alloc _).drew
 have HN0:Hid (CNode W0 w.heap.size nm (.slice none 0 0) 0 (.slice none 0 0) (.slice none 0 0) (wordS l st).2.2.2):=by show W0.heap[w.heap.size]?=_;rw [hW0];exact blk_new _ _
 have HT0:Hid (TSt W0 tb l st):=by show TSt _ _ _ _;rw [hW0];exact (h.below ((Below.refl _ _).alloc (Nat.le_refl _) (.cells #[.string (strA nm),.slice none 0 0,.int .i64 0,.slice none 0 0,.slice none 0 0,.int .i64 (wordS l st).2.2.2] 155))).block rfl
 clear h hr hW0 hk hnm
 have HWN:=hide hw
 clear hw hx
 go_enter Tryz.func115,Tryz.ntmps115
 go_wp2_with fail
 go_region
 rw [← HWW.out]
 have d0:W0.cell? ⟨rb,0,none⟩=some (.pointer (some ⟨tb,0,none⟩)):=blk_cell (HR.out.r.mod HM0.out HR.out.n) 0
 have n0:W0.cell? ⟨w.heap.size,0,none⟩=some (.string (strA nm)):=blk_cell HN0.out 0
 have n5:W0.cell? ⟨w.heap.size,5,none⟩=some (.int .i64 (wordS l st).2.2.2):=blk_cell HN0.out 5
 go_wp2_with fail
 refine (qnext_st tb l st W0 HT0.out hl).mono ?_
 rintro e w1 ⟨rfl,hm1,ht1⟩
 have HM1:=hide (HM0.out.trans hm1)
 have HN1:=hide (blk_mod HN0.out hm1 hgt)
 have HT1:=hide ht1
 clear hm1 ht1
 go_wp2_with fail
 refine (qsign_any rb tb nv l 59 _ _ (HR.out.mod HM1.out).r HT1.out hl).mono ?_
 rintro e w2 ⟨rfl,hm2,ht2⟩
 have HM2:=hide (HM1.out.trans hm2)
 have HN2:=hide (blk_mod HN1.out hm2 hgt)
 have HT2:=hide ht2
 clear hm2 ht2
 go_wp2
 go_ret
 have hX:=HX.out.trans (semi_is HT1.out)
 exact QPost.mk HM2.out (by rw [(congrArg stOf hX).trans stOf_ok];exact HT2.out) ⟨_,rfl⟩ (fun y hy=>by rw [show y.1=_ from bind_ok (hX.symm.trans hy)];exact rcmd_mk (Nat.le_refl _) HN2.out HWN.out.symm (Or.inl ⟨rfl,rfl⟩) (Or.inl ⟨rfl,rfl⟩) (Or.inl ⟨rfl,rfl⟩))
theorem qcmd_discard (rb tb:Nat) (nv:Value) (rq:List (List UInt8)) (l:List UInt8) (F n deep:Nat) (st:Except Flt PS) (w:World) (hr:RdI w rb tb nv rq) (h:TSt w tb l st) (hl:l.length≤600) (hF:2*l.length+2≤F) (hd:deep+n=6) (hk:(wordS l st).1=119) (hw:(wordS l st).2.1=kDiscard) :
 Calls Tryz.prog 115 #[.pointer (some ⟨rb,0,none⟩),.int .i64 deep] w (QPost (bindS st (cmdL l rq F (n+1))) tb l w (RCmd (n+1) (fromB w.heap.size)) anyPtr):=by
 have HX:Hid (bindS st (cmdL l rq F (n+1))=bindS (nextS l st) fun s=>semi l s (⟨1,(wordS l st).2.2.2,0,[],[],false⟩,[],[])):=by
  show _=_
  rw [cmd_is h hk (by rw [hw];decide),hw,prec_none (by decide) (by decide)]
  rfl
 have r0:w.cell? ⟨rb,0,none⟩=some (.pointer (some ⟨tb,0,none⟩)):=blk_cell hr.r 0
 obtain ⟨c2,c4,c5,c6,c7⟩:=h.cells
 have H:=hide h
 have HR:=hide hr
 have hrl:=blk_lt hr.r
 have htl:=h.lt
 have hgt:w.heap.size≠tb:=by omega
 have hgr:w.heap.size≠rb:=by omega
 have hdb:decide ((6:Int) < (deep:Int))=false:=decide_eq_false (by omega)
 obtain ⟨nm,hnm⟩:∃ nm,(wordS l st).2.1=nm:=⟨_,rfl⟩
 rw [hnm] at c5 hw
 have hx:=hw
 have e0:((strA nm).toList == [107,101,101,112])=false:=by rw [str_eq,hx];decide
 have e1:((strA nm).toList == [100,105,115,99,97,114,100])=true:=by rw [str_eq,hx];decide
 obtain ⟨W0,hW0⟩:∃ W0,W0=(w.alloc (.cells #[.string (strA nm),.slice none 0 0,.int .i64 0,.slice none 0 0,.slice none 0 0,.int .i64 (wordS l st).2.2.2] 155)).drew:=⟨_,rfl⟩
 have HWW:=hide hW0
 have HM0:Hid (Mod tb w W0):=by show Mod _ _ _;rw [hW0];exact ((Mod.refl _ _).alloc _).drew
 have HN0:Hid (CNode W0 w.heap.size nm (.slice none 0 0) 0 (.slice none 0 0) (.slice none 0 0) (wordS l st).2.2.2):=by show W0.heap[w.heap.size]?=_;rw [hW0];exact blk_new _ _
 have HT0:Hid (TSt W0 tb l st):=by show TSt _ _ _ _;rw [hW0];exact (h.below ((Below.refl _ _).alloc (Nat.le_refl _) (.cells #[.string (strA nm),.slice none 0 0,.int .i64 0,.slice none 0 0,.slice none 0 0,.int .i64 (wordS l st).2.2.2] 155))).block rfl
 clear h hr hW0 hk hnm
 have HWN:=hide hw
 clear hw hx
 go_enter Tryz.func115,Tryz.ntmps115
 go_wp2_with fail
 go_region
 rw [← HWW.out]
 have d0:W0.cell? ⟨rb,0,none⟩=some (.pointer (some ⟨tb,0,none⟩)):=blk_cell (HR.out.r.mod HM0.out HR.out.n) 0
 have n0:W0.cell? ⟨w.heap.size,0,none⟩=some (.string (strA nm)):=blk_cell HN0.out 0
 have n5:W0.cell? ⟨w.heap.size,5,none⟩=some (.int .i64 (wordS l st).2.2.2):=blk_cell HN0.out 5
 go_wp2_with fail
 refine (qnext_st tb l st W0 HT0.out hl).mono ?_
 rintro e w1 ⟨rfl,hm1,ht1⟩
 have HM1:=hide (HM0.out.trans hm1)
 have HN1:=hide (blk_mod HN0.out hm1 hgt)
 have HT1:=hide ht1
 clear hm1 ht1
 go_wp2_with fail
 refine (qsign_any rb tb nv l 59 _ _ (HR.out.mod HM1.out).r HT1.out hl).mono ?_
 rintro e w2 ⟨rfl,hm2,ht2⟩
 have HM2:=hide (HM1.out.trans hm2)
 have HN2:=hide (blk_mod HN1.out hm2 hgt)
 have HT2:=hide ht2
 clear hm2 ht2
 go_wp2
 go_ret
 have hX:=HX.out.trans (semi_is HT1.out)
 exact QPost.mk HM2.out (by rw [(congrArg stOf hX).trans stOf_ok];exact HT2.out) ⟨_,rfl⟩ (fun y hy=>by rw [show y.1=_ from bind_ok (hX.symm.trans hy)];exact rcmd_mk (Nat.le_refl _) HN2.out HWN.out.symm (Or.inl ⟨rfl,rfl⟩) (Or.inl ⟨rfl,rfl⟩) (Or.inl ⟨rfl,rfl⟩))
theorem qcmd_stop (rb tb:Nat) (nv:Value) (rq:List (List UInt8)) (l:List UInt8) (F n deep:Nat) (st:Except Flt PS) (w:World) (hr:RdI w rb tb nv rq) (h:TSt w tb l st) (hl:l.length≤600) (hF:2*l.length+2≤F) (hd:deep+n=6) (hk:(wordS l st).1=119) (hw:(wordS l st).2.1=kStop) :
 Calls Tryz.prog 115 #[.pointer (some ⟨rb,0,none⟩),.int .i64 deep] w (QPost (bindS st (cmdL l rq F (n+1))) tb l w (RCmd (n+1) (fromB w.heap.size)) anyPtr):=by
 have HX:Hid (bindS st (cmdL l rq F (n+1))=bindS (nextS l st) fun s=>semi l s (⟨2,(wordS l st).2.2.2,0,[],[],false⟩,[],[])):=by
  show _=_
  rw [cmd_is h hk (by rw [hw];decide),hw,prec_none (by decide) (by decide)]
  rfl
 have r0:w.cell? ⟨rb,0,none⟩=some (.pointer (some ⟨tb,0,none⟩)):=blk_cell hr.r 0
 obtain ⟨c2,c4,c5,c6,c7⟩:=h.cells
 have H:=hide h
 have HR:=hide hr
 have hrl:=blk_lt hr.r
 have htl:=h.lt
 have hgt:w.heap.size≠tb:=by omega
 have hgr:w.heap.size≠rb:=by omega
 have hdb:decide ((6:Int) < (deep:Int))=false:=decide_eq_false (by omega)
 obtain ⟨nm,hnm⟩:∃ nm,(wordS l st).2.1=nm:=⟨_,rfl⟩
 rw [hnm] at c5 hw
 have hx:=hw
 have e0:((strA nm).toList == [107,101,101,112])=false:=by rw [str_eq,hx];decide
 have e1:((strA nm).toList == [100,105,115,99,97,114,100])=false:=by rw [str_eq,hx];decide
 have e2:((strA nm).toList == [115,116,111,112])=true:=by rw [str_eq,hx];decide
 obtain ⟨W0,hW0⟩:∃ W0,W0=(w.alloc (.cells #[.string (strA nm),.slice none 0 0,.int .i64 0,.slice none 0 0,.slice none 0 0,.int .i64 (wordS l st).2.2.2] 155)).drew:=⟨_,rfl⟩
 have HWW:=hide hW0
 have HM0:Hid (Mod tb w W0):=by show Mod _ _ _;rw [hW0];exact ((Mod.refl _ _).alloc _).drew
 have HN0:Hid (CNode W0 w.heap.size nm (.slice none 0 0) 0 (.slice none 0 0) (.slice none 0 0) (wordS l st).2.2.2):=by show W0.heap[w.heap.size]?=_;rw [hW0];exact blk_new _ _
 have HT0:Hid (TSt W0 tb l st):=by show TSt _ _ _ _;rw [hW0];exact (h.below ((Below.refl _ _).alloc (Nat.le_refl _) (.cells #[.string (strA nm),.slice none 0 0,.int .i64 0,.slice none 0 0,.slice none 0 0,.int .i64 (wordS l st).2.2.2] 155))).block rfl
 clear h hr hW0 hk hnm
 have HWN:=hide hw
 clear hw hx
 go_enter Tryz.func115,Tryz.ntmps115
 go_wp2_with fail
 go_region
 rw [← HWW.out]
 have d0:W0.cell? ⟨rb,0,none⟩=some (.pointer (some ⟨tb,0,none⟩)):=blk_cell (HR.out.r.mod HM0.out HR.out.n) 0
 have n0:W0.cell? ⟨w.heap.size,0,none⟩=some (.string (strA nm)):=blk_cell HN0.out 0
 have n5:W0.cell? ⟨w.heap.size,5,none⟩=some (.int .i64 (wordS l st).2.2.2):=blk_cell HN0.out 5
 go_wp2_with fail
 refine (qnext_st tb l st W0 HT0.out hl).mono ?_
 rintro e w1 ⟨rfl,hm1,ht1⟩
 have HM1:=hide (HM0.out.trans hm1)
 have HN1:=hide (blk_mod HN0.out hm1 hgt)
 have HT1:=hide ht1
 clear hm1 ht1
 go_wp2_with fail
 refine (qsign_any rb tb nv l 59 _ _ (HR.out.mod HM1.out).r HT1.out hl).mono ?_
 rintro e w2 ⟨rfl,hm2,ht2⟩
 have HM2:=hide (HM1.out.trans hm2)
 have HN2:=hide (blk_mod HN1.out hm2 hgt)
 have HT2:=hide ht2
 clear hm2 ht2
 go_wp2
 go_ret
 have hX:=HX.out.trans (semi_is HT1.out)
 exact QPost.mk HM2.out (by rw [(congrArg stOf hX).trans stOf_ok];exact HT2.out) ⟨_,rfl⟩ (fun y hy=>by rw [show y.1=_ from bind_ok (hX.symm.trans hy)];exact rcmd_mk (Nat.le_refl _) HN2.out HWN.out.symm (Or.inl ⟨rfl,rfl⟩) (Or.inl ⟨rfl,rfl⟩) (Or.inl ⟨rfl,rfl⟩))
end
end Go.Proofs.YtgnkjijocdmniaaGreatDoor
