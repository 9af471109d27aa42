import Derived.Test.YtgnkjijocdmniaaGreatDoorNext
import Derived.Test.YtgnkjijocdmniaaGreatDoorZPlainQ3
import Derived.Test.YtgnkjijocdmniaaGreatDoorQNext
namespace Go.Proofs.YtgnkjijocdmniaaGreatDoor
set_option linter.unusedVariables false
set_option linter.unusedSimpArgs false
set_option maxRecDepth 100000
set_option maxHeartbeats 4000000
section
open Go.RowKit
theorem getD_map_strA (zs:List (List UInt8)) (j:Nat) (h:j < zs.length):(zs.map strA).getD j ByteArray.empty=strA (zs.getD j []):=by
 simp [List.getD_eq_getElem?_getD,h]
theorem which_any (b g n c:Nat) (zs:List (List UInt8)) (t:ByteArray) (x:Wd) (p:Nat) (rv:Value) (mc mt:Nat) (w:World) (hr:RAt w b t x p rv mc mt) (hz:TxtAt w g zs) (hn:n=zs.length) (hl:zs.length≤1000) :
 Calls Tryz.prog 219 #[.pointer (some ⟨b,0,none⟩),.slice (some ⟨g,0,none⟩) n c] w fun e w'=>e=.returned (.int .i64 (whichL zs x.spelt))∧w'=w:=by
 have h3:w.cell? ⟨b,3,none⟩=some (.string (strA x.spelt)):=hr.cell 3
 have hw:=whichL_le zs x.spelt
 have hi:=Tryz.slices_Index_string g 0 n c (zs.map strA) (strA x.spelt) w (by simp [hn]) (by omega) (fun j hj=>by
  have hj':j < zs.length:=by simpa using hj
  rw [Nat.zero_add,getD_map_strA _ _ hj'];exact hz j hj')
 rw [hn,List.take_of_length_le (by simp)] at hi
 have e:=idx_which zs x.spelt
 have e2:Lib.idxOfS (zs.map strA) (strA x.spelt)=(whichL zs x.spelt:Int) - 1:=by omega
 rw [e2] at hi
 clear e e2
 have HI:=hide hi
 clear hi
 subst hn
 go_enter Tryz.func219,Tryz.ntmps219
 go_wp2_with (go_at_call 100;refine HI.out.mono ?_;rintro e w' ⟨rfl,rfl⟩)
 go_ret
 exact ⟨ret_int (by omega),rfl⟩
theorem demand_yes (b:Nat) (B:Bool) (er:Int) (w:World) (hB:B=true) :
 Calls Tryz.prog 192 #[.pointer (some ⟨b,0,none⟩),.bool B,.int .i64 er] w fun e w'=>e=.returned (.tuple #[])∧w'=w:=by
 subst hB
 go_enter Tryz.func192,Tryz.ntmps192
 go_wp2
 go_end0
 exact ⟨rfl,rfl⟩
theorem demand_no (b er:Nat) (B:Bool) (E:Int) (t:ByteArray) (x:Wd) (p:Nat) (rv:Value) (mc mt:Nat) (w:World) (hr:RAt w b t x p rv mc mt) (hB:B=false) (hE:E=er) :
 Calls Tryz.prog 192 #[.pointer (some ⟨b,0,none⟩),.bool B,.int .i64 E] w fun e w'=>Threw ⟨er,x.pos⟩ w e w'∧Below w.heap.size w w':=by
 subst hB
 subst hE
 have h2:w.cell? ⟨b,2,none⟩=some (.int .i64 x.pos):=hr.cell 2
 clear hr
 go_enter Tryz.func192,Tryz.ntmps192
 go_wp2_with (go_at_call 103;refine (fault_any _ _ _).mono ?_;rintro e w' ⟨rfl,rfl⟩)
 exact ⟨rfl,threw_at er x.pos (Nat.le_refl _) rfl,(Below.refl _ _).alloc (Nat.le_refl _) _⟩
end
section
open Go.RowKit
structure RC (w:World) (b:Nat) (t:ByteArray) (s:PS) (rv:Value) (mc mt:Nat):Prop where
 at_:RAt w b t s.1 s.2 rv mc mt
 le:s.2≤t.size
 m:∃ m,w.cell? ⟨1,0,none⟩=some (.int .i64 m)
 b1:1 < b
 hs:t.size≤600
 sz:s.1.said.length≤600∧s.1.num≤2147483647
 e0:s.1.kind=0→s.1.spelt=[]
 nm:¬ s.1.kind=1→NoName s.1.spelt
theorem RC.step {w w':World} {b:Nat} {t:ByteArray} {s s':PS} {rv rv':Value} {mc mt:Nat} (h:RC w b t s rv mc mt) (hm:Mod b w w') (ha:RAt w' b t s'.1 s'.2 rv' mc mt) (hl:s'.2≤t.size) (hz:s'.1.said.length≤600∧s'.1.num≤2147483647) (he:s'.1.kind=0→s'.1.spelt=[]) (hn:¬ s'.1.kind=1→NoName s'.1.spelt):RC w' b t s' rv' mc mt:=by
 refine ⟨ha,hl,?_,h.b1,h.hs,hz,he,hn⟩
 obtain ⟨m,hm1⟩:=h.m
 have:=h.at_.lt
 exact ⟨m,by rw [hm.cell (p:=⟨1,0,none⟩) (by show 1 < _;have:=h.b1;omega) (by show 1≠b;have:=h.b1;omega)];exact hm1⟩
theorem RC.below {w w':World} {b:Nat} {t:ByteArray} {s:PS} {rv:Value} {mc mt:Nat} (h:RC w b t s rv mc mt) (hb:Below w.heap.size w w'):RC w' b t s rv mc mt:=
 h.step (Mod.of_below hb) (h.at_.mod hb) h.le h.sz h.e0 h.nm
theorem RC.alloc {w:World} {b:Nat} {t:ByteArray} {s:PS} {rv:Value} {mc mt:Nat} (h:RC w b t s rv mc mt) (o:Obj):RC (w.alloc o) b t s rv mc mt:=
 h.below ((Below.refl _ _).alloc (Nat.le_refl _) _)
theorem RC.drew {w:World} {b:Nat} {t:ByteArray} {s:PS} {rv:Value} {mc mt:Nat} (h:RC w b t s rv mc mt):RC w.drew b t s rv mc mt:=
 ⟨h.at_,h.le,h.m,h.b1,h.hs,h.sz,h.e0,h.nm⟩
def RPost {α:Type} (r:Except Flt (α×PS)) (b:Nat) (t:ByteArray) (rv:Value) (mc mt:Nat) (w:World) (val:α→World→Value→Prop) (e:Ending) (w':World):Prop:=
 Mod b w w'∧
 match r with
 | .ok y=>(∃ v,e=.returned v∧val y.1 w' v)∧RC w' b t y.2 rv mc mt
 | .error f=>Threw f w e w'
theorem RPost.cases {α:Type} {r:Except Flt (α×PS)} {b:Nat} {t:ByteArray} {rv:Value} {mc mt:Nat} {w w':World} {val:α→World→Value→Prop} {e:Ending} (h:RPost r b t rv mc mt w val e w') :
 (∃ y v,r=.ok y∧e=.returned v∧val y.1 w' v∧RC w' b t y.2 rv mc mt∧Mod b w w')∨(∃ f,r=.error f∧Threw f w e w'∧Mod b w w'):=by
 obtain ⟨hm,h⟩:=h
 cases r with
 | ok y=>obtain ⟨⟨v,he,hv⟩,hc⟩:=h;exact Or.inl ⟨y,v,rfl,he,hv,hc,hm⟩
 | error f=>exact Or.inr ⟨f,rfl,h,hm⟩
theorem RPost.ok {α:Type} {r:Except Flt (α×PS)} {b:Nat} {t:ByteArray} {rv:Value} {mc mt:Nat} {w w':World} {val:α→World→Value→Prop} {v:Value} {y:α×PS} (h:r=.ok y) (hm:Mod b w w') (hv:val y.1 w' v) (hc:RC w' b t y.2 rv mc mt):RPost r b t rv mc mt w val (.returned v) w':=by
 subst h;exact ⟨hm,⟨v,rfl,hv⟩,hc⟩
theorem RPost.err {α:Type} {r:Except Flt (α×PS)} {b:Nat} {t:ByteArray} {rv:Value} {mc mt:Nat} {w w':World} {val:α→World→Value→Prop} {e:Ending} {f:Flt} (h:r=.error f) (hm:Mod b w w') (ht:Threw f w e w'):RPost r b t rv mc mt w val e w':=by
 subst h;exact ⟨hm,ht⟩
theorem NextPost.cases {r:Except Flt PS} {b:Nat} {t:ByteArray} {rv:Value} {mc mt:Nat} {w w':World} {e:Ending} (h:NextPost r b t rv mc mt w e w') :
 (∃ y,r=.ok y∧e=.returned (.tuple #[])∧RAt w' b t y.1 y.2 rv mc mt∧Mod b w w')∨(∃ f,r=.error f∧Threw f w e w'∧Mod b w w'):=by
 obtain ⟨hm,h⟩:=h
 cases r with
 | ok y=>exact Or.inl ⟨y,rfl,h.1,h.2,hm⟩
 | error f=>exact Or.inr ⟨f,rfl,h,hm⟩
theorem next_rc (b:Nat) (t:ByteArray) (s:PS) (rv:Value) (mc mt:Nat) (w:World) (h:RC w b t s rv mc mt) :
 Calls Tryz.prog 141 #[.pointer (some ⟨b,0,none⟩)] w fun e w'=>
  (∃ y,nextL t.data.toList s.2=.ok y∧e=.returned (.tuple #[])∧RC w' b t y rv mc mt∧Mod b w w')∨(∃ f,nextL t.data.toList s.2=.error f∧Threw f w e w'∧Mod b w w'):=by
 obtain ⟨m,hm⟩:=h.m
 refine (next_any b t s.1 s.2 rv mc mt m w (by have:=h.hs;omega) h.le h.at_ hm).mono ?_
 intro e w' hp
 rcases hp.cases with ⟨y,hy,he,ha,hmod⟩ | hf
 ·refine Or.inl ⟨y,hy,he,h.step hmod ha ?_ ?_ (nextL_le t.data.toList s.2 (by simpa using h.le) y hy).2.2.2.1 (nextL_noName t.data.toList s.2 y hy),hmod⟩
  ·have:=(nextL_le t.data.toList s.2 (by simpa using h.le) y hy).2.1
   simpa using this
  ·have h1:=nextL_small t.data.toList s.2 y hy
   have h2:=h.hs
   have h3:t.data.toList.length=t.size:=by simp
   exact ⟨by omega,h1.2⟩
 ·exact Or.inr hf
theorem mayL_no {l:List UInt8} {zs:List (List UInt8)} {s:PS} (h:whichL zs s.1.spelt=0):mayL l zs s=.ok (0,s):=by unfold mayL;rw [if_pos h]
theorem mayL_ok {l:List UInt8} {zs:List (List UInt8)} {s y:PS} (h:¬ whichL zs s.1.spelt=0) (hn:nextL l s.2=.ok y):mayL l zs s=.ok (whichL zs s.1.spelt,y):=by unfold mayL;rw [if_neg h,hn]
theorem mayL_err {l:List UInt8} {zs:List (List UInt8)} {s:PS} {f:Flt} (h:¬ whichL zs s.1.spelt=0) (hn:nextL l s.2=.error f):mayL l zs s=.error f:=by unfold mayL;rw [if_neg h,hn]
theorem passL_no {l:List UInt8} {zs:List (List UInt8)} {s:PS} (h:whichL zs s.1.spelt=0):passL l zs s=.error ⟨4,s.1.pos⟩:=by unfold passL;rw [if_pos h]
theorem passL_ok {l:List UInt8} {zs:List (List UInt8)} {s y:PS} (h:¬ whichL zs s.1.spelt=0) (hn:nextL l s.2=.ok y):passL l zs s=.ok (whichL zs s.1.spelt,y):=by unfold passL;rw [if_neg h,hn]
theorem passL_err {l:List UInt8} {zs:List (List UInt8)} {s:PS} {f:Flt} (h:¬ whichL zs s.1.spelt=0) (hn:nextL l s.2=.error f):passL l zs s=.error f:=by unfold passL;rw [if_neg h,hn]
def numV (i:Nat) (_:World) (v:Value):Prop:=v=.int .i64 i
theorem may_any (b g n c:Nat) (zs:List (List UInt8)) (t:ByteArray) (s:PS) (rv:Value) (mc mt:Nat) (w:World) (h:RC w b t s rv mc mt) (hz:TxtAt w g zs) (hn:n=zs.length) (hl:zs.length≤1000) :
 Calls Tryz.prog 180 #[.pointer (some ⟨b,0,none⟩),.slice (some ⟨g,0,none⟩) n c] w (RPost (mayL t.data.toList zs s) b t rv mc mt w numV):=by
 have hw:=hide (which_any b g n c zs t s.1 s.2 rv mc mt w h.at_ hz hn hl)
 have hle:=whichL_le zs s.1.spelt
 have H:=hide h
 clear hz hn
 by_cases h0:whichL zs s.1.spelt=0
 ·have h0':¬ (0:Int) < (whichL zs s.1.spelt:Int):=by omega
  have HE:=hide (mayL_no (l:=t.data.toList) h0)
  have H0:=hide h0
  clear h0 h
  go_enter Tryz.func180,Tryz.ntmps180
  go_wp2_with (go_at_call 219;refine hw.out.mono ?_;rintro e w' ⟨rfl,rfl⟩)
  go_ret
  exact RPost.ok HE.out (Mod.refl _ _) (by unfold numV;rw [H0.out];rfl) H.out
 ·have h0':(0:Int) < (whichL zs s.1.spelt:Int):=by omega
  have H0:=hide h0
  clear h0 h
  go_enter Tryz.func180,Tryz.ntmps180
  go_wp2_with (go_at_call 219;refine hw.out.mono ?_;rintro e w' ⟨rfl,rfl⟩)
  refine (next_rc b t s rv mc mt _ H.out).mono ?_
  rintro e w1 (⟨y,hy,rfl,hc,hm⟩ | ⟨f,hf,⟨bb,hz,rfl,hcc⟩,hm⟩)
  ·go_wp2
   go_ret
   exact RPost.ok (mayL_ok H0.out hy) hm rfl hc
  ·exact ⟨rfl,RPost.err (mayL_err H0.out hf) hm ⟨bb,hz,rfl,hcc⟩⟩
theorem pass_any (b g n c:Nat) (zs:List (List UInt8)) (t:ByteArray) (s:PS) (rv:Value) (mc mt:Nat) (w:World) (h:RC w b t s rv mc mt) (hz:TxtAt w g zs) (hn:n=zs.length) (hl:zs.length≤1000) :
 Calls Tryz.prog 177 #[.pointer (some ⟨b,0,none⟩),.slice (some ⟨g,0,none⟩) n c] w (RPost (passL t.data.toList zs s) b t rv mc mt w numV):=by
 have hw:=hide (which_any b g n c zs t s.1 s.2 rv mc mt w h.at_ hz hn hl)
 have hle:=whichL_le zs s.1.spelt
 have H:=hide h
 clear hz hn
 by_cases h0:whichL zs s.1.spelt=0
 ·have h0':¬ (0:Int) < (whichL zs s.1.spelt:Int):=by omega
  have HE:=hide (passL_no (l:=t.data.toList) h0)
  have H0:=hide h0
  clear h0 h
  go_enter Tryz.func177,Tryz.ntmps177
  go_wp2_with (go_at_call 219;refine hw.out.mono ?_;rintro e w' ⟨rfl,rfl⟩)
  refine (demand_no b 4 _ _ t s.1 s.2 rv mc mt _ H.out.at_ (by simp;omega) rfl).mono ?_
  rintro e w1 ⟨⟨bb,hz,rfl,hcc⟩,hm⟩
  exact ⟨rfl,RPost.err HE.out (Mod.of_below hm) ⟨bb,hz,rfl,hcc⟩⟩
 ·have h0':(0:Int) < (whichL zs s.1.spelt:Int):=by omega
  have H0:=hide h0
  clear h0 h
  go_enter Tryz.func177,Tryz.ntmps177
  go_wp2_with (go_at_call 219;refine hw.out.mono ?_;rintro e w' ⟨rfl,rfl⟩)
  refine (demand_yes b _ _ _ (by simp;omega)).mono ?_
  rintro e w' ⟨rfl,rfl⟩
  go_wp2_with fail
  refine (next_rc b t s rv mc mt _ H.out).mono ?_
  rintro e w1 (⟨y,hy,rfl,hc,hm⟩ | ⟨f,hf,⟨bb,hz,rfl,hcc⟩,hm⟩)
  ·go_wp2
   go_ret
   exact RPost.ok (passL_ok H0.out hy) hm rfl hc
  ·exact ⟨rfl,RPost.err (passL_err H0.out hf) hm ⟨bb,hz,rfl,hcc⟩⟩
end
section
open Go.RowKit
attribute [local go_sem ↓] Go.wp_at_zero Go.wp_at_succ
theorem qskip_bad (tb:Nat) (l:List UInt8) (f:Flt) (w:World) (h:TBad w tb l f) :
 Calls Tryz.prog 108 #[.pointer (some ⟨tb,0,none⟩)] w fun e w'=>e=.returned (.tuple #[])∧∃ n,w'=w.drewN n:=by
 have c0:w.cell? ⟨tb,0,none⟩=some (.string (strA l)):=blk_cell h.1 0
 have c1:w.cell? ⟨tb,1,none⟩=some (.int .i64 l.length):=blk_cell h.1 1
 have hz:=strA_size l
 clear h
 go_enter Tryz.func108,Tryz.ntmps108
 go_wp2
 refine wp_loop_rounds 1 ?_
 rw [rounds_succ]
 go_wp2_with fail
 go_quiet (fail)
 go_wp2
 go_end0
 exact ⟨rfl,_,rfl⟩
theorem qnext_bad (tb:Nat) (l:List UInt8) (f:Flt) (w:World) (h:TBad w tb l f) :
 Calls Tryz.prog 66 #[.pointer (some ⟨tb,0,none⟩)] w (NextQ (.error f) tb l w):=by
 have H:=hide h
 have hne:((f.err:Int) != 0)=true:=by have:=h.2;simp;omega
 clear h
 go_enter Tryz.func66,Tryz.ntmps66
 go_wp2_with fail
 refine (qskip_bad tb l f w H.out).mono ?_
 rintro e w1 ⟨rfl,n,rfl⟩
 have c2:(w.drewN n).cell? ⟨tb,2,none⟩=some (.int .i64 f.err):=blk_cell (w:=w.drewN n) H.out.1 2
 go_wp2
 go_end0
 exact ⟨rfl,(Mod.refl _ _).drewN,H.out⟩
def nextS (l:List UInt8) (st:Except Flt PS):Except Flt PS:=
 match st with
 | .ok s=>nextL l s.2
 | .error f=>.error f
theorem qnext_st (tb:Nat) (l:List UInt8) (st:Except Flt PS) (w:World) (h:TSt w tb l st) (hl:l.length≤600) :
 Calls Tryz.prog 66 #[.pointer (some ⟨tb,0,none⟩)] w (NextQ (nextS l st) tb l w):=by
 cases st with
 | ok s=>exact qnext_any tb l s.2 _ _ _ _ w h.qt hl h.le
 | error f=>exact qnext_bad tb l f w h
def failS (st:Except Flt PS) (f:Flt):Except Flt PS:=
 match st with
 | .ok _=>.error f
 | .error g=>.error g
theorem qfail_st (tb:Nat) (l:List UInt8) (st:Except Flt PS) (f:Flt) (w:World) (h:TSt w tb l st) (hl:l.length≤600) (hf:f.err≠0) :
 Calls Tryz.prog 70 #[.pointer (some ⟨tb,0,none⟩),.int .i64 f.err,.int .i64 f.pos] w (NextQ (failS st f) tb l w):=by
 cases st with
 | ok s=>
  refine (qfail_any tb l s.2 0 _ _ _ _ f w h.qt hl hf).mono ?_
  rintro e w' ⟨rfl,hm,hb⟩
  exact ⟨rfl,hm,hb⟩
 | error g=>
  refine (qfail_bad tb l g _ _ w h).mono ?_
  rintro e w' ⟨rfl,rfl⟩
  exact ⟨rfl,Mod.refl _ _,h⟩
def wordS (l:List UInt8) (st:Except Flt PS):Nat×List UInt8×Nat×Nat:=
 match st with
 | .ok s=>(kQ s.1,sQ s.1,s.1.num,s.1.pos)
 | .error _=>(0,[],0,l.length)
def errS (st:Except Flt PS):Nat:=
 match st with
 | .ok _=>0
 | .error f=>f.err
theorem TSt.cells {w:World} {tb:Nat} {l:List UInt8} {st:Except Flt PS} (h:TSt w tb l st):w.cell? ⟨tb,2,none⟩=some (.int .i64 (errS st))∧w.cell? ⟨tb,4,none⟩=some (.int .u8 (wordS l st).1)∧w.cell? ⟨tb,5,none⟩=some (.string (strA (wordS l st).2.1))∧w.cell? ⟨tb,6,none⟩=some (.int .i64 (wordS l st).2.2.1)∧w.cell? ⟨tb,7,none⟩=some (.int .i64 (wordS l st).2.2.2):=by
 cases st with
 | ok s=>exact ⟨blk_cell h.qt 2,blk_cell h.qt 4,blk_cell h.qt 5,blk_cell h.qt 6,blk_cell h.qt 7⟩
 | error f=>exact ⟨blk_cell h.1 2,blk_cell h.1 4,blk_cell h.1 5,blk_cell h.1 6,blk_cell h.1 7⟩
theorem TSt.lt {w:World} {tb:Nat} {l:List UInt8} {st:Except Flt PS} (h:TSt w tb l st):tb < w.heap.size:=by
 cases st with
 | ok s=>exact h.qt.lt
 | error f=>exact h.1.lt
theorem TSt.block {w w':World} {tb:Nat} {l:List UInt8} {st:Except Flt PS} (h:TSt w tb l st) (hb:w'.heap[tb]?=w.heap[tb]?):TSt w' tb l st:=by
 cases st with
 | ok s=>exact ⟨by unfold QT;rw [hb];exact h.qt,h.le,h.wd,h.sz,h.sp⟩
 | error f=>exact ⟨by unfold QT;rw [hb];exact h.1,h.2⟩
theorem TSt.below {w w':World} {tb:Nat} {l:List UInt8} {st:Except Flt PS} (h:TSt w tb l st) (hb:Below w.heap.size w w'):TSt w' tb l st:=h.block (hb.block tb h.lt)
theorem TSt.err0 {w:World} {tb:Nat} {l:List UInt8} {st:Except Flt PS} (h:TSt w tb l st):errS st=0↔∃ s,st=.ok s:=by
 cases st with
 | ok s=>exact ⟨fun _=>⟨s,rfl⟩,fun _=>rfl⟩
 | error f=>exact ⟨fun e=>absurd e h.2,fun ⟨s,e⟩=>by cases e⟩
def RdQ (w:World) (rb tb:Nat) (nv:Value):Prop:=w.heap[rb]?=some (.cells #[.pointer (some ⟨tb,0,none⟩),nv] 140)
theorem RdQ.mod {w w':World} {rb tb:Nat} {nv:Value} (h:RdQ w rb tb nv) (hm:Mod tb w w') (hn:rb≠tb):RdQ w' rb tb nv:=by
 unfold RdQ;rw [hm.block rb (blk_lt h) hn];exact h
def signS (l:List UInt8) (c:Nat) (st:Except Flt PS):Except Flt PS:=if (wordS l st).1=c then nextS l st else failS st ⟨4,(wordS l st).2.2.2⟩
theorem qsign_any (rb tb:Nat) (nv:Value) (l:List UInt8) (c:Nat) (st:Except Flt PS) (w:World) (hr:RdQ w rb tb nv) (h:TSt w tb l st) (hl:l.length≤600) :
 Calls Tryz.prog 68 #[.pointer (some ⟨rb,0,none⟩),.int .u8 c] w (NextQ (signS l c st) tb l w):=by
 have r0:w.cell? ⟨rb,0,none⟩=some (.pointer (some ⟨tb,0,none⟩)):=blk_cell hr 0
 obtain ⟨_,c4,_,_,c7⟩:=h.cells
 have HN:=hide (qnext_st tb l st w h hl)
 have HF:=hide (qfail_st tb l st ⟨4,(wordS l st).2.2.2⟩ w.drew (h.block rfl) hl (Nat.succ_ne_zero 3))
 clear h hr
 by_cases he:(wordS l st).1=c
 ·have HX:Hid (signS l c st=nextS l st):=if_pos he
  have hb:(((wordS l st).1:Int) != (c:Int))=false:=by simp;omega
  rw [HX.out]
  clear he
  go_enter Tryz.func68,Tryz.ntmps68
  go_wp2_with fail
  refine HN.out.mono ?_
  rintro e w1 h1
  obtain ⟨rfl,h2⟩:=h1
  go_wp2
  go_end0
  exact ⟨rfl,h2⟩
 ·have HX:Hid (signS l c st=failS st ⟨4,(wordS l st).2.2.2⟩):=if_neg he
  have hb:(((wordS l st).1:Int) != (c:Int))=true:=by simp;omega
  rw [HX.out]
  clear he
  go_enter Tryz.func68,Tryz.ntmps68
  go_wp2_with fail
  go_region_with (first | (go_at_call 70;refine HF.out.mono ?_;rintro e w1 h1;obtain ⟨rfl,hm1,ht1⟩:=h1;have HM1:=hide hm1;have HT1:=hide ht1;clear hm1 ht1;skip))
  all_goals go_wp2
  all_goals go_end0
  all_goals exact ⟨rfl,⟨HM1.out.os,HM1.out.tape,HM1.out.output,HM1.out.size,HM1.out.block⟩,HT1.out⟩
end
section
open Go.RowKit
attribute [local go_sem ↓] Go.wp_at_zero Go.wp_at_succ
def namedTo (x:List UInt8) (k:Nat):Prop:=k=0∨nameLen x=k+nameTail (x.drop k)
theorem named_first {x:List UInt8} (h:0 < (strA x).size) (hL:isLetN ((strA x)[0].toNat:Int)=true):namedTo x 1:=by
 right
 have e:=drop_at (a:=0) h
 rw [List.drop_zero] at e
 rw [e,nameLen,if_pos hL]
 rfl
theorem named_step {x:List UInt8} {k:Nat} (hk:0 < k) (h:k < (strA x).size) (hn:namedTo x k) (hc:letdig (strA x)[k]=true):namedTo x (k+1):=by
 rcases hn with hn | hn
 ·omega
 ·right
  have:=nameTailQ_step h hc
  omega
theorem named_no0 {x:List UInt8} (h:0 < (strA x).size) (hL:isLetN ((strA x)[0].toNat:Int)=false):isNameL x=false:=by
 have e:=drop_at (a:=0) h
 rw [List.drop_zero] at e
 have h1:nameLen x=0:=by rw [e,nameLen,if_neg (by rw [hL];decide)]
 have h2:0 < x.length:=h
 unfold isNameL
 rw [h1]
 have:((0:Nat) == x.length)=false:=by simp;omega
 rw [this,Bool.and_false]
theorem named_no {x:List UInt8} {k:Nat} (hk:0 < k) (h:k < (strA x).size) (hn:namedTo x k) (hc:letdig (strA x)[k]=false):isNameL x=false:=by
 rcases hn with hn | hn
 ·omega
 ·have h1:=nameTailQ_stop h hc
  have h2:k < x.length:=h
  unfold isNameL
  have:(nameLen x == x.length)=false:=by simp;omega
  rw [this,Bool.and_false]
theorem named_yes {x:List UInt8} (hk:0 < x.length) (hn:namedTo x x.length):isNameL x=true:=by
 rcases hn with hn | hn
 ·omega
 ·rw [nameTailQ_end (Nat.le_refl _)] at hn
  unfold isNameL
  rw [hn]
  cases x with
  | nil=>simp at hk
  | cons c r=>simp
theorem qnamed_any (x:List UInt8) (w:World) (hx:x.length≤140737488355328) :
 Calls Tryz.prog 175 #[.string (strA x)] w fun e w'=>e=.returned (.bool (isNameL x))∧w'=w:=by
 have hz:=strA_size x
 go_enter Tryz.func175,Tryz.ntmps175
 go_wp2
 go_loop [3] (fun i=>∃ k:Nat,k≤x.length∧i=.int .i64 k∧namedTo x k) (fun i=>x.length - (intOf i).toNat)
 case atStart=>exact ⟨0,Nat.zero_le _,rfl,Or.inl rfl⟩
 case round=>
  obtain ⟨k,hk,rfl,hn⟩:=hrel
  have HN:=hide hn
  clear hn
  by_cases hlt:k < (strA x).size
  ·have hlt':(k:Int) < (x.length:Int):=by omega
   cases hL:isLetN ((strA x)[k].toNat:Int)
   ·cases hD:isDigitN ((strA x)[k].toNat:Int)
    ·have HR:Hid (isNameL x=false):=by
      rcases Nat.eq_zero_or_pos k with rfl | h
      ·exact named_no0 hlt hL
      ·exact named_no h hlt HN.out (by unfold letdig;rw [hL,hD];rfl)
     go_wp2_with (first | (go_at_call 109;refine (qletter_any _ _).mono ?_;rintro e w' ⟨rfl,rfl⟩) | (go_at_call 110;refine (qdigit_any _ _).mono ?_;rintro e w' ⟨rfl,rfl⟩))
     go_ret
     exact ⟨ret_bool HR.out.symm,rfl⟩
    ·rcases Nat.eq_zero_or_pos k with rfl | h
     ·have HR:=hide (named_no0 hlt hL)
      go_wp2_with (first | (go_at_call 109;refine (qletter_any _ _).mono ?_;rintro e w' ⟨rfl,rfl⟩) | (go_at_call 110;refine (qdigit_any _ _).mono ?_;rintro e w' ⟨rfl,rfl⟩))
      go_ret
      exact ⟨ret_bool HR.out.symm,rfl⟩
     ·have HS:=hide (named_step h hlt HN.out (by unfold letdig;rw [hL,hD];rfl))
      have hk0:((k:Int) == 0)=false:=by simp;omega
      go_wp2_with (first | (go_at_call 109;refine (qletter_any _ _).mono ?_;rintro e w' ⟨rfl,rfl⟩) | (go_at_call 110;refine (qdigit_any _ _).mono ?_;rintro e w' ⟨rfl,rfl⟩))
      go_round
      case rel=>exact ⟨k+1,by omega,by go_num,HS.out⟩
      case measure=>simp [intOf];omega
   ·have HS:Hid (namedTo x (k+1)):=by
     rcases Nat.eq_zero_or_pos k with rfl | h
     ·exact named_first hlt hL
     ·exact named_step h hlt HN.out (by unfold letdig;rw [hL];rfl)
    go_wp2_with (first | (go_at_call 109;refine (qletter_any _ _).mono ?_;rintro e w' ⟨rfl,rfl⟩) | (go_at_call 110;refine (qdigit_any _ _).mono ?_;rintro e w' ⟨rfl,rfl⟩))
    go_round
    case rel=>exact ⟨k+1,by omega,by go_num,HS.out⟩
    case measure=>simp [intOf];omega
  ·obtain rfl:k=x.length:=by omega
   have hlt':¬ (x.length:Int) < (x.length:Int):=by omega
   by_cases h0:0 < x.length
   ·have HR:=hide (named_yes h0 HN.out)
    have h0':(0:Int) < (x.length:Int):=by omega
    go_wp2
    go_ret
    exact ⟨ret_bool (by rw [HR.out]),rfl⟩
   ·have hx0:x=[]:=List.eq_nil_of_length_eq_zero (by omega)
    subst hx0
    go_wp2
    go_ret
    exact ⟨rfl,rfl⟩
theorem strA_eqb (a b:List UInt8):((strA a).toList == (strA b).toList)=decide (a=b):=by
 rw [ByteArray.toList_eq,ByteArray.toList_eq]
 show (a == b)=decide (a=b)
 rw [Bool.eq_iff_iff]
 simp
def TxL (w:World) (v:Value) (zs:List (List UInt8)):Prop:=(zs=[]∧v=.slice none 0 0)∨∃ g c,v=.slice (some ⟨g,0,none⟩) zs.length c∧TxtAt w g zs
theorem TxL.form {w:World} {v:Value} {zs:List (List UInt8)} (h:TxL w v zs):∃ a c,v=.slice a zs.length c∧∀ j (hj:j < zs.length),∃ g,a=some ⟨g,0,none⟩∧w.cell? ⟨g,j,none⟩=some (.string (strA zs[j])):=by
 rcases h with ⟨rfl,rfl⟩ | ⟨g,c,rfl,ht⟩
 ·exact ⟨none,0,rfl,fun j hj=>absurd hj (Nat.not_lt_zero _)⟩
 ·refine ⟨_,c,rfl,fun j hj=>⟨g,rfl,?_⟩⟩
  have:=ht j hj
  rw [List.getD_eq_getElem?_getD,List.getElem?_eq_getElem hj] at this
  exact this
theorem whichL_pos_iff (x:List UInt8):∀ zs:List (List UInt8),0 < whichL zs x↔x∈zs
 | []=>by simp [whichL]
 | z :: r=>by
  have ih:=whichL_pos_iff x r
  unfold whichL
  by_cases h:z=x
  ·rw [if_pos h];simp [h]
  ·rw [if_neg h]
   by_cases h0:whichL r x=0
   ·rw [if_pos h0]
    have:x ∉ r:=fun hm=>by have:=ih.2 hm;omega
    simp [this]
    exact fun e=>h e.symm
   ·rw [if_neg h0]
    have:x∈r:=ih.1 (by omega)
    simp [this]
theorem qamong_any (v:Value) (zs:List (List UInt8)) (x:List UInt8) (w:World) (h:TxL w v zs) (hl:zs.length≤140737488355328) :
 Calls Tryz.prog 55 #[v,.string (strA x)] w fun e w'=>e=.returned (.bool (decide (0 < whichL zs x)))∧w'=w:=by
 obtain ⟨a,c,rfl,hc⟩:=h.form
 have HC:=hide hc
 clear hc h
 go_enter Tryz.func55,Tryz.ntmps55
 go_wp2
 go_loop [5] (fun i=>∃ k:Nat,k≤zs.length∧i=.int .i64 k∧x ∉ zs.take k) (fun i=>zs.length - (intOf i).toNat)
 case atStart=>exact ⟨0,Nat.zero_le _,rfl,by simp⟩
 case round=>
  obtain ⟨k,hk,rfl,hn⟩:=hrel
  have HN:=hide hn
  clear hn
  by_cases hlt:k < zs.length
  ·have hlt':(k:Int) < (zs.length:Int):=by omega
   obtain ⟨g,rfl,hg⟩:=HC.out k hlt
   by_cases he:zs[k]=x
   ·have HR:Hid (decide (0 < whichL zs x)=true):=decide_eq_true ((whichL_pos_iff x zs).2 (he ▸ List.getElem_mem hlt))
    rw [he] at hg
    have hb:((strA x).toList == (strA x).toList)=true:=by rw [strA_eqb];simp
    clear he
    go_wp2
    go_ret
    exact ⟨ret_bool HR.out.symm,rfl⟩
   ·have hb:((strA zs[k]).toList == (strA x).toList)=false:=by rw [strA_eqb];simp [he]
    have HS:Hid (x ∉ zs.take (k+1)):=by
     show _ ∉ _
     rw [List.take_succ_eq_append_getElem hlt]
     intro hm
     rcases List.mem_append.1 hm with hm | hm
     ·exact HN.out hm
     ·exact he (List.mem_singleton.1 hm).symm
    clear he
    go_wp2
    go_round
    case rel=>exact ⟨k+1,by omega,by go_num,HS.out⟩
    case measure=>simp [intOf];omega
  ·obtain rfl:k=zs.length:=by omega
   have HR:Hid (decide (0 < whichL zs x)=false):=decide_eq_false (fun h=>HN.out (by rw [List.take_length];exact (whichL_pos_iff x zs).1 h))
   go_wp2
   go_ret
   exact ⟨ret_bool HR.out.symm,rfl⟩
def fitsL (what:Nat) (x:List UInt8):Nat:=
 if what=1 then (if 0 < whichL [kEnvelope,kFileinto,kReject,kVariables] x then 0 else 6)
 else if what=2 then (if 0 < whichL [cOctet,cCasemap] x then 0 else 7)
 else if what=3 then (if 0 < whichL [kFrom,kTo] (smallL x) then 0 else 7)
 else if what=4 then (if isNameL x then 0 else 7)
 else 0
def extL:List (List UInt8):=[kEnvelope,kFileinto,kReject,kVariables]
theorem qext_any (w:World):Calls Tryz.prog 213 #[] w fun e w'=>e=.returned (.slice (some ⟨w.heap.size,0,none⟩) 4 4)∧w'=w.alloc (.cells (tcells extL).toArray 9):=by
 go_enter Tryz.func213,Tryz.ntmps213
 go_wp2
 go_ret
 exact ⟨rfl,rfl⟩
theorem qfits_any (what:Nat) (x:List UInt8) (w:World) (hw:what≤4) (hx:x.length≤140737488355328) :
 Calls Tryz.prog 170 #[.string (strA x),.int .i64 what] w fun e w'=>e=.returned (.int .i64 (fitsL what x))∧Below w.heap.size w w':=by
 have hc:what=0∨what=1∨what=2∨what=3∨what=4:=by omega
 rcases hc with rfl | rfl | rfl | rfl | rfl
 ·go_enter Tryz.func170,Tryz.ntmps170
  go_wp2
  go_ret
  exact ⟨rfl,Below.refl _ _⟩
 ·have HA:=hide (qamong_any (.slice (some ⟨w.heap.size,0,none⟩) 4 4) extL x (w.alloc (.cells (tcells extL).toArray 9)) (Or.inr ⟨_,4,rfl,txt_alloc w extL _ _ rfl⟩) (by decide))
  have HR:Hid (fitsL 1 x=if 0 < whichL extL x then 0 else 6):=rfl
  by_cases hn:0 < whichL extL x
  ·rw [if_pos hn] at HR
   rw [decide_eq_true hn] at HA
   clear hn
   go_enter Tryz.func170,Tryz.ntmps170
   go_wp2_with (first | (go_at_call 213;refine (qext_any _).mono ?_;rintro e w' ⟨rfl,rfl⟩) | (go_at_call 55;refine HA.out.mono ?_;rintro e w' ⟨rfl,rfl⟩))
   go_ret
   exact ⟨by rw [HR.out];rfl,(Below.refl _ _).alloc (Nat.le_refl _) _⟩
  ·rw [if_neg hn] at HR
   rw [decide_eq_false hn] at HA
   clear hn
   go_enter Tryz.func170,Tryz.ntmps170
   go_wp2_with (first | (go_at_call 213;refine (qext_any _).mono ?_;rintro e w' ⟨rfl,rfl⟩) | (go_at_call 55;refine HA.out.mono ?_;rintro e w' ⟨rfl,rfl⟩))
   go_ret
   exact ⟨by rw [HR.out];rfl,(Below.refl _ _).alloc (Nat.le_refl _) _⟩
 ·have HR:Hid (fitsL 2 x=if 0 < whichL [cOctet,cCasemap] x then 0 else 7):=rfl
  have h1:((strA x).toList == [105,59,111,99,116,101,116])=decide (x=cOctet):=by rw [ByteArray.toList_eq];show (x == cOctet)=_;rw [Bool.eq_iff_iff];simp
  have h2:((strA x).toList == [105,59,97,115,99,105,105,45,99,97,115,101,109,97,112])=decide (x=cCasemap):=by rw [ByteArray.toList_eq];show (x == cCasemap)=_;rw [Bool.eq_iff_iff];simp
  have HW:=hide (whichL_pos_iff x [cOctet,cCasemap])
  by_cases e1:x=cOctet
  ·rw [if_pos (HW.out.2 (by rw [e1];simp))] at HR
   rw [decide_eq_true e1] at h1
   clear e1 h2
   go_enter Tryz.func170,Tryz.ntmps170
   go_wp2
   go_ret
   exact ⟨by rw [HR.out];rfl,Below.refl _ _⟩
  rw [decide_eq_false e1] at h1
  by_cases e2:x=cCasemap
  ·rw [if_pos (HW.out.2 (by rw [e2];simp))] at HR
   rw [decide_eq_true e2] at h2
   clear e1 e2
   go_enter Tryz.func170,Tryz.ntmps170
   go_wp2
   go_ret
   exact ⟨by rw [HR.out];rfl,Below.refl _ _⟩
  rw [decide_eq_false e2] at h2
  rw [if_neg (fun h=>by have:=HW.out.1 h;simp [e1,e2] at this)] at HR
  clear e1 e2
  go_enter Tryz.func170,Tryz.ntmps170
  go_wp2
  go_ret
  exact ⟨by rw [HR.out];rfl,Below.refl _ _⟩
 ·have HR:Hid (fitsL 3 x=if 0 < whichL [kFrom,kTo] (smallL x) then 0 else 7):=rfl
  have HSM:=hide (fun W=>qsmall_any x W hx)
  generalize smallL x=y at *
  have h1:((strA y).toList == [102,114,111,109])=decide (y=kFrom):=by rw [ByteArray.toList_eq];show (y == kFrom)=_;rw [Bool.eq_iff_iff];simp
  have h2:((strA y).toList == [116,111])=decide (y=kTo):=by rw [ByteArray.toList_eq];show (y == kTo)=_;rw [Bool.eq_iff_iff];simp
  have HW:=hide (whichL_pos_iff y [kFrom,kTo])
  by_cases e1:y=kFrom
  ·rw [if_pos (HW.out.2 (by rw [e1];simp))] at HR
   rw [decide_eq_true e1] at h1
   clear e1 h2
   go_enter Tryz.func170,Tryz.ntmps170
   go_wp2_with (go_at_call 80;refine (HSM.out _).mono ?_;rintro e w' ⟨rfl,hb⟩)
   go_ret
   exact ⟨by rw [HR.out];rfl,hb⟩
  rw [decide_eq_false e1] at h1
  by_cases e2:y=kTo
  ·rw [if_pos (HW.out.2 (by rw [e2];simp))] at HR
   rw [decide_eq_true e2] at h2
   clear e1 e2
   go_enter Tryz.func170,Tryz.ntmps170
   go_wp2_with (go_at_call 80;refine (HSM.out _).mono ?_;rintro e w' ⟨rfl,hb⟩)
   go_ret
   exact ⟨by rw [HR.out];rfl,hb⟩
  rw [decide_eq_false e2] at h2
  rw [if_neg (fun h=>by have:=HW.out.1 h;simp [e1,e2] at this)] at HR
  clear e1 e2
  go_enter Tryz.func170,Tryz.ntmps170
  go_wp2_with (go_at_call 80;refine (HSM.out _).mono ?_;rintro e w' ⟨rfl,hb⟩)
  go_ret
  exact ⟨by rw [HR.out];rfl,hb⟩
 ·cases hn:isNameL x
  all_goals
   have HR:Hid (fitsL 4 x=if isNameL x then 0 else 7):=rfl
   rw [hn] at HR
   go_enter Tryz.func170,Tryz.ntmps170
   go_wp2_with (go_at_call 175;refine (qnamed_any x _ hx).mono ?_;rintro e w' ⟨rfl,rfl⟩)
   go_ret
   exact ⟨by rw [HR.out];rfl,Below.refl _ _⟩
end
end Go.Proofs.YtgnkjijocdmniaaGreatDoor
