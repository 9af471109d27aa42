import Derived.BigRegion
import Derived.Test.YtgnkjijocdmniaaGreatDoorZPlainQ3
import Derived.Test.YtgnkjijocdmniaaGreatDoorZQMatch
namespace Go.Proofs.YtgnkjijocdmniaaGreatDoor
set_option linter.unusedVariables false
set_option linter.unusedSimpArgs false
set_option maxRecDepth 100000
set_option maxHeartbeats 4000000
section
open Go.RowKit
attribute [local go_sem ↓] Go.wp_at_zero Go.wp_at_succ
theorem whichL_get:∀ (zs:List (List UInt8)) (x:List UInt8) (i:Nat),whichL zs x=i+1→zs[i]?=some x
 | [],x,i,h=>by simp [whichL] at h
 | s :: r,x,i,h=>by
  unfold whichL at h
  split at h
  ·rename_i e
   have:i=0:=by omega
   subst this;subst e;rfl
  ·split at h
   ·omega
   ·rename_i h1 h2
    obtain ⟨j,hj⟩:∃ j,whichL r x=j+1:=⟨whichL r x - 1,by omega⟩
    have hi:i=j+1:=by omega
    subst hi
    have:=whichL_get r x j hj
    simpa using this
theorem RPost.lift {α β:Type} {r:Except Flt (α×PS)} {R:Except Flt (β×PS)} {b:Nat} {t:ByteArray} {rv:Value} {mc mt:Nat} {w W w':World} {val:α→World→Value→Prop} {val':β→World→Value→Prop} {e:Ending} (g:α→β) (h:RPost r b t rv mc mt W val e w') (hm:Mod b w W) (hok:∀ y,r=.ok y→R=.ok (g y.1,y.2)) (herr:∀ f,r=.error f→R=.error f) (hval:∀ y v,r=.ok y→val y.1 w' v→val' (g y.1) w' v):RPost R b t rv mc mt w val' e w':=by
 rcases h.cases with ⟨y,v,hy,rfl,hv,hc,hm'⟩ | ⟨f,hf,ht,hm'⟩
 ·exact RPost.ok (hok y hy) (hm.trans hm') (hval _ _ hy hv) hc
 ·exact RPost.err (herr f hf) (hm.trans hm') (ht.up hm.size)
theorem testL_nextErr {l:List UInt8} {req:List (List UInt8)} {F n k:Nat} {s:PS} {f:Flt} (hi:whichL testNames s.1.spelt=k+1) (hu:useOk req s.1.spelt=true) (hn:nextL l s.2=.error f):testL l req F (n+1) s=.error f:=by
 rw [testL,if_neg (by omega),if_pos hu];exact nextThen_err hn
theorem testL_body {l:List UInt8} {req:List (List UInt8)} {F n k:Nat} {s y:PS} (hi:whichL testNames s.1.spelt=k+1) (hu:useOk req s.1.spelt=true) (hn:nextL l s.2=.ok y):testL l req F (n+1) s=testBody l F (testL l req F n) k s.1.pos y:=by
 rw [testL,if_neg (by omega),if_pos hu]
 refine (nextThen_ok hn).trans ?_
 show testBody l F (testL l req F n) (whichL testNames s.1.spelt - 1) s.1.pos y=_
 rw [hi]
 rfl
theorem testBody_2 {α:Type} (l:List UInt8) (F:Nat) (sub:PS→Except Flt (α×PS)) (pos:Nat) (s:PS):testBody l F sub 2 pos s=thenL (sub s) fun t s1=>.ok ((⟨2,pos,0,false,[],[],0⟩,[t]),s1):=rfl
theorem testBody_0 {α:Type} (l:List UInt8) (F:Nat) (sub:PS→Except Flt (α×PS)) (pos:Nat) (s:PS):testBody l F sub 0 pos s=.ok ((⟨0,pos,0,false,[],[],0⟩,[]),s):=rfl
theorem testBody_1 {α:Type} (l:List UInt8) (F:Nat) (sub:PS→Except Flt (α×PS)) (pos:Nat) (s:PS):testBody l F sub 1 pos s=.ok ((⟨1,pos,0,false,[],[],0⟩,[]),s):=rfl
theorem testBody_3 {α:Type} (l:List UInt8) (F:Nat) (sub:PS→Except Flt (α×PS)) (pos:Nat) (s:PS):testBody l F sub 3 pos s=thenL (groupL l F sub s) fun ts s1=>.ok ((⟨3,pos,0,false,[],[],0⟩,ts),s1):=rfl
theorem testBody_4 {α:Type} (l:List UInt8) (F:Nat) (sub:PS→Except Flt (α×PS)) (pos:Nat) (s:PS):testBody l F sub 4 pos s=thenL (groupL l F sub s) fun ts s1=>.ok ((⟨4,pos,0,false,[],[],0⟩,ts),s1):=rfl
theorem testBody_5 {α:Type} (l:List UInt8) (F:Nat) (sub:PS→Except Flt (α×PS)) (pos:Nat) (s:PS):testBody l F sub 5 pos s=thenL (matchL l F (fun _=>0) 5 pos s) fun x s1=>.ok ((x,[]),s1):=rfl
theorem testBody_6 {α:Type} (l:List UInt8) (F:Nat) (sub:PS→Except Flt (α×PS)) (pos:Nat) (s:PS):testBody l F sub 6 pos s=thenL (matchL l F (chkSmall (chkOne 7 [kFrom,kTo])) 6 pos s) fun x s1=>.ok ((x,[]),s1):=rfl
theorem testBody_7 {α:Type} (l:List UInt8) (F:Nat) (sub:PS→Except Flt (α×PS)) (pos:Nat) (s:PS):testBody l F sub 7 pos s=thenL (matchL l F (fun _=>0) 7 pos s) fun x s1=>.ok ((x,[]),s1):=rfl
theorem testBody_8 {α:Type} (l:List UInt8) (F:Nat) (sub:PS→Except Flt (α×PS)) (pos:Nat) (s:PS):testBody l F sub 8 pos s=thenL (stringsL l (fun _=>0) F s) fun xs s1=>.ok ((⟨8,pos,0,false,xs,[],0⟩,[]),s1):=rfl
theorem testBody_9 {α:Type} (l:List UInt8) (F:Nat) (sub:PS→Except Flt (α×PS)) (pos:Nat) (s:PS):testBody l F sub 9 pos s=thenL (sizeL l pos s) fun x s1=>.ok ((x,[]),s1):=rfl
theorem matchL_kind {l:List UInt8} {F:Nat} {chk:List UInt8→Nat} {k pos:Nat} {s:PS} {y:TLab×PS} (h:matchL l F chk k pos s=.ok y):y.1.kind=k∧y.1.pos=pos:=by
 unfold matchL at h
 cases h1:optL l F 0 false false s with
 | error f=>rw [thenL_err h1] at h;cases h
 | ok a=>
  rw [thenL_ok h1] at h
  cases h2:stringsL l chk F a.2 with
  | error f=>rw [thenL_err h2] at h;cases h
  | ok c=>
   rw [thenL_ok h2] at h
   cases h3:stringsL l (fun _=>0) F c.2 with
   | error f=>rw [thenL_err h3] at h;cases h
   | ok e=>rw [thenL_ok h3] at h;cases h;exact ⟨rfl,rfl⟩
theorem sizeL_kind {l:List UInt8} {pos:Nat} {s:PS} {y:TLab×PS} (h:sizeL l pos s=.ok y):y.1.kind=9∧y.1.pos=pos:=by
 unfold sizeL at h
 cases h1:passL l [tOver,tUnder] s with
 | error f=>rw [thenL_err h1] at h;cases h
 | ok a=>
  rw [thenL_ok h1] at h
  split at h
  ·cases h2:nextL l a.2.2 with
   | error f=>rw [nextThen_err h2] at h;cases h
   | ok c=>rw [nextThen_ok h2] at h;cases h;exact ⟨rfl,rfl⟩
  ·cases h
theorem mtV.toX {B:Nat} {hw:List UInt8} {x:TLab} {w:World} {v:Value} (h:mtV B hw x w v):mtX (fromB B) hw x w v:=h
theorem after_alloc {w w2:World} {b:Nat} {sp:List UInt8} {p:Nat} (hm:Mod b (w.alloc (.cells #[.string (strA sp),.int .i64 p] 216)).drew w2) (hb:b < w.heap.size):w2.cell? ⟨w.heap.size,0,none⟩=some (.string (strA sp))∧w2.cell? ⟨w.heap.size,1,none⟩=some (.int .i64 p)∧Mod b w w2:=
 ⟨(head_cells sp p (mod_drew hm) hb).1,(head_cells sp p (mod_drew hm) hb).2,((Mod.refl b w).alloc _).trans (mod_drew hm)⟩
theorem beginT_c (f:FuncId) (q:Nat) (n:Nat) (req:List (List UInt8)) (d:Int) (b F:Nat) (t:ByteArray) (s:PS) (rv:Value) (mc mt pr pt pf:Nat) (w:World) (h:RC w b t s rv mc mt) (ht:TMap w b mt pr pt pf) (hr:ReqV w b rv req) (hd0:0≤d) (hd:d≤6) (hk1:s.1.kind=1) (hu:useOk req s.1.spelt=true)
 (hfn:testFn b pr pt pf s.1.spelt=some (.func (.func f) #[] #[.pointer (some ⟨q,0,none⟩)])) (hcf:∀ args W,(callFunc f args).run Tryz.prog W=.ok (.enter f args) W) (hne:∀ f2,nextL t.data.toList s.2=.error f2→testL t.data.toList req F (n+1) s=.error f2)
 (hcon:∀ W y,Mod b w W→RC W b t y rv mc mt→nextL t.data.toList s.2=.ok y→Calls Tryz.prog f #[.agg #[.string (strA s.1.spelt),.int .i64 s.1.pos],.int .i64 d,.pointer (some ⟨q,0,none⟩)] W (RPost (testL t.data.toList req F (n+1) s) b t rv mc mt w (TestV (n+1) (fromB w.heap.size)))) :
 Calls Tryz.prog 222 #[.pointer (some ⟨b,0,none⟩),.map (some mt),.int .i64 d] w (RPost (testL t.data.toList req F (n+1) s) b t rv mc mt w (TestV (n+1) (fromB w.heap.size))):=by
 have h1:w.cell? ⟨b,1,none⟩=some (.int .i64 s.1.kind):=h.at_.cell 1
 have h2:w.cell? ⟨b,2,none⟩=some (.int .i64 s.1.pos):=h.at_.cell 2
 have h3:w.cell? ⟨b,3,none⟩=some (.string (strA s.1.spelt)):=h.at_.cell 3
 have hlk:=ht.look w s.1.spelt rfl
 rw [hfn] at hlk
 have H:=hide h
 have HU:=hide (mayUse_any s.1.spelt req b t s rv mc mt w h hr)
 rw [hu] at HU
 have HNE:=hide hne
 have HCON:=hide hcon
 have hlt:=h.at_.lt
 clear h ht hr hfn hu hne hcon
 simp only [Option.getD_some,Option.isSome_some] at hlk
 have hk':((s.1.kind:Int) != 1)=false:=by simp;omega
 clear hk1
 go_enter Tryz.func222,Tryz.ntmps222
 go_wp2_with fail
 refine (demand_yes b _ _ _ rfl).mono ?_
 rintro e w' ⟨rfl,hww⟩
 subst w'
 go_wp2_with fail
 refine (demand_yes b _ _ _ rfl).mono ?_
 rintro e w' ⟨rfl,hww⟩
 subst w'
 go_wp2_with fail
 refine HU.out.mono ?_
 rintro e w' ⟨rfl,hww⟩
 subst w'
 go_wp2_with fail
 refine (demand_yes b _ _ _ rfl).mono ?_
 rintro e w' ⟨rfl,hww⟩
 subst w'
 clear HU hlk
 go_wp2_with fail
 go_region
 all_goals go_wp2_with fail
 all_goals
  refine (next_rc b t s rv mc mt _ ((H.out.alloc _).drew)).mono ?_
  rintro e w2 (⟨y,hy,rfl,hc,hm⟩ | ⟨f2,hf2,⟨bb,hz,rfl,hcc⟩,hm⟩)
 all_goals first
  | exact ⟨rfl,RPost.err (HNE.out _ hf2) (((Mod.refl b w).alloc _).trans (mod_drew hm)) ⟨bb,by simp at hz;omega,rfl,hcc⟩⟩
  | skip
 all_goals
  obtain ⟨hh0,hh1,hmw⟩:=after_alloc hm hlt
  have HM:=hide hmw
  have HC:=hide hc
  have HCN:=hide (HCON.out _ y hmw hc hy)
  clear hm hc hy hmw
  go_wp2_with fail
  refine HCN.out.mono ?_
  intro e w3 h3'
  have HQ:=hide h3'
  clear h3'
  rcases HQ.out.cases with ⟨q,v,hq,rfl,hv,hc3,hm3⟩ | ⟨f3,hf3,⟨bb,hz,rfl,hcc⟩,hm3⟩
 all_goals first
  | exact ⟨rfl,RPost.err hf3 hm3 ⟨bb,hz,rfl,hcc⟩⟩
  | skip
 all_goals
  have HQ2:=hide (RPost.ok hq hm3 hv hc3)
  clear hq hm3 hv hc3 HQ
  go_wp2
  go_ret
  exact HQ2.out
theorem beginT_m (f:FuncId) (n:Nat) (req:List (List UInt8)) (d:Int) (b F:Nat) (t:ByteArray) (s:PS) (rv:Value) (mc mt pr pt pf:Nat) (w:World) (h:RC w b t s rv mc mt) (ht:TMap w b mt pr pt pf) (hr:ReqV w b rv req) (hd0:0≤d) (hd:d≤6) (hk1:s.1.kind=1) (hu:useOk req s.1.spelt=true)
 (hfn:testFn b pr pt pf s.1.spelt=some (.func (.func f) #[.pointer (some ⟨b,0,none⟩)] #[])) (hcf:∀ args W,(callFunc f args).run Tryz.prog W=.ok (.enter f args) W) (hne:∀ f2,nextL t.data.toList s.2=.error f2→testL t.data.toList req F (n+1) s=.error f2)
 (hcon:∀ W y,Mod b w W→RC W b t y rv mc mt→nextL t.data.toList s.2=.ok y→Calls Tryz.prog f #[.pointer (some ⟨b,0,none⟩),.agg #[.string (strA s.1.spelt),.int .i64 s.1.pos],.int .i64 d] W (RPost (testL t.data.toList req F (n+1) s) b t rv mc mt w (TestV (n+1) (fromB w.heap.size)))) :
 Calls Tryz.prog 222 #[.pointer (some ⟨b,0,none⟩),.map (some mt),.int .i64 d] w (RPost (testL t.data.toList req F (n+1) s) b t rv mc mt w (TestV (n+1) (fromB w.heap.size))):=by
 have h1:w.cell? ⟨b,1,none⟩=some (.int .i64 s.1.kind):=h.at_.cell 1
 have h2:w.cell? ⟨b,2,none⟩=some (.int .i64 s.1.pos):=h.at_.cell 2
 have h3:w.cell? ⟨b,3,none⟩=some (.string (strA s.1.spelt)):=h.at_.cell 3
 have hlk:=ht.look w s.1.spelt rfl
 rw [hfn] at hlk
 have H:=hide h
 have HU:=hide (mayUse_any s.1.spelt req b t s rv mc mt w h hr)
 rw [hu] at HU
 have HNE:=hide hne
 have HCON:=hide hcon
 have hlt:=h.at_.lt
 clear h ht hr hfn hu hne hcon
 simp only [Option.getD_some,Option.isSome_some] at hlk
 have hk':((s.1.kind:Int) != 1)=false:=by simp;omega
 clear hk1
 go_enter Tryz.func222,Tryz.ntmps222
 go_wp2_with fail
 refine (demand_yes b _ _ _ rfl).mono ?_
 rintro e w' ⟨rfl,hww⟩
 subst w'
 go_wp2_with fail
 refine (demand_yes b _ _ _ rfl).mono ?_
 rintro e w' ⟨rfl,hww⟩
 subst w'
 go_wp2_with fail
 refine HU.out.mono ?_
 rintro e w' ⟨rfl,hww⟩
 subst w'
 go_wp2_with fail
 refine (demand_yes b _ _ _ rfl).mono ?_
 rintro e w' ⟨rfl,hww⟩
 subst w'
 clear HU hlk
 go_wp2_with fail
 go_region
 all_goals go_wp2_with fail
 all_goals
  refine (next_rc b t s rv mc mt _ ((H.out.alloc _).drew)).mono ?_
  rintro e w2 (⟨y,hy,rfl,hc,hm⟩ | ⟨f2,hf2,⟨bb,hz,rfl,hcc⟩,hm⟩)
 all_goals first
  | exact ⟨rfl,RPost.err (HNE.out _ hf2) (((Mod.refl b w).alloc _).trans (mod_drew hm)) ⟨bb,by simp at hz;omega,rfl,hcc⟩⟩
  | skip
 all_goals
  obtain ⟨hh0,hh1,hmw⟩:=after_alloc hm hlt
  have HM:=hide hmw
  have HC:=hide hc
  have HCN:=hide (HCON.out _ y hmw hc hy)
  clear hm hc hy hmw
  go_wp2_with fail
  refine HCN.out.mono ?_
  intro e w3 h3'
  have HQ:=hide h3'
  clear h3'
  rcases HQ.out.cases with ⟨q,v,hq,rfl,hv,hc3,hm3⟩ | ⟨f3,hf3,⟨bb,hz,rfl,hcc⟩,hm3⟩
 all_goals first
  | exact ⟨rfl,RPost.err hf3 hm3 ⟨bb,hz,rfl,hcc⟩⟩
  | skip
 all_goals
  have HQ2:=hide (RPost.ok hq hm3 hv hc3)
  clear hq hm3 hv hc3 HQ
  go_wp2
  go_ret
  exact HQ2.out
end
section
open Go.RowKit
theorem testNames_letter:∀ z∈testNames,∀ c r,z=c :: r→isLetN c.toNat=true:=by
 intro z hz c r e
 simp [testNames] at hz
 rcases hz with h | h | h | h | h | h | h | h | h | h <;> subst h <;> cases e <;> decide
theorem testNames_ne:∀ z∈testNames,z≠[]:=by decide
theorem whichL_mem {zs:List (List UInt8)} {x:List UInt8} (h:¬ whichL zs x=0):x∈zs:=by
 obtain ⟨i,hi⟩:∃ i,whichL zs x=i+1:=⟨whichL zs x - 1,by omega⟩
 exact List.mem_of_getElem? (whichL_get zs x i hi)
theorem test_kind {s:PS} (hn:¬ s.1.kind=1→NoName s.1.spelt) (h:¬ whichL testNames s.1.spelt=0):s.1.kind=1:=by
 apply Classical.byContradiction
 intro hk
 have hm:=whichL_mem h
 have hne:=testNames_ne _ hm
 cases hsp:s.1.spelt with
 | nil=>exact hne hsp
 | cons c r=>
  have h1:=testNames_letter _ hm c r hsp
  have h2:=hn hk c r hsp
  rw [h1] at h2
  cases h2
theorem beginT_nouse (fv:Value) (req:List (List UInt8)) (d:Int) (b:Nat) (t:ByteArray) (s:PS) (rv:Value) (mc mt pr pt pf:Nat) (w:World) (h:RC w b t s rv mc mt) (ht:TMap w b mt pr pt pf) (hr:ReqV w b rv req) (hd:d≤6) (hk1:s.1.kind=1) (hf:testFn b pr pt pf s.1.spelt=some fv) (hu:useOk req s.1.spelt=false) :
 Calls Tryz.prog 222 #[.pointer (some ⟨b,0,none⟩),.map (some mt),.int .i64 d] w fun e w'=>Threw ⟨6,s.1.pos⟩ w e w'∧Mod b w w':=by
 have h1:w.cell? ⟨b,1,none⟩=some (.int .i64 s.1.kind):=h.at_.cell 1
 have h3:w.cell? ⟨b,3,none⟩=some (.string (strA s.1.spelt)):=h.at_.cell 3
 have hlk:=ht.look w s.1.spelt rfl
 rw [hf] at hlk
 have H:=hide h
 have HU:=hide (mayUse_any s.1.spelt req b t s rv mc mt w h hr)
 rw [hu] at HU
 clear h ht hr hf hu
 simp only [Option.getD_some,Option.isSome_some] at hlk
 have hk':((s.1.kind:Int) != 1)=false:=by simp;omega
 clear hk1
 go_enter Tryz.func222,Tryz.ntmps222
 go_wp2_with fail
 refine (demand_yes b _ _ _ rfl).mono ?_
 rintro e w' ⟨rfl,hww⟩
 subst w'
 go_wp2_with fail
 refine (demand_yes b _ _ _ rfl).mono ?_
 rintro e w' ⟨rfl,hww⟩
 subst w'
 go_wp2_with fail
 refine HU.out.mono ?_
 rintro e w' ⟨rfl,hww⟩
 subst w'
 go_wp2_with fail
 refine (demand_no b 6 _ _ t s.1 s.2 rv mc mt _ H.out.at_ rfl rfl).mono ?_
 rintro e w1 ⟨⟨bb,hz,rfl,hcc⟩,hm⟩
 exact ⟨rfl,⟨bb,hz,rfl,hcc⟩,Mod.of_below hm⟩
theorem beginT_deep (b:Nat) (t:ByteArray) (s:PS) (rv:Value) (mc mt pr pt pf:Nat) (w:World) (h:RC w b t s rv mc mt) (ht:TMap w b mt pr pt pf) :
 Calls Tryz.prog 222 #[.pointer (some ⟨b,0,none⟩),.map (some mt),.int .i64 7] w fun e w'=>Threw ⟨if s.1.kind=1 then 5 else 4,s.1.pos⟩ w e w'∧Mod b w w':=by
 have h1:w.cell? ⟨b,1,none⟩=some (.int .i64 s.1.kind):=h.at_.cell 1
 have h3:w.cell? ⟨b,3,none⟩=some (.string (strA s.1.spelt)):=h.at_.cell 3
 have hlk:=ht.look w s.1.spelt rfl
 have H:=hide h
 by_cases hk:s.1.kind=1
 ·rw [if_pos hk]
  have hk':((s.1.kind:Int) != 1)=false:=by simp;omega
  clear hk h ht hlk
  go_enter Tryz.func222,Tryz.ntmps222
  go_wp2_with fail
  refine (demand_no b 5 _ _ t s.1 s.2 rv mc mt _ H.out.at_ rfl rfl).mono ?_
  rintro e w1 ⟨⟨bb,hz,rfl,hcc⟩,hm⟩
  exact ⟨rfl,⟨bb,hz,rfl,hcc⟩,Mod.of_below hm⟩
 ·rw [if_neg hk]
  have h0:whichL testNames s.1.spelt=0:=by
   apply Classical.byContradiction
   intro h0
   exact hk (test_kind h.nm h0)
  rw [testFn_none h0] at hlk
  have hk':((s.1.kind:Int) != 1)=true:=by simp;omega
  clear hk h ht h0
  simp only [Option.getD_none,Option.isSome_none] at hlk
  go_enter Tryz.func222,Tryz.ntmps222
  go_wp2_with fail
  refine (demand_yes b _ _ _ rfl).mono ?_
  rintro e w' ⟨rfl,hww⟩
  subst w'
  go_wp2_with fail
  refine (demand_no b 4 _ _ t s.1 s.2 rv mc mt _ H.out.at_ rfl rfl).mono ?_
  rintro e w1 ⟨⟨bb,hz,rfl,hcc⟩,hm⟩
  exact ⟨rfl,⟨bb,hz,rfl,hcc⟩,Mod.of_below hm⟩
theorem testFn_some {b pr pt pf:Nat} {x:List UInt8} (h:¬ whichL testNames x=0):∃ fv,testFn b pr pt pf x=some fv:=by
 have hle:=whichL_le testNames x
 have hl:testNames.length=10:=rfl
 unfold testFn
 generalize whichL testNames x=i at *
 rcases (by omega:i=1∨i=2∨i=3∨i=4∨i=5∨i=6∨i=7∨i=8∨i=9∨i=10) with h | h | h | h | h | h | h | h | h | h <;> subst h <;> exact ⟨_,rfl⟩
theorem beginT_any (n:Nat) (req:List (List UInt8)) (d:Int) (b F:Nat) (t:ByteArray) (s:PS) (rv:Value) (mc mt pr pt pf:Nat) (w:World) (h:RC w b t s rv mc mt) (ht:TMap w b mt pr pt pf) (hr:ReqV w b rv req) (hF:2*t.size+1 < F) (hd0:0≤d) (hd:d≤6) (hS:SubMu t.size (testL t.data.toList req F n)) (ho:SubOk 186 w b t rv mc mt (d+1) (testL t.data.toList req F n) (TestV n)) :
 Calls Tryz.prog 222 #[.pointer (some ⟨b,0,none⟩),.map (some mt),.int .i64 d] w (RPost (testL t.data.toList req F (n+1) s) b t rv mc mt w (TestV (n+1) (fromB w.heap.size))):=by
 by_cases h0:whichL testNames s.1.spelt=0
 ·refine (beginT_unknown d b t s rv mc mt pr pt pf w h ht hd h0).mono ?_
  rintro e w1 ⟨h1,h2⟩
  exact RPost.err (by rw [testL,if_pos h0]) h2 h1
 have hk1:=test_kind h.nm h0
 cases hu:useOk req s.1.spelt
 ·obtain ⟨fv,hf⟩:=testFn_some (b:=b) (pr:=pr) (pt:=pt) (pf:=pf) h0
  refine (beginT_nouse fv req d b t s rv mc mt pr pt pf w h ht hr hd hk1 hf hu).mono ?_
  rintro e w1 ⟨h1,h2⟩
  exact RPost.err (by rw [testL,if_neg h0,if_neg (by rw [hu];decide)]) h2 h1
 have hle:=whichL_le testNames s.1.spelt
 have hl:testNames.length=10:=rfl
 rcases (by omega:whichL testNames s.1.spelt=0+1∨whichL testNames s.1.spelt=1+1∨whichL testNames s.1.spelt=2+1∨whichL testNames s.1.spelt=3+1∨whichL testNames s.1.spelt=4+1∨whichL testNames s.1.spelt=5+1∨whichL testNames s.1.spelt=6+1∨whichL testNames s.1.spelt=7+1∨whichL testNames s.1.spelt=8+1∨whichL testNames s.1.spelt=9+1) with hi | hi | hi | hi | hi | hi | hi | hi | hi | hi
 ·refine beginT_c 185 pt n req d b F t s rv mc mt pr pt pf w h ht hr hd0 hd hk1 hu (by unfold testFn;rw [hi];rfl) (fun _ _=>by kernel_rfl) (fun f2 hf2=>testL_nextErr hi hu hf2) (fun W y HM HC hy=>?_)
  have hsp:s.1.spelt=kTrue:=by have:=whichL_get _ _ _ hi;simpa [testNames] using this.symm
  have HE:=testL_body (F:=F) (n:=n) hi hu hy
  refine (truth1_any s.1.spelt s.1.pos d pt true _ (ht.mod HM).hpt).mono ?_
  intro e w3 h3'
  obtain ⟨rfl,hb⟩:=h3'
  exact RPost.ok (HE.trans (testBody_0 _ _ _ _ _)) (HM.trans (Mod.of_below hb)) ⟨rfl,by rw [hsp]⟩ (HC.below hb)
 ·refine beginT_c 185 pf n req d b F t s rv mc mt pr pt pf w h ht hr hd0 hd hk1 hu (by unfold testFn;rw [hi];rfl) (fun _ _=>by kernel_rfl) (fun f2 hf2=>testL_nextErr hi hu hf2) (fun W y HM HC hy=>?_)
  have hsp:s.1.spelt=kFalse:=by have:=whichL_get _ _ _ hi;simpa [testNames] using this.symm
  have HE:=testL_body (F:=F) (n:=n) hi hu hy
  refine (truth1_any s.1.spelt s.1.pos d pf false _ (ht.mod HM).hpf).mono ?_
  intro e w3 h3'
  obtain ⟨rfl,hb⟩:=h3'
  exact RPost.ok (HE.trans (testBody_1 _ _ _ _ _)) (HM.trans (Mod.of_below hb)) ⟨rfl,by rw [hsp]⟩ (HC.below hb)
 ·refine beginT_m 128 n req d b F t s rv mc mt pr pt pf w h ht hr hd0 hd hk1 hu (by unfold testFn;rw [hi];rfl) (fun _ _=>by kernel_rfl) (fun f2 hf2=>testL_nextErr hi hu hf2) (fun W y HM HC hy=>?_)
  have hsp:s.1.spelt=kNot:=by have:=whichL_get _ _ _ hi;simpa [testNames] using this.symm
  have HE:=testL_body (F:=F) (n:=n) hi hu hy
  refine (not_any (testL t.data.toList req F n) (TestV n) s.1.spelt s.1.pos d b t y rv mc mt _ HC hd0 (by omega) (testV_tree n) (ho.mod HM)).mono ?_
  intro e w3 h3'
  exact RPost.lift (fun a=>((⟨2,s.1.pos,0,false,[],[],0⟩:TLab),[a])) h3' HM (fun q hq=>HE.trans ((testBody_2 _ _ _ _ _).trans (thenL_ok hq))) (fun f hf=>HE.trans ((testBody_2 _ _ _ _ _).trans (thenL_err hf))) (fun a v _ hv=>by obtain ⟨u,rfl,hu⟩:=hv;exact ⟨a.1,u,rfl,by rw [hsp],(testV_tree n).weak _ _ _ _ _ hu (fun k hk _=>Nat.le_trans HM.size hk)⟩)
 ·refine beginT_c 129 pr n req d b F t s rv mc mt pr pt pf w h ht hr hd0 hd hk1 hu (by unfold testFn;rw [hi];rfl) (fun _ _=>by kernel_rfl) (fun f2 hf2=>testL_nextErr hi hu hf2) (fun W y HM HC hy=>?_)
  have hsp:s.1.spelt=kAllof:=by have:=whichL_get _ _ _ hi;simpa [testNames] using this.symm
  have HE:=testL_body (F:=F) (n:=n) hi hu hy
  refine (allof_any (testL t.data.toList req F n) (TestV n) s.1.spelt s.1.pos d pr b F t y rv mc mt _ HC (ht.mod HM).hpr hF hd0 (by omega) (testV_tree n) hS (ho.mod HM)).mono ?_
  intro e w3 h3'
  exact RPost.lift (fun xs=>((⟨3,s.1.pos,0,false,[],[],0⟩:TLab),xs)) h3' HM (fun q hq=>HE.trans ((testBody_3 _ _ _ _ _).trans (thenL_ok hq))) (fun f hf=>HE.trans ((testBody_3 _ _ _ _ _).trans (thenL_err hf))) (fun a v _ hv=>by obtain ⟨u,rfl,hu,hne⟩:=hv;exact ⟨u,by rw [hsp],trX.weak (testV_tree n) hne hu (fun k hk _=>Nat.le_trans HM.size hk),hne⟩)
 ·refine beginT_c 131 pr n req d b F t s rv mc mt pr pt pf w h ht hr hd0 hd hk1 hu (by unfold testFn;rw [hi];rfl) (fun _ _=>by kernel_rfl) (fun f2 hf2=>testL_nextErr hi hu hf2) (fun W y HM HC hy=>?_)
  have hsp:s.1.spelt=kAnyof:=by have:=whichL_get _ _ _ hi;simpa [testNames] using this.symm
  have HE:=testL_body (F:=F) (n:=n) hi hu hy
  refine (anyof_any (testL t.data.toList req F n) (TestV n) s.1.spelt s.1.pos d pr b F t y rv mc mt _ HC (ht.mod HM).hpr hF hd0 (by omega) (testV_tree n) hS (ho.mod HM)).mono ?_
  intro e w3 h3'
  exact RPost.lift (fun xs=>((⟨4,s.1.pos,0,false,[],[],0⟩:TLab),xs)) h3' HM (fun q hq=>HE.trans ((testBody_4 _ _ _ _ _).trans (thenL_ok hq))) (fun f hf=>HE.trans ((testBody_4 _ _ _ _ _).trans (thenL_err hf))) (fun a v _ hv=>by obtain ⟨u,rfl,hu,hne⟩:=hv;exact ⟨u,by rw [hsp],trX.weak (testV_tree n) hne hu (fun k hk _=>Nat.le_trans HM.size hk),hne⟩)
 ·refine beginT_c 132 pr n req d b F t s rv mc mt pr pt pf w h ht hr hd0 hd hk1 hu (by unfold testFn;rw [hi];rfl) (fun _ _=>by kernel_rfl) (fun f2 hf2=>testL_nextErr hi hu hf2) (fun W y HM HC hy=>?_)
  have hsp:s.1.spelt=kHeader:=by have:=whichL_get _ _ _ hi;simpa [testNames] using this.symm
  have HE:=testL_body (F:=F) (n:=n) hi hu hy
  refine (header_any s.1.spelt s.1.pos d pr b F t y rv mc mt _ HC (ht.mod HM).hpr hF).mono ?_
  intro e w3 h3'
  exact RPost.lift (fun x=>(x,[])) h3' HM (fun q hq=>HE.trans ((testBody_5 _ _ _ _ _).trans (thenL_ok hq))) (fun f hf=>HE.trans ((testBody_5 _ _ _ _ _).trans (thenL_err hf))) (fun a v ha hv=>by
   obtain ⟨u,rfl,hu⟩:=hv
   rw [hsp] at hu
   show tnode _ _ _ _ _
   unfold tnode
   rw [(matchL_kind ha).1]
   exact ⟨rfl,u,rfl,hu.toX.weak (fun k hk _=>Nat.le_trans HM.size hk)⟩)
 ·refine beginT_c 135 pr n req d b F t s rv mc mt pr pt pf w h ht hr hd0 hd hk1 hu (by unfold testFn;rw [hi];rfl) (fun _ _=>by kernel_rfl) (fun f2 hf2=>testL_nextErr hi hu hf2) (fun W y HM HC hy=>?_)
  have hsp:s.1.spelt=kEnvelope:=by have:=whichL_get _ _ _ hi;simpa [testNames] using this.symm
  have HE:=testL_body (F:=F) (n:=n) hi hu hy
  refine (envelope_any s.1.spelt s.1.pos d pr b F t y rv mc mt _ HC (ht.mod HM).hpr hF).mono ?_
  intro e w3 h3'
  exact RPost.lift (fun x=>(x,[])) h3' HM (fun q hq=>HE.trans ((testBody_6 _ _ _ _ _).trans (thenL_ok hq))) (fun f hf=>HE.trans ((testBody_6 _ _ _ _ _).trans (thenL_err hf))) (fun a v ha hv=>by
   obtain ⟨u,rfl,hu⟩:=hv
   rw [hsp] at hu
   show tnode _ _ _ _ _
   unfold tnode
   rw [(matchL_kind ha).1]
   exact ⟨rfl,u,rfl,hu.toX.weak (fun k hk _=>Nat.le_trans HM.size hk)⟩)
 ·refine beginT_c 138 pr n req d b F t s rv mc mt pr pt pf w h ht hr hd0 hd hk1 hu (by unfold testFn;rw [hi];rfl) (fun _ _=>by kernel_rfl) (fun f2 hf2=>testL_nextErr hi hu hf2) (fun W y HM HC hy=>?_)
  have hsp:s.1.spelt=kString:=by have:=whichL_get _ _ _ hi;simpa [testNames] using this.symm
  have HE:=testL_body (F:=F) (n:=n) hi hu hy
  refine (stringt_any s.1.spelt s.1.pos d pr b F t y rv mc mt _ HC (ht.mod HM).hpr hF).mono ?_
  intro e w3 h3'
  exact RPost.lift (fun x=>(x,[])) h3' HM (fun q hq=>HE.trans ((testBody_7 _ _ _ _ _).trans (thenL_ok hq))) (fun f hf=>HE.trans ((testBody_7 _ _ _ _ _).trans (thenL_err hf))) (fun a v ha hv=>by
   obtain ⟨u,rfl,hu⟩:=hv
   rw [hsp] at hu
   show tnode _ _ _ _ _
   unfold tnode
   rw [(matchL_kind ha).1]
   exact ⟨rfl,u,rfl,hu.toX.weak (fun k hk _=>Nat.le_trans HM.size hk)⟩)
 ·refine beginT_m 139 n req d b F t s rv mc mt pr pt pf w h ht hr hd0 hd hk1 hu (by unfold testFn;rw [hi];rfl) (fun _ _=>by kernel_rfl) (fun f2 hf2=>testL_nextErr hi hu hf2) (fun W y HM HC hy=>?_)
  have hsp:s.1.spelt=kExists:=by have:=whichL_get _ _ _ hi;simpa [testNames] using this.symm
  have HE:=testL_body (F:=F) (n:=n) hi hu hy
  refine (exists_any s.1.spelt s.1.pos d b F t y rv mc mt _ HC hF).mono ?_
  intro e w3 h3'
  exact RPost.lift (fun xs=>((⟨8,s.1.pos,0,false,xs,[],0⟩:TLab),[])) h3' HM (fun q hq=>HE.trans ((testBody_8 _ _ _ _ _).trans (thenL_ok hq))) (fun f hf=>HE.trans ((testBody_8 _ _ _ _ _).trans (thenL_err hf))) (fun a v _ hv=>by obtain ⟨u,rfl,hu⟩:=hv;exact ⟨rfl,u,by rw [hsp],hu.toX.weak (fun k hk _=>Nat.le_trans HM.size hk)⟩)
 ·refine beginT_m 140 n req d b F t s rv mc mt pr pt pf w h ht hr hd0 hd hk1 hu (by unfold testFn;rw [hi];rfl) (fun _ _=>by kernel_rfl) (fun f2 hf2=>testL_nextErr hi hu hf2) (fun W y HM HC hy=>?_)
  have hsp:s.1.spelt=kSize:=by have:=whichL_get _ _ _ hi;simpa [testNames] using this.symm
  have HE:=testL_body (F:=F) (n:=n) hi hu hy
  refine (size_any s.1.spelt s.1.pos d b t y rv mc mt _ HC).mono ?_
  intro e w3 h3'
  exact RPost.lift (fun x=>(x,[])) h3' HM (fun q hq=>HE.trans ((testBody_9 _ _ _ _ _).trans (thenL_ok hq))) (fun f hf=>HE.trans ((testBody_9 _ _ _ _ _).trans (thenL_err hf))) (fun a v ha hv=>by
   rw [hsp] at hv
   show tnode _ _ _ _ _
   unfold tnode
   rw [(sizeL_kind ha).1]
   refine ⟨rfl,?_⟩
   rw [hv,(sizeL_kind ha).2])
theorem test_call {α:Type} (r:Except Flt (α×PS)) (val:α→World→Value→Prop) (d:Int) (b:Nat) (t:ByteArray) (s:PS) (rv:Value) (mc mt:Nat) (w:World) (h:RC w b t s rv mc mt)
 (hb:Calls Tryz.prog 222 #[.pointer (some ⟨b,0,none⟩),.map (some mt),.int .i64 d] w (RPost r b t rv mc mt w val)) :
 Calls Tryz.prog 186 #[.pointer (some ⟨b,0,none⟩),.int .i64 d] w (RPost r b t rv mc mt w val):=by
 have h9:w.cell? ⟨b,9,none⟩=some (.map (some mt)):=h.at_.cell 9
 have HB:=hide hb
 clear hb h
 go_enter Tryz.func186,Tryz.ntmps186
 go_wp2_with fail
 refine HB.out.mono ?_
 intro e w1 h1
 rcases h1.cases with ⟨q,v,hq,rfl,hv,hc3,hm3⟩ | ⟨f3,hf3,⟨bb,hz,rfl,hcc⟩,hm3⟩
 ·have HQ:=hide (RPost.ok hq hm3 hv hc3)
  clear h1 hq hm3 hv hc3
  go_wp2
  go_ret
  exact HQ.out
 ·exact ⟨rfl,RPost.err hf3 hm3 ⟨bb,hz,rfl,hcc⟩⟩
theorem test_any (req:List (List UInt8)) (b F:Nat) (t:ByteArray) (rv:Value) (mc mt pr pt pf:Nat) (hF:2*t.size+1 < F) (hS:∀ n,SubMu t.size (testL t.data.toList req F n)) :
 ∀ (n:Nat),n≤7→∀ (w:World),TMap w b mt pr pt pf→ReqV w b rv req→SubOk 186 w b t rv mc mt (7 - (n:Int)) (testL t.data.toList req F n) (TestV n)
 | 0,_,w,ht,hr=>fun W s hm hc=>by
  refine test_call _ _ _ b t s rv mc mt W hc ?_
  refine (beginT_deep b t s rv mc mt pr pt pf W hc (ht.mod hm)).mono ?_
  rintro e w1 ⟨h1,h2⟩
  refine RPost.err ?_ h2 h1
  rw [testL]
  split <;> rfl
 | n+1,hn,w,ht,hr=>fun W s hm hc=>by
  refine test_call _ _ _ b t s rv mc mt W hc ?_
  have ih:=test_any req b F t rv mc mt pr pt pf hF hS n (by omega) W (ht.mod hm) (hr.mod hm)
  have e:(7:Int) - ((n+1:Nat):Int)+1=7 - (n:Int):=by omega
  exact beginT_any n req _ b F t s rv mc mt pr pt pf W hc (ht.mod hm) (hr.mod hm) hF (by omega) (by omega) (hS n) (by rw [e];exact ih)
end
section
open Go.RowKit
theorem test_mu (t:ByteArray) (req:List (List UInt8)) (F n:Nat):SubMu t.size (testL t.data.toList req F n):=fun s y h1 h2 e=>by
 have:=(test_dn n s ⟨by simpa using h1,h2⟩ y e).2
 rw [bal] at this
 omega
theorem cmd_mu (t:ByteArray) (req:List (List UInt8)) (F n:Nat):SubMu t.size (cmdL t.data.toList req F n):=fun s y h1 h2 e=>by
 have:=(cmd_dn n s ⟨by simpa using h1,h2⟩ y e).2
 rw [bal] at this
 omega
theorem test_ok (req:List (List UInt8)) (b F:Nat) (t:ByteArray) (rv:Value) (mc mt pr pt pf:Nat) (hF:2*t.size+1 < F) (n:Nat) (hn:n≤7) (w:World) (ht:TMap w b mt pr pt pf) (hr:ReqV w b rv req) :
 SubOk 186 w b t rv mc mt (7 - (n:Int)) (testL t.data.toList req F n) (TestV n):=
 test_any req b F t rv mc mt pr pt pf hF (test_mu t req F) n hn w ht hr
end
end Go.Proofs.YtgnkjijocdmniaaGreatDoor
