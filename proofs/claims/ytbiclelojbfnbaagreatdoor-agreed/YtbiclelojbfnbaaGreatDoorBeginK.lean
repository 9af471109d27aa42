import Derived.BigRegion
import Derived.Test.YtbiclelojbfnbaaGreatDoorZCMatch
namespace Go.Proofs.YtbiclelojbfnbaaGreatDoor
set_option linter.unusedVariables false
set_option linter.unusedSimpArgs false
set_option maxRecDepth 100000
set_option maxHeartbeats 4000000
open Go.RowKit
attribute [local go_sem ↓] Go.wp_at_zero Go.wp_at_succ
theorem whichL_get:∀ (zs:List (List UInt8)) (x:List UInt8) (i:Nat),whichL zs x=i+1→zs[i]?=some x
 | [],x,i,h=>by simp [whichL] at h
 | s :: r,x,i,h=>by
  unfold whichL at h
  split at h
  ·rename_i e
   have:i=0:=by omega
   subst this;subst e;rfl
  ·split at h
   ·omega
   ·rename_i h1 h2
    obtain ⟨j,hj⟩:∃ j,whichL r x=j+1:=⟨whichL r x - 1,by omega⟩
    have hi:i=j+1:=by omega
    subst hi
    have:=whichL_get r x j hj
    simpa using this
theorem RPost.lift {α β:Type} {r:Except Flt (α×PS)} {R:Except Flt (β×PS)} {b:Nat} {t:ByteArray} {rv:Value} {mc mt:Nat} {w W w':World} {val:α→World→Value→Prop} {val':β→World→Value→Prop} {e:Ending} (g:α→β) (h:RPost r b t rv mc mt W val e w') (hm:Mod b w W) (hok:∀ y,r=.ok y→R=.ok (g y.1,y.2)) (herr:∀ f,r=.error f→R=.error f) (hval:∀ y v,r=.ok y→val y.1 w' v→val' (g y.1) w' v):RPost R b t rv mc mt w val' e w':=by
 rcases h.cases with ⟨y,v,hy,rfl,hv,hc,hm'⟩ | ⟨f,hf,ht,hm'⟩
 ·exact RPost.ok (hok y hy) (hm.trans hm') (hval _ _ hy hv) hc
 ·exact RPost.err (herr f hf) (hm.trans hm') (ht.up hm.size)
theorem testL_nextErr {l:List UInt8} {req:List (List UInt8)} {F n k:Nat} {s:PS} {f:Flt} (hi:whichL testNames s.1.spelt=k+1) (hu:useOk req s.1.spelt=true) (hn:nextL l s.2=.error f):testL l req F (n+1) s=.error f:=by
 rw [testL,if_neg (by omega),if_pos hu];exact nextThen_err hn
theorem testL_body {l:List UInt8} {req:List (List UInt8)} {F n k:Nat} {s y:PS} (hi:whichL testNames s.1.spelt=k+1) (hu:useOk req s.1.spelt=true) (hn:nextL l s.2=.ok y):testL l req F (n+1) s=testBody l F (testL l req F n) k s.1.pos y:=by
 rw [testL,if_neg (by omega),if_pos hu]
 refine (nextThen_ok hn).trans ?_
 show testBody l F (testL l req F n) (whichL testNames s.1.spelt - 1) s.1.pos y=_
 rw [hi]
 rfl
theorem testBody_2 {α:Type} (l:List UInt8) (F:Nat) (sub:PS→Except Flt (α×PS)) (pos:Nat) (s:PS):testBody l F sub 2 pos s=thenL (sub s) fun t s1=>.ok ((⟨2,pos,0,false,[],[],0⟩,[t]),s1):=rfl
theorem testBody_0 {α:Type} (l:List UInt8) (F:Nat) (sub:PS→Except Flt (α×PS)) (pos:Nat) (s:PS):testBody l F sub 0 pos s=.ok ((⟨0,pos,0,false,[],[],0⟩,[]),s):=rfl
theorem testBody_1 {α:Type} (l:List UInt8) (F:Nat) (sub:PS→Except Flt (α×PS)) (pos:Nat) (s:PS):testBody l F sub 1 pos s=.ok ((⟨1,pos,0,false,[],[],0⟩,[]),s):=rfl
theorem testBody_3 {α:Type} (l:List UInt8) (F:Nat) (sub:PS→Except Flt (α×PS)) (pos:Nat) (s:PS):testBody l F sub 3 pos s=thenL (groupL l F sub s) fun ts s1=>.ok ((⟨3,pos,0,false,[],[],0⟩,ts),s1):=rfl
theorem testBody_4 {α:Type} (l:List UInt8) (F:Nat) (sub:PS→Except Flt (α×PS)) (pos:Nat) (s:PS):testBody l F sub 4 pos s=thenL (groupL l F sub s) fun ts s1=>.ok ((⟨4,pos,0,false,[],[],0⟩,ts),s1):=rfl
theorem testBody_5 {α:Type} (l:List UInt8) (F:Nat) (sub:PS→Except Flt (α×PS)) (pos:Nat) (s:PS):testBody l F sub 5 pos s=thenL (matchL l F (fun _=>0) 5 pos s) fun x s1=>.ok ((x,[]),s1):=rfl
theorem testBody_6 {α:Type} (l:List UInt8) (F:Nat) (sub:PS→Except Flt (α×PS)) (pos:Nat) (s:PS):testBody l F sub 6 pos s=thenL (matchL l F (chkSmall (chkOne 7 [kFrom,kTo])) 6 pos s) fun x s1=>.ok ((x,[]),s1):=rfl
theorem testBody_7 {α:Type} (l:List UInt8) (F:Nat) (sub:PS→Except Flt (α×PS)) (pos:Nat) (s:PS):testBody l F sub 7 pos s=thenL (matchL l F (fun _=>0) 7 pos s) fun x s1=>.ok ((x,[]),s1):=rfl
theorem testBody_8 {α:Type} (l:List UInt8) (F:Nat) (sub:PS→Except Flt (α×PS)) (pos:Nat) (s:PS):testBody l F sub 8 pos s=thenL (stringsL l (fun _=>0) F s) fun xs s1=>.ok ((⟨8,pos,0,false,xs,[],0⟩,[]),s1):=rfl
theorem testBody_9 {α:Type} (l:List UInt8) (F:Nat) (sub:PS→Except Flt (α×PS)) (pos:Nat) (s:PS):testBody l F sub 9 pos s=thenL (sizeL l pos s) fun x s1=>.ok ((x,[]),s1):=rfl
theorem matchL_kind {l:List UInt8} {F:Nat} {chk:List UInt8→Nat} {k pos:Nat} {s:PS} {y:TLab×PS} (h:matchL l F chk k pos s=.ok y):y.1.kind=k∧y.1.pos=pos:=by
 unfold matchL at h
 cases h1:optL l F 0 false false s with
 | error f=>rw [thenL_err h1] at h;cases h
 | ok a=>
  rw [thenL_ok h1] at h
  cases h2:stringsL l chk F a.2 with
  | error f=>rw [thenL_err h2] at h;cases h
  | ok c=>
   rw [thenL_ok h2] at h
   cases h3:stringsL l (fun _=>0) F c.2 with
   | error f=>rw [thenL_err h3] at h;cases h
   | ok e=>rw [thenL_ok h3] at h;cases h;exact ⟨rfl,rfl⟩
theorem sizeL_kind {l:List UInt8} {pos:Nat} {s:PS} {y:TLab×PS} (h:sizeL l pos s=.ok y):y.1.kind=9∧y.1.pos=pos:=by
 unfold sizeL at h
 cases h1:passL l [tOver,tUnder] s with
 | error f=>rw [thenL_err h1] at h;cases h
 | ok a=>
  rw [thenL_ok h1] at h
  split at h
  ·cases h2:nextL l a.2.2 with
   | error f=>rw [nextThen_err h2] at h;cases h
   | ok c=>rw [nextThen_ok h2] at h;cases h;exact ⟨rfl,rfl⟩
  ·cases h
theorem mtV.toX {B:Nat} {hw:List UInt8} {x:TLab} {w:World} {v:Value} (h:mtV B hw x w v):mtX (fromB B) hw x w v:=h
theorem after_alloc {w w2:World} {b:Nat} {sp:List UInt8} {p:Nat} (hm:Mod b (w.alloc (.cells #[.string (strA sp),.int .i64 p] 266)).drew w2) (hb:b < w.heap.size):w2.cell? ⟨w.heap.size,0,none⟩=some (.string (strA sp))∧w2.cell? ⟨w.heap.size,1,none⟩=some (.int .i64 p)∧Mod b w w2:=
 ⟨(head_cells sp p (mod_drew hm) hb).1,(head_cells sp p (mod_drew hm) hb).2,((Mod.refl b w).alloc _).trans (mod_drew hm)⟩
theorem beginT_True (n:Nat) (req:List (List UInt8)) (d:Int) (b F:Nat) (t:ByteArray) (s:PS) (rv:Value) (mc mt pr pt pf:Nat) (w:World) (h:RC w b t s rv mc mt) (ht:TMap w b mt pr pt pf) (hr:ReqV w b rv req) (hF:2*t.size+1 < F) (hd0:0≤d) (hd:d≤6) (hk1:s.1.kind=1) (hS:SubMu t.size (testL t.data.toList req F n)) (ho:SubOk 252 w b t rv mc mt (d+1) (testL t.data.toList req F n) (TestV n)) (hi:whichL testNames s.1.spelt=0+1) (hu:useOk req s.1.spelt=true) :
  Calls Tryz.prog 306 #[.pointer (some ⟨b,0,none⟩),.map (some mt),.int .i64 d] w (RPost (testL t.data.toList req F (n+1) s) b t rv mc mt w (TestV (n+1) (fromB w.heap.size))):=by
 have h1:w.cell? ⟨b,1,none⟩=some (.int .i64 s.1.kind):=h.at_.cell 1
 have h2:w.cell? ⟨b,2,none⟩=some (.int .i64 s.1.pos):=h.at_.cell 2
 have h3:w.cell? ⟨b,3,none⟩=some (.string (strA s.1.spelt)):=h.at_.cell 3
 have hlk:=ht.look w s.1.spelt rfl
 have hfn:testFn b pr pt pf s.1.spelt=some (.func (.func 251) #[] #[.pointer (some ⟨pt,0,none⟩)]):=by unfold testFn;rw [hi];rfl
 rw [hfn] at hlk
 have hsp:s.1.spelt=kTrue:=by
  have:=whichL_get _ _ _ hi
  simpa [testNames] using this.symm
 have H:=hide h
 have HT:=hide ht
 have HU:=hide (mayUse_any s.1.spelt req b t s rv mc mt w h hr)
 rw [hu] at HU
 have HSP:=hide hsp
 have HI:=hide hi
 have HUU:=hide hu
 have HS:=hide hS
 have HO:=hide ho
 have hlt:=h.at_.lt
 clear h ht hr hfn hsp hi hu hS ho
 simp only [Option.getD_some,Option.isSome_some] at hlk
 have hk':((s.1.kind:Int) != 1)=false:=by simp;omega
 clear hk1
 go_enter Tryz.func306,Tryz.ntmps306
 go_wp2_with fail
 refine (demand_yes b _ _ _ rfl).mono ?_
 rintro e w' ⟨rfl,hww⟩
 subst w'
 go_wp2_with fail
 refine (demand_yes b _ _ _ rfl).mono ?_
 rintro e w' ⟨rfl,hww⟩
 subst w'
 go_wp2_with fail
 refine HU.out.mono ?_
 rintro e w' ⟨rfl,hww⟩
 subst w'
 go_wp2_with fail
 refine (demand_yes b _ _ _ rfl).mono ?_
 rintro e w' ⟨rfl,hww⟩
 subst w'
 clear HU hlk
 go_wp2_with fail
 go_region
 all_goals go_wp2_with fail
 all_goals
  refine (next_rc b t s rv mc mt _ ((H.out.alloc _).drew)).mono ?_
  rintro e w2 (⟨y,hy,rfl,hc,hm⟩ | ⟨f2,hf2,⟨bb,hz,rfl,hcc⟩,hm⟩)
 all_goals first
  | exact ⟨rfl,RPost.err (testL_nextErr HI.out HUU.out hf2) (((Mod.refl b w).alloc _).trans (mod_drew hm)) ⟨bb,by simp at hz;omega,rfl,hcc⟩⟩
  | skip
 all_goals
  obtain ⟨hh0,hh1,hmw⟩:=after_alloc hm hlt
  have HM:=hide hmw
  have HC:=hide hc
  have HE:=hide (testL_body (F:=F) (n:=n) HI.out HUU.out hy)
  have hpt:=(HT.out.mod hmw).hpt
  clear hm hc hy hmw
  go_wp2_with fail
  refine (truth1_any s.1.spelt s.1.pos d pt true _ hpt).mono ?_
  intro e w3 h3'
  have HQ:Hid (RPost (testL t.data.toList req F (n+1) s) b t rv mc mt w (TestV (n+1) (fromB w.heap.size)) e w3):=by
   obtain ⟨rfl,hb⟩:=h3'
   exact RPost.ok (HE.out.trans (testBody_0 _ _ _ _ _)) (HM.out.trans (Mod.of_below hb)) ⟨rfl,by rw [HSP.out]⟩ (HC.out.below hb)
  clear h3'
  rcases HQ.out.cases with ⟨q,v,hq,rfl,hv,hc3,hm3⟩ | ⟨f3,hf3,⟨bb,hz,rfl,hcc⟩,hm3⟩
 all_goals first
  | exact ⟨rfl,RPost.err hf3 hm3 ⟨bb,hz,rfl,hcc⟩⟩
  | skip
 all_goals
  have HQ2:=hide (RPost.ok hq hm3 hv hc3)
  clear hq hm3 hv hc3 HQ
  go_wp2
  go_ret
  exact HQ2.out
theorem beginT_False (n:Nat) (req:List (List UInt8)) (d:Int) (b F:Nat) (t:ByteArray) (s:PS) (rv:Value) (mc mt pr pt pf:Nat) (w:World) (h:RC w b t s rv mc mt) (ht:TMap w b mt pr pt pf) (hr:ReqV w b rv req) (hF:2*t.size+1 < F) (hd0:0≤d) (hd:d≤6) (hk1:s.1.kind=1) (hS:SubMu t.size (testL t.data.toList req F n)) (ho:SubOk 252 w b t rv mc mt (d+1) (testL t.data.toList req F n) (TestV n)) (hi:whichL testNames s.1.spelt=1+1) (hu:useOk req s.1.spelt=true) :
  Calls Tryz.prog 306 #[.pointer (some ⟨b,0,none⟩),.map (some mt),.int .i64 d] w (RPost (testL t.data.toList req F (n+1) s) b t rv mc mt w (TestV (n+1) (fromB w.heap.size))):=by
 have h1:w.cell? ⟨b,1,none⟩=some (.int .i64 s.1.kind):=h.at_.cell 1
 have h2:w.cell? ⟨b,2,none⟩=some (.int .i64 s.1.pos):=h.at_.cell 2
 have h3:w.cell? ⟨b,3,none⟩=some (.string (strA s.1.spelt)):=h.at_.cell 3
 have hlk:=ht.look w s.1.spelt rfl
 have hfn:testFn b pr pt pf s.1.spelt=some (.func (.func 251) #[] #[.pointer (some ⟨pf,0,none⟩)]):=by unfold testFn;rw [hi];rfl
 rw [hfn] at hlk
 have hsp:s.1.spelt=kFalse:=by
  have:=whichL_get _ _ _ hi
  simpa [testNames] using this.symm
 have H:=hide h
 have HT:=hide ht
 have HU:=hide (mayUse_any s.1.spelt req b t s rv mc mt w h hr)
 rw [hu] at HU
 have HSP:=hide hsp
 have HI:=hide hi
 have HUU:=hide hu
 have HS:=hide hS
 have HO:=hide ho
 have hlt:=h.at_.lt
 clear h ht hr hfn hsp hi hu hS ho
 simp only [Option.getD_some,Option.isSome_some] at hlk
 have hk':((s.1.kind:Int) != 1)=false:=by simp;omega
 clear hk1
 go_enter Tryz.func306,Tryz.ntmps306
 go_wp2_with fail
 refine (demand_yes b _ _ _ rfl).mono ?_
 rintro e w' ⟨rfl,hww⟩
 subst w'
 go_wp2_with fail
 refine (demand_yes b _ _ _ rfl).mono ?_
 rintro e w' ⟨rfl,hww⟩
 subst w'
 go_wp2_with fail
 refine HU.out.mono ?_
 rintro e w' ⟨rfl,hww⟩
 subst w'
 go_wp2_with fail
 refine (demand_yes b _ _ _ rfl).mono ?_
 rintro e w' ⟨rfl,hww⟩
 subst w'
 clear HU hlk
 go_wp2_with fail
 go_region
 all_goals go_wp2_with fail
 all_goals
  refine (next_rc b t s rv mc mt _ ((H.out.alloc _).drew)).mono ?_
  rintro e w2 (⟨y,hy,rfl,hc,hm⟩ | ⟨f2,hf2,⟨bb,hz,rfl,hcc⟩,hm⟩)
 all_goals first
  | exact ⟨rfl,RPost.err (testL_nextErr HI.out HUU.out hf2) (((Mod.refl b w).alloc _).trans (mod_drew hm)) ⟨bb,by simp at hz;omega,rfl,hcc⟩⟩
  | skip
 all_goals
  obtain ⟨hh0,hh1,hmw⟩:=after_alloc hm hlt
  have HM:=hide hmw
  have HC:=hide hc
  have HE:=hide (testL_body (F:=F) (n:=n) HI.out HUU.out hy)
  have hpt:=(HT.out.mod hmw).hpf
  clear hm hc hy hmw
  go_wp2_with fail
  refine (truth1_any s.1.spelt s.1.pos d pf false _ hpt).mono ?_
  intro e w3 h3'
  have HQ:Hid (RPost (testL t.data.toList req F (n+1) s) b t rv mc mt w (TestV (n+1) (fromB w.heap.size)) e w3):=by
   obtain ⟨rfl,hb⟩:=h3'
   exact RPost.ok (HE.out.trans (testBody_1 _ _ _ _ _)) (HM.out.trans (Mod.of_below hb)) ⟨rfl,by rw [HSP.out]⟩ (HC.out.below hb)
  clear h3'
  rcases HQ.out.cases with ⟨q,v,hq,rfl,hv,hc3,hm3⟩ | ⟨f3,hf3,⟨bb,hz,rfl,hcc⟩,hm3⟩
 all_goals first
  | exact ⟨rfl,RPost.err hf3 hm3 ⟨bb,hz,rfl,hcc⟩⟩
  | skip
 all_goals
  have HQ2:=hide (RPost.ok hq hm3 hv hc3)
  clear hq hm3 hv hc3 HQ
  go_wp2
  go_ret
  exact HQ2.out
theorem beginT_Not (n:Nat) (req:List (List UInt8)) (d:Int) (b F:Nat) (t:ByteArray) (s:PS) (rv:Value) (mc mt pr pt pf:Nat) (w:World) (h:RC w b t s rv mc mt) (ht:TMap w b mt pr pt pf) (hr:ReqV w b rv req) (hF:2*t.size+1 < F) (hd0:0≤d) (hd:d≤6) (hk1:s.1.kind=1) (hS:SubMu t.size (testL t.data.toList req F n)) (ho:SubOk 252 w b t rv mc mt (d+1) (testL t.data.toList req F n) (TestV n)) (hi:whichL testNames s.1.spelt=2+1) (hu:useOk req s.1.spelt=true) :
  Calls Tryz.prog 306 #[.pointer (some ⟨b,0,none⟩),.map (some mt),.int .i64 d] w (RPost (testL t.data.toList req F (n+1) s) b t rv mc mt w (TestV (n+1) (fromB w.heap.size))):=by
 have h1:w.cell? ⟨b,1,none⟩=some (.int .i64 s.1.kind):=h.at_.cell 1
 have h2:w.cell? ⟨b,2,none⟩=some (.int .i64 s.1.pos):=h.at_.cell 2
 have h3:w.cell? ⟨b,3,none⟩=some (.string (strA s.1.spelt)):=h.at_.cell 3
 have hlk:=ht.look w s.1.spelt rfl
 have hfn:testFn b pr pt pf s.1.spelt=some (.func (.func 159) #[.pointer (some ⟨b,0,none⟩)] #[]):=by unfold testFn;rw [hi];rfl
 rw [hfn] at hlk
 have hsp:s.1.spelt=kNot:=by
  have:=whichL_get _ _ _ hi
  simpa [testNames] using this.symm
 have H:=hide h
 have HT:=hide ht
 have HU:=hide (mayUse_any s.1.spelt req b t s rv mc mt w h hr)
 rw [hu] at HU
 have HSP:=hide hsp
 have HI:=hide hi
 have HUU:=hide hu
 have HS:=hide hS
 have HO:=hide ho
 have hlt:=h.at_.lt
 clear h ht hr hfn hsp hi hu hS ho
 simp only [Option.getD_some,Option.isSome_some] at hlk
 have hk':((s.1.kind:Int) != 1)=false:=by simp;omega
 clear hk1
 go_enter Tryz.func306,Tryz.ntmps306
 go_wp2_with fail
 refine (demand_yes b _ _ _ rfl).mono ?_
 rintro e w' ⟨rfl,hww⟩
 subst w'
 go_wp2_with fail
 refine (demand_yes b _ _ _ rfl).mono ?_
 rintro e w' ⟨rfl,hww⟩
 subst w'
 go_wp2_with fail
 refine HU.out.mono ?_
 rintro e w' ⟨rfl,hww⟩
 subst w'
 go_wp2_with fail
 refine (demand_yes b _ _ _ rfl).mono ?_
 rintro e w' ⟨rfl,hww⟩
 subst w'
 clear HU hlk
 go_wp2_with fail
 go_region
 all_goals go_wp2_with fail
 all_goals
  refine (next_rc b t s rv mc mt _ ((H.out.alloc _).drew)).mono ?_
  rintro e w2 (⟨y,hy,rfl,hc,hm⟩ | ⟨f2,hf2,⟨bb,hz,rfl,hcc⟩,hm⟩)
 all_goals first
  | exact ⟨rfl,RPost.err (testL_nextErr HI.out HUU.out hf2) (((Mod.refl b w).alloc _).trans (mod_drew hm)) ⟨bb,by simp at hz;omega,rfl,hcc⟩⟩
  | skip
 all_goals
  obtain ⟨hh0,hh1,hmw⟩:=after_alloc hm hlt
  have HM:=hide hmw
  have HC:=hide hc
  have HE:=hide (testL_body (F:=F) (n:=n) HI.out HUU.out hy)
  clear hm hc hy hmw
  go_wp2_with fail
  refine (not_any (testL t.data.toList req F n) (TestV n) s.1.spelt s.1.pos d b t y rv mc mt _ HC.out hd0 (by omega) (testV_tree n) (HO.out.mod HM.out)).mono ?_
  intro e w3 h3'
  have HQ:Hid (RPost (testL t.data.toList req F (n+1) s) b t rv mc mt w (TestV (n+1) (fromB w.heap.size)) e w3):=RPost.lift (fun a=>((⟨2,s.1.pos,0,false,[],[],0⟩:TLab),[a])) h3' HM.out (fun q hq=>HE.out.trans ((testBody_2 _ _ _ _ _).trans (thenL_ok hq))) (fun f hf=>HE.out.trans ((testBody_2 _ _ _ _ _).trans (thenL_err hf))) (fun a v _ hv=>by obtain ⟨u,rfl,hu⟩:=hv;exact ⟨a.1,u,rfl,by rw [HSP.out],(testV_tree n).weak _ _ _ _ _ hu (fun k hk _=>Nat.le_trans HM.out.size hk)⟩)
  clear h3'
  rcases HQ.out.cases with ⟨q,v,hq,rfl,hv,hc3,hm3⟩ | ⟨f3,hf3,⟨bb,hz,rfl,hcc⟩,hm3⟩
 all_goals first
  | exact ⟨rfl,RPost.err hf3 hm3 ⟨bb,hz,rfl,hcc⟩⟩
  | skip
 all_goals
  have HQ2:=hide (RPost.ok hq hm3 hv hc3)
  clear hq hm3 hv hc3 HQ
  go_wp2
  go_ret
  exact HQ2.out
theorem beginT_Allof (n:Nat) (req:List (List UInt8)) (d:Int) (b F:Nat) (t:ByteArray) (s:PS) (rv:Value) (mc mt pr pt pf:Nat) (w:World) (h:RC w b t s rv mc mt) (ht:TMap w b mt pr pt pf) (hr:ReqV w b rv req) (hF:2*t.size+1 < F) (hd0:0≤d) (hd:d≤6) (hk1:s.1.kind=1) (hS:SubMu t.size (testL t.data.toList req F n)) (ho:SubOk 252 w b t rv mc mt (d+1) (testL t.data.toList req F n) (TestV n)) (hi:whichL testNames s.1.spelt=3+1) (hu:useOk req s.1.spelt=true) :
  Calls Tryz.prog 306 #[.pointer (some ⟨b,0,none⟩),.map (some mt),.int .i64 d] w (RPost (testL t.data.toList req F (n+1) s) b t rv mc mt w (TestV (n+1) (fromB w.heap.size))):=by
 have h1:w.cell? ⟨b,1,none⟩=some (.int .i64 s.1.kind):=h.at_.cell 1
 have h2:w.cell? ⟨b,2,none⟩=some (.int .i64 s.1.pos):=h.at_.cell 2
 have h3:w.cell? ⟨b,3,none⟩=some (.string (strA s.1.spelt)):=h.at_.cell 3
 have hlk:=ht.look w s.1.spelt rfl
 have hfn:testFn b pr pt pf s.1.spelt=some (.func (.func 160) #[] #[.pointer (some ⟨pr,0,none⟩)]):=by unfold testFn;rw [hi];rfl
 rw [hfn] at hlk
 have hsp:s.1.spelt=kAllof:=by
  have:=whichL_get _ _ _ hi
  simpa [testNames] using this.symm
 have H:=hide h
 have HT:=hide ht
 have HU:=hide (mayUse_any s.1.spelt req b t s rv mc mt w h hr)
 rw [hu] at HU
 have HSP:=hide hsp
 have HI:=hide hi
 have HUU:=hide hu
 have HS:=hide hS
 have HO:=hide ho
 have hlt:=h.at_.lt
 clear h ht hr hfn hsp hi hu hS ho
 simp only [Option.getD_some,Option.isSome_some] at hlk
 have hk':((s.1.kind:Int) != 1)=false:=by simp;omega
 clear hk1
 go_enter Tryz.func306,Tryz.ntmps306
 go_wp2_with fail
 refine (demand_yes b _ _ _ rfl).mono ?_
 rintro e w' ⟨rfl,hww⟩
 subst w'
 go_wp2_with fail
 refine (demand_yes b _ _ _ rfl).mono ?_
 rintro e w' ⟨rfl,hww⟩
 subst w'
 go_wp2_with fail
 refine HU.out.mono ?_
 rintro e w' ⟨rfl,hww⟩
 subst w'
 go_wp2_with fail
 refine (demand_yes b _ _ _ rfl).mono ?_
 rintro e w' ⟨rfl,hww⟩
 subst w'
 clear HU hlk
 go_wp2_with fail
 go_region
 all_goals go_wp2_with fail
 all_goals
  refine (next_rc b t s rv mc mt _ ((H.out.alloc _).drew)).mono ?_
  rintro e w2 (⟨y,hy,rfl,hc,hm⟩ | ⟨f2,hf2,⟨bb,hz,rfl,hcc⟩,hm⟩)
 all_goals first
  | exact ⟨rfl,RPost.err (testL_nextErr HI.out HUU.out hf2) (((Mod.refl b w).alloc _).trans (mod_drew hm)) ⟨bb,by simp at hz;omega,rfl,hcc⟩⟩
  | skip
 all_goals
  obtain ⟨hh0,hh1,hmw⟩:=after_alloc hm hlt
  have HM:=hide hmw
  have HC:=hide hc
  have HE:=hide (testL_body (F:=F) (n:=n) HI.out HUU.out hy)
  clear hm hc hy hmw
  go_wp2_with fail
  refine (allof_any (testL t.data.toList req F n) (TestV n) s.1.spelt s.1.pos d pr b F t y rv mc mt _ HC.out (HT.out.mod HM.out).hpr hF hd0 (by omega) (testV_tree n) HS.out (HO.out.mod HM.out)).mono ?_
  intro e w3 h3'
  have HQ:Hid (RPost (testL t.data.toList req F (n+1) s) b t rv mc mt w (TestV (n+1) (fromB w.heap.size)) e w3):=RPost.lift (fun xs=>((⟨3,s.1.pos,0,false,[],[],0⟩:TLab),xs)) h3' HM.out (fun q hq=>HE.out.trans ((testBody_3 _ _ _ _ _).trans (thenL_ok hq))) (fun f hf=>HE.out.trans ((testBody_3 _ _ _ _ _).trans (thenL_err hf))) (fun a v _ hv=>by obtain ⟨u,rfl,hu,hne⟩:=hv;exact ⟨u,by rw [HSP.out],trX.weak (testV_tree n) hne hu (fun k hk _=>Nat.le_trans HM.out.size hk),hne⟩)
  clear h3'
  rcases HQ.out.cases with ⟨q,v,hq,rfl,hv,hc3,hm3⟩ | ⟨f3,hf3,⟨bb,hz,rfl,hcc⟩,hm3⟩
 all_goals first
  | exact ⟨rfl,RPost.err hf3 hm3 ⟨bb,hz,rfl,hcc⟩⟩
  | skip
 all_goals
  have HQ2:=hide (RPost.ok hq hm3 hv hc3)
  clear hq hm3 hv hc3 HQ
  go_wp2
  go_ret
  exact HQ2.out
theorem beginT_Anyof (n:Nat) (req:List (List UInt8)) (d:Int) (b F:Nat) (t:ByteArray) (s:PS) (rv:Value) (mc mt pr pt pf:Nat) (w:World) (h:RC w b t s rv mc mt) (ht:TMap w b mt pr pt pf) (hr:ReqV w b rv req) (hF:2*t.size+1 < F) (hd0:0≤d) (hd:d≤6) (hk1:s.1.kind=1) (hS:SubMu t.size (testL t.data.toList req F n)) (ho:SubOk 252 w b t rv mc mt (d+1) (testL t.data.toList req F n) (TestV n)) (hi:whichL testNames s.1.spelt=4+1) (hu:useOk req s.1.spelt=true) :
  Calls Tryz.prog 306 #[.pointer (some ⟨b,0,none⟩),.map (some mt),.int .i64 d] w (RPost (testL t.data.toList req F (n+1) s) b t rv mc mt w (TestV (n+1) (fromB w.heap.size))):=by
 have h1:w.cell? ⟨b,1,none⟩=some (.int .i64 s.1.kind):=h.at_.cell 1
 have h2:w.cell? ⟨b,2,none⟩=some (.int .i64 s.1.pos):=h.at_.cell 2
 have h3:w.cell? ⟨b,3,none⟩=some (.string (strA s.1.spelt)):=h.at_.cell 3
 have hlk:=ht.look w s.1.spelt rfl
 have hfn:testFn b pr pt pf s.1.spelt=some (.func (.func 162) #[] #[.pointer (some ⟨pr,0,none⟩)]):=by unfold testFn;rw [hi];rfl
 rw [hfn] at hlk
 have hsp:s.1.spelt=kAnyof:=by
  have:=whichL_get _ _ _ hi
  simpa [testNames] using this.symm
 have H:=hide h
 have HT:=hide ht
 have HU:=hide (mayUse_any s.1.spelt req b t s rv mc mt w h hr)
 rw [hu] at HU
 have HSP:=hide hsp
 have HI:=hide hi
 have HUU:=hide hu
 have HS:=hide hS
 have HO:=hide ho
 have hlt:=h.at_.lt
 clear h ht hr hfn hsp hi hu hS ho
 simp only [Option.getD_some,Option.isSome_some] at hlk
 have hk':((s.1.kind:Int) != 1)=false:=by simp;omega
 clear hk1
 go_enter Tryz.func306,Tryz.ntmps306
 go_wp2_with fail
 refine (demand_yes b _ _ _ rfl).mono ?_
 rintro e w' ⟨rfl,hww⟩
 subst w'
 go_wp2_with fail
 refine (demand_yes b _ _ _ rfl).mono ?_
 rintro e w' ⟨rfl,hww⟩
 subst w'
 go_wp2_with fail
 refine HU.out.mono ?_
 rintro e w' ⟨rfl,hww⟩
 subst w'
 go_wp2_with fail
 refine (demand_yes b _ _ _ rfl).mono ?_
 rintro e w' ⟨rfl,hww⟩
 subst w'
 clear HU hlk
 go_wp2_with fail
 go_region
 all_goals go_wp2_with fail
 all_goals
  refine (next_rc b t s rv mc mt _ ((H.out.alloc _).drew)).mono ?_
  rintro e w2 (⟨y,hy,rfl,hc,hm⟩ | ⟨f2,hf2,⟨bb,hz,rfl,hcc⟩,hm⟩)
 all_goals first
  | exact ⟨rfl,RPost.err (testL_nextErr HI.out HUU.out hf2) (((Mod.refl b w).alloc _).trans (mod_drew hm)) ⟨bb,by simp at hz;omega,rfl,hcc⟩⟩
  | skip
 all_goals
  obtain ⟨hh0,hh1,hmw⟩:=after_alloc hm hlt
  have HM:=hide hmw
  have HC:=hide hc
  have HE:=hide (testL_body (F:=F) (n:=n) HI.out HUU.out hy)
  clear hm hc hy hmw
  go_wp2_with fail
  refine (anyof_any (testL t.data.toList req F n) (TestV n) s.1.spelt s.1.pos d pr b F t y rv mc mt _ HC.out (HT.out.mod HM.out).hpr hF hd0 (by omega) (testV_tree n) HS.out (HO.out.mod HM.out)).mono ?_
  intro e w3 h3'
  have HQ:Hid (RPost (testL t.data.toList req F (n+1) s) b t rv mc mt w (TestV (n+1) (fromB w.heap.size)) e w3):=RPost.lift (fun xs=>((⟨4,s.1.pos,0,false,[],[],0⟩:TLab),xs)) h3' HM.out (fun q hq=>HE.out.trans ((testBody_4 _ _ _ _ _).trans (thenL_ok hq))) (fun f hf=>HE.out.trans ((testBody_4 _ _ _ _ _).trans (thenL_err hf))) (fun a v _ hv=>by obtain ⟨u,rfl,hu,hne⟩:=hv;exact ⟨u,by rw [HSP.out],trX.weak (testV_tree n) hne hu (fun k hk _=>Nat.le_trans HM.out.size hk),hne⟩)
  clear h3'
  rcases HQ.out.cases with ⟨q,v,hq,rfl,hv,hc3,hm3⟩ | ⟨f3,hf3,⟨bb,hz,rfl,hcc⟩,hm3⟩
 all_goals first
  | exact ⟨rfl,RPost.err hf3 hm3 ⟨bb,hz,rfl,hcc⟩⟩
  | skip
 all_goals
  have HQ2:=hide (RPost.ok hq hm3 hv hc3)
  clear hq hm3 hv hc3 HQ
  go_wp2
  go_ret
  exact HQ2.out
theorem beginT_Header (n:Nat) (req:List (List UInt8)) (d:Int) (b F:Nat) (t:ByteArray) (s:PS) (rv:Value) (mc mt pr pt pf:Nat) (w:World) (h:RC w b t s rv mc mt) (ht:TMap w b mt pr pt pf) (hr:ReqV w b rv req) (hF:2*t.size+1 < F) (hd0:0≤d) (hd:d≤6) (hk1:s.1.kind=1) (hS:SubMu t.size (testL t.data.toList req F n)) (ho:SubOk 252 w b t rv mc mt (d+1) (testL t.data.toList req F n) (TestV n)) (hi:whichL testNames s.1.spelt=5+1) (hu:useOk req s.1.spelt=true) :
  Calls Tryz.prog 306 #[.pointer (some ⟨b,0,none⟩),.map (some mt),.int .i64 d] w (RPost (testL t.data.toList req F (n+1) s) b t rv mc mt w (TestV (n+1) (fromB w.heap.size))):=by
 have h1:w.cell? ⟨b,1,none⟩=some (.int .i64 s.1.kind):=h.at_.cell 1
 have h2:w.cell? ⟨b,2,none⟩=some (.int .i64 s.1.pos):=h.at_.cell 2
 have h3:w.cell? ⟨b,3,none⟩=some (.string (strA s.1.spelt)):=h.at_.cell 3
 have hlk:=ht.look w s.1.spelt rfl
 have hfn:testFn b pr pt pf s.1.spelt=some (.func (.func 163) #[] #[.pointer (some ⟨pr,0,none⟩)]):=by unfold testFn;rw [hi];rfl
 rw [hfn] at hlk
 have hsp:s.1.spelt=kHeader:=by
  have:=whichL_get _ _ _ hi
  simpa [testNames] using this.symm
 have H:=hide h
 have HT:=hide ht
 have HU:=hide (mayUse_any s.1.spelt req b t s rv mc mt w h hr)
 rw [hu] at HU
 have HSP:=hide hsp
 have HI:=hide hi
 have HUU:=hide hu
 have HS:=hide hS
 have HO:=hide ho
 have hlt:=h.at_.lt
 clear h ht hr hfn hsp hi hu hS ho
 simp only [Option.getD_some,Option.isSome_some] at hlk
 have hk':((s.1.kind:Int) != 1)=false:=by simp;omega
 clear hk1
 go_enter Tryz.func306,Tryz.ntmps306
 go_wp2_with fail
 refine (demand_yes b _ _ _ rfl).mono ?_
 rintro e w' ⟨rfl,hww⟩
 subst w'
 go_wp2_with fail
 refine (demand_yes b _ _ _ rfl).mono ?_
 rintro e w' ⟨rfl,hww⟩
 subst w'
 go_wp2_with fail
 refine HU.out.mono ?_
 rintro e w' ⟨rfl,hww⟩
 subst w'
 go_wp2_with fail
 refine (demand_yes b _ _ _ rfl).mono ?_
 rintro e w' ⟨rfl,hww⟩
 subst w'
 clear HU hlk
 go_wp2_with fail
 go_region
 all_goals go_wp2_with fail
 all_goals
  refine (next_rc b t s rv mc mt _ ((H.out.alloc _).drew)).mono ?_
  rintro e w2 (⟨y,hy,rfl,hc,hm⟩ | ⟨f2,hf2,⟨bb,hz,rfl,hcc⟩,hm⟩)
 all_goals first
  | exact ⟨rfl,RPost.err (testL_nextErr HI.out HUU.out hf2) (((Mod.refl b w).alloc _).trans (mod_drew hm)) ⟨bb,by simp at hz;omega,rfl,hcc⟩⟩
  | skip
 all_goals
  obtain ⟨hh0,hh1,hmw⟩:=after_alloc hm hlt
  have HM:=hide hmw
  have HC:=hide hc
  have HE:=hide (testL_body (F:=F) (n:=n) HI.out HUU.out hy)
  clear hm hc hy hmw
  go_wp2_with fail
  refine (header_any s.1.spelt s.1.pos d pr b F t y rv mc mt _ HC.out (HT.out.mod HM.out).hpr hF).mono ?_
  intro e w3 h3'
  have HQ:Hid (RPost (testL t.data.toList req F (n+1) s) b t rv mc mt w (TestV (n+1) (fromB w.heap.size)) e w3):=RPost.lift (fun x=>(x,[])) h3' HM.out (fun q hq=>HE.out.trans ((testBody_5 _ _ _ _ _).trans (thenL_ok hq))) (fun f hf=>HE.out.trans ((testBody_5 _ _ _ _ _).trans (thenL_err hf))) (fun a v ha hv=>by
   obtain ⟨u,rfl,hu⟩:=hv
   rw [HSP.out] at hu
   show tnode _ _ _ _ _
   unfold tnode
   rw [(matchL_kind ha).1]
   exact ⟨rfl,u,rfl,hu.toX.weak (fun k hk _=>Nat.le_trans HM.out.size hk)⟩)
  clear h3'
  rcases HQ.out.cases with ⟨q,v,hq,rfl,hv,hc3,hm3⟩ | ⟨f3,hf3,⟨bb,hz,rfl,hcc⟩,hm3⟩
 all_goals first
  | exact ⟨rfl,RPost.err hf3 hm3 ⟨bb,hz,rfl,hcc⟩⟩
  | skip
 all_goals
  have HQ2:=hide (RPost.ok hq hm3 hv hc3)
  clear hq hm3 hv hc3 HQ
  go_wp2
  go_ret
  exact HQ2.out
theorem beginT_Envelope (n:Nat) (req:List (List UInt8)) (d:Int) (b F:Nat) (t:ByteArray) (s:PS) (rv:Value) (mc mt pr pt pf:Nat) (w:World) (h:RC w b t s rv mc mt) (ht:TMap w b mt pr pt pf) (hr:ReqV w b rv req) (hF:2*t.size+1 < F) (hd0:0≤d) (hd:d≤6) (hk1:s.1.kind=1) (hS:SubMu t.size (testL t.data.toList req F n)) (ho:SubOk 252 w b t rv mc mt (d+1) (testL t.data.toList req F n) (TestV n)) (hi:whichL testNames s.1.spelt=6+1) (hu:useOk req s.1.spelt=true) :
  Calls Tryz.prog 306 #[.pointer (some ⟨b,0,none⟩),.map (some mt),.int .i64 d] w (RPost (testL t.data.toList req F (n+1) s) b t rv mc mt w (TestV (n+1) (fromB w.heap.size))):=by
 have h1:w.cell? ⟨b,1,none⟩=some (.int .i64 s.1.kind):=h.at_.cell 1
 have h2:w.cell? ⟨b,2,none⟩=some (.int .i64 s.1.pos):=h.at_.cell 2
 have h3:w.cell? ⟨b,3,none⟩=some (.string (strA s.1.spelt)):=h.at_.cell 3
 have hlk:=ht.look w s.1.spelt rfl
 have hfn:testFn b pr pt pf s.1.spelt=some (.func (.func 166) #[] #[.pointer (some ⟨pr,0,none⟩)]):=by unfold testFn;rw [hi];rfl
 rw [hfn] at hlk
 have hsp:s.1.spelt=kEnvelope:=by
  have:=whichL_get _ _ _ hi
  simpa [testNames] using this.symm
 have H:=hide h
 have HT:=hide ht
 have HU:=hide (mayUse_any s.1.spelt req b t s rv mc mt w h hr)
 rw [hu] at HU
 have HSP:=hide hsp
 have HI:=hide hi
 have HUU:=hide hu
 have HS:=hide hS
 have HO:=hide ho
 have hlt:=h.at_.lt
 clear h ht hr hfn hsp hi hu hS ho
 simp only [Option.getD_some,Option.isSome_some] at hlk
 have hk':((s.1.kind:Int) != 1)=false:=by simp;omega
 clear hk1
 go_enter Tryz.func306,Tryz.ntmps306
 go_wp2_with fail
 refine (demand_yes b _ _ _ rfl).mono ?_
 rintro e w' ⟨rfl,hww⟩
 subst w'
 go_wp2_with fail
 refine (demand_yes b _ _ _ rfl).mono ?_
 rintro e w' ⟨rfl,hww⟩
 subst w'
 go_wp2_with fail
 refine HU.out.mono ?_
 rintro e w' ⟨rfl,hww⟩
 subst w'
 go_wp2_with fail
 refine (demand_yes b _ _ _ rfl).mono ?_
 rintro e w' ⟨rfl,hww⟩
 subst w'
 clear HU hlk
 go_wp2_with fail
 go_region
 all_goals go_wp2_with fail
 all_goals
  refine (next_rc b t s rv mc mt _ ((H.out.alloc _).drew)).mono ?_
  rintro e w2 (⟨y,hy,rfl,hc,hm⟩ | ⟨f2,hf2,⟨bb,hz,rfl,hcc⟩,hm⟩)
 all_goals first
  | exact ⟨rfl,RPost.err (testL_nextErr HI.out HUU.out hf2) (((Mod.refl b w).alloc _).trans (mod_drew hm)) ⟨bb,by simp at hz;omega,rfl,hcc⟩⟩
  | skip
 all_goals
  obtain ⟨hh0,hh1,hmw⟩:=after_alloc hm hlt
  have HM:=hide hmw
  have HC:=hide hc
  have HE:=hide (testL_body (F:=F) (n:=n) HI.out HUU.out hy)
  clear hm hc hy hmw
  go_wp2_with fail
  refine (envelope_any s.1.spelt s.1.pos d pr b F t y rv mc mt _ HC.out (HT.out.mod HM.out).hpr hF).mono ?_
  intro e w3 h3'
  have HQ:Hid (RPost (testL t.data.toList req F (n+1) s) b t rv mc mt w (TestV (n+1) (fromB w.heap.size)) e w3):=RPost.lift (fun x=>(x,[])) h3' HM.out (fun q hq=>HE.out.trans ((testBody_6 _ _ _ _ _).trans (thenL_ok hq))) (fun f hf=>HE.out.trans ((testBody_6 _ _ _ _ _).trans (thenL_err hf))) (fun a v ha hv=>by
   obtain ⟨u,rfl,hu⟩:=hv
   rw [HSP.out] at hu
   show tnode _ _ _ _ _
   unfold tnode
   rw [(matchL_kind ha).1]
   exact ⟨rfl,u,rfl,hu.toX.weak (fun k hk _=>Nat.le_trans HM.out.size hk)⟩)
  clear h3'
  rcases HQ.out.cases with ⟨q,v,hq,rfl,hv,hc3,hm3⟩ | ⟨f3,hf3,⟨bb,hz,rfl,hcc⟩,hm3⟩
 all_goals first
  | exact ⟨rfl,RPost.err hf3 hm3 ⟨bb,hz,rfl,hcc⟩⟩
  | skip
 all_goals
  have HQ2:=hide (RPost.ok hq hm3 hv hc3)
  clear hq hm3 hv hc3 HQ
  go_wp2
  go_ret
  exact HQ2.out
theorem beginT_String (n:Nat) (req:List (List UInt8)) (d:Int) (b F:Nat) (t:ByteArray) (s:PS) (rv:Value) (mc mt pr pt pf:Nat) (w:World) (h:RC w b t s rv mc mt) (ht:TMap w b mt pr pt pf) (hr:ReqV w b rv req) (hF:2*t.size+1 < F) (hd0:0≤d) (hd:d≤6) (hk1:s.1.kind=1) (hS:SubMu t.size (testL t.data.toList req F n)) (ho:SubOk 252 w b t rv mc mt (d+1) (testL t.data.toList req F n) (TestV n)) (hi:whichL testNames s.1.spelt=7+1) (hu:useOk req s.1.spelt=true) :
  Calls Tryz.prog 306 #[.pointer (some ⟨b,0,none⟩),.map (some mt),.int .i64 d] w (RPost (testL t.data.toList req F (n+1) s) b t rv mc mt w (TestV (n+1) (fromB w.heap.size))):=by
 have h1:w.cell? ⟨b,1,none⟩=some (.int .i64 s.1.kind):=h.at_.cell 1
 have h2:w.cell? ⟨b,2,none⟩=some (.int .i64 s.1.pos):=h.at_.cell 2
 have h3:w.cell? ⟨b,3,none⟩=some (.string (strA s.1.spelt)):=h.at_.cell 3
 have hlk:=ht.look w s.1.spelt rfl
 have hfn:testFn b pr pt pf s.1.spelt=some (.func (.func 169) #[] #[.pointer (some ⟨pr,0,none⟩)]):=by unfold testFn;rw [hi];rfl
 rw [hfn] at hlk
 have hsp:s.1.spelt=kString:=by
  have:=whichL_get _ _ _ hi
  simpa [testNames] using this.symm
 have H:=hide h
 have HT:=hide ht
 have HU:=hide (mayUse_any s.1.spelt req b t s rv mc mt w h hr)
 rw [hu] at HU
 have HSP:=hide hsp
 have HI:=hide hi
 have HUU:=hide hu
 have HS:=hide hS
 have HO:=hide ho
 have hlt:=h.at_.lt
 clear h ht hr hfn hsp hi hu hS ho
 simp only [Option.getD_some,Option.isSome_some] at hlk
 have hk':((s.1.kind:Int) != 1)=false:=by simp;omega
 clear hk1
 go_enter Tryz.func306,Tryz.ntmps306
 go_wp2_with fail
 refine (demand_yes b _ _ _ rfl).mono ?_
 rintro e w' ⟨rfl,hww⟩
 subst w'
 go_wp2_with fail
 refine (demand_yes b _ _ _ rfl).mono ?_
 rintro e w' ⟨rfl,hww⟩
 subst w'
 go_wp2_with fail
 refine HU.out.mono ?_
 rintro e w' ⟨rfl,hww⟩
 subst w'
 go_wp2_with fail
 refine (demand_yes b _ _ _ rfl).mono ?_
 rintro e w' ⟨rfl,hww⟩
 subst w'
 clear HU hlk
 go_wp2_with fail
 go_region
 all_goals go_wp2_with fail
 all_goals
  refine (next_rc b t s rv mc mt _ ((H.out.alloc _).drew)).mono ?_
  rintro e w2 (⟨y,hy,rfl,hc,hm⟩ | ⟨f2,hf2,⟨bb,hz,rfl,hcc⟩,hm⟩)
 all_goals first
  | exact ⟨rfl,RPost.err (testL_nextErr HI.out HUU.out hf2) (((Mod.refl b w).alloc _).trans (mod_drew hm)) ⟨bb,by simp at hz;omega,rfl,hcc⟩⟩
  | skip
 all_goals
  obtain ⟨hh0,hh1,hmw⟩:=after_alloc hm hlt
  have HM:=hide hmw
  have HC:=hide hc
  have HE:=hide (testL_body (F:=F) (n:=n) HI.out HUU.out hy)
  clear hm hc hy hmw
  go_wp2_with fail
  refine (stringt_any s.1.spelt s.1.pos d pr b F t y rv mc mt _ HC.out (HT.out.mod HM.out).hpr hF).mono ?_
  intro e w3 h3'
  have HQ:Hid (RPost (testL t.data.toList req F (n+1) s) b t rv mc mt w (TestV (n+1) (fromB w.heap.size)) e w3):=RPost.lift (fun x=>(x,[])) h3' HM.out (fun q hq=>HE.out.trans ((testBody_7 _ _ _ _ _).trans (thenL_ok hq))) (fun f hf=>HE.out.trans ((testBody_7 _ _ _ _ _).trans (thenL_err hf))) (fun a v ha hv=>by
   obtain ⟨u,rfl,hu⟩:=hv
   rw [HSP.out] at hu
   show tnode _ _ _ _ _
   unfold tnode
   rw [(matchL_kind ha).1]
   exact ⟨rfl,u,rfl,hu.toX.weak (fun k hk _=>Nat.le_trans HM.out.size hk)⟩)
  clear h3'
  rcases HQ.out.cases with ⟨q,v,hq,rfl,hv,hc3,hm3⟩ | ⟨f3,hf3,⟨bb,hz,rfl,hcc⟩,hm3⟩
 all_goals first
  | exact ⟨rfl,RPost.err hf3 hm3 ⟨bb,hz,rfl,hcc⟩⟩
  | skip
 all_goals
  have HQ2:=hide (RPost.ok hq hm3 hv hc3)
  clear hq hm3 hv hc3 HQ
  go_wp2
  go_ret
  exact HQ2.out
theorem beginT_Exists (n:Nat) (req:List (List UInt8)) (d:Int) (b F:Nat) (t:ByteArray) (s:PS) (rv:Value) (mc mt pr pt pf:Nat) (w:World) (h:RC w b t s rv mc mt) (ht:TMap w b mt pr pt pf) (hr:ReqV w b rv req) (hF:2*t.size+1 < F) (hd0:0≤d) (hd:d≤6) (hk1:s.1.kind=1) (hS:SubMu t.size (testL t.data.toList req F n)) (ho:SubOk 252 w b t rv mc mt (d+1) (testL t.data.toList req F n) (TestV n)) (hi:whichL testNames s.1.spelt=8+1) (hu:useOk req s.1.spelt=true) :
  Calls Tryz.prog 306 #[.pointer (some ⟨b,0,none⟩),.map (some mt),.int .i64 d] w (RPost (testL t.data.toList req F (n+1) s) b t rv mc mt w (TestV (n+1) (fromB w.heap.size))):=by
 have h1:w.cell? ⟨b,1,none⟩=some (.int .i64 s.1.kind):=h.at_.cell 1
 have h2:w.cell? ⟨b,2,none⟩=some (.int .i64 s.1.pos):=h.at_.cell 2
 have h3:w.cell? ⟨b,3,none⟩=some (.string (strA s.1.spelt)):=h.at_.cell 3
 have hlk:=ht.look w s.1.spelt rfl
 have hfn:testFn b pr pt pf s.1.spelt=some (.func (.func 170) #[.pointer (some ⟨b,0,none⟩)] #[]):=by unfold testFn;rw [hi];rfl
 rw [hfn] at hlk
 have hsp:s.1.spelt=kExists:=by
  have:=whichL_get _ _ _ hi
  simpa [testNames] using this.symm
 have H:=hide h
 have HT:=hide ht
 have HU:=hide (mayUse_any s.1.spelt req b t s rv mc mt w h hr)
 rw [hu] at HU
 have HSP:=hide hsp
 have HI:=hide hi
 have HUU:=hide hu
 have HS:=hide hS
 have HO:=hide ho
 have hlt:=h.at_.lt
 clear h ht hr hfn hsp hi hu hS ho
 simp only [Option.getD_some,Option.isSome_some] at hlk
 have hk':((s.1.kind:Int) != 1)=false:=by simp;omega
 clear hk1
 go_enter Tryz.func306,Tryz.ntmps306
 go_wp2_with fail
 refine (demand_yes b _ _ _ rfl).mono ?_
 rintro e w' ⟨rfl,hww⟩
 subst w'
 go_wp2_with fail
 refine (demand_yes b _ _ _ rfl).mono ?_
 rintro e w' ⟨rfl,hww⟩
 subst w'
 go_wp2_with fail
 refine HU.out.mono ?_
 rintro e w' ⟨rfl,hww⟩
 subst w'
 go_wp2_with fail
 refine (demand_yes b _ _ _ rfl).mono ?_
 rintro e w' ⟨rfl,hww⟩
 subst w'
 clear HU hlk
 go_wp2_with fail
 go_region
 all_goals go_wp2_with fail
 all_goals
  refine (next_rc b t s rv mc mt _ ((H.out.alloc _).drew)).mono ?_
  rintro e w2 (⟨y,hy,rfl,hc,hm⟩ | ⟨f2,hf2,⟨bb,hz,rfl,hcc⟩,hm⟩)
 all_goals first
  | exact ⟨rfl,RPost.err (testL_nextErr HI.out HUU.out hf2) (((Mod.refl b w).alloc _).trans (mod_drew hm)) ⟨bb,by simp at hz;omega,rfl,hcc⟩⟩
  | skip
 all_goals
  obtain ⟨hh0,hh1,hmw⟩:=after_alloc hm hlt
  have HM:=hide hmw
  have HC:=hide hc
  have HE:=hide (testL_body (F:=F) (n:=n) HI.out HUU.out hy)
  clear hm hc hy hmw
  go_wp2_with fail
  refine (exists_any s.1.spelt s.1.pos d b F t y rv mc mt _ HC.out hF).mono ?_
  intro e w3 h3'
  have HQ:Hid (RPost (testL t.data.toList req F (n+1) s) b t rv mc mt w (TestV (n+1) (fromB w.heap.size)) e w3):=RPost.lift (fun xs=>((⟨8,s.1.pos,0,false,xs,[],0⟩:TLab),[])) h3' HM.out (fun q hq=>HE.out.trans ((testBody_8 _ _ _ _ _).trans (thenL_ok hq))) (fun f hf=>HE.out.trans ((testBody_8 _ _ _ _ _).trans (thenL_err hf))) (fun a v _ hv=>by obtain ⟨u,rfl,hu⟩:=hv;exact ⟨rfl,u,by rw [HSP.out],hu.toX.weak (fun k hk _=>Nat.le_trans HM.out.size hk)⟩)
  clear h3'
  rcases HQ.out.cases with ⟨q,v,hq,rfl,hv,hc3,hm3⟩ | ⟨f3,hf3,⟨bb,hz,rfl,hcc⟩,hm3⟩
 all_goals first
  | exact ⟨rfl,RPost.err hf3 hm3 ⟨bb,hz,rfl,hcc⟩⟩
  | skip
 all_goals
  have HQ2:=hide (RPost.ok hq hm3 hv hc3)
  clear hq hm3 hv hc3 HQ
  go_wp2
  go_ret
  exact HQ2.out
theorem beginT_Size (n:Nat) (req:List (List UInt8)) (d:Int) (b F:Nat) (t:ByteArray) (s:PS) (rv:Value) (mc mt pr pt pf:Nat) (w:World) (h:RC w b t s rv mc mt) (ht:TMap w b mt pr pt pf) (hr:ReqV w b rv req) (hF:2*t.size+1 < F) (hd0:0≤d) (hd:d≤6) (hk1:s.1.kind=1) (hS:SubMu t.size (testL t.data.toList req F n)) (ho:SubOk 252 w b t rv mc mt (d+1) (testL t.data.toList req F n) (TestV n)) (hi:whichL testNames s.1.spelt=9+1) (hu:useOk req s.1.spelt=true) :
  Calls Tryz.prog 306 #[.pointer (some ⟨b,0,none⟩),.map (some mt),.int .i64 d] w (RPost (testL t.data.toList req F (n+1) s) b t rv mc mt w (TestV (n+1) (fromB w.heap.size))):=by
 have h1:w.cell? ⟨b,1,none⟩=some (.int .i64 s.1.kind):=h.at_.cell 1
 have h2:w.cell? ⟨b,2,none⟩=some (.int .i64 s.1.pos):=h.at_.cell 2
 have h3:w.cell? ⟨b,3,none⟩=some (.string (strA s.1.spelt)):=h.at_.cell 3
 have hlk:=ht.look w s.1.spelt rfl
 have hfn:testFn b pr pt pf s.1.spelt=some (.func (.func 171) #[.pointer (some ⟨b,0,none⟩)] #[]):=by unfold testFn;rw [hi];rfl
 rw [hfn] at hlk
 have hsp:s.1.spelt=kSize:=by
  have:=whichL_get _ _ _ hi
  simpa [testNames] using this.symm
 have H:=hide h
 have HT:=hide ht
 have HU:=hide (mayUse_any s.1.spelt req b t s rv mc mt w h hr)
 rw [hu] at HU
 have HSP:=hide hsp
 have HI:=hide hi
 have HUU:=hide hu
 have HS:=hide hS
 have HO:=hide ho
 have hlt:=h.at_.lt
 clear h ht hr hfn hsp hi hu hS ho
 simp only [Option.getD_some,Option.isSome_some] at hlk
 have hk':((s.1.kind:Int) != 1)=false:=by simp;omega
 clear hk1
 go_enter Tryz.func306,Tryz.ntmps306
 go_wp2_with fail
 refine (demand_yes b _ _ _ rfl).mono ?_
 rintro e w' ⟨rfl,hww⟩
 subst w'
 go_wp2_with fail
 refine (demand_yes b _ _ _ rfl).mono ?_
 rintro e w' ⟨rfl,hww⟩
 subst w'
 go_wp2_with fail
 refine HU.out.mono ?_
 rintro e w' ⟨rfl,hww⟩
 subst w'
 go_wp2_with fail
 refine (demand_yes b _ _ _ rfl).mono ?_
 rintro e w' ⟨rfl,hww⟩
 subst w'
 clear HU hlk
 go_wp2_with fail
 go_region
 all_goals go_wp2_with fail
 all_goals
  refine (next_rc b t s rv mc mt _ ((H.out.alloc _).drew)).mono ?_
  rintro e w2 (⟨y,hy,rfl,hc,hm⟩ | ⟨f2,hf2,⟨bb,hz,rfl,hcc⟩,hm⟩)
 all_goals first
  | exact ⟨rfl,RPost.err (testL_nextErr HI.out HUU.out hf2) (((Mod.refl b w).alloc _).trans (mod_drew hm)) ⟨bb,by simp at hz;omega,rfl,hcc⟩⟩
  | skip
 all_goals
  obtain ⟨hh0,hh1,hmw⟩:=after_alloc hm hlt
  have HM:=hide hmw
  have HC:=hide hc
  have HE:=hide (testL_body (F:=F) (n:=n) HI.out HUU.out hy)
  clear hm hc hy hmw
  go_wp2_with fail
  refine (size_any s.1.spelt s.1.pos d b t y rv mc mt _ HC.out).mono ?_
  intro e w3 h3'
  have HQ:Hid (RPost (testL t.data.toList req F (n+1) s) b t rv mc mt w (TestV (n+1) (fromB w.heap.size)) e w3):=RPost.lift (fun x=>(x,[])) h3' HM.out (fun q hq=>HE.out.trans ((testBody_9 _ _ _ _ _).trans (thenL_ok hq))) (fun f hf=>HE.out.trans ((testBody_9 _ _ _ _ _).trans (thenL_err hf))) (fun a v ha hv=>by
   rw [HSP.out] at hv
   show tnode _ _ _ _ _
   unfold tnode
   rw [(sizeL_kind ha).1]
   refine ⟨rfl,?_⟩
   rw [hv,(sizeL_kind ha).2])
  clear h3'
  rcases HQ.out.cases with ⟨q,v,hq,rfl,hv,hc3,hm3⟩ | ⟨f3,hf3,⟨bb,hz,rfl,hcc⟩,hm3⟩
 all_goals first
  | exact ⟨rfl,RPost.err hf3 hm3 ⟨bb,hz,rfl,hcc⟩⟩
  | skip
 all_goals
  have HQ2:=hide (RPost.ok hq hm3 hv hc3)
  clear hq hm3 hv hc3 HQ
  go_wp2
  go_ret
  exact HQ2.out
end Go.Proofs.YtbiclelojbfnbaaGreatDoor
