import Derived.Test.YtgnkjijocdmniaaGreatDoorChoice
namespace Go.Proofs.YtgnkjijocdmniaaGreatDoor
set_option linter.unusedVariables false
set_option linter.unusedSimpArgs false
set_option maxRecDepth 100000
set_option maxHeartbeats 4000000
open Go.RowKit
attribute [local go_sem ↓] Go.wp_at_zero Go.wp_at_succ
def cmdFn (b p1 k1 p2 k2 p3 k3:Nat) (x:List UInt8):Option Value:=
 match whichL cmdNames x with
 | 1=>some (.func (.func 121) #[.pointer (some ⟨b,0,none⟩)] #[])
 | 2=>some (.func (.func 122) #[.pointer (some ⟨b,0,none⟩)] #[])
 | 3=>some (.func (.func 123) #[.pointer (some ⟨b,0,none⟩)] #[])
 | 4=>some (.func (.func 178) #[] #[.pointer (some ⟨p1,0,none⟩),.pointer (some ⟨k1,0,none⟩)])
 | 5=>some (.func (.func 178) #[] #[.pointer (some ⟨p2,0,none⟩),.pointer (some ⟨k2,0,none⟩)])
 | 6=>some (.func (.func 178) #[] #[.pointer (some ⟨p3,0,none⟩),.pointer (some ⟨k3,0,none⟩)])
 | 7=>some (.func (.func 125) #[.pointer (some ⟨b,0,none⟩)] #[])
 | 8=>some (.func (.func 126) #[.pointer (some ⟨b,0,none⟩)] #[])
 | _=>none
structure CMap (w:World) (b mc p1 k1 p2 k2 p3 k3:Nat):Prop where
 look:LookOk w 207 mc (cmdFn b p1 k1 p2 k2 p3 k3)
 hp1:PrAt w p1 b
 hk1:w.cell? ⟨k1,0,none⟩=some (.int .i64 2)
 hp2:PrAt w p2 b
 hk2:w.cell? ⟨k2,0,none⟩=some (.int .i64 3)
 hp3:PrAt w p3 b
 hk3:w.cell? ⟨k3,0,none⟩=some (.int .i64 4)
 k1b:k1≠b
 k2b:k2≠b
 k3b:k3≠b
 mcb:mc≠b
 mcl:mc < w.heap.size
theorem CMap.mod {w w':World} {b mc p1 k1 p2 k2 p3 k3:Nat} (h:CMap w b mc p1 k1 p2 k2 p3 k3) (hm:Mod b w w'):CMap w' b mc p1 k1 p2 k2 p3 k3:=
 ⟨fun W x e=>h.look W x (e.trans (hm.block mc h.mcl h.mcb)),h.hp1.mod hm,cell_mod h.hk1 hm h.k1b,h.hp2.mod hm,cell_mod h.hk2 hm h.k2b,h.hp3.mod hm,cell_mod h.hk3 hm h.k3b,h.k1b,h.k2b,h.k3b,h.mcb,Nat.lt_of_lt_of_le h.mcl hm.size⟩
theorem cmdFn_none {b p1 k1 p2 k2 p3 k3:Nat} {x:List UInt8} (h:whichL cmdNames x=0):cmdFn b p1 k1 p2 k2 p3 k3 x=none:=by unfold cmdFn;rw [h];rfl
theorem cmdFn_some {b p1 k1 p2 k2 p3 k3:Nat} {x:List UInt8} (h:¬ whichL cmdNames x=0):∃ fv,cmdFn b p1 k1 p2 k2 p3 k3 x=some fv:=by
 have hle:=whichL_le cmdNames x
 have hl:cmdNames.length=8:=rfl
 unfold cmdFn
 generalize whichL cmdNames x=i at *
 rcases (by omega:i=1∨i=2∨i=3∨i=4∨i=5∨i=6∨i=7∨i=8) with h | h | h | h | h | h | h | h <;> subst h <;> exact ⟨_,rfl⟩
theorem cmdNames_letter:∀ z∈cmdNames,∀ c r,z=c :: r→isLetN c.toNat=true:=by
 intro z hz c r e
 simp [cmdNames] at hz
 rcases hz with h | h | h | h | h | h | h | h <;> subst h <;> cases e <;> decide
theorem cmdNames_ne:∀ z∈cmdNames,z≠[]:=by decide
theorem cmd_kind {s:PS} (hn:¬ s.1.kind=1→NoName s.1.spelt) (h:¬ whichL cmdNames s.1.spelt=0):s.1.kind=1:=by
 apply Classical.byContradiction
 intro hk
 have hm:=whichL_mem h
 have hne:=cmdNames_ne _ hm
 cases hsp:s.1.spelt with
 | nil=>exact hne hsp
 | cons c r=>
  have h1:=cmdNames_letter _ hm c r hsp
  have h2:=hn hk c r hsp
  rw [h1] at h2
  cases h2
theorem cmdL_nextErr {l:List UInt8} {req:List (List UInt8)} {F n k:Nat} {s:PS} {f:Flt} (hi:whichL cmdNames s.1.spelt=k+1) (hu:useOk req s.1.spelt=true) (hn:nextL l s.2=.error f):cmdL l req F (n+1) s=.error f:=by
 rw [cmdL,if_neg (by omega),if_pos hu];exact nextThen_err hn
theorem cmdL_body {l:List UInt8} {req:List (List UInt8)} {F n k:Nat} {s y:PS} (hi:whichL cmdNames s.1.spelt=k+1) (hu:useOk req s.1.spelt=true) (hn:nextL l s.2=.ok y):cmdL l req F (n+1) s=cmdBody l F (testL l req F n) (cmdL l req F n) k s.1.pos y:=by
 rw [cmdL,if_neg (by omega),if_pos hu]
 refine (nextThen_ok hn).trans ?_
 show cmdBody l F (testL l req F n) (cmdL l req F n) (whichL cmdNames s.1.spelt - 1) s.1.pos y=_
 rw [hi]
 rfl
section
variable {α β:Type} {l:List UInt8} {F pos:Nat} {tst:PS→Except Flt (β×PS)} {sub:PS→Except Flt (α×PS)} {s:PS}
theorem semi_ok {α:Type} {l:List UInt8} {s:PS} {a:α} {q:Nat×PS} (h:passL l [[59]] s=.ok q):semi l s a=.ok (a,q.2):=thenL_ok h
theorem semi_err {α:Type} {l:List UInt8} {s:PS} {a:α} {f:Flt} (h:passL l [[59]] s=.error f):semi l s a=.error f:=thenL_err h
theorem act_body {k:Nat} (h:cmdBody l F tst sub k pos s=thenL (stringL l (fun _=>0) s) fun x s1=>semi l s1 (⟨k,pos,0,x,[],false⟩,[],[])):cmdBody l F tst sub k pos s=thenL (actL l s) fun x s1=>.ok ((⟨k,pos,0,x,[],false⟩,[],[]),s1):=by
 rw [h]
 unfold actL
 cases stringL l (fun _=>0) s with
 | error f=>rfl
 | ok y=>
  rw [thenL_ok (r:=.ok y) rfl,thenL_ok (r:=.ok y) rfl]
  unfold semi
  cases passL l [[59]] y.2 with
  | error f=>rfl
  | ok z=>rfl
theorem act_ok {k:Nat} {q:List UInt8×PS} (h:actL l s=.ok q) (hb:cmdBody l F tst sub k pos s=thenL (stringL l (fun _=>0) s) fun x s1=>semi l s1 (⟨k,pos,0,x,[],false⟩,[],[]):=by rfl):cmdBody l F tst sub k pos s=.ok ((⟨k,pos,0,q.1,[],false⟩,[],[]),q.2):=(act_body hb).trans (thenL_ok h)
theorem act_err {k:Nat} {f:Flt} (h:actL l s=.error f) (hb:cmdBody l F tst sub k pos s=thenL (stringL l (fun _=>0) s) fun x s1=>semi l s1 (⟨k,pos,0,x,[],false⟩,[],[]):=by rfl):cmdBody l F tst sub k pos s=.error f:=(act_body hb).trans (thenL_err h)
theorem cmdBody_6:cmdBody l F tst sub 6 pos s=thenL (mayL l [tLower,tUpper,tLength] s) fun tag s1=>thenL (stringL l (fun x=>if isNameL x then 0 else 7) s1) fun v s2=>thenL (stringL l (fun _=>0) s2) fun x s3=>semi l s3 (⟨6,pos,tag,x,smallL v,false⟩,[],[]):=rfl
theorem set_body:cmdBody l F tst sub 6 pos s=thenL (setL l s) fun q s1=>.ok ((⟨6,pos,q.1,q.2.2,q.2.1,false⟩,[],[]),s1):=by
 rw [cmdBody_6]
 unfold setL
 cases mayL l [tLower,tUpper,tLength] s with
 | error f=>rfl
 | ok y=>
  rw [thenL_ok (r:=.ok y) rfl,thenL_ok (r:=.ok y) rfl]
  cases stringL l (fun x=>if isNameL x then 0 else 7) y.2 with
  | error f=>rfl
  | ok z=>
   rw [thenL_ok (r:=.ok z) rfl,thenL_ok (r:=.ok z) rfl]
   cases stringL l (fun _=>0) z.2 with
   | error f=>rfl
   | ok u=>
    rw [thenL_ok (r:=.ok u) rfl,thenL_ok (r:=.ok u) rfl]
    unfold semi
    cases passL l [[59]] u.2 with
    | error f=>rfl
    | ok v=>rfl
theorem set_ok {q:(Nat×List UInt8×List UInt8)×PS} (h:setL l s=.ok q):cmdBody l F tst sub 6 pos s=.ok ((⟨6,pos,q.1.1,q.1.2.2,q.1.2.1,false⟩,[],[]),q.2):=set_body.trans (thenL_ok h)
theorem set_err {f:Flt} (h:setL l s=.error f):cmdBody l F tst sub 6 pos s=.error f:=set_body.trans (thenL_err h)
theorem cmdBody_7:cmdBody l F tst sub 7 pos s=thenL (armL l F tst sub s) fun a s1=>thenL (armsMore l F tst sub F [a] s1) fun arms s2=>thenL (mayL l [kElse] s2) fun i s3=>if i=0 then .ok ((⟨7,pos,0,[],[],false⟩,arms,[]),s3) else thenL (blockL l F sub s3) fun cs s4=>.ok ((⟨7,pos,0,[],[],true⟩,arms,cs),s4):=rfl
theorem if_body:cmdBody l F tst sub 7 pos s=thenL (choiceL l F tst sub s) fun x s1=>.ok ((⟨7,pos,0,[],[],x.2.1⟩,x.1,x.2.2),s1):=by
 rw [cmdBody_7]
 unfold choiceL
 cases h1:armL l F tst sub s with
 | error f=>rfl
 | ok y=>
  rw [thenL_ok (r:=.ok y) rfl,thenL_ok (r:=.ok y) rfl]
  cases h2:armsMore l F tst sub F [y.1] y.2 with
  | error f=>rfl
  | ok z=>
   rw [thenL_ok (r:=.ok z) rfl,thenL_ok (r:=.ok z) rfl]
   cases h3:mayL l [kElse] z.2 with
   | error f=>rfl
   | ok u=>
    rw [thenL_ok (r:=.ok u) rfl,thenL_ok (r:=.ok u) rfl]
    by_cases h4:u.1=0
    ·rw [if_pos h4,if_pos h4];rfl
    ·rw [if_neg h4,if_neg h4]
     cases h5:blockL l F sub u.2 with
     | error f=>rfl
     | ok v=>rfl
theorem if_ok {q:(List (β×List α)×Bool×List α)×PS} (h:choiceL l F tst sub s=.ok q):cmdBody l F tst sub 7 pos s=.ok ((⟨7,pos,0,[],[],q.1.2.1⟩,q.1.1,q.1.2.2),q.2):=if_body.trans (thenL_ok h)
theorem if_err {f:Flt} (h:choiceL l F tst sub s=.error f):cmdBody l F tst sub 7 pos s=.error f:=if_body.trans (thenL_err h)
end
theorem beginC_unknown (d:Int) (b:Nat) (t:ByteArray) (s:PS) (rv:Value) (mc mt p1 k1 p2 k2 p3 k3:Nat) (w:World) (h:RC w b t s rv mc mt) (ht:CMap w b mc p1 k1 p2 k2 p3 k3) (hd:d≤6) (h0:whichL cmdNames s.1.spelt=0) :
 Calls Tryz.prog 195 #[.pointer (some ⟨b,0,none⟩),.map (some mc),.int .i64 d] w fun e w'=>Threw ⟨4,s.1.pos⟩ w e w'∧Mod b w w':=by
 have h1:w.cell? ⟨b,1,none⟩=some (.int .i64 s.1.kind):=h.at_.cell 1
 have h3:w.cell? ⟨b,3,none⟩=some (.string (strA s.1.spelt)):=h.at_.cell 3
 have hlk:=ht.look w s.1.spelt rfl
 rw [cmdFn_none h0] at hlk
 have H:=hide h
 clear h ht h0
 simp only [Option.getD_none,Option.isSome_none] at hlk
 by_cases hk:s.1.kind=1
 ·have hk':((s.1.kind:Int) != 1)=false:=by simp;omega
  clear hk
  go_enter Tryz.func195,Tryz.ntmps195
  go_wp2_with fail
  refine (demand_yes b _ _ _ rfl).mono ?_
  rintro e w' ⟨rfl,hww⟩
  subst hww
  go_wp2_with fail
  refine (demand_no b 4 _ _ t s.1 s.2 rv mc mt _ H.out.at_ rfl rfl).mono ?_
  rintro e w1 ⟨⟨bb,hz,rfl,hcc⟩,hm⟩
  exact ⟨rfl,⟨bb,hz,rfl,hcc⟩,Mod.of_below hm⟩
 ·have hk':((s.1.kind:Int) != 1)=true:=by simp;omega
  clear hk
  go_enter Tryz.func195,Tryz.ntmps195
  go_wp2_with fail
  refine (demand_yes b _ _ _ rfl).mono ?_
  rintro e w' ⟨rfl,hww⟩
  subst hww
  go_wp2_with fail
  refine (demand_no b 4 _ _ t s.1 s.2 rv mc mt _ H.out.at_ rfl rfl).mono ?_
  rintro e w1 ⟨⟨bb,hz,rfl,hcc⟩,hm⟩
  exact ⟨rfl,⟨bb,hz,rfl,hcc⟩,Mod.of_below hm⟩
theorem beginC_nouse (fv:Value) (req:List (List UInt8)) (d:Int) (b:Nat) (t:ByteArray) (s:PS) (rv:Value) (mc mt p1 k1 p2 k2 p3 k3:Nat) (w:World) (h:RC w b t s rv mc mt) (ht:CMap w b mc p1 k1 p2 k2 p3 k3) (hr:ReqV w b rv req) (hd:d≤6) (hk1:s.1.kind=1) (hf:cmdFn b p1 k1 p2 k2 p3 k3 s.1.spelt=some fv) (hu:useOk req s.1.spelt=false) :
 Calls Tryz.prog 195 #[.pointer (some ⟨b,0,none⟩),.map (some mc),.int .i64 d] w fun e w'=>Threw ⟨6,s.1.pos⟩ w e w'∧Mod b w w':=by
 have h1:w.cell? ⟨b,1,none⟩=some (.int .i64 s.1.kind):=h.at_.cell 1
 have h3:w.cell? ⟨b,3,none⟩=some (.string (strA s.1.spelt)):=h.at_.cell 3
 have hlk:=ht.look w s.1.spelt rfl
 rw [hf] at hlk
 have H:=hide h
 have HU:=hide (mayUse_any s.1.spelt req b t s rv mc mt w h hr)
 rw [hu] at HU
 clear h ht hr hf hu
 simp only [Option.getD_some,Option.isSome_some] at hlk
 have hk':((s.1.kind:Int) != 1)=false:=by simp;omega
 clear hk1
 go_enter Tryz.func195,Tryz.ntmps195
 go_wp2_with fail
 refine (demand_yes b _ _ _ rfl).mono ?_
 rintro e w' ⟨rfl,hww⟩
 subst w'
 go_wp2_with fail
 refine (demand_yes b _ _ _ rfl).mono ?_
 rintro e w' ⟨rfl,hww⟩
 subst w'
 go_wp2_with fail
 refine HU.out.mono ?_
 rintro e w' ⟨rfl,hww⟩
 subst w'
 go_wp2_with fail
 refine (demand_no b 6 _ _ t s.1 s.2 rv mc mt _ H.out.at_ rfl rfl).mono ?_
 rintro e w1 ⟨⟨bb,hz,rfl,hcc⟩,hm⟩
 exact ⟨rfl,⟨bb,hz,rfl,hcc⟩,Mod.of_below hm⟩
theorem beginC_deep (b:Nat) (t:ByteArray) (s:PS) (rv:Value) (mc mt p1 k1 p2 k2 p3 k3:Nat) (w:World) (h:RC w b t s rv mc mt) (ht:CMap w b mc p1 k1 p2 k2 p3 k3) :
 Calls Tryz.prog 195 #[.pointer (some ⟨b,0,none⟩),.map (some mc),.int .i64 7] w fun e w'=>Threw ⟨if s.1.kind=1 then 5 else 4,s.1.pos⟩ w e w'∧Mod b w w':=by
 have h1:w.cell? ⟨b,1,none⟩=some (.int .i64 s.1.kind):=h.at_.cell 1
 have h3:w.cell? ⟨b,3,none⟩=some (.string (strA s.1.spelt)):=h.at_.cell 3
 have hlk:=ht.look w s.1.spelt rfl
 have H:=hide h
 by_cases hk:s.1.kind=1
 ·rw [if_pos hk]
  have hk':((s.1.kind:Int) != 1)=false:=by simp;omega
  clear hk h ht hlk
  go_enter Tryz.func195,Tryz.ntmps195
  go_wp2_with fail
  refine (demand_no b 5 _ _ t s.1 s.2 rv mc mt _ H.out.at_ rfl rfl).mono ?_
  rintro e w1 ⟨⟨bb,hz,rfl,hcc⟩,hm⟩
  exact ⟨rfl,⟨bb,hz,rfl,hcc⟩,Mod.of_below hm⟩
 ·rw [if_neg hk]
  have h0:whichL cmdNames s.1.spelt=0:=by
   apply Classical.byContradiction
   intro h0
   exact hk (cmd_kind h.nm h0)
  rw [cmdFn_none h0] at hlk
  have hk':((s.1.kind:Int) != 1)=true:=by simp;omega
  clear hk h ht h0
  simp only [Option.getD_none,Option.isSome_none] at hlk
  go_enter Tryz.func195,Tryz.ntmps195
  go_wp2_with fail
  refine (demand_yes b _ _ _ rfl).mono ?_
  rintro e w' ⟨rfl,hww⟩
  subst w'
  go_wp2_with fail
  refine (demand_no b 4 _ _ t s.1 s.2 rv mc mt _ H.out.at_ rfl rfl).mono ?_
  rintro e w1 ⟨⟨bb,hz,rfl,hcc⟩,hm⟩
  exact ⟨rfl,⟨bb,hz,rfl,hcc⟩,Mod.of_below hm⟩
theorem beginC_c (f:FuncId) (q q2:Nat) (n:Nat) (req:List (List UInt8)) (d:Int) (b F:Nat) (t:ByteArray) (s:PS) (rv:Value) (mc mt p1 k1 p2 k2 p3 k3:Nat) (w:World) (h:RC w b t s rv mc mt) (ht:CMap w b mc p1 k1 p2 k2 p3 k3) (hr:ReqV w b rv req) (hd0:0≤d) (hd:d≤6) (hk1:s.1.kind=1) (hu:useOk req s.1.spelt=true)
 (hfn:cmdFn b p1 k1 p2 k2 p3 k3 s.1.spelt=some (.func (.func f) #[] #[.pointer (some ⟨q,0,none⟩),.pointer (some ⟨q2,0,none⟩)])) (hcf:∀ args W,(callFunc f args).run Tryz.prog W=.ok (.enter f args) W) (hne:∀ f2,nextL t.data.toList s.2=.error f2→cmdL t.data.toList req F (n+1) s=.error f2)
 (hcon:∀ W y,Mod b w W→RC W b t y rv mc mt→nextL t.data.toList s.2=.ok y→Calls Tryz.prog f #[.agg #[.string (strA s.1.spelt),.int .i64 s.1.pos],.int .i64 d,.pointer (some ⟨q,0,none⟩),.pointer (some ⟨q2,0,none⟩)] W (RPost (cmdL t.data.toList req F (n+1) s) b t rv mc mt w (CmdV (n+1) (fromB w.heap.size)))) :
 Calls Tryz.prog 195 #[.pointer (some ⟨b,0,none⟩),.map (some mc),.int .i64 d] w (RPost (cmdL t.data.toList req F (n+1) s) b t rv mc mt w (CmdV (n+1) (fromB w.heap.size))):=by
 have h1:w.cell? ⟨b,1,none⟩=some (.int .i64 s.1.kind):=h.at_.cell 1
 have h2:w.cell? ⟨b,2,none⟩=some (.int .i64 s.1.pos):=h.at_.cell 2
 have h3:w.cell? ⟨b,3,none⟩=some (.string (strA s.1.spelt)):=h.at_.cell 3
 have hlk:=ht.look w s.1.spelt rfl
 rw [hfn] at hlk
 have H:=hide h
 have HU:=hide (mayUse_any s.1.spelt req b t s rv mc mt w h hr)
 rw [hu] at HU
 have HNE:=hide hne
 have HCON:=hide hcon
 have hlt:=h.at_.lt
 clear h ht hr hfn hu hne hcon
 simp only [Option.getD_some,Option.isSome_some] at hlk
 have hk':((s.1.kind:Int) != 1)=false:=by simp;omega
 clear hk1
 go_enter Tryz.func195,Tryz.ntmps195
 go_wp2_with fail
 refine (demand_yes b _ _ _ rfl).mono ?_
 rintro e w' ⟨rfl,hww⟩
 subst w'
 go_wp2_with fail
 refine (demand_yes b _ _ _ rfl).mono ?_
 rintro e w' ⟨rfl,hww⟩
 subst w'
 go_wp2_with fail
 refine HU.out.mono ?_
 rintro e w' ⟨rfl,hww⟩
 subst w'
 go_wp2_with fail
 refine (demand_yes b _ _ _ rfl).mono ?_
 rintro e w' ⟨rfl,hww⟩
 subst w'
 clear HU hlk
 go_wp2_with fail
 go_region
 all_goals go_wp2_with fail
 all_goals
  refine (next_rc b t s rv mc mt _ ((H.out.alloc _).drew)).mono ?_
  rintro e w2 (⟨y,hy,rfl,hc,hm⟩ | ⟨f2,hf2,⟨bb,hz,rfl,hcc⟩,hm⟩)
 all_goals first
  | exact ⟨rfl,RPost.err (HNE.out _ hf2) (((Mod.refl b w).alloc _).trans (mod_drew hm)) ⟨bb,by simp at hz;omega,rfl,hcc⟩⟩
  | skip
 all_goals
  obtain ⟨hh0,hh1,hmw⟩:=after_alloc hm hlt
  have HM:=hide hmw
  have HC:=hide hc
  have HCN:=hide (HCON.out _ y hmw hc hy)
  clear hm hc hy hmw
  go_wp2_with fail
  refine HCN.out.mono ?_
  intro e w3 h3'
  have HQ:=hide h3'
  clear h3'
  rcases HQ.out.cases with ⟨q,v,hq,rfl,hv,hc3,hm3⟩ | ⟨f3,hf3,⟨bb,hz,rfl,hcc⟩,hm3⟩
 all_goals first
  | exact ⟨rfl,RPost.err hf3 hm3 ⟨bb,hz,rfl,hcc⟩⟩
  | skip
 all_goals
  have HQ2:=hide (RPost.ok hq hm3 hv hc3)
  clear hq hm3 hv hc3 HQ
  go_wp2
  go_ret
  exact HQ2.out
theorem beginC_m (f:FuncId) (n:Nat) (req:List (List UInt8)) (d:Int) (b F:Nat) (t:ByteArray) (s:PS) (rv:Value) (mc mt p1 k1 p2 k2 p3 k3:Nat) (w:World) (h:RC w b t s rv mc mt) (ht:CMap w b mc p1 k1 p2 k2 p3 k3) (hr:ReqV w b rv req) (hd0:0≤d) (hd:d≤6) (hk1:s.1.kind=1) (hu:useOk req s.1.spelt=true)
 (hfn:cmdFn b p1 k1 p2 k2 p3 k3 s.1.spelt=some (.func (.func f) #[.pointer (some ⟨b,0,none⟩)] #[])) (hcf:∀ args W,(callFunc f args).run Tryz.prog W=.ok (.enter f args) W) (hne:∀ f2,nextL t.data.toList s.2=.error f2→cmdL t.data.toList req F (n+1) s=.error f2)
 (hcon:∀ W y,Mod b w W→RC W b t y rv mc mt→nextL t.data.toList s.2=.ok y→Calls Tryz.prog f #[.pointer (some ⟨b,0,none⟩),.agg #[.string (strA s.1.spelt),.int .i64 s.1.pos],.int .i64 d] W (RPost (cmdL t.data.toList req F (n+1) s) b t rv mc mt w (CmdV (n+1) (fromB w.heap.size)))) :
 Calls Tryz.prog 195 #[.pointer (some ⟨b,0,none⟩),.map (some mc),.int .i64 d] w (RPost (cmdL t.data.toList req F (n+1) s) b t rv mc mt w (CmdV (n+1) (fromB w.heap.size))):=by
 have h1:w.cell? ⟨b,1,none⟩=some (.int .i64 s.1.kind):=h.at_.cell 1
 have h2:w.cell? ⟨b,2,none⟩=some (.int .i64 s.1.pos):=h.at_.cell 2
 have h3:w.cell? ⟨b,3,none⟩=some (.string (strA s.1.spelt)):=h.at_.cell 3
 have hlk:=ht.look w s.1.spelt rfl
 rw [hfn] at hlk
 have H:=hide h
 have HU:=hide (mayUse_any s.1.spelt req b t s rv mc mt w h hr)
 rw [hu] at HU
 have HNE:=hide hne
 have HCON:=hide hcon
 have hlt:=h.at_.lt
 clear h ht hr hfn hu hne hcon
 simp only [Option.getD_some,Option.isSome_some] at hlk
 have hk':((s.1.kind:Int) != 1)=false:=by simp;omega
 clear hk1
 go_enter Tryz.func195,Tryz.ntmps195
 go_wp2_with fail
 refine (demand_yes b _ _ _ rfl).mono ?_
 rintro e w' ⟨rfl,hww⟩
 subst w'
 go_wp2_with fail
 refine (demand_yes b _ _ _ rfl).mono ?_
 rintro e w' ⟨rfl,hww⟩
 subst w'
 go_wp2_with fail
 refine HU.out.mono ?_
 rintro e w' ⟨rfl,hww⟩
 subst w'
 go_wp2_with fail
 refine (demand_yes b _ _ _ rfl).mono ?_
 rintro e w' ⟨rfl,hww⟩
 subst w'
 clear HU hlk
 go_wp2_with fail
 go_region
 all_goals go_wp2_with fail
 all_goals
  refine (next_rc b t s rv mc mt _ ((H.out.alloc _).drew)).mono ?_
  rintro e w2 (⟨y,hy,rfl,hc,hm⟩ | ⟨f2,hf2,⟨bb,hz,rfl,hcc⟩,hm⟩)
 all_goals first
  | exact ⟨rfl,RPost.err (HNE.out _ hf2) (((Mod.refl b w).alloc _).trans (mod_drew hm)) ⟨bb,by simp at hz;omega,rfl,hcc⟩⟩
  | skip
 all_goals
  obtain ⟨hh0,hh1,hmw⟩:=after_alloc hm hlt
  have HM:=hide hmw
  have HC:=hide hc
  have HCN:=hide (HCON.out _ y hmw hc hy)
  clear hm hc hy hmw
  go_wp2_with fail
  refine HCN.out.mono ?_
  intro e w3 h3'
  have HQ:=hide h3'
  clear h3'
  rcases HQ.out.cases with ⟨q,v,hq,rfl,hv,hc3,hm3⟩ | ⟨f3,hf3,⟨bb,hz,rfl,hcc⟩,hm3⟩
 all_goals first
  | exact ⟨rfl,RPost.err hf3 hm3 ⟨bb,hz,rfl,hcc⟩⟩
  | skip
 all_goals
  have HQ2:=hide (RPost.ok hq hm3 hv hc3)
  clear hq hm3 hv hc3 HQ
  go_wp2
  go_ret
  exact HQ2.out
theorem beginC_any (n:Nat) (req:List (List UInt8)) (d:Int) (b F:Nat) (t:ByteArray) (s:PS) (rv:Value) (mc mt p1 k1 p2 k2 p3 k3:Nat) (w:World) (h:RC w b t s rv mc mt) (ht:CMap w b mc p1 k1 p2 k2 p3 k3) (hr:ReqV w b rv req) (hF:2*t.size+1 < F) (hd0:0≤d) (hd:d≤6) (hS:SubMu t.size (cmdL t.data.toList req F n)) (ho1:SubOk 186 w b t rv mc mt (d+1) (testL t.data.toList req F n) (TestV n)) (ho:SubOk 143 w b t rv mc mt (d+1) (cmdL t.data.toList req F n) (CmdV n)) :
 Calls Tryz.prog 195 #[.pointer (some ⟨b,0,none⟩),.map (some mc),.int .i64 d] w (RPost (cmdL t.data.toList req F (n+1) s) b t rv mc mt w (CmdV (n+1) (fromB w.heap.size))):=by
 by_cases h0:whichL cmdNames s.1.spelt=0
 ·refine (beginC_unknown d b t s rv mc mt p1 k1 p2 k2 p3 k3 w h ht hd h0).mono ?_
  rintro e w1 ⟨h1,h2⟩
  exact RPost.err (by rw [cmdL,if_pos h0]) h2 h1
 have hk1:=cmd_kind h.nm h0
 cases hu:useOk req s.1.spelt
 ·obtain ⟨fv,hf⟩:=cmdFn_some (b:=b) (p1:=p1) (k1:=k1) (p2:=p2) (k2:=k2) (p3:=p3) (k3:=k3) h0
  refine (beginC_nouse fv req d b t s rv mc mt p1 k1 p2 k2 p3 k3 w h ht hr hd hk1 hf hu).mono ?_
  rintro e w1 ⟨h1,h2⟩
  exact RPost.err (by rw [cmdL,if_neg h0,if_neg (by rw [hu];decide)]) h2 h1
 have hle:=whichL_le cmdNames s.1.spelt
 have hl:cmdNames.length=8:=rfl
 rcases (by omega:whichL cmdNames s.1.spelt=0+1∨whichL cmdNames s.1.spelt=1+1∨whichL cmdNames s.1.spelt=2+1∨whichL cmdNames s.1.spelt=3+1∨whichL cmdNames s.1.spelt=4+1∨whichL cmdNames s.1.spelt=5+1∨whichL cmdNames s.1.spelt=6+1∨whichL cmdNames s.1.spelt=7+1) with hi | hi | hi | hi | hi | hi | hi | hi
 ·refine beginC_m 121 n req d b F t s rv mc mt p1 k1 p2 k2 p3 k3 w h ht hr hd0 hd hk1 hu (by unfold cmdFn;rw [hi];rfl) (fun _ _=>by kernel_rfl) (fun f2 hf2=>cmdL_nextErr hi hu hf2) (fun W y HM HC hy=>?_)
  have hsp:s.1.spelt=kKeep:=by have:=whichL_get _ _ _ hi;simpa [cmdNames] using this.symm
  have HE:=cmdL_body (F:=F) (n:=n) hi hu hy
  refine (keep_any s.1.spelt s.1.pos d b t y rv mc mt _ HC).mono ?_
  intro e w3 h3'
  exact RPost.lift (fun _=>((⟨0,s.1.pos,0,[],[],false⟩:CLab),[],[])) h3' HM (fun q hq=>HE.trans (semi_ok hq)) (fun f hf=>HE.trans (semi_err hf)) (fun a v _ hv=>by rw [hsp] at hv;exact hv)
 ·refine beginC_m 122 n req d b F t s rv mc mt p1 k1 p2 k2 p3 k3 w h ht hr hd0 hd hk1 hu (by unfold cmdFn;rw [hi];rfl) (fun _ _=>by kernel_rfl) (fun f2 hf2=>cmdL_nextErr hi hu hf2) (fun W y HM HC hy=>?_)
  have hsp:s.1.spelt=kDiscard:=by have:=whichL_get _ _ _ hi;simpa [cmdNames] using this.symm
  have HE:=cmdL_body (F:=F) (n:=n) hi hu hy
  refine (discard_any s.1.spelt s.1.pos d b t y rv mc mt _ HC).mono ?_
  intro e w3 h3'
  exact RPost.lift (fun _=>((⟨1,s.1.pos,0,[],[],false⟩:CLab),[],[])) h3' HM (fun q hq=>HE.trans (semi_ok hq)) (fun f hf=>HE.trans (semi_err hf)) (fun a v _ hv=>by rw [hsp] at hv;exact hv)
 ·refine beginC_m 123 n req d b F t s rv mc mt p1 k1 p2 k2 p3 k3 w h ht hr hd0 hd hk1 hu (by unfold cmdFn;rw [hi];rfl) (fun _ _=>by kernel_rfl) (fun f2 hf2=>cmdL_nextErr hi hu hf2) (fun W y HM HC hy=>?_)
  have hsp:s.1.spelt=kStop:=by have:=whichL_get _ _ _ hi;simpa [cmdNames] using this.symm
  have HE:=cmdL_body (F:=F) (n:=n) hi hu hy
  refine (stop_any s.1.spelt s.1.pos d b t y rv mc mt _ HC).mono ?_
  intro e w3 h3'
  exact RPost.lift (fun _=>((⟨2,s.1.pos,0,[],[],false⟩:CLab),[],[])) h3' HM (fun q hq=>HE.trans (semi_ok hq)) (fun f hf=>HE.trans (semi_err hf)) (fun a v _ hv=>by rw [hsp] at hv;exact hv)
 ·refine beginC_c 178 p1 k1 n req d b F t s rv mc mt p1 k1 p2 k2 p3 k3 w h ht hr hd0 hd hk1 hu (by unfold cmdFn;rw [hi];rfl) (fun _ _=>by kernel_rfl) (fun f2 hf2=>cmdL_nextErr hi hu hf2) (fun W y HM HC hy=>?_)
  have hsp:s.1.spelt=kFileinto:=by have:=whichL_get _ _ _ hi;simpa [cmdNames] using this.symm
  have HE:=cmdL_body (F:=F) (n:=n) hi hu hy
  refine (act1_any s.1.spelt s.1.pos d p1 k1 2 b t y rv mc mt _ HC (ht.mod HM).hp1 (ht.mod HM).hk1 (ht.mod HM).k1b).mono ?_
  intro e w3 h3'
  exact RPost.lift (fun x=>((⟨3,s.1.pos,0,x,[],false⟩:CLab),[],[])) h3' HM (fun q hq=>HE.trans (act_ok hq)) (fun f hf=>HE.trans (act_err hf)) (fun a v _ hv=>by rw [hsp] at hv;exact hv)
 ·refine beginC_c 178 p2 k2 n req d b F t s rv mc mt p1 k1 p2 k2 p3 k3 w h ht hr hd0 hd hk1 hu (by unfold cmdFn;rw [hi];rfl) (fun _ _=>by kernel_rfl) (fun f2 hf2=>cmdL_nextErr hi hu hf2) (fun W y HM HC hy=>?_)
  have hsp:s.1.spelt=kRedirect:=by have:=whichL_get _ _ _ hi;simpa [cmdNames] using this.symm
  have HE:=cmdL_body (F:=F) (n:=n) hi hu hy
  refine (act1_any s.1.spelt s.1.pos d p2 k2 3 b t y rv mc mt _ HC (ht.mod HM).hp2 (ht.mod HM).hk2 (ht.mod HM).k2b).mono ?_
  intro e w3 h3'
  exact RPost.lift (fun x=>((⟨4,s.1.pos,0,x,[],false⟩:CLab),[],[])) h3' HM (fun q hq=>HE.trans (act_ok hq)) (fun f hf=>HE.trans (act_err hf)) (fun a v _ hv=>by rw [hsp] at hv;exact hv)
 ·refine beginC_c 178 p3 k3 n req d b F t s rv mc mt p1 k1 p2 k2 p3 k3 w h ht hr hd0 hd hk1 hu (by unfold cmdFn;rw [hi];rfl) (fun _ _=>by kernel_rfl) (fun f2 hf2=>cmdL_nextErr hi hu hf2) (fun W y HM HC hy=>?_)
  have hsp:s.1.spelt=kReject:=by have:=whichL_get _ _ _ hi;simpa [cmdNames] using this.symm
  have HE:=cmdL_body (F:=F) (n:=n) hi hu hy
  refine (act1_any s.1.spelt s.1.pos d p3 k3 4 b t y rv mc mt _ HC (ht.mod HM).hp3 (ht.mod HM).hk3 (ht.mod HM).k3b).mono ?_
  intro e w3 h3'
  exact RPost.lift (fun x=>((⟨5,s.1.pos,0,x,[],false⟩:CLab),[],[])) h3' HM (fun q hq=>HE.trans (act_ok hq)) (fun f hf=>HE.trans (act_err hf)) (fun a v _ hv=>by rw [hsp] at hv;exact hv)
 ·refine beginC_m 125 n req d b F t s rv mc mt p1 k1 p2 k2 p3 k3 w h ht hr hd0 hd hk1 hu (by unfold cmdFn;rw [hi];rfl) (fun _ _=>by kernel_rfl) (fun f2 hf2=>cmdL_nextErr hi hu hf2) (fun W y HM HC hy=>?_)
  have hsp:s.1.spelt=kSet:=by have:=whichL_get _ _ _ hi;simpa [cmdNames] using this.symm
  have HE:=cmdL_body (F:=F) (n:=n) hi hu hy
  refine (set_any s.1.spelt s.1.pos d b t y rv mc mt _ HC).mono ?_
  intro e w3 h3'
  exact RPost.lift (fun x=>((⟨6,s.1.pos,x.1,x.2.2,x.2.1,false⟩:CLab),[],[])) h3' HM (fun q hq=>HE.trans (set_ok hq)) (fun f hf=>HE.trans (set_err hf)) (fun a v _ hv=>by rw [hsp] at hv;exact hv)
 ·refine beginC_m 126 n req d b F t s rv mc mt p1 k1 p2 k2 p3 k3 w h ht hr hd0 hd hk1 hu (by unfold cmdFn;rw [hi];rfl) (fun _ _=>by kernel_rfl) (fun f2 hf2=>cmdL_nextErr hi hu hf2) (fun W y HM HC hy=>?_)
  have hsp:s.1.spelt=kIf:=by have:=whichL_get _ _ _ hi;simpa [cmdNames] using this.symm
  have HE:=cmdL_body (F:=F) (n:=n) hi hu hy
  refine (choice_any (testL t.data.toList req F n) (TestV n) (cmdL t.data.toList req F n) (CmdV n) s.1.spelt s.1.pos d b F t y rv mc mt _ HC hF hd0 (by omega) (testV_tree n) (cmdV_tree n) hS (fun s g=>test_dn n s g) (fun s g=>cmd_dn n s g) (ho1.mod HM) (ho.mod HM)).mono ?_
  intro e w3 h3'
  exact RPost.lift (fun x=>((⟨7,s.1.pos,0,[],[],x.2.1⟩:CLab),x.1,x.2.2)) h3' HM (fun q hq=>HE.trans (if_ok hq)) (fun f hf=>HE.trans (if_err hf)) (fun a v _ hv=>by
   rw [hsp] at hv
   obtain ⟨av,ev,rfl,h1,h2,h3⟩:=hv
   exact ⟨av,ev,rfl,armsX.weak (testV_tree n) (cmdV_tree n) h2 h1 (fun k hk _=>Nat.le_trans HM.size hk),h2,h3.weak (cmdV_tree n) (fun k hk _=>Nat.le_trans HM.size hk)⟩)
theorem command_call {α:Type} (r:Except Flt (α×PS)) (val:α→World→Value→Prop) (d:Int) (b:Nat) (t:ByteArray) (s:PS) (rv:Value) (mc mt:Nat) (w:World) (h:RC w b t s rv mc mt)
 (hb:Calls Tryz.prog 195 #[.pointer (some ⟨b,0,none⟩),.map (some mc),.int .i64 d] w (RPost r b t rv mc mt w val)) :
 Calls Tryz.prog 143 #[.pointer (some ⟨b,0,none⟩),.int .i64 d] w (RPost r b t rv mc mt w val):=by
 have h8:w.cell? ⟨b,8,none⟩=some (.map (some mc)):=h.at_.cell 8
 have HB:=hide hb
 clear hb h
 go_enter Tryz.func143,Tryz.ntmps143
 go_wp2_with fail
 refine HB.out.mono ?_
 intro e w1 h1
 rcases h1.cases with ⟨q,v,hq,rfl,hv,hc3,hm3⟩ | ⟨f3,hf3,⟨bb,hz,rfl,hcc⟩,hm3⟩
 ·have HQ:=hide (RPost.ok hq hm3 hv hc3)
  clear h1 hq hm3 hv hc3
  go_wp2
  go_ret
  exact HQ.out
 ·exact ⟨rfl,RPost.err hf3 hm3 ⟨bb,hz,rfl,hcc⟩⟩
theorem command_any (req:List (List UInt8)) (b F:Nat) (t:ByteArray) (rv:Value) (mc mt pr pt pf p1 k1 p2 k2 p3 k3:Nat) (hF:2*t.size+1 < F) :
 ∀ (n:Nat),n≤7→∀ (w:World),TMap w b mt pr pt pf→CMap w b mc p1 k1 p2 k2 p3 k3→ReqV w b rv req→SubOk 143 w b t rv mc mt (7 - (n:Int)) (cmdL t.data.toList req F n) (CmdV n)
 | 0,_,w,ht,hcm,hr=>fun W s hm hc=>by
  refine command_call _ _ _ b t s rv mc mt W hc ?_
  refine (beginC_deep b t s rv mc mt p1 k1 p2 k2 p3 k3 W hc (hcm.mod hm)).mono ?_
  rintro e w1 ⟨h1,h2⟩
  refine RPost.err ?_ h2 h1
  rw [cmdL]
  split <;> rfl
 | n+1,hn,w,ht,hcm,hr=>fun W s hm hc=>by
  refine command_call _ _ _ b t s rv mc mt W hc ?_
  have ih:=command_any req b F t rv mc mt pr pt pf p1 k1 p2 k2 p3 k3 hF n (by omega) W (ht.mod hm) (hcm.mod hm) (hr.mod hm)
  have it:=test_ok req b F t rv mc mt pr pt pf hF n (by omega) W (ht.mod hm) (hr.mod hm)
  have e:(7:Int) - ((n+1:Nat):Int)+1=7 - (n:Int):=by omega
  exact beginC_any n req _ b F t s rv mc mt p1 k1 p2 k2 p3 k3 W hc (hcm.mod hm) (hr.mod hm) hF (by omega) (by omega) (cmd_mu t req F n) (by rw [e];exact it) (by rw [e];exact ih)
end Go.Proofs.YtgnkjijocdmniaaGreatDoor
