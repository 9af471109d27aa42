import Derived.BigRegion
import Derived.Test.YtbiclelojbfnbabGreatDoorZCAct
import Derived.Test.YtbiclelojbfnbabGreatDoorZPlainSpace2
namespace Go.Proofs.YtbiclelojbfnbabGreatDoor
set_option linter.unusedVariables false
set_option linter.unusedSimpArgs false
set_option maxRecDepth 100000
set_option maxHeartbeats 4000000
section
open Go.RowKit
attribute [local go_sem ↓] Go.wp_at_zero Go.wp_at_succ
theorem QaC:∀ (zs:List (List UInt8)) (x:List UInt8) (i:Nat),whichL zs x=i+1→zs[i]?=some x
 | [],x,i,h=>by simp [whichL] at h
 | s :: r,x,i,h=>by
  unfold whichL at h
  split at h
  ·rename_i e
   have:i=0:=by omega
   subst this;subst e;rfl
  ·split at h
   ·omega
   ·rename_i h1 h2
    obtain ⟨j,hj⟩:∃ j,whichL r x=j+1:=⟨whichL r x - 1,by omega⟩
    have hi:i=j+1:=by omega
    subst hi
    have:=QaC r x j hj
    simpa using this
theorem Qao.lift {α β:Type} {r:Except Flt (α×PS)} {R:Except Flt (β×PS)} {b:Nat} {t:ByteArray} {rv:Value} {mc mt:Nat} {w W w':World} {val:α→World→Value→Prop} {val':β→World→Value→Prop} {e:Ending} (g:α→β) (h:Qao r b t rv mc mt W val e w') (hm:Mod b w W) (hok:∀ y,r=.ok y→R=.ok (g y.1,y.2)) (herr:∀ f,r=.error f→R=.error f) (hval:∀ y v,r=.ok y→val y.1 w' v→val' (g y.1) w' v):Qao R b t rv mc mt w val' e w':=by
 rcases h.cases with ⟨y,v,hy,rfl,hv,hc,hm'⟩ | ⟨f,hf,ht,hm'⟩
 ·exact Qao.ok (hok y hy) (hm.trans hm') (hval _ _ hy hv) hc
 ·exact Qao.err (herr f hf) (hm.trans hm') (ht.up hm.size)
theorem Qbs {l:List UInt8} {req:List (List UInt8)} {F n k:Nat} {s:PS} {f:Flt} (hi:whichL testNames s.1.spelt=k+1) (hu:Qcl req s.1.spelt=true) (hn:nextL l s.2=.error f):Qbx l req F (n+1) s=.error f:=by
 rw [Qbx,if_neg (by omega),if_pos hu];exact Qa9 hn
theorem Qb8 {l:List UInt8} {req:List (List UInt8)} {F n k:Nat} {s y:PS} (hi:whichL testNames s.1.spelt=k+1) (hu:Qcl req s.1.spelt=true) (hn:nextL l s.2=.ok y):Qbx l req F (n+1) s=testBody l F (Qbx l req F n) k s.1.pos y:=by
 rw [Qbx,if_neg (by omega),if_pos hu]
 refine (QaX hn).trans ?_
 show testBody l F (Qbx l req F n) (whichL testNames s.1.spelt - 1) s.1.pos y=_
 rw [hi]
 rfl
theorem QiV {α:Type} (l:List UInt8) (F:Nat) (sub:PS→Except Flt (α×PS)) (pos:Nat) (s:PS):testBody l F sub 2 pos s=QaQ (sub s) fun t s1=>.ok ((⟨2,pos,0,false,[],[],0⟩,[t]),s1):=rfl
theorem QpF {α:Type} (l:List UInt8) (F:Nat) (sub:PS→Except Flt (α×PS)) (pos:Nat) (s:PS):testBody l F sub 0 pos s=.ok ((⟨0,pos,0,false,[],[],0⟩,[]),s):=rfl
theorem QpT {α:Type} (l:List UInt8) (F:Nat) (sub:PS→Except Flt (α×PS)) (pos:Nat) (s:PS):testBody l F sub 1 pos s=.ok ((⟨1,pos,0,false,[],[],0⟩,[]),s):=rfl
theorem Qi8 {α:Type} (l:List UInt8) (F:Nat) (sub:PS→Except Flt (α×PS)) (pos:Nat) (s:PS):testBody l F sub 3 pos s=QaQ (QcS l F sub s) fun ts s1=>.ok ((⟨3,pos,0,false,[],[],0⟩,ts),s1):=rfl
theorem Qjc {α:Type} (l:List UInt8) (F:Nat) (sub:PS→Except Flt (α×PS)) (pos:Nat) (s:PS):testBody l F sub 4 pos s=QaQ (QcS l F sub s) fun ts s1=>.ok ((⟨4,pos,0,false,[],[],0⟩,ts),s1):=rfl
theorem Qi9 {α:Type} (l:List UInt8) (F:Nat) (sub:PS→Except Flt (α×PS)) (pos:Nat) (s:PS):testBody l F sub 5 pos s=QaQ (QbR l F (fun _=>0) 5 pos s) fun x s1=>.ok ((x,[]),s1):=rfl
theorem Qji {α:Type} (l:List UInt8) (F:Nat) (sub:PS→Except Flt (α×PS)) (pos:Nat) (s:PS):testBody l F sub 6 pos s=QaQ (QbR l F (Qdl (Qcs 7 [Qh0,kTo])) 6 pos s) fun x s1=>.ok ((x,[]),s1):=rfl
theorem QiS {α:Type} (l:List UInt8) (F:Nat) (sub:PS→Except Flt (α×PS)) (pos:Nat) (s:PS):testBody l F sub 7 pos s=QaQ (QbR l F (fun _=>0) 7 pos s) fun x s1=>.ok ((x,[]),s1):=rfl
theorem Qi1 {α:Type} (l:List UInt8) (F:Nat) (sub:PS→Except Flt (α×PS)) (pos:Nat) (s:PS):testBody l F sub 8 pos s=QaQ (stringsL l (fun _=>0) F s) fun xs s1=>.ok ((⟨8,pos,0,false,xs,[],0⟩,[]),s1):=rfl
theorem QiQ {α:Type} (l:List UInt8) (F:Nat) (sub:PS→Except Flt (α×PS)) (pos:Nat) (s:PS):testBody l F sub 9 pos s=QaQ (sizeL l pos s) fun x s1=>.ok ((x,[]),s1):=rfl
theorem Qft {l:List UInt8} {F:Nat} {chk:List UInt8→Nat} {k pos:Nat} {s:PS} {y:QdG×PS} (h:QbR l F chk k pos s=.ok y):y.1.kind=k∧y.1.pos=pos:=by
 unfold QbR at h
 cases h1:QdJ l F 0 false false s with
 | error f=>rw [Qae h1] at h;cases h
 | ok a=>
  rw [Qac h1] at h
  cases h2:stringsL l chk F a.2 with
  | error f=>rw [Qae h2] at h;cases h
  | ok c=>
   rw [Qac h2] at h
   cases h3:stringsL l (fun _=>0) F c.2 with
   | error f=>rw [Qae h3] at h;cases h
   | ok e=>rw [Qac h3] at h;cases h;exact ⟨rfl,rfl⟩
theorem Qjn {l:List UInt8} {pos:Nat} {s:PS} {y:QdG×PS} (h:sizeL l pos s=.ok y):y.1.kind=9∧y.1.pos=pos:=by
 unfold sizeL at h
 cases h1:passL l [QfB,Qdx] s with
 | error f=>rw [Qae h1] at h;cases h
 | ok a=>
  rw [Qac h1] at h
  split at h
  ·cases h2:nextL l a.2.2 with
   | error f=>rw [Qa9 h2] at h;cases h
   | ok c=>rw [QaX h2] at h;cases h;exact ⟨rfl,rfl⟩
  ·cases h
theorem mtV.toX {B:Nat} {hw:List UInt8} {x:QdG} {w:World} {v:Value} (h:mtV B hw x w v):mtX (fromB B) hw x w v:=h
theorem Qd6 {w w2:World} {b:Nat} {sp:List UInt8} {p:Nat} (hm:Mod b (w.alloc (.cells #[.string (Qag sp),.int .i64 p] 200)).drew w2) (hb:b < w.heap.size):w2.cell? ⟨w.heap.size,0,none⟩=some (.string (Qag sp))∧w2.cell? ⟨w.heap.size,1,none⟩=some (.int .i64 p)∧Mod b w w2:=
 ⟨(Qfe sp p (QaR hm) hb).1,(Qfe sp p (QaR hm) hb).2,((Mod.refl b w).alloc _).trans (QaR hm)⟩
theorem Qer (f:FuncId) (q:Nat) (n:Nat) (req:List (List UInt8)) (d:Int) (b F:Nat) (t:ByteArray) (s:PS) (rv:Value) (mc mt pr pt pf:Nat) (w:World) (h:RC w b t s rv mc mt) (ht:QmA w b mt pr pt pf) (hr:Qjq w b rv req) (hd0:0≤d) (hd:d≤6) (hk1:s.1.kind=1) (hu:Qcl req s.1.spelt=true)
 (hfn:testFn b pr pt pf s.1.spelt=some (.func (.func f) #[] #[.pointer (some ⟨q,0,none⟩)])) (hcf:∀ args W,(callFunc f args).run Tryz.prog W=.ok (.enter f args) W) (hne:∀ f2,nextL t.data.toList s.2=.error f2→Qbx t.data.toList req F (n+1) s=.error f2)
 (hcon:∀ W y,Mod b w W→RC W b t y rv mc mt→nextL t.data.toList s.2=.ok y→Calls Tryz.prog f #[.agg #[.string (Qag s.1.spelt),.int .i64 s.1.pos],.int .i64 d,.pointer (some ⟨q,0,none⟩)] W (Qao (Qbx t.data.toList req F (n+1) s) b t rv mc mt w (TestV (n+1) (fromB w.heap.size)))) :
 Calls Tryz.prog 207 #[.pointer (some ⟨b,0,none⟩),.map (some mt),.int .i64 d] w (Qao (Qbx t.data.toList req F (n+1) s) b t rv mc mt w (TestV (n+1) (fromB w.heap.size))):=by
 have h1:w.cell? ⟨b,1,none⟩=some (.int .i64 s.1.kind):=h.at_.cell 1
 have h2:w.cell? ⟨b,2,none⟩=some (.int .i64 s.1.pos):=h.at_.cell 2
 have h3:w.cell? ⟨b,3,none⟩=some (.string (Qag s.1.spelt)):=h.at_.cell 3
 have hlk:=ht.look w s.1.spelt rfl
 rw [hfn] at hlk
 have H:=Qaa h
 have HU:=Qaa (Qdt s.1.spelt req b t s rv mc mt w h hr)
 rw [hu] at HU
 have HNE:=Qaa hne
 have HCON:=Qaa hcon
 have hlt:=h.at_.lt
 clear h ht hr hfn hu hne hcon
 simp only [Option.getD_some,Option.isSome_some] at hlk
 have hk':((s.1.kind:Int) != 1)=false:=by simp;omega
 clear hk1
 go_enter Tryz.func207,Tryz.ntmps207
 go_wp2_with fail
 refine (QaF b _ _ _ rfl).mono ?_
 rintro e w' ⟨rfl,hww⟩
 subst w'
 go_wp2_with fail
 refine (QaF b _ _ _ rfl).mono ?_
 rintro e w' ⟨rfl,hww⟩
 subst w'
 go_wp2_with fail
 refine HU.out.mono ?_
 rintro e w' ⟨rfl,hww⟩
 subst w'
 go_wp2_with fail
 refine (QaF b _ _ _ rfl).mono ?_
 rintro e w' ⟨rfl,hww⟩
 subst w'
 clear HU hlk
 go_wp2_with fail
 go_region
 all_goals go_wp2_with fail
 all_goals
  refine (QcJ b t s rv mc mt _ ((H.out.alloc _).drew)).mono ?_
  rintro e w2 (⟨y,hy,rfl,hc,hm⟩ | ⟨f2,hf2,⟨bb,hz,rfl,hcc⟩,hm⟩)
 all_goals first
  | exact ⟨rfl,Qao.err (HNE.out _ hf2) (((Mod.refl b w).alloc _).trans (QaR hm)) ⟨bb,by simp at hz;omega,rfl,hcc⟩⟩
  | skip
 all_goals
  obtain ⟨hh0,hh1,hmw⟩:=Qd6 hm hlt
  have HM:=Qaa hmw
  have HC:=Qaa hc
  have HCN:=Qaa (HCON.out _ y hmw hc hy)
  clear hm hc hy hmw
  go_wp2_with fail
  refine HCN.out.mono ?_
  intro e w3 h3'
  have HQ:=Qaa h3'
  clear h3'
  rcases HQ.out.cases with ⟨q,v,hq,rfl,hv,hc3,hm3⟩ | ⟨f3,hf3,⟨bb,hz,rfl,hcc⟩,hm3⟩
 all_goals first
  | exact ⟨rfl,Qao.err hf3 hm3 ⟨bb,hz,rfl,hcc⟩⟩
  | skip
 all_goals
  have HQ2:=Qaa (Qao.ok hq hm3 hv hc3)
  clear hq hm3 hv hc3 HQ
  go_wp2
  go_ret
  exact HQ2.out
theorem Qj0 (f:FuncId) (n:Nat) (req:List (List UInt8)) (d:Int) (b F:Nat) (t:ByteArray) (s:PS) (rv:Value) (mc mt pr pt pf:Nat) (w:World) (h:RC w b t s rv mc mt) (ht:QmA w b mt pr pt pf) (hr:Qjq w b rv req) (hd0:0≤d) (hd:d≤6) (hk1:s.1.kind=1) (hu:Qcl req s.1.spelt=true)
 (hfn:testFn b pr pt pf s.1.spelt=some (.func (.func f) #[.pointer (some ⟨b,0,none⟩)] #[])) (hcf:∀ args W,(callFunc f args).run Tryz.prog W=.ok (.enter f args) W) (hne:∀ f2,nextL t.data.toList s.2=.error f2→Qbx t.data.toList req F (n+1) s=.error f2)
 (hcon:∀ W y,Mod b w W→RC W b t y rv mc mt→nextL t.data.toList s.2=.ok y→Calls Tryz.prog f #[.pointer (some ⟨b,0,none⟩),.agg #[.string (Qag s.1.spelt),.int .i64 s.1.pos],.int .i64 d] W (Qao (Qbx t.data.toList req F (n+1) s) b t rv mc mt w (TestV (n+1) (fromB w.heap.size)))) :
 Calls Tryz.prog 207 #[.pointer (some ⟨b,0,none⟩),.map (some mt),.int .i64 d] w (Qao (Qbx t.data.toList req F (n+1) s) b t rv mc mt w (TestV (n+1) (fromB w.heap.size))):=by
 have h1:w.cell? ⟨b,1,none⟩=some (.int .i64 s.1.kind):=h.at_.cell 1
 have h2:w.cell? ⟨b,2,none⟩=some (.int .i64 s.1.pos):=h.at_.cell 2
 have h3:w.cell? ⟨b,3,none⟩=some (.string (Qag s.1.spelt)):=h.at_.cell 3
 have hlk:=ht.look w s.1.spelt rfl
 rw [hfn] at hlk
 have H:=Qaa h
 have HU:=Qaa (Qdt s.1.spelt req b t s rv mc mt w h hr)
 rw [hu] at HU
 have HNE:=Qaa hne
 have HCON:=Qaa hcon
 have hlt:=h.at_.lt
 clear h ht hr hfn hu hne hcon
 simp only [Option.getD_some,Option.isSome_some] at hlk
 have hk':((s.1.kind:Int) != 1)=false:=by simp;omega
 clear hk1
 go_enter Tryz.func207,Tryz.ntmps207
 go_wp2_with fail
 refine (QaF b _ _ _ rfl).mono ?_
 rintro e w' ⟨rfl,hww⟩
 subst w'
 go_wp2_with fail
 refine (QaF b _ _ _ rfl).mono ?_
 rintro e w' ⟨rfl,hww⟩
 subst w'
 go_wp2_with fail
 refine HU.out.mono ?_
 rintro e w' ⟨rfl,hww⟩
 subst w'
 go_wp2_with fail
 refine (QaF b _ _ _ rfl).mono ?_
 rintro e w' ⟨rfl,hww⟩
 subst w'
 clear HU hlk
 go_wp2_with fail
 go_region
 all_goals go_wp2_with fail
 all_goals
  refine (QcJ b t s rv mc mt _ ((H.out.alloc _).drew)).mono ?_
  rintro e w2 (⟨y,hy,rfl,hc,hm⟩ | ⟨f2,hf2,⟨bb,hz,rfl,hcc⟩,hm⟩)
 all_goals first
  | exact ⟨rfl,Qao.err (HNE.out _ hf2) (((Mod.refl b w).alloc _).trans (QaR hm)) ⟨bb,by simp at hz;omega,rfl,hcc⟩⟩
  | skip
 all_goals
  obtain ⟨hh0,hh1,hmw⟩:=Qd6 hm hlt
  have HM:=Qaa hmw
  have HC:=Qaa hc
  have HCN:=Qaa (HCON.out _ y hmw hc hy)
  clear hm hc hy hmw
  go_wp2_with fail
  refine HCN.out.mono ?_
  intro e w3 h3'
  have HQ:=Qaa h3'
  clear h3'
  rcases HQ.out.cases with ⟨q,v,hq,rfl,hv,hc3,hm3⟩ | ⟨f3,hf3,⟨bb,hz,rfl,hcc⟩,hm3⟩
 all_goals first
  | exact ⟨rfl,Qao.err hf3 hm3 ⟨bb,hz,rfl,hcc⟩⟩
  | skip
 all_goals
  have HQ2:=Qaa (Qao.ok hq hm3 hv hc3)
  clear hq hm3 hv hc3 HQ
  go_wp2
  go_ret
  exact HQ2.out
end
section
open Go.RowKit
theorem QgW:∀ z∈testNames,∀ c r,z=c :: r→Qbg c.toNat=true:=by
 intro z hz c r e
 simp [testNames] at hz
 rcases hz with h | h | h | h | h | h | h | h | h | h <;> subst h <;> cases e <;> decide
theorem QlJ:∀ z∈testNames,z≠[]:=by decide
theorem QiX {zs:List (List UInt8)} {x:List UInt8} (h:¬ whichL zs x=0):x∈zs:=by
 obtain ⟨i,hi⟩:∃ i,whichL zs x=i+1:=⟨whichL zs x - 1,by omega⟩
 exact List.mem_of_getElem? (QaC zs x i hi)
theorem Qk3 {s:PS} (hn:¬ s.1.kind=1→Qjj s.1.spelt) (h:¬ whichL testNames s.1.spelt=0):s.1.kind=1:=by
 apply Classical.byContradiction
 intro hk
 have hm:=QiX h
 have hne:=QlJ _ hm
 cases hsp:s.1.spelt with
 | nil=>exact hne hsp
 | cons c r=>
  have h1:=QgW _ hm c r hsp
  have h2:=hn hk c r hsp
  rw [h1] at h2
  cases h2
theorem QlV (fv:Value) (req:List (List UInt8)) (d:Int) (b:Nat) (t:ByteArray) (s:PS) (rv:Value) (mc mt pr pt pf:Nat) (w:World) (h:RC w b t s rv mc mt) (ht:QmA w b mt pr pt pf) (hr:Qjq w b rv req) (hd:d≤6) (hk1:s.1.kind=1) (hf:testFn b pr pt pf s.1.spelt=some fv) (hu:Qcl req s.1.spelt=false) :
 Calls Tryz.prog 207 #[.pointer (some ⟨b,0,none⟩),.map (some mt),.int .i64 d] w fun e w'=>QcR ⟨6,s.1.pos⟩ w e w'∧Mod b w w':=by
 have h1:w.cell? ⟨b,1,none⟩=some (.int .i64 s.1.kind):=h.at_.cell 1
 have h3:w.cell? ⟨b,3,none⟩=some (.string (Qag s.1.spelt)):=h.at_.cell 3
 have hlk:=ht.look w s.1.spelt rfl
 rw [hf] at hlk
 have H:=Qaa h
 have HU:=Qaa (Qdt s.1.spelt req b t s rv mc mt w h hr)
 rw [hu] at HU
 clear h ht hr hf hu
 simp only [Option.getD_some,Option.isSome_some] at hlk
 have hk':((s.1.kind:Int) != 1)=false:=by simp;omega
 clear hk1
 go_enter Tryz.func207,Tryz.ntmps207
 go_wp2_with fail
 refine (QaF b _ _ _ rfl).mono ?_
 rintro e w' ⟨rfl,hww⟩
 subst w'
 go_wp2_with fail
 refine (QaF b _ _ _ rfl).mono ?_
 rintro e w' ⟨rfl,hww⟩
 subst w'
 go_wp2_with fail
 refine HU.out.mono ?_
 rintro e w' ⟨rfl,hww⟩
 subst w'
 go_wp2_with fail
 refine (Qbe b 6 _ _ t s.1 s.2 rv mc mt _ H.out.at_ rfl rfl).mono ?_
 rintro e w1 ⟨⟨bb,hz,rfl,hcc⟩,hm⟩
 exact ⟨rfl,⟨bb,hz,rfl,hcc⟩,Mod.of_below hm⟩
theorem QmP (b:Nat) (t:ByteArray) (s:PS) (rv:Value) (mc mt pr pt pf:Nat) (w:World) (h:RC w b t s rv mc mt) (ht:QmA w b mt pr pt pf) :
 Calls Tryz.prog 207 #[.pointer (some ⟨b,0,none⟩),.map (some mt),.int .i64 7] w fun e w'=>QcR ⟨if s.1.kind=1 then 5 else 4,s.1.pos⟩ w e w'∧Mod b w w':=by
 have h1:w.cell? ⟨b,1,none⟩=some (.int .i64 s.1.kind):=h.at_.cell 1
 have h3:w.cell? ⟨b,3,none⟩=some (.string (Qag s.1.spelt)):=h.at_.cell 3
 have hlk:=ht.look w s.1.spelt rfl
 have H:=Qaa h
 by_cases hk:s.1.kind=1
 ·rw [if_pos hk]
  have hk':((s.1.kind:Int) != 1)=false:=by simp;omega
  clear hk h ht hlk
  go_enter Tryz.func207,Tryz.ntmps207
  go_wp2_with fail
  refine (Qbe b 5 _ _ t s.1 s.2 rv mc mt _ H.out.at_ rfl rfl).mono ?_
  rintro e w1 ⟨⟨bb,hz,rfl,hcc⟩,hm⟩
  exact ⟨rfl,⟨bb,hz,rfl,hcc⟩,Mod.of_below hm⟩
 ·rw [if_neg hk]
  have h0:whichL testNames s.1.spelt=0:=by
   apply Classical.byContradiction
   intro h0
   exact hk (Qk3 h.nm h0)
  rw [Qh3 h0] at hlk
  have hk':((s.1.kind:Int) != 1)=true:=by simp;omega
  clear hk h ht h0
  simp only [Option.getD_none,Option.isSome_none] at hlk
  go_enter Tryz.func207,Tryz.ntmps207
  go_wp2_with fail
  refine (QaF b _ _ _ rfl).mono ?_
  rintro e w' ⟨rfl,hww⟩
  subst w'
  go_wp2_with fail
  refine (Qbe b 4 _ _ t s.1 s.2 rv mc mt _ H.out.at_ rfl rfl).mono ?_
  rintro e w1 ⟨⟨bb,hz,rfl,hcc⟩,hm⟩
  exact ⟨rfl,⟨bb,hz,rfl,hcc⟩,Mod.of_below hm⟩
theorem Qny {b pr pt pf:Nat} {x:List UInt8} (h:¬ whichL testNames x=0):∃ fv,testFn b pr pt pf x=some fv:=by
 have hle:=QbM testNames x
 have hl:testNames.length=10:=rfl
 unfold testFn
 generalize whichL testNames x=i at *
 rcases (by omega:i=1∨i=2∨i=3∨i=4∨i=5∨i=6∨i=7∨i=8∨i=9∨i=10) with h | h | h | h | h | h | h | h | h | h <;> subst h <;> exact ⟨_,rfl⟩
theorem QpK (n:Nat) (req:List (List UInt8)) (d:Int) (b F:Nat) (t:ByteArray) (s:PS) (rv:Value) (mc mt pr pt pf:Nat) (w:World) (h:RC w b t s rv mc mt) (ht:QmA w b mt pr pt pf) (hr:Qjq w b rv req) (hF:2*t.size+1 < F) (hd0:0≤d) (hd:d≤6) (hS:SubMu t.size (Qbx t.data.toList req F n)) (ho:QeA 168 w b t rv mc mt (d+1) (Qbx t.data.toList req F n) (TestV n)) :
 Calls Tryz.prog 207 #[.pointer (some ⟨b,0,none⟩),.map (some mt),.int .i64 d] w (Qao (Qbx t.data.toList req F (n+1) s) b t rv mc mt w (TestV (n+1) (fromB w.heap.size))):=by
 by_cases h0:whichL testNames s.1.spelt=0
 ·refine (Qit d b t s rv mc mt pr pt pf w h ht hd h0).mono ?_
  rintro e w1 ⟨h1,h2⟩
  exact Qao.err (by rw [Qbx,if_pos h0]) h2 h1
 have hk1:=Qk3 h.nm h0
 cases hu:Qcl req s.1.spelt
 ·obtain ⟨fv,hf⟩:=Qny (b:=b) (pr:=pr) (pt:=pt) (pf:=pf) h0
  refine (QlV fv req d b t s rv mc mt pr pt pf w h ht hr hd hk1 hf hu).mono ?_
  rintro e w1 ⟨h1,h2⟩
  exact Qao.err (by rw [Qbx,if_neg h0,if_neg (by rw [hu];decide)]) h2 h1
 have hle:=QbM testNames s.1.spelt
 have hl:testNames.length=10:=rfl
 rcases (by omega:whichL testNames s.1.spelt=0+1∨whichL testNames s.1.spelt=1+1∨whichL testNames s.1.spelt=2+1∨whichL testNames s.1.spelt=3+1∨whichL testNames s.1.spelt=4+1∨whichL testNames s.1.spelt=5+1∨whichL testNames s.1.spelt=6+1∨whichL testNames s.1.spelt=7+1∨whichL testNames s.1.spelt=8+1∨whichL testNames s.1.spelt=9+1) with hi | hi | hi | hi | hi | hi | hi | hi | hi | hi
 ·refine Qer 167 pt n req d b F t s rv mc mt pr pt pf w h ht hr hd0 hd hk1 hu (by unfold testFn;rw [hi];rfl) (fun _ _=>by kernel_rfl) (fun f2 hf2=>Qbs hi hu hf2) (fun W y HM HC hy=>?_)
  have hsp:s.1.spelt=Qfk:=by have:=QaC _ _ _ hi;simpa [testNames] using this.symm
  have HE:=Qb8 (F:=F) (n:=n) hi hu hy
  refine (Qjp s.1.spelt s.1.pos d pt true _ (ht.mod HM).hpt).mono ?_
  intro e w3 h3'
  obtain ⟨rfl,hb⟩:=h3'
  exact Qao.ok (HE.trans (QpF _ _ _ _ _)) (HM.trans (Mod.of_below hb)) ⟨rfl,by rw [hsp]⟩ (HC.below hb)
 ·refine Qer 167 pf n req d b F t s rv mc mt pr pt pf w h ht hr hd0 hd hk1 hu (by unfold testFn;rw [hi];rfl) (fun _ _=>by kernel_rfl) (fun f2 hf2=>Qbs hi hu hf2) (fun W y HM HC hy=>?_)
  have hsp:s.1.spelt=QdA:=by have:=QaC _ _ _ hi;simpa [testNames] using this.symm
  have HE:=Qb8 (F:=F) (n:=n) hi hu hy
  refine (Qjp s.1.spelt s.1.pos d pf false _ (ht.mod HM).hpf).mono ?_
  intro e w3 h3'
  obtain ⟨rfl,hb⟩:=h3'
  exact Qao.ok (HE.trans (QpT _ _ _ _ _)) (HM.trans (Mod.of_below hb)) ⟨rfl,by rw [hsp]⟩ (HC.below hb)
 ·refine Qj0 108 n req d b F t s rv mc mt pr pt pf w h ht hr hd0 hd hk1 hu (by unfold testFn;rw [hi];rfl) (fun _ _=>by kernel_rfl) (fun f2 hf2=>Qbs hi hu hf2) (fun W y HM HC hy=>?_)
  have hsp:s.1.spelt=kNot:=by have:=QaC _ _ _ hi;simpa [testNames] using this.symm
  have HE:=Qb8 (F:=F) (n:=n) hi hu hy
  refine (QtC (Qbx t.data.toList req F n) (TestV n) s.1.spelt s.1.pos d b t y rv mc mt _ HC hd0 (by omega) (Qbq n) (ho.mod HM)).mono ?_
  intro e w3 h3'
  exact Qao.lift (fun a=>((⟨2,s.1.pos,0,false,[],[],0⟩:QdG),[a])) h3' HM (fun q hq=>HE.trans ((QiV _ _ _ _ _).trans (Qac hq))) (fun f hf=>HE.trans ((QiV _ _ _ _ _).trans (Qae hf))) (fun a v _ hv=>by obtain ⟨u,rfl,hu⟩:=hv;exact ⟨a.1,u,rfl,by rw [hsp],(Qbq n).weak _ _ _ _ _ hu (fun k hk _=>Nat.le_trans HM.size hk)⟩)
 ·refine Qer 109 pr n req d b F t s rv mc mt pr pt pf w h ht hr hd0 hd hk1 hu (by unfold testFn;rw [hi];rfl) (fun _ _=>by kernel_rfl) (fun f2 hf2=>Qbs hi hu hf2) (fun W y HM HC hy=>?_)
  have hsp:s.1.spelt=QcG:=by have:=QaC _ _ _ hi;simpa [testNames] using this.symm
  have HE:=Qb8 (F:=F) (n:=n) hi hu hy
  refine (Qrr (Qbx t.data.toList req F n) (TestV n) s.1.spelt s.1.pos d pr b F t y rv mc mt _ HC (ht.mod HM).hpr hF hd0 (by omega) (Qbq n) hS (ho.mod HM)).mono ?_
  intro e w3 h3'
  exact Qao.lift (fun xs=>((⟨3,s.1.pos,0,false,[],[],0⟩:QdG),xs)) h3' HM (fun q hq=>HE.trans ((Qi8 _ _ _ _ _).trans (Qac hq))) (fun f hf=>HE.trans ((Qi8 _ _ _ _ _).trans (Qae hf))) (fun a v _ hv=>by obtain ⟨u,rfl,hu,hne⟩:=hv;exact ⟨u,by rw [hsp],trX.weak (Qbq n) hne hu (fun k hk _=>Nat.le_trans HM.size hk),hne⟩)
 ·refine Qer 111 pr n req d b F t s rv mc mt pr pt pf w h ht hr hd0 hd hk1 hu (by unfold testFn;rw [hi];rfl) (fun _ _=>by kernel_rfl) (fun f2 hf2=>Qbs hi hu hf2) (fun W y HM HC hy=>?_)
  have hsp:s.1.spelt=QcF:=by have:=QaC _ _ _ hi;simpa [testNames] using this.symm
  have HE:=Qb8 (F:=F) (n:=n) hi hu hy
  refine (QqX (Qbx t.data.toList req F n) (TestV n) s.1.spelt s.1.pos d pr b F t y rv mc mt _ HC (ht.mod HM).hpr hF hd0 (by omega) (Qbq n) hS (ho.mod HM)).mono ?_
  intro e w3 h3'
  exact Qao.lift (fun xs=>((⟨4,s.1.pos,0,false,[],[],0⟩:QdG),xs)) h3' HM (fun q hq=>HE.trans ((Qjc _ _ _ _ _).trans (Qac hq))) (fun f hf=>HE.trans ((Qjc _ _ _ _ _).trans (Qae hf))) (fun a v _ hv=>by obtain ⟨u,rfl,hu,hne⟩:=hv;exact ⟨u,by rw [hsp],trX.weak (Qbq n) hne hu (fun k hk _=>Nat.le_trans HM.size hk),hne⟩)
 ·refine Qer 112 pr n req d b F t s rv mc mt pr pt pf w h ht hr hd0 hd hk1 hu (by unfold testFn;rw [hi];rfl) (fun _ _=>by kernel_rfl) (fun f2 hf2=>Qbs hi hu hf2) (fun W y HM HC hy=>?_)
  have hsp:s.1.spelt=QbA:=by have:=QaC _ _ _ hi;simpa [testNames] using this.symm
  have HE:=Qb8 (F:=F) (n:=n) hi hu hy
  refine (QoD s.1.spelt s.1.pos d pr b F t y rv mc mt _ HC (ht.mod HM).hpr hF).mono ?_
  intro e w3 h3'
  exact Qao.lift (fun x=>(x,[])) h3' HM (fun q hq=>HE.trans ((Qi9 _ _ _ _ _).trans (Qac hq))) (fun f hf=>HE.trans ((Qi9 _ _ _ _ _).trans (Qae hf))) (fun a v ha hv=>by
   obtain ⟨u,rfl,hu⟩:=hv
   rw [hsp] at hu
   show Qeh _ _ _ _ _
   unfold Qeh
   rw [(Qft ha).1]
   exact ⟨rfl,u,rfl,hu.toX.weak (fun k hk _=>Nat.le_trans HM.size hk)⟩)
 ·refine Qer 115 pr n req d b F t s rv mc mt pr pt pf w h ht hr hd0 hd hk1 hu (by unfold testFn;rw [hi];rfl) (fun _ _=>by kernel_rfl) (fun f2 hf2=>Qbs hi hu hf2) (fun W y HM HC hy=>?_)
  have hsp:s.1.spelt=QaH:=by have:=QaC _ _ _ hi;simpa [testNames] using this.symm
  have HE:=Qb8 (F:=F) (n:=n) hi hu hy
  refine (QkO s.1.spelt s.1.pos d pr b F t y rv mc mt _ HC (ht.mod HM).hpr hF).mono ?_
  intro e w3 h3'
  exact Qao.lift (fun x=>(x,[])) h3' HM (fun q hq=>HE.trans ((Qji _ _ _ _ _).trans (Qac hq))) (fun f hf=>HE.trans ((Qji _ _ _ _ _).trans (Qae hf))) (fun a v ha hv=>by
   obtain ⟨u,rfl,hu⟩:=hv
   rw [hsp] at hu
   show Qeh _ _ _ _ _
   unfold Qeh
   rw [(Qft ha).1]
   exact ⟨rfl,u,rfl,hu.toX.weak (fun k hk _=>Nat.le_trans HM.size hk)⟩)
 ·refine Qer 118 pr n req d b F t s rv mc mt pr pt pf w h ht hr hd0 hd hk1 hu (by unfold testFn;rw [hi];rfl) (fun _ _=>by kernel_rfl) (fun f2 hf2=>Qbs hi hu hf2) (fun W y HM HC hy=>?_)
  have hsp:s.1.spelt=Qbu:=by have:=QaC _ _ _ hi;simpa [testNames] using this.symm
  have HE:=Qb8 (F:=F) (n:=n) hi hu hy
  refine (Qmo s.1.spelt s.1.pos d pr b F t y rv mc mt _ HC (ht.mod HM).hpr hF).mono ?_
  intro e w3 h3'
  exact Qao.lift (fun x=>(x,[])) h3' HM (fun q hq=>HE.trans ((QiS _ _ _ _ _).trans (Qac hq))) (fun f hf=>HE.trans ((QiS _ _ _ _ _).trans (Qae hf))) (fun a v ha hv=>by
   obtain ⟨u,rfl,hu⟩:=hv
   rw [hsp] at hu
   show Qeh _ _ _ _ _
   unfold Qeh
   rw [(Qft ha).1]
   exact ⟨rfl,u,rfl,hu.toX.weak (fun k hk _=>Nat.le_trans HM.size hk)⟩)
 ·refine Qj0 119 n req d b F t s rv mc mt pr pt pf w h ht hr hd0 hd hk1 hu (by unfold testFn;rw [hi];rfl) (fun _ _=>by kernel_rfl) (fun f2 hf2=>Qbs hi hu hf2) (fun W y HM HC hy=>?_)
  have hsp:s.1.spelt=QbJ:=by have:=QaC _ _ _ hi;simpa [testNames] using this.symm
  have HE:=Qb8 (F:=F) (n:=n) hi hu hy
  refine (QpL s.1.spelt s.1.pos d b F t y rv mc mt _ HC hF).mono ?_
  intro e w3 h3'
  exact Qao.lift (fun xs=>((⟨8,s.1.pos,0,false,xs,[],0⟩:QdG),[])) h3' HM (fun q hq=>HE.trans ((Qi1 _ _ _ _ _).trans (Qac hq))) (fun f hf=>HE.trans ((Qi1 _ _ _ _ _).trans (Qae hf))) (fun a v _ hv=>by obtain ⟨u,rfl,hu⟩:=hv;exact ⟨rfl,u,by rw [hsp],hu.toX.weak (fun k hk _=>Nat.le_trans HM.size hk)⟩)
 ·refine Qj0 120 n req d b F t s rv mc mt pr pt pf w h ht hr hd0 hd hk1 hu (by unfold testFn;rw [hi];rfl) (fun _ _=>by kernel_rfl) (fun f2 hf2=>Qbs hi hu hf2) (fun W y HM HC hy=>?_)
  have hsp:s.1.spelt=Qd4:=by have:=QaC _ _ _ hi;simpa [testNames] using this.symm
  have HE:=Qb8 (F:=F) (n:=n) hi hu hy
  refine (Qsg s.1.spelt s.1.pos d b t y rv mc mt _ HC).mono ?_
  intro e w3 h3'
  exact Qao.lift (fun x=>(x,[])) h3' HM (fun q hq=>HE.trans ((QiQ _ _ _ _ _).trans (Qac hq))) (fun f hf=>HE.trans ((QiQ _ _ _ _ _).trans (Qae hf))) (fun a v ha hv=>by
   rw [hsp] at hv
   show Qeh _ _ _ _ _
   unfold Qeh
   rw [(Qjn ha).1]
   refine ⟨rfl,?_⟩
   rw [hv,(Qjn ha).2])
theorem Ql2 {α:Type} (r:Except Flt (α×PS)) (val:α→World→Value→Prop) (d:Int) (b:Nat) (t:ByteArray) (s:PS) (rv:Value) (mc mt:Nat) (w:World) (h:RC w b t s rv mc mt)
 (hb:Calls Tryz.prog 207 #[.pointer (some ⟨b,0,none⟩),.map (some mt),.int .i64 d] w (Qao r b t rv mc mt w val)) :
 Calls Tryz.prog 168 #[.pointer (some ⟨b,0,none⟩),.int .i64 d] w (Qao r b t rv mc mt w val):=by
 have h9:w.cell? ⟨b,9,none⟩=some (.map (some mt)):=h.at_.cell 9
 have HB:=Qaa hb
 clear hb h
 go_enter Tryz.func168,Tryz.ntmps168
 go_wp2_with fail
 refine HB.out.mono ?_
 intro e w1 h1
 rcases h1.cases with ⟨q,v,hq,rfl,hv,hc3,hm3⟩ | ⟨f3,hf3,⟨bb,hz,rfl,hcc⟩,hm3⟩
 ·have HQ:=Qaa (Qao.ok hq hm3 hv hc3)
  clear h1 hq hm3 hv hc3
  go_wp2
  go_ret
  exact HQ.out
 ·exact ⟨rfl,Qao.err hf3 hm3 ⟨bb,hz,rfl,hcc⟩⟩
theorem Qoi (req:List (List UInt8)) (b F:Nat) (t:ByteArray) (rv:Value) (mc mt pr pt pf:Nat) (hF:2*t.size+1 < F) (hS:∀ n,SubMu t.size (Qbx t.data.toList req F n)) :
 ∀ (n:Nat),n≤7→∀ (w:World),QmA w b mt pr pt pf→Qjq w b rv req→QeA 168 w b t rv mc mt (7 - (n:Int)) (Qbx t.data.toList req F n) (TestV n)
 | 0,_,w,ht,hr=>fun W s hm hc=>by
  refine Ql2 _ _ _ b t s rv mc mt W hc ?_
  refine (QmP b t s rv mc mt pr pt pf W hc (ht.mod hm)).mono ?_
  rintro e w1 ⟨h1,h2⟩
  refine Qao.err ?_ h2 h1
  rw [Qbx]
  split <;> rfl
 | n+1,hn,w,ht,hr=>fun W s hm hc=>by
  refine Ql2 _ _ _ b t s rv mc mt W hc ?_
  have ih:=Qoi req b F t rv mc mt pr pt pf hF hS n (by omega) W (ht.mod hm) (hr.mod hm)
  have e:(7:Int) - ((n+1:Nat):Int)+1=7 - (n:Int):=by omega
  exact QpK n req _ b F t s rv mc mt pr pt pf W hc (ht.mod hm) (hr.mod hm) hF (by omega) (by omega) (hS n) (by rw [e];exact ih)
end
section
open Go.RowKit
theorem Qtx (t:ByteArray) (req:List (List UInt8)) (F n:Nat):SubMu t.size (Qbx t.data.toList req F n):=fun s y h1 h2 e=>by
 have:=(QjK n s ⟨by simpa using h1,h2⟩ y e).2
 rw [bal] at this
 omega
theorem Qs2 (t:ByteArray) (req:List (List UInt8)) (F n:Nat):SubMu t.size (cmdL t.data.toList req F n):=fun s y h1 h2 e=>by
 have:=(Qrq n s ⟨by simpa using h1,h2⟩ y e).2
 rw [bal] at this
 omega
theorem QtG (req:List (List UInt8)) (b F:Nat) (t:ByteArray) (rv:Value) (mc mt pr pt pf:Nat) (hF:2*t.size+1 < F) (n:Nat) (hn:n≤7) (w:World) (ht:QmA w b mt pr pt pf) (hr:Qjq w b rv req) :
 QeA 168 w b t rv mc mt (7 - (n:Int)) (Qbx t.data.toList req F n) (TestV n):=
 Qoi req b F t rv mc mt pr pt pf hF (Qtx t req F) n hn w ht hr
end
end Go.Proofs.YtbiclelojbfnbabGreatDoor
