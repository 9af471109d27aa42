import Derived.BigRegion
import Derived.Test.YtbiclelojbfnbaaGreatDoorZBeginT
namespace Go.Proofs.YtbiclelojbfnbaaGreatDoor
set_option linter.unusedVariables false
set_option linter.unusedSimpArgs false
set_option maxRecDepth 100000
set_option maxHeartbeats 4000000
section
open Go.RowKit
attribute [local go_sem ↓] Go.wp_at_zero Go.wp_at_succ
theorem QaG:∀ (zs:List (List UInt8)) (x:List UInt8) (i:Nat),whichL zs x=i+1→zs[i]?=some x
 | [],x,i,h=>by simp [whichL] at h
 | s :: r,x,i,h=>by
  unfold whichL at h
  split at h
  ·rename_i e
   have:i=0:=by omega
   subst this;subst e;rfl
  ·split at h
   ·omega
   ·rename_i h1 h2
    obtain ⟨j,hj⟩:∃ j,whichL r x=j+1:=⟨whichL r x - 1,by omega⟩
    have hi:i=j+1:=by omega
    subst hi
    have:=QaG r x j hj
    simpa using this
theorem Qau.lift {α β:Type} {r:Except Flt (α×PS)} {R:Except Flt (β×PS)} {b:Nat} {t:ByteArray} {rv:Value} {mc mt:Nat} {w W w':World} {val:α→World→Value→Prop} {val':β→World→Value→Prop} {e:Ending} (g:α→β) (h:Qau r b t rv mc mt W val e w') (hm:Mod b w W) (hok:∀ y,r=.ok y→R=.ok (g y.1,y.2)) (herr:∀ f,r=.error f→R=.error f) (hval:∀ y v,r=.ok y→val y.1 w' v→val' (g y.1) w' v):Qau R b t rv mc mt w val' e w':=by
 rcases h.cases with ⟨y,v,hy,rfl,hv,hc,hm'⟩ | ⟨f,hf,ht,hm'⟩
 ·exact Qau.ok (hok y hy) (hm.trans hm') (hval _ _ hy hv) hc
 ·exact Qau.err (herr f hf) (hm.trans hm') (ht.up hm.size)
theorem QbF {l:List UInt8} {req:List (List UInt8)} {F n k:Nat} {s:PS} {f:Flt} (hi:whichL testNames s.1.spelt=k+1) (hu:QcE req s.1.spelt=true) (hn:nextL l s.2=.error f):QbD l req F (n+1) s=.error f:=by
 rw [QbD,if_neg (by omega),if_pos hu];exact Qbj hn
theorem Qcj {l:List UInt8} {req:List (List UInt8)} {F n k:Nat} {s y:PS} (hi:whichL testNames s.1.spelt=k+1) (hu:QcE req s.1.spelt=true) (hn:nextL l s.2=.ok y):QbD l req F (n+1) s=testBody l F (QbD l req F n) k s.1.pos y:=by
 rw [QbD,if_neg (by omega),if_pos hu]
 refine (Qa0 hn).trans ?_
 show testBody l F (QbD l req F n) (whichL testNames s.1.spelt - 1) s.1.pos y=_
 rw [hi]
 rfl
theorem QjT {α:Type} (l:List UInt8) (F:Nat) (sub:PS→Except Flt (α×PS)) (pos:Nat) (s:PS):testBody l F sub 2 pos s=QaT (sub s) fun t s1=>.ok ((⟨2,pos,0,false,[],[],0⟩,[t]),s1):=rfl
theorem QpF {α:Type} (l:List UInt8) (F:Nat) (sub:PS→Except Flt (α×PS)) (pos:Nat) (s:PS):testBody l F sub 0 pos s=.ok ((⟨0,pos,0,false,[],[],0⟩,[]),s):=rfl
theorem Qqv {α:Type} (l:List UInt8) (F:Nat) (sub:PS→Except Flt (α×PS)) (pos:Nat) (s:PS):testBody l F sub 1 pos s=.ok ((⟨1,pos,0,false,[],[],0⟩,[]),s):=rfl
theorem Qke {α:Type} (l:List UInt8) (F:Nat) (sub:PS→Except Flt (α×PS)) (pos:Nat) (s:PS):testBody l F sub 3 pos s=QaT (QcB l F sub s) fun ts s1=>.ok ((⟨3,pos,0,false,[],[],0⟩,ts),s1):=rfl
theorem Qj8 {α:Type} (l:List UInt8) (F:Nat) (sub:PS→Except Flt (α×PS)) (pos:Nat) (s:PS):testBody l F sub 4 pos s=QaT (QcB l F sub s) fun ts s1=>.ok ((⟨4,pos,0,false,[],[],0⟩,ts),s1):=rfl
theorem QjW {α:Type} (l:List UInt8) (F:Nat) (sub:PS→Except Flt (α×PS)) (pos:Nat) (s:PS):testBody l F sub 5 pos s=QaT (QbS l F (fun _=>0) 5 pos s) fun x s1=>.ok ((x,[]),s1):=rfl
theorem QjQ {α:Type} (l:List UInt8) (F:Nat) (sub:PS→Except Flt (α×PS)) (pos:Nat) (s:PS):testBody l F sub 6 pos s=QaT (QbS l F (Qdy (QcK 7 [Qg7,kTo])) 6 pos s) fun x s1=>.ok ((x,[]),s1):=rfl
theorem QjO {α:Type} (l:List UInt8) (F:Nat) (sub:PS→Except Flt (α×PS)) (pos:Nat) (s:PS):testBody l F sub 7 pos s=QaT (QbS l F (fun _=>0) 7 pos s) fun x s1=>.ok ((x,[]),s1):=rfl
theorem QjK {α:Type} (l:List UInt8) (F:Nat) (sub:PS→Except Flt (α×PS)) (pos:Nat) (s:PS):testBody l F sub 8 pos s=QaT (stringsL l (fun _=>0) F s) fun xs s1=>.ok ((⟨8,pos,0,false,xs,[],0⟩,[]),s1):=rfl
theorem Qj6 {α:Type} (l:List UInt8) (F:Nat) (sub:PS→Except Flt (α×PS)) (pos:Nat) (s:PS):testBody l F sub 9 pos s=QaT (sizeL l pos s) fun x s1=>.ok ((x,[]),s1):=rfl
theorem Qf1 {l:List UInt8} {F:Nat} {chk:List UInt8→Nat} {k pos:Nat} {s:PS} {y:QcT×PS} (h:QbS l F chk k pos s=.ok y):y.1.kind=k∧y.1.pos=pos:=by
 unfold QbS at h
 cases h1:QdV l F 0 false false s with
 | error f=>rw [Qaf h1] at h;cases h
 | ok a=>
  rw [Qae h1] at h
  cases h2:stringsL l chk F a.2 with
  | error f=>rw [Qaf h2] at h;cases h
  | ok c=>
   rw [Qae h2] at h
   cases h3:stringsL l (fun _=>0) F c.2 with
   | error f=>rw [Qaf h3] at h;cases h
   | ok e=>rw [Qae h3] at h;cases h;exact ⟨rfl,rfl⟩
theorem QjH {l:List UInt8} {pos:Nat} {s:PS} {y:QcT×PS} (h:sizeL l pos s=.ok y):y.1.kind=9∧y.1.pos=pos:=by
 unfold sizeL at h
 cases h1:passL l [QcY,QbY] s with
 | error f=>rw [Qaf h1] at h;cases h
 | ok a=>
  rw [Qae h1] at h
  split at h
  ·cases h2:nextL l a.2.2 with
   | error f=>rw [Qbj h2] at h;cases h
   | ok c=>rw [Qa0 h2] at h;cases h;exact ⟨rfl,rfl⟩
  ·cases h
theorem mtV.toX {B:Nat} {hw:List UInt8} {x:QcT} {w:World} {v:Value} (h:mtV B hw x w v):mtX (fromB B) hw x w v:=h
theorem Qer {w w2:World} {b:Nat} {sp:List UInt8} {p:Nat} (hm:Mod b (w.alloc (.cells #[.string (Qad sp),.int .i64 p] 266)).drew w2) (hb:b < w.heap.size):w2.cell? ⟨w.heap.size,0,none⟩=some (.string (Qad sp))∧w2.cell? ⟨w.heap.size,1,none⟩=some (.int .i64 p)∧Mod b w w2:=
 ⟨(Qfv sp p (QaV hm) hb).1,(Qfv sp p (QaV hm) hb).2,((Mod.refl b w).alloc _).trans (QaV hm)⟩
theorem QeB (f:FuncId) (q:Nat) (n:Nat) (req:List (List UInt8)) (d:Int) (b F:Nat) (t:ByteArray) (s:PS) (rv:Value) (mc mt pr pt pf:Nat) (w:World) (h:RC w b t s rv mc mt) (ht:Qn2 w b mt pr pt pf) (hr:Qk3 w b rv req) (hd0:0≤d) (hd:d≤6) (hk1:s.1.kind=1) (hu:QcE req s.1.spelt=true)
 (hfn:testFn b pr pt pf s.1.spelt=some (.func (.func f) #[] #[.pointer (some ⟨q,0,none⟩)])) (hcf:∀ args W,(callFunc f args).run Tryz.prog W=.ok (.enter f args) W) (hne:∀ f2,nextL t.data.toList s.2=.error f2→QbD t.data.toList req F (n+1) s=.error f2)
 (hcon:∀ W y,Mod b w W→RC W b t y rv mc mt→nextL t.data.toList s.2=.ok y→Calls Tryz.prog f #[.agg #[.string (Qad s.1.spelt),.int .i64 s.1.pos],.int .i64 d,.pointer (some ⟨q,0,none⟩)] W (Qau (QbD t.data.toList req F (n+1) s) b t rv mc mt w (TestV (n+1) (fromB w.heap.size)))) :
 Calls Tryz.prog 306 #[.pointer (some ⟨b,0,none⟩),.map (some mt),.int .i64 d] w (Qau (QbD t.data.toList req F (n+1) s) b t rv mc mt w (TestV (n+1) (fromB w.heap.size))):=by
 have h1:w.cell? ⟨b,1,none⟩=some (.int .i64 s.1.kind):=h.at_.cell 1
 have h2:w.cell? ⟨b,2,none⟩=some (.int .i64 s.1.pos):=h.at_.cell 2
 have h3:w.cell? ⟨b,3,none⟩=some (.string (Qad s.1.spelt)):=h.at_.cell 3
 have hlk:=ht.look w s.1.spelt rfl
 rw [hfn] at hlk
 have H:=Qab h
 have HU:=Qab (QdH s.1.spelt req b t s rv mc mt w h hr)
 rw [hu] at HU
 have HNE:=Qab hne
 have HCON:=Qab hcon
 have hlt:=h.at_.lt
 clear h ht hr hfn hu hne hcon
 simp only [Option.getD_some,Option.isSome_some] at hlk
 have hk':((s.1.kind:Int) != 1)=false:=by simp;omega
 clear hk1
 go_enter Tryz.func306,Tryz.ntmps306
 go_wp2_with fail
 refine (QaI b _ _ _ rfl).mono ?_
 rintro e w' ⟨rfl,hww⟩
 subst w'
 go_wp2_with fail
 refine (QaI b _ _ _ rfl).mono ?_
 rintro e w' ⟨rfl,hww⟩
 subst w'
 go_wp2_with fail
 refine HU.out.mono ?_
 rintro e w' ⟨rfl,hww⟩
 subst w'
 go_wp2_with fail
 refine (QaI b _ _ _ rfl).mono ?_
 rintro e w' ⟨rfl,hww⟩
 subst w'
 clear HU hlk
 go_wp2_with fail
 go_region
 all_goals go_wp2_with fail
 all_goals
  refine (Qc1 b t s rv mc mt _ ((H.out.alloc _).drew)).mono ?_
  rintro e w2 (⟨y,hy,rfl,hc,hm⟩ | ⟨f2,hf2,⟨bb,hz,rfl,hcc⟩,hm⟩)
 all_goals first
  | exact ⟨rfl,Qau.err (HNE.out _ hf2) (((Mod.refl b w).alloc _).trans (QaV hm)) ⟨bb,by simp at hz;omega,rfl,hcc⟩⟩
  | skip
 all_goals
  obtain ⟨hh0,hh1,hmw⟩:=Qer hm hlt
  have HM:=Qab hmw
  have HC:=Qab hc
  have HCN:=Qab (HCON.out _ y hmw hc hy)
  clear hm hc hy hmw
  go_wp2_with fail
  refine HCN.out.mono ?_
  intro e w3 h3'
  have HQ:=Qab h3'
  clear h3'
  rcases HQ.out.cases with ⟨q,v,hq,rfl,hv,hc3,hm3⟩ | ⟨f3,hf3,⟨bb,hz,rfl,hcc⟩,hm3⟩
 all_goals first
  | exact ⟨rfl,Qau.err hf3 hm3 ⟨bb,hz,rfl,hcc⟩⟩
  | skip
 all_goals
  have HQ2:=Qab (Qau.ok hq hm3 hv hc3)
  clear hq hm3 hv hc3 HQ
  go_wp2
  go_ret
  exact HQ2.out
theorem Qkj (f:FuncId) (n:Nat) (req:List (List UInt8)) (d:Int) (b F:Nat) (t:ByteArray) (s:PS) (rv:Value) (mc mt pr pt pf:Nat) (w:World) (h:RC w b t s rv mc mt) (ht:Qn2 w b mt pr pt pf) (hr:Qk3 w b rv req) (hd0:0≤d) (hd:d≤6) (hk1:s.1.kind=1) (hu:QcE req s.1.spelt=true)
 (hfn:testFn b pr pt pf s.1.spelt=some (.func (.func f) #[.pointer (some ⟨b,0,none⟩)] #[])) (hcf:∀ args W,(callFunc f args).run Tryz.prog W=.ok (.enter f args) W) (hne:∀ f2,nextL t.data.toList s.2=.error f2→QbD t.data.toList req F (n+1) s=.error f2)
 (hcon:∀ W y,Mod b w W→RC W b t y rv mc mt→nextL t.data.toList s.2=.ok y→Calls Tryz.prog f #[.pointer (some ⟨b,0,none⟩),.agg #[.string (Qad s.1.spelt),.int .i64 s.1.pos],.int .i64 d] W (Qau (QbD t.data.toList req F (n+1) s) b t rv mc mt w (TestV (n+1) (fromB w.heap.size)))) :
 Calls Tryz.prog 306 #[.pointer (some ⟨b,0,none⟩),.map (some mt),.int .i64 d] w (Qau (QbD t.data.toList req F (n+1) s) b t rv mc mt w (TestV (n+1) (fromB w.heap.size))):=by
 have h1:w.cell? ⟨b,1,none⟩=some (.int .i64 s.1.kind):=h.at_.cell 1
 have h2:w.cell? ⟨b,2,none⟩=some (.int .i64 s.1.pos):=h.at_.cell 2
 have h3:w.cell? ⟨b,3,none⟩=some (.string (Qad s.1.spelt)):=h.at_.cell 3
 have hlk:=ht.look w s.1.spelt rfl
 rw [hfn] at hlk
 have H:=Qab h
 have HU:=Qab (QdH s.1.spelt req b t s rv mc mt w h hr)
 rw [hu] at HU
 have HNE:=Qab hne
 have HCON:=Qab hcon
 have hlt:=h.at_.lt
 clear h ht hr hfn hu hne hcon
 simp only [Option.getD_some,Option.isSome_some] at hlk
 have hk':((s.1.kind:Int) != 1)=false:=by simp;omega
 clear hk1
 go_enter Tryz.func306,Tryz.ntmps306
 go_wp2_with fail
 refine (QaI b _ _ _ rfl).mono ?_
 rintro e w' ⟨rfl,hww⟩
 subst w'
 go_wp2_with fail
 refine (QaI b _ _ _ rfl).mono ?_
 rintro e w' ⟨rfl,hww⟩
 subst w'
 go_wp2_with fail
 refine HU.out.mono ?_
 rintro e w' ⟨rfl,hww⟩
 subst w'
 go_wp2_with fail
 refine (QaI b _ _ _ rfl).mono ?_
 rintro e w' ⟨rfl,hww⟩
 subst w'
 clear HU hlk
 go_wp2_with fail
 go_region
 all_goals go_wp2_with fail
 all_goals
  refine (Qc1 b t s rv mc mt _ ((H.out.alloc _).drew)).mono ?_
  rintro e w2 (⟨y,hy,rfl,hc,hm⟩ | ⟨f2,hf2,⟨bb,hz,rfl,hcc⟩,hm⟩)
 all_goals first
  | exact ⟨rfl,Qau.err (HNE.out _ hf2) (((Mod.refl b w).alloc _).trans (QaV hm)) ⟨bb,by simp at hz;omega,rfl,hcc⟩⟩
  | skip
 all_goals
  obtain ⟨hh0,hh1,hmw⟩:=Qer hm hlt
  have HM:=Qab hmw
  have HC:=Qab hc
  have HCN:=Qab (HCON.out _ y hmw hc hy)
  clear hm hc hy hmw
  go_wp2_with fail
  refine HCN.out.mono ?_
  intro e w3 h3'
  have HQ:=Qab h3'
  clear h3'
  rcases HQ.out.cases with ⟨q,v,hq,rfl,hv,hc3,hm3⟩ | ⟨f3,hf3,⟨bb,hz,rfl,hcc⟩,hm3⟩
 all_goals first
  | exact ⟨rfl,Qau.err hf3 hm3 ⟨bb,hz,rfl,hcc⟩⟩
  | skip
 all_goals
  have HQ2:=Qab (Qau.ok hq hm3 hv hc3)
  clear hq hm3 hv hc3 HQ
  go_wp2
  go_ret
  exact HQ2.out
end
section
open Go.RowKit
theorem QhO:∀ z∈testNames,∀ c r,z=c :: r→Qa7 c.toNat=true:=by
 intro z hz c r e
 simp [testNames] at hz
 rcases hz with h | h | h | h | h | h | h | h | h | h <;> subst h <;> cases e <;> decide
theorem QlN:∀ z∈testNames,z≠[]:=by decide
theorem QjU {zs:List (List UInt8)} {x:List UInt8} (h:¬ whichL zs x=0):x∈zs:=by
 obtain ⟨i,hi⟩:∃ i,whichL zs x=i+1:=⟨whichL zs x - 1,by omega⟩
 exact List.mem_of_getElem? (QaG zs x i hi)
theorem QmK {s:PS} (hn:¬ s.1.kind=1→Qj9 s.1.spelt) (h:¬ whichL testNames s.1.spelt=0):s.1.kind=1:=by
 apply Classical.byContradiction
 intro hk
 have hm:=QjU h
 have hne:=QlN _ hm
 cases hsp:s.1.spelt with
 | nil=>exact hne hsp
 | cons c r=>
  have h1:=QhO _ hm c r hsp
  have h2:=hn hk c r hsp
  rw [h1] at h2
  cases h2
theorem QlM (fv:Value) (req:List (List UInt8)) (d:Int) (b:Nat) (t:ByteArray) (s:PS) (rv:Value) (mc mt pr pt pf:Nat) (w:World) (h:RC w b t s rv mc mt) (ht:Qn2 w b mt pr pt pf) (hr:Qk3 w b rv req) (hd:d≤6) (hk1:s.1.kind=1) (hf:testFn b pr pt pf s.1.spelt=some fv) (hu:QcE req s.1.spelt=false) :
 Calls Tryz.prog 306 #[.pointer (some ⟨b,0,none⟩),.map (some mt),.int .i64 d] w fun e w'=>Qc6 ⟨6,s.1.pos⟩ w e w'∧Mod b w w':=by
 have h1:w.cell? ⟨b,1,none⟩=some (.int .i64 s.1.kind):=h.at_.cell 1
 have h3:w.cell? ⟨b,3,none⟩=some (.string (Qad s.1.spelt)):=h.at_.cell 3
 have hlk:=ht.look w s.1.spelt rfl
 rw [hf] at hlk
 have H:=Qab h
 have HU:=Qab (QdH s.1.spelt req b t s rv mc mt w h hr)
 rw [hu] at HU
 clear h ht hr hf hu
 simp only [Option.getD_some,Option.isSome_some] at hlk
 have hk':((s.1.kind:Int) != 1)=false:=by simp;omega
 clear hk1
 go_enter Tryz.func306,Tryz.ntmps306
 go_wp2_with fail
 refine (QaI b _ _ _ rfl).mono ?_
 rintro e w' ⟨rfl,hww⟩
 subst w'
 go_wp2_with fail
 refine (QaI b _ _ _ rfl).mono ?_
 rintro e w' ⟨rfl,hww⟩
 subst w'
 go_wp2_with fail
 refine HU.out.mono ?_
 rintro e w' ⟨rfl,hww⟩
 subst w'
 go_wp2_with fail
 refine (Qbr b 6 _ _ t s.1 s.2 rv mc mt _ H.out.at_ rfl rfl).mono ?_
 rintro e w1 ⟨⟨bb,hz,rfl,hcc⟩,hm⟩
 exact ⟨rfl,⟨bb,hz,rfl,hcc⟩,Mod.of_below hm⟩
theorem Qnm (b:Nat) (t:ByteArray) (s:PS) (rv:Value) (mc mt pr pt pf:Nat) (w:World) (h:RC w b t s rv mc mt) (ht:Qn2 w b mt pr pt pf) :
 Calls Tryz.prog 306 #[.pointer (some ⟨b,0,none⟩),.map (some mt),.int .i64 7] w fun e w'=>Qc6 ⟨if s.1.kind=1 then 5 else 4,s.1.pos⟩ w e w'∧Mod b w w':=by
 have h1:w.cell? ⟨b,1,none⟩=some (.int .i64 s.1.kind):=h.at_.cell 1
 have h3:w.cell? ⟨b,3,none⟩=some (.string (Qad s.1.spelt)):=h.at_.cell 3
 have hlk:=ht.look w s.1.spelt rfl
 have H:=Qab h
 by_cases hk:s.1.kind=1
 ·rw [if_pos hk]
  have hk':((s.1.kind:Int) != 1)=false:=by simp;omega
  clear hk h ht hlk
  go_enter Tryz.func306,Tryz.ntmps306
  go_wp2_with fail
  refine (Qbr b 5 _ _ t s.1 s.2 rv mc mt _ H.out.at_ rfl rfl).mono ?_
  rintro e w1 ⟨⟨bb,hz,rfl,hcc⟩,hm⟩
  exact ⟨rfl,⟨bb,hz,rfl,hcc⟩,Mod.of_below hm⟩
 ·rw [if_neg hk]
  have h0:whichL testNames s.1.spelt=0:=by
   apply Classical.byContradiction
   intro h0
   exact hk (QmK h.nm h0)
  rw [Qiy h0] at hlk
  have hk':((s.1.kind:Int) != 1)=true:=by simp;omega
  clear hk h ht h0
  simp only [Option.getD_none,Option.isSome_none] at hlk
  go_enter Tryz.func306,Tryz.ntmps306
  go_wp2_with fail
  refine (QaI b _ _ _ rfl).mono ?_
  rintro e w' ⟨rfl,hww⟩
  subst w'
  go_wp2_with fail
  refine (Qbr b 4 _ _ t s.1 s.2 rv mc mt _ H.out.at_ rfl rfl).mono ?_
  rintro e w1 ⟨⟨bb,hz,rfl,hcc⟩,hm⟩
  exact ⟨rfl,⟨bb,hz,rfl,hcc⟩,Mod.of_below hm⟩
theorem Qnd {b pr pt pf:Nat} {x:List UInt8} (h:¬ whichL testNames x=0):∃ fv,testFn b pr pt pf x=some fv:=by
 have hle:=QbW testNames x
 have hl:testNames.length=10:=rfl
 unfold testFn
 generalize whichL testNames x=i at *
 rcases (by omega:i=1∨i=2∨i=3∨i=4∨i=5∨i=6∨i=7∨i=8∨i=9∨i=10) with h | h | h | h | h | h | h | h | h | h <;> subst h <;> exact ⟨_,rfl⟩
theorem QpG (n:Nat) (req:List (List UInt8)) (d:Int) (b F:Nat) (t:ByteArray) (s:PS) (rv:Value) (mc mt pr pt pf:Nat) (w:World) (h:RC w b t s rv mc mt) (ht:Qn2 w b mt pr pt pf) (hr:Qk3 w b rv req) (hF:2*t.size+1 < F) (hd0:0≤d) (hd:d≤6) (hS:SubMu t.size (QbD t.data.toList req F n)) (ho:QeM 252 w b t rv mc mt (d+1) (QbD t.data.toList req F n) (TestV n)) :
 Calls Tryz.prog 306 #[.pointer (some ⟨b,0,none⟩),.map (some mt),.int .i64 d] w (Qau (QbD t.data.toList req F (n+1) s) b t rv mc mt w (TestV (n+1) (fromB w.heap.size))):=by
 by_cases h0:whichL testNames s.1.spelt=0
 ·refine (Qjm d b t s rv mc mt pr pt pf w h ht hd h0).mono ?_
  rintro e w1 ⟨h1,h2⟩
  exact Qau.err (by rw [QbD,if_pos h0]) h2 h1
 have hk1:=QmK h.nm h0
 cases hu:QcE req s.1.spelt
 ·obtain ⟨fv,hf⟩:=Qnd (b:=b) (pr:=pr) (pt:=pt) (pf:=pf) h0
  refine (QlM fv req d b t s rv mc mt pr pt pf w h ht hr hd hk1 hf hu).mono ?_
  rintro e w1 ⟨h1,h2⟩
  exact Qau.err (by rw [QbD,if_neg h0,if_neg (by rw [hu];decide)]) h2 h1
 have hle:=QbW testNames s.1.spelt
 have hl:testNames.length=10:=rfl
 rcases (by omega:whichL testNames s.1.spelt=0+1∨whichL testNames s.1.spelt=1+1∨whichL testNames s.1.spelt=2+1∨whichL testNames s.1.spelt=3+1∨whichL testNames s.1.spelt=4+1∨whichL testNames s.1.spelt=5+1∨whichL testNames s.1.spelt=6+1∨whichL testNames s.1.spelt=7+1∨whichL testNames s.1.spelt=8+1∨whichL testNames s.1.spelt=9+1) with hi | hi | hi | hi | hi | hi | hi | hi | hi | hi
 ·refine QeB 251 pt n req d b F t s rv mc mt pr pt pf w h ht hr hd0 hd hk1 hu (by unfold testFn;rw [hi];rfl) (fun _ _=>by kernel_rfl) (fun f2 hf2=>QbF hi hu hf2) (fun W y HM HC hy=>?_)
  have hsp:s.1.spelt=Qe5:=by have:=QaG _ _ _ hi;simpa [testNames] using this.symm
  have HE:=Qcj (F:=F) (n:=n) hi hu hy
  refine (Qjz s.1.spelt s.1.pos d pt true _ (ht.mod HM).hpt).mono ?_
  intro e w3 h3'
  obtain ⟨rfl,hb⟩:=h3'
  exact Qau.ok (HE.trans (QpF _ _ _ _ _)) (HM.trans (Mod.of_below hb)) ⟨rfl,by rw [hsp]⟩ (HC.below hb)
 ·refine QeB 251 pf n req d b F t s rv mc mt pr pt pf w h ht hr hd0 hd hk1 hu (by unfold testFn;rw [hi];rfl) (fun _ _=>by kernel_rfl) (fun f2 hf2=>QbF hi hu hf2) (fun W y HM HC hy=>?_)
  have hsp:s.1.spelt=Qdf:=by have:=QaG _ _ _ hi;simpa [testNames] using this.symm
  have HE:=Qcj (F:=F) (n:=n) hi hu hy
  refine (Qjz s.1.spelt s.1.pos d pf false _ (ht.mod HM).hpf).mono ?_
  intro e w3 h3'
  obtain ⟨rfl,hb⟩:=h3'
  exact Qau.ok (HE.trans (Qqv _ _ _ _ _)) (HM.trans (Mod.of_below hb)) ⟨rfl,by rw [hsp]⟩ (HC.below hb)
 ·refine Qkj 159 n req d b F t s rv mc mt pr pt pf w h ht hr hd0 hd hk1 hu (by unfold testFn;rw [hi];rfl) (fun _ _=>by kernel_rfl) (fun f2 hf2=>QbF hi hu hf2) (fun W y HM HC hy=>?_)
  have hsp:s.1.spelt=kNot:=by have:=QaG _ _ _ hi;simpa [testNames] using this.symm
  have HE:=Qcj (F:=F) (n:=n) hi hu hy
  refine (Quc (QbD t.data.toList req F n) (TestV n) s.1.spelt s.1.pos d b t y rv mc mt _ HC hd0 (by omega) (Qbl n) (ho.mod HM)).mono ?_
  intro e w3 h3'
  exact Qau.lift (fun a=>((⟨2,s.1.pos,0,false,[],[],0⟩:QcT),[a])) h3' HM (fun q hq=>HE.trans ((QjT _ _ _ _ _).trans (Qae hq))) (fun f hf=>HE.trans ((QjT _ _ _ _ _).trans (Qaf hf))) (fun a v _ hv=>by obtain ⟨u,rfl,hu⟩:=hv;exact ⟨a.1,u,rfl,by rw [hsp],(Qbl n).weak _ _ _ _ _ hu (fun k hk _=>Nat.le_trans HM.size hk)⟩)
 ·refine QeB 160 pr n req d b F t s rv mc mt pr pt pf w h ht hr hd0 hd hk1 hu (by unfold testFn;rw [hi];rfl) (fun _ _=>by kernel_rfl) (fun f2 hf2=>QbF hi hu hf2) (fun W y HM HC hy=>?_)
  have hsp:s.1.spelt=Qcy:=by have:=QaG _ _ _ hi;simpa [testNames] using this.symm
  have HE:=Qcj (F:=F) (n:=n) hi hu hy
  refine (Qrz (QbD t.data.toList req F n) (TestV n) s.1.spelt s.1.pos d pr b F t y rv mc mt _ HC (ht.mod HM).hpr hF hd0 (by omega) (Qbl n) hS (ho.mod HM)).mono ?_
  intro e w3 h3'
  exact Qau.lift (fun xs=>((⟨3,s.1.pos,0,false,[],[],0⟩:QcT),xs)) h3' HM (fun q hq=>HE.trans ((Qke _ _ _ _ _).trans (Qae hq))) (fun f hf=>HE.trans ((Qke _ _ _ _ _).trans (Qaf hf))) (fun a v _ hv=>by obtain ⟨u,rfl,hu,hne⟩:=hv;exact ⟨u,by rw [hsp],trX.weak (Qbl n) hne hu (fun k hk _=>Nat.le_trans HM.size hk),hne⟩)
 ·refine QeB 162 pr n req d b F t s rv mc mt pr pt pf w h ht hr hd0 hd hk1 hu (by unfold testFn;rw [hi];rfl) (fun _ _=>by kernel_rfl) (fun f2 hf2=>QbF hi hu hf2) (fun W y HM HC hy=>?_)
  have hsp:s.1.spelt=QcA:=by have:=QaG _ _ _ hi;simpa [testNames] using this.symm
  have HE:=Qcj (F:=F) (n:=n) hi hu hy
  refine (Qr7 (QbD t.data.toList req F n) (TestV n) s.1.spelt s.1.pos d pr b F t y rv mc mt _ HC (ht.mod HM).hpr hF hd0 (by omega) (Qbl n) hS (ho.mod HM)).mono ?_
  intro e w3 h3'
  exact Qau.lift (fun xs=>((⟨4,s.1.pos,0,false,[],[],0⟩:QcT),xs)) h3' HM (fun q hq=>HE.trans ((Qj8 _ _ _ _ _).trans (Qae hq))) (fun f hf=>HE.trans ((Qj8 _ _ _ _ _).trans (Qaf hf))) (fun a v _ hv=>by obtain ⟨u,rfl,hu,hne⟩:=hv;exact ⟨u,by rw [hsp],trX.weak (Qbl n) hne hu (fun k hk _=>Nat.le_trans HM.size hk),hne⟩)
 ·refine QeB 163 pr n req d b F t s rv mc mt pr pt pf w h ht hr hd0 hd hk1 hu (by unfold testFn;rw [hi];rfl) (fun _ _=>by kernel_rfl) (fun f2 hf2=>QbF hi hu hf2) (fun W y HM HC hy=>?_)
  have hsp:s.1.spelt=QbT:=by have:=QaG _ _ _ hi;simpa [testNames] using this.symm
  have HE:=Qcj (F:=F) (n:=n) hi hu hy
  refine (Qqg s.1.spelt s.1.pos d pr b F t y rv mc mt _ HC (ht.mod HM).hpr hF).mono ?_
  intro e w3 h3'
  exact Qau.lift (fun x=>(x,[])) h3' HM (fun q hq=>HE.trans ((QjW _ _ _ _ _).trans (Qae hq))) (fun f hf=>HE.trans ((QjW _ _ _ _ _).trans (Qaf hf))) (fun a v ha hv=>by
   obtain ⟨u,rfl,hu⟩:=hv
   rw [hsp] at hu
   show Qd6 _ _ _ _ _
   unfold Qd6
   rw [(Qf1 ha).1]
   exact ⟨rfl,u,rfl,hu.toX.weak (fun k hk _=>Nat.le_trans HM.size hk)⟩)
 ·refine QeB 166 pr n req d b F t s rv mc mt pr pt pf w h ht hr hd0 hd hk1 hu (by unfold testFn;rw [hi];rfl) (fun _ _=>by kernel_rfl) (fun f2 hf2=>QbF hi hu hf2) (fun W y HM HC hy=>?_)
  have hsp:s.1.spelt=QaM:=by have:=QaG _ _ _ hi;simpa [testNames] using this.symm
  have HE:=Qcj (F:=F) (n:=n) hi hu hy
  refine (Qlv s.1.spelt s.1.pos d pr b F t y rv mc mt _ HC (ht.mod HM).hpr hF).mono ?_
  intro e w3 h3'
  exact Qau.lift (fun x=>(x,[])) h3' HM (fun q hq=>HE.trans ((QjQ _ _ _ _ _).trans (Qae hq))) (fun f hf=>HE.trans ((QjQ _ _ _ _ _).trans (Qaf hf))) (fun a v ha hv=>by
   obtain ⟨u,rfl,hu⟩:=hv
   rw [hsp] at hu
   show Qd6 _ _ _ _ _
   unfold Qd6
   rw [(Qf1 ha).1]
   exact ⟨rfl,u,rfl,hu.toX.weak (fun k hk _=>Nat.le_trans HM.size hk)⟩)
 ·refine QeB 169 pr n req d b F t s rv mc mt pr pt pf w h ht hr hd0 hd hk1 hu (by unfold testFn;rw [hi];rfl) (fun _ _=>by kernel_rfl) (fun f2 hf2=>QbF hi hu hf2) (fun W y HM HC hy=>?_)
  have hsp:s.1.spelt=Qby:=by have:=QaG _ _ _ hi;simpa [testNames] using this.symm
  have HE:=Qcj (F:=F) (n:=n) hi hu hy
  refine (Qnr s.1.spelt s.1.pos d pr b F t y rv mc mt _ HC (ht.mod HM).hpr hF).mono ?_
  intro e w3 h3'
  exact Qau.lift (fun x=>(x,[])) h3' HM (fun q hq=>HE.trans ((QjO _ _ _ _ _).trans (Qae hq))) (fun f hf=>HE.trans ((QjO _ _ _ _ _).trans (Qaf hf))) (fun a v ha hv=>by
   obtain ⟨u,rfl,hu⟩:=hv
   rw [hsp] at hu
   show Qd6 _ _ _ _ _
   unfold Qd6
   rw [(Qf1 ha).1]
   exact ⟨rfl,u,rfl,hu.toX.weak (fun k hk _=>Nat.le_trans HM.size hk)⟩)
 ·refine Qkj 170 n req d b F t s rv mc mt pr pt pf w h ht hr hd0 hd hk1 hu (by unfold testFn;rw [hi];rfl) (fun _ _=>by kernel_rfl) (fun f2 hf2=>QbF hi hu hf2) (fun W y HM HC hy=>?_)
  have hsp:s.1.spelt=QbG:=by have:=QaG _ _ _ hi;simpa [testNames] using this.symm
  have HE:=Qcj (F:=F) (n:=n) hi hu hy
  refine (QpD s.1.spelt s.1.pos d b F t y rv mc mt _ HC hF).mono ?_
  intro e w3 h3'
  exact Qau.lift (fun xs=>((⟨8,s.1.pos,0,false,xs,[],0⟩:QcT),[])) h3' HM (fun q hq=>HE.trans ((QjK _ _ _ _ _).trans (Qae hq))) (fun f hf=>HE.trans ((QjK _ _ _ _ _).trans (Qaf hf))) (fun a v _ hv=>by obtain ⟨u,rfl,hu⟩:=hv;exact ⟨rfl,u,by rw [hsp],hu.toX.weak (fun k hk _=>Nat.le_trans HM.size hk)⟩)
 ·refine Qkj 171 n req d b F t s rv mc mt pr pt pf w h ht hr hd0 hd hk1 hu (by unfold testFn;rw [hi];rfl) (fun _ _=>by kernel_rfl) (fun f2 hf2=>QbF hi hu hf2) (fun W y HM HC hy=>?_)
  have hsp:s.1.spelt=QdC:=by have:=QaG _ _ _ hi;simpa [testNames] using this.symm
  have HE:=Qcj (F:=F) (n:=n) hi hu hy
  refine (Qtn s.1.spelt s.1.pos d b t y rv mc mt _ HC).mono ?_
  intro e w3 h3'
  exact Qau.lift (fun x=>(x,[])) h3' HM (fun q hq=>HE.trans ((Qj6 _ _ _ _ _).trans (Qae hq))) (fun f hf=>HE.trans ((Qj6 _ _ _ _ _).trans (Qaf hf))) (fun a v ha hv=>by
   rw [hsp] at hv
   show Qd6 _ _ _ _ _
   unfold Qd6
   rw [(QjH ha).1]
   refine ⟨rfl,?_⟩
   rw [hv,(QjH ha).2])
theorem QlF {α:Type} (r:Except Flt (α×PS)) (val:α→World→Value→Prop) (d:Int) (b:Nat) (t:ByteArray) (s:PS) (rv:Value) (mc mt:Nat) (w:World) (h:RC w b t s rv mc mt)
 (hb:Calls Tryz.prog 306 #[.pointer (some ⟨b,0,none⟩),.map (some mt),.int .i64 d] w (Qau r b t rv mc mt w val)) :
 Calls Tryz.prog 252 #[.pointer (some ⟨b,0,none⟩),.int .i64 d] w (Qau r b t rv mc mt w val):=by
 have h9:w.cell? ⟨b,9,none⟩=some (.map (some mt)):=h.at_.cell 9
 have HB:=Qab hb
 clear hb h
 go_enter Tryz.func252,Tryz.ntmps252
 go_wp2_with fail
 refine HB.out.mono ?_
 intro e w1 h1
 rcases h1.cases with ⟨q,v,hq,rfl,hv,hc3,hm3⟩ | ⟨f3,hf3,⟨bb,hz,rfl,hcc⟩,hm3⟩
 ·have HQ:=Qab (Qau.ok hq hm3 hv hc3)
  clear h1 hq hm3 hv hc3
  go_wp2
  go_ret
  exact HQ.out
 ·exact ⟨rfl,Qau.err hf3 hm3 ⟨bb,hz,rfl,hcc⟩⟩
theorem QoY (req:List (List UInt8)) (b F:Nat) (t:ByteArray) (rv:Value) (mc mt pr pt pf:Nat) (hF:2*t.size+1 < F) (hS:∀ n,SubMu t.size (QbD t.data.toList req F n)) :
 ∀ (n:Nat),n≤7→∀ (w:World),Qn2 w b mt pr pt pf→Qk3 w b rv req→QeM 252 w b t rv mc mt (7 - (n:Int)) (QbD t.data.toList req F n) (TestV n)
 | 0,_,w,ht,hr=>fun W s hm hc=>by
  refine QlF _ _ _ b t s rv mc mt W hc ?_
  refine (Qnm b t s rv mc mt pr pt pf W hc (ht.mod hm)).mono ?_
  rintro e w1 ⟨h1,h2⟩
  refine Qau.err ?_ h2 h1
  rw [QbD]
  split <;> rfl
 | n+1,hn,w,ht,hr=>fun W s hm hc=>by
  refine QlF _ _ _ b t s rv mc mt W hc ?_
  have ih:=QoY req b F t rv mc mt pr pt pf hF hS n (by omega) W (ht.mod hm) (hr.mod hm)
  have e:(7:Int) - ((n+1:Nat):Int)+1=7 - (n:Int):=by omega
  exact QpG n req _ b F t s rv mc mt pr pt pf W hc (ht.mod hm) (hr.mod hm) hF (by omega) (by omega) (hS n) (by rw [e];exact ih)
end
end Go.Proofs.YtbiclelojbfnbaaGreatDoor
