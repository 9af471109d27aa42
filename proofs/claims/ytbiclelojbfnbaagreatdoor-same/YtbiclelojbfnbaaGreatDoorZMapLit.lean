import Derived.MapFrom
import Derived.Orders
import Derived.Test.YtbiclelojbfnbaaGreatDoorZChoice
namespace Go.Proofs.YtbiclelojbfnbaaGreatDoor
set_option linter.unusedVariables false
set_option linter.unusedSimpArgs false
set_option maxRecDepth 100000
set_option maxHeartbeats 4000000
section
open Go.RowKit
attribute [local go_sem ↓] Go.wp_at_zero Go.wp_at_succ
def cmdFn (b p1 k1 p2 k2 p3 k3:Nat) (x:List UInt8):Option Value:=
 match whichL cmdNames x with
 | 1=>some (.func (.func 152) #[.pointer (some ⟨b,0,none⟩)] #[])
 | 2=>some (.func (.func 153) #[.pointer (some ⟨b,0,none⟩)] #[])
 | 3=>some (.func (.func 154) #[.pointer (some ⟨b,0,none⟩)] #[])
 | 4=>some (.func (.func 244) #[] #[.pointer (some ⟨p1,0,none⟩),.pointer (some ⟨k1,0,none⟩)])
 | 5=>some (.func (.func 244) #[] #[.pointer (some ⟨p2,0,none⟩),.pointer (some ⟨k2,0,none⟩)])
 | 6=>some (.func (.func 244) #[] #[.pointer (some ⟨p3,0,none⟩),.pointer (some ⟨k3,0,none⟩)])
 | 7=>some (.func (.func 156) #[.pointer (some ⟨b,0,none⟩)] #[])
 | 8=>some (.func (.func 157) #[.pointer (some ⟨b,0,none⟩)] #[])
 | _=>none
structure Qqt (w:World) (b mc p1 k1 p2 k2 p3 k3:Nat):Prop where
 look:Qss w 257 mc (cmdFn b p1 k1 p2 k2 p3 k3)
 hp1:Qmt w p1 b
 hk1:w.cell? ⟨k1,0,none⟩=some (.int .i64 2)
 hp2:Qmt w p2 b
 hk2:w.cell? ⟨k2,0,none⟩=some (.int .i64 3)
 hp3:Qmt w p3 b
 hk3:w.cell? ⟨k3,0,none⟩=some (.int .i64 4)
 k1b:k1≠b
 k2b:k2≠b
 k3b:k3≠b
 mcb:mc≠b
 mcl:mc < w.heap.size
theorem Qqt.mod {w w':World} {b mc p1 k1 p2 k2 p3 k3:Nat} (h:Qqt w b mc p1 k1 p2 k2 p3 k3) (hm:Mod b w w'):Qqt w' b mc p1 k1 p2 k2 p3 k3:=
 ⟨fun W x e=>h.look W x (e.trans (hm.block mc h.mcl h.mcb)),h.hp1.mod hm,QbX h.hk1 hm h.k1b,h.hp2.mod hm,QbX h.hk2 hm h.k2b,h.hp3.mod hm,QbX h.hk3 hm h.k3b,h.k1b,h.k2b,h.k3b,h.mcb,Nat.lt_of_lt_of_le h.mcl hm.size⟩
theorem QjM {b p1 k1 p2 k2 p3 k3:Nat} {x:List UInt8} (h:whichL cmdNames x=0):cmdFn b p1 k1 p2 k2 p3 k3 x=none:=by unfold cmdFn;rw [h];rfl
theorem Qp5 {b p1 k1 p2 k2 p3 k3:Nat} {x:List UInt8} (h:¬ whichL cmdNames x=0):∃ fv,cmdFn b p1 k1 p2 k2 p3 k3 x=some fv:=by
 have hle:=QbW cmdNames x
 have hl:cmdNames.length=8:=rfl
 unfold cmdFn
 generalize whichL cmdNames x=i at *
 rcases (by omega:i=1∨i=2∨i=3∨i=4∨i=5∨i=6∨i=7∨i=8) with h | h | h | h | h | h | h | h <;> subst h <;> exact ⟨_,rfl⟩
theorem Qiw:∀ z∈cmdNames,∀ c r,z=c :: r→Qa7 c.toNat=true:=by
 intro z hz c r e
 simp [cmdNames] at hz
 rcases hz with h | h | h | h | h | h | h | h <;> subst h <;> cases e <;> decide
theorem QnO:∀ z∈cmdNames,z≠[]:=by decide
theorem Qpm {s:PS} (hn:¬ s.1.kind=1→Qj9 s.1.spelt) (h:¬ whichL cmdNames s.1.spelt=0):s.1.kind=1:=by
 apply Classical.byContradiction
 intro hk
 have hm:=QjU h
 have hne:=QnO _ hm
 cases hsp:s.1.spelt with
 | nil=>exact hne hsp
 | cons c r=>
  have h1:=Qiw _ hm c r hsp
  have h2:=hn hk c r hsp
  rw [h1] at h2
  cases h2
theorem Qb8 {l:List UInt8} {req:List (List UInt8)} {F n k:Nat} {s:PS} {f:Flt} (hi:whichL cmdNames s.1.spelt=k+1) (hu:QcE req s.1.spelt=true) (hn:nextL l s.2=.error f):cmdL l req F (n+1) s=.error f:=by
 rw [cmdL,if_neg (by omega),if_pos hu];exact Qbj hn
theorem Qdj {l:List UInt8} {req:List (List UInt8)} {F n k:Nat} {s y:PS} (hi:whichL cmdNames s.1.spelt=k+1) (hu:QcE req s.1.spelt=true) (hn:nextL l s.2=.ok y):cmdL l req F (n+1) s=cmdBody l F (QbD l req F n) (cmdL l req F n) k s.1.pos y:=by
 rw [cmdL,if_neg (by omega),if_pos hu]
 refine (Qa0 hn).trans ?_
 show cmdBody l F (QbD l req F n) (cmdL l req F n) (whichL cmdNames s.1.spelt - 1) s.1.pos y=_
 rw [hi]
 rfl
section
variable {α β:Type} {l:List UInt8} {F pos:Nat} {tst:PS→Except Flt (β×PS)} {sub:PS→Except Flt (α×PS)} {s:PS}
theorem Qoy {α:Type} {l:List UInt8} {s:PS} {a:α} {q:Nat×PS} (h:passL l [[59]] s=.ok q):semi l s a=.ok (a,q.2):=Qae h
theorem Qk2 {α:Type} {l:List UInt8} {s:PS} {a:α} {f:Flt} (h:passL l [[59]] s=.error f):semi l s a=.error f:=Qaf h
theorem QoV {k:Nat} (h:cmdBody l F tst sub k pos s=QaT (stringL l (fun _=>0) s) fun x s1=>semi l s1 (⟨k,pos,0,x,[],false⟩,[],[])):cmdBody l F tst sub k pos s=QaT (Qvr l s) fun x s1=>.ok ((⟨k,pos,0,x,[],false⟩,[],[]),s1):=by
 rw [h]
 unfold Qvr
 cases stringL l (fun _=>0) s with
 | error f=>rfl
 | ok y=>
  rw [Qae (r:=.ok y) rfl,Qae (r:=.ok y) rfl]
  unfold semi
  cases passL l [[59]] y.2 with
  | error f=>rfl
  | ok z=>rfl
theorem QrY {k:Nat} {q:List UInt8×PS} (h:Qvr l s=.ok q) (hb:cmdBody l F tst sub k pos s=QaT (stringL l (fun _=>0) s) fun x s1=>semi l s1 (⟨k,pos,0,x,[],false⟩,[],[]):=by rfl):cmdBody l F tst sub k pos s=.ok ((⟨k,pos,0,q.1,[],false⟩,[],[]),q.2):=(QoV hb).trans (Qae h)
theorem QnG {k:Nat} {f:Flt} (h:Qvr l s=.error f) (hb:cmdBody l F tst sub k pos s=QaT (stringL l (fun _=>0) s) fun x s1=>semi l s1 (⟨k,pos,0,x,[],false⟩,[],[]):=by rfl):cmdBody l F tst sub k pos s=.error f:=(QoV hb).trans (Qaf h)
theorem Qrc:cmdBody l F tst sub 6 pos s=QaT (mayL l [Qbn,Qbm,Qa1] s) fun tag s1=>QaT (stringL l (fun x=>if isNameL x then 0 else 7) s1) fun v s2=>QaT (stringL l (fun _=>0) s2) fun x s3=>semi l s3 (⟨6,pos,tag,x,smallL v,false⟩,[],[]):=rfl
theorem Qpf:cmdBody l F tst sub 6 pos s=QaT (Qu9 l s) fun q s1=>.ok ((⟨6,pos,q.1,q.2.2,q.2.1,false⟩,[],[]),s1):=by
 rw [Qrc]
 unfold Qu9
 cases mayL l [Qbn,Qbm,Qa1] s with
 | error f=>rfl
 | ok y=>
  rw [Qae (r:=.ok y) rfl,Qae (r:=.ok y) rfl]
  cases stringL l (fun x=>if isNameL x then 0 else 7) y.2 with
  | error f=>rfl
  | ok z=>
   rw [Qae (r:=.ok z) rfl,Qae (r:=.ok z) rfl]
   cases stringL l (fun _=>0) z.2 with
   | error f=>rfl
   | ok u=>
    rw [Qae (r:=.ok u) rfl,Qae (r:=.ok u) rfl]
    unfold semi
    cases passL l [[59]] u.2 with
    | error f=>rfl
    | ok v=>rfl
theorem Qu8 {q:(Nat×List UInt8×List UInt8)×PS} (h:Qu9 l s=.ok q):cmdBody l F tst sub 6 pos s=.ok ((⟨6,pos,q.1.1,q.1.2.2,q.1.2.1,false⟩,[],[]),q.2):=Qpf.trans (Qae h)
theorem QuJ {f:Flt} (h:Qu9 l s=.error f):cmdBody l F tst sub 6 pos s=.error f:=Qpf.trans (Qaf h)
theorem Qrd:cmdBody l F tst sub 7 pos s=QaT (armL l F tst sub s) fun a s1=>QaT (armsMore l F tst sub F [a] s1) fun arms s2=>QaT (mayL l [QdS] s2) fun i s3=>if i=0 then .ok ((⟨7,pos,0,[],[],false⟩,arms,[]),s3) else QaT (blockL l F sub s3) fun cs s4=>.ok ((⟨7,pos,0,[],[],true⟩,arms,cs),s4):=rfl
theorem Qsh:cmdBody l F tst sub 7 pos s=QaT (QgG l F tst sub s) fun x s1=>.ok ((⟨7,pos,0,[],[],x.2.1⟩,x.1,x.2.2),s1):=by
 rw [Qrd]
 unfold QgG
 cases h1:armL l F tst sub s with
 | error f=>rfl
 | ok y=>
  rw [Qae (r:=.ok y) rfl,Qae (r:=.ok y) rfl]
  cases h2:armsMore l F tst sub F [y.1] y.2 with
  | error f=>rfl
  | ok z=>
   rw [Qae (r:=.ok z) rfl,Qae (r:=.ok z) rfl]
   cases h3:mayL l [QdS] z.2 with
   | error f=>rfl
   | ok u=>
    rw [Qae (r:=.ok u) rfl,Qae (r:=.ok u) rfl]
    by_cases h4:u.1=0
    ·rw [if_pos h4,if_pos h4];rfl
    ·rw [if_neg h4,if_neg h4]
     cases h5:blockL l F sub u.2 with
     | error f=>rfl
     | ok v=>rfl
theorem Qvx {q:(List (β×List α)×Bool×List α)×PS} (h:QgG l F tst sub s=.ok q):cmdBody l F tst sub 7 pos s=.ok ((⟨7,pos,0,[],[],q.1.2.1⟩,q.1.1,q.1.2.2),q.2):=Qsh.trans (Qae h)
theorem Qvp {f:Flt} (h:QgG l F tst sub s=.error f):cmdBody l F tst sub 7 pos s=.error f:=Qsh.trans (Qaf h)
end
theorem Qjj (d:Int) (b:Nat) (t:ByteArray) (s:PS) (rv:Value) (mc mt p1 k1 p2 k2 p3 k3:Nat) (w:World) (h:RC w b t s rv mc mt) (ht:Qqt w b mc p1 k1 p2 k2 p3 k3) (hd:d≤6) (h0:whichL cmdNames s.1.spelt=0) :
 Calls Tryz.prog 261 #[.pointer (some ⟨b,0,none⟩),.map (some mc),.int .i64 d] w fun e w'=>Qc6 ⟨4,s.1.pos⟩ w e w'∧Mod b w w':=by
 have h1:w.cell? ⟨b,1,none⟩=some (.int .i64 s.1.kind):=h.at_.cell 1
 have h3:w.cell? ⟨b,3,none⟩=some (.string (Qad s.1.spelt)):=h.at_.cell 3
 have hlk:=ht.look w s.1.spelt rfl
 rw [QjM h0] at hlk
 have H:=Qab h
 clear h ht h0
 simp only [Option.getD_none,Option.isSome_none] at hlk
 by_cases hk:s.1.kind=1
 ·have hk':((s.1.kind:Int) != 1)=false:=by simp;omega
  clear hk
  go_enter Tryz.func261,Tryz.ntmps261
  go_wp2_with fail
  refine (QaI b _ _ _ rfl).mono ?_
  rintro e w' ⟨rfl,hww⟩
  subst hww
  go_wp2_with fail
  refine (Qbr b 4 _ _ t s.1 s.2 rv mc mt _ H.out.at_ rfl rfl).mono ?_
  rintro e w1 ⟨⟨bb,hz,rfl,hcc⟩,hm⟩
  exact ⟨rfl,⟨bb,hz,rfl,hcc⟩,Mod.of_below hm⟩
 ·have hk':((s.1.kind:Int) != 1)=true:=by simp;omega
  clear hk
  go_enter Tryz.func261,Tryz.ntmps261
  go_wp2_with fail
  refine (QaI b _ _ _ rfl).mono ?_
  rintro e w' ⟨rfl,hww⟩
  subst hww
  go_wp2_with fail
  refine (Qbr b 4 _ _ t s.1 s.2 rv mc mt _ H.out.at_ rfl rfl).mono ?_
  rintro e w1 ⟨⟨bb,hz,rfl,hcc⟩,hm⟩
  exact ⟨rfl,⟨bb,hz,rfl,hcc⟩,Mod.of_below hm⟩
theorem Qmb (fv:Value) (req:List (List UInt8)) (d:Int) (b:Nat) (t:ByteArray) (s:PS) (rv:Value) (mc mt p1 k1 p2 k2 p3 k3:Nat) (w:World) (h:RC w b t s rv mc mt) (ht:Qqt w b mc p1 k1 p2 k2 p3 k3) (hr:Qk3 w b rv req) (hd:d≤6) (hk1:s.1.kind=1) (hf:cmdFn b p1 k1 p2 k2 p3 k3 s.1.spelt=some fv) (hu:QcE req s.1.spelt=false) :
 Calls Tryz.prog 261 #[.pointer (some ⟨b,0,none⟩),.map (some mc),.int .i64 d] w fun e w'=>Qc6 ⟨6,s.1.pos⟩ w e w'∧Mod b w w':=by
 have h1:w.cell? ⟨b,1,none⟩=some (.int .i64 s.1.kind):=h.at_.cell 1
 have h3:w.cell? ⟨b,3,none⟩=some (.string (Qad s.1.spelt)):=h.at_.cell 3
 have hlk:=ht.look w s.1.spelt rfl
 rw [hf] at hlk
 have H:=Qab h
 have HU:=Qab (QdH s.1.spelt req b t s rv mc mt w h hr)
 rw [hu] at HU
 clear h ht hr hf hu
 simp only [Option.getD_some,Option.isSome_some] at hlk
 have hk':((s.1.kind:Int) != 1)=false:=by simp;omega
 clear hk1
 go_enter Tryz.func261,Tryz.ntmps261
 go_wp2_with fail
 refine (QaI b _ _ _ rfl).mono ?_
 rintro e w' ⟨rfl,hww⟩
 subst w'
 go_wp2_with fail
 refine (QaI b _ _ _ rfl).mono ?_
 rintro e w' ⟨rfl,hww⟩
 subst w'
 go_wp2_with fail
 refine HU.out.mono ?_
 rintro e w' ⟨rfl,hww⟩
 subst w'
 go_wp2_with fail
 refine (Qbr b 6 _ _ t s.1 s.2 rv mc mt _ H.out.at_ rfl rfl).mono ?_
 rintro e w1 ⟨⟨bb,hz,rfl,hcc⟩,hm⟩
 exact ⟨rfl,⟨bb,hz,rfl,hcc⟩,Mod.of_below hm⟩
theorem Qol (b:Nat) (t:ByteArray) (s:PS) (rv:Value) (mc mt p1 k1 p2 k2 p3 k3:Nat) (w:World) (h:RC w b t s rv mc mt) (ht:Qqt w b mc p1 k1 p2 k2 p3 k3) :
 Calls Tryz.prog 261 #[.pointer (some ⟨b,0,none⟩),.map (some mc),.int .i64 7] w fun e w'=>Qc6 ⟨if s.1.kind=1 then 5 else 4,s.1.pos⟩ w e w'∧Mod b w w':=by
 have h1:w.cell? ⟨b,1,none⟩=some (.int .i64 s.1.kind):=h.at_.cell 1
 have h3:w.cell? ⟨b,3,none⟩=some (.string (Qad s.1.spelt)):=h.at_.cell 3
 have hlk:=ht.look w s.1.spelt rfl
 have H:=Qab h
 by_cases hk:s.1.kind=1
 ·rw [if_pos hk]
  have hk':((s.1.kind:Int) != 1)=false:=by simp;omega
  clear hk h ht hlk
  go_enter Tryz.func261,Tryz.ntmps261
  go_wp2_with fail
  refine (Qbr b 5 _ _ t s.1 s.2 rv mc mt _ H.out.at_ rfl rfl).mono ?_
  rintro e w1 ⟨⟨bb,hz,rfl,hcc⟩,hm⟩
  exact ⟨rfl,⟨bb,hz,rfl,hcc⟩,Mod.of_below hm⟩
 ·rw [if_neg hk]
  have h0:whichL cmdNames s.1.spelt=0:=by
   apply Classical.byContradiction
   intro h0
   exact hk (Qpm h.nm h0)
  rw [QjM h0] at hlk
  have hk':((s.1.kind:Int) != 1)=true:=by simp;omega
  clear hk h ht h0
  simp only [Option.getD_none,Option.isSome_none] at hlk
  go_enter Tryz.func261,Tryz.ntmps261
  go_wp2_with fail
  refine (QaI b _ _ _ rfl).mono ?_
  rintro e w' ⟨rfl,hww⟩
  subst w'
  go_wp2_with fail
  refine (Qbr b 4 _ _ t s.1 s.2 rv mc mt _ H.out.at_ rfl rfl).mono ?_
  rintro e w1 ⟨⟨bb,hz,rfl,hcc⟩,hm⟩
  exact ⟨rfl,⟨bb,hz,rfl,hcc⟩,Mod.of_below hm⟩
theorem Qkm (f:FuncId) (q q2:Nat) (n:Nat) (req:List (List UInt8)) (d:Int) (b F:Nat) (t:ByteArray) (s:PS) (rv:Value) (mc mt p1 k1 p2 k2 p3 k3:Nat) (w:World) (h:RC w b t s rv mc mt) (ht:Qqt w b mc p1 k1 p2 k2 p3 k3) (hr:Qk3 w b rv req) (hd0:0≤d) (hd:d≤6) (hk1:s.1.kind=1) (hu:QcE req s.1.spelt=true)
 (hfn:cmdFn b p1 k1 p2 k2 p3 k3 s.1.spelt=some (.func (.func f) #[] #[.pointer (some ⟨q,0,none⟩),.pointer (some ⟨q2,0,none⟩)])) (hcf:∀ args W,(callFunc f args).run Tryz.prog W=.ok (.enter f args) W) (hne:∀ f2,nextL t.data.toList s.2=.error f2→cmdL t.data.toList req F (n+1) s=.error f2)
 (hcon:∀ W y,Mod b w W→RC W b t y rv mc mt→nextL t.data.toList s.2=.ok y→Calls Tryz.prog f #[.agg #[.string (Qad s.1.spelt),.int .i64 s.1.pos],.int .i64 d,.pointer (some ⟨q,0,none⟩),.pointer (some ⟨q2,0,none⟩)] W (Qau (cmdL t.data.toList req F (n+1) s) b t rv mc mt w (Qg0 (n+1) (fromB w.heap.size)))) :
 Calls Tryz.prog 261 #[.pointer (some ⟨b,0,none⟩),.map (some mc),.int .i64 d] w (Qau (cmdL t.data.toList req F (n+1) s) b t rv mc mt w (Qg0 (n+1) (fromB w.heap.size))):=by
 have h1:w.cell? ⟨b,1,none⟩=some (.int .i64 s.1.kind):=h.at_.cell 1
 have h2:w.cell? ⟨b,2,none⟩=some (.int .i64 s.1.pos):=h.at_.cell 2
 have h3:w.cell? ⟨b,3,none⟩=some (.string (Qad s.1.spelt)):=h.at_.cell 3
 have hlk:=ht.look w s.1.spelt rfl
 rw [hfn] at hlk
 have H:=Qab h
 have HU:=Qab (QdH s.1.spelt req b t s rv mc mt w h hr)
 rw [hu] at HU
 have HNE:=Qab hne
 have HCON:=Qab hcon
 have hlt:=h.at_.lt
 clear h ht hr hfn hu hne hcon
 simp only [Option.getD_some,Option.isSome_some] at hlk
 have hk':((s.1.kind:Int) != 1)=false:=by simp;omega
 clear hk1
 go_enter Tryz.func261,Tryz.ntmps261
 go_wp2_with fail
 refine (QaI b _ _ _ rfl).mono ?_
 rintro e w' ⟨rfl,hww⟩
 subst w'
 go_wp2_with fail
 refine (QaI b _ _ _ rfl).mono ?_
 rintro e w' ⟨rfl,hww⟩
 subst w'
 go_wp2_with fail
 refine HU.out.mono ?_
 rintro e w' ⟨rfl,hww⟩
 subst w'
 go_wp2_with fail
 refine (QaI b _ _ _ rfl).mono ?_
 rintro e w' ⟨rfl,hww⟩
 subst w'
 clear HU hlk
 go_wp2_with fail
 go_region
 all_goals go_wp2_with fail
 all_goals
  refine (Qc1 b t s rv mc mt _ ((H.out.alloc _).drew)).mono ?_
  rintro e w2 (⟨y,hy,rfl,hc,hm⟩ | ⟨f2,hf2,⟨bb,hz,rfl,hcc⟩,hm⟩)
 all_goals first
  | exact ⟨rfl,Qau.err (HNE.out _ hf2) (((Mod.refl b w).alloc _).trans (QaV hm)) ⟨bb,by simp at hz;omega,rfl,hcc⟩⟩
  | skip
 all_goals
  obtain ⟨hh0,hh1,hmw⟩:=Qer hm hlt
  have HM:=Qab hmw
  have HC:=Qab hc
  have HCN:=Qab (HCON.out _ y hmw hc hy)
  clear hm hc hy hmw
  go_wp2_with fail
  refine HCN.out.mono ?_
  intro e w3 h3'
  have HQ:=Qab h3'
  clear h3'
  rcases HQ.out.cases with ⟨q,v,hq,rfl,hv,hc3,hm3⟩ | ⟨f3,hf3,⟨bb,hz,rfl,hcc⟩,hm3⟩
 all_goals first
  | exact ⟨rfl,Qau.err hf3 hm3 ⟨bb,hz,rfl,hcc⟩⟩
  | skip
 all_goals
  have HQ2:=Qab (Qau.ok hq hm3 hv hc3)
  clear hq hm3 hv hc3 HQ
  go_wp2
  go_ret
  exact HQ2.out
theorem Qf4 (f:FuncId) (n:Nat) (req:List (List UInt8)) (d:Int) (b F:Nat) (t:ByteArray) (s:PS) (rv:Value) (mc mt p1 k1 p2 k2 p3 k3:Nat) (w:World) (h:RC w b t s rv mc mt) (ht:Qqt w b mc p1 k1 p2 k2 p3 k3) (hr:Qk3 w b rv req) (hd0:0≤d) (hd:d≤6) (hk1:s.1.kind=1) (hu:QcE req s.1.spelt=true)
 (hfn:cmdFn b p1 k1 p2 k2 p3 k3 s.1.spelt=some (.func (.func f) #[.pointer (some ⟨b,0,none⟩)] #[])) (hcf:∀ args W,(callFunc f args).run Tryz.prog W=.ok (.enter f args) W) (hne:∀ f2,nextL t.data.toList s.2=.error f2→cmdL t.data.toList req F (n+1) s=.error f2)
 (hcon:∀ W y,Mod b w W→RC W b t y rv mc mt→nextL t.data.toList s.2=.ok y→Calls Tryz.prog f #[.pointer (some ⟨b,0,none⟩),.agg #[.string (Qad s.1.spelt),.int .i64 s.1.pos],.int .i64 d] W (Qau (cmdL t.data.toList req F (n+1) s) b t rv mc mt w (Qg0 (n+1) (fromB w.heap.size)))) :
 Calls Tryz.prog 261 #[.pointer (some ⟨b,0,none⟩),.map (some mc),.int .i64 d] w (Qau (cmdL t.data.toList req F (n+1) s) b t rv mc mt w (Qg0 (n+1) (fromB w.heap.size))):=by
 have h1:w.cell? ⟨b,1,none⟩=some (.int .i64 s.1.kind):=h.at_.cell 1
 have h2:w.cell? ⟨b,2,none⟩=some (.int .i64 s.1.pos):=h.at_.cell 2
 have h3:w.cell? ⟨b,3,none⟩=some (.string (Qad s.1.spelt)):=h.at_.cell 3
 have hlk:=ht.look w s.1.spelt rfl
 rw [hfn] at hlk
 have H:=Qab h
 have HU:=Qab (QdH s.1.spelt req b t s rv mc mt w h hr)
 rw [hu] at HU
 have HNE:=Qab hne
 have HCON:=Qab hcon
 have hlt:=h.at_.lt
 clear h ht hr hfn hu hne hcon
 simp only [Option.getD_some,Option.isSome_some] at hlk
 have hk':((s.1.kind:Int) != 1)=false:=by simp;omega
 clear hk1
 go_enter Tryz.func261,Tryz.ntmps261
 go_wp2_with fail
 refine (QaI b _ _ _ rfl).mono ?_
 rintro e w' ⟨rfl,hww⟩
 subst w'
 go_wp2_with fail
 refine (QaI b _ _ _ rfl).mono ?_
 rintro e w' ⟨rfl,hww⟩
 subst w'
 go_wp2_with fail
 refine HU.out.mono ?_
 rintro e w' ⟨rfl,hww⟩
 subst w'
 go_wp2_with fail
 refine (QaI b _ _ _ rfl).mono ?_
 rintro e w' ⟨rfl,hww⟩
 subst w'
 clear HU hlk
 go_wp2_with fail
 go_region
 all_goals go_wp2_with fail
 all_goals
  refine (Qc1 b t s rv mc mt _ ((H.out.alloc _).drew)).mono ?_
  rintro e w2 (⟨y,hy,rfl,hc,hm⟩ | ⟨f2,hf2,⟨bb,hz,rfl,hcc⟩,hm⟩)
 all_goals first
  | exact ⟨rfl,Qau.err (HNE.out _ hf2) (((Mod.refl b w).alloc _).trans (QaV hm)) ⟨bb,by simp at hz;omega,rfl,hcc⟩⟩
  | skip
 all_goals
  obtain ⟨hh0,hh1,hmw⟩:=Qer hm hlt
  have HM:=Qab hmw
  have HC:=Qab hc
  have HCN:=Qab (HCON.out _ y hmw hc hy)
  clear hm hc hy hmw
  go_wp2_with fail
  refine HCN.out.mono ?_
  intro e w3 h3'
  have HQ:=Qab h3'
  clear h3'
  rcases HQ.out.cases with ⟨q,v,hq,rfl,hv,hc3,hm3⟩ | ⟨f3,hf3,⟨bb,hz,rfl,hcc⟩,hm3⟩
 all_goals first
  | exact ⟨rfl,Qau.err hf3 hm3 ⟨bb,hz,rfl,hcc⟩⟩
  | skip
 all_goals
  have HQ2:=Qab (Qau.ok hq hm3 hv hc3)
  clear hq hm3 hv hc3 HQ
  go_wp2
  go_ret
  exact HQ2.out
theorem Qpz (n:Nat) (req:List (List UInt8)) (d:Int) (b F:Nat) (t:ByteArray) (s:PS) (rv:Value) (mc mt p1 k1 p2 k2 p3 k3:Nat) (w:World) (h:RC w b t s rv mc mt) (ht:Qqt w b mc p1 k1 p2 k2 p3 k3) (hr:Qk3 w b rv req) (hF:2*t.size+1 < F) (hd0:0≤d) (hd:d≤6) (hS:SubMu t.size (cmdL t.data.toList req F n)) (ho1:QeM 252 w b t rv mc mt (d+1) (QbD t.data.toList req F n) (TestV n)) (ho:QeM 174 w b t rv mc mt (d+1) (cmdL t.data.toList req F n) (Qg0 n)) :
 Calls Tryz.prog 261 #[.pointer (some ⟨b,0,none⟩),.map (some mc),.int .i64 d] w (Qau (cmdL t.data.toList req F (n+1) s) b t rv mc mt w (Qg0 (n+1) (fromB w.heap.size))):=by
 by_cases h0:whichL cmdNames s.1.spelt=0
 ·refine (Qjj d b t s rv mc mt p1 k1 p2 k2 p3 k3 w h ht hd h0).mono ?_
  rintro e w1 ⟨h1,h2⟩
  exact Qau.err (by rw [cmdL,if_pos h0]) h2 h1
 have hk1:=Qpm h.nm h0
 cases hu:QcE req s.1.spelt
 ·obtain ⟨fv,hf⟩:=Qp5 (b:=b) (p1:=p1) (k1:=k1) (p2:=p2) (k2:=k2) (p3:=p3) (k3:=k3) h0
  refine (Qmb fv req d b t s rv mc mt p1 k1 p2 k2 p3 k3 w h ht hr hd hk1 hf hu).mono ?_
  rintro e w1 ⟨h1,h2⟩
  exact Qau.err (by rw [cmdL,if_neg h0,if_neg (by rw [hu];decide)]) h2 h1
 have hle:=QbW cmdNames s.1.spelt
 have hl:cmdNames.length=8:=rfl
 rcases (by omega:whichL cmdNames s.1.spelt=0+1∨whichL cmdNames s.1.spelt=1+1∨whichL cmdNames s.1.spelt=2+1∨whichL cmdNames s.1.spelt=3+1∨whichL cmdNames s.1.spelt=4+1∨whichL cmdNames s.1.spelt=5+1∨whichL cmdNames s.1.spelt=6+1∨whichL cmdNames s.1.spelt=7+1) with hi | hi | hi | hi | hi | hi | hi | hi
 ·refine Qf4 152 n req d b F t s rv mc mt p1 k1 p2 k2 p3 k3 w h ht hr hd0 hd hk1 hu (by unfold cmdFn;rw [hi];rfl) (fun _ _=>by kernel_rfl) (fun f2 hf2=>Qb8 hi hu hf2) (fun W y HM HC hy=>?_)
  have hsp:s.1.spelt=Qfa:=by have:=QaG _ _ _ hi;simpa [cmdNames] using this.symm
  have HE:=Qdj (F:=F) (n:=n) hi hu hy
  refine (Qs3 s.1.spelt s.1.pos d b t y rv mc mt _ HC).mono ?_
  intro e w3 h3'
  exact Qau.lift (fun _=>((⟨0,s.1.pos,0,[],[],false⟩:QfA),[],[])) h3' HM (fun q hq=>HE.trans (Qoy hq)) (fun f hf=>HE.trans (Qk2 hf)) (fun a v _ hv=>by rw [hsp] at hv;exact hv)
 ·refine Qf4 153 n req d b F t s rv mc mt p1 k1 p2 k2 p3 k3 w h ht hr hd0 hd hk1 hu (by unfold cmdFn;rw [hi];rfl) (fun _ _=>by kernel_rfl) (fun f2 hf2=>Qb8 hi hu hf2) (fun W y HM HC hy=>?_)
  have hsp:s.1.spelt=QbV:=by have:=QaG _ _ _ hi;simpa [cmdNames] using this.symm
  have HE:=Qdj (F:=F) (n:=n) hi hu hy
  refine (Qng s.1.spelt s.1.pos d b t y rv mc mt _ HC).mono ?_
  intro e w3 h3'
  exact Qau.lift (fun _=>((⟨1,s.1.pos,0,[],[],false⟩:QfA),[],[])) h3' HM (fun q hq=>HE.trans (Qoy hq)) (fun f hf=>HE.trans (Qk2 hf)) (fun a v _ hv=>by rw [hsp] at hv;exact hv)
 ·refine Qf4 154 n req d b F t s rv mc mt p1 k1 p2 k2 p3 k3 w h ht hr hd0 hd hk1 hu (by unfold cmdFn;rw [hi];rfl) (fun _ _=>by kernel_rfl) (fun f2 hf2=>Qb8 hi hu hf2) (fun W y HM HC hy=>?_)
  have hsp:s.1.spelt=Qe3:=by have:=QaG _ _ _ hi;simpa [cmdNames] using this.symm
  have HE:=Qdj (F:=F) (n:=n) hi hu hy
  refine (QsS s.1.spelt s.1.pos d b t y rv mc mt _ HC).mono ?_
  intro e w3 h3'
  exact Qau.lift (fun _=>((⟨2,s.1.pos,0,[],[],false⟩:QfA),[],[])) h3' HM (fun q hq=>HE.trans (Qoy hq)) (fun f hf=>HE.trans (Qk2 hf)) (fun a v _ hv=>by rw [hsp] at hv;exact hv)
 ·refine Qkm 244 p1 k1 n req d b F t s rv mc mt p1 k1 p2 k2 p3 k3 w h ht hr hd0 hd hk1 hu (by unfold cmdFn;rw [hi];rfl) (fun _ _=>by kernel_rfl) (fun f2 hf2=>Qb8 hi hu hf2) (fun W y HM HC hy=>?_)
  have hsp:s.1.spelt=QaK:=by have:=QaG _ _ _ hi;simpa [cmdNames] using this.symm
  have HE:=Qdj (F:=F) (n:=n) hi hu hy
  refine (Qky s.1.spelt s.1.pos d p1 k1 2 b t y rv mc mt _ HC (ht.mod HM).hp1 (ht.mod HM).hk1 (ht.mod HM).k1b).mono ?_
  intro e w3 h3'
  exact Qau.lift (fun x=>((⟨3,s.1.pos,0,x,[],false⟩:QfA),[],[])) h3' HM (fun q hq=>HE.trans (QrY hq)) (fun f hf=>HE.trans (QnG hf)) (fun a v _ hv=>by rw [hsp] at hv;exact hv)
 ·refine Qkm 244 p2 k2 n req d b F t s rv mc mt p1 k1 p2 k2 p3 k3 w h ht hr hd0 hd hk1 hu (by unfold cmdFn;rw [hi];rfl) (fun _ _=>by kernel_rfl) (fun f2 hf2=>Qb8 hi hu hf2) (fun W y HM HC hy=>?_)
  have hsp:s.1.spelt=Qbk:=by have:=QaG _ _ _ hi;simpa [cmdNames] using this.symm
  have HE:=Qdj (F:=F) (n:=n) hi hu hy
  refine (Qky s.1.spelt s.1.pos d p2 k2 3 b t y rv mc mt _ HC (ht.mod HM).hp2 (ht.mod HM).hk2 (ht.mod HM).k2b).mono ?_
  intro e w3 h3'
  exact Qau.lift (fun x=>((⟨4,s.1.pos,0,x,[],false⟩:QfA),[],[])) h3' HM (fun q hq=>HE.trans (QrY hq)) (fun f hf=>HE.trans (QnG hf)) (fun a v _ hv=>by rw [hsp] at hv;exact hv)
 ·refine Qkm 244 p3 k3 n req d b F t s rv mc mt p1 k1 p2 k2 p3 k3 w h ht hr hd0 hd hk1 hu (by unfold cmdFn;rw [hi];rfl) (fun _ _=>by kernel_rfl) (fun f2 hf2=>Qb8 hi hu hf2) (fun W y HM HC hy=>?_)
  have hsp:s.1.spelt=Qbb:=by have:=QaG _ _ _ hi;simpa [cmdNames] using this.symm
  have HE:=Qdj (F:=F) (n:=n) hi hu hy
  refine (Qky s.1.spelt s.1.pos d p3 k3 4 b t y rv mc mt _ HC (ht.mod HM).hp3 (ht.mod HM).hk3 (ht.mod HM).k3b).mono ?_
  intro e w3 h3'
  exact Qau.lift (fun x=>((⟨5,s.1.pos,0,x,[],false⟩:QfA),[],[])) h3' HM (fun q hq=>HE.trans (QrY hq)) (fun f hf=>HE.trans (QnG hf)) (fun a v _ hv=>by rw [hsp] at hv;exact hv)
 ·refine Qf4 156 n req d b F t s rv mc mt p1 k1 p2 k2 p3 k3 w h ht hr hd0 hd hk1 hu (by unfold cmdFn;rw [hi];rfl) (fun _ _=>by kernel_rfl) (fun f2 hf2=>Qb8 hi hu hf2) (fun W y HM HC hy=>?_)
  have hsp:s.1.spelt=Qgh:=by have:=QaG _ _ _ hi;simpa [cmdNames] using this.symm
  have HE:=Qdj (F:=F) (n:=n) hi hu hy
  refine (Quq s.1.spelt s.1.pos d b t y rv mc mt _ HC).mono ?_
  intro e w3 h3'
  exact Qau.lift (fun x=>((⟨6,s.1.pos,x.1,x.2.2,x.2.1,false⟩:QfA),[],[])) h3' HM (fun q hq=>HE.trans (Qu8 hq)) (fun f hf=>HE.trans (QuJ hf)) (fun a v _ hv=>by rw [hsp] at hv;exact hv)
 ·refine Qf4 157 n req d b F t s rv mc mt p1 k1 p2 k2 p3 k3 w h ht hr hd0 hd hk1 hu (by unfold cmdFn;rw [hi];rfl) (fun _ _=>by kernel_rfl) (fun f2 hf2=>Qb8 hi hu hf2) (fun W y HM HC hy=>?_)
  have hsp:s.1.spelt=kIf:=by have:=QaG _ _ _ hi;simpa [cmdNames] using this.symm
  have HE:=Qdj (F:=F) (n:=n) hi hu hy
  refine (Qp9 (QbD t.data.toList req F n) (TestV n) (cmdL t.data.toList req F n) (Qg0 n) s.1.spelt s.1.pos d b F t y rv mc mt _ HC hF hd0 (by omega) (Qbl n) (QaY n) hS (fun s g=>Qk8 n s g) (fun s g=>Qr3 n s g) (ho1.mod HM) (ho.mod HM)).mono ?_
  intro e w3 h3'
  exact Qau.lift (fun x=>((⟨7,s.1.pos,0,[],[],x.2.1⟩:QfA),x.1,x.2.2)) h3' HM (fun q hq=>HE.trans (Qvx hq)) (fun f hf=>HE.trans (Qvp hf)) (fun a v _ hv=>by
   rw [hsp] at hv
   obtain ⟨av,ev,rfl,h1,h2,h3⟩:=hv
   exact ⟨av,ev,rfl,QfX.weak (Qbl n) (QaY n) h2 h1 (fun k hk _=>Nat.le_trans HM.size hk),h2,h3.weak (QaY n) (fun k hk _=>Nat.le_trans HM.size hk)⟩)
theorem Qhg {α:Type} (r:Except Flt (α×PS)) (val:α→World→Value→Prop) (d:Int) (b:Nat) (t:ByteArray) (s:PS) (rv:Value) (mc mt:Nat) (w:World) (h:RC w b t s rv mc mt)
 (hb:Calls Tryz.prog 261 #[.pointer (some ⟨b,0,none⟩),.map (some mc),.int .i64 d] w (Qau r b t rv mc mt w val)) :
 Calls Tryz.prog 174 #[.pointer (some ⟨b,0,none⟩),.int .i64 d] w (Qau r b t rv mc mt w val):=by
 have h8:w.cell? ⟨b,8,none⟩=some (.map (some mc)):=h.at_.cell 8
 have HB:=Qab hb
 clear hb h
 go_enter Tryz.func174,Tryz.ntmps174
 go_wp2_with fail
 refine HB.out.mono ?_
 intro e w1 h1
 rcases h1.cases with ⟨q,v,hq,rfl,hv,hc3,hm3⟩ | ⟨f3,hf3,⟨bb,hz,rfl,hcc⟩,hm3⟩
 ·have HQ:=Qab (Qau.ok hq hm3 hv hc3)
  clear h1 hq hm3 hv hc3
  go_wp2
  go_ret
  exact HQ.out
 ·exact ⟨rfl,Qau.err hf3 hm3 ⟨bb,hz,rfl,hcc⟩⟩
theorem Qiv (req:List (List UInt8)) (b F:Nat) (t:ByteArray) (rv:Value) (mc mt pr pt pf p1 k1 p2 k2 p3 k3:Nat) (hF:2*t.size+1 < F) :
 ∀ (n:Nat),n≤7→∀ (w:World),Qn2 w b mt pr pt pf→Qqt w b mc p1 k1 p2 k2 p3 k3→Qk3 w b rv req→QeM 174 w b t rv mc mt (7 - (n:Int)) (cmdL t.data.toList req F n) (Qg0 n)
 | 0,_,w,ht,hcm,hr=>fun W s hm hc=>by
  refine Qhg _ _ _ b t s rv mc mt W hc ?_
  refine (Qol b t s rv mc mt p1 k1 p2 k2 p3 k3 W hc (hcm.mod hm)).mono ?_
  rintro e w1 ⟨h1,h2⟩
  refine Qau.err ?_ h2 h1
  rw [cmdL]
  split <;> rfl
 | n+1,hn,w,ht,hcm,hr=>fun W s hm hc=>by
  refine Qhg _ _ _ b t s rv mc mt W hc ?_
  have ih:=Qiv req b F t rv mc mt pr pt pf p1 k1 p2 k2 p3 k3 hF n (by omega) W (ht.mod hm) (hcm.mod hm) (hr.mod hm)
  have it:=QuL req b F t rv mc mt pr pt pf hF n (by omega) W (ht.mod hm) (hr.mod hm)
  have e:(7:Int) - ((n+1:Nat):Int)+1=7 - (n:Int):=by omega
  exact Qpz n req _ b F t s rv mc mt p1 k1 p2 k2 p3 k3 W hc (hcm.mod hm) (hr.mod hm) hF (by omega) (by omega) (Qt1 t req F n) (by rw [e];exact it) (by rw [e];exact ih)
end
section
open Go.RowKit
attribute [local go_sem ↓] Go.wp_at_zero Go.wp_at_succ
theorem Qpb {l:List UInt8} {chk:List UInt8→Nat}:∀ (f:Nat) (acc:List (List UInt8)) (s:PS),Gd l s→∀ y,moreL l chk f acc s=.ok y→2*y.1.length+mu l.length y.2≤2*acc.length+mu l.length s
 | 0,acc,s,h=>fun y e=>by cases e;exact Nat.le_refl _
 | f+1,acc,s,h=>fun y e=>by
  rw [moreL] at e
  cases hp:passL l [[44],[93]] s with
  | error g=>rw [hp] at e;cases e
  | ok z=>
   rw [hp] at e
   obtain ⟨h1,h2⟩:=QfP (zs:=[[44],[93]]) h (by decide) z hp
   dsimp only at e
   split at e
   ·cases hs:stringL l chk z.2 with
    | error g=>rw [hs] at e;cases e
    | ok x=>
     rw [hs] at e
     obtain ⟨h3,h4⟩:=QcM h1 x hs
     have h6:=Qpb f _ x.2 h3 y e
     simp only [List.length_append,List.length_cons,List.length_nil] at h6
     omega
   ·cases e;dsimp only;omega
theorem Qno {l:List UInt8} {chk:List UInt8→Nat} {F:Nat} {s:PS} (h:Gd l s):∀ y,stringsL l chk F s=.ok y→2*y.1.length+mu l.length y.2≤mu l.length s+1:=fun y e=>by
 unfold stringsL at e
 cases hm:mayL l [[91]] s with
 | error g=>rw [hm] at e;cases e
 | ok z=>
  rw [hm] at e
  obtain ⟨h1,h2⟩:=Qkg (zs:=[[91]]) h (by decide) z hm
  dsimp only at e
  cases hs:stringL l chk z.2 with
  | error g=>rw [hs] at e;cases e
  | ok x=>
   rw [hs] at e
   obtain ⟨h3,h4⟩:=QcM h1 x hs
   dsimp only at e
   split at e
   ·cases e;simp only [List.length_cons,List.length_nil];omega
   ·have h6:=Qpb F _ x.2 h3 y e
    simp only [List.length_cons,List.length_nil] at h6
    omega
theorem QkL (req:List (List UInt8)) (x:List UInt8):(Qb9 req x).length≤req.length+1:=by
 unfold Qb9;split <;> simp
theorem QfI:∀ (xs req:List (List UInt8)),(xs.foldl Qb9 req).length≤req.length+xs.length
 | [],req=>by simp
 | x :: r,req=>by
  have h1:=QfI r (Qb9 req x)
  have h2:=QkL req x
  rw [List.foldl_cons,List.length_cons]
  omega
theorem QlO {w:World} {base b:Nat} {rv:Value} {req:List (List UInt8)} (h:w.ownsRow base 9 1 rv req.length (QaN req)) (hnil:req=[]→rv=.slice none 0 0) (hb:b < base) (hl:req.length≤1000):Qk3 w b rv req:=by
 by_cases hr:req=[]
 ·exact Or.inl ⟨hnil hr,hr⟩
 ·obtain ⟨g,c,hv,hg,ht,hx⟩:=slB.of_owns h rfl hr
  exact Or.inr ⟨g,c,hv,by omega,ht,hx,hl⟩
theorem Qi1.mod {w w':World} {p1 p2 g n c er b:Nat} {zs:List (List UInt8)} (h:Qi1 w p1 p2 g n c er zs) (hm:Mod b w w') (h1:p1≠b) (h2:p2≠b) (h3:g≠b):Qi1 w' p1 p2 g n c er zs:=
 ⟨QbX h.1 hm h1,QbX h.2.1 hm h2,fun j hj=>QbX (h.2.2.1 j hj) hm h3,h.2.2.2.1,h.2.2.2.2⟩
def QhW:List (List UInt8):=[QaM,QaK,Qbb,QbB]
theorem RC.setReq {w:World} {b:Nat} {t:ByteArray} {s:PS} {rv:Value} {mc mt:Nat} (h:RC w b t s rv mc mt) (v:Value):RC (w.setCell ⟨b,7,none⟩ v) b t s v mc mt:=
 h.step ((Mod.refl b w).setCell 7 v) (Qah w b 7 v _ _ h.at_) h.le h.sz h.e0 h.nm
def QuK (r:Except Flt (List (List UInt8)×PS)) (b:Nat) (t:ByteArray) (mc mt:Nat) (w:World) (e:Ending) (w':World):Prop:=
 Mod b w w'∧((∃ y rv,r=.ok y∧e=.returned (.tuple #[])∧RC w' b t y.2 rv mc mt∧Qk3 w' b rv y.1∧∀ k,rv.ownBlock=some k→w.heap.size≤k)∨(∃ f,r=.error f∧Qc6 f w e w'))
theorem Qow (b F:Nat) (t:ByteArray) (s:PS) (mc mt:Nat) (w:World) (h:RC w b t s (.slice none 0 0) mc mt) (hF:2*t.size+1 < F) :
 Calls Tryz.prog 173 #[.pointer (some ⟨b,0,none⟩)] w (QuK (reqMore t.data.toList F F [] s) b t mc mt w):=by
 have H:=Qab h
 have hlt:=h.at_.lt
 have hmuL:=h.mu_le
 have hmuF:=h.mu_lt hF
 clear h
 obtain ⟨i0,hi,hz0,hz1,hz2⟩:=info_parts Tryz.infoStr
 go_enter Tryz.func173,Tryz.ntmps173
 go_wp2_with fail
 go_loopw [] (fun wr=>∃ (s':PS) (req:List (List UInt8)) (rv:Value) (f:Nat),RC wr b t s' rv mc mt∧wr.ownsRow w.heap.size 9 1 rv req.length (QaN req)∧(req=[]→rv=.slice none 0 0)∧Mod b w wr∧mu t.size s' < f∧2*req.length+mu t.size s'≤1300∧reqMore t.data.toList F F [] s=reqMore t.data.toList F f req s') (fun wr=>muW wr b t.size)
 case atStart=>exact ⟨s,[],.slice none 0 0,F,H.out,World.ownsRow_nil _ _ _ _,fun _=>rfl,Mod.refl _ _,hmuF,by simp;omega,rfl⟩
 case round=>
  obtain ⟨s',req,rv,f,hrc,hown,hnil,hmod,hf,hbd,hsp⟩:=hrel
  obtain ⟨f,rfl⟩:∃ g,f=g+1:=⟨f - 1,by omega⟩
  have hmuR:=hrc.muEq
  have hszR:wr.heap.size=wr.heap.size:=rfl
  generalize hMR:muW wr b t.size=MR at *
  have HR:=Qab hrc
  have HMr:=Qab hmod
  have HSP:=Qab hsp
  have HOW:=Qab hown
  have HNL:=Qab hnil
  have hwr:w.heap.size≤wr.heap.size:=hmod.size
  clear hrc hmod hsp hown hnil hmuL hmuF
  go_wp2_with fail
  refine (Qhc b wr.heap.size 1 1 [kRequire] t s' rv mc mt _ (HR.out.alloc _) (Qa8 wr [kRequire] _ _ rfl) rfl (by decide)).mono ?_
  intro e w3 h3
  rcases h3.cases with ⟨y3,v3,hy3,rfl,hv3,hc3,hm3⟩ | ⟨f3,hf3,⟨bb,hz,rfl,hcc⟩,hm3⟩
  rotate_left
  ·exact ⟨rfl,⟨(HMr.out.alloc _).trans hm3,Or.inr ⟨f3,HSP.out.trans (Qaf hf3),⟨bb,by simp at hz;omega,rfl,hcc⟩⟩⟩⟩
  have hmu3:=QiA (l:=t.data.toList) (by simpa using HR.out.le) HR.out.e0 (by decide) hy3
  rw [bal] at hmu3
  have hmu3':=hmu3.2.1
  replace hmu3:=hmu3.1
  have hA3:=((Mod.refl b wr).alloc (.cells #[.string (Qad kRequire)] 9)).trans hm3
  have HM3:=Qab (HMr.out.trans hA3)
  have HY3:=Qab hy3
  have HC3:=Qab hc3
  have HO3:=Qab (Qbu (b:=b) HOW.out hA3 (by omega))
  unfold QjS at hv3
  subst hv3
  clear h3 hy3 hc3 hm3 hA3
  by_cases h1:y3.1=0
  ·have h1':¬ (0:Int) < (y3.1:Int):=by omega
   have H1:=Qab h1
   clear h1
   go_wp2
   go_end0
   exact ⟨HM3.out,Or.inl ⟨(req,y3.2),rv,HSP.out.trans ((Qae HY3.out).trans (if_pos H1.out)),rfl,HC3.out,QlO HO3.out HNL.out (by omega) (show req.length≤1000 by omega),fun k hk=>(HO3.out.lt k hk).1⟩⟩
  have h1':(0:Int) < (y3.1:Int):=by omega
  have hmu3'':=hmu3' h1
  have H1:=Qab h1
  clear h1 hmu3'
  go_wp2_with (go_at_call 168;refine (Qil _ _ _ _ _).mono ?_;rintro e w' ⟨rfl,rfl⟩)
  obtain ⟨U,hU⟩:∃ U,U=((w3.alloc (.cells #[.string ⟨#[101,110,118,101,108,111,112,101]⟩,.string ⟨#[102,105,108,101,105,110,116,111]⟩,.string ⟨#[114,101,106,101,99,116]⟩,.string ⟨#[118,97,114,105,97,98,108,101,115]⟩] 9)).alloc (.cells #[.int .i64 6] 39)).alloc (.cells #[.slice (some ⟨w3.heap.size,0,none⟩) 4 4] 60):=⟨_,rfl⟩
  have hw3:w.heap.size≤w3.heap.size:=HM3.out.size
  have HOU:Hid (Qi1 U (w3.heap.size+1+1) (w3.heap.size+1) w3.heap.size 4 4 6 QhW):=by
   rw [hU]
   refine ⟨?_,?_,?_,rfl,by decide⟩
   ·exact Qaa (QaD (by simp)) 0
   ·exact Qaa (Qac (QaD (by simp))) 0
   ·exact ((Qa8 w3 QhW _ _ rfl).below ((Below.refl _ _).alloc (Nat.le_refl _) _)).below ((Below.refl _ _).alloc (Nat.le_refl _) _)
  have HRU:Hid (RC U b t y3.2 rv mc mt):=by rw [hU];exact ((HC3.out.alloc _).alloc _).alloc _
  have hMU':Mod b w3 U:=by rw [hU];exact (((Mod.refl b w3).alloc _).alloc _).alloc _
  have HMU:=Qab (HM3.out.trans hMU')
  have HOW4:=Qab (Qbu (b:=b) HO3.out hMU' (by omega))
  have hzU:U.heap.size=w3.heap.size+1+1+1:=by rw [hU];simp
  rw [← hU]
  clear hU hMU'
  refine (QeC (.func (.func 256) #[] #[.pointer (some ⟨w3.heap.size+1+1,0,none⟩),.pointer (some ⟨w3.heap.size+1,0,none⟩)]) (QcK 6 QhW) b F t y3.2 rv mc mt _ HRU.out (fun W s hm hc=>QhA _ _ _ 4 4 6 QhW b t s rv mc mt W hc (HOU.out.mod hm (by omega) (by omega) (by omega))) (by have:=HRU.out.mu_lt hF;exact this)).mono ?_
  intro e w5 h5
  rcases h5.cases with ⟨y5,v5,hy5,rfl,hv5,hc5,hm5⟩ | ⟨f5,hf5,⟨bb,hz,rfl,hcc⟩,hm5⟩
  rotate_left
  ·exact ⟨rfl,⟨HMU.out.trans hm5,Or.inr ⟨f5,HSP.out.trans ((Qae HY3.out).trans ((if_neg H1.out).trans (Qaf hf5))),⟨bb,Nat.le_trans HMU.out.size hz,rfl,hcc⟩⟩⟩⟩
  have hlen5:=Qno (l:=t.data.toList) ⟨by simpa using HRU.out.le,HRU.out.e0⟩ y5 hy5
  rw [bal] at hlen5
  obtain ⟨xg,xc,rfl,hxg,hxt,hxne⟩:=hv5
  have HX5:=Qab hxt
  have HM5:=Qab (HMU.out.trans hm5)
  have HY5:=Qab hy5
  have HC5:=Qab hc5
  have HO5:=Qab (Qbu (b:=b) HOW4.out hm5 (by omega))
  have hrvx:∀ k,rv.ownBlock=some k→k < U.heap.size:=fun k hk=>(HOW4.out.lt k hk).2
  clear h5 hy5 hc5 hm5 hxt
  go_wp2_with fail
  go_loopw [13] (fun i wi=>∃ (k:Nat) (rv':Value),i=.int .i64 k∧k≤y5.1.length∧RC wi b t y5.2 rv' mc mt∧wi.ownsRow w.heap.size 9 1 rv' ((y5.1.take k).foldl Qb9 req).length (QaN ((y5.1.take k).foldl Qb9 req))∧((y5.1.take k).foldl Qb9 req=[]→rv'=.slice none 0 0)∧Mod b w wi∧TxtAt wi xg y5.1∧(∀ g,rv'.ownBlock=some g→g≠xg)∧muW wi b t.size=mu t.size y5.2∧xg < wi.heap.size) (fun i _=>y5.1.length - (intOf i).toNat)
  case atStart=>exact ⟨0,rv,rfl,Nat.zero_le _,HC5.out,HO5.out,HNL.out,HM5.out,HX5.out,fun k hk e=>by have:=hrvx k hk;omega,HC5.out.muEq,Qax (HX5.out 0 (List.length_pos_iff.2 hxne))⟩
  case round=>
   obtain ⟨k,rv',rfl,hk,hrc,hown,hnil,hmod,hxt,hrx,hmuw,hxl⟩:=hrel
   have hfl:=QfI (y5.1.take k) req
   have htk:(y5.1.take k).length=k:=by rw [List.length_take];omega
   have HRi:=Qab hrc
   have HOi:=Qab hown
   have HNi:=Qab hnil
   have HMi:=Qab hmod
   have HXi:=Qab hxt
   have hwi:w.heap.size≤wr.heap.size:=hmod.size
   clear hrc hown hnil hmod hxt HC5 HO5 HM5 HX5 HR HOW HNL HMr HO3 HC3 HM3
   by_cases hkl:k < y5.1.length
   ·have hx:(y5.1.take (k+1)).foldl Qb9 req=Qb9 ((y5.1.take k).foldl Qb9 req) (y5.1.getD k []):=by
     rw [List.take_add_one,List.foldl_append,List.getElem?_eq_getElem hkl,List.getD_eq_getElem?_getD,List.getElem?_eq_getElem hkl]
     rfl
    have HXX:=Qab hx
    have hck:wr.cell? ⟨xg,k,none⟩=some (.string (Qad (y5.1.getD k []))):=HXi.out k hkl
    have h7:wr.cell? ⟨b,7,none⟩=some rv':=HRi.out.at_.cell 7
    generalize hR:(y5.1.take k).foldl Qb9 req=R at *
    generalize y5.1.getD k []=x at *
    have HCN:=Qab (Qhi wr b rv' R x (QlO HOi.out HNi.out (by omega) (by omega)))
    obtain ⟨ra,rn,rc,hrv⟩:∃ a n c,rv'=.slice a n c:=by
     obtain ⟨_,h2⟩:=HOi.out
     rcases h2 with ⟨h,_⟩ | ⟨g,cap,cur,h,_⟩
     ·exact ⟨_,_,_,h⟩
     ·exact ⟨_,_,_,h⟩
    subst hrv
    clear hx hR
    by_cases hw0:0 < whichL R x
    ·rw [decide_eq_true hw0] at HCN
     have HA:Hid (Qb9 R x=R):=by show _=_;unfold Qb9;rw [if_pos hw0]
     clear hw0
     go_wp2_with (go_at_call 79;refine HCN.out.mono ?_;rintro e w' ⟨rfl,hww⟩;subst w')
     go_roundw
     case rel=>exact ⟨k+1,_,by go_num,by omega,HRi.out,by rw [HXX.out,HA.out];exact HOi.out,fun hh=>HNi.out (by rw [HXX.out,HA.out] at hh;exact hh),HMi.out,HXi.out,hrx,hmuw,hxl⟩
     case measure=>simp [intOf];omega
    ·rw [decide_eq_false hw0] at HCN
     have HA:Hid (Qb9 R x=R++[x]):=by show _=_;unfold Qb9;rw [if_neg hw0]
     clear hw0
     have hfz:wr.frozen? ⟨b,7,none⟩=false:=HRi.out.at_.frozen 7
     go_wp2_with (first | (go_at_call 79;refine HCN.out.mono ?_;rintro e w' ⟨rfl,hww⟩;subst w') | (at_builtin;refine wpList_append_own_at _ rfl _ _ 60 rfl w.heap.size 9 i0 (.string ⟨#[]⟩) 1 16 Tryz.underlying60 hi hz0 hz1 hz2 rfl (by decide) _ _ _ rfl (HOi.out.alloc _) ⟨wr.heap.size,0,none⟩ 1 1 [.string (Qad x)] rfl rfl ?c1 ?c2 ?c3 ?c4 ?c5 ?_))
     case c1=>exact cell_one_new _ _ _
     case c2=>intro u hu;simp at hu;subst hu;rfl
     case c3=>unfold maxLen;omega
     case c4=>omega
     case c5=>simp;omega
     ·intro v' w6 hown6 hgrow _ hat
      have hl1:R.length+1=(R++[x]).length:=by simp
      rw [show QaN R++[.string (Qad x)]=QaN (R++[x]) from Qcb R x,hl1] at hown6
      obtain ⟨g',c',rfl,hg',_,_⟩:=slB.of_owns hown6 rfl (by simp)
      obtain ⟨nn,hnn⟩:∃ n,n=(R++[x]).length:=⟨_,rfl⟩
      rw [← hnn] at hown6 hat ⊢
      have hrow:∀ k,(Value.slice ra rn rc).ownBlock=some k→w.heap.size≤k:=fun k hk=>(HOi.out.lt k hk).1
      have hx6:TxtAt w6 xg y5.1:=fun j hj=>by
       rw [World.cell?_of_block (w:=wr) (a:=⟨xg,j,none⟩) (by
        rw [hgrow.block xg (by simp;omega) (fun e=>hrx xg e.symm rfl)]
        exact Below.heap_alloc _ _ _ hxl)]
       exact HXi.out j hj
      have hgx:g'≠xg:=by
       rcases hat with h | h
       ·exact hrx g' (by rw [← h];rfl)
       ·simp [Value.ownBlock] at h;omega
      have hR6:=(HRi.out.alloc (Obj.cells #[.string (Qad x)] 9)).grown hgrow (fun k hk=>by have:=hrow k hk;omega)
      have hM6:=(HMi.out.alloc (Obj.cells #[.string (Qad x)] 9)).grown hgrow (fun k hk=>hrow k hk)
      have h76:w6.cell? ⟨b,7,none⟩=some (.slice ra rn rc):=hR6.at_.cell 7
      have hfz6:w6.frozen? ⟨b,7,none⟩=false:=hR6.at_.frozen 7
      have hxl6:xg < w6.heap.size:=by have:=hgrow.size;simp at this;omega
      have HR7:=Qab (hR6.setReq (.slice (some ⟨g',0,none⟩) nn c'))
      have HM7:=Qab (hM6.setCell 7 (.slice (some ⟨g',0,none⟩) nn c'))
      have HO7:=Qab (Qir (T:=b) (o:=7) (x:=.slice (some ⟨g',0,none⟩) nn c') hown6 (fun k hk=>by simp [Value.ownBlock] at hk;omega))
      have HX7:Hid (TxtAt (w6.setCell ⟨b,7,none⟩ (.slice (some ⟨g',0,none⟩) nn c')) xg y5.1):=fun j hj=>by
       rw [World.cell?_setCell_other _ _ _ _ (by simp;try omega)]
       exact hx6 j hj
      have hzz:(w6.setCell ⟨b,7,none⟩ (.slice (some ⟨g',0,none⟩) nn c')).heap.size=w6.heap.size:=by simp [World.setCell]
      have HNN:=Qab hnn
      clear hnn hown6 hgrow hat hrow hx6 hR6 hM6
      go_wp2
      go_roundw
      case rel=>exact ⟨k+1,_,by go_num,by omega,HR7.out,by rw [HXX.out,HA.out,← HNN.out];exact HO7.out,fun hh=>by rw [HXX.out,HA.out] at hh;simp at hh,HM7.out,HX7.out,fun g hg=>by simp [Value.ownBlock] at hg;omega,HR7.out.muEq,by rw [hzz];exact hxl6⟩
      case measure=>simp [intOf];omega
   ·have hke:k=y5.1.length:=by omega
    subst hke
    have htt:y5.1.take y5.1.length=y5.1:=List.take_length
    rw [htt] at HOi HNi hfl
    go_wp2_with fail
    have HP:=Qab (QcX b wr.heap.size 1 1 [[59]] t y5.2 rv' mc mt _ (HRi.out.alloc (.cells (QaN [[59]]).toArray 9)) (QbK _ _ rfl) rfl (by decide))
    refine HP.out.mono ?_
    intro e w8 h8
    rcases h8.cases with ⟨y8,v8,hy8,rfl,hv8,hc8,hm8⟩ | ⟨f8,hf8,⟨bb,hz,rfl,hcc⟩,hm8⟩
    rotate_left
    ·exact ⟨rfl,⟨(HMi.out.alloc _).trans hm8,Or.inr ⟨f8,HSP.out.trans ((Qae HY3.out).trans ((if_neg H1.out).trans ((Qae HY5.out).trans (Qaf hf8)))),⟨bb,Nat.le_trans (HMi.out.alloc _).size hz,rfl,hcc⟩⟩⟩⟩
    have hmu8:=QhV (l:=t.data.toList) (by simpa using HRi.out.le) HRi.out.e0 (by decide) hy8
    rw [bal] at hmu8
    replace hmu8:=hmu8.1
    have hA8:=((Mod.refl b wr).alloc (.cells (QaN [[59]]).toArray 9)).trans hm8
    have HM8:=Qab (HMi.out.trans hA8)
    have HO8:=Qab (Qbu (b:=b) HOi.out hA8 (by omega))
    have HC8:=Qab hc8
    have HY8:=Qab hy8
    unfold QjS at hv8
    subst hv8
    clear h8 hy8 hc8 hm8 hA8 HP
    have HMW:Hid (muW w8 b t.size < MR):=by
     show _ < _
     rw [HC8.out.muEq]
     omega
    go_wp2
    go_roundw
    case rel=>exact ⟨y8.2,y5.1.foldl Qb9 req,rv',f,HC8.out,HO8.out,HNi.out,HM8.out,by omega,by omega,HSP.out.trans ((Qae HY3.out).trans ((if_neg H1.out).trans ((Qae HY5.out).trans (Qae HY8.out))))⟩
    case measure=>exact HMW.out
end
section
open Go.RowKit
attribute [local go_sem ↓] Go.wp_at_zero Go.wp_at_succ
def ps0:PS:=(⟨0,0,[],[],0⟩,0)
def QjJ (X:Nat→Prop) (req:List (List UInt8)) (w:World) (v:Value):Prop:=
 (req=[]∧v=.slice none 0 0)∨slX X req w v
def Qvb (X:Nat→Prop) (y:List (List UInt8)×List (Qcd 7)) (w:World) (v:Value):Prop:=
 ∃ rv lv,v=.agg #[rv,lv]∧QjJ X y.1 w rv∧blX X (Qg0 7) y.2 w lv
theorem QjJ.keep {X:Nat→Prop} {req:List (List UInt8)} {w w':World} {v:Value} (h:QjJ X req w v) (hk:AbvX X w w'):QjJ X req w' v:=by
 rcases h with h | h
 ·exact Or.inl h
 ·exact Or.inr (h.keep hk)
theorem QjJ.weak {X Y:Nat→Prop} {req:List (List UInt8)} {w:World} {v:Value} (h:QjJ X req w v) (hB:∀ k,X k→k < w.heap.size→Y k):QjJ Y req w v:=by
 rcases h with h | h
 ·exact Or.inl h
 ·exact Or.inr (h.weak hB)
theorem QjJ.of {w:World} {b B:Nat} {rv:Value} {req:List (List UInt8)} (h:Qk3 w b rv req) (hB:∀ k,rv.ownBlock=some k→B≤k):QjJ (fromB B) req w rv:=by
 rcases h with ⟨h1,h2⟩ | ⟨g,c,hv,_,ht,hne,_⟩
 ·exact Or.inl ⟨h2,h1⟩
 ·exact Or.inr ⟨g,c,hv,hB g (by rw [hv];rfl),ht,hne⟩
theorem QjJ.form {X:Nat→Prop} {req:List (List UInt8)} {w:World} {v:Value} (h:QjJ X req w v):∃ a n c,v=.slice a n c:=by
 rcases h with ⟨_,h⟩ | ⟨g,c,h,_⟩
 ·exact ⟨_,_,_,h⟩
 ·exact ⟨_,_,_,h⟩
def QvA (r:Except Flt (List (List UInt8)×List (Qcd 7))) (b:Nat) (w:World) (e:Ending) (w':World):Prop:=
 Mod b w w'∧((∃ y v,r=.ok y∧e=.returned v∧Qvb (fromB w.heap.size) y w' v)∨(∃ f,r=.error f∧Qc6 f w e w'))
theorem Qjo {l:List UInt8} {f:Flt} (h:nextL l 0=.error f):parseL l=.error f:=by unfold parseL;rw [h]
theorem QkQ {l:List UInt8} {s:PS} {f:Flt} (h:nextL l 0=.ok s) (h2:reqMore l (2*l.length+10) (2*l.length+10) [] s=.error f):parseL l=.error f:=by unfold parseL;rw [h];dsimp only;rw [h2]
theorem Qkl {l:List UInt8} {s:PS} {y:List (List UInt8)×PS} {f:Flt} (h:nextL l 0=.ok s) (h2:reqMore l (2*l.length+10) (2*l.length+10) [] s=.ok y) (h3:cmdsMore (cmdL l y.1 (2*l.length+10) 7) (2*l.length+10) [] y.2=.error f):parseL l=.error f:=by unfold parseL;rw [h];dsimp only;rw [h2];dsimp only;rw [h3]
theorem Qrt {l:List UInt8} {s:PS} {y:List (List UInt8)×PS} {cs:List (Qcd 7)} (h:nextL l 0=.ok s) (h2:reqMore l (2*l.length+10) (2*l.length+10) [] s=.ok y) (h3:cmdsMore (cmdL l y.1 (2*l.length+10) 7) (2*l.length+10) [] y.2=.ok cs):parseL l=.ok (y.1,cs):=by unfold parseL;rw [h];dsimp only;rw [h2];dsimp only;rw [h3]
theorem Ql3 {α:Type} {sub:PS→Except Flt (α×PS)} {f:Nat} {acc:List α} {s:PS} (h:s.1.kind=0):cmdsMore sub (f+1) acc s=.ok acc:=by rw [cmdsMore,if_pos h]
theorem Qmy {α:Type} {sub:PS→Except Flt (α×PS)} {f:Nat} {acc:List α} {s:PS} {e:Flt} (h:¬ s.1.kind=0) (h2:sub s=.error e):cmdsMore sub (f+1) acc s=.error e:=by rw [cmdsMore,if_neg h,h2]
theorem Qn1 {α:Type} {sub:PS→Except Flt (α×PS)} {f:Nat} {acc:List α} {s:PS} {y:α×PS} (h:¬ s.1.kind=0) (h2:sub s=.ok y):cmdsMore sub (f+1) acc s=cmdsMore sub f (acc++[y.1]) y.2:=by rw [cmdsMore,if_neg h,h2]
theorem QpR (b:Nat) (t:ByteArray) (mc mt pr pt pf p1 k1 p2 k2 p3 k3:Nat) (w:World) (h:RC w b t ps0 (.slice none 0 0) mc mt) (ht:Qn2 w b mt pr pt pf) (hcm:Qqt w b mc p1 k1 p2 k2 p3 k3) :
 Calls Tryz.prog 105 #[.pointer (some ⟨b,0,none⟩)] w (QvA (parseL t.data.toList) b w):=by
 have H:=Qab h
 have HT:=Qab ht
 have HCM:=Qab hcm
 have hlt:=h.at_.lt
 have hFF:2*t.size+1 < 2*t.data.toList.length+10:=by rw [bal];omega
 generalize hFe:2*t.data.toList.length+10=F at hFF
 clear h ht hcm
 obtain ⟨i0,hi,hz0,hz1,hz2⟩:=info_parts Tryz.infoCommand
 go_enter Tryz.func105,Tryz.ntmps105
 go_wp2_with fail
 have HM0:=Qab ((Mod.refl b w).alloc (.cells #[.slice none 0 0,.slice none 0 0] 97))
 have HB0:=Qab (Qay w (.cells #[.slice none 0 0,.slice none 0 0] 97))
 refine (Qc1 b t ps0 _ mc mt _ (H.out.alloc _)).mono ?_
 rintro e w1 (⟨y,hy,rfl,hc,hm⟩ | ⟨f2,hf2,⟨bb,hz,rfl,hcc⟩,hm⟩)
 rotate_left
 ·exact ⟨rfl,HM0.out.trans hm,Or.inr ⟨f2,Qjo hf2,⟨bb,by simp at hz;omega,rfl,hcc⟩⟩⟩
 have HY:=Qab hy
 have HC:=Qab hc
 have HM:=Qab (HM0.out.trans hm)
 have HB1:=Qab (QaS HB0.out hm (by omega))
 clear hy hc hm
 go_wp2_with fail
 refine (Qow b F t y mc mt _ HC.out hFF).mono ?_
 rintro e w2 ⟨hm2,⟨y2,rv,hy2,rfl,hc2,hr2,hrb⟩ | ⟨f2,hf2,⟨bb,hz,rfl,hcc⟩⟩⟩
 rotate_left
 ·exact ⟨rfl,HM.out.trans hm2,Or.inr ⟨f2,QkQ HY.out (by rw [hFe];exact hf2),⟨bb,Nat.le_trans HM.out.size hz,rfl,hcc⟩⟩⟩
 have hz1':=QaH HB1.out
 have HY2:=Qab hy2
 have HC2:=Qab hc2
 have HM2:=Qab (HM.out.trans hm2)
 have HB2:=Qab (QaS HB1.out hm2 (by omega))
 have HR2:=Qab hr2
 have HRB:Hid (∀ k,rv.ownBlock=some k→w.heap.size+1≤k):=fun k hk=>by have:=hrb k hk;omega
 have HO:=Qab (Qiv y2.1 b F t rv mc mt pr pt pf p1 k1 p2 k2 p3 k3 hFF 7 (Nat.le_refl _) w2 (HT.out.mod HM2.out) (HCM.out.mod HM2.out) hr2)
 rw [show (7:Int) - ((7:Nat):Int)=0 from rfl] at HO
 have hmuL:=hc2.mu_le
 have hmuF:=hc2.mu_lt hFF
 have hz2':=QaH HB2.out
 clear hy2 hc2 hm2 hr2 hrb
 go_wp2_with fail
 go_loopw [3] (fun v wr=>∃ (s':PS) (acc:List (Qcd 7)) (vs:List Value) (f:Nat),wr.ownsRow w2.heap.size 201 1 v acc.length vs∧QjN (fun a u=>QgE (Qg0 7) w2.heap.size wr v a u) acc vs∧(acc=[]→v=.slice none 0 0)∧RC wr b t s' rv mc mt∧Mod b w2 wr∧mu t.size s' < f∧acc.length+mu t.size s'≤1300∧cmdsMore (cmdL t.data.toList y2.1 F 7) F [] y2.2=cmdsMore (cmdL t.data.toList y2.1 F 7) f acc s') (fun _ wr=>muW wr b t.size)
 case atStart=>
  exact ⟨y2.2,[],[],F,World.ownsRow_nil _ _ _ _,trivial,fun _=>rfl,HC2.out,Mod.refl _ _,hmuF,by simp;omega,rfl⟩
 case round=>
  obtain ⟨s',acc,vs,f,hown,hrow,hnil,hrc,hmod,hf,hbd,hsp⟩:=hrel
  obtain ⟨f,rfl⟩:∃ g,f=g+1:=⟨f - 1,by omega⟩
  have HR:=Qab hrc
  have HMr:=Qab hmod
  have HSP:=Qab hsp
  have HOW:=Qab hown
  have HRW:=Qab hrow
  have HNL:=Qab hnil
  have HBr:=Qab (QaS HB2.out hmod (by omega))
  have hzr:=QaH HBr.out
  have hk1:wr.cell? ⟨b,1,none⟩=some (.int .i64 s'.1.kind):=hrc.at_.cell 1
  clear hrc hmod hsp hown hrow hnil HC2 hmuL hmuF
  by_cases h1:s'.1.kind=0
  ·have h1':((s'.1.kind:Int) != 0)=false:=by simp;omega
   have H1:=Qab h1
   have HTb:=Qab (blX.of_owns (QaY 7) HOW.out rfl HNL.out HRW.out)
   obtain ⟨la,ln,lc,rfl⟩:=HTb.out.form
   have HRQ:=Qab (QjJ.of (HR2.out.mod HMr.out) HRB.out)
   obtain ⟨ra,rn,rc,rfl⟩:=HRQ.out.form
   have h7:wr.cell? ⟨b,7,none⟩=some (.slice ra rn rc):=HR.out.at_.cell 7
   have r0:wr.cell? ⟨w.heap.size,0,none⟩=some (.slice none 0 0):=Qaa HBr.out 0
   have r1:wr.cell? ⟨w.heap.size,1,none⟩=some (.slice none 0 0):=Qaa HBr.out 1
   have rf:=Qap HBr.out
   clear h1
   go_wp2
   have hq:¬ fromB (w.heap.size+1) w.heap.size:=by unfold fromB;omega
   have hwk:∀ k,fromB (w.heap.size+1) k→k < ((wr.setCell ⟨w.heap.size,0,none⟩ (.slice ra rn rc)).setCell ⟨w.heap.size,1,none⟩ (.slice la ln lc)).heap.size→fromB w.heap.size k:=fun k hk _=>by unfold fromB at *;omega
   refine bodyPost_ret (v:=.agg #[.slice ra rn rc,.slice la ln lc]) (by simp [results,Tryz.results105,go_sem,r0,r1]) rfl ⟨((HM2.out.trans HMr.out).setNew (Nat.le_refl _) _ _).setNew (Nat.le_refl _) _ _,Or.inl ⟨(y2.1,acc),_,Qrt HY.out (by rw [hFe];exact HY2.out) (by rw [hFe,HSP.out];exact Ql3 H1.out),rfl,⟨_,_,rfl,?_,?_⟩⟩⟩
   ·exact ((HRQ.out.keep (AbvX.set hq _ _)).keep (AbvX.set hq _ _)).weak hwk
   ·have hq:¬ fromB w2.heap.size w.heap.size:=by unfold fromB;omega
    refine blX.weak (QaY 7) ((HTb.out.keep (QaY 7) (AbvX.set hq _ _)).keep (QaY 7) (AbvX.set hq _ _)) (fun k hk _=>by unfold fromB at *;omega)
  have h1':((s'.1.kind:Int) != 0)=true:=by simp;omega
  have H1:=Qab h1
  clear h1
  go_wp2_with fail
  refine (HO.out _ s' HMr.out HR.out).mono ?_
  intro e w4 h4
  rcases h4.cases with ⟨z4,v4,hy4,rfl,hv4,hc4,hm4⟩ | ⟨f4,hf4,⟨bb,hz,rfl,hcc⟩,hm4⟩
  rotate_left
  ·exact ⟨rfl,(HM2.out.trans HMr.out).trans hm4,Or.inr ⟨f4,Qkl HY.out (by rw [hFe];exact HY2.out) (by rw [hFe,HSP.out];exact Qmy H1.out hf4),⟨bb,Nat.le_trans (HM2.out.trans HMr.out).size hz,rfl,hcc⟩⟩⟩
  have hmu4:=Qt1 t y2.1 F 7 s' z4 HR.out.le HR.out.e0 hy4
  have HV4:=Qab hv4
  obtain ⟨ty4,x4,rfl⟩:=(QaY 7).form _ _ _ _ hv4
  have HM4:=Qab (HMr.out.trans hm4)
  have HY4:=Qab hy4
  have HC4:=Qab hc4
  have hown4:=Qbu (b:=b) HOW.out hm4 (by omega)
  have HW4:=Qab (HRW.out.imp (fun a u hu=>QgE.mod (QaY 7) (b:=b) (w':=w4) hu hm4 (by omega)))
  have hlt3:=Qab (fun k hk=>(HOW.out.lt k hk).2)
  have HG4:=Qab (QgE.new (QaY 7) (base:=w2.heap.size) HV4.out HMr.out.size hlt3.out)
  have hz4:w2.heap.size≤w4.heap.size:=HM4.out.size
  clear h4 hy4 hc4 hm4 hv4
  go_wp2_with (at_builtin;refine wpList_append_own_at _ rfl _ _ 95 rfl w2.heap.size 201 i0 .nilIface 1 16 Tryz.underlying95 hi hz0 hz1 hz2 rfl (by decide) _ _ _ rfl (hown4.alloc _) ⟨w4.heap.size,0,none⟩ 1 1 [.iface ty4 x4] rfl rfl ?c1 ?c2 ?c3 ?c4 ?c5 ?_)
  case c1=>exact cell_one_new _ _ _
  case c2=>intro u hu;simp at hu;subst hu;rfl
  case c3=>unfold maxLen;omega
  case c4=>omega
  case c5=>simp;omega
  ·intro v' w5 hown5 hgrow _ hat
   have hrow:∀ k,(u3).ownBlock=some k→w2.heap.size≤k:=fun k hk=>(hown4.lt k hk).1
   have HM5:=Qab ((HM4.out.alloc (Obj.cells #[.iface ty4 x4] 201)).grown hgrow (fun k hk=>hrow k hk))
   have HC5:=Qab ((HC4.out.alloc (Obj.cells #[.iface ty4 x4] 201)).grown hgrow (fun k hk=>by have:=hrow k hk;omega))
   have HO5:=Qab hown5
   have HR5:=Qab (QjN.snoc (P:=fun a u=>QgE (Qg0 7) w2.heap.size w5 v' a u) (HG4.out.grown (QaY 7) hgrow hat) (HW4.out.imp (fun a u hu=>QgE.grown (QaY 7) hu hgrow hat)))
   have hmw:muW w5 b t.size < muW wr b t.size:=by rw [HC5.out.muEq,HR.out.muEq];omega
   have HMW:=Qab hmw
   clear hown5 hgrow hmw hown4 hrow hat
   go_wp2
   go_roundw
   case rel=>exact ⟨z4.2,acc++[z4.1],vs++[.iface ty4 x4],f,by simpa using HO5.out,HR5.out,fun hh=>absurd hh (by simp),HC5.out,HM5.out,by omega,by simp;omega,HSP.out.trans (Qn1 H1.out HY4.out)⟩
   case measure=>exact HMW.out
end
section
open Go.RowKit
def Qcn (es:Array MapEntry) (f:List UInt8→Option Value):Prop:=
 (∀ e∈es.toList,∃ x,e.key=.string (Qad x)∧f x=some e.val)∧∀ x v,f x=some v→∃ e∈es.toList,e.key=.string (Qad x)
theorem Qcn.keys {es:Array MapEntry} {f:List UInt8→Option Value} (h:Qcn es f):∀ e∈es.toList,MapKept.IsKey .string e.key:=fun e he=>by
 obtain ⟨x,hx,_⟩:=h.1 e he
 rw [hx];trivial
theorem Qcn.empty:Qcn #[] (fun _=>none):=⟨fun e he=>by simp at he,fun x v h=>by cases h⟩
theorem Qcn.push {es:Array MapEntry} {f g:List UInt8→Option Value} (h:Qcn es f) {x:List UInt8} {v:Value} {c:Nat} (hn:f x=none) (hx:g x=some v) (hg:∀ z,z≠x→g z=f z):Qcn (es.push ⟨.string (Qad x),v,c⟩) g:=by
 refine ⟨fun e he=>?_,fun z u hz=>?_⟩
 ·simp only [Array.toList_push,List.mem_append,List.mem_singleton] at he
  rcases he with he | he
  ·obtain ⟨z,h1,h2⟩:=h.1 e he
   have:z≠x:=fun e=>by rw [e,hn] at h2;cases h2
   exact ⟨z,h1,by rw [hg z this];exact h2⟩
  ·subst he;exact ⟨x,rfl,hx⟩
 ·by_cases e:z=x
  ·exact ⟨⟨.string (Qad x),v,c⟩,by simp,by rw [e]⟩
  ·rw [hg z e] at hz
   obtain ⟨y,hy,hk⟩:=h.2 z u hz
   exact ⟨y,by simp [hy],hk⟩
theorem Qcn.congr {es:Array MapEntry} {f g:List UInt8→Option Value} (h:Qcn es f) (e:∀ x,f x=g x):Qcn es g:=by
 have:f=g:=funext e
 rw [← this];exact h
def QaQ (w:World) (m:Nat) (o:Obj):World:={ w with heap:=w.heap.setIfInBounds m o }
theorem QaR {T K E:TypeId} (hT:Tryz.prog.underlying T=some (.map K E)) (hK:Tryz.prog.underlying K=some .string) {w:World} {m:Nat} {es:Array MapEntry} {c:Nat} {f:List UInt8→Option Value} {x:List UInt8} (hm:w.heap[m]?=some (.map es c)) (hf:Qcn es f) (hx:f x=none) (v:Value) :
 (Instr.mapUpdate T (.map (some m)) (.string (Qad x)) v).run Tryz.prog w=.ok () (QaQ w m (.map (es.push ⟨.string (Qad x),v,c⟩) (c+1))):=by
 have hk:MapKept.IsKey .string (.string (Qad x)):=trivial
 rcases MapKept.findNow_spec hk es.toList 0 hf.keys with ⟨h1,_⟩ | ⟨j,e,h1,h2,h3⟩
 ·simp [Instr.mapUpdate,run_underlying hT,MapKept.run_getObj_map hm,MapKept.run_checkKey hK hk,MapKept.run_findKey hK h1,MapKept.run_setObj_map _ hm,Result.andThen,QaQ]
 ·obtain ⟨z,hz,hz2⟩:=hf.1 e (List.mem_of_getElem? h2)
  rw [h3] at hz
  have:x=z:=QhT (by simpa using hz)
  subst this
  rw [hx] at hz2;cases hz2
theorem Qa2 {w:World} {m:Nat} {o o':Obj} (h:w.heap[m]?=some o):(QaQ w m o').heap[m]?=some o':=by
 have:=QaH h
 simp [QaQ,this]
theorem Qaq {w:World} {m k:Nat} {o':Obj} (h:k≠m):(QaQ w m o').heap[k]?=w.heap[k]?:=by
 simp [QaQ,Array.getElem?_setIfInBounds_ne (Ne.symm h)]
theorem QiG {w:World} {m:Nat} {o':Obj}:(QaQ w m o').heap.size=w.heap.size:=by simp [QaQ]
theorem QmR {T K E:TypeId} (hT:Tryz.prog.underlying T=some (.map K E)) (hK:Tryz.prog.underlying K=some .string) (hE:∀ W,(zeroValue E).run Tryz.prog W=.ok .nilFunc W) {w:World} {m:Nat} {es:Array MapEntry} {c:Nat} {f:List UInt8→Option Value} (hm:w.heap[m]?=some (.map es c)) (hf:Qcn es f):Qss w T m f:=by
 intro W x hW
 rw [hm] at hW
 have hk:MapKept.IsKey .string (.string (Qad x)):=trivial
 rcases MapKept.findNow_spec hk es.toList 0 hf.keys with ⟨h1,h2⟩ | ⟨j,e,h1,h2,h3⟩
 ·have hn:f x=none:=by
   cases hfx:f x with
   | none=>rfl
   | some v=>
    obtain ⟨e,he,hke⟩:=hf.2 x v hfx
    exact absurd hke (h2 e he)
  rw [hn]
  simp [Instr.lookup,run_underlying hT,MapKept.run_getObj_map hW,MapKept.run_checkKey hK hk,MapKept.run_findKey hK h1,hE,Result.andThen]
 ·obtain ⟨z,hz,hz2⟩:=hf.1 e (List.mem_of_getElem? h2)
  rw [h3] at hz
  have:x=z:=QhT (by simpa using hz)
  subst this
  rw [hz2]
  simp [Instr.lookup,run_underlying hT,MapKept.run_getObj_map hW,MapKept.run_checkKey hK hk,MapKept.run_findKey hK h1,Result.andThen]
end
end Go.Proofs.YtbiclelojbfnbaaGreatDoor
