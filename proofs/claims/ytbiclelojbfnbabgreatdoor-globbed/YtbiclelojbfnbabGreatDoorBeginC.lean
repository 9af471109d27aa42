import Derived.Test.YtbiclelojbfnbabGreatDoorChoice
namespace Go.Proofs.YtbiclelojbfnbabGreatDoor
set_option linter.unusedVariables false
set_option linter.unusedSimpArgs false
set_option maxRecDepth 100000
set_option maxHeartbeats 4000000
open Go.RowKit
attribute [local go_sem ↓] Go.wp_at_zero Go.wp_at_succ
def cmdFn (b p1 k1 p2 k2 p3 k3:Nat) (x:List UInt8):Option Value:=
 match whichL cmdNames x with
 | 1=>some (.func (.func 101) #[.pointer (some ⟨b,0,none⟩)] #[])
 | 2=>some (.func (.func 102) #[.pointer (some ⟨b,0,none⟩)] #[])
 | 3=>some (.func (.func 103) #[.pointer (some ⟨b,0,none⟩)] #[])
 | 4=>some (.func (.func 159) #[] #[.pointer (some ⟨p1,0,none⟩),.pointer (some ⟨k1,0,none⟩)])
 | 5=>some (.func (.func 159) #[] #[.pointer (some ⟨p2,0,none⟩),.pointer (some ⟨k2,0,none⟩)])
 | 6=>some (.func (.func 159) #[] #[.pointer (some ⟨p3,0,none⟩),.pointer (some ⟨k3,0,none⟩)])
 | 7=>some (.func (.func 105) #[.pointer (some ⟨b,0,none⟩)] #[])
 | 8=>some (.func (.func 106) #[.pointer (some ⟨b,0,none⟩)] #[])
 | _=>none
structure QoF (w:World) (b mc p1 k1 p2 k2 p3 k3:Nat):Prop where
 look:QqJ w 191 mc (cmdFn b p1 k1 p2 k2 p3 k3)
 hp1:Qla w p1 b
 hk1:w.cell? ⟨k1,0,none⟩=some (.int .i64 2)
 hp2:Qla w p2 b
 hk2:w.cell? ⟨k2,0,none⟩=some (.int .i64 3)
 hp3:Qla w p3 b
 hk3:w.cell? ⟨k3,0,none⟩=some (.int .i64 4)
 k1b:k1≠b
 k2b:k2≠b
 k3b:k3≠b
 mcb:mc≠b
 mcl:mc < w.heap.size
theorem QoF.mod {w w':World} {b mc p1 k1 p2 k2 p3 k3:Nat} (h:QoF w b mc p1 k1 p2 k2 p3 k3) (hm:Mod b w w'):QoF w' b mc p1 k1 p2 k2 p3 k3:=
 ⟨fun W x e=>h.look W x (e.trans (hm.block mc h.mcl h.mcb)),h.hp1.mod hm,QbK h.hk1 hm h.k1b,h.hp2.mod hm,QbK h.hk2 hm h.k2b,h.hp3.mod hm,QbK h.hk3 hm h.k3b,h.k1b,h.k2b,h.k3b,h.mcb,Nat.lt_of_lt_of_le h.mcl hm.size⟩
theorem Qi5 {b p1 k1 p2 k2 p3 k3:Nat} {x:List UInt8} (h:whichL cmdNames x=0):cmdFn b p1 k1 p2 k2 p3 k3 x=none:=by unfold cmdFn;rw [h];rfl
theorem Qpq {b p1 k1 p2 k2 p3 k3:Nat} {x:List UInt8} (h:¬ whichL cmdNames x=0):∃ fv,cmdFn b p1 k1 p2 k2 p3 k3 x=some fv:=by
 have hle:=QbM cmdNames x
 have hl:cmdNames.length=8:=rfl
 unfold cmdFn
 generalize whichL cmdNames x=i at *
 rcases (by omega:i=1∨i=2∨i=3∨i=4∨i=5∨i=6∨i=7∨i=8) with h | h | h | h | h | h | h | h <;> subst h <;> exact ⟨_,rfl⟩
theorem Qhi:∀ z∈cmdNames,∀ c r,z=c :: r→Qbg c.toNat=true:=by
 intro z hz c r e
 simp [cmdNames] at hz
 rcases hz with h | h | h | h | h | h | h | h <;> subst h <;> cases e <;> decide
theorem Qnq:∀ z∈cmdNames,z≠[]:=by decide
theorem Qn0 {s:PS} (hn:¬ s.1.kind=1→Qjj s.1.spelt) (h:¬ whichL cmdNames s.1.spelt=0):s.1.kind=1:=by
 apply Classical.byContradiction
 intro hk
 have hm:=QiX h
 have hne:=Qnq _ hm
 cases hsp:s.1.spelt with
 | nil=>exact hne hsp
 | cons c r=>
  have h1:=Qhi _ hm c r hsp
  have h2:=hn hk c r hsp
  rw [h1] at h2
  cases h2
theorem QbX {l:List UInt8} {req:List (List UInt8)} {F n k:Nat} {s:PS} {f:Flt} (hi:whichL cmdNames s.1.spelt=k+1) (hu:Qcl req s.1.spelt=true) (hn:nextL l s.2=.error f):cmdL l req F (n+1) s=.error f:=by
 rw [cmdL,if_neg (by omega),if_pos hu];exact Qa9 hn
theorem Qc9 {l:List UInt8} {req:List (List UInt8)} {F n k:Nat} {s y:PS} (hi:whichL cmdNames s.1.spelt=k+1) (hu:Qcl req s.1.spelt=true) (hn:nextL l s.2=.ok y):cmdL l req F (n+1) s=cmdBody l F (Qbx l req F n) (cmdL l req F n) k s.1.pos y:=by
 rw [cmdL,if_neg (by omega),if_pos hu]
 refine (QaX hn).trans ?_
 show cmdBody l F (Qbx l req F n) (cmdL l req F n) (whichL cmdNames s.1.spelt - 1) s.1.pos y=_
 rw [hi]
 rfl
section
variable {α β:Type} {l:List UInt8} {F pos:Nat} {tst:PS→Except Flt (β×PS)} {sub:PS→Except Flt (α×PS)} {s:PS}
theorem Qnt {α:Type} {l:List UInt8} {s:PS} {a:α} {q:Nat×PS} (h:passL l [[59]] s=.ok q):semi l s a=.ok (a,q.2):=Qac h
theorem Qj5 {α:Type} {l:List UInt8} {s:PS} {a:α} {f:Flt} (h:passL l [[59]] s=.error f):semi l s a=.error f:=Qae h
theorem Qol {k:Nat} (h:cmdBody l F tst sub k pos s=QaQ (stringL l (fun _=>0) s) fun x s1=>semi l s1 (⟨k,pos,0,x,[],false⟩,[],[])):cmdBody l F tst sub k pos s=QaQ (Que l s) fun x s1=>.ok ((⟨k,pos,0,x,[],false⟩,[],[]),s1):=by
 rw [h]
 unfold Que
 cases stringL l (fun _=>0) s with
 | error f=>rfl
 | ok y=>
  rw [Qac (r:=.ok y) rfl,Qac (r:=.ok y) rfl]
  unfold semi
  cases passL l [[59]] y.2 with
  | error f=>rfl
  | ok z=>rfl
theorem Qrz {k:Nat} {q:List UInt8×PS} (h:Que l s=.ok q) (hb:cmdBody l F tst sub k pos s=QaQ (stringL l (fun _=>0) s) fun x s1=>semi l s1 (⟨k,pos,0,x,[],false⟩,[],[]):=by rfl):cmdBody l F tst sub k pos s=.ok ((⟨k,pos,0,q.1,[],false⟩,[],[]),q.2):=(Qol hb).trans (Qac h)
theorem QnB {k:Nat} {f:Flt} (h:Que l s=.error f) (hb:cmdBody l F tst sub k pos s=QaQ (stringL l (fun _=>0) s) fun x s1=>semi l s1 (⟨k,pos,0,x,[],false⟩,[],[]):=by rfl):cmdBody l F tst sub k pos s=.error f:=(Qol hb).trans (Qae h)
theorem Qqd:cmdBody l F tst sub 6 pos s=QaQ (mayL l [Qdi,Qdg,Qcn] s) fun tag s1=>QaQ (stringL l (fun x=>if isNameL x then 0 else 7) s1) fun v s2=>QaQ (stringL l (fun _=>0) s2) fun x s3=>semi l s3 (⟨6,pos,tag,x,smallL v,false⟩,[],[]):=rfl
theorem QnZ:cmdBody l F tst sub 6 pos s=QaQ (Quc l s) fun q s1=>.ok ((⟨6,pos,q.1,q.2.2,q.2.1,false⟩,[],[]),s1):=by
 rw [Qqd]
 unfold Quc
 cases mayL l [Qdi,Qdg,Qcn] s with
 | error f=>rfl
 | ok y=>
  rw [Qac (r:=.ok y) rfl,Qac (r:=.ok y) rfl]
  cases stringL l (fun x=>if isNameL x then 0 else 7) y.2 with
  | error f=>rfl
  | ok z=>
   rw [Qac (r:=.ok z) rfl,Qac (r:=.ok z) rfl]
   cases stringL l (fun _=>0) z.2 with
   | error f=>rfl
   | ok u=>
    rw [Qac (r:=.ok u) rfl,Qac (r:=.ok u) rfl]
    unfold semi
    cases passL l [[59]] u.2 with
    | error f=>rfl
    | ok v=>rfl
theorem Qug {q:(Nat×List UInt8×List UInt8)×PS} (h:Quc l s=.ok q):cmdBody l F tst sub 6 pos s=.ok ((⟨6,pos,q.1.1,q.1.2.2,q.1.2.1,false⟩,[],[]),q.2):=QnZ.trans (Qac h)
theorem Qtk {f:Flt} (h:Quc l s=.error f):cmdBody l F tst sub 6 pos s=.error f:=QnZ.trans (Qae h)
theorem Qrv:cmdBody l F tst sub 7 pos s=QaQ (armL l F tst sub s) fun a s1=>QaQ (armsMore l F tst sub F [a] s1) fun arms s2=>QaQ (mayL l [Qfq] s2) fun i s3=>if i=0 then .ok ((⟨7,pos,0,[],[],false⟩,arms,[]),s3) else QaQ (blockL l F sub s3) fun cs s4=>.ok ((⟨7,pos,0,[],[],true⟩,arms,cs),s4):=rfl
theorem Qrm:cmdBody l F tst sub 7 pos s=QaQ (Qgd l F tst sub s) fun x s1=>.ok ((⟨7,pos,0,[],[],x.2.1⟩,x.1,x.2.2),s1):=by
 rw [Qrv]
 unfold Qgd
 cases h1:armL l F tst sub s with
 | error f=>rfl
 | ok y=>
  rw [Qac (r:=.ok y) rfl,Qac (r:=.ok y) rfl]
  cases h2:armsMore l F tst sub F [y.1] y.2 with
  | error f=>rfl
  | ok z=>
   rw [Qac (r:=.ok z) rfl,Qac (r:=.ok z) rfl]
   cases h3:mayL l [Qfq] z.2 with
   | error f=>rfl
   | ok u=>
    rw [Qac (r:=.ok u) rfl,Qac (r:=.ok u) rfl]
    by_cases h4:u.1=0
    ·rw [if_pos h4,if_pos h4];rfl
    ·rw [if_neg h4,if_neg h4]
     cases h5:blockL l F sub u.2 with
     | error f=>rfl
     | ok v=>rfl
theorem Quy {q:(List (β×List α)×Bool×List α)×PS} (h:Qgd l F tst sub s=.ok q):cmdBody l F tst sub 7 pos s=.ok ((⟨7,pos,0,[],[],q.1.2.1⟩,q.1.1,q.1.2.2),q.2):=Qrm.trans (Qac h)
theorem Qui {f:Flt} (h:Qgd l F tst sub s=.error f):cmdBody l F tst sub 7 pos s=.error f:=Qrm.trans (Qae h)
end
theorem Qiz (d:Int) (b:Nat) (t:ByteArray) (s:PS) (rv:Value) (mc mt p1 k1 p2 k2 p3 k3:Nat) (w:World) (h:RC w b t s rv mc mt) (ht:QoF w b mc p1 k1 p2 k2 p3 k3) (hd:d≤6) (h0:whichL cmdNames s.1.spelt=0) :
 Calls Tryz.prog 177 #[.pointer (some ⟨b,0,none⟩),.map (some mc),.int .i64 d] w fun e w'=>QcR ⟨4,s.1.pos⟩ w e w'∧Mod b w w':=by
 have h1:w.cell? ⟨b,1,none⟩=some (.int .i64 s.1.kind):=h.at_.cell 1
 have h3:w.cell? ⟨b,3,none⟩=some (.string (Qag s.1.spelt)):=h.at_.cell 3
 have hlk:=ht.look w s.1.spelt rfl
 rw [Qi5 h0] at hlk
 have H:=Qaa h
 clear h ht h0
 simp only [Option.getD_none,Option.isSome_none] at hlk
 by_cases hk:s.1.kind=1
 ·have hk':((s.1.kind:Int) != 1)=false:=by simp;omega
  clear hk
  go_enter Tryz.func177,Tryz.ntmps177
  go_wp2_with fail
  refine (QaF b _ _ _ rfl).mono ?_
  rintro e w' ⟨rfl,hww⟩
  subst hww
  go_wp2_with fail
  refine (Qbe b 4 _ _ t s.1 s.2 rv mc mt _ H.out.at_ rfl rfl).mono ?_
  rintro e w1 ⟨⟨bb,hz,rfl,hcc⟩,hm⟩
  exact ⟨rfl,⟨bb,hz,rfl,hcc⟩,Mod.of_below hm⟩
 ·have hk':((s.1.kind:Int) != 1)=true:=by simp;omega
  clear hk
  go_enter Tryz.func177,Tryz.ntmps177
  go_wp2_with fail
  refine (QaF b _ _ _ rfl).mono ?_
  rintro e w' ⟨rfl,hww⟩
  subst hww
  go_wp2_with fail
  refine (Qbe b 4 _ _ t s.1 s.2 rv mc mt _ H.out.at_ rfl rfl).mono ?_
  rintro e w1 ⟨⟨bb,hz,rfl,hcc⟩,hm⟩
  exact ⟨rfl,⟨bb,hz,rfl,hcc⟩,Mod.of_below hm⟩
theorem QkJ (fv:Value) (req:List (List UInt8)) (d:Int) (b:Nat) (t:ByteArray) (s:PS) (rv:Value) (mc mt p1 k1 p2 k2 p3 k3:Nat) (w:World) (h:RC w b t s rv mc mt) (ht:QoF w b mc p1 k1 p2 k2 p3 k3) (hr:Qjq w b rv req) (hd:d≤6) (hk1:s.1.kind=1) (hf:cmdFn b p1 k1 p2 k2 p3 k3 s.1.spelt=some fv) (hu:Qcl req s.1.spelt=false) :
 Calls Tryz.prog 177 #[.pointer (some ⟨b,0,none⟩),.map (some mc),.int .i64 d] w fun e w'=>QcR ⟨6,s.1.pos⟩ w e w'∧Mod b w w':=by
 have h1:w.cell? ⟨b,1,none⟩=some (.int .i64 s.1.kind):=h.at_.cell 1
 have h3:w.cell? ⟨b,3,none⟩=some (.string (Qag s.1.spelt)):=h.at_.cell 3
 have hlk:=ht.look w s.1.spelt rfl
 rw [hf] at hlk
 have H:=Qaa h
 have HU:=Qaa (Qdt s.1.spelt req b t s rv mc mt w h hr)
 rw [hu] at HU
 clear h ht hr hf hu
 simp only [Option.getD_some,Option.isSome_some] at hlk
 have hk':((s.1.kind:Int) != 1)=false:=by simp;omega
 clear hk1
 go_enter Tryz.func177,Tryz.ntmps177
 go_wp2_with fail
 refine (QaF b _ _ _ rfl).mono ?_
 rintro e w' ⟨rfl,hww⟩
 subst w'
 go_wp2_with fail
 refine (QaF b _ _ _ rfl).mono ?_
 rintro e w' ⟨rfl,hww⟩
 subst w'
 go_wp2_with fail
 refine HU.out.mono ?_
 rintro e w' ⟨rfl,hww⟩
 subst w'
 go_wp2_with fail
 refine (Qbe b 6 _ _ t s.1 s.2 rv mc mt _ H.out.at_ rfl rfl).mono ?_
 rintro e w1 ⟨⟨bb,hz,rfl,hcc⟩,hm⟩
 exact ⟨rfl,⟨bb,hz,rfl,hcc⟩,Mod.of_below hm⟩
theorem Qnn (b:Nat) (t:ByteArray) (s:PS) (rv:Value) (mc mt p1 k1 p2 k2 p3 k3:Nat) (w:World) (h:RC w b t s rv mc mt) (ht:QoF w b mc p1 k1 p2 k2 p3 k3) :
 Calls Tryz.prog 177 #[.pointer (some ⟨b,0,none⟩),.map (some mc),.int .i64 7] w fun e w'=>QcR ⟨if s.1.kind=1 then 5 else 4,s.1.pos⟩ w e w'∧Mod b w w':=by
 have h1:w.cell? ⟨b,1,none⟩=some (.int .i64 s.1.kind):=h.at_.cell 1
 have h3:w.cell? ⟨b,3,none⟩=some (.string (Qag s.1.spelt)):=h.at_.cell 3
 have hlk:=ht.look w s.1.spelt rfl
 have H:=Qaa h
 by_cases hk:s.1.kind=1
 ·rw [if_pos hk]
  have hk':((s.1.kind:Int) != 1)=false:=by simp;omega
  clear hk h ht hlk
  go_enter Tryz.func177,Tryz.ntmps177
  go_wp2_with fail
  refine (Qbe b 5 _ _ t s.1 s.2 rv mc mt _ H.out.at_ rfl rfl).mono ?_
  rintro e w1 ⟨⟨bb,hz,rfl,hcc⟩,hm⟩
  exact ⟨rfl,⟨bb,hz,rfl,hcc⟩,Mod.of_below hm⟩
 ·rw [if_neg hk]
  have h0:whichL cmdNames s.1.spelt=0:=by
   apply Classical.byContradiction
   intro h0
   exact hk (Qn0 h.nm h0)
  rw [Qi5 h0] at hlk
  have hk':((s.1.kind:Int) != 1)=true:=by simp;omega
  clear hk h ht h0
  simp only [Option.getD_none,Option.isSome_none] at hlk
  go_enter Tryz.func177,Tryz.ntmps177
  go_wp2_with fail
  refine (QaF b _ _ _ rfl).mono ?_
  rintro e w' ⟨rfl,hww⟩
  subst w'
  go_wp2_with fail
  refine (Qbe b 4 _ _ t s.1 s.2 rv mc mt _ H.out.at_ rfl rfl).mono ?_
  rintro e w1 ⟨⟨bb,hz,rfl,hcc⟩,hm⟩
  exact ⟨rfl,⟨bb,hz,rfl,hcc⟩,Mod.of_below hm⟩
theorem Qjw (f:FuncId) (q q2:Nat) (n:Nat) (req:List (List UInt8)) (d:Int) (b F:Nat) (t:ByteArray) (s:PS) (rv:Value) (mc mt p1 k1 p2 k2 p3 k3:Nat) (w:World) (h:RC w b t s rv mc mt) (ht:QoF w b mc p1 k1 p2 k2 p3 k3) (hr:Qjq w b rv req) (hd0:0≤d) (hd:d≤6) (hk1:s.1.kind=1) (hu:Qcl req s.1.spelt=true)
 (hfn:cmdFn b p1 k1 p2 k2 p3 k3 s.1.spelt=some (.func (.func f) #[] #[.pointer (some ⟨q,0,none⟩),.pointer (some ⟨q2,0,none⟩)])) (hcf:∀ args W,(callFunc f args).run Tryz.prog W=.ok (.enter f args) W) (hne:∀ f2,nextL t.data.toList s.2=.error f2→cmdL t.data.toList req F (n+1) s=.error f2)
 (hcon:∀ W y,Mod b w W→RC W b t y rv mc mt→nextL t.data.toList s.2=.ok y→Calls Tryz.prog f #[.agg #[.string (Qag s.1.spelt),.int .i64 s.1.pos],.int .i64 d,.pointer (some ⟨q,0,none⟩),.pointer (some ⟨q2,0,none⟩)] W (Qao (cmdL t.data.toList req F (n+1) s) b t rv mc mt w (Qio (n+1) (fromB w.heap.size)))) :
 Calls Tryz.prog 177 #[.pointer (some ⟨b,0,none⟩),.map (some mc),.int .i64 d] w (Qao (cmdL t.data.toList req F (n+1) s) b t rv mc mt w (Qio (n+1) (fromB w.heap.size))):=by
 have h1:w.cell? ⟨b,1,none⟩=some (.int .i64 s.1.kind):=h.at_.cell 1
 have h2:w.cell? ⟨b,2,none⟩=some (.int .i64 s.1.pos):=h.at_.cell 2
 have h3:w.cell? ⟨b,3,none⟩=some (.string (Qag s.1.spelt)):=h.at_.cell 3
 have hlk:=ht.look w s.1.spelt rfl
 rw [hfn] at hlk
 have H:=Qaa h
 have HU:=Qaa (Qdt s.1.spelt req b t s rv mc mt w h hr)
 rw [hu] at HU
 have HNE:=Qaa hne
 have HCON:=Qaa hcon
 have hlt:=h.at_.lt
 clear h ht hr hfn hu hne hcon
 simp only [Option.getD_some,Option.isSome_some] at hlk
 have hk':((s.1.kind:Int) != 1)=false:=by simp;omega
 clear hk1
 go_enter Tryz.func177,Tryz.ntmps177
 go_wp2_with fail
 refine (QaF b _ _ _ rfl).mono ?_
 rintro e w' ⟨rfl,hww⟩
 subst w'
 go_wp2_with fail
 refine (QaF b _ _ _ rfl).mono ?_
 rintro e w' ⟨rfl,hww⟩
 subst w'
 go_wp2_with fail
 refine HU.out.mono ?_
 rintro e w' ⟨rfl,hww⟩
 subst w'
 go_wp2_with fail
 refine (QaF b _ _ _ rfl).mono ?_
 rintro e w' ⟨rfl,hww⟩
 subst w'
 clear HU hlk
 go_wp2_with fail
 go_region
 all_goals go_wp2_with fail
 all_goals
  refine (QcJ b t s rv mc mt _ ((H.out.alloc _).drew)).mono ?_
  rintro e w2 (⟨y,hy,rfl,hc,hm⟩ | ⟨f2,hf2,⟨bb,hz,rfl,hcc⟩,hm⟩)
 all_goals first
  | exact ⟨rfl,Qao.err (HNE.out _ hf2) (((Mod.refl b w).alloc _).trans (QaR hm)) ⟨bb,by simp at hz;omega,rfl,hcc⟩⟩
  | skip
 all_goals
  obtain ⟨hh0,hh1,hmw⟩:=Qd6 hm hlt
  have HM:=Qaa hmw
  have HC:=Qaa hc
  have HCN:=Qaa (HCON.out _ y hmw hc hy)
  clear hm hc hy hmw
  go_wp2_with fail
  refine HCN.out.mono ?_
  intro e w3 h3'
  have HQ:=Qaa h3'
  clear h3'
  rcases HQ.out.cases with ⟨q,v,hq,rfl,hv,hc3,hm3⟩ | ⟨f3,hf3,⟨bb,hz,rfl,hcc⟩,hm3⟩
 all_goals first
  | exact ⟨rfl,Qao.err hf3 hm3 ⟨bb,hz,rfl,hcc⟩⟩
  | skip
 all_goals
  have HQ2:=Qaa (Qao.ok hq hm3 hv hc3)
  clear hq hm3 hv hc3 HQ
  go_wp2
  go_ret
  exact HQ2.out
theorem Qf9 (f:FuncId) (n:Nat) (req:List (List UInt8)) (d:Int) (b F:Nat) (t:ByteArray) (s:PS) (rv:Value) (mc mt p1 k1 p2 k2 p3 k3:Nat) (w:World) (h:RC w b t s rv mc mt) (ht:QoF w b mc p1 k1 p2 k2 p3 k3) (hr:Qjq w b rv req) (hd0:0≤d) (hd:d≤6) (hk1:s.1.kind=1) (hu:Qcl req s.1.spelt=true)
 (hfn:cmdFn b p1 k1 p2 k2 p3 k3 s.1.spelt=some (.func (.func f) #[.pointer (some ⟨b,0,none⟩)] #[])) (hcf:∀ args W,(callFunc f args).run Tryz.prog W=.ok (.enter f args) W) (hne:∀ f2,nextL t.data.toList s.2=.error f2→cmdL t.data.toList req F (n+1) s=.error f2)
 (hcon:∀ W y,Mod b w W→RC W b t y rv mc mt→nextL t.data.toList s.2=.ok y→Calls Tryz.prog f #[.pointer (some ⟨b,0,none⟩),.agg #[.string (Qag s.1.spelt),.int .i64 s.1.pos],.int .i64 d] W (Qao (cmdL t.data.toList req F (n+1) s) b t rv mc mt w (Qio (n+1) (fromB w.heap.size)))) :
 Calls Tryz.prog 177 #[.pointer (some ⟨b,0,none⟩),.map (some mc),.int .i64 d] w (Qao (cmdL t.data.toList req F (n+1) s) b t rv mc mt w (Qio (n+1) (fromB w.heap.size))):=by
 have h1:w.cell? ⟨b,1,none⟩=some (.int .i64 s.1.kind):=h.at_.cell 1
 have h2:w.cell? ⟨b,2,none⟩=some (.int .i64 s.1.pos):=h.at_.cell 2
 have h3:w.cell? ⟨b,3,none⟩=some (.string (Qag s.1.spelt)):=h.at_.cell 3
 have hlk:=ht.look w s.1.spelt rfl
 rw [hfn] at hlk
 have H:=Qaa h
 have HU:=Qaa (Qdt s.1.spelt req b t s rv mc mt w h hr)
 rw [hu] at HU
 have HNE:=Qaa hne
 have HCON:=Qaa hcon
 have hlt:=h.at_.lt
 clear h ht hr hfn hu hne hcon
 simp only [Option.getD_some,Option.isSome_some] at hlk
 have hk':((s.1.kind:Int) != 1)=false:=by simp;omega
 clear hk1
 go_enter Tryz.func177,Tryz.ntmps177
 go_wp2_with fail
 refine (QaF b _ _ _ rfl).mono ?_
 rintro e w' ⟨rfl,hww⟩
 subst w'
 go_wp2_with fail
 refine (QaF b _ _ _ rfl).mono ?_
 rintro e w' ⟨rfl,hww⟩
 subst w'
 go_wp2_with fail
 refine HU.out.mono ?_
 rintro e w' ⟨rfl,hww⟩
 subst w'
 go_wp2_with fail
 refine (QaF b _ _ _ rfl).mono ?_
 rintro e w' ⟨rfl,hww⟩
 subst w'
 clear HU hlk
 go_wp2_with fail
 go_region
 all_goals go_wp2_with fail
 all_goals
  refine (QcJ b t s rv mc mt _ ((H.out.alloc _).drew)).mono ?_
  rintro e w2 (⟨y,hy,rfl,hc,hm⟩ | ⟨f2,hf2,⟨bb,hz,rfl,hcc⟩,hm⟩)
 all_goals first
  | exact ⟨rfl,Qao.err (HNE.out _ hf2) (((Mod.refl b w).alloc _).trans (QaR hm)) ⟨bb,by simp at hz;omega,rfl,hcc⟩⟩
  | skip
 all_goals
  obtain ⟨hh0,hh1,hmw⟩:=Qd6 hm hlt
  have HM:=Qaa hmw
  have HC:=Qaa hc
  have HCN:=Qaa (HCON.out _ y hmw hc hy)
  clear hm hc hy hmw
  go_wp2_with fail
  refine HCN.out.mono ?_
  intro e w3 h3'
  have HQ:=Qaa h3'
  clear h3'
  rcases HQ.out.cases with ⟨q,v,hq,rfl,hv,hc3,hm3⟩ | ⟨f3,hf3,⟨bb,hz,rfl,hcc⟩,hm3⟩
 all_goals first
  | exact ⟨rfl,Qao.err hf3 hm3 ⟨bb,hz,rfl,hcc⟩⟩
  | skip
 all_goals
  have HQ2:=Qaa (Qao.ok hq hm3 hv hc3)
  clear hq hm3 hv hc3 HQ
  go_wp2
  go_ret
  exact HQ2.out
theorem QoQ (n:Nat) (req:List (List UInt8)) (d:Int) (b F:Nat) (t:ByteArray) (s:PS) (rv:Value) (mc mt p1 k1 p2 k2 p3 k3:Nat) (w:World) (h:RC w b t s rv mc mt) (ht:QoF w b mc p1 k1 p2 k2 p3 k3) (hr:Qjq w b rv req) (hF:2*t.size+1 < F) (hd0:0≤d) (hd:d≤6) (hS:SubMu t.size (cmdL t.data.toList req F n)) (ho1:QeA 168 w b t rv mc mt (d+1) (Qbx t.data.toList req F n) (TestV n)) (ho:QeA 123 w b t rv mc mt (d+1) (cmdL t.data.toList req F n) (Qio n)) :
 Calls Tryz.prog 177 #[.pointer (some ⟨b,0,none⟩),.map (some mc),.int .i64 d] w (Qao (cmdL t.data.toList req F (n+1) s) b t rv mc mt w (Qio (n+1) (fromB w.heap.size))):=by
 by_cases h0:whichL cmdNames s.1.spelt=0
 ·refine (Qiz d b t s rv mc mt p1 k1 p2 k2 p3 k3 w h ht hd h0).mono ?_
  rintro e w1 ⟨h1,h2⟩
  exact Qao.err (by rw [cmdL,if_pos h0]) h2 h1
 have hk1:=Qn0 h.nm h0
 cases hu:Qcl req s.1.spelt
 ·obtain ⟨fv,hf⟩:=Qpq (b:=b) (p1:=p1) (k1:=k1) (p2:=p2) (k2:=k2) (p3:=p3) (k3:=k3) h0
  refine (QkJ fv req d b t s rv mc mt p1 k1 p2 k2 p3 k3 w h ht hr hd hk1 hf hu).mono ?_
  rintro e w1 ⟨h1,h2⟩
  exact Qao.err (by rw [cmdL,if_neg h0,if_neg (by rw [hu];decide)]) h2 h1
 have hle:=QbM cmdNames s.1.spelt
 have hl:cmdNames.length=8:=rfl
 rcases (by omega:whichL cmdNames s.1.spelt=0+1∨whichL cmdNames s.1.spelt=1+1∨whichL cmdNames s.1.spelt=2+1∨whichL cmdNames s.1.spelt=3+1∨whichL cmdNames s.1.spelt=4+1∨whichL cmdNames s.1.spelt=5+1∨whichL cmdNames s.1.spelt=6+1∨whichL cmdNames s.1.spelt=7+1) with hi | hi | hi | hi | hi | hi | hi | hi
 ·refine Qf9 101 n req d b F t s rv mc mt p1 k1 p2 k2 p3 k3 w h ht hr hd0 hd hk1 hu (by unfold cmdFn;rw [hi];rfl) (fun _ _=>by kernel_rfl) (fun f2 hf2=>QbX hi hu hf2) (fun W y HM HC hy=>?_)
  have hsp:s.1.spelt=QfD:=by have:=QaC _ _ _ hi;simpa [cmdNames] using this.symm
  have HE:=Qc9 (F:=F) (n:=n) hi hu hy
  refine (Qr5 s.1.spelt s.1.pos d b t y rv mc mt _ HC).mono ?_
  intro e w3 h3'
  exact Qao.lift (fun _=>((⟨0,s.1.pos,0,[],[],false⟩:QgD),[],[])) h3' HM (fun q hq=>HE.trans (Qnt hq)) (fun f hf=>HE.trans (Qj5 hf)) (fun a v _ hv=>by rw [hsp] at hv;exact hv)
 ·refine Qf9 102 n req d b F t s rv mc mt p1 k1 p2 k2 p3 k3 w h ht hr hd0 hd hk1 hu (by unfold cmdFn;rw [hi];rfl) (fun _ _=>by kernel_rfl) (fun f2 hf2=>QbX hi hu hf2) (fun W y HM HC hy=>?_)
  have hsp:s.1.spelt=Qb1:=by have:=QaC _ _ _ hi;simpa [cmdNames] using this.symm
  have HE:=Qc9 (F:=F) (n:=n) hi hu hy
  refine (QmL s.1.spelt s.1.pos d b t y rv mc mt _ HC).mono ?_
  intro e w3 h3'
  exact Qao.lift (fun _=>((⟨1,s.1.pos,0,[],[],false⟩:QgD),[],[])) h3' HM (fun q hq=>HE.trans (Qnt hq)) (fun f hf=>HE.trans (Qj5 hf)) (fun a v _ hv=>by rw [hsp] at hv;exact hv)
 ·refine Qf9 103 n req d b F t s rv mc mt p1 k1 p2 k2 p3 k3 w h ht hr hd0 hd hk1 hu (by unfold cmdFn;rw [hi];rfl) (fun _ _=>by kernel_rfl) (fun f2 hf2=>QbX hi hu hf2) (fun W y HM HC hy=>?_)
  have hsp:s.1.spelt=Qfl:=by have:=QaC _ _ _ hi;simpa [cmdNames] using this.symm
  have HE:=Qc9 (F:=F) (n:=n) hi hu hy
  refine (QsE s.1.spelt s.1.pos d b t y rv mc mt _ HC).mono ?_
  intro e w3 h3'
  exact Qao.lift (fun _=>((⟨2,s.1.pos,0,[],[],false⟩:QgD),[],[])) h3' HM (fun q hq=>HE.trans (Qnt hq)) (fun f hf=>HE.trans (Qj5 hf)) (fun a v _ hv=>by rw [hsp] at hv;exact hv)
 ·refine Qjw 159 p1 k1 n req d b F t s rv mc mt p1 k1 p2 k2 p3 k3 w h ht hr hd0 hd hk1 hu (by unfold cmdFn;rw [hi];rfl) (fun _ _=>by kernel_rfl) (fun f2 hf2=>QbX hi hu hf2) (fun W y HM HC hy=>?_)
  have hsp:s.1.spelt=QaK:=by have:=QaC _ _ _ hi;simpa [cmdNames] using this.symm
  have HE:=Qc9 (F:=F) (n:=n) hi hu hy
  refine (QjE s.1.spelt s.1.pos d p1 k1 2 b t y rv mc mt _ HC (ht.mod HM).hp1 (ht.mod HM).hk1 (ht.mod HM).k1b).mono ?_
  intro e w3 h3'
  exact Qao.lift (fun x=>((⟨3,s.1.pos,0,x,[],false⟩:QgD),[],[])) h3' HM (fun q hq=>HE.trans (Qrz hq)) (fun f hf=>HE.trans (QnB hf)) (fun a v _ hv=>by rw [hsp] at hv;exact hv)
 ·refine Qjw 159 p2 k2 n req d b F t s rv mc mt p1 k1 p2 k2 p3 k3 w h ht hr hd0 hd hk1 hu (by unfold cmdFn;rw [hi];rfl) (fun _ _=>by kernel_rfl) (fun f2 hf2=>QbX hi hu hf2) (fun W y HM HC hy=>?_)
  have hsp:s.1.spelt=Qbl:=by have:=QaC _ _ _ hi;simpa [cmdNames] using this.symm
  have HE:=Qc9 (F:=F) (n:=n) hi hu hy
  refine (QjE s.1.spelt s.1.pos d p2 k2 3 b t y rv mc mt _ HC (ht.mod HM).hp2 (ht.mod HM).hk2 (ht.mod HM).k2b).mono ?_
  intro e w3 h3'
  exact Qao.lift (fun x=>((⟨4,s.1.pos,0,x,[],false⟩:QgD),[],[])) h3' HM (fun q hq=>HE.trans (Qrz hq)) (fun f hf=>HE.trans (QnB hf)) (fun a v _ hv=>by rw [hsp] at hv;exact hv)
 ·refine Qjw 159 p3 k3 n req d b F t s rv mc mt p1 k1 p2 k2 p3 k3 w h ht hr hd0 hd hk1 hu (by unfold cmdFn;rw [hi];rfl) (fun _ _=>by kernel_rfl) (fun f2 hf2=>QbX hi hu hf2) (fun W y HM HC hy=>?_)
  have hsp:s.1.spelt=QaZ:=by have:=QaC _ _ _ hi;simpa [cmdNames] using this.symm
  have HE:=Qc9 (F:=F) (n:=n) hi hu hy
  refine (QjE s.1.spelt s.1.pos d p3 k3 4 b t y rv mc mt _ HC (ht.mod HM).hp3 (ht.mod HM).hk3 (ht.mod HM).k3b).mono ?_
  intro e w3 h3'
  exact Qao.lift (fun x=>((⟨5,s.1.pos,0,x,[],false⟩:QgD),[],[])) h3' HM (fun q hq=>HE.trans (Qrz hq)) (fun f hf=>HE.trans (QnB hf)) (fun a v _ hv=>by rw [hsp] at hv;exact hv)
 ·refine Qf9 105 n req d b F t s rv mc mt p1 k1 p2 k2 p3 k3 w h ht hr hd0 hd hk1 hu (by unfold cmdFn;rw [hi];rfl) (fun _ _=>by kernel_rfl) (fun f2 hf2=>QbX hi hu hf2) (fun W y HM HC hy=>?_)
  have hsp:s.1.spelt=Qg1:=by have:=QaC _ _ _ hi;simpa [cmdNames] using this.symm
  have HE:=Qc9 (F:=F) (n:=n) hi hu hy
  refine (QtI s.1.spelt s.1.pos d b t y rv mc mt _ HC).mono ?_
  intro e w3 h3'
  exact Qao.lift (fun x=>((⟨6,s.1.pos,x.1,x.2.2,x.2.1,false⟩:QgD),[],[])) h3' HM (fun q hq=>HE.trans (Qug hq)) (fun f hf=>HE.trans (Qtk hf)) (fun a v _ hv=>by rw [hsp] at hv;exact hv)
 ·refine Qf9 106 n req d b F t s rv mc mt p1 k1 p2 k2 p3 k3 w h ht hr hd0 hd hk1 hu (by unfold cmdFn;rw [hi];rfl) (fun _ _=>by kernel_rfl) (fun f2 hf2=>QbX hi hu hf2) (fun W y HM HC hy=>?_)
  have hsp:s.1.spelt=kIf:=by have:=QaC _ _ _ hi;simpa [cmdNames] using this.symm
  have HE:=Qc9 (F:=F) (n:=n) hi hu hy
  refine (Qoy (Qbx t.data.toList req F n) (TestV n) (cmdL t.data.toList req F n) (Qio n) s.1.spelt s.1.pos d b F t y rv mc mt _ HC hF hd0 (by omega) (Qbq n) (Qa3 n) hS (fun s g=>QjK n s g) (fun s g=>Qrq n s g) (ho1.mod HM) (ho.mod HM)).mono ?_
  intro e w3 h3'
  exact Qao.lift (fun x=>((⟨7,s.1.pos,0,[],[],x.2.1⟩:QgD),x.1,x.2.2)) h3' HM (fun q hq=>HE.trans (Quy hq)) (fun f hf=>HE.trans (Qui hf)) (fun a v _ hv=>by
   rw [hsp] at hv
   obtain ⟨av,ev,rfl,h1,h2,h3⟩:=hv
   exact ⟨av,ev,rfl,Qfn.weak (Qbq n) (Qa3 n) h2 h1 (fun k hk _=>Nat.le_trans HM.size hk),h2,h3.weak (Qa3 n) (fun k hk _=>Nat.le_trans HM.size hk)⟩)
theorem QgG {α:Type} (r:Except Flt (α×PS)) (val:α→World→Value→Prop) (d:Int) (b:Nat) (t:ByteArray) (s:PS) (rv:Value) (mc mt:Nat) (w:World) (h:RC w b t s rv mc mt)
 (hb:Calls Tryz.prog 177 #[.pointer (some ⟨b,0,none⟩),.map (some mc),.int .i64 d] w (Qao r b t rv mc mt w val)) :
 Calls Tryz.prog 123 #[.pointer (some ⟨b,0,none⟩),.int .i64 d] w (Qao r b t rv mc mt w val):=by
 have h8:w.cell? ⟨b,8,none⟩=some (.map (some mc)):=h.at_.cell 8
 have HB:=Qaa hb
 clear hb h
 go_enter Tryz.func123,Tryz.ntmps123
 go_wp2_with fail
 refine HB.out.mono ?_
 intro e w1 h1
 rcases h1.cases with ⟨q,v,hq,rfl,hv,hc3,hm3⟩ | ⟨f3,hf3,⟨bb,hz,rfl,hcc⟩,hm3⟩
 ·have HQ:=Qaa (Qao.ok hq hm3 hv hc3)
  clear h1 hq hm3 hv hc3
  go_wp2
  go_ret
  exact HQ.out
 ·exact ⟨rfl,Qao.err hf3 hm3 ⟨bb,hz,rfl,hcc⟩⟩
theorem QhV (req:List (List UInt8)) (b F:Nat) (t:ByteArray) (rv:Value) (mc mt pr pt pf p1 k1 p2 k2 p3 k3:Nat) (hF:2*t.size+1 < F) :
 ∀ (n:Nat),n≤7→∀ (w:World),QmA w b mt pr pt pf→QoF w b mc p1 k1 p2 k2 p3 k3→Qjq w b rv req→QeA 123 w b t rv mc mt (7 - (n:Int)) (cmdL t.data.toList req F n) (Qio n)
 | 0,_,w,ht,hcm,hr=>fun W s hm hc=>by
  refine QgG _ _ _ b t s rv mc mt W hc ?_
  refine (Qnn b t s rv mc mt p1 k1 p2 k2 p3 k3 W hc (hcm.mod hm)).mono ?_
  rintro e w1 ⟨h1,h2⟩
  refine Qao.err ?_ h2 h1
  rw [cmdL]
  split <;> rfl
 | n+1,hn,w,ht,hcm,hr=>fun W s hm hc=>by
  refine QgG _ _ _ b t s rv mc mt W hc ?_
  have ih:=QhV req b F t rv mc mt pr pt pf p1 k1 p2 k2 p3 k3 hF n (by omega) W (ht.mod hm) (hcm.mod hm) (hr.mod hm)
  have it:=QtG req b F t rv mc mt pr pt pf hF n (by omega) W (ht.mod hm) (hr.mod hm)
  have e:(7:Int) - ((n+1:Nat):Int)+1=7 - (n:Int):=by omega
  exact QoQ n req _ b F t s rv mc mt p1 k1 p2 k2 p3 k3 W hc (hcm.mod hm) (hr.mod hm) hF (by omega) (by omega) (Qs2 t req F n) (by rw [e];exact it) (by rw [e];exact ih)
end Go.Proofs.YtbiclelojbfnbabGreatDoor
