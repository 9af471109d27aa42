import Derived.Test.YtgnkjijocdmniaaGreatDoorChoice
namespace Go.Proofs.YtgnkjijocdmniaaGreatDoor
set_option linter.unusedVariables false
set_option linter.unusedSimpArgs false
set_option maxRecDepth 100000
set_option maxHeartbeats 4000000
open Go.Proofs.Tryz
open Go.RowKit
attribute [local go_sem ↓] Go.wp_at_zero Go.wp_at_succ
def cmdFn (b p1 k1 p2 k2 p3 k3:Nat) (x:L8):Option Value:=
 match wL cNs x with
 | 1=>some (.func (.func 121) #[.pointer (some ⟨b,0,none⟩)] #[])
 | 2=>some (.func (.func 122) #[.pointer (some ⟨b,0,none⟩)] #[])
 | 3=>some (.func (.func 123) #[.pointer (some ⟨b,0,none⟩)] #[])
 | 4=>some (.func (.func 178) #[] #[.pointer (some ⟨p1,0,none⟩),.pointer (some ⟨k1,0,none⟩)])
 | 5=>some (.func (.func 178) #[] #[.pointer (some ⟨p2,0,none⟩),.pointer (some ⟨k2,0,none⟩)])
 | 6=>some (.func (.func 178) #[] #[.pointer (some ⟨p3,0,none⟩),.pointer (some ⟨k3,0,none⟩)])
 | 7=>some (.func (.func 125) #[.pointer (some ⟨b,0,none⟩)] #[])
 | 8=>some (.func (.func 126) #[.pointer (some ⟨b,0,none⟩)] #[])
 | _=>none
structure QsJ (w:World) (b mc p1 k1 p2 k2 p3 k3:Nat):Prop where
 look:Qum w 207 mc (cmdFn b p1 k1 p2 k2 p3 k3)
 hp1:Qm4 w p1 b
 hk1:w.cell? ⟨k1,0,none⟩=some (.int .i64 2)
 hp2:Qm4 w p2 b
 hk2:w.cell? ⟨k2,0,none⟩=some (.int .i64 3)
 hp3:Qm4 w p3 b
 hk3:w.cell? ⟨k3,0,none⟩=some (.int .i64 4)
 k1b:k1≠b
 k2b:k2≠b
 k3b:k3≠b
 mcb:mc≠b
 mcl:mc < w.heap.size
theorem QsJ.mod{w w':World}{b mc p1 k1 p2 k2 p3 k3:Nat}(h:QsJ w b mc p1 k1 p2 k2 p3 k3)(hm:Mod b w w'):QsJ w' b mc p1 k1 p2 k2 p3 k3:=
 ⟨fun W x e=>h.look W x (e.trans (hm.block mc h.mcl h.mcb)),h.hp1.mod hm,Qb3 h.hk1 hm h.k1b,h.hp2.mod hm,Qb3 h.hk2 hm h.k2b,h.hp3.mod hm,Qb3 h.hk3 hm h.k3b,h.k1b,h.k2b,h.k3b,h.mcb,Nat.lt_of_lt_of_le h.mcl hm.size⟩
theorem Qlv{b p1 k1 p2 k2 p3 k3:Nat}{x:L8}(h:wL cNs x=0):cmdFn b p1 k1 p2 k2 p3 k3 x=none:=by unfold cmdFn;rw[h];rfl
theorem Qsx{b p1 k1 p2 k2 p3 k3:Nat}{x:L8}(h:¬ wL cNs x=0):∃ fv,cmdFn b p1 k1 p2 k2 p3 k3 x=some fv:=by
 have hle:=QbN cNs x;have hl:cNs.length=8:=rfl;unfold cmdFn;generalize wL cNs x=i at *;rcases(by omega:i=1\/i=2\/i=3\/i=4\/i=5\/i=6\/i=7\/i=8)with h|h|h|h|h|h|h|h<;>subst h<;>exact⟨_,rfl⟩
theorem QjR:∀ z∈cNs,∀ c r,z=c::r->Qbs c.toNat=true:=by
 intro z hz c r e;simp[cNs]at hz;rcases hz with h|h|h|h|h|h|h|h<;>subst h<;>cases e<;>decide
theorem Qo7:∀ z∈cNs,z≠[]:=by decide
theorem Qrp{s:PS}(hn:¬ s.1.kind=1->Qld s.1.spelt)(h:¬ wL cNs s.1.spelt=0):s.1.kind=1:=by
 apply Classical.byContradiction;intro hk;have hm:=Qla h;have aa:=Qo7 _ hm
 cases hsp:s.1.spelt with
 |nil=>exact aa hsp
 |cons c r=>
  have h1:=QjR _ hm c r hsp;have h2:=hn hk c r hsp;rw[h1]at h2;cases h2
theorem Qca{l:L8}{req:List (L8)}{F n k:Nat}{s:PS}{f:Flt}(hi:wL cNs s.1.spelt=k+1)(hu:Qb6 req s.1.spelt=true)(hn:nL l s.2=.error f):cmdL l req F (n+1) s=.error f:=by
 rw[cmdL,if_neg (by omega),if_pos hu];exact QaC hn
theorem Qdt{l:L8}{req:List (L8)}{F n k:Nat}{s y:PS}(hi:wL cNs s.1.spelt=k+1)(hu:Qb6 req s.1.spelt=true)(hn:nL l s.2=.ok y):cmdL l req F (n+1) s=cBd l F (testL l req F n) (cmdL l req F n) k s.1.pos y:=by
 rw[cmdL,if_neg (by omega),if_pos hu];refine(QaE hn).trans ?_;show cBd l F (testL l req F n) (cmdL l req F n) (wL cNs s.1.spelt - 1) s.1.pos y=_
 rw[hi];rfl
section
variable {α β:Type} {l:L8} {F pos:Nat} {tst:PS→Except Flt (β×PS)} {sub:PS→Except Flt (α×PS)} {s:PS}
theorem QpA{α:Type}{l:L8}{s:PS}{a:α}{q:Nat×PS}(h:paL l [[59]] s=.ok q):semi l s a=.ok (a,q.2):=Qac h
theorem Qmz{α:Type}{l:L8}{s:PS}{a:α}{f:Flt}(h:paL l [[59]] s=.error f):semi l s a=.error f:=Qad h
theorem Qq5{k:Nat}(h:cBd l F tst sub k pos s=Qa2 (sL l (fun _=>0) s) fun x s1=>semi l s1 (⟨k,pos,0,x,[],false⟩,[],[])):cBd l F tst sub k pos s=Qa2 (Qx3 l s) fun x s1=>.ok ((⟨k,pos,0,x,[],false⟩,[],[]),s1):=by
 rw[h];unfold Qx3
 cases sL l (fun _=>0) s with
 |error f=>rfl
 |ok y=>
  rw[Qac (r:=.ok y) rfl,Qac (r:=.ok y) rfl];unfold semi
  cases paL l [[59]] y.2 with
  |error f=>rfl
  |ok z=>rfl
theorem Quw{k:Nat}{q:L8×PS}(h:Qx3 l s=.ok q)(hb:cBd l F tst sub k pos s=Qa2 (sL l (fun _=>0) s) fun x s1=>semi l s1 (⟨k,pos,0,x,[],false⟩,[],[]):=by rfl):cBd l F tst sub k pos s=.ok ((⟨k,pos,0,q.1,[],false⟩,[],[]),q.2):=(Qq5 hb).trans (Qac h)
theorem QoX{k:Nat}{f:Flt}(h:Qx3 l s=.error f)(hb:cBd l F tst sub k pos s=Qa2 (sL l (fun _=>0) s) fun x s1=>semi l s1 (⟨k,pos,0,x,[],false⟩,[],[]):=by rfl):cBd l F tst sub k pos s=.error f:=(Qq5 hb).trans (Qad h)
theorem QuV:cBd l F tst sub 6 pos s=Qa2 (mayL l [QbT,QbU,Qbr] s) fun tag s1=>Qa2 (sL l (fun x=>if isNameL x then 0 else 7) s1) fun v s2=>Qa2 (sL l (fun _=>0) s2) fun x s3=>semi l s3 (⟨6,pos,tag,x,zL v,false⟩,[],[]):=rfl
theorem QqW:cBd l F tst sub 6 pos s=Qa2 (QxS l s) fun q s1=>.ok ((⟨6,pos,q.1,q.2.2,q.2.1,false⟩,[],[]),s1):=by
 rw[QuV];unfold QxS
 cases mayL l [QbT,QbU,Qbr] s with
 |error f=>rfl
 |ok y=>
  rw[Qac (r:=.ok y) rfl,Qac (r:=.ok y) rfl]
  cases sL l (fun x=>if isNameL x then 0 else 7) y.2 with
  |error f=>rfl
  |ok z=>
   rw[Qac (r:=.ok z) rfl,Qac (r:=.ok z) rfl]
   cases sL l (fun _=>0) z.2 with
   |error f=>rfl
   |ok u=>
    rw[Qac (r:=.ok u) rfl,Qac (r:=.ok u) rfl];unfold semi
    cases paL l [[59]] u.2 with
    |error f=>rfl
    |ok v=>rfl
theorem QxY{q:(Nat×L8×L8)×PS}(h:QxS l s=.ok q):cBd l F tst sub 6 pos s=.ok ((⟨6,pos,q.1.1,q.1.2.2,q.1.2.1,false⟩,[],[]),q.2):=QqW.trans (Qac h)
theorem Qxu{f:Flt}(h:QxS l s=.error f):cBd l F tst sub 6 pos s=.error f:=QqW.trans (Qad h)
theorem QtP:cBd l F tst sub 7 pos s=Qa2 (armL l F tst sub s) fun a s1=>Qa2 (aMr l F tst sub F [a] s1) fun arms s2=>Qa2 (mayL l [Qch] s2) fun i s3=>if i=0 then .ok ((⟨7,pos,0,[],[],false⟩,arms,[]),s3)else Qa2 (blockL l F sub s3) fun cs s4=>.ok ((⟨7,pos,0,[],[],true⟩,arms,cs),s4):=rfl
theorem QtG:cBd l F tst sub 7 pos s=Qa2 (QhL l F tst sub s) fun x s1=>.ok ((⟨7,pos,0,[],[],x.2.1⟩,x.1,x.2.2),s1):=by
 rw[QtP];unfold QhL
 cases h1:armL l F tst sub s with
 |error f=>rfl
 |ok y=>
  rw[Qac (r:=.ok y) rfl,Qac (r:=.ok y) rfl]
  cases h2:aMr l F tst sub F [y.1] y.2 with
  |error f=>rfl
  |ok z=>
   rw[Qac (r:=.ok z) rfl,Qac (r:=.ok z) rfl]
   cases h3:mayL l [Qch] z.2 with
   |error f=>rfl
   |ok u=>
    rw[Qac (r:=.ok u) rfl,Qac (r:=.ok u) rfl];by_cases h4:u.1=0
    ·rw[if_pos h4,if_pos h4];rfl
    ·rw[if_neg h4,if_neg h4]
     cases h5:blockL l F sub u.2 with
     |error f=>rfl
     |ok v=>rfl
theorem QyO{q:(List (β×List α)×Bool×List α)×PS}(h:QhL l F tst sub s=.ok q):cBd l F tst sub 7 pos s=.ok ((⟨7,pos,0,[],[],q.1.2.1⟩,q.1.1,q.1.2.2),q.2):=QtG.trans (Qac h)
theorem Qx4{f:Flt}(h:QhL l F tst sub s=.error f):cBd l F tst sub 7 pos s=.error f:=QtG.trans (Qad h)
end
theorem QkJ(d:Int)(b:Nat)(t:ByteArray)(s:PS)(rv:Value)(mc mt p1 k1 p2 k2 p3 k3:Nat)(w:World)(h:RC w b t s rv mc mt)(ht:QsJ w b mc p1 k1 p2 k2 p3 k3)(hd:d<=6)(h0:wL cNs s.1.spelt=0) :
 Calls Tryz.prog 195 #[.pointer (some ⟨b,0,none⟩),.map (some mc),.int .i64 d] w fun e w'=>Qc8 ⟨4,s.1.pos⟩ w e w'/\Mod b w w':=by
 have h1:w.cell? ⟨b,1,none⟩=some (.int .i64 s.1.kind):=h.at_.cell 1;have h3:w.cell? ⟨b,3,none⟩=some (.string (Qaf s.1.spelt)):=h.at_.cell 3;have ac:=ht.look w s.1.spelt rfl;rw[Qlv h0]at ac;have H:=Qab h;clear h ht h0;simp only[Option.getD_none,Option.isSome_none]at ac;by_cases hk:s.1.kind=1
 ·have ad:((s.1.kind:Int) != 1)=false:=by simp;omega
  clear hk;go_enter func195,ntmps195;go_wp2_with fail;refine(QaF b _ _ _ rfl).mono ?_;rintro e w' ⟨rfl,ab⟩;subst ab;go_wp2_with fail;refine(Qbm b 4 _ _ t s.1 s.2 rv mc mt _ H.o.at_ rfl rfl).mono ?_;rintro e w1 ⟨⟨bb,hz,rfl,aa⟩,hm⟩;exact⟨rfl,⟨bb,hz,rfl,aa⟩,Mod.of_below hm⟩
 ·have ad:((s.1.kind:Int) != 1)=true:=by simp;omega
  clear hk;go_enter func195,ntmps195;go_wp2_with fail;refine(QaF b _ _ _ rfl).mono ?_;rintro e w' ⟨rfl,ab⟩;subst ab;go_wp2_with fail;refine(Qbm b 4 _ _ t s.1 s.2 rv mc mt _ H.o.at_ rfl rfl).mono ?_;rintro e w1 ⟨⟨bb,hz,rfl,aa⟩,hm⟩;exact⟨rfl,⟨bb,hz,rfl,aa⟩,Mod.of_below hm⟩
theorem Qnr(fv:Value)(req:List (L8))(d:Int)(b:Nat)(t:ByteArray)(s:PS)(rv:Value)(mc mt p1 k1 p2 k2 p3 k3:Nat)(w:World)(h:RC w b t s rv mc mt)(ht:QsJ w b mc p1 k1 p2 k2 p3 k3)(hr:QmC w b rv req)(hd:d<=6)(ad:s.1.kind=1)(hf:cmdFn b p1 k1 p2 k2 p3 k3 s.1.spelt=some fv)(hu:Qb6 req s.1.spelt=false) :
 Calls Tryz.prog 195 #[.pointer (some ⟨b,0,none⟩),.map (some mc),.int .i64 d] w fun e w'=>Qc8 ⟨6,s.1.pos⟩ w e w'/\Mod b w w':=by
 have h1:w.cell? ⟨b,1,none⟩=some (.int .i64 s.1.kind):=h.at_.cell 1;have h3:w.cell? ⟨b,3,none⟩=some (.string (Qaf s.1.spelt)):=h.at_.cell 3;have aa:=ht.look w s.1.spelt rfl;rw[hf]at aa;have H:=Qab h;have HU:=Qab (QdP s.1.spelt req b t s rv mc mt w h hr);rw[hu]at HU;clear h ht hr hf hu;simp only[Option.getD_some,Option.isSome_some]at aa;have hk':((s.1.kind:Int) != 1)=false:=by simp;omega
 clear ad;go_enter func195,ntmps195;go_wp2_with fail;refine(QaF b _ _ _ rfl).mono ?_;rintro e w' ⟨rfl,ab⟩;subst w';go_wp2_with fail;refine(QaF b _ _ _ rfl).mono ?_;rintro e w' ⟨rfl,ab⟩;subst w';go_wp2_with fail;refine HU.o.mono ?_;rintro e w' ⟨rfl,ab⟩;subst w';go_wp2_with fail;refine(Qbm b 6 _ _ t s.1 s.2 rv mc mt _ H.o.at_ rfl rfl).mono ?_;rintro e w1 ⟨⟨bb,hz,rfl,ac⟩,hm⟩;exact⟨rfl,⟨bb,hz,rfl,ac⟩,Mod.of_below hm⟩
theorem Qqx(b:Nat)(t:ByteArray)(s:PS)(rv:Value)(mc mt p1 k1 p2 k2 p3 k3:Nat)(w:World)(h:RC w b t s rv mc mt)(ht:QsJ w b mc p1 k1 p2 k2 p3 k3) :
 Calls Tryz.prog 195 #[.pointer (some ⟨b,0,none⟩),.map (some mc),.int .i64 7] w fun e w'=>Qc8 ⟨if s.1.kind=1 then 5 else 4,s.1.pos⟩ w e w'/\Mod b w w':=by
 have h1:w.cell? ⟨b,1,none⟩=some (.int .i64 s.1.kind):=h.at_.cell 1;have h3:w.cell? ⟨b,3,none⟩=some (.string (Qaf s.1.spelt)):=h.at_.cell 3;have ab:=ht.look w s.1.spelt rfl;have H:=Qab h;by_cases hk:s.1.kind=1
 ·rw[if_pos hk];have ac:((s.1.kind:Int) != 1)=false:=by simp;omega
  clear hk h ht ab;go_enter func195,ntmps195;go_wp2_with fail;refine(Qbm b 5 _ _ t s.1 s.2 rv mc mt _ H.o.at_ rfl rfl).mono ?_;rintro e w1 ⟨⟨bb,hz,rfl,aa⟩,hm⟩;exact⟨rfl,⟨bb,hz,rfl,aa⟩,Mod.of_below hm⟩
 ·rw[if_neg hk]
  have h0:wL cNs s.1.spelt=0:=by
   apply Classical.byContradiction;intro h0;exact hk (Qrp h.nm h0)
  rw[Qlv h0]at ab;have ac:((s.1.kind:Int) != 1)=true:=by simp;omega
  clear hk h ht h0;simp only[Option.getD_none,Option.isSome_none]at ab;go_enter func195,ntmps195;go_wp2_with fail;refine(QaF b _ _ _ rfl).mono ?_;rintro e w' ⟨rfl,hww⟩;subst w';go_wp2_with fail;refine(Qbm b 4 _ _ t s.1 s.2 rv mc mt _ H.o.at_ rfl rfl).mono ?_;rintro e w1 ⟨⟨bb,hz,rfl,aa⟩,hm⟩;exact⟨rfl,⟨bb,hz,rfl,aa⟩,Mod.of_below hm⟩
theorem Qmr(f:FuncId)(q q2:Nat)(n:Nat)(req:List (L8))(d:Int)(b F:Nat)(t:ByteArray)(s:PS)(rv:Value)(mc mt p1 k1 p2 k2 p3 k3:Nat)(w:World)(h:RC w b t s rv mc mt)(ht:QsJ w b mc p1 k1 p2 k2 p3 k3)(hr:QmC w b rv req)(hd0:0<=d)(hd:d<=6)(au:s.1.kind=1)(hu:Qb6 req s.1.spelt=true)
 (aj:cmdFn b p1 k1 p2 k2 p3 k3 s.1.spelt=some (.func (.func f) #[] #[.pointer (some ⟨q,0,none⟩),.pointer (some ⟨q2,0,none⟩)])) (hcf:∀ args W,(callFunc f args).run Tryz.prog W=.ok (.enter f args) W) (ak:∀ f2,nL t.data.toList s.2=.error f2->cmdL t.data.toList req F (n+1) s=.error f2)
 (aa:∀ W y,Mod b w W->RC W b t y rv mc mt->nL t.data.toList s.2=.ok y->Calls Tryz.prog f #[.agg #[.string (Qaf s.1.spelt),.int .i64 s.1.pos],.int .i64 d,.pointer (some ⟨q,0,none⟩),.pointer (some ⟨q2,0,none⟩)] W (Qap (cmdL t.data.toList req F (n+1) s) b t rv mc mt w (QhW (n+1) (fromB w.heap.size)))) :
 Calls Tryz.prog 195 #[.pointer (some ⟨b,0,none⟩),.map (some mc),.int .i64 d] w (Qap (cmdL t.data.toList req F (n+1) s) b t rv mc mt w (QhW (n+1) (fromB w.heap.size))):=by
 have h1:w.cell? ⟨b,1,none⟩=some (.int .i64 s.1.kind):=h.at_.cell 1;have h2:w.cell? ⟨b,2,none⟩=some (.int .i64 s.1.pos):=h.at_.cell 2;have h3:w.cell? ⟨b,3,none⟩=some (.string (Qaf s.1.spelt)):=h.at_.cell 3;have ae:=ht.look w s.1.spelt rfl;rw[aj]at ae;have H:=Qab h;have HU:=Qab (QdP s.1.spelt req b t s rv mc mt w h hr);rw[hu]at HU;have ap:=Qab ak;have ac:=Qab aa;have av:=h.at_.lt;clear h ht hr aj hu ak aa;simp only[Option.getD_some,Option.isSome_some]at ae;have hk':((s.1.kind:Int) != 1)=false:=by simp;omega
 clear au;go_enter func195,ntmps195;go_wp2_with fail;refine(QaF b _ _ _ rfl).mono ?_;rintro e w' ⟨rfl,ag⟩;subst w';go_wp2_with fail;refine(QaF b _ _ _ rfl).mono ?_;rintro e w' ⟨rfl,ag⟩;subst w';go_wp2_with fail;refine HU.o.mono ?_;rintro e w' ⟨rfl,ag⟩;subst w';go_wp2_with fail;refine(QaF b _ _ _ rfl).mono ?_;rintro e w' ⟨rfl,ag⟩;subst w';clear HU ae;go_wp2_with fail;go_region
 all_goals go_wp2_with fail
 all_goals
  refine(QcU b t s rv mc mt _ ((H.o.alloc _).drew)).mono ?_;rintro e w2 (⟨y,hy,rfl,hc,hm⟩ | ⟨f2,hf2,⟨bb,hz,rfl,ad⟩,hm⟩)
 all_goals first
  |exact⟨rfl,Qap.err (ap.o _ hf2) (((Mod.refl b w).alloc _).trans (QaY hm)) ⟨bb,by simp at hz;omega,rfl,ad⟩⟩
  |skip
 all_goals
  obtain⟨hh0,hh1,af⟩:=QeP hm av;have HM:=Qab af;have HC:=Qab hc;have ao:=Qab (ac.o _ y af hc hy);clear hm hc hy af;go_wp2_with fail;refine ao.o.mono ?_;intro e w3 ah;have HQ:=Qab ah;clear ah;rcases HQ.o.cases with⟨q,v,hq,rfl,hv,ai,ab⟩ | ⟨f3,ar,⟨bb,hz,rfl,ad⟩,ab⟩
 all_goals first
  |exact⟨rfl,Qap.err ar ab ⟨bb,hz,rfl,ad⟩⟩
  |skip
 all_goals
  have aq:=Qab (Qap.ok hq ab hv ai);clear hq ab hv ai HQ;go_wp2;go_ret;exact aq.o
theorem Qhw(f:FuncId)(n:Nat)(req:List (L8))(d:Int)(b F:Nat)(t:ByteArray)(s:PS)(rv:Value)(mc mt p1 k1 p2 k2 p3 k3:Nat)(w:World)(h:RC w b t s rv mc mt)(ht:QsJ w b mc p1 k1 p2 k2 p3 k3)(hr:QmC w b rv req)(hd0:0<=d)(hd:d<=6)(au:s.1.kind=1)(hu:Qb6 req s.1.spelt=true)
 (aj:cmdFn b p1 k1 p2 k2 p3 k3 s.1.spelt=some (.func (.func f) #[.pointer (some ⟨b,0,none⟩)] #[])) (hcf:∀ args W,(callFunc f args).run Tryz.prog W=.ok (.enter f args) W) (ak:∀ f2,nL t.data.toList s.2=.error f2->cmdL t.data.toList req F (n+1) s=.error f2)
 (aa:∀ W y,Mod b w W->RC W b t y rv mc mt->nL t.data.toList s.2=.ok y->Calls Tryz.prog f #[.pointer (some ⟨b,0,none⟩),.agg #[.string (Qaf s.1.spelt),.int .i64 s.1.pos],.int .i64 d] W (Qap (cmdL t.data.toList req F (n+1) s) b t rv mc mt w (QhW (n+1) (fromB w.heap.size)))) :
 Calls Tryz.prog 195 #[.pointer (some ⟨b,0,none⟩),.map (some mc),.int .i64 d] w (Qap (cmdL t.data.toList req F (n+1) s) b t rv mc mt w (QhW (n+1) (fromB w.heap.size))):=by
 have h1:w.cell? ⟨b,1,none⟩=some (.int .i64 s.1.kind):=h.at_.cell 1;have h2:w.cell? ⟨b,2,none⟩=some (.int .i64 s.1.pos):=h.at_.cell 2;have h3:w.cell? ⟨b,3,none⟩=some (.string (Qaf s.1.spelt)):=h.at_.cell 3;have ae:=ht.look w s.1.spelt rfl;rw[aj]at ae;have H:=Qab h;have HU:=Qab (QdP s.1.spelt req b t s rv mc mt w h hr);rw[hu]at HU;have ap:=Qab ak;have ac:=Qab aa;have av:=h.at_.lt;clear h ht hr aj hu ak aa;simp only[Option.getD_some,Option.isSome_some]at ae;have hk':((s.1.kind:Int) != 1)=false:=by simp;omega
 clear au;go_enter func195,ntmps195;go_wp2_with fail;refine(QaF b _ _ _ rfl).mono ?_;rintro e w' ⟨rfl,ag⟩;subst w';go_wp2_with fail;refine(QaF b _ _ _ rfl).mono ?_;rintro e w' ⟨rfl,ag⟩;subst w';go_wp2_with fail;refine HU.o.mono ?_;rintro e w' ⟨rfl,ag⟩;subst w';go_wp2_with fail;refine(QaF b _ _ _ rfl).mono ?_;rintro e w' ⟨rfl,ag⟩;subst w';clear HU ae;go_wp2_with fail;go_region
 all_goals go_wp2_with fail
 all_goals
  refine(QcU b t s rv mc mt _ ((H.o.alloc _).drew)).mono ?_;rintro e w2 (⟨y,hy,rfl,hc,hm⟩ | ⟨f2,hf2,⟨bb,hz,rfl,ad⟩,hm⟩)
 all_goals first
  |exact⟨rfl,Qap.err (ap.o _ hf2) (((Mod.refl b w).alloc _).trans (QaY hm)) ⟨bb,by simp at hz;omega,rfl,ad⟩⟩
  |skip
 all_goals
  obtain⟨hh0,hh1,af⟩:=QeP hm av;have HM:=Qab af;have HC:=Qab hc;have ao:=Qab (ac.o _ y af hc hy);clear hm hc hy af;go_wp2_with fail;refine ao.o.mono ?_;intro e w3 ah;have HQ:=Qab ah;clear ah;rcases HQ.o.cases with⟨q,v,hq,rfl,hv,ai,ab⟩ | ⟨f3,ar,⟨bb,hz,rfl,ad⟩,ab⟩
 all_goals first
  |exact⟨rfl,Qap.err ar ab ⟨bb,hz,rfl,ad⟩⟩
  |skip
 all_goals
  have aq:=Qab (Qap.ok hq ab hv ai);clear hq ab hv ai HQ;go_wp2;go_ret;exact aq.o
theorem QsZ(n:Nat)(req:List (L8))(d:Int)(b F:Nat)(t:ByteArray)(s:PS)(rv:Value)(mc mt p1 k1 p2 k2 p3 k3:Nat)(w:World)(h:RC w b t s rv mc mt)(ht:QsJ w b mc p1 k1 p2 k2 p3 k3)(hr:QmC w b rv req)(hF:2*t.size+1<F)(ab:0<=d)(hd:d<=6)(hS:SubMu t.size (cmdL t.data.toList req F n))(ad:Qfd 186 w b t rv mc mt (d+1) (testL t.data.toList req F n) (TestV n))(ho:Qfd 143 w b t rv mc mt (d+1) (cmdL t.data.toList req F n) (QhW n)) :
 Calls Tryz.prog 195 #[.pointer (some ⟨b,0,none⟩),.map (some mc),.int .i64 d] w (Qap (cmdL t.data.toList req F (n+1) s) b t rv mc mt w (QhW (n+1) (fromB w.heap.size))):=by
 by_cases h0:wL cNs s.1.spelt=0
 ·refine(QkJ d b t s rv mc mt p1 k1 p2 k2 p3 k3 w h ht hd h0).mono ?_;rintro e w1 ⟨h1,h2⟩;exact Qap.err (by rw[cmdL,if_pos h0]) h2 h1
 have ac:=Qrp h.nm h0;cases hu:Qb6 req s.1.spelt
 ·obtain⟨fv,hf⟩:=Qsx (b:=b) (p1:=p1) (k1:=k1) (p2:=p2) (k2:=k2) (p3:=p3) (k3:=k3) h0;refine(Qnr fv req d b t s rv mc mt p1 k1 p2 k2 p3 k3 w h ht hr hd ac hf hu).mono ?_;rintro e w1 ⟨h1,h2⟩;exact Qap.err (by rw[cmdL,if_neg h0,if_neg (by rw[hu];decide)]) h2 h1
 have hle:=QbN cNs s.1.spelt;have hl:cNs.length=8:=rfl;rcases(by omega:wL cNs s.1.spelt=0+1\/wL cNs s.1.spelt=1+1\/wL cNs s.1.spelt=2+1\/wL cNs s.1.spelt=3+1\/wL cNs s.1.spelt=4+1\/wL cNs s.1.spelt=5+1\/wL cNs s.1.spelt=6+1\/wL cNs s.1.spelt=7+1)with hi|hi|hi|hi|hi|hi|hi|hi
 ·refine Qhw 121 n req d b F t s rv mc mt p1 k1 p2 k2 p3 k3 w h ht hr ab hd ac hu (by unfold cmdFn;rw[hi];rfl) (fun _ _=>by kernel_rfl) (fun f2 hf2=>Qca hi hu hf2) (fun W y HM HC hy=>?_);have aa:s.1.spelt=Qfk:=by have:=QaA _ _ _ hi;simpa[cNs]using this.symm
  have HE:=Qdt (F:=F) (n:=n) hi hu hy;refine(Qwk s.1.spelt s.1.pos d b t y rv mc mt _ HC).mono ?_;intro e w3 h3';exact Qap.lift (fun _=>((⟨0,s.1.pos,0,[],[],false⟩:Qgt),[],[])) h3' HM (fun q hq=>HE.trans (QpA hq)) (fun f hf=>HE.trans (Qmz hf)) (fun a v _ hv=>by rw[aa]at hv;exact hv)
 ·refine Qhw 122 n req d b F t s rv mc mt p1 k1 p2 k2 p3 k3 w h ht hr ab hd ac hu (by unfold cmdFn;rw[hi];rfl) (fun _ _=>by kernel_rfl) (fun f2 hf2=>Qca hi hu hf2) (fun W y HM HC hy=>?_);have aa:s.1.spelt=Qb0:=by have:=QaA _ _ _ hi;simpa[cNs]using this.symm
  have HE:=Qdt (F:=F) (n:=n) hi hu hy;refine(Qqz s.1.spelt s.1.pos d b t y rv mc mt _ HC).mono ?_;intro e w3 h3';exact Qap.lift (fun _=>((⟨1,s.1.pos,0,[],[],false⟩:Qgt),[],[])) h3' HM (fun q hq=>HE.trans (QpA hq)) (fun f hf=>HE.trans (Qmz hf)) (fun a v _ hv=>by rw[aa]at hv;exact hv)
 ·refine Qhw 123 n req d b F t s rv mc mt p1 k1 p2 k2 p3 k3 w h ht hr ab hd ac hu (by unfold cmdFn;rw[hi];rfl) (fun _ _=>by kernel_rfl) (fun f2 hf2=>Qca hi hu hf2) (fun W y HM HC hy=>?_);have aa:s.1.spelt=Qd6:=by have:=QaA _ _ _ hi;simpa[cNs]using this.symm
  have HE:=Qdt (F:=F) (n:=n) hi hu hy;refine(Qwe s.1.spelt s.1.pos d b t y rv mc mt _ HC).mono ?_;intro e w3 h3';exact Qap.lift (fun _=>((⟨2,s.1.pos,0,[],[],false⟩:Qgt),[],[])) h3' HM (fun q hq=>HE.trans (QpA hq)) (fun f hf=>HE.trans (Qmz hf)) (fun a v _ hv=>by rw[aa]at hv;exact hv)
 ·refine Qmr 178 p1 k1 n req d b F t s rv mc mt p1 k1 p2 k2 p3 k3 w h ht hr ab hd ac hu (by unfold cmdFn;rw[hi];rfl) (fun _ _=>by kernel_rfl) (fun f2 hf2=>Qca hi hu hf2) (fun W y HM HC hy=>?_);have aa:s.1.spelt=QaO:=by have:=QaA _ _ _ hi;simpa[cNs]using this.symm
  have HE:=Qdt (F:=F) (n:=n) hi hu hy;refine(Qmo s.1.spelt s.1.pos d p1 k1 2 b t y rv mc mt _ HC (ht.mod HM).hp1 (ht.mod HM).hk1 (ht.mod HM).k1b).mono ?_;intro e w3 h3';exact Qap.lift (fun x=>((⟨3,s.1.pos,0,x,[],false⟩:Qgt),[],[])) h3' HM (fun q hq=>HE.trans (Quw hq)) (fun f hf=>HE.trans (QoX hf)) (fun a v _ hv=>by rw[aa]at hv;exact hv)
 ·refine Qmr 178 p2 k2 n req d b F t s rv mc mt p1 k1 p2 k2 p3 k3 w h ht hr ab hd ac hu (by unfold cmdFn;rw[hi];rfl) (fun _ _=>by kernel_rfl) (fun f2 hf2=>Qca hi hu hf2) (fun W y HM HC hy=>?_);have aa:s.1.spelt=Qbl:=by have:=QaA _ _ _ hi;simpa[cNs]using this.symm
  have HE:=Qdt (F:=F) (n:=n) hi hu hy;refine(Qmo s.1.spelt s.1.pos d p2 k2 3 b t y rv mc mt _ HC (ht.mod HM).hp2 (ht.mod HM).hk2 (ht.mod HM).k2b).mono ?_;intro e w3 h3';exact Qap.lift (fun x=>((⟨4,s.1.pos,0,x,[],false⟩:Qgt),[],[])) h3' HM (fun q hq=>HE.trans (Quw hq)) (fun f hf=>HE.trans (QoX hf)) (fun a v _ hv=>by rw[aa]at hv;exact hv)
 ·refine Qmr 178 p3 k3 n req d b F t s rv mc mt p1 k1 p2 k2 p3 k3 w h ht hr ab hd ac hu (by unfold cmdFn;rw[hi];rfl) (fun _ _=>by kernel_rfl) (fun f2 hf2=>Qca hi hu hf2) (fun W y HM HC hy=>?_);have aa:s.1.spelt=Qbc:=by have:=QaA _ _ _ hi;simpa[cNs]using this.symm
  have HE:=Qdt (F:=F) (n:=n) hi hu hy;refine(Qmo s.1.spelt s.1.pos d p3 k3 4 b t y rv mc mt _ HC (ht.mod HM).hp3 (ht.mod HM).hk3 (ht.mod HM).k3b).mono ?_;intro e w3 h3';exact Qap.lift (fun x=>((⟨5,s.1.pos,0,x,[],false⟩:Qgt),[],[])) h3' HM (fun q hq=>HE.trans (Quw hq)) (fun f hf=>HE.trans (QoX hf)) (fun a v _ hv=>by rw[aa]at hv;exact hv)
 ·refine Qhw 125 n req d b F t s rv mc mt p1 k1 p2 k2 p3 k3 w h ht hr ab hd ac hu (by unfold cmdFn;rw[hi];rfl) (fun _ _=>by kernel_rfl) (fun f2 hf2=>Qca hi hu hf2) (fun W y HM HC hy=>?_);have aa:s.1.spelt=QhB:=by have:=QaA _ _ _ hi;simpa[cNs]using this.symm
  have HE:=Qdt (F:=F) (n:=n) hi hu hy;refine(Qxf s.1.spelt s.1.pos d b t y rv mc mt _ HC).mono ?_;intro e w3 h3';exact Qap.lift (fun x=>((⟨6,s.1.pos,x.1,x.2.2,x.2.1,false⟩:Qgt),[],[])) h3' HM (fun q hq=>HE.trans (QxY hq)) (fun f hf=>HE.trans (Qxu hf)) (fun a v _ hv=>by rw[aa]at hv;exact hv)
 ·refine Qhw 126 n req d b F t s rv mc mt p1 k1 p2 k2 p3 k3 w h ht hr ab hd ac hu (by unfold cmdFn;rw[hi];rfl) (fun _ _=>by kernel_rfl) (fun f2 hf2=>Qca hi hu hf2) (fun W y HM HC hy=>?_);have aa:s.1.spelt=kIf:=by have:=QaA _ _ _ hi;simpa[cNs]using this.symm
  have HE:=Qdt (F:=F) (n:=n) hi hu hy;refine(Qsu (testL t.data.toList req F n) (TestV n) (cmdL t.data.toList req F n) (QhW n) s.1.spelt s.1.pos d b F t y rv mc mt _ HC hF ab (by omega) (Qbf n) (QaX n) hS (fun s g=>QfC n s g) (fun s g=>QjZ n s g) (ad.mod HM) (ho.mod HM)).mono ?_;intro e w3 h3'
  exact Qap.lift (fun x=>((⟨7,s.1.pos,0,[],[],x.2.1⟩:Qgt),x.1,x.2.2)) h3' HM (fun q hq=>HE.trans (QyO hq)) (fun f hf=>HE.trans (Qx4 hf)) (fun a v _ hv=>by
   rw[aa]at hv;obtain⟨av,ev,rfl,h1,h2,h3⟩:=hv
   exact ⟨av,ev,rfl,QgP.weak (Qbf n) (QaX n) h2 h1 (fun k hk _=>Nat.le_trans HM.size hk),h2,h3.weak (QaX n) (fun k hk _=>Nat.le_trans HM.size hk)⟩)
theorem Qiq{α:Type}(r:Except Flt (α×PS))(ac:α->World->Value->Prop)(d:Int)(b:Nat)(t:ByteArray)(s:PS)(rv:Value)(mc mt:Nat)(w:World)(h:RC w b t s rv mc mt)
 (hb:Calls Tryz.prog 195 #[.pointer (some ⟨b,0,none⟩),.map (some mc),.int .i64 d] w (Qap r b t rv mc mt w ac)) :
 Calls Tryz.prog 143 #[.pointer (some ⟨b,0,none⟩),.int .i64 d] w (Qap r b t rv mc mt w ac):=by
 have h8:w.cell? ⟨b,8,none⟩=some (.map (some mc)):=h.at_.cell 8;have HB:=Qab hb;clear hb h;go_enter func143,ntmps143;go_wp2_with fail;refine HB.o.mono ?_;intro e w1 h1;rcases h1.cases with⟨q,v,hq,rfl,hv,ab,aa⟩ | ⟨f3,ae,⟨bb,hz,rfl,ad⟩,aa⟩
 ·have HQ:=Qab (Qap.ok hq aa hv ab);clear h1 hq aa hv ab;go_wp2;go_ret;exact HQ.o
 ·exact⟨rfl,Qap.err ae aa ⟨bb,hz,rfl,ad⟩⟩
theorem Qji(req:List (L8))(b F:Nat)(t:ByteArray)(rv:Value)(mc mt pr pt pf p1 k1 p2 k2 p3 k3:Nat)(hF:2*t.size+1<F) :
 ∀(n:Nat),n<=7->∀(w:World),Qo5 w b mt pr pt pf->QsJ w b mc p1 k1 p2 k2 p3 k3->QmC w b rv req->Qfd 143 w b t rv mc mt (7 - (n:Int)) (cmdL t.data.toList req F n) (QhW n)
 |0,_,w,ht,hcm,hr=>fun W s hm hc=>by
  refine Qiq _ _ _ b t s rv mc mt W hc ?_;refine(Qqx b t s rv mc mt p1 k1 p2 k2 p3 k3 W hc (hcm.mod hm)).mono ?_;rintro e w1 ⟨h1,h2⟩;refine Qap.err ?_ h2 h1;rw[cmdL];split<;>rfl
 |n+1,hn,w,ht,hcm,hr=>fun W s hm hc=>by
  refine Qiq _ _ _ b t s rv mc mt W hc ?_;have ih:=Qji req b F t rv mc mt pr pt pf p1 k1 p2 k2 p3 k3 hF n (by omega) W (ht.mod hm) (hcm.mod hm) (hr.mod hm);have it:=Qxe req b F t rv mc mt pr pt pf hF n (by omega) W (ht.mod hm) (hr.mod hm);have e:(7:Int) - ((n+1:Nat):Int)+1=7 - (n:Int):=by omega
  exact QsZ n req _ b F t s rv mc mt p1 k1 p2 k2 p3 k3 W hc (hcm.mod hm) (hr.mod hm) hF (by omega) (by omega) (QwD t req F n) (by rw[e];exact it) (by rw[e];exact ih)
end Go.Proofs.YtgnkjijocdmniaaGreatDoor
