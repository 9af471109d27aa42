import Derived.MapFrom
import Derived.Orders
import Derived.Test.YthkibedbcbgajaaGreatDoorChoice
namespace Go.Proofs.YthkibedbcbgajaaGreatDoor
set_option linter.unusedVariables false
set_option linter.unusedSimpArgs false
set_option maxRecDepth 100000
set_option maxHeartbeats 4000000
open Go.Proofs.Tryz
section
open Go.RowKit
attribute [local go_sem ↓] Go.wp_at_zero Go.wp_at_succ
def cmdFn (b p1 k1 p2 k2 p3 k3:Nat) (x:L8):Option Value:=
 match wL cNs x with
 | 1=>some (.func (.func 101) #[.pointer (some ⟨b,0,none⟩)] #[])
 | 2=>some (.func (.func 102) #[.pointer (some ⟨b,0,none⟩)] #[])
 | 3=>some (.func (.func 103) #[.pointer (some ⟨b,0,none⟩)] #[])
 | 4=>some (.func (.func 159) #[] #[.pointer (some ⟨p1,0,none⟩),.pointer (some ⟨k1,0,none⟩)])
 | 5=>some (.func (.func 159) #[] #[.pointer (some ⟨p2,0,none⟩),.pointer (some ⟨k2,0,none⟩)])
 | 6=>some (.func (.func 159) #[] #[.pointer (some ⟨p3,0,none⟩),.pointer (some ⟨k3,0,none⟩)])
 | 7=>some (.func (.func 105) #[.pointer (some ⟨b,0,none⟩)] #[])
 | 8=>some (.func (.func 106) #[.pointer (some ⟨b,0,none⟩)] #[])
 | _=>none
structure QrT (w:World) (b mc p1 k1 p2 k2 p3 k3:Nat):Prop where
 look:Qtn w 191 mc (cmdFn b p1 k1 p2 k2 p3 k3)
 hp1:Qno w p1 b
 hk1:w.cell? ⟨k1,0,none⟩=some (.int .i64 2)
 hp2:Qno w p2 b
 hk2:w.cell? ⟨k2,0,none⟩=some (.int .i64 3)
 hp3:Qno w p3 b
 hk3:w.cell? ⟨k3,0,none⟩=some (.int .i64 4)
 k1b:k1≠b
 k2b:k2≠b
 k3b:k3≠b
 mcb:mc≠b
 mcl:mc < w.heap.size
theorem QrT.mod{w w':World}{b mc p1 k1 p2 k2 p3 k3:Nat}(h:QrT w b mc p1 k1 p2 k2 p3 k3)(hm:Mod b w w'):QrT w' b mc p1 k1 p2 k2 p3 k3:=
 ⟨fun W x e=>h.look W x (e.trans (hm.block mc h.mcl h.mcb)),h.hp1.mod hm,Qbz h.hk1 hm h.k1b,h.hp2.mod hm,Qbz h.hk2 hm h.k2b,h.hp3.mod hm,Qbz h.hk3 hm h.k3b,h.k1b,h.k2b,h.k3b,h.mcb,Nat.lt_of_lt_of_le h.mcl hm.size⟩
theorem Qkt{b p1 k1 p2 k2 p3 k3:Nat}{x:L8}(h:wL cNs x=0):cmdFn b p1 k1 p2 k2 p3 k3 x=none:=by unfold cmdFn;rw[h];rfl
theorem Qrd{b p1 k1 p2 k2 p3 k3:Nat}{x:L8}(h:¬ wL cNs x=0):∃ fv,cmdFn b p1 k1 p2 k2 p3 k3 x=some fv:=by
 have hle:=QbC cNs x;have hl:cNs.length=8:=rfl;unfold cmdFn;generalize wL cNs x=i at *;rcases(by omega:i=1\/i=2\/i=3\/i=4\/i=5\/i=6\/i=7\/i=8)with h|h|h|h|h|h|h|h<;>subst h<;>exact⟨_,rfl⟩
theorem Qi6:∀ z∈cNs,∀ c r,z=c::r->Qbt c.toNat=true:=by
 intro z hz c r e;simp[cNs]at hz;rcases hz with h|h|h|h|h|h|h|h<;>subst h<;>cases e<;>decide
theorem QoF:∀ z∈cNs,z≠[]:=by decide
theorem Qpz{s:PS}(hn:¬ s.1.kind=1->QjX s.1.spelt)(h:¬ wL cNs s.1.spelt=0):s.1.kind=1:=by
 apply Classical.byContradiction;intro hk;have hm:=QjI h;have aa:=QoF _ hm
 cases hsp:s.1.spelt with
 |nil=>exact aa hsp
 |cons c r=>
  have h1:=Qi6 _ hm c r hsp;have h2:=hn hk c r hsp;rw[h1]at h2;cases h2
theorem QbR{l:L8}{req:List (L8)}{F n k:Nat}{s:PS}{f:Flt}(hi:wL cNs s.1.spelt=k+1)(hu:Qcu req s.1.spelt=true)(hn:nL l s.2=.error f):cmdL l req F (n+1) s=.error f:=by
 rw[cmdL,if_neg (by omega),if_pos hu];exact Qa3 hn
theorem Qc1{l:L8}{req:List (L8)}{F n k:Nat}{s y:PS}(hi:wL cNs s.1.spelt=k+1)(hu:Qcu req s.1.spelt=true)(hn:nL l s.2=.ok y):cmdL l req F (n+1) s=cBd l F (QbP l req F n) (cmdL l req F n) k s.1.pos y:=by
 rw[cmdL,if_neg (by omega),if_pos hu];refine(Qa2 hn).trans ?_;show cBd l F (QbP l req F n) (cmdL l req F n) (wL cNs s.1.spelt - 1) s.1.pos y=_
 rw[hi];rfl
section
variable {α β:Type} {l:L8} {F pos:Nat} {tst:PS→Except Flt (β×PS)} {sub:PS→Except Flt (α×PS)} {s:PS}
theorem QoV{α:Type}{l:L8}{s:PS}{a:α}{q:Nat×PS}(h:paL l [[59]] s=.ok q):semi l s a=.ok (a,q.2):=Qad h
theorem QlH{α:Type}{l:L8}{s:PS}{a:α}{f:Flt}(h:paL l [[59]] s=.error f):semi l s a=.error f:=Qae h
theorem Qqd{k:Nat}(h:cBd l F tst sub k pos s=QaX (sL l (fun _=>0) s) fun x s1=>semi l s1 (⟨k,pos,0,x,[],false⟩,[],[])):cBd l F tst sub k pos s=QaX (QxI l s) fun x s1=>.ok ((⟨k,pos,0,x,[],false⟩,[],[]),s1):=by
 rw[h];unfold QxI
 cases sL l (fun _=>0) s with
 |error f=>rfl
 |ok y=>
  rw[Qad (r:=.ok y) rfl,Qad (r:=.ok y) rfl];unfold semi
  cases paL l [[59]] y.2 with
  |error f=>rfl
  |ok z=>rfl
theorem QtS{k:Nat}{q:L8×PS}(h:QxI l s=.ok q)(hb:cBd l F tst sub k pos s=QaX (sL l (fun _=>0) s) fun x s1=>semi l s1 (⟨k,pos,0,x,[],false⟩,[],[]):=by rfl):cBd l F tst sub k pos s=.ok ((⟨k,pos,0,q.1,[],false⟩,[],[]),q.2):=(Qqd hb).trans (Qad h)
theorem Qo1{k:Nat}{f:Flt}(h:QxI l s=.error f)(hb:cBd l F tst sub k pos s=QaX (sL l (fun _=>0) s) fun x s1=>semi l s1 (⟨k,pos,0,x,[],false⟩,[],[]):=by rfl):cBd l F tst sub k pos s=.error f:=(Qqd hb).trans (Qae h)
theorem Qsj:cBd l F tst sub 6 pos s=QaX (mayL l [Qdc,Qc9,Qch] s) fun tag s1=>QaX (sL l (fun x=>if isNameL x then 0 else 7) s1) fun v s2=>QaX (sL l (fun _=>0) s2) fun x s3=>semi l s3 (⟨6,pos,tag,x,zL v,false⟩,[],[]):=rfl
theorem QpU:cBd l F tst sub 6 pos s=QaX (QxW l s) fun q s1=>.ok ((⟨6,pos,q.1,q.2.2,q.2.1,false⟩,[],[]),s1):=by
 rw[Qsj];unfold QxW
 cases mayL l [Qdc,Qc9,Qch] s with
 |error f=>rfl
 |ok y=>
  rw[Qad (r:=.ok y) rfl,Qad (r:=.ok y) rfl]
  cases sL l (fun x=>if isNameL x then 0 else 7) y.2 with
  |error f=>rfl
  |ok z=>
   rw[Qad (r:=.ok z) rfl,Qad (r:=.ok z) rfl]
   cases sL l (fun _=>0) z.2 with
   |error f=>rfl
   |ok u=>
    rw[Qad (r:=.ok u) rfl,Qad (r:=.ok u) rfl];unfold semi
    cases paL l [[59]] u.2 with
    |error f=>rfl
    |ok v=>rfl
theorem Qx0{q:(Nat×L8×L8)×PS}(h:QxW l s=.ok q):cBd l F tst sub 6 pos s=.ok ((⟨6,pos,q.1.1,q.1.2.2,q.1.2.1,false⟩,[],[]),q.2):=QpU.trans (Qad h)
theorem Qxl{f:Flt}(h:QxW l s=.error f):cBd l F tst sub 6 pos s=.error f:=QpU.trans (Qae h)
theorem Qss:cBd l F tst sub 7 pos s=QaX (armL l F tst sub s) fun a s1=>QaX (aMr l F tst sub F [a] s1) fun arms s2=>QaX (mayL l [QgJ] s2) fun i s3=>if i=0 then .ok ((⟨7,pos,0,[],[],false⟩,arms,[]),s3)else QaX (blockL l F sub s3) fun cs s4=>.ok ((⟨7,pos,0,[],[],true⟩,arms,cs),s4):=rfl
theorem Qta:cBd l F tst sub 7 pos s=QaX (QgT l F tst sub s) fun x s1=>.ok ((⟨7,pos,0,[],[],x.2.1⟩,x.1,x.2.2),s1):=by
 rw[Qss];unfold QgT
 cases h1:armL l F tst sub s with
 |error f=>rfl
 |ok y=>
  rw[Qad (r:=.ok y) rfl,Qad (r:=.ok y) rfl]
  cases h2:aMr l F tst sub F [y.1] y.2 with
  |error f=>rfl
  |ok z=>
   rw[Qad (r:=.ok z) rfl,Qad (r:=.ok z) rfl]
   cases h3:mayL l [QgJ] z.2 with
   |error f=>rfl
   |ok u=>
    rw[Qad (r:=.ok u) rfl,Qad (r:=.ok u) rfl];by_cases h4:u.1=0
    ·rw[if_pos h4,if_pos h4];rfl
    ·rw[if_neg h4,if_neg h4]
     cases h5:blockL l F sub u.2 with
     |error f=>rfl
     |ok v=>rfl
theorem Qyy{q:(List (β×List α)×Bool×List α)×PS}(h:QgT l F tst sub s=.ok q):cBd l F tst sub 7 pos s=.ok ((⟨7,pos,0,[],[],q.1.2.1⟩,q.1.1,q.1.2.2),q.2):=Qta.trans (Qad h)
theorem QxK{f:Flt}(h:QgT l F tst sub s=.error f):cBd l F tst sub 7 pos s=.error f:=Qta.trans (Qae h)
end
theorem QjD(d:Int)(b:Nat)(t:ByteArray)(s:PS)(rv:Value)(mc mt p1 k1 p2 k2 p3 k3:Nat)(w:World)(h:RC w b t s rv mc mt)(ht:QrT w b mc p1 k1 p2 k2 p3 k3)(hd:d<=6)(h0:wL cNs s.1.spelt=0) :
 Calls Tryz.prog 177 #[.pointer (some ⟨b,0,none⟩),.map (some mc),.int .i64 d] w fun e w'=>QcN ⟨4,s.1.pos⟩ w e w'/\Mod b w w':=by
 have h1:w.cell? ⟨b,1,none⟩=some (.int .i64 s.1.kind):=h.at_.cell 1;have h3:w.cell? ⟨b,3,none⟩=some (.string (sA s.1.spelt)):=h.at_.cell 3;have ac:=ht.look w s.1.spelt rfl;rw[Qkt h0]at ac;have H:=Qab h;clear h ht h0;simp only[Option.getD_none,Option.isSome_none]at ac;by_cases hk:s.1.kind=1
 ·have ad:((s.1.kind:Int) != 1)=false:=by simp;omega
  clear hk;go_enter func177,ntmps177;go_wp2_with fail;refine(Qay b _ _ _ rfl).mono ?_;rintro e w' ⟨rfl,aa⟩;subst aa;go_wp2_with fail;refine(Qa7 b 4 _ _ t s.1 s.2 rv mc mt _ H.o.at_ rfl rfl).mono ?_;rintro e w1 ⟨⟨bb,hz,rfl,ab⟩,hm⟩;exact⟨rfl,⟨bb,hz,rfl,ab⟩,Mod.of_below hm⟩
 ·have ad:((s.1.kind:Int) != 1)=true:=by simp;omega
  clear hk;go_enter func177,ntmps177;go_wp2_with fail;refine(Qay b _ _ _ rfl).mono ?_;rintro e w' ⟨rfl,aa⟩;subst aa;go_wp2_with fail;refine(Qa7 b 4 _ _ t s.1 s.2 rv mc mt _ H.o.at_ rfl rfl).mono ?_;rintro e w1 ⟨⟨bb,hz,rfl,ab⟩,hm⟩;exact⟨rfl,⟨bb,hz,rfl,ab⟩,Mod.of_below hm⟩
theorem QmS(fv:Value)(req:List (L8))(d:Int)(b:Nat)(t:ByteArray)(s:PS)(rv:Value)(mc mt p1 k1 p2 k2 p3 k3:Nat)(w:World)(h:RC w b t s rv mc mt)(ht:QrT w b mc p1 k1 p2 k2 p3 k3)(hr:QlQ w b rv req)(hd:d<=6)(ac:s.1.kind=1)(hf:cmdFn b p1 k1 p2 k2 p3 k3 s.1.spelt=some fv)(hu:Qcu req s.1.spelt=false) :
 Calls Tryz.prog 177 #[.pointer (some ⟨b,0,none⟩),.map (some mc),.int .i64 d] w fun e w'=>QcN ⟨6,s.1.pos⟩ w e w'/\Mod b w w':=by
 have h1:w.cell? ⟨b,1,none⟩=some (.int .i64 s.1.kind):=h.at_.cell 1;have h3:w.cell? ⟨b,3,none⟩=some (.string (sA s.1.spelt)):=h.at_.cell 3;have aa:=ht.look w s.1.spelt rfl;rw[hf]at aa;have H:=Qab h;have HU:=Qab (Qdi s.1.spelt req b t s rv mc mt w h hr);rw[hu]at HU;clear h ht hr hf hu;simp only[Option.getD_some,Option.isSome_some]at aa;have hk':((s.1.kind:Int) != 1)=false:=by simp;omega
 clear ac;go_enter func177,ntmps177;go_wp2_with fail;refine(Qay b _ _ _ rfl).mono ?_;rintro e w' ⟨rfl,ab⟩;subst w';go_wp2_with fail;refine(Qay b _ _ _ rfl).mono ?_;rintro e w' ⟨rfl,ab⟩;subst w';go_wp2_with fail;refine HU.o.mono ?_;rintro e w' ⟨rfl,ab⟩;subst w';go_wp2_with fail;refine(Qa7 b 6 _ _ t s.1 s.2 rv mc mt _ H.o.at_ rfl rfl).mono ?_;rintro e w1 ⟨⟨bb,hz,rfl,ad⟩,hm⟩;exact⟨rfl,⟨bb,hz,rfl,ad⟩,Mod.of_below hm⟩
theorem Qpi(b:Nat)(t:ByteArray)(s:PS)(rv:Value)(mc mt p1 k1 p2 k2 p3 k3:Nat)(w:World)(h:RC w b t s rv mc mt)(ht:QrT w b mc p1 k1 p2 k2 p3 k3) :
 Calls Tryz.prog 177 #[.pointer (some ⟨b,0,none⟩),.map (some mc),.int .i64 7] w fun e w'=>QcN ⟨if s.1.kind=1 then 5 else 4,s.1.pos⟩ w e w'/\Mod b w w':=by
 have h1:w.cell? ⟨b,1,none⟩=some (.int .i64 s.1.kind):=h.at_.cell 1;have h3:w.cell? ⟨b,3,none⟩=some (.string (sA s.1.spelt)):=h.at_.cell 3;have aa:=ht.look w s.1.spelt rfl;have H:=Qab h;by_cases hk:s.1.kind=1
 ·rw[if_pos hk];have ac:((s.1.kind:Int) != 1)=false:=by simp;omega
  clear hk h ht aa;go_enter func177,ntmps177;go_wp2_with fail;refine(Qa7 b 5 _ _ t s.1 s.2 rv mc mt _ H.o.at_ rfl rfl).mono ?_;rintro e w1 ⟨⟨bb,hz,rfl,ab⟩,hm⟩;exact⟨rfl,⟨bb,hz,rfl,ab⟩,Mod.of_below hm⟩
 ·rw[if_neg hk]
  have h0:wL cNs s.1.spelt=0:=by
   apply Classical.byContradiction;intro h0;exact hk (Qpz h.nm h0)
  rw[Qkt h0]at aa;have ac:((s.1.kind:Int) != 1)=true:=by simp;omega
  clear hk h ht h0;simp only[Option.getD_none,Option.isSome_none]at aa;go_enter func177,ntmps177;go_wp2_with fail;refine(Qay b _ _ _ rfl).mono ?_;rintro e w' ⟨rfl,hww⟩;subst w';go_wp2_with fail;refine(Qa7 b 4 _ _ t s.1 s.2 rv mc mt _ H.o.at_ rfl rfl).mono ?_;rintro e w1 ⟨⟨bb,hz,rfl,ab⟩,hm⟩;exact⟨rfl,⟨bb,hz,rfl,ab⟩,Mod.of_below hm⟩
theorem Qli(f:FuncId)(q q2:Nat)(n:Nat)(req:List (L8))(d:Int)(b F:Nat)(t:ByteArray)(s:PS)(rv:Value)(mc mt p1 k1 p2 k2 p3 k3:Nat)(w:World)(h:RC w b t s rv mc mt)(ht:QrT w b mc p1 k1 p2 k2 p3 k3)(hr:QlQ w b rv req)(hd0:0<=d)(hd:d<=6)(au:s.1.kind=1)(hu:Qcu req s.1.spelt=true)
 (ai:cmdFn b p1 k1 p2 k2 p3 k3 s.1.spelt=some (.func (.func f) #[] #[.pointer (some ⟨q,0,none⟩),.pointer (some ⟨q2,0,none⟩)])) (hcf:∀ args W,(callFunc f args).run Tryz.prog W=.ok (.enter f args) W) (ak:∀ f2,nL t.data.toList s.2=.error f2->cmdL t.data.toList req F (n+1) s=.error f2)
 (aa:∀ W y,Mod b w W->RC W b t y rv mc mt->nL t.data.toList s.2=.ok y->Calls Tryz.prog f #[.agg #[.string (sA s.1.spelt),.int .i64 s.1.pos],.int .i64 d,.pointer (some ⟨q,0,none⟩),.pointer (some ⟨q2,0,none⟩)] W (Qap (cmdL t.data.toList req F (n+1) s) b t rv mc mt w (Qji (n+1) (fromB w.heap.size)))) :
 Calls Tryz.prog 177 #[.pointer (some ⟨b,0,none⟩),.map (some mc),.int .i64 d] w (Qap (cmdL t.data.toList req F (n+1) s) b t rv mc mt w (Qji (n+1) (fromB w.heap.size))):=by
 have h1:w.cell? ⟨b,1,none⟩=some (.int .i64 s.1.kind):=h.at_.cell 1;have h2:w.cell? ⟨b,2,none⟩=some (.int .i64 s.1.pos):=h.at_.cell 2;have h3:w.cell? ⟨b,3,none⟩=some (.string (sA s.1.spelt)):=h.at_.cell 3;have ae:=ht.look w s.1.spelt rfl;rw[ai]at ae;have H:=Qab h;have HU:=Qab (Qdi s.1.spelt req b t s rv mc mt w h hr);rw[hu]at HU;have av:=Qab ak;have ad:=Qab aa;have ap:=h.at_.lt;clear h ht hr ai hu ak aa;simp only[Option.getD_some,Option.isSome_some]at ae;have hk':((s.1.kind:Int) != 1)=false:=by simp;omega
 clear au;go_enter func177,ntmps177;go_wp2_with fail;refine(Qay b _ _ _ rfl).mono ?_;rintro e w' ⟨rfl,ag⟩;subst w';go_wp2_with fail;refine(Qay b _ _ _ rfl).mono ?_;rintro e w' ⟨rfl,ag⟩;subst w';go_wp2_with fail;refine HU.o.mono ?_;rintro e w' ⟨rfl,ag⟩;subst w';go_wp2_with fail;refine(Qay b _ _ _ rfl).mono ?_;rintro e w' ⟨rfl,ag⟩;subst w';clear HU ae;go_wp2_with fail;go_region
 all_goals go_wp2_with fail
 all_goals
  refine(QcD b t s rv mc mt _ ((H.o.alloc _).drew)).mono ?_;rintro e w2 (⟨y,hy,rfl,hc,hm⟩ | ⟨f2,hf2,⟨bb,hz,rfl,ac⟩,hm⟩)
 all_goals first
  |exact⟨rfl,Qap.err (av.o _ hf2) (((Mod.refl b w).alloc _).trans (QaQ hm)) ⟨bb,by simp at hz;omega,rfl,ac⟩⟩
  |skip
 all_goals
  obtain⟨hh0,hh1,af⟩:=Qeg hm ap;have HM:=Qab af;have HC:=Qab hc;have aq:=Qab (ad.o _ y af hc hy);clear hm hc hy af;go_wp2_with fail;refine aq.o.mono ?_;intro e w3 aj;have HQ:=Qab aj;clear aj;rcases HQ.o.cases with⟨q,v,hq,rfl,hv,ah,ab⟩ | ⟨f3,ar,⟨bb,hz,rfl,ac⟩,ab⟩
 all_goals first
  |exact⟨rfl,Qap.err ar ab ⟨bb,hz,rfl,ac⟩⟩
  |skip
 all_goals
  have ao:=Qab (Qap.ok hq ab hv ah);clear hq ab hv ah HQ;go_wp2;go_ret;exact ao.o
theorem QfZ(f:FuncId)(n:Nat)(req:List (L8))(d:Int)(b F:Nat)(t:ByteArray)(s:PS)(rv:Value)(mc mt p1 k1 p2 k2 p3 k3:Nat)(w:World)(h:RC w b t s rv mc mt)(ht:QrT w b mc p1 k1 p2 k2 p3 k3)(hr:QlQ w b rv req)(hd0:0<=d)(hd:d<=6)(au:s.1.kind=1)(hu:Qcu req s.1.spelt=true)
 (ai:cmdFn b p1 k1 p2 k2 p3 k3 s.1.spelt=some (.func (.func f) #[.pointer (some ⟨b,0,none⟩)] #[])) (hcf:∀ args W,(callFunc f args).run Tryz.prog W=.ok (.enter f args) W) (ak:∀ f2,nL t.data.toList s.2=.error f2->cmdL t.data.toList req F (n+1) s=.error f2)
 (aa:∀ W y,Mod b w W->RC W b t y rv mc mt->nL t.data.toList s.2=.ok y->Calls Tryz.prog f #[.pointer (some ⟨b,0,none⟩),.agg #[.string (sA s.1.spelt),.int .i64 s.1.pos],.int .i64 d] W (Qap (cmdL t.data.toList req F (n+1) s) b t rv mc mt w (Qji (n+1) (fromB w.heap.size)))) :
 Calls Tryz.prog 177 #[.pointer (some ⟨b,0,none⟩),.map (some mc),.int .i64 d] w (Qap (cmdL t.data.toList req F (n+1) s) b t rv mc mt w (Qji (n+1) (fromB w.heap.size))):=by
 have h1:w.cell? ⟨b,1,none⟩=some (.int .i64 s.1.kind):=h.at_.cell 1;have h2:w.cell? ⟨b,2,none⟩=some (.int .i64 s.1.pos):=h.at_.cell 2;have h3:w.cell? ⟨b,3,none⟩=some (.string (sA s.1.spelt)):=h.at_.cell 3;have ae:=ht.look w s.1.spelt rfl;rw[ai]at ae;have H:=Qab h;have HU:=Qab (Qdi s.1.spelt req b t s rv mc mt w h hr);rw[hu]at HU;have av:=Qab ak;have ad:=Qab aa;have ap:=h.at_.lt;clear h ht hr ai hu ak aa;simp only[Option.getD_some,Option.isSome_some]at ae;have hk':((s.1.kind:Int) != 1)=false:=by simp;omega
 clear au;go_enter func177,ntmps177;go_wp2_with fail;refine(Qay b _ _ _ rfl).mono ?_;rintro e w' ⟨rfl,ag⟩;subst w';go_wp2_with fail;refine(Qay b _ _ _ rfl).mono ?_;rintro e w' ⟨rfl,ag⟩;subst w';go_wp2_with fail;refine HU.o.mono ?_;rintro e w' ⟨rfl,ag⟩;subst w';go_wp2_with fail;refine(Qay b _ _ _ rfl).mono ?_;rintro e w' ⟨rfl,ag⟩;subst w';clear HU ae;go_wp2_with fail;go_region
 all_goals go_wp2_with fail
 all_goals
  refine(QcD b t s rv mc mt _ ((H.o.alloc _).drew)).mono ?_;rintro e w2 (⟨y,hy,rfl,hc,hm⟩ | ⟨f2,hf2,⟨bb,hz,rfl,ac⟩,hm⟩)
 all_goals first
  |exact⟨rfl,Qap.err (av.o _ hf2) (((Mod.refl b w).alloc _).trans (QaQ hm)) ⟨bb,by simp at hz;omega,rfl,ac⟩⟩
  |skip
 all_goals
  obtain⟨hh0,hh1,af⟩:=Qeg hm ap;have HM:=Qab af;have HC:=Qab hc;have aq:=Qab (ad.o _ y af hc hy);clear hm hc hy af;go_wp2_with fail;refine aq.o.mono ?_;intro e w3 aj;have HQ:=Qab aj;clear aj;rcases HQ.o.cases with⟨q,v,hq,rfl,hv,ah,ab⟩ | ⟨f3,ar,⟨bb,hz,rfl,ac⟩,ab⟩
 all_goals first
  |exact⟨rfl,Qap.err ar ab ⟨bb,hz,rfl,ac⟩⟩
  |skip
 all_goals
  have ao:=Qab (Qap.ok hq ab hv ah);clear hq ab hv ah HQ;go_wp2;go_ret;exact ao.o
theorem Qqy(n:Nat)(req:List (L8))(d:Int)(b F:Nat)(t:ByteArray)(s:PS)(rv:Value)(mc mt p1 k1 p2 k2 p3 k3:Nat)(w:World)(h:RC w b t s rv mc mt)(ht:QrT w b mc p1 k1 p2 k2 p3 k3)(hr:QlQ w b rv req)(hF:2*t.size+1<F)(ab:0<=d)(hd:d<=6)(hS:SubMu t.size (cmdL t.data.toList req F n))(ad:Qey 168 w b t rv mc mt (d+1) (QbP t.data.toList req F n) (TestV n))(ho:Qey 123 w b t rv mc mt (d+1) (cmdL t.data.toList req F n) (Qji n)) :
 Calls Tryz.prog 177 #[.pointer (some ⟨b,0,none⟩),.map (some mc),.int .i64 d] w (Qap (cmdL t.data.toList req F (n+1) s) b t rv mc mt w (Qji (n+1) (fromB w.heap.size))):=by
 by_cases h0:wL cNs s.1.spelt=0
 ·refine(QjD d b t s rv mc mt p1 k1 p2 k2 p3 k3 w h ht hd h0).mono ?_;rintro e w1 ⟨h1,h2⟩;exact Qap.err (by rw[cmdL,if_pos h0]) h2 h1
 have ac:=Qpz h.nm h0;cases hu:Qcu req s.1.spelt
 ·obtain⟨fv,hf⟩:=Qrd (b:=b) (p1:=p1) (k1:=k1) (p2:=p2) (k2:=k2) (p3:=p3) (k3:=k3) h0;refine(QmS fv req d b t s rv mc mt p1 k1 p2 k2 p3 k3 w h ht hr hd ac hf hu).mono ?_;rintro e w1 ⟨h1,h2⟩;exact Qap.err (by rw[cmdL,if_neg h0,if_neg (by rw[hu];decide)]) h2 h1
 have hle:=QbC cNs s.1.spelt;have hl:cNs.length=8:=rfl;rcases(by omega:wL cNs s.1.spelt=0+1\/wL cNs s.1.spelt=1+1\/wL cNs s.1.spelt=2+1\/wL cNs s.1.spelt=3+1\/wL cNs s.1.spelt=4+1\/wL cNs s.1.spelt=5+1\/wL cNs s.1.spelt=6+1\/wL cNs s.1.spelt=7+1)with hi|hi|hi|hi|hi|hi|hi|hi
 ·refine QfZ 101 n req d b F t s rv mc mt p1 k1 p2 k2 p3 k3 w h ht hr ab hd ac hu (by unfold cmdFn;rw[hi];rfl) (fun _ _=>by kernel_rfl) (fun f2 hf2=>QbR hi hu hf2) (fun W y HM HC hy=>?_);have aa:s.1.spelt=QfJ:=by have:=Qaw _ _ _ hi;simpa[cNs]using this.symm
  have HE:=Qc1 (F:=F) (n:=n) hi hu hy;refine(Qu6 s.1.spelt s.1.pos d b t y rv mc mt _ HC).mono ?_;intro e w3 h3';exact Qap.lift (fun _=>((⟨0,s.1.pos,0,[],[],false⟩:Qjl),[],[])) h3' HM (fun q hq=>HE.trans (QoV hq)) (fun f hf=>HE.trans (QlH hf)) (fun a v _ hv=>by rw[aa]at hv;exact hv)
 ·refine QfZ 102 n req d b F t s rv mc mt p1 k1 p2 k2 p3 k3 w h ht hr ab hd ac hu (by unfold cmdFn;rw[hi];rfl) (fun _ _=>by kernel_rfl) (fun f2 hf2=>QbR hi hu hf2) (fun W y HM HC hy=>?_);have aa:s.1.spelt=QbV:=by have:=Qaw _ _ _ hi;simpa[cNs]using this.symm
  have HE:=Qc1 (F:=F) (n:=n) hi hu hy;refine(Qo4 s.1.spelt s.1.pos d b t y rv mc mt _ HC).mono ?_;intro e w3 h3';exact Qap.lift (fun _=>((⟨1,s.1.pos,0,[],[],false⟩:Qjl),[],[])) h3' HM (fun q hq=>HE.trans (QoV hq)) (fun f hf=>HE.trans (QlH hf)) (fun a v _ hv=>by rw[aa]at hv;exact hv)
 ·refine QfZ 103 n req d b F t s rv mc mt p1 k1 p2 k2 p3 k3 w h ht hr ab hd ac hu (by unfold cmdFn;rw[hi];rfl) (fun _ _=>by kernel_rfl) (fun f2 hf2=>QbR hi hu hf2) (fun W y HM HC hy=>?_);have aa:s.1.spelt=QfP:=by have:=Qaw _ _ _ hi;simpa[cNs]using this.symm
  have HE:=Qc1 (F:=F) (n:=n) hi hu hy;refine(QvO s.1.spelt s.1.pos d b t y rv mc mt _ HC).mono ?_;intro e w3 h3';exact Qap.lift (fun _=>((⟨2,s.1.pos,0,[],[],false⟩:Qjl),[],[])) h3' HM (fun q hq=>HE.trans (QoV hq)) (fun f hf=>HE.trans (QlH hf)) (fun a v _ hv=>by rw[aa]at hv;exact hv)
 ·refine Qli 159 p1 k1 n req d b F t s rv mc mt p1 k1 p2 k2 p3 k3 w h ht hr ab hd ac hu (by unfold cmdFn;rw[hi];rfl) (fun _ _=>by kernel_rfl) (fun f2 hf2=>QbR hi hu hf2) (fun W y HM HC hy=>?_);have aa:s.1.spelt=QaN:=by have:=Qaw _ _ _ hi;simpa[cNs]using this.symm
  have HE:=Qc1 (F:=F) (n:=n) hi hu hy;refine(QlI s.1.spelt s.1.pos d p1 k1 2 b t y rv mc mt _ HC (ht.mod HM).hp1 (ht.mod HM).hk1 (ht.mod HM).k1b).mono ?_;intro e w3 h3';exact Qap.lift (fun x=>((⟨3,s.1.pos,0,x,[],false⟩:Qjl),[],[])) h3' HM (fun q hq=>HE.trans (QtS hq)) (fun f hf=>HE.trans (Qo1 hf)) (fun a v _ hv=>by rw[aa]at hv;exact hv)
 ·refine Qli 159 p2 k2 n req d b F t s rv mc mt p1 k1 p2 k2 p3 k3 w h ht hr ab hd ac hu (by unfold cmdFn;rw[hi];rfl) (fun _ _=>by kernel_rfl) (fun f2 hf2=>QbR hi hu hf2) (fun W y HM HC hy=>?_);have aa:s.1.spelt=Qbc:=by have:=Qaw _ _ _ hi;simpa[cNs]using this.symm
  have HE:=Qc1 (F:=F) (n:=n) hi hu hy;refine(QlI s.1.spelt s.1.pos d p2 k2 3 b t y rv mc mt _ HC (ht.mod HM).hp2 (ht.mod HM).hk2 (ht.mod HM).k2b).mono ?_;intro e w3 h3';exact Qap.lift (fun x=>((⟨4,s.1.pos,0,x,[],false⟩:Qjl),[],[])) h3' HM (fun q hq=>HE.trans (QtS hq)) (fun f hf=>HE.trans (Qo1 hf)) (fun a v _ hv=>by rw[aa]at hv;exact hv)
 ·refine Qli 159 p3 k3 n req d b F t s rv mc mt p1 k1 p2 k2 p3 k3 w h ht hr ab hd ac hu (by unfold cmdFn;rw[hi];rfl) (fun _ _=>by kernel_rfl) (fun f2 hf2=>QbR hi hu hf2) (fun W y HM HC hy=>?_);have aa:s.1.spelt=Qa5:=by have:=Qaw _ _ _ hi;simpa[cNs]using this.symm
  have HE:=Qc1 (F:=F) (n:=n) hi hu hy;refine(QlI s.1.spelt s.1.pos d p3 k3 4 b t y rv mc mt _ HC (ht.mod HM).hp3 (ht.mod HM).hk3 (ht.mod HM).k3b).mono ?_;intro e w3 h3';exact Qap.lift (fun x=>((⟨5,s.1.pos,0,x,[],false⟩:Qjl),[],[])) h3' HM (fun q hq=>HE.trans (QtS hq)) (fun f hf=>HE.trans (Qo1 hf)) (fun a v _ hv=>by rw[aa]at hv;exact hv)
 ·refine QfZ 105 n req d b F t s rv mc mt p1 k1 p2 k2 p3 k3 w h ht hr ab hd ac hu (by unfold cmdFn;rw[hi];rfl) (fun _ _=>by kernel_rfl) (fun f2 hf2=>QbR hi hu hf2) (fun W y HM HC hy=>?_);have aa:s.1.spelt=QhO:=by have:=Qaw _ _ _ hi;simpa[cNs]using this.symm
  have HE:=Qc1 (F:=F) (n:=n) hi hu hy;refine(Qw1 s.1.spelt s.1.pos d b t y rv mc mt _ HC).mono ?_;intro e w3 h3';exact Qap.lift (fun x=>((⟨6,s.1.pos,x.1,x.2.2,x.2.1,false⟩:Qjl),[],[])) h3' HM (fun q hq=>HE.trans (Qx0 hq)) (fun f hf=>HE.trans (Qxl hf)) (fun a v _ hv=>by rw[aa]at hv;exact hv)
 ·refine QfZ 106 n req d b F t s rv mc mt p1 k1 p2 k2 p3 k3 w h ht hr ab hd ac hu (by unfold cmdFn;rw[hi];rfl) (fun _ _=>by kernel_rfl) (fun f2 hf2=>QbR hi hu hf2) (fun W y HM HC hy=>?_);have aa:s.1.spelt=kIf:=by have:=Qaw _ _ _ hi;simpa[cNs]using this.symm
  have HE:=Qc1 (F:=F) (n:=n) hi hu hy;refine(QqB (QbP t.data.toList req F n) (TestV n) (cmdL t.data.toList req F n) (Qji n) s.1.spelt s.1.pos d b F t y rv mc mt _ HC hF ab (by omega) (Qbi n) (QaV n) hS (fun s g=>Qly n s g) (fun s g=>Qt4 n s g) (ad.mod HM) (ho.mod HM)).mono ?_;intro e w3 h3'
  exact Qap.lift (fun x=>((⟨7,s.1.pos,0,[],[],x.2.1⟩:Qjl),x.1,x.2.2)) h3' HM (fun q hq=>HE.trans (Qyy hq)) (fun f hf=>HE.trans (QxK hf)) (fun a v _ hv=>by
   rw[aa]at hv;obtain⟨av,ev,rfl,h1,h2,h3⟩:=hv
   exact ⟨av,ev,rfl,QfS.weak (Qbi n) (QaV n) h2 h1 (fun k hk _=>Nat.le_trans HM.size hk),h2,h3.weak (QaV n) (fun k hk _=>Nat.le_trans HM.size hk)⟩)
theorem Qhd{α:Type}(r:Except Flt (α×PS))(ab:α->World->Value->Prop)(d:Int)(b:Nat)(t:ByteArray)(s:PS)(rv:Value)(mc mt:Nat)(w:World)(h:RC w b t s rv mc mt)
 (hb:Calls Tryz.prog 177 #[.pointer (some ⟨b,0,none⟩),.map (some mc),.int .i64 d] w (Qap r b t rv mc mt w ab)) :
 Calls Tryz.prog 123 #[.pointer (some ⟨b,0,none⟩),.int .i64 d] w (Qap r b t rv mc mt w ab):=by
 have h8:w.cell? ⟨b,8,none⟩=some (.map (some mc)):=h.at_.cell 8;have HB:=Qab hb;clear hb h;go_enter func123,ntmps123;go_wp2_with fail;refine HB.o.mono ?_;intro e w1 h1;rcases h1.cases with⟨q,v,hq,rfl,hv,ac,aa⟩ | ⟨f3,ad,⟨bb,hz,rfl,ae⟩,aa⟩
 ·have HQ:=Qab (Qap.ok hq aa hv ac);clear h1 hq aa hv ac;go_wp2;go_ret;exact HQ.o
 ·exact⟨rfl,Qap.err ad aa ⟨bb,hz,rfl,ae⟩⟩
theorem QiA(req:List (L8))(b F:Nat)(t:ByteArray)(rv:Value)(mc mt pr pt pf p1 k1 p2 k2 p3 k3:Nat)(hF:2*t.size+1<F) :
 ∀(n:Nat),n<=7->∀(w:World),Qo9 w b mt pr pt pf->QrT w b mc p1 k1 p2 k2 p3 k3->QlQ w b rv req->Qey 123 w b t rv mc mt (7 - (n:Int)) (cmdL t.data.toList req F n) (Qji n)
 |0,_,w,ht,hcm,hr=>fun W s hm hc=>by
  refine Qhd _ _ _ b t s rv mc mt W hc ?_;refine(Qpi b t s rv mc mt p1 k1 p2 k2 p3 k3 W hc (hcm.mod hm)).mono ?_;rintro e w1 ⟨h1,h2⟩;refine Qap.err ?_ h2 h1;rw[cmdL];split<;>rfl
 |n+1,hn,w,ht,hcm,hr=>fun W s hm hc=>by
  refine Qhd _ _ _ b t s rv mc mt W hc ?_;have ih:=QiA req b F t rv mc mt pr pt pf p1 k1 p2 k2 p3 k3 hF n (by omega) W (ht.mod hm) (hcm.mod hm) (hr.mod hm);have it:=QwZ req b F t rv mc mt pr pt pf hF n (by omega) W (ht.mod hm) (hr.mod hm);have e:(7:Int) - ((n+1:Nat):Int)+1=7 - (n:Int):=by omega
  exact Qqy n req _ b F t s rv mc mt p1 k1 p2 k2 p3 k3 W hc (hcm.mod hm) (hr.mod hm) hF (by omega) (by omega) (Qv3 t req F n) (by rw[e];exact it) (by rw[e];exact ih)
theorem Qp1{l:L8}{chk:L8->Nat}:∀(f:Nat) (aa:List (L8)) (s:PS),Gd l s->∀ y,moreL l chk f aa s=.ok y->2*y.1.length+mu l.length y.2<=2*aa.length+mu l.length s
 |0,aa,s,h=>fun y e=>by cases e;exact Nat.le_refl _
 |f+1,aa,s,h=>fun y e=>by
  rw[moreL]at e
  cases hp:paL l [[44],[93]] s with
  |error g=>rw[hp]at e;cases e
  |ok z=>
   rw[hp]at e;obtain⟨h1,h2⟩:=QfA (zs:=[[44],[93]]) h (by decide) z hp;dsimp only at e
   split at e
   ·cases hs:sL l chk z.2 with
    |error g=>rw[hs]at e;cases e
    |ok x=>
     rw[hs]at e;obtain⟨h3,h4⟩:=Qck h1 x hs;have h6:=Qp1 f _ x.2 h3 y e;simp only[List.length_append,List.length_cons,List.length_nil]at h6;omega
   ·cases e;dsimp only;omega
theorem Qpp{l:L8}{chk:L8->Nat}{F:Nat}{s:PS}(h:Gd l s):∀ y,sLs l chk F s=.ok y->2*y.1.length+mu l.length y.2<=mu l.length s+1:=fun y e=>by
 unfold sLs at e
 cases hm:mayL l [[91]] s with
 |error g=>rw[hm]at e;cases e
 |ok z=>
  rw[hm]at e;obtain⟨h1,h2⟩:=Qkl (zs:=[[91]]) h (by decide) z hm;dsimp only at e
  cases hs:sL l chk z.2 with
  |error g=>rw[hs]at e;cases e
  |ok x=>
   rw[hs]at e;obtain⟨h3,h4⟩:=Qck h1 x hs;dsimp only at e
   split at e
   ·cases e;simp only[List.length_cons,List.length_nil];omega
   ·have h6:=Qp1 F _ x.2 h3 y e;simp only[List.length_cons,List.length_nil]at h6;omega
theorem QlP(req:List (L8))(x:L8):(Qb6 req x).length<=req.length+1:=by
 unfold Qb6;split<;>simp
theorem Qfx:∀(xs req:List (L8)),(xs.foldl Qb6 req).length<=req.length+xs.length
 | [],req=>by simp
 |x::r,req=>by
  have h1:=Qfx r (Qb6 req x);have h2:=QlP req x;rw[List.foldl_cons,List.length_cons];omega
theorem Qmd{w:World}{base b:Nat}{rv:Value}{req:List (L8)}(h:w.ownsRow base 9 1 rv req.length (QaD req))(aa:req=[]->rv=.slice none 0 0)(hb:b<base)(hl:req.length<=1000):QlQ w b rv req:=by
 by_cases hr:req=[]
 ·exact Or.inl ⟨aa hr,hr⟩
 ·obtain⟨g,c,hv,hg,ht,hx⟩:=slB.of_owns h rfl hr;exact Or.inr ⟨g,c,hv,by omega,ht,hx,hl⟩
theorem Qi7.mod{w w':World}{p1 p2 g n c er b:Nat}{zs:List (L8)}(h:Qi7 w p1 p2 g n c er zs)(hm:Mod b w w')(h1:p1≠b)(h2:p2≠b)(h3:g≠b):Qi7 w' p1 p2 g n c er zs:=
 ⟨Qbz h.1 hm h1,Qbz h.2.1 hm h2,fun j hj=>Qbz (h.2.2.1 j hj) hm h3,h.2.2.2.1,h.2.2.2.2⟩
def QhV:List (L8):=[QaG,QaN,Qa5,Qbm]
theorem RC.setReq{w:World}{b:Nat}{t:ByteArray}{s:PS}{rv:Value}{mc mt:Nat}(h:RC w b t s rv mc mt)(v:Value):RC (w.setCell ⟨b,7,none⟩ v) b t s v mc mt:=
 h.step ((Mod.refl b w).setCell 7 v) (Qag w b 7 v _ _ h.at_) h.le h.sz h.e0 h.nm
def Qxd (r:Except Flt (List (L8)×PS)) (b:Nat) (t:ByteArray) (mc mt:Nat) (w:World) (e:Ending) (w':World):Prop:=
 Mod b w w'∧((∃ y rv,r=.ok y∧e=.returned (.tuple #[])∧RC w' b t y.2 rv mc mt∧QlQ w' b rv y.1∧∀ k,rv.ownBlock=some k→w.heap.size≤k)∨(∃ f,r=.error f∧QcN f w e w'))
theorem Qor(b F:Nat)(t:ByteArray)(s:PS)(mc mt:Nat)(w:World)(h:RC w b t s (.slice none 0 0) mc mt)(hF:2*t.size+1<F) :
 Calls Tryz.prog 122 #[.pointer (some ⟨b,0,none⟩)] w (Qxd (reqMore t.data.toList F F [] s) b t mc mt w):=by
 have H:=Qab h;have hlt:=h.at_.lt;have aT:=h.mu_le;have az:=h.mu_lt hF;clear h;obtain⟨i0,hi,bA,bK,bw⟩:=info_parts Tryz.infoStr;go_enter func122,ntmps122;go_wp2_with fail
 go_loopw [] (fun wr=>∃(s':PS) (ac:List (L8)) (rv:Value) (f:Nat),RC wr b t s' rv mc mt/\wr.ownsRow w.heap.size 9 1 rv ac.length (QaD ac)/\(ac=[]->rv=.slice none 0 0)/\Mod b w wr/\mu t.size s'<f/\2*ac.length+mu t.size s'<=1300/\reqMore t.data.toList F F [] s=reqMore t.data.toList F f ac s') (fun wr=>muW wr b t.size)
 case atStart=>exact⟨s,[],.slice none 0 0,F,H.o,World.ownsRow_nil _ _ _ _,fun _=>rfl,Mod.refl _ _,az,by simp;omega,rfl⟩
 case round=>
  obtain⟨s',ac,rv,f,ar,af,ae,ad,hf,hbd,bg⟩:=hrel;obtain⟨f,rfl⟩:∃ g,f=g+1:=⟨f - 1,by omega⟩;have hmuR:=ar.muEq;have hszR:wr.heap.size=wr.heap.size:=rfl;generalize hMR:muW wr b t.size=MR at *;have HR:=Qab ar;have a2:=Qab ad;have aA:=Qab bg;have a7:=Qab af;have aP:=Qab ae;have hwr:w.heap.size<=wr.heap.size:=ad.size;clear ar ad bg af ae aT az;go_wp2_with fail;refine(QgI b wr.heap.size 1 1 [Qdg] t s' rv mc mt _ (HR.o.alloc _) (QbB wr [Qdg] _ _ rfl) rfl (by decide)).mono ?_;intro e w3 h3;rcases h3.cases with⟨y3,v3,aQ,rfl,bl,a8,aF⟩ | ⟨f3,bq,⟨bb,hz,rfl,au⟩,aF⟩
  rotate_left
  ·exact⟨rfl,⟨(a2.o.alloc _).trans aF,Or.inr ⟨f3,aA.o.trans (Qae bq),⟨bb,by simp at hz;omega,rfl,au⟩⟩⟩⟩
  have ah:=Qik (l:=t.data.toList) (by simpa using HR.o.le) HR.o.e0 (by decide) aQ;rw[bal]at ah;have ai:=ah.2.1;replace ah:=ah.1;have aX:=((Mod.refl b wr).alloc (.cells #[.string (sA Qdg)] 9)).trans aF;have aI:=Qab (a2.o.trans aX);have aL:=Qab aQ;have aN:=Qab a8;have aH:=Qab (Qbe (b:=b) a7.o aX (by omega));unfold Qj9 at bl;subst bl;clear h3 aQ a8 aF aX;by_cases h1:y3.1=0
  ·have bn:¬(0:Int)<(y3.1:Int):=by omega
   have H1:=Qab h1;clear h1;go_wp2;go_end0;exact⟨aI.o,Or.inl ⟨(ac,y3.2),rv,aA.o.trans ((Qad aL.o).trans (if_pos H1.o)),rfl,aN.o,Qmd aH.o aP.o (by omega) (show ac.length<=1000 by omega),fun k hk=>(aH.o.lt k hk).1⟩⟩
  have bn:(0:Int)<(y3.1:Int):=by omega
  have hmu3'':=ai h1;have H1:=Qab h1;clear h1 ai;go_wp2_with (go_at_call 117;refine(Qi0 _ _ _ _ _).mono ?_;rintro e w' ⟨rfl,rfl⟩);obtain⟨U,hU⟩:∃ U,U=((w3.alloc (.cells #[.string ⟨#[101,110,118,101,108,111,112,101]⟩,.string ⟨#[102,105,108,101,105,110,116,111]⟩,.string ⟨#[114,101,106,101,99,116]⟩,.string ⟨#[118,97,114,105,97,98,108,101,115]⟩] 9)).alloc (.cells #[.int .i64 6] 30)).alloc (.cells #[.slice (some ⟨w3.heap.size,0,none⟩) 4 4] 89):=⟨_,rfl⟩;have hw3:w.heap.size<=w3.heap.size:=aI.o.size
  have bJ:Hid (Qi7 U (w3.heap.size+1+1) (w3.heap.size+1) w3.heap.size 4 4 6 QhV):=by
   rw[hU];refine⟨?_,?_,?_,rfl,by decide⟩
   ·exact Qaa (Qaq (by simp)) 0
   ·exact Qaa (Qac (Qaq (by simp))) 0
   ·exact((QbB w3 QhV _ _ rfl).below ((Below.refl _ _).alloc (Nat.le_refl _) _)).below ((Below.refl _ _).alloc (Nat.le_refl _) _)
  have aJ:Hid (RC U b t y3.2 rv mc mt):=by rw[hU];exact((aN.o.alloc _).alloc _).alloc _
  have aq:Mod b w3 U:=by rw[hU];exact(((Mod.refl b w3).alloc _).alloc _).alloc _
  have aZ:=Qab (aI.o.trans aq);have ax:=Qab (Qbe (b:=b) aH.o aq (by omega));have hzU:U.heap.size=w3.heap.size+1+1+1:=by rw[hU];simp
  rw[<-hU];clear hU aq;refine(Qef (.func (.func 172) #[] #[.pointer (some ⟨w3.heap.size+1+1,0,none⟩),.pointer (some ⟨w3.heap.size+1,0,none⟩)]) (Qcm 6 QhV) b F t y3.2 rv mc mt _ aJ.o (fun W s hm hc=>Qhw _ _ _ 4 4 6 QhV b t s rv mc mt W hc (bJ.o.mod hm (by omega) (by omega) (by omega))) (by have:=aJ.o.mu_lt hF;exact this)).mono ?_;intro e w5 h5;rcases h5.cases with⟨y5,v5,aU,rfl,br,bk,ay⟩ | ⟨f5,bz,⟨bb,hz,rfl,au⟩,ay⟩
  rotate_left
  ·exact⟨rfl,⟨aZ.o.trans ay,Or.inr ⟨f5,aA.o.trans ((Qad aL.o).trans ((if_neg H1.o).trans (Qae bz))),⟨bb,Nat.le_trans aZ.o.size hz,rfl,au⟩⟩⟩⟩
  have aB:=Qpp (l:=t.data.toList) ⟨by simpa using aJ.o.le,aJ.o.e0⟩ y5 aU;rw[bal]at aB;obtain⟨xg,xc,rfl,hxg,aw,a5⟩:=br;have a3:=Qab aw;have bd:=Qab (aZ.o.trans ay);have a9:=Qab aU;have aM:=Qab bk;have a6:=Qab (Qbe (b:=b) ax.o ay (by omega));have aV:∀ k,rv.ownBlock=some k->k<U.heap.size:=fun k hk=>(ax.o.lt k hk).2
  clear h5 aU bk ay aw;go_wp2_with fail
  go_loopw [13] (fun i wi=>∃(k:Nat) (ag:Value),i=.int .i64 k/\k<=y5.1.length/\RC wi b t y5.2 ag mc mt/\wi.ownsRow w.heap.size 9 1 ag ((y5.1.take k).foldl Qb6 ac).length (QaD ((y5.1.take k).foldl Qb6 ac))/\((y5.1.take k).foldl Qb6 ac=[]->ag=.slice none 0 0)/\Mod b w wi/\Qc5 wi xg y5.1/\(∀ g,ag.ownBlock=some g->g≠xg)/\muW wi b t.size=mu t.size y5.2/\xg<wi.heap.size) (fun i _=>y5.1.length - (intOf i).toNat)
  case atStart=>exact⟨0,rv,rfl,Nat.zero_le _,aM.o,a6.o,aP.o,bd.o,a3.o,fun k hk e=>by have:=aV k hk;omega,aM.o.muEq,Qau (a3.o 0 (List.length_pos_iff.2 a5))⟩
  case round=>
   obtain⟨k,ag,rfl,hk,ar,af,ae,ad,aw,aR,aY,hxl⟩:=hrel;have bD:=Qfx (y5.1.take k) ac;have htk:(y5.1.take k).length=k:=by rw[List.length_take];omega
   have aj:=Qab ar;have ak:=Qab af;have aK:=Qab ae;have av:=Qab ad;have aO:=Qab aw;have hwi:w.heap.size<=wr.heap.size:=ad.size;clear ar af ae ad aw aM a6 bd a3 HR a7 aP a2 aH aN aI;by_cases hkl:k<y5.1.length
   ·have hx:(y5.1.take (k+1)).foldl Qb6 ac=Qb6 ((y5.1.take k).foldl Qb6 ac) (y5.1.getD k []):=by
     rw[List.take_add_one,List.foldl_append,List.getElem?_eq_getElem hkl,List.getD_eq_getElem?_getD,List.getElem?_eq_getElem hkl];rfl
    have aG:=Qab hx;have hck:wr.cell? ⟨xg,k,none⟩=some (.string (sA (y5.1.getD k []))):=aO.o k hkl;have h7:wr.cell? ⟨b,7,none⟩=some ag:=aj.o.at_.cell 7;generalize hR:(y5.1.take k).foldl Qb6 ac=R at *;generalize y5.1.getD k []=x at *;have aE:=Qab (Qhi wr b ag R x (Qmd ak.o aK.o (by omega) (by omega)))
    obtain⟨ra,rn,rc,bx⟩:∃ a n c,ag=.slice a n c:=by
     obtain⟨_,h2⟩:=ak.o;rcases h2 with⟨h,_⟩ | ⟨g,cap,cur,h,_⟩
     ·exact⟨_,_,_,h⟩
     ·exact⟨_,_,_,h⟩
    subst bx;clear hx hR;by_cases hw0:0<wL R x
    ·rw[decide_eq_true hw0]at aE;have HA:Hid (Qb6 R x=R):=by show _=_;unfold Qb6;rw[if_pos hw0]
     clear hw0;go_wp2_with (go_at_call 37;refine aE.o.mono ?_;rintro e w' ⟨rfl,bB⟩;subst w');go_roundw
     case rel=>exact⟨k+1,_,by go_num,by omega,aj.o,by rw[aG.o,HA.o];exact ak.o,fun hh=>aK.o (by rw[aG.o,HA.o]at hh;exact hh),av.o,aO.o,aR,aY,hxl⟩
     case measure=>simp[intOf];omega
    ·rw[decide_eq_false hw0]at aE;have HA:Hid (Qb6 R x=R++[x]):=by show _=_;unfold Qb6;rw[if_neg hw0]
     clear hw0;have hfz:wr.frozen? ⟨b,7,none⟩=false:=aj.o.at_.frozen 7;go_wp2_with (first|(go_at_call 37;refine aE.o.mono ?_;rintro e w' ⟨rfl,bB⟩;subst w')|(at_builtin;refine wpList_append_own_at _ rfl _ _ 89 rfl w.heap.size 9 i0 (.string ⟨#[]⟩) 1 16 underlying89 hi bA bK bw rfl (by decide) _ _ _ rfl (ak.o.alloc _) ⟨wr.heap.size,0,none⟩ 1 1 [.string (sA x)] rfl rfl ?c1 ?c2 ?c3 ?c4 ?c5 ?_))
     case c1=>exact cell_one_new _ _ _
     case c2=>intro u hu;simp at hu;subst hu;rfl
     case c3=>unfold maxLen;omega
     case c4=>omega
     case c5=>simp;omega
     ·intro v' w6 ab aa _ a4;have bC:R.length+1=(R++[x]).length:=by simp
      rw[show QaD R++[.string (sA x)]=QaD (R++[x])from Qb4 R x,bC]at ab;obtain⟨g',c',rfl,hg',_,_⟩:=slB.of_owns ab rfl (by simp);obtain⟨nn,aW⟩:∃ n,n=(R++[x]).length:=⟨_,rfl⟩;rw[<-aW]at ab a4 ⊢;have ap:∀ k,(Value.slice ra rn rc).ownBlock=some k->w.heap.size<=k:=fun k hk=>(ak.o.lt k hk).1
      have bh:Qc5 w6 xg y5.1:=fun j hj=>by
       rw [World.cell?_of_block (w:=wr) (a:=⟨xg,j,none⟩) (by
        rw[aa.block xg (by simp;omega) (fun e=>aR xg e.symm rfl)]
        exact Below.heap_alloc _ _ _ hxl)]
       exact aO.o j hj
      have hgx:g'≠xg:=by
       rcases a4 with h|h
       ·exact aR g' (by rw[<-h];rfl)
       ·simp[Value.ownBlock]at h;omega
      have aD:=(aj.o.alloc (Obj.cells #[.string (sA x)] 9)).grown aa (fun k hk=>by have:=ap k hk;omega);have bf:=(av.o.alloc (Obj.cells #[.string (sA x)] 9)).grown aa (fun k hk=>ap k hk);have h76:w6.cell? ⟨b,7,none⟩=some (.slice ra rn rc):=aD.at_.cell 7;have hfz6:w6.frozen? ⟨b,7,none⟩=false:=aD.at_.frozen 7;have a0:xg<w6.heap.size:=by have:=aa.size;simp at this;omega
      have bj:=Qab (aD.setReq (.slice (some ⟨g',0,none⟩) nn c'));have bH:=Qab (bf.setCell 7 (.slice (some ⟨g',0,none⟩) nn c'));have bt:=Qab (Qjb (T:=b) (o:=7) (x:=.slice (some ⟨g',0,none⟩) nn c') ab (fun k hk=>by simp[Value.ownBlock]at hk;omega))
      have bI:Hid (Qc5 (w6.setCell ⟨b,7,none⟩ (.slice (some ⟨g',0,none⟩) nn c')) xg y5.1):=fun j hj=>by
       rw[World.cell?_setCell_other _ _ _ _ (by simp;try omega)];exact bh j hj
      have bm:(w6.setCell ⟨b,7,none⟩ (.slice (some ⟨g',0,none⟩) nn c')).heap.size=w6.heap.size:=by simp[World.setCell]
      have bv:=Qab aW;clear aW ab aa a4 ap bh aD bf;go_wp2;go_roundw
      case rel=>exact⟨k+1,_,by go_num,by omega,bj.o,by rw[aG.o,HA.o,<-bv.o];exact bt.o,fun hh=>by rw[aG.o,HA.o]at hh;simp at hh,bH.o,bI.o,fun g hg=>by simp[Value.ownBlock]at hg;omega,bj.o.muEq,by rw[bm];exact a0⟩
      case measure=>simp[intOf];omega
   ·have bs:k=y5.1.length:=by omega
    subst bs;have bF:y5.1.take y5.1.length=y5.1:=List.take_length;rw[bF]at ak aK bD;go_wp2_with fail;have HP:=Qab (QcF b wr.heap.size 1 1 [[59]] t y5.2 ag mc mt _ (aj.o.alloc (.cells (QaD [[59]]).toArray 9)) (QbZ _ _ rfl) rfl (by decide));refine HP.o.mono ?_;intro e w8 h8;rcases h8.cases with⟨y8,v8,aS,rfl,ba,bi,aC⟩ | ⟨f8,bE,⟨bb,hz,rfl,au⟩,aC⟩
    rotate_left
    ·exact⟨rfl,⟨(av.o.alloc _).trans aC,Or.inr ⟨f8,aA.o.trans ((Qad aL.o).trans ((if_neg H1.o).trans ((Qad a9.o).trans (Qae bE)))),⟨bb,Nat.le_trans (av.o.alloc _).size hz,rfl,au⟩⟩⟩⟩
    have ao:=QhQ (l:=t.data.toList) (by simpa using aj.o.le) aj.o.e0 (by decide) aS;rw[bal]at ao;replace ao:=ao.1;have a1:=((Mod.refl b wr).alloc (.cells (QaD [[59]]).toArray 9)).trans aC;have bo:=Qab (av.o.trans a1);have bu:=Qab (Qbe (b:=b) ak.o a1 (by omega));have bc:=Qab bi;have bG:=Qab aS;unfold Qj9 at ba;subst ba;clear h8 aS bi aC a1 HP
    have bp:Hid (muW w8 b t.size<MR):=by
     show _<_
     rw[bc.o.muEq];omega
    go_wp2;go_roundw
    case rel=>exact⟨y8.2,y5.1.foldl Qb6 ac,ag,f,bc.o,bu.o,aK.o,bo.o,by omega,by omega,aA.o.trans ((Qad aL.o).trans ((if_neg H1.o).trans ((Qad a9.o).trans (Qad bG.o))))⟩
    case measure=>exact bp.o
def ps0:PS:=(⟨0,0,[],[],0⟩,0)
def QlU (X:Nat→Prop) (req:List (L8)) (w:World) (v:Value):Prop:=
 (req=[]∧v=.slice none 0 0)∨slX X req w v
def QxE (X:Nat→Prop) (y:List (L8)×List (QdT 7)) (w:World) (v:Value):Prop:=
 ∃ rv lv,v=.agg #[rv,lv]∧QlU X y.1 w rv∧blX X (Qji 7) y.2 w lv
theorem QlU.keep{X:Nat->Prop}{req:List (L8)}{w w':World}{v:Value}(h:QlU X req w v)(hk:AbvX X w w'):QlU X req w' v:=by
 rcases h with h|h
 ·exact Or.inl h
 ·exact Or.inr (h.keep hk)
theorem QlU.weak{X Y:Nat->Prop}{req:List (L8)}{w:World}{v:Value}(h:QlU X req w v)(hB:∀ k,X k->k<w.heap.size->Y k):QlU Y req w v:=by
 rcases h with h|h
 ·exact Or.inl h
 ·exact Or.inr (h.weak hB)
theorem QlU.of{w:World}{b B:Nat}{rv:Value}{req:List (L8)}(h:QlQ w b rv req)(hB:∀ k,rv.ownBlock=some k->B<=k):QlU (fromB B) req w rv:=by
 rcases h with⟨h1,h2⟩ | ⟨g,c,hv,_,ht,aa,_⟩
 ·exact Or.inl ⟨h2,h1⟩
 ·exact Or.inr ⟨g,c,hv,hB g (by rw[hv];rfl),ht,aa⟩
theorem QlU.form{X:Nat->Prop}{req:List (L8)}{w:World}{v:Value}(h:QlU X req w v):∃ a n c,v=.slice a n c:=by
 rcases h with⟨_,h⟩ | ⟨g,c,h,_⟩
 ·exact⟨_,_,_,h⟩
 ·exact⟨_,_,_,h⟩
def Qyw (r:Except Flt (List (L8)×List (QdT 7))) (b:Nat) (w:World) (e:Ending) (w':World):Prop:=
 Mod b w w'∧((∃ y v,r=.ok y∧e=.returned v∧QxE (fromB w.heap.size) y w' v)∨(∃ f,r=.error f∧QcN f w e w'))
theorem Qjx{l:L8}{f:Flt}(h:nL l 0=.error f):prL l=.error f:=by unfold prL;rw[h]
theorem Qlt{l:L8}{s:PS}{f:Flt}(h:nL l 0=.ok s)(h2:reqMore l (2*l.length+10) (2*l.length+10) [] s=.error f):prL l=.error f:=by unfold prL;rw[h];dsimp only;rw[h2]
theorem Qlj{l:L8}{s:PS}{y:List (L8)×PS}{f:Flt}(h:nL l 0=.ok s)(h2:reqMore l (2*l.length+10) (2*l.length+10) [] s=.ok y)(h3:cMr (cmdL l y.1 (2*l.length+10) 7) (2*l.length+10) [] y.2=.error f):prL l=.error f:=by unfold prL;rw[h];dsimp only;rw[h2];dsimp only;rw[h3]
theorem QsF{l:L8}{s:PS}{y:List (L8)×PS}{cs:List (QdT 7)}(h:nL l 0=.ok s)(h2:reqMore l (2*l.length+10) (2*l.length+10) [] s=.ok y)(h3:cMr (cmdL l y.1 (2*l.length+10) 7) (2*l.length+10) [] y.2=.ok cs):prL l=.ok (y.1,cs):=by unfold prL;rw[h];dsimp only;rw[h2];dsimp only;rw[h3]
theorem Qmn{α:Type}{ab:PS->Except Flt (α×PS)}{f:Nat}{aa:List α}{s:PS}(h:s.1.kind=0):cMr ab (f+1) aa s=.ok aa:=by rw[cMr,if_pos h]
theorem Qmx{α:Type}{aa:PS->Except Flt (α×PS)}{f:Nat}{ab:List α}{s:PS}{e:Flt}(h:¬ s.1.kind=0)(h2:aa s=.error e):cMr aa (f+1) ab s=.error e:=by rw[cMr,if_neg h,h2]
theorem QoT{α:Type}{aa:PS->Except Flt (α×PS)}{f:Nat}{ab:List α}{s:PS}{y:α×PS}(h:¬ s.1.kind=0)(h2:aa s=.ok y):cMr aa (f+1) ab s=cMr aa f (ab++[y.1]) y.2:=by rw[cMr,if_neg h,h2]
theorem QrD(b:Nat)(t:ByteArray)(mc mt pr pt pf p1 k1 p2 k2 p3 k3:Nat)(w:World)(h:RC w b t ps0 (.slice none 0 0) mc mt)(ht:Qo9 w b mt pr pt pf)(aK:QrT w b mc p1 k1 p2 k2 p3 k3) :
 Calls Tryz.prog 60 #[.pointer (some ⟨b,0,none⟩)] w (Qyw (prL t.data.toList) b w):=by
 have H:=Qab h;have HT:=Qab ht;have a4:=Qab aK;have hlt:=h.at_.lt;have aq:2*t.size+1<2*t.data.toList.length+10:=by rw[bal];omega
 generalize hFe:2*t.data.toList.length+10=F at aq;clear h ht aK;obtain⟨i0,hi,bh,bf,a6⟩:=info_parts Tryz.infoCommand;go_enter func60,ntmps60;go_wp2_with fail;have aS:=Qab ((Mod.refl b w).alloc (.cells #[.slice none 0 0,.slice none 0 0] 92));have a2:=Qab (Qam w (.cells #[.slice none 0 0,.slice none 0 0] 92));refine(QcD b t ps0 _ mc mt _ (H.o.alloc _)).mono ?_;rintro e w1 (⟨y,hy,rfl,hc,hm⟩ | ⟨f2,aD,⟨bb,hz,rfl,aj⟩,hm⟩);rotate_left
 ·exact⟨rfl,aS.o.trans hm,Or.inr ⟨f2,Qjx aD,⟨bb,by simp at hz;omega,rfl,aj⟩⟩⟩
 have HY:=Qab hy;have HC:=Qab hc;have HM:=Qab (aS.o.trans hm);have aT:=Qab (QaI a2.o hm (by omega));clear hy hc hm;go_wp2_with fail;refine(Qor b F t y mc mt _ HC.o aq).mono ?_;rintro e w2 ⟨av,⟨y2,rv,aM,rfl,aw,ax,aJ⟩ | ⟨f2,aD,⟨bb,hz,rfl,aj⟩⟩⟩;rotate_left
 ·exact⟨rfl,HM.o.trans av,Or.inr ⟨f2,Qlt HY.o (by rw[hFe];exact aD),⟨bb,Nat.le_trans HM.o.size hz,rfl,aj⟩⟩⟩
 have hz1':=Qar aT.o;have aQ:=Qab aM;have aL:=Qab aw;have ao:=Qab (HM.o.trans av);have aI:=Qab (QaI aT.o av (by omega));have ba:=Qab ax;have a5:Hid (∀ k,rv.ownBlock=some k->w.heap.size+1<=k):=fun k hk=>by have:=aJ k hk;omega
 have HO:=Qab (QiA y2.1 b F t rv mc mt pr pt pf p1 k1 p2 k2 p3 k3 aq 7 (Nat.le_refl _) w2 (HT.o.mod ao.o) (a4.o.mod ao.o) ax);rw[show(7:Int) - ((7:Nat):Int)=0 from rfl]at HO;have ay:=aw.mu_le;have ap:=aw.mu_lt aq;have hz2':=Qar aI.o;clear aM aw av ax aJ;go_wp2_with fail
 go_loopw [3] (fun v wr=>∃(s':PS) (ad:List (QdT 7)) (vs:List Value) (f:Nat),wr.ownsRow w2.heap.size 221 1 v ad.length vs/\Qkp (fun a u=>QgG (Qji 7) w2.heap.size wr v a u) ad vs/\(ad=[]->v=.slice none 0 0)/\RC wr b t s' rv mc mt/\Mod b w2 wr/\mu t.size s'<f/\ad.length+mu t.size s'<=1300/\cMr (cmdL t.data.toList y2.1 F 7) F [] y2.2=cMr (cmdL t.data.toList y2.1 F 7) f ad s') (fun _ wr=>muW wr b t.size)
 case atStart=>
  exact⟨y2.2,[],[],F,World.ownsRow_nil _ _ _ _,trivial,fun _=>rfl,aL.o,Mod.refl _ _,ap,by simp;omega,rfl⟩
 case round=>
  obtain⟨s',ad,vs,f,ak,ab,ai,aA,ag,hf,hbd,aN⟩:=hrel;obtain⟨f,rfl⟩:∃ g,f=g+1:=⟨f - 1,by omega⟩;have HR:=Qab aA;have af:=Qab ag;have aC:=Qab aN;have aG:=Qab ak;have aO:=Qab ab;have bi:=Qab ai;have au:=Qab (QaI aI.o ag (by omega));have hzr:=Qar au.o;have hk1:wr.cell? ⟨b,1,none⟩=some (.int .i64 s'.1.kind):=aA.at_.cell 1;clear aA ag aN ak ab ai aL ay ap;by_cases h1:s'.1.kind=0
  ·have a1:((s'.1.kind:Int) != 0)=false:=by simp;omega
   have H1:=Qab h1;have aR:=Qab (blX.of_owns (QaV 7) aG.o rfl bi.o aO.o);obtain⟨la,ln,lc,rfl⟩:=aR.o.form;have aU:=Qab (QlU.of (ba.o.mod af.o) a5.o);obtain⟨ra,rn,rc,rfl⟩:=aU.o.form;have h7:wr.cell? ⟨b,7,none⟩=some (.slice ra rn rc):=HR.o.at_.cell 7;have r0:wr.cell? ⟨w.heap.size,0,none⟩=some (.slice none 0 0):=Qaa au.o 0;have r1:wr.cell? ⟨w.heap.size,1,none⟩=some (.slice none 0 0):=Qaa au.o 1;have rf:=Qah au.o;clear h1;go_wp2;have hq:¬ fromB (w.heap.size+1) w.heap.size:=by unfold fromB;omega
   have aX:∀ k,fromB (w.heap.size+1) k->k<((wr.setCell ⟨w.heap.size,0,none⟩ (.slice ra rn rc)).setCell ⟨w.heap.size,1,none⟩ (.slice la ln lc)).heap.size->fromB w.heap.size k:=fun k hk _=>by unfold fromB at *;omega
   refine bodyPost_ret (v:=.agg #[.slice ra rn rc,.slice la ln lc]) (by simp[results,results60,go_sem,r0,r1]) rfl ⟨((ao.o.trans af.o).setNew (Nat.le_refl _) _ _).setNew (Nat.le_refl _) _ _,Or.inl ⟨(y2.1,ad),_,QsF HY.o (by rw[hFe];exact aQ.o) (by rw[hFe,aC.o];exact Qmn H1.o),rfl,⟨_,_,rfl,?_,?_⟩⟩⟩
   ·exact((aU.o.keep (AbvX.set hq _ _)).keep (AbvX.set hq _ _)).weak aX
   ·have hq:¬ fromB w2.heap.size w.heap.size:=by unfold fromB;omega
    refine blX.weak (QaV 7) ((aR.o.keep (QaV 7) (AbvX.set hq _ _)).keep (QaV 7) (AbvX.set hq _ _)) (fun k hk _=>by unfold fromB at *;omega)
  have a1:((s'.1.kind:Int) != 0)=true:=by simp;omega
  have H1:=Qab h1;clear h1;go_wp2_with fail;refine(HO.o _ s' af.o HR.o).mono ?_;intro e w4 h4;rcases h4.cases with⟨z4,v4,aE,rfl,az,aP,ah⟩ | ⟨f4,aY,⟨bb,hz,rfl,aj⟩,ah⟩
  rotate_left
  ·exact⟨rfl,(ao.o.trans af.o).trans ah,Or.inr ⟨f4,Qlj HY.o (by rw[hFe];exact aQ.o) (by rw[hFe,aC.o];exact Qmx H1.o aY),⟨bb,Nat.le_trans (ao.o.trans af.o).size hz,rfl,aj⟩⟩⟩
  have hmu4:=Qv3 t y2.1 F 7 s' z4 HR.o.le HR.o.e0 aE;have a8:=Qab az;obtain⟨ar,x4,rfl⟩:=(QaV 7).form _ _ _ _ az;have aV:=Qab (af.o.trans ah);have aZ:=Qab aE;have bd:=Qab aP;have ac:=Qbe (b:=b) aG.o ah (by omega);have a3:=Qab (aO.o.imp (fun a u hu=>QgG.mod (QaV 7) (b:=b) (w':=w4) hu ah (by omega)));have aB:=Qab (fun k hk=>(aG.o.lt k hk).2);have bg:=Qab (QgG.new (QaV 7) (base:=w2.heap.size) a8.o af.o.size aB.o);have hz4:w2.heap.size<=w4.heap.size:=aV.o.size;clear h4 aE aP ah az;go_wp2_with (at_builtin;refine wpList_append_own_at _ rfl _ _ 90 rfl w2.heap.size 221 i0 .nilIface 1 16 underlying90 hi bh bf a6 rfl (by decide) _ _ _ rfl (ac.alloc _) ⟨w4.heap.size,0,none⟩ 1 1 [.iface ar x4] rfl rfl ?c1 ?c2 ?c3 ?c4 ?c5 ?_)
  case c1=>exact cell_one_new _ _ _
  case c2=>intro u hu;simp at hu;subst hu;rfl
  case c3=>unfold maxLen;omega
  case c4=>omega
  case c5=>simp;omega
  ·intro v' w5 ae aa _ aF;have ab:∀ k,(u3).ownBlock=some k->w2.heap.size<=k:=fun k hk=>(ac.lt k hk).1
   have a0:=Qab ((aV.o.alloc (Obj.cells #[.iface ar x4] 221)).grown aa (fun k hk=>ab k hk));have aH:=Qab ((bd.o.alloc (Obj.cells #[.iface ar x4] 221)).grown aa (fun k hk=>by have:=ab k hk;omega));have bc:=Qab ae;have a9:=Qab (Qkp.snoc (P:=fun a u=>QgG (Qji 7) w2.heap.size w5 v' a u) (bg.o.grown (QaV 7) aa aF) (a3.o.imp (fun a u hu=>QgG.grown (QaV 7) hu aa aF)));have aW:muW w5 b t.size<muW wr b t.size:=by rw[aH.o.muEq,HR.o.muEq];omega
   have a7:=Qab aW;clear ae aa aW ac ab aF;go_wp2;go_roundw
   case rel=>exact⟨z4.2,ad++[z4.1],vs++[.iface ar x4],f,by simpa using bc.o,a9.o,fun hh=>absurd hh (by simp),aH.o,a0.o,by omega,by simp;omega,aC.o.trans (QoT H1.o aZ.o)⟩
   case measure=>exact a7.o
end
section
open Go.RowKit
def Qb3 (es:Array MapEntry) (f:L8→Option Value):Prop:=
 (∀ e∈es.toList,∃ x,e.key=.string (sA x)∧f x=some e.val)∧∀ x v,f x=some v→∃ e∈es.toList,e.key=.string (sA x)
theorem Qb3.keys{es:Array MapEntry}{f:L8->Option Value}(h:Qb3 es f):∀ e∈es.toList,MapKept.IsKey .string e.key:=fun e he=>by
 obtain⟨x,hx,_⟩:=h.1 e he;rw[hx];trivial
theorem Qb3.empty:Qb3 #[] (fun _=>none):=⟨fun e he=>by simp at he,fun x v h=>by cases h⟩
theorem Qb3.push{es:Array MapEntry}{f g:L8->Option Value}(h:Qb3 es f){x:L8}{v:Value}{c:Nat}(hn:f x=none)(hx:g x=some v)(hg:∀ z,z≠x->g z=f z):Qb3 (es.push ⟨.string (sA x),v,c⟩) g:=by
 refine⟨fun e he=>?_,fun z u hz=>?_⟩
 ·simp only[Array.toList_push,List.mem_append,List.mem_singleton]at he;rcases he with he|he
  ·obtain⟨z,h1,h2⟩:=h.1 e he;have:z≠x:=fun e=>by rw[e,hn]at h2;cases h2
   exact⟨z,h1,by rw[hg z this];exact h2⟩
  ·subst he;exact⟨x,rfl,hx⟩
 ·by_cases e:z=x
  ·exact⟨⟨.string (sA x),v,c⟩,by simp,by rw[e]⟩
  ·rw[hg z e]at hz;obtain⟨y,hy,hk⟩:=h.2 z u hz;exact⟨y,by simp[hy],hk⟩
theorem Qb3.congr{es:Array MapEntry}{f g:L8->Option Value}(h:Qb3 es f)(e:∀ x,f x=g x):Qb3 es g:=by
 have:f=g:=funext e;rw[<-this];exact h
def QaE (w:World) (m:Nat) (o:Obj):World:={ w with heap:=w.heap.setIfInBounds m o }
theorem QaH{T K E:TypeId}(hT:Tryz.prog.underlying T=some (.map K E))(hK:Tryz.prog.underlying K=some .string){w:World}{m:Nat}{es:Array MapEntry}{c:Nat}{f:L8->Option Value}{x:L8}(hm:w.heap[m]?=some (.map es c))(hf:Qb3 es f)(hx:f x=none)(v:Value) :
 (Instr.mapUpdate T (.map (some m)) (.string (sA x)) v).run Tryz.prog w=.ok () (QaE w m (.map (es.push ⟨.string (sA x),v,c⟩) (c+1))):=by
 have hk:MapKept.IsKey .string (.string (sA x)):=trivial;rcases MapKept.findNow_spec hk es.toList 0 hf.keys with⟨h1,_⟩ | ⟨j,e,h1,h2,h3⟩
 ·simp[Instr.mapUpdate,run_underlying hT,MapKept.run_getObj_map hm,MapKept.run_checkKey hK hk,MapKept.run_findKey hK h1,MapKept.run_setObj_map _ hm,Result.andThen,QaE]
 ·obtain⟨z,hz,aa⟩:=hf.1 e (List.mem_of_getElem? h2);rw[h3]at hz;have:x=z:=Qf8 (by simpa using hz);subst this;rw[hx]at aa;cases aa
theorem QaS{w:World}{m:Nat}{o o':Obj}(h:w.heap[m]?=some o):(QaE w m o').heap[m]?=some o':=by
 have:=Qar h;simp[QaE,this]
theorem Qan{w:World}{m k:Nat}{o':Obj}(h:k≠m):(QaE w m o').heap[k]?=w.heap[k]?:=by
 simp[QaE,Array.getElem?_setIfInBounds_ne (Ne.symm h)]
theorem Qjd{w:World}{m:Nat}{o':Obj}:(QaE w m o').heap.size=w.heap.size:=by simp[QaE]
theorem Qnh{T K E:TypeId}(hT:Tryz.prog.underlying T=some (.map K E))(hK:Tryz.prog.underlying K=some .string)(hE:∀ W,(zeroValue E).run Tryz.prog W=.ok .nilFunc W){w:World}{m:Nat}{es:Array MapEntry}{c:Nat}{f:L8->Option Value}(hm:w.heap[m]?=some (.map es c))(hf:Qb3 es f):Qtn w T m f:=by
 intro W x hW;rw[hm]at hW;have hk:MapKept.IsKey .string (.string (sA x)):=trivial;rcases MapKept.findNow_spec hk es.toList 0 hf.keys with⟨h1,h2⟩ | ⟨j,e,h1,h2,h3⟩
 ·have hn:f x=none:=by
   cases hfx:f x with
   |none=>rfl
   |some v=>
    obtain⟨e,he,aa⟩:=hf.2 x v hfx;exact absurd aa (h2 e he)
  rw[hn];simp[Instr.lookup,run_underlying hT,MapKept.run_getObj_map hW,MapKept.run_checkKey hK hk,MapKept.run_findKey hK h1,hE,Result.andThen]
 ·obtain⟨z,hz,ab⟩:=hf.1 e (List.mem_of_getElem? h2);rw[h3]at hz;have:x=z:=Qf8 (by simpa using hz);subst this;rw[ab];simp[Instr.lookup,run_underlying hT,MapKept.run_getObj_map hW,MapKept.run_checkKey hK hk,MapKept.run_findKey hK h1,Result.andThen]
end
section
open Go.RowKit
attribute [local go_sem ↓] Go.wp_at_zero Go.wp_at_succ
theorem Tryz.infoFnC:(Tryz.prog.info? 195).map (fun i=>(i.zero,i.size,i.bytes))=some (some .nilFunc,1,8):=by kernel_rfl
theorem Tryz.infoFnT:(Tryz.prog.info? 197).map (fun i=>(i.zero,i.size,i.bytes))=some (some .nilFunc,1,8):=by kernel_rfl
theorem Qwq(W:World):(zeroValue 195).run Tryz.prog W=.ok .nilFunc W:=by
 obtain⟨i0,hi,aa,hz1,hz2⟩:=info_parts Tryz.infoFnC;simp[zeroValue,typeInfo,Sem.run,hi,aa]
theorem Qxp(W:World):(zeroValue 197).run Tryz.prog W=.ok .nilFunc W:=by
 obtain⟨i0,hi,aa,hz1,hz2⟩:=info_parts Tryz.infoFnT;simp[zeroValue,typeInfo,Sem.run,hi,aa]
theorem QoL(r:Value)(b:Nat)(kd:Int)(w:World)(hr:r=.pointer (some ⟨b,0,none⟩)) :
 Calls Tryz.prog 104 #[r,.int .i64 kd] w fun e w'=>e=.returned (.func (.func 159) #[] #[.pointer (some ⟨w.heap.size,0,none⟩),.pointer (some ⟨w.heap.size+1,0,none⟩)])/\w'=(w.alloc (.cells #[r] 132)).alloc (.cells #[.int .i64 kd] 3):=by
 subst hr;have hmf:∀(fn:Fn) (first cap:Array Value) (w:World),(Instr.makeFunc fn first cap).run Tryz.prog w=.ok (.func fn first cap) w:=fun _ _ _ _=>rfl
 go_enter func104,ntmps104;go_wp2;go_ret;exact⟨rfl,rfl⟩
theorem Qnx(h:Bool)(w:World) :
 Calls Tryz.prog 107 #[.bool h] w fun e w'=>e=.returned (.func (.func 167) #[] #[.pointer (some ⟨w.heap.size,0,none⟩)])/\w'=w.alloc (.cells #[.bool h] 4):=by
 have hmf:∀(fn:Fn) (first cap:Array Value) (w:World),(Instr.makeFunc fn first cap).run Tryz.prog w=.ok (.func fn first cap) w:=fun _ _ _ _=>rfl
 go_enter func107,ntmps107;go_wp2;go_ret;exact⟨rfl,rfl⟩
end
section
open Go.RowKit
def up (L:Nat→Bool) (i:Nat):Nat→Bool:=fun j=>if j=i then true else L j
theorem Qbr(L:Nat->Bool)(i:Nat):up L i i=true:=by simp[up]
theorem Qaf(L:Nat->Bool){i j:Nat}(h:j≠i):up L i j=L j:=by simp[up,h]
theorem Qaj(L:Nat->Bool){i j:Nat}(h:L j=true):up L i j=true:=by unfold up;split<;>simp[h]
theorem ud{L:Nat->Bool}{i j:Nat}(h:up L i j=true)(hd:j≠i:=by decide):L j=true:=by rwa [Qaf L hd]at h
theorem ui{L:Nat->Bool}{i j k:Nat}(hi:L j=true->L k=true)(hd:j≠i:=by decide)(h:up L i j=true):up L i k=true:=Qaj _ (hi (ud h hd))
theorem nf{L:Nat->Bool}{j k:Nat}(hi:L j=true->L k=true)(h0:L k=false):L j=false:=by
 cases hh:L j with
 |false=>rfl
 |true=>have:=hi hh;rw[h0]at this;cases this
def Qb9 (t:ByteArray) (mv mv2:Value):Obj:=.cells #[.string t,.int .i64 0,.int .i64 0,.string ⟨#[]⟩,.string ⟨#[]⟩,.int .i64 0,.int .i64 0,.slice none 0 0,mv,mv2] 194
def QqT (w:World) (b B kd:Nat) (v:Value):Prop:=
 ∃ p q,v=.func (.func 159) #[] #[.pointer (some ⟨p,0,none⟩),.pointer (some ⟨q,0,none⟩)]∧B≤p∧B≤q∧w.heap[p]?=some (.cells #[.pointer (some ⟨b,0,none⟩)] 132)∧w.heap[q]?=some (.cells #[.int .i64 kd] 3)
theorem QqT.keep{w w':World}{b B kd:Nat}{v:Value}(h:QqT w b B kd v)(hk:∀ k cs ty,B<=k->w.heap[k]?=some (.cells cs ty)->w'.heap[k]?=some (.cells cs ty)):QqT w' b B kd v:=by
 obtain⟨p,q,hv,hp,hq,h1,h2⟩:=h;exact⟨p,q,hv,hp,hq,hk p _ _ hp h1,hk q _ _ hq h2⟩
def fC (b:Nat) (L:Nat→Bool) (u16 u18 u20:Value) (x:L8):Option Value:=
 match wL cNs x with
 | 1=>if L 4 then some (.func (.func 101) #[.pointer (some ⟨b,0,none⟩)] #[]) else none
 | 2=>if L 7 then some (.func (.func 102) #[.pointer (some ⟨b,0,none⟩)] #[]) else none
 | 3=>if L 10 then some (.func (.func 103) #[.pointer (some ⟨b,0,none⟩)] #[]) else none
 | 4=>if L 13 then some (u16) else none
 | 5=>if L 16 then some (u18) else none
 | 6=>if L 19 then some (u20) else none
 | 7=>if L 22 then some (.func (.func 105) #[.pointer (some ⟨b,0,none⟩)] #[]) else none
 | 8=>if L 25 then some (.func (.func 106) #[.pointer (some ⟨b,0,none⟩)] #[]) else none
 | _=>none
structure JC (t:ByteArray) (b:Nat) (W:World) (mv2:Value) (L:Nat→Bool) (u8 u16 u18 u20 u25 u26 u27:Value) (w:World):Prop where
 hb:b < W.heap.size
 mod:Mod b W w
 rd:w.heap[b]?=some (Qb9 t (if L 29 then u25 else Value.map none) mv2)
 cm4:L 4=true→L 1=true
 cm7:L 7=true→L 1=true
 cm10:L 10=true→L 1=true
 cm13:L 13=true→L 1=true
 cm16:L 16=true→L 1=true
 cm19:L 19=true→L 1=true
 cm22:L 22=true→L 1=true
 cm25:L 25=true→L 1=true
 cv13:L 13=true→L 12=true
 cv16:L 16=true→L 15=true
 cv19:L 19=true→L 18=true
 a12:L 12=true→QqT w b W.heap.size 2 u16
 a15:L 15=true→QqT w b W.heap.size 3 u18
 a18:L 18=true→QqT w b W.heap.size 4 u20
 mp:L 1=true→∃ m es c,u8=.map (some m)∧W.heap.size≤m∧w.heap[m]?=some (.map es c)∧Qb3 es (fC b L u16 u18 u20)
 m26:L 26=true→u25=u8∧L 1=true∧L 4=true∧L 7=true∧L 10=true∧L 13=true∧L 16=true∧L 19=true∧L 22=true∧L 25=true
 m27:L 27=true→u26=.pointer (some ⟨b,0,none⟩)
 m28:L 28=true→u27=.pointer (some ⟨b,8,none⟩)
 m29:L 29=true→L 26=true
theorem Qa6{b m:Nat}{W w:World}{o:Obj}(h:Mod b W w)(hm:W.heap.size<=m):Mod b W (QaE w m o):=
 ⟨h.os,h.tape,h.output,by rw[Qjd];exact h.size,fun k hk hn=>by rw[Qan (by omega)];exact h.block k hk hn⟩
section
variable {t:ByteArray} {b:Nat} {W:World} {mv2:Value} {L:Nat→Bool} {u8 u16 u18 u20 u25 u26 u27:Value} {w:World}
theorem QmG(i:Nat)(h:i≠4/\i≠7/\i≠10/\i≠13/\i≠16/\i≠19/\i≠22/\i≠25)(x:L8):fC b (up L i) u16 u18 u20 x=fC b L u16 u18 u20 x:=by
 obtain⟨h0,h1,h2,h3,h4,h5,h6,h7⟩:=h;unfold fC;simp only[Qaf L (Ne.symm h0),Qaf L (Ne.symm h1),Qaf L (Ne.symm h2),Qaf L (Ne.symm h3),Qaf L (Ne.symm h4),Qaf L (Ne.symm h5),Qaf L (Ne.symm h6),Qaf L (Ne.symm h7)]
theorem JC.m26u(J:JC t b W mv2 L u8 u16 u18 u20 u25 u26 u27 w){i:Nat}(h:L 26=true):u25=u8/\up L i 1=true/\up L i 4=true/\up L i 7=true/\up L i 10=true/\up L i 13=true/\up L i 16=true/\up L i 19=true/\up L i 22=true/\up L i 25=true:=by
 obtain⟨e1,e2,e3,e4,e5,e6,e7,e8,e9,aa⟩:=J.m26 h;exact⟨e1,Qaj _ e2,Qaj _ e3,Qaj _ e4,Qaj _ e5,Qaj _ e6,Qaj _ e7,Qaj _ e8,Qaj _ e9,Qaj _ aa⟩
theorem JC.s1(J:JC t b W mv2 L u8 u16 u18 u20 u25 u26 u27 w)(h0:L 1=false):JC t b W mv2 (up L 1) (.map (some w.heap.size)) u16 u18 u20 u25 u26 u27 (w.alloc (Obj.map #[] 0)):=by
 have hk:∀ k cs ty,W.heap.size<=k->w.heap[k]?=some (.cells cs ty)->(w.alloc (Obj.map #[] 0)).heap[k]?=some (.cells cs ty):=fun k cs ty _ h=>Qac h
 have ag:(w.alloc (Obj.map #[] 0)).heap[b]?=some (Qb9 t (if L 29 then u25 else Value.map none) mv2):=Qac J.rd;have n4:L 4=false:=nf J.cm4 h0;have n7:L 7=false:=nf J.cm7 h0;have ab:L 10=false:=nf J.cm10 h0;have ac:L 13=false:=nf J.cm13 h0;have af:L 16=false:=nf J.cm16 h0;have ad:L 19=false:=nf J.cm19 h0;have aa:L 22=false:=nf J.cm22 h0;have ae:L 25=false:=nf J.cm25 h0;exact⟨J.hb,J.mod.trans ((Mod.refl b w).alloc _),by rw[Qaf L (by decide)];exact ag,ui J.cm4,ui J.cm7,ui J.cm10,ui J.cm13,ui J.cm16,ui J.cm19,ui J.cm22,ui J.cm25,ui J.cv13,ui J.cv16,ui J.cv19,fun h=>(J.a12 (ud h)).keep hk,fun h=>(J.a15 (ud h)).keep hk,fun h=>(J.a18 (ud h)).keep hk,fun _=>⟨w.heap.size,#[],0,rfl,J.mod.size,Qam _ _,Qb3.empty.congr (fun x=>by rw[QmG 1 (by decide)];unfold fC;simp only[n4,n7,ab,ac,af,ad,aa,ae];split<;>rfl)⟩,fun h=>absurd (J.m26 (ud h)).2.1 (by rw[h0];decide),fun h=>J.m27 (ud h),fun h=>J.m28 (ud h),ui J.m29⟩
theorem JC.s12(J:JC t b W mv2 L u8 u16 u18 u20 u25 u26 u27 w)(h0:L 12=false):JC t b W mv2 (up L 12) u8 (.func (.func 159) #[] #[.pointer (some ⟨w.heap.size,0,none⟩),.pointer (some ⟨w.heap.size+1,0,none⟩)]) u18 u20 u25 u26 u27 ((w.alloc (.cells #[.pointer (some ⟨b,0,none⟩)] 132)).alloc (.cells #[.int .i64 2] 3)):=by
 have hk:∀ k cs ty,W.heap.size<=k->w.heap[k]?=some (.cells cs ty)->((w.alloc (.cells #[.pointer (some ⟨b,0,none⟩)] 132)).alloc (.cells #[.int .i64 2] 3)).heap[k]?=some (.cells cs ty):=fun k cs ty _ h=>Qac (Qac h)
 have ab:∀(m:Nat) (es:Array MapEntry) (c:Nat),w.heap[m]?=some (Obj.map es c)->((w.alloc (.cells #[.pointer (some ⟨b,0,none⟩)] 132)).alloc (.cells #[.int .i64 2] 3)).heap[m]?=some (Obj.map es c):=fun m es c h=>Qac (Qac h)
 have aa:((w.alloc (.cells #[.pointer (some ⟨b,0,none⟩)] 132)).alloc (.cells #[.int .i64 2] 3)).heap[b]?=some (Qb9 t (if L 29 then u25 else Value.map none) mv2):=Qac (Qac J.rd);have hn:L 13=false:=nf J.cv13 h0;have ac:=J.mod.size;exact⟨J.hb,J.mod.trans (((Mod.refl b w).alloc _).alloc _),by rw[Qaf L (by decide)];exact aa,ui J.cm4,ui J.cm7,ui J.cm10,ui J.cm13,ui J.cm16,ui J.cm19,ui J.cm22,ui J.cm25,ui J.cv13,ui J.cv16,ui J.cv19,fun _=>⟨w.heap.size,w.heap.size+1,rfl,ac,by omega,Qac (Qam _ _),Qaq (by simp)⟩,fun h=>(J.a15 (ud h)).keep hk,fun h=>(J.a18 (ud h)).keep hk,fun h=>by obtain⟨m,es,c,h3,h4,h5,h6⟩:=J.mp (ud h);exact⟨m,es,c,h3,h4,ab m _ _ h5,h6.congr (fun x=>by rw[QmG 12 (by decide)];unfold fC;simp only[hn,Bool.false_eq_true,if_false])⟩,fun h=>J.m26u (ud h),fun h=>J.m27 (ud h),fun h=>J.m28 (ud h),ui J.m29⟩
theorem JC.s15(J:JC t b W mv2 L u8 u16 u18 u20 u25 u26 u27 w)(h0:L 15=false):JC t b W mv2 (up L 15) u8 u16 (.func (.func 159) #[] #[.pointer (some ⟨w.heap.size,0,none⟩),.pointer (some ⟨w.heap.size+1,0,none⟩)]) u20 u25 u26 u27 ((w.alloc (.cells #[.pointer (some ⟨b,0,none⟩)] 132)).alloc (.cells #[.int .i64 3] 3)):=by
 have hk:∀ k cs ty,W.heap.size<=k->w.heap[k]?=some (.cells cs ty)->((w.alloc (.cells #[.pointer (some ⟨b,0,none⟩)] 132)).alloc (.cells #[.int .i64 3] 3)).heap[k]?=some (.cells cs ty):=fun k cs ty _ h=>Qac (Qac h)
 have ab:∀(m:Nat) (es:Array MapEntry) (c:Nat),w.heap[m]?=some (Obj.map es c)->((w.alloc (.cells #[.pointer (some ⟨b,0,none⟩)] 132)).alloc (.cells #[.int .i64 3] 3)).heap[m]?=some (Obj.map es c):=fun m es c h=>Qac (Qac h)
 have aa:((w.alloc (.cells #[.pointer (some ⟨b,0,none⟩)] 132)).alloc (.cells #[.int .i64 3] 3)).heap[b]?=some (Qb9 t (if L 29 then u25 else Value.map none) mv2):=Qac (Qac J.rd);have hn:L 16=false:=nf J.cv16 h0;have ac:=J.mod.size;exact⟨J.hb,J.mod.trans (((Mod.refl b w).alloc _).alloc _),by rw[Qaf L (by decide)];exact aa,ui J.cm4,ui J.cm7,ui J.cm10,ui J.cm13,ui J.cm16,ui J.cm19,ui J.cm22,ui J.cm25,ui J.cv13,ui J.cv16,ui J.cv19,fun h=>(J.a12 (ud h)).keep hk,fun _=>⟨w.heap.size,w.heap.size+1,rfl,ac,by omega,Qac (Qam _ _),Qaq (by simp)⟩,fun h=>(J.a18 (ud h)).keep hk,fun h=>by obtain⟨m,es,c,h3,h4,h5,h6⟩:=J.mp (ud h);exact⟨m,es,c,h3,h4,ab m _ _ h5,h6.congr (fun x=>by rw[QmG 15 (by decide)];unfold fC;simp only[hn,Bool.false_eq_true,if_false])⟩,fun h=>J.m26u (ud h),fun h=>J.m27 (ud h),fun h=>J.m28 (ud h),ui J.m29⟩
theorem JC.s18(J:JC t b W mv2 L u8 u16 u18 u20 u25 u26 u27 w)(h0:L 18=false):JC t b W mv2 (up L 18) u8 u16 u18 (.func (.func 159) #[] #[.pointer (some ⟨w.heap.size,0,none⟩),.pointer (some ⟨w.heap.size+1,0,none⟩)]) u25 u26 u27 ((w.alloc (.cells #[.pointer (some ⟨b,0,none⟩)] 132)).alloc (.cells #[.int .i64 4] 3)):=by
 have hk:∀ k cs ty,W.heap.size<=k->w.heap[k]?=some (.cells cs ty)->((w.alloc (.cells #[.pointer (some ⟨b,0,none⟩)] 132)).alloc (.cells #[.int .i64 4] 3)).heap[k]?=some (.cells cs ty):=fun k cs ty _ h=>Qac (Qac h)
 have ab:∀(m:Nat) (es:Array MapEntry) (c:Nat),w.heap[m]?=some (Obj.map es c)->((w.alloc (.cells #[.pointer (some ⟨b,0,none⟩)] 132)).alloc (.cells #[.int .i64 4] 3)).heap[m]?=some (Obj.map es c):=fun m es c h=>Qac (Qac h)
 have aa:((w.alloc (.cells #[.pointer (some ⟨b,0,none⟩)] 132)).alloc (.cells #[.int .i64 4] 3)).heap[b]?=some (Qb9 t (if L 29 then u25 else Value.map none) mv2):=Qac (Qac J.rd);have hn:L 19=false:=nf J.cv19 h0;have ac:=J.mod.size;exact⟨J.hb,J.mod.trans (((Mod.refl b w).alloc _).alloc _),by rw[Qaf L (by decide)];exact aa,ui J.cm4,ui J.cm7,ui J.cm10,ui J.cm13,ui J.cm16,ui J.cm19,ui J.cm22,ui J.cm25,ui J.cv13,ui J.cv16,ui J.cv19,fun h=>(J.a12 (ud h)).keep hk,fun h=>(J.a15 (ud h)).keep hk,fun _=>⟨w.heap.size,w.heap.size+1,rfl,ac,by omega,Qac (Qam _ _),Qaq (by simp)⟩,fun h=>by obtain⟨m,es,c,h3,h4,h5,h6⟩:=J.mp (ud h);exact⟨m,es,c,h3,h4,ab m _ _ h5,h6.congr (fun x=>by rw[QmG 18 (by decide)];unfold fC;simp only[hn,Bool.false_eq_true,if_false])⟩,fun h=>J.m26u (ud h),fun h=>J.m27 (ud h),fun h=>J.m28 (ud h),ui J.m29⟩
theorem JC.s4(J:JC t b W mv2 L u8 u16 u18 u20 u25 u26 u27 w)(h0:L 4=false)(h1:L 1=true):∃ m es c,u8=.map (some m)/\w.heap[m]?=some (.map es c)/\Qb3 es (fC b L u16 u18 u20)/\fC b L u16 u18 u20 QfJ=none/\JC t b W mv2 (up L 4) u8 u16 u18 u20 u25 u26 u27 (QaE w m (.map (es.push ⟨.string (sA QfJ),.func (.func 101) #[.pointer (some ⟨b,0,none⟩)] #[],c⟩) (c+1))):=by
 obtain⟨m,es,c,h3,h4,h5,h6⟩:=J.mp h1;have hn:fC b L u16 u18 u20 QfJ=none:=by unfold fC;rw[show wL cNs QfJ=1 from by decide];simp only[h0];rfl
 have hx:fC b (up L 4) u16 u18 u20 QfJ=some (.func (.func 101) #[.pointer (some ⟨b,0,none⟩)] #[]):=by unfold fC;rw[show wL cNs QfJ=1 from by decide];simp only[Qbr];rfl
 have hg:∀ z,z≠QfJ->fC b (up L 4) u16 u18 u20 z=fC b L u16 u18 u20 z:=fun z hz=>by
  have hw:wL cNs z≠1:=fun e=>hz (by have:=Qaw cNs z 0 e;simpa[cNs]using this.symm)
  unfold fC;split<;>first|(rename_i e;exact absurd e hw)|simp only[Qaf L (by decide)]|rfl
 have aa:m≠b:=by have:=J.hb;omega
 have hk:∀ k cs ty,W.heap.size<=k->w.heap[k]?=some (.cells cs ty)->(QaE w m (.map (es.push ⟨.string (sA QfJ),.func (.func 101) #[.pointer (some ⟨b,0,none⟩)] #[],c⟩) (c+1))).heap[k]?=some (.cells cs ty):=fun k cs ty _ h=>by
  rw[Qan (fun e=>by rw[e,h5]at h;cases h)];exact h
 have ab:(QaE w m (.map (es.push ⟨.string (sA QfJ),.func (.func 101) #[.pointer (some ⟨b,0,none⟩)] #[],c⟩) (c+1))).heap[b]?=some (Qb9 t (if L 29 then u25 else Value.map none) mv2):=by rw[Qan (Ne.symm aa)];exact J.rd
 refine⟨m,es,c,h3,h5,h6,hn,?_⟩;exact⟨J.hb,Qa6 J.mod h4,by rw[Qaf L (by decide)];exact ab,fun _=>Qaj _ h1,ui J.cm7,ui J.cm10,ui J.cm13,ui J.cm16,ui J.cm19,ui J.cm22,ui J.cm25,ui J.cv13,ui J.cv16,ui J.cv19,fun h=>(J.a12 (ud h)).keep hk,fun h=>(J.a15 (ud h)).keep hk,fun h=>(J.a18 (ud h)).keep hk,fun _=>⟨m,_,_,h3,h4,QaS h5,h6.push hn hx hg⟩,fun h=>J.m26u (ud h),fun h=>J.m27 (ud h),fun h=>J.m28 (ud h),ui J.m29⟩
theorem JC.s7(J:JC t b W mv2 L u8 u16 u18 u20 u25 u26 u27 w)(h0:L 7=false)(h1:L 1=true):∃ m es c,u8=.map (some m)/\w.heap[m]?=some (.map es c)/\Qb3 es (fC b L u16 u18 u20)/\fC b L u16 u18 u20 QbV=none/\JC t b W mv2 (up L 7) u8 u16 u18 u20 u25 u26 u27 (QaE w m (.map (es.push ⟨.string (sA QbV),.func (.func 102) #[.pointer (some ⟨b,0,none⟩)] #[],c⟩) (c+1))):=by
 obtain⟨m,es,c,h3,h4,h5,h6⟩:=J.mp h1;have hn:fC b L u16 u18 u20 QbV=none:=by unfold fC;rw[show wL cNs QbV=2 from by decide];simp only[h0];rfl
 have hx:fC b (up L 7) u16 u18 u20 QbV=some (.func (.func 102) #[.pointer (some ⟨b,0,none⟩)] #[]):=by unfold fC;rw[show wL cNs QbV=2 from by decide];simp only[Qbr];rfl
 have hg:∀ z,z≠QbV->fC b (up L 7) u16 u18 u20 z=fC b L u16 u18 u20 z:=fun z hz=>by
  have hw:wL cNs z≠2:=fun e=>hz (by have:=Qaw cNs z 1 e;simpa[cNs]using this.symm)
  unfold fC;split<;>first|(rename_i e;exact absurd e hw)|simp only[Qaf L (by decide)]|rfl
 have aa:m≠b:=by have:=J.hb;omega
 have hk:∀ k cs ty,W.heap.size<=k->w.heap[k]?=some (.cells cs ty)->(QaE w m (.map (es.push ⟨.string (sA QbV),.func (.func 102) #[.pointer (some ⟨b,0,none⟩)] #[],c⟩) (c+1))).heap[k]?=some (.cells cs ty):=fun k cs ty _ h=>by
  rw[Qan (fun e=>by rw[e,h5]at h;cases h)];exact h
 have ab:(QaE w m (.map (es.push ⟨.string (sA QbV),.func (.func 102) #[.pointer (some ⟨b,0,none⟩)] #[],c⟩) (c+1))).heap[b]?=some (Qb9 t (if L 29 then u25 else Value.map none) mv2):=by rw[Qan (Ne.symm aa)];exact J.rd
 refine⟨m,es,c,h3,h5,h6,hn,?_⟩;exact⟨J.hb,Qa6 J.mod h4,by rw[Qaf L (by decide)];exact ab,ui J.cm4,fun _=>Qaj _ h1,ui J.cm10,ui J.cm13,ui J.cm16,ui J.cm19,ui J.cm22,ui J.cm25,ui J.cv13,ui J.cv16,ui J.cv19,fun h=>(J.a12 (ud h)).keep hk,fun h=>(J.a15 (ud h)).keep hk,fun h=>(J.a18 (ud h)).keep hk,fun _=>⟨m,_,_,h3,h4,QaS h5,h6.push hn hx hg⟩,fun h=>J.m26u (ud h),fun h=>J.m27 (ud h),fun h=>J.m28 (ud h),ui J.m29⟩
theorem JC.s10(J:JC t b W mv2 L u8 u16 u18 u20 u25 u26 u27 w)(h0:L 10=false)(h1:L 1=true):∃ m es c,u8=.map (some m)/\w.heap[m]?=some (.map es c)/\Qb3 es (fC b L u16 u18 u20)/\fC b L u16 u18 u20 QfP=none/\JC t b W mv2 (up L 10) u8 u16 u18 u20 u25 u26 u27 (QaE w m (.map (es.push ⟨.string (sA QfP),.func (.func 103) #[.pointer (some ⟨b,0,none⟩)] #[],c⟩) (c+1))):=by
 obtain⟨m,es,c,h3,h4,h5,h6⟩:=J.mp h1;have hn:fC b L u16 u18 u20 QfP=none:=by unfold fC;rw[show wL cNs QfP=3 from by decide];simp only[h0];rfl
 have hx:fC b (up L 10) u16 u18 u20 QfP=some (.func (.func 103) #[.pointer (some ⟨b,0,none⟩)] #[]):=by unfold fC;rw[show wL cNs QfP=3 from by decide];simp only[Qbr];rfl
 have hg:∀ z,z≠QfP->fC b (up L 10) u16 u18 u20 z=fC b L u16 u18 u20 z:=fun z hz=>by
  have hw:wL cNs z≠3:=fun e=>hz (by have:=Qaw cNs z 2 e;simpa[cNs]using this.symm)
  unfold fC;split<;>first|(rename_i e;exact absurd e hw)|simp only[Qaf L (by decide)]|rfl
 have aa:m≠b:=by have:=J.hb;omega
 have hk:∀ k cs ty,W.heap.size<=k->w.heap[k]?=some (.cells cs ty)->(QaE w m (.map (es.push ⟨.string (sA QfP),.func (.func 103) #[.pointer (some ⟨b,0,none⟩)] #[],c⟩) (c+1))).heap[k]?=some (.cells cs ty):=fun k cs ty _ h=>by
  rw[Qan (fun e=>by rw[e,h5]at h;cases h)];exact h
 have ab:(QaE w m (.map (es.push ⟨.string (sA QfP),.func (.func 103) #[.pointer (some ⟨b,0,none⟩)] #[],c⟩) (c+1))).heap[b]?=some (Qb9 t (if L 29 then u25 else Value.map none) mv2):=by rw[Qan (Ne.symm aa)];exact J.rd
 refine⟨m,es,c,h3,h5,h6,hn,?_⟩;exact⟨J.hb,Qa6 J.mod h4,by rw[Qaf L (by decide)];exact ab,ui J.cm4,ui J.cm7,fun _=>Qaj _ h1,ui J.cm13,ui J.cm16,ui J.cm19,ui J.cm22,ui J.cm25,ui J.cv13,ui J.cv16,ui J.cv19,fun h=>(J.a12 (ud h)).keep hk,fun h=>(J.a15 (ud h)).keep hk,fun h=>(J.a18 (ud h)).keep hk,fun _=>⟨m,_,_,h3,h4,QaS h5,h6.push hn hx hg⟩,fun h=>J.m26u (ud h),fun h=>J.m27 (ud h),fun h=>J.m28 (ud h),ui J.m29⟩
theorem JC.s13(J:JC t b W mv2 L u8 u16 u18 u20 u25 u26 u27 w)(h0:L 13=false)(h1:L 1=true)(h2:L 12=true):∃ m es c,u8=.map (some m)/\w.heap[m]?=some (.map es c)/\Qb3 es (fC b L u16 u18 u20)/\fC b L u16 u18 u20 QaN=none/\JC t b W mv2 (up L 13) u8 u16 u18 u20 u25 u26 u27 (QaE w m (.map (es.push ⟨.string (sA QaN),u16,c⟩) (c+1))):=by
 obtain⟨m,es,c,h3,h4,h5,h6⟩:=J.mp h1;have hn:fC b L u16 u18 u20 QaN=none:=by unfold fC;rw[show wL cNs QaN=4 from by decide];simp only[h0];rfl
 have hx:fC b (up L 13) u16 u18 u20 QaN=some (u16):=by unfold fC;rw[show wL cNs QaN=4 from by decide];simp only[Qbr];rfl
 have hg:∀ z,z≠QaN->fC b (up L 13) u16 u18 u20 z=fC b L u16 u18 u20 z:=fun z hz=>by
  have hw:wL cNs z≠4:=fun e=>hz (by have:=Qaw cNs z 3 e;simpa[cNs]using this.symm)
  unfold fC;split<;>first|(rename_i e;exact absurd e hw)|simp only[Qaf L (by decide)]|rfl
 have aa:m≠b:=by have:=J.hb;omega
 have hk:∀ k cs ty,W.heap.size<=k->w.heap[k]?=some (.cells cs ty)->(QaE w m (.map (es.push ⟨.string (sA QaN),u16,c⟩) (c+1))).heap[k]?=some (.cells cs ty):=fun k cs ty _ h=>by
  rw[Qan (fun e=>by rw[e,h5]at h;cases h)];exact h
 have ab:(QaE w m (.map (es.push ⟨.string (sA QaN),u16,c⟩) (c+1))).heap[b]?=some (Qb9 t (if L 29 then u25 else Value.map none) mv2):=by rw[Qan (Ne.symm aa)];exact J.rd
 refine⟨m,es,c,h3,h5,h6,hn,?_⟩;exact⟨J.hb,Qa6 J.mod h4,by rw[Qaf L (by decide)];exact ab,ui J.cm4,ui J.cm7,ui J.cm10,fun _=>Qaj _ h1,ui J.cm16,ui J.cm19,ui J.cm22,ui J.cm25,fun _=>Qaj _ h2,ui J.cv16,ui J.cv19,fun h=>(J.a12 (ud h)).keep hk,fun h=>(J.a15 (ud h)).keep hk,fun h=>(J.a18 (ud h)).keep hk,fun _=>⟨m,_,_,h3,h4,QaS h5,h6.push hn hx hg⟩,fun h=>J.m26u (ud h),fun h=>J.m27 (ud h),fun h=>J.m28 (ud h),ui J.m29⟩
theorem JC.s16(J:JC t b W mv2 L u8 u16 u18 u20 u25 u26 u27 w)(h0:L 16=false)(h1:L 1=true)(h2:L 15=true):∃ m es c,u8=.map (some m)/\w.heap[m]?=some (.map es c)/\Qb3 es (fC b L u16 u18 u20)/\fC b L u16 u18 u20 Qbc=none/\JC t b W mv2 (up L 16) u8 u16 u18 u20 u25 u26 u27 (QaE w m (.map (es.push ⟨.string (sA Qbc),u18,c⟩) (c+1))):=by
 obtain⟨m,es,c,h3,h4,h5,h6⟩:=J.mp h1;have hn:fC b L u16 u18 u20 Qbc=none:=by unfold fC;rw[show wL cNs Qbc=5 from by decide];simp only[h0];rfl
 have hx:fC b (up L 16) u16 u18 u20 Qbc=some (u18):=by unfold fC;rw[show wL cNs Qbc=5 from by decide];simp only[Qbr];rfl
 have hg:∀ z,z≠Qbc->fC b (up L 16) u16 u18 u20 z=fC b L u16 u18 u20 z:=fun z hz=>by
  have hw:wL cNs z≠5:=fun e=>hz (by have:=Qaw cNs z 4 e;simpa[cNs]using this.symm)
  unfold fC;split<;>first|(rename_i e;exact absurd e hw)|simp only[Qaf L (by decide)]|rfl
 have aa:m≠b:=by have:=J.hb;omega
 have hk:∀ k cs ty,W.heap.size<=k->w.heap[k]?=some (.cells cs ty)->(QaE w m (.map (es.push ⟨.string (sA Qbc),u18,c⟩) (c+1))).heap[k]?=some (.cells cs ty):=fun k cs ty _ h=>by
  rw[Qan (fun e=>by rw[e,h5]at h;cases h)];exact h
 have ab:(QaE w m (.map (es.push ⟨.string (sA Qbc),u18,c⟩) (c+1))).heap[b]?=some (Qb9 t (if L 29 then u25 else Value.map none) mv2):=by rw[Qan (Ne.symm aa)];exact J.rd
 refine⟨m,es,c,h3,h5,h6,hn,?_⟩;exact⟨J.hb,Qa6 J.mod h4,by rw[Qaf L (by decide)];exact ab,ui J.cm4,ui J.cm7,ui J.cm10,ui J.cm13,fun _=>Qaj _ h1,ui J.cm19,ui J.cm22,ui J.cm25,ui J.cv13,fun _=>Qaj _ h2,ui J.cv19,fun h=>(J.a12 (ud h)).keep hk,fun h=>(J.a15 (ud h)).keep hk,fun h=>(J.a18 (ud h)).keep hk,fun _=>⟨m,_,_,h3,h4,QaS h5,h6.push hn hx hg⟩,fun h=>J.m26u (ud h),fun h=>J.m27 (ud h),fun h=>J.m28 (ud h),ui J.m29⟩
theorem JC.s19(J:JC t b W mv2 L u8 u16 u18 u20 u25 u26 u27 w)(h0:L 19=false)(h1:L 1=true)(h2:L 18=true):∃ m es c,u8=.map (some m)/\w.heap[m]?=some (.map es c)/\Qb3 es (fC b L u16 u18 u20)/\fC b L u16 u18 u20 Qa5=none/\JC t b W mv2 (up L 19) u8 u16 u18 u20 u25 u26 u27 (QaE w m (.map (es.push ⟨.string (sA Qa5),u20,c⟩) (c+1))):=by
 obtain⟨m,es,c,h3,h4,h5,h6⟩:=J.mp h1;have hn:fC b L u16 u18 u20 Qa5=none:=by unfold fC;rw[show wL cNs Qa5=6 from by decide];simp only[h0];rfl
 have hx:fC b (up L 19) u16 u18 u20 Qa5=some (u20):=by unfold fC;rw[show wL cNs Qa5=6 from by decide];simp only[Qbr];rfl
 have hg:∀ z,z≠Qa5->fC b (up L 19) u16 u18 u20 z=fC b L u16 u18 u20 z:=fun z hz=>by
  have hw:wL cNs z≠6:=fun e=>hz (by have:=Qaw cNs z 5 e;simpa[cNs]using this.symm)
  unfold fC;split<;>first|(rename_i e;exact absurd e hw)|simp only[Qaf L (by decide)]|rfl
 have aa:m≠b:=by have:=J.hb;omega
 have hk:∀ k cs ty,W.heap.size<=k->w.heap[k]?=some (.cells cs ty)->(QaE w m (.map (es.push ⟨.string (sA Qa5),u20,c⟩) (c+1))).heap[k]?=some (.cells cs ty):=fun k cs ty _ h=>by
  rw[Qan (fun e=>by rw[e,h5]at h;cases h)];exact h
 have ab:(QaE w m (.map (es.push ⟨.string (sA Qa5),u20,c⟩) (c+1))).heap[b]?=some (Qb9 t (if L 29 then u25 else Value.map none) mv2):=by rw[Qan (Ne.symm aa)];exact J.rd
 refine⟨m,es,c,h3,h5,h6,hn,?_⟩;exact⟨J.hb,Qa6 J.mod h4,by rw[Qaf L (by decide)];exact ab,ui J.cm4,ui J.cm7,ui J.cm10,ui J.cm13,ui J.cm16,fun _=>Qaj _ h1,ui J.cm22,ui J.cm25,ui J.cv13,ui J.cv16,fun _=>Qaj _ h2,fun h=>(J.a12 (ud h)).keep hk,fun h=>(J.a15 (ud h)).keep hk,fun h=>(J.a18 (ud h)).keep hk,fun _=>⟨m,_,_,h3,h4,QaS h5,h6.push hn hx hg⟩,fun h=>J.m26u (ud h),fun h=>J.m27 (ud h),fun h=>J.m28 (ud h),ui J.m29⟩
theorem JC.s22(J:JC t b W mv2 L u8 u16 u18 u20 u25 u26 u27 w)(h0:L 22=false)(h1:L 1=true):∃ m es c,u8=.map (some m)/\w.heap[m]?=some (.map es c)/\Qb3 es (fC b L u16 u18 u20)/\fC b L u16 u18 u20 QhO=none/\JC t b W mv2 (up L 22) u8 u16 u18 u20 u25 u26 u27 (QaE w m (.map (es.push ⟨.string (sA QhO),.func (.func 105) #[.pointer (some ⟨b,0,none⟩)] #[],c⟩) (c+1))):=by
 obtain⟨m,es,c,h3,h4,h5,h6⟩:=J.mp h1;have hn:fC b L u16 u18 u20 QhO=none:=by unfold fC;rw[show wL cNs QhO=7 from by decide];simp only[h0];rfl
 have hx:fC b (up L 22) u16 u18 u20 QhO=some (.func (.func 105) #[.pointer (some ⟨b,0,none⟩)] #[]):=by unfold fC;rw[show wL cNs QhO=7 from by decide];simp only[Qbr];rfl
 have hg:∀ z,z≠QhO->fC b (up L 22) u16 u18 u20 z=fC b L u16 u18 u20 z:=fun z hz=>by
  have hw:wL cNs z≠7:=fun e=>hz (by have:=Qaw cNs z 6 e;simpa[cNs]using this.symm)
  unfold fC;split<;>first|(rename_i e;exact absurd e hw)|simp only[Qaf L (by decide)]|rfl
 have aa:m≠b:=by have:=J.hb;omega
 have hk:∀ k cs ty,W.heap.size<=k->w.heap[k]?=some (.cells cs ty)->(QaE w m (.map (es.push ⟨.string (sA QhO),.func (.func 105) #[.pointer (some ⟨b,0,none⟩)] #[],c⟩) (c+1))).heap[k]?=some (.cells cs ty):=fun k cs ty _ h=>by
  rw[Qan (fun e=>by rw[e,h5]at h;cases h)];exact h
 have ab:(QaE w m (.map (es.push ⟨.string (sA QhO),.func (.func 105) #[.pointer (some ⟨b,0,none⟩)] #[],c⟩) (c+1))).heap[b]?=some (Qb9 t (if L 29 then u25 else Value.map none) mv2):=by rw[Qan (Ne.symm aa)];exact J.rd
 refine⟨m,es,c,h3,h5,h6,hn,?_⟩;exact⟨J.hb,Qa6 J.mod h4,by rw[Qaf L (by decide)];exact ab,ui J.cm4,ui J.cm7,ui J.cm10,ui J.cm13,ui J.cm16,ui J.cm19,fun _=>Qaj _ h1,ui J.cm25,ui J.cv13,ui J.cv16,ui J.cv19,fun h=>(J.a12 (ud h)).keep hk,fun h=>(J.a15 (ud h)).keep hk,fun h=>(J.a18 (ud h)).keep hk,fun _=>⟨m,_,_,h3,h4,QaS h5,h6.push hn hx hg⟩,fun h=>J.m26u (ud h),fun h=>J.m27 (ud h),fun h=>J.m28 (ud h),ui J.m29⟩
theorem JC.s25(J:JC t b W mv2 L u8 u16 u18 u20 u25 u26 u27 w)(h0:L 25=false)(h1:L 1=true):∃ m es c,u8=.map (some m)/\w.heap[m]?=some (.map es c)/\Qb3 es (fC b L u16 u18 u20)/\fC b L u16 u18 u20 kIf=none/\JC t b W mv2 (up L 25) u8 u16 u18 u20 u25 u26 u27 (QaE w m (.map (es.push ⟨.string (sA kIf),.func (.func 106) #[.pointer (some ⟨b,0,none⟩)] #[],c⟩) (c+1))):=by
 obtain⟨m,es,c,h3,h4,h5,h6⟩:=J.mp h1;have hn:fC b L u16 u18 u20 kIf=none:=by unfold fC;rw[show wL cNs kIf=8 from by decide];simp only[h0];rfl
 have hx:fC b (up L 25) u16 u18 u20 kIf=some (.func (.func 106) #[.pointer (some ⟨b,0,none⟩)] #[]):=by unfold fC;rw[show wL cNs kIf=8 from by decide];simp only[Qbr];rfl
 have hg:∀ z,z≠kIf->fC b (up L 25) u16 u18 u20 z=fC b L u16 u18 u20 z:=fun z hz=>by
  have hw:wL cNs z≠8:=fun e=>hz (by have:=Qaw cNs z 7 e;simpa[cNs]using this.symm)
  unfold fC;split<;>first|(rename_i e;exact absurd e hw)|simp only[Qaf L (by decide)]|rfl
 have aa:m≠b:=by have:=J.hb;omega
 have hk:∀ k cs ty,W.heap.size<=k->w.heap[k]?=some (.cells cs ty)->(QaE w m (.map (es.push ⟨.string (sA kIf),.func (.func 106) #[.pointer (some ⟨b,0,none⟩)] #[],c⟩) (c+1))).heap[k]?=some (.cells cs ty):=fun k cs ty _ h=>by
  rw[Qan (fun e=>by rw[e,h5]at h;cases h)];exact h
 have ab:(QaE w m (.map (es.push ⟨.string (sA kIf),.func (.func 106) #[.pointer (some ⟨b,0,none⟩)] #[],c⟩) (c+1))).heap[b]?=some (Qb9 t (if L 29 then u25 else Value.map none) mv2):=by rw[Qan (Ne.symm aa)];exact J.rd
 refine⟨m,es,c,h3,h5,h6,hn,?_⟩;exact⟨J.hb,Qa6 J.mod h4,by rw[Qaf L (by decide)];exact ab,ui J.cm4,ui J.cm7,ui J.cm10,ui J.cm13,ui J.cm16,ui J.cm19,ui J.cm22,fun _=>Qaj _ h1,ui J.cv13,ui J.cv16,ui J.cv19,fun h=>(J.a12 (ud h)).keep hk,fun h=>(J.a15 (ud h)).keep hk,fun h=>(J.a18 (ud h)).keep hk,fun _=>⟨m,_,_,h3,h4,QaS h5,h6.push hn hx hg⟩,fun h=>J.m26u (ud h),fun h=>J.m27 (ud h),fun h=>J.m28 (ud h),ui J.m29⟩
theorem JC.s26(J:JC t b W mv2 L u8 u16 u18 u20 u25 u26 u27 w)(h0:L 26=false)(h1:L 1=true)(ah:L 4=true)(ai:L 7=true)(aa:L 10=true)(ab:L 13=true)(ac:L 16=true)(ae:L 19=true)(ad:L 22=true)(af:L 25=true):JC t b W mv2 (up L 26) u8 u16 u18 u20 u8 u26 u27 w:=by
 have ag:L 29=false:=nf J.m29 h0;have hk:∀ k cs ty,W.heap.size<=k->w.heap[k]?=some (.cells cs ty)->w.heap[k]?=some (.cells cs ty):=fun k cs ty _ h=>h
 have aj:∀(m:Nat) (es:Array MapEntry) (c:Nat),w.heap[m]?=some (Obj.map es c)->w.heap[m]?=some (Obj.map es c):=fun m es c h=>h
 exact⟨J.hb,J.mod.trans (Mod.refl b w),by have:=J.rd;rw[ag]at this;rw[Qaf L (by decide),ag];exact this,ui J.cm4,ui J.cm7,ui J.cm10,ui J.cm13,ui J.cm16,ui J.cm19,ui J.cm22,ui J.cm25,ui J.cv13,ui J.cv16,ui J.cv19,fun h=>(J.a12 (ud h)).keep hk,fun h=>(J.a15 (ud h)).keep hk,fun h=>(J.a18 (ud h)).keep hk,fun h=>by obtain⟨m,es,c,h3,h4,h5,h6⟩:=J.mp (ud h);exact⟨m,es,c,h3,h4,aj m _ _ h5,h6.congr (fun x=>(QmG 26 (by decide) x).symm)⟩,fun _=>⟨rfl,Qaj _ h1,Qaj _ ah,Qaj _ ai,Qaj _ aa,Qaj _ ab,Qaj _ ac,Qaj _ ae,Qaj _ ad,Qaj _ af⟩,fun h=>J.m27 (ud h),fun h=>J.m28 (ud h),ui J.m29⟩
theorem JC.s27(J:JC t b W mv2 L u8 u16 u18 u20 u25 u26 u27 w)(h0:L 27=false):JC t b W mv2 (up L 27) u8 u16 u18 u20 u25 (.pointer (some ⟨b,0,none⟩)) u27 w:=by
 have hk:∀ k cs ty,W.heap.size<=k->w.heap[k]?=some (.cells cs ty)->w.heap[k]?=some (.cells cs ty):=fun k cs ty _ h=>h
 have aa:∀(m:Nat) (es:Array MapEntry) (c:Nat),w.heap[m]?=some (Obj.map es c)->w.heap[m]?=some (Obj.map es c):=fun m es c h=>h
 exact⟨J.hb,J.mod.trans (Mod.refl b w),by rw[Qaf L (by decide)];exact J.rd,ui J.cm4,ui J.cm7,ui J.cm10,ui J.cm13,ui J.cm16,ui J.cm19,ui J.cm22,ui J.cm25,ui J.cv13,ui J.cv16,ui J.cv19,fun h=>(J.a12 (ud h)).keep hk,fun h=>(J.a15 (ud h)).keep hk,fun h=>(J.a18 (ud h)).keep hk,fun h=>by obtain⟨m,es,c,h3,h4,h5,h6⟩:=J.mp (ud h);exact⟨m,es,c,h3,h4,aa m _ _ h5,h6.congr (fun x=>(QmG 27 (by decide) x).symm)⟩,fun h=>J.m26u (ud h),fun _=>rfl,fun h=>J.m28 (ud h),ui J.m29⟩
theorem JC.s28(J:JC t b W mv2 L u8 u16 u18 u20 u25 u26 u27 w)(h0:L 28=false):JC t b W mv2 (up L 28) u8 u16 u18 u20 u25 u26 (.pointer (some ⟨b,8,none⟩)) w:=by
 have hk:∀ k cs ty,W.heap.size<=k->w.heap[k]?=some (.cells cs ty)->w.heap[k]?=some (.cells cs ty):=fun k cs ty _ h=>h
 have aa:∀(m:Nat) (es:Array MapEntry) (c:Nat),w.heap[m]?=some (Obj.map es c)->w.heap[m]?=some (Obj.map es c):=fun m es c h=>h
 exact⟨J.hb,J.mod.trans (Mod.refl b w),by rw[Qaf L (by decide)];exact J.rd,ui J.cm4,ui J.cm7,ui J.cm10,ui J.cm13,ui J.cm16,ui J.cm19,ui J.cm22,ui J.cm25,ui J.cv13,ui J.cv16,ui J.cv19,fun h=>(J.a12 (ud h)).keep hk,fun h=>(J.a15 (ud h)).keep hk,fun h=>(J.a18 (ud h)).keep hk,fun h=>by obtain⟨m,es,c,h3,h4,h5,h6⟩:=J.mp (ud h);exact⟨m,es,c,h3,h4,aa m _ _ h5,h6.congr (fun x=>(QmG 28 (by decide) x).symm)⟩,fun h=>J.m26u (ud h),fun h=>J.m27 (ud h),fun _=>rfl,ui J.m29⟩
theorem JC.s29(J:JC t b W mv2 L u8 u16 u18 u20 u25 u26 u27 w)(h0:L 29=false)(ab:L 26=true):JC t b W mv2 (up L 29) u8 u16 u18 u20 u25 u26 u27 (w.setCell ⟨b,8,none⟩ u25):=by
 have hb:=J.hb;have hk:∀ k cs ty,W.heap.size<=k->w.heap[k]?=some (.cells cs ty)->(w.setCell ⟨b,8,none⟩ u25).heap[k]?=some (.cells cs ty):=fun k cs ty hk h=>by rw[Below.heap_setCell _ _ _ _ (show k≠b by omega)];exact h
 have aa:∀(m:Nat) (es:Array MapEntry) (c:Nat),w.heap[m]?=some (Obj.map es c)->(w.setCell ⟨b,8,none⟩ u25).heap[m]?=some (Obj.map es c):=fun m es c h=>by
  have hr:=J.rd;rw[Below.heap_setCell _ _ _ _ (show m≠b from fun e=>by rw[e,hr]at h;cases h)];exact h
 exact⟨J.hb,J.mod.setCell 8 u25,by rw[Qbr];exact Qag _ _ _ _ _ _ J.rd,ui J.cm4,ui J.cm7,ui J.cm10,ui J.cm13,ui J.cm16,ui J.cm19,ui J.cm22,ui J.cm25,ui J.cv13,ui J.cv16,ui J.cv19,fun h=>(J.a12 (ud h)).keep hk,fun h=>(J.a15 (ud h)).keep hk,fun h=>(J.a18 (ud h)).keep hk,fun h=>by obtain⟨m,es,c,h3,h4,h5,h6⟩:=J.mp (ud h);exact⟨m,es,c,h3,h4,aa m _ _ h5,h6.congr (fun x=>(QmG 29 (by decide) x).symm)⟩,fun h=>J.m26u (ud h),fun h=>J.m27 (ud h),fun h=>J.m28 (ud h),fun _=>Qaj _ ab⟩
theorem JC.done(J:JC t b W mv2 L u8 u16 u18 u20 u25 u26 u27 w)(aa:∀ i,i<30->L i=true):∃ m p1 k1 p2 k2 p3 k3,w.heap[b]?=some (Qb9 t (.map (some m)) mv2)/\QrT w b m p1 k1 p2 k2 p3 k3/\Mod b W w/\W.heap.size<=m:=by
 obtain⟨m,es,c,h3,h4,h5,h6⟩:=J.mp (aa 1 (by decide));obtain⟨p1,k1,e1,hp1,hk1,ab,ad⟩:=J.a12 (aa 12 (by decide));obtain⟨p2,k2,e2,hp2,hk2,af,ag⟩:=J.a15 (aa 15 (by decide));obtain⟨p3,k3,e3,hp3,hk3,ae,ac⟩:=J.a18 (aa 18 (by decide));have hb:=J.hb;have hr:=J.rd;rw[aa 29 (by decide),if_pos rfl,(J.m26 (aa 26 (by decide))).1,h3]at hr
 have hf:Qb3 es (cmdFn b p1 k1 p2 k2 p3 k3):=h6.congr (fun x=>by
  subst e1 e2 e3;unfold fC cmdFn;simp only[aa 4 (by decide),aa 7 (by decide),aa 10 (by decide),aa 13 (by decide),aa 16 (by decide),aa 19 (by decide),aa 22 (by decide),aa 25 (by decide),if_true]
  all_goals (
   generalize wL cNs x=i
   match i with
   |0|1|2|3|4|5|6|7|8=>rfl
   | n+9=>rfl))
 exact⟨m,p1,k1,p2,k2,p3,k3,hr,⟨Qnh (K:=9) (E:=195) underlying191 underlying9 Qwq h5 hf,⟨Qaa ab 0,by omega⟩,Qaa ad 0,⟨Qaa af 0,by omega⟩,Qaa ag 0,⟨Qaa ae 0,by omega⟩,Qaa ac 0,by omega,by omega,by omega,by omega,Qar h5⟩,J.mod,h4⟩
end
theorem Qfm{P:Program}{md:Region.Mode}{ac:Array Oper}{Q:Exit->Act->World->Prop}{S:World->Prop}(J:Array Bool->Act->World->Prop)
 (ae:∀ l a w,J l a w->l.size=ac.size) (hS:∀ l a w,J l a w->S w)
 (ab:∀ l a w i,J l a w->i∈Region.ready md ac l->wpOp P ac Q i (fun a' w'=>J (l.setIfInBounds i true) a' w') a w)
 (aa:∀ l a w,J l a w->Region.ready md ac l=[]->Q .normal a w) :
 ∀(fuel:Nat) (l:Array Bool) (a:Act) (w:World),l.toList.count false<=fuel->J l a w->wpAnyH P md ac Q S fuel l a w
 |0,l,a,w,hf,hJ=>by
  have hr:Region.ready md ac l=[]:=by
   rw[List.eq_nil_iff_forall_not_mem];intro i hi;obtain⟨h0,o,ho,_⟩:=mem_ready.1 hi;have ad:i<l.size:=by rw[ae l a w hJ];exact(Array.getElem?_eq_some_iff.1 ho).1
   have:l[i]=false:=by simpa[ad]using h0
   have hm:false∈l.toList:=by rw[<-this];simp
   have:=List.count_pos_iff.2 hm;omega
  exact⟨hr,aa l a w hJ hr⟩
 |fuel+1,l,a,w,hf,hJ=>by
  refine⟨aa l a w hJ,fun i hi=>wpOp_mono (fun a' w' h=>⟨hS _ _ _ h,?_⟩) (ab l a w i hJ hi)⟩;refine Qfm J ae hS ab aa fuel _ a' w' ?_ h;obtain⟨h0,o,ho,_⟩:=mem_ready.1 hi;have ad:i<l.size:=by rw[ae l a w hJ];exact(Array.getElem?_eq_some_iff.1 ho).1
  have hv:l[i]=false:=by simpa[ad]using h0
  have e:(l.setIfInBounds i true).toList=l.toList.set i true:=by simp
  rw[e];have hc:=List.count_set (a:=true) (b:=false) (l:=l.toList) (i:=i) (h:=by simpa using ad);have af:l.toList[i]'(by simpa using ad)=false:=by simpa using hv
  rw[af]at hc;simp only[beq_self_eq_true,if_true,show((true:Bool)==false)=false from rfl,Bool.false_eq_true,if_false]at hc;have hm:false∈l.toList:=by rw[<-af];simp
  have:=List.count_pos_iff.2 hm;omega
theorem Qea{md:Region.Mode}{aa:Array Oper}{l:Array Bool}(hl:l.size=aa.size)(hd:((List.range aa.size).all fun i=>(aa[i]?).all fun o=>o.after.all fun e=>decide (e.on<i))=true)(hr:Region.ready md aa l=[]):∀ i,i<aa.size->l.getD i false=true:=by
 intro i
 induction i using Nat.strongRecOn with
 |_ i ih=>
  intro hi;apply Classical.byContradiction;intro hn
  have hm:i∈Region.ready md aa l:=by
   refine mem_ready.2 ⟨?_,aa[i],by simp[hi],fun e he _=>?_⟩
   ·have:i<l.size:=by omega
    simp[this]at hn ⊢;exact hn
   ·have h1:=List.all_eq_true.1 hd i (List.mem_range.2 hi);rw[Array.getElem?_eq_getElem hi]at h1;simp only[Option.all_some]at h1;have h2:=Array.all_eq_true_iff_forall_mem.1 h1 e he;have h3:e.on<i:=of_decide_eq_true h2;exact ih e.on h3 (by omega)
  rw[hr]at hm;cases hm
theorem QaB{P:Program}{aa:Array Oper}{Q:Exit->Act->World->Prop}{i:Nat}{o:Oper}{K:Act->World->Prop}{a:Act}{w:World}(ho:aa[i]?=some o)(hw:Region.wanted o (yielded aa a.tmps)=true)(h:o.wp P a w K Q):wpOp P aa Q i K a w:=by
 unfold wpOp;rw[ho];dsimp only;rw[if_pos hw];exact Or.inl h
def QiT (w:World) (B:Nat) (h:Bool) (v:Value):Prop:=
 ∃ p,v=.func (.func 167) #[] #[.pointer (some ⟨p,0,none⟩)]∧B≤p∧w.heap[p]?=some (.cells #[.bool h] 4)
theorem QiT.keep{w w':World}{B:Nat}{h:Bool}{v:Value}(hh:QiT w B h v)(hk:∀ k cs ty,B<=k->w.heap[k]?=some (.cells cs ty)->w'.heap[k]?=some (.cells cs ty)):QiT w' B h v:=by
 obtain⟨p,hv,hp,h1⟩:=hh;exact⟨p,hv,hp,hk p _ _ hp h1⟩
def fT (b:Nat) (L:Nat→Bool) (u30 u31:Value) (x:L8):Option Value:=
 match wL tNs x with
 | 1=>if L 3 then some (u30) else none
 | 2=>if L 5 then some (u31) else none
 | 3=>if L 8 then some (.func (.func 108) #[.pointer (some ⟨b,0,none⟩)] #[]) else none
 | 4=>if L 10 then some (.func (.func 109) #[] #[.pointer (some ⟨b+1,0,none⟩)]) else none
 | 5=>if L 12 then some (.func (.func 111) #[] #[.pointer (some ⟨b+1,0,none⟩)]) else none
 | 6=>if L 14 then some (.func (.func 112) #[] #[.pointer (some ⟨b+1,0,none⟩)]) else none
 | 7=>if L 16 then some (.func (.func 115) #[] #[.pointer (some ⟨b+1,0,none⟩)]) else none
 | 8=>if L 18 then some (.func (.func 118) #[] #[.pointer (some ⟨b+1,0,none⟩)]) else none
 | 9=>if L 21 then some (.func (.func 119) #[.pointer (some ⟨b,0,none⟩)] #[]) else none
 | 10=>if L 24 then some (.func (.func 120) #[.pointer (some ⟨b,0,none⟩)] #[]) else none
 | _=>none
structure JT (t:ByteArray) (b:Nat) (W:World) (mv1:Value) (L:Nat→Bool) (u29 u30 u31 u43 u44 u45:Value) (w:World):Prop where
 hb:b < W.heap.size
 mod:Mod b W w
 rd:w.heap[b]?=some (Qb9 t mv1 (if L 28 then u43 else Value.map none))
 cm3:L 3=true→L 1=true
 cm5:L 5=true→L 1=true
 cm8:L 8=true→L 1=true
 cm10:L 10=true→L 1=true
 cm12:L 12=true→L 1=true
 cm14:L 14=true→L 1=true
 cm16:L 16=true→L 1=true
 cm18:L 18=true→L 1=true
 cm21:L 21=true→L 1=true
 cm24:L 24=true→L 1=true
 cv3:L 3=true→L 2=true
 cv5:L 5=true→L 4=true
 a2:L 2=true→QiT w W.heap.size true u30
 a4:L 4=true→QiT w W.heap.size false u31
 mp:L 1=true→∃ m es c,u29=.map (some m)∧W.heap.size≤m∧w.heap[m]?=some (.map es c)∧Qb3 es (fT b L u30 u31)
 m25:L 25=true→u43=u29∧L 1=true∧L 3=true∧L 5=true∧L 8=true∧L 10=true∧L 12=true∧L 14=true∧L 16=true∧L 18=true∧L 21=true∧L 24=true
 m26:L 26=true→u44=.pointer (some ⟨b,0,none⟩)
 m27:L 27=true→u45=.pointer (some ⟨b,9,none⟩)
 m28:L 28=true→L 25=true
section
variable {t:ByteArray} {b:Nat} {W:World} {mv1:Value} {L:Nat→Bool} {u29 u30 u31 u43 u44 u45:Value} {w:World}
theorem QoN(i:Nat)(h:i≠3/\i≠5/\i≠8/\i≠10/\i≠12/\i≠14/\i≠16/\i≠18/\i≠21/\i≠24)(x:L8):fT b (up L i) u30 u31 x=fT b L u30 u31 x:=by
 obtain⟨h0,h1,h2,h3,h4,h5,h6,h7,h8,h9⟩:=h;unfold fT;simp only[Qaf L (Ne.symm h0),Qaf L (Ne.symm h1),Qaf L (Ne.symm h2),Qaf L (Ne.symm h3),Qaf L (Ne.symm h4),Qaf L (Ne.symm h5),Qaf L (Ne.symm h6),Qaf L (Ne.symm h7),Qaf L (Ne.symm h8),Qaf L (Ne.symm h9)]
theorem JT.m25u(J:JT t b W mv1 L u29 u30 u31 u43 u44 u45 w){i:Nat}(h:L 25=true):u43=u29/\up L i 1=true/\up L i 3=true/\up L i 5=true/\up L i 8=true/\up L i 10=true/\up L i 12=true/\up L i 14=true/\up L i 16=true/\up L i 18=true/\up L i 21=true/\up L i 24=true:=by
 obtain⟨e1,e2,e3,e4,e5,e6,e7,e8,e9,ab,aa,ac⟩:=J.m25 h;exact⟨e1,Qaj _ e2,Qaj _ e3,Qaj _ e4,Qaj _ e5,Qaj _ e6,Qaj _ e7,Qaj _ e8,Qaj _ e9,Qaj _ ab,Qaj _ aa,Qaj _ ac⟩
theorem JT.s1(J:JT t b W mv1 L u29 u30 u31 u43 u44 u45 w)(h0:L 1=false):JT t b W mv1 (up L 1) (.map (some w.heap.size)) u30 u31 u43 u44 u45 (w.alloc (Obj.map #[] 0)):=by
 have hk:∀ k cs ty,W.heap.size<=k->w.heap[k]?=some (.cells cs ty)->(w.alloc (Obj.map #[] 0)).heap[k]?=some (.cells cs ty):=fun k cs ty _ h=>Qac h
 have af:(w.alloc (Obj.map #[] 0)).heap[b]?=some (Qb9 t mv1 (if L 28 then u43 else Value.map none)):=Qac J.rd;have n3:L 3=false:=nf J.cm3 h0;have n5:L 5=false:=nf J.cm5 h0;have n8:L 8=false:=nf J.cm8 h0;have ac:L 10=false:=nf J.cm10 h0;have ah:L 12=false:=nf J.cm12 h0;have ab:L 14=false:=nf J.cm14 h0;have ae:L 16=false:=nf J.cm16 h0;have aa:L 18=false:=nf J.cm18 h0;have ag:L 21=false:=nf J.cm21 h0;have ad:L 24=false:=nf J.cm24 h0;exact⟨J.hb,J.mod.trans ((Mod.refl b w).alloc _),by rw[Qaf L (by decide)];exact af,ui J.cm3,ui J.cm5,ui J.cm8,ui J.cm10,ui J.cm12,ui J.cm14,ui J.cm16,ui J.cm18,ui J.cm21,ui J.cm24,ui J.cv3,ui J.cv5,fun h=>(J.a2 (ud h)).keep hk,fun h=>(J.a4 (ud h)).keep hk,fun _=>⟨w.heap.size,#[],0,rfl,J.mod.size,Qam _ _,Qb3.empty.congr (fun x=>by rw[QoN 1 (by decide)];unfold fT;simp only[n3,n5,n8,ac,ah,ab,ae,aa,ag,ad];split<;>rfl)⟩,fun h=>absurd (J.m25 (ud h)).2.1 (by rw[h0];decide),fun h=>J.m26 (ud h),fun h=>J.m27 (ud h),ui J.m28⟩
theorem JT.s2(J:JT t b W mv1 L u29 u30 u31 u43 u44 u45 w)(h0:L 2=false):JT t b W mv1 (up L 2) u29 (.func (.func 167) #[] #[.pointer (some ⟨w.heap.size,0,none⟩)]) u31 u43 u44 u45 (w.alloc (.cells #[.bool true] 4)):=by
 have hk:∀ k cs ty,W.heap.size<=k->w.heap[k]?=some (.cells cs ty)->(w.alloc (.cells #[.bool true] 4)).heap[k]?=some (.cells cs ty):=fun k cs ty _ h=>Qac h
 have ab:∀(m:Nat) (es:Array MapEntry) (c:Nat),w.heap[m]?=some (Obj.map es c)->(w.alloc (.cells #[.bool true] 4)).heap[m]?=some (Obj.map es c):=fun m es c h=>Qac h
 have aa:(w.alloc (.cells #[.bool true] 4)).heap[b]?=some (Qb9 t mv1 (if L 28 then u43 else Value.map none)):=Qac J.rd;have hn:L 3=false:=nf J.cv3 h0;have ac:=J.mod.size;exact⟨J.hb,J.mod.trans ((Mod.refl b w).alloc _),by rw[Qaf L (by decide)];exact aa,ui J.cm3,ui J.cm5,ui J.cm8,ui J.cm10,ui J.cm12,ui J.cm14,ui J.cm16,ui J.cm18,ui J.cm21,ui J.cm24,ui J.cv3,ui J.cv5,fun _=>⟨w.heap.size,rfl,ac,Qam _ _⟩,fun h=>(J.a4 (ud h)).keep hk,fun h=>by obtain⟨m,es,c,h3,h4,h5,h6⟩:=J.mp (ud h);exact⟨m,es,c,h3,h4,ab m _ _ h5,h6.congr (fun x=>by rw[QoN 2 (by decide)];unfold fT;simp only[hn,Bool.false_eq_true,if_false])⟩,fun h=>J.m25u (ud h),fun h=>J.m26 (ud h),fun h=>J.m27 (ud h),ui J.m28⟩
theorem JT.s4(J:JT t b W mv1 L u29 u30 u31 u43 u44 u45 w)(h0:L 4=false):JT t b W mv1 (up L 4) u29 u30 (.func (.func 167) #[] #[.pointer (some ⟨w.heap.size,0,none⟩)]) u43 u44 u45 (w.alloc (.cells #[.bool false] 4)):=by
 have hk:∀ k cs ty,W.heap.size<=k->w.heap[k]?=some (.cells cs ty)->(w.alloc (.cells #[.bool false] 4)).heap[k]?=some (.cells cs ty):=fun k cs ty _ h=>Qac h
 have ab:∀(m:Nat) (es:Array MapEntry) (c:Nat),w.heap[m]?=some (Obj.map es c)->(w.alloc (.cells #[.bool false] 4)).heap[m]?=some (Obj.map es c):=fun m es c h=>Qac h
 have aa:(w.alloc (.cells #[.bool false] 4)).heap[b]?=some (Qb9 t mv1 (if L 28 then u43 else Value.map none)):=Qac J.rd;have hn:L 5=false:=nf J.cv5 h0;have ac:=J.mod.size;exact⟨J.hb,J.mod.trans ((Mod.refl b w).alloc _),by rw[Qaf L (by decide)];exact aa,ui J.cm3,ui J.cm5,ui J.cm8,ui J.cm10,ui J.cm12,ui J.cm14,ui J.cm16,ui J.cm18,ui J.cm21,ui J.cm24,ui J.cv3,ui J.cv5,fun h=>(J.a2 (ud h)).keep hk,fun _=>⟨w.heap.size,rfl,ac,Qam _ _⟩,fun h=>by obtain⟨m,es,c,h3,h4,h5,h6⟩:=J.mp (ud h);exact⟨m,es,c,h3,h4,ab m _ _ h5,h6.congr (fun x=>by rw[QoN 4 (by decide)];unfold fT;simp only[hn,Bool.false_eq_true,if_false])⟩,fun h=>J.m25u (ud h),fun h=>J.m26 (ud h),fun h=>J.m27 (ud h),ui J.m28⟩
theorem JT.s3(J:JT t b W mv1 L u29 u30 u31 u43 u44 u45 w)(h0:L 3=false)(h1:L 1=true)(h2:L 2=true):∃ m es c,u29=.map (some m)/\w.heap[m]?=some (.map es c)/\Qb3 es (fT b L u30 u31)/\fT b L u30 u31 Qfz=none/\JT t b W mv1 (up L 3) u29 u30 u31 u43 u44 u45 (QaE w m (.map (es.push ⟨.string (sA Qfz),u30,c⟩) (c+1))):=by
 obtain⟨m,es,c,h3,h4,h5,h6⟩:=J.mp h1;have hn:fT b L u30 u31 Qfz=none:=by unfold fT;rw[show wL tNs Qfz=1 from by decide];simp only[h0];rfl
 have hx:fT b (up L 3) u30 u31 Qfz=some (u30):=by unfold fT;rw[show wL tNs Qfz=1 from by decide];simp only[Qbr];rfl
 have hg:∀ z,z≠Qfz->fT b (up L 3) u30 u31 z=fT b L u30 u31 z:=fun z hz=>by
  have hw:wL tNs z≠1:=fun e=>hz (by have:=Qaw tNs z 0 e;simpa[tNs]using this.symm)
  unfold fT;split<;>first|(rename_i e;exact absurd e hw)|simp only[Qaf L (by decide)]|rfl
 have aa:m≠b:=by have:=J.hb;omega
 have hk:∀ k cs ty,W.heap.size<=k->w.heap[k]?=some (.cells cs ty)->(QaE w m (.map (es.push ⟨.string (sA Qfz),u30,c⟩) (c+1))).heap[k]?=some (.cells cs ty):=fun k cs ty _ h=>by
  rw[Qan (fun e=>by rw[e,h5]at h;cases h)];exact h
 have ab:(QaE w m (.map (es.push ⟨.string (sA Qfz),u30,c⟩) (c+1))).heap[b]?=some (Qb9 t mv1 (if L 28 then u43 else Value.map none)):=by rw[Qan (Ne.symm aa)];exact J.rd
 refine⟨m,es,c,h3,h5,h6,hn,?_⟩;exact⟨J.hb,Qa6 J.mod h4,by rw[Qaf L (by decide)];exact ab,fun _=>Qaj _ h1,ui J.cm5,ui J.cm8,ui J.cm10,ui J.cm12,ui J.cm14,ui J.cm16,ui J.cm18,ui J.cm21,ui J.cm24,fun _=>Qaj _ h2,ui J.cv5,fun h=>(J.a2 (ud h)).keep hk,fun h=>(J.a4 (ud h)).keep hk,fun _=>⟨m,_,_,h3,h4,QaS h5,h6.push hn hx hg⟩,fun h=>J.m25u (ud h),fun h=>J.m26 (ud h),fun h=>J.m27 (ud h),ui J.m28⟩
theorem JT.s5(J:JT t b W mv1 L u29 u30 u31 u43 u44 u45 w)(h0:L 5=false)(h1:L 1=true)(h2:L 4=true):∃ m es c,u29=.map (some m)/\w.heap[m]?=some (.map es c)/\Qb3 es (fT b L u30 u31)/\fT b L u30 u31 Qdt=none/\JT t b W mv1 (up L 5) u29 u30 u31 u43 u44 u45 (QaE w m (.map (es.push ⟨.string (sA Qdt),u31,c⟩) (c+1))):=by
 obtain⟨m,es,c,h3,h4,h5,h6⟩:=J.mp h1;have hn:fT b L u30 u31 Qdt=none:=by unfold fT;rw[show wL tNs Qdt=2 from by decide];simp only[h0];rfl
 have hx:fT b (up L 5) u30 u31 Qdt=some (u31):=by unfold fT;rw[show wL tNs Qdt=2 from by decide];simp only[Qbr];rfl
 have hg:∀ z,z≠Qdt->fT b (up L 5) u30 u31 z=fT b L u30 u31 z:=fun z hz=>by
  have hw:wL tNs z≠2:=fun e=>hz (by have:=Qaw tNs z 1 e;simpa[tNs]using this.symm)
  unfold fT;split<;>first|(rename_i e;exact absurd e hw)|simp only[Qaf L (by decide)]|rfl
 have aa:m≠b:=by have:=J.hb;omega
 have hk:∀ k cs ty,W.heap.size<=k->w.heap[k]?=some (.cells cs ty)->(QaE w m (.map (es.push ⟨.string (sA Qdt),u31,c⟩) (c+1))).heap[k]?=some (.cells cs ty):=fun k cs ty _ h=>by
  rw[Qan (fun e=>by rw[e,h5]at h;cases h)];exact h
 have ab:(QaE w m (.map (es.push ⟨.string (sA Qdt),u31,c⟩) (c+1))).heap[b]?=some (Qb9 t mv1 (if L 28 then u43 else Value.map none)):=by rw[Qan (Ne.symm aa)];exact J.rd
 refine⟨m,es,c,h3,h5,h6,hn,?_⟩;exact⟨J.hb,Qa6 J.mod h4,by rw[Qaf L (by decide)];exact ab,ui J.cm3,fun _=>Qaj _ h1,ui J.cm8,ui J.cm10,ui J.cm12,ui J.cm14,ui J.cm16,ui J.cm18,ui J.cm21,ui J.cm24,ui J.cv3,fun _=>Qaj _ h2,fun h=>(J.a2 (ud h)).keep hk,fun h=>(J.a4 (ud h)).keep hk,fun _=>⟨m,_,_,h3,h4,QaS h5,h6.push hn hx hg⟩,fun h=>J.m25u (ud h),fun h=>J.m26 (ud h),fun h=>J.m27 (ud h),ui J.m28⟩
theorem JT.s8(J:JT t b W mv1 L u29 u30 u31 u43 u44 u45 w)(h0:L 8=false)(h1:L 1=true):∃ m es c,u29=.map (some m)/\w.heap[m]?=some (.map es c)/\Qb3 es (fT b L u30 u31)/\fT b L u30 u31 kNot=none/\JT t b W mv1 (up L 8) u29 u30 u31 u43 u44 u45 (QaE w m (.map (es.push ⟨.string (sA kNot),.func (.func 108) #[.pointer (some ⟨b,0,none⟩)] #[],c⟩) (c+1))):=by
 obtain⟨m,es,c,h3,h4,h5,h6⟩:=J.mp h1;have hn:fT b L u30 u31 kNot=none:=by unfold fT;rw[show wL tNs kNot=3 from by decide];simp only[h0];rfl
 have hx:fT b (up L 8) u30 u31 kNot=some (.func (.func 108) #[.pointer (some ⟨b,0,none⟩)] #[]):=by unfold fT;rw[show wL tNs kNot=3 from by decide];simp only[Qbr];rfl
 have hg:∀ z,z≠kNot->fT b (up L 8) u30 u31 z=fT b L u30 u31 z:=fun z hz=>by
  have hw:wL tNs z≠3:=fun e=>hz (by have:=Qaw tNs z 2 e;simpa[tNs]using this.symm)
  unfold fT;split<;>first|(rename_i e;exact absurd e hw)|simp only[Qaf L (by decide)]|rfl
 have aa:m≠b:=by have:=J.hb;omega
 have hk:∀ k cs ty,W.heap.size<=k->w.heap[k]?=some (.cells cs ty)->(QaE w m (.map (es.push ⟨.string (sA kNot),.func (.func 108) #[.pointer (some ⟨b,0,none⟩)] #[],c⟩) (c+1))).heap[k]?=some (.cells cs ty):=fun k cs ty _ h=>by
  rw[Qan (fun e=>by rw[e,h5]at h;cases h)];exact h
 have ab:(QaE w m (.map (es.push ⟨.string (sA kNot),.func (.func 108) #[.pointer (some ⟨b,0,none⟩)] #[],c⟩) (c+1))).heap[b]?=some (Qb9 t mv1 (if L 28 then u43 else Value.map none)):=by rw[Qan (Ne.symm aa)];exact J.rd
 refine⟨m,es,c,h3,h5,h6,hn,?_⟩;exact⟨J.hb,Qa6 J.mod h4,by rw[Qaf L (by decide)];exact ab,ui J.cm3,ui J.cm5,fun _=>Qaj _ h1,ui J.cm10,ui J.cm12,ui J.cm14,ui J.cm16,ui J.cm18,ui J.cm21,ui J.cm24,ui J.cv3,ui J.cv5,fun h=>(J.a2 (ud h)).keep hk,fun h=>(J.a4 (ud h)).keep hk,fun _=>⟨m,_,_,h3,h4,QaS h5,h6.push hn hx hg⟩,fun h=>J.m25u (ud h),fun h=>J.m26 (ud h),fun h=>J.m27 (ud h),ui J.m28⟩
theorem JT.s10(J:JT t b W mv1 L u29 u30 u31 u43 u44 u45 w)(h0:L 10=false)(h1:L 1=true):∃ m es c,u29=.map (some m)/\w.heap[m]?=some (.map es c)/\Qb3 es (fT b L u30 u31)/\fT b L u30 u31 QcC=none/\JT t b W mv1 (up L 10) u29 u30 u31 u43 u44 u45 (QaE w m (.map (es.push ⟨.string (sA QcC),.func (.func 109) #[] #[.pointer (some ⟨b+1,0,none⟩)],c⟩) (c+1))):=by
 obtain⟨m,es,c,h3,h4,h5,h6⟩:=J.mp h1;have hn:fT b L u30 u31 QcC=none:=by unfold fT;rw[show wL tNs QcC=4 from by decide];simp only[h0];rfl
 have hx:fT b (up L 10) u30 u31 QcC=some (.func (.func 109) #[] #[.pointer (some ⟨b+1,0,none⟩)]):=by unfold fT;rw[show wL tNs QcC=4 from by decide];simp only[Qbr];rfl
 have hg:∀ z,z≠QcC->fT b (up L 10) u30 u31 z=fT b L u30 u31 z:=fun z hz=>by
  have hw:wL tNs z≠4:=fun e=>hz (by have:=Qaw tNs z 3 e;simpa[tNs]using this.symm)
  unfold fT;split<;>first|(rename_i e;exact absurd e hw)|simp only[Qaf L (by decide)]|rfl
 have aa:m≠b:=by have:=J.hb;omega
 have hk:∀ k cs ty,W.heap.size<=k->w.heap[k]?=some (.cells cs ty)->(QaE w m (.map (es.push ⟨.string (sA QcC),.func (.func 109) #[] #[.pointer (some ⟨b+1,0,none⟩)],c⟩) (c+1))).heap[k]?=some (.cells cs ty):=fun k cs ty _ h=>by
  rw[Qan (fun e=>by rw[e,h5]at h;cases h)];exact h
 have ab:(QaE w m (.map (es.push ⟨.string (sA QcC),.func (.func 109) #[] #[.pointer (some ⟨b+1,0,none⟩)],c⟩) (c+1))).heap[b]?=some (Qb9 t mv1 (if L 28 then u43 else Value.map none)):=by rw[Qan (Ne.symm aa)];exact J.rd
 refine⟨m,es,c,h3,h5,h6,hn,?_⟩;exact⟨J.hb,Qa6 J.mod h4,by rw[Qaf L (by decide)];exact ab,ui J.cm3,ui J.cm5,ui J.cm8,fun _=>Qaj _ h1,ui J.cm12,ui J.cm14,ui J.cm16,ui J.cm18,ui J.cm21,ui J.cm24,ui J.cv3,ui J.cv5,fun h=>(J.a2 (ud h)).keep hk,fun h=>(J.a4 (ud h)).keep hk,fun _=>⟨m,_,_,h3,h4,QaS h5,h6.push hn hx hg⟩,fun h=>J.m25u (ud h),fun h=>J.m26 (ud h),fun h=>J.m27 (ud h),ui J.m28⟩
theorem JT.s12(J:JT t b W mv1 L u29 u30 u31 u43 u44 u45 w)(h0:L 12=false)(h1:L 1=true):∃ m es c,u29=.map (some m)/\w.heap[m]?=some (.map es c)/\Qb3 es (fT b L u30 u31)/\fT b L u30 u31 QcL=none/\JT t b W mv1 (up L 12) u29 u30 u31 u43 u44 u45 (QaE w m (.map (es.push ⟨.string (sA QcL),.func (.func 111) #[] #[.pointer (some ⟨b+1,0,none⟩)],c⟩) (c+1))):=by
 obtain⟨m,es,c,h3,h4,h5,h6⟩:=J.mp h1;have hn:fT b L u30 u31 QcL=none:=by unfold fT;rw[show wL tNs QcL=5 from by decide];simp only[h0];rfl
 have hx:fT b (up L 12) u30 u31 QcL=some (.func (.func 111) #[] #[.pointer (some ⟨b+1,0,none⟩)]):=by unfold fT;rw[show wL tNs QcL=5 from by decide];simp only[Qbr];rfl
 have hg:∀ z,z≠QcL->fT b (up L 12) u30 u31 z=fT b L u30 u31 z:=fun z hz=>by
  have hw:wL tNs z≠5:=fun e=>hz (by have:=Qaw tNs z 4 e;simpa[tNs]using this.symm)
  unfold fT;split<;>first|(rename_i e;exact absurd e hw)|simp only[Qaf L (by decide)]|rfl
 have aa:m≠b:=by have:=J.hb;omega
 have hk:∀ k cs ty,W.heap.size<=k->w.heap[k]?=some (.cells cs ty)->(QaE w m (.map (es.push ⟨.string (sA QcL),.func (.func 111) #[] #[.pointer (some ⟨b+1,0,none⟩)],c⟩) (c+1))).heap[k]?=some (.cells cs ty):=fun k cs ty _ h=>by
  rw[Qan (fun e=>by rw[e,h5]at h;cases h)];exact h
 have ab:(QaE w m (.map (es.push ⟨.string (sA QcL),.func (.func 111) #[] #[.pointer (some ⟨b+1,0,none⟩)],c⟩) (c+1))).heap[b]?=some (Qb9 t mv1 (if L 28 then u43 else Value.map none)):=by rw[Qan (Ne.symm aa)];exact J.rd
 refine⟨m,es,c,h3,h5,h6,hn,?_⟩;exact⟨J.hb,Qa6 J.mod h4,by rw[Qaf L (by decide)];exact ab,ui J.cm3,ui J.cm5,ui J.cm8,ui J.cm10,fun _=>Qaj _ h1,ui J.cm14,ui J.cm16,ui J.cm18,ui J.cm21,ui J.cm24,ui J.cv3,ui J.cv5,fun h=>(J.a2 (ud h)).keep hk,fun h=>(J.a4 (ud h)).keep hk,fun _=>⟨m,_,_,h3,h4,QaS h5,h6.push hn hx hg⟩,fun h=>J.m25u (ud h),fun h=>J.m26 (ud h),fun h=>J.m27 (ud h),ui J.m28⟩
theorem JT.s14(J:JT t b W mv1 L u29 u30 u31 u43 u44 u45 w)(h0:L 14=false)(h1:L 1=true):∃ m es c,u29=.map (some m)/\w.heap[m]?=some (.map es c)/\Qb3 es (fT b L u30 u31)/\fT b L u30 u31 QbM=none/\JT t b W mv1 (up L 14) u29 u30 u31 u43 u44 u45 (QaE w m (.map (es.push ⟨.string (sA QbM),.func (.func 112) #[] #[.pointer (some ⟨b+1,0,none⟩)],c⟩) (c+1))):=by
 obtain⟨m,es,c,h3,h4,h5,h6⟩:=J.mp h1;have hn:fT b L u30 u31 QbM=none:=by unfold fT;rw[show wL tNs QbM=6 from by decide];simp only[h0];rfl
 have hx:fT b (up L 14) u30 u31 QbM=some (.func (.func 112) #[] #[.pointer (some ⟨b+1,0,none⟩)]):=by unfold fT;rw[show wL tNs QbM=6 from by decide];simp only[Qbr];rfl
 have hg:∀ z,z≠QbM->fT b (up L 14) u30 u31 z=fT b L u30 u31 z:=fun z hz=>by
  have hw:wL tNs z≠6:=fun e=>hz (by have:=Qaw tNs z 5 e;simpa[tNs]using this.symm)
  unfold fT;split<;>first|(rename_i e;exact absurd e hw)|simp only[Qaf L (by decide)]|rfl
 have aa:m≠b:=by have:=J.hb;omega
 have hk:∀ k cs ty,W.heap.size<=k->w.heap[k]?=some (.cells cs ty)->(QaE w m (.map (es.push ⟨.string (sA QbM),.func (.func 112) #[] #[.pointer (some ⟨b+1,0,none⟩)],c⟩) (c+1))).heap[k]?=some (.cells cs ty):=fun k cs ty _ h=>by
  rw[Qan (fun e=>by rw[e,h5]at h;cases h)];exact h
 have ab:(QaE w m (.map (es.push ⟨.string (sA QbM),.func (.func 112) #[] #[.pointer (some ⟨b+1,0,none⟩)],c⟩) (c+1))).heap[b]?=some (Qb9 t mv1 (if L 28 then u43 else Value.map none)):=by rw[Qan (Ne.symm aa)];exact J.rd
 refine⟨m,es,c,h3,h5,h6,hn,?_⟩;exact⟨J.hb,Qa6 J.mod h4,by rw[Qaf L (by decide)];exact ab,ui J.cm3,ui J.cm5,ui J.cm8,ui J.cm10,ui J.cm12,fun _=>Qaj _ h1,ui J.cm16,ui J.cm18,ui J.cm21,ui J.cm24,ui J.cv3,ui J.cv5,fun h=>(J.a2 (ud h)).keep hk,fun h=>(J.a4 (ud h)).keep hk,fun _=>⟨m,_,_,h3,h4,QaS h5,h6.push hn hx hg⟩,fun h=>J.m25u (ud h),fun h=>J.m26 (ud h),fun h=>J.m27 (ud h),ui J.m28⟩
theorem JT.s16(J:JT t b W mv1 L u29 u30 u31 u43 u44 u45 w)(h0:L 16=false)(h1:L 1=true):∃ m es c,u29=.map (some m)/\w.heap[m]?=some (.map es c)/\Qb3 es (fT b L u30 u31)/\fT b L u30 u31 QaG=none/\JT t b W mv1 (up L 16) u29 u30 u31 u43 u44 u45 (QaE w m (.map (es.push ⟨.string (sA QaG),.func (.func 115) #[] #[.pointer (some ⟨b+1,0,none⟩)],c⟩) (c+1))):=by
 obtain⟨m,es,c,h3,h4,h5,h6⟩:=J.mp h1;have hn:fT b L u30 u31 QaG=none:=by unfold fT;rw[show wL tNs QaG=7 from by decide];simp only[h0];rfl
 have hx:fT b (up L 16) u30 u31 QaG=some (.func (.func 115) #[] #[.pointer (some ⟨b+1,0,none⟩)]):=by unfold fT;rw[show wL tNs QaG=7 from by decide];simp only[Qbr];rfl
 have hg:∀ z,z≠QaG->fT b (up L 16) u30 u31 z=fT b L u30 u31 z:=fun z hz=>by
  have hw:wL tNs z≠7:=fun e=>hz (by have:=Qaw tNs z 6 e;simpa[tNs]using this.symm)
  unfold fT;split<;>first|(rename_i e;exact absurd e hw)|simp only[Qaf L (by decide)]|rfl
 have aa:m≠b:=by have:=J.hb;omega
 have hk:∀ k cs ty,W.heap.size<=k->w.heap[k]?=some (.cells cs ty)->(QaE w m (.map (es.push ⟨.string (sA QaG),.func (.func 115) #[] #[.pointer (some ⟨b+1,0,none⟩)],c⟩) (c+1))).heap[k]?=some (.cells cs ty):=fun k cs ty _ h=>by
  rw[Qan (fun e=>by rw[e,h5]at h;cases h)];exact h
 have ab:(QaE w m (.map (es.push ⟨.string (sA QaG),.func (.func 115) #[] #[.pointer (some ⟨b+1,0,none⟩)],c⟩) (c+1))).heap[b]?=some (Qb9 t mv1 (if L 28 then u43 else Value.map none)):=by rw[Qan (Ne.symm aa)];exact J.rd
 refine⟨m,es,c,h3,h5,h6,hn,?_⟩;exact⟨J.hb,Qa6 J.mod h4,by rw[Qaf L (by decide)];exact ab,ui J.cm3,ui J.cm5,ui J.cm8,ui J.cm10,ui J.cm12,ui J.cm14,fun _=>Qaj _ h1,ui J.cm18,ui J.cm21,ui J.cm24,ui J.cv3,ui J.cv5,fun h=>(J.a2 (ud h)).keep hk,fun h=>(J.a4 (ud h)).keep hk,fun _=>⟨m,_,_,h3,h4,QaS h5,h6.push hn hx hg⟩,fun h=>J.m25u (ud h),fun h=>J.m26 (ud h),fun h=>J.m27 (ud h),ui J.m28⟩
theorem JT.s18(J:JT t b W mv1 L u29 u30 u31 u43 u44 u45 w)(h0:L 18=false)(h1:L 1=true):∃ m es c,u29=.map (some m)/\w.heap[m]?=some (.map es c)/\Qb3 es (fT b L u30 u31)/\fT b L u30 u31 Qbl=none/\JT t b W mv1 (up L 18) u29 u30 u31 u43 u44 u45 (QaE w m (.map (es.push ⟨.string (sA Qbl),.func (.func 118) #[] #[.pointer (some ⟨b+1,0,none⟩)],c⟩) (c+1))):=by
 obtain⟨m,es,c,h3,h4,h5,h6⟩:=J.mp h1;have hn:fT b L u30 u31 Qbl=none:=by unfold fT;rw[show wL tNs Qbl=8 from by decide];simp only[h0];rfl
 have hx:fT b (up L 18) u30 u31 Qbl=some (.func (.func 118) #[] #[.pointer (some ⟨b+1,0,none⟩)]):=by unfold fT;rw[show wL tNs Qbl=8 from by decide];simp only[Qbr];rfl
 have hg:∀ z,z≠Qbl->fT b (up L 18) u30 u31 z=fT b L u30 u31 z:=fun z hz=>by
  have hw:wL tNs z≠8:=fun e=>hz (by have:=Qaw tNs z 7 e;simpa[tNs]using this.symm)
  unfold fT;split<;>first|(rename_i e;exact absurd e hw)|simp only[Qaf L (by decide)]|rfl
 have aa:m≠b:=by have:=J.hb;omega
 have hk:∀ k cs ty,W.heap.size<=k->w.heap[k]?=some (.cells cs ty)->(QaE w m (.map (es.push ⟨.string (sA Qbl),.func (.func 118) #[] #[.pointer (some ⟨b+1,0,none⟩)],c⟩) (c+1))).heap[k]?=some (.cells cs ty):=fun k cs ty _ h=>by
  rw[Qan (fun e=>by rw[e,h5]at h;cases h)];exact h
 have ab:(QaE w m (.map (es.push ⟨.string (sA Qbl),.func (.func 118) #[] #[.pointer (some ⟨b+1,0,none⟩)],c⟩) (c+1))).heap[b]?=some (Qb9 t mv1 (if L 28 then u43 else Value.map none)):=by rw[Qan (Ne.symm aa)];exact J.rd
 refine⟨m,es,c,h3,h5,h6,hn,?_⟩;exact⟨J.hb,Qa6 J.mod h4,by rw[Qaf L (by decide)];exact ab,ui J.cm3,ui J.cm5,ui J.cm8,ui J.cm10,ui J.cm12,ui J.cm14,ui J.cm16,fun _=>Qaj _ h1,ui J.cm21,ui J.cm24,ui J.cv3,ui J.cv5,fun h=>(J.a2 (ud h)).keep hk,fun h=>(J.a4 (ud h)).keep hk,fun _=>⟨m,_,_,h3,h4,QaS h5,h6.push hn hx hg⟩,fun h=>J.m25u (ud h),fun h=>J.m26 (ud h),fun h=>J.m27 (ud h),ui J.m28⟩
theorem JT.s21(J:JT t b W mv1 L u29 u30 u31 u43 u44 u45 w)(h0:L 21=false)(h1:L 1=true):∃ m es c,u29=.map (some m)/\w.heap[m]?=some (.map es c)/\Qb3 es (fT b L u30 u31)/\fT b L u30 u31 Qby=none/\JT t b W mv1 (up L 21) u29 u30 u31 u43 u44 u45 (QaE w m (.map (es.push ⟨.string (sA Qby),.func (.func 119) #[.pointer (some ⟨b,0,none⟩)] #[],c⟩) (c+1))):=by
 obtain⟨m,es,c,h3,h4,h5,h6⟩:=J.mp h1;have hn:fT b L u30 u31 Qby=none:=by unfold fT;rw[show wL tNs Qby=9 from by decide];simp only[h0];rfl
 have hx:fT b (up L 21) u30 u31 Qby=some (.func (.func 119) #[.pointer (some ⟨b,0,none⟩)] #[]):=by unfold fT;rw[show wL tNs Qby=9 from by decide];simp only[Qbr];rfl
 have hg:∀ z,z≠Qby->fT b (up L 21) u30 u31 z=fT b L u30 u31 z:=fun z hz=>by
  have hw:wL tNs z≠9:=fun e=>hz (by have:=Qaw tNs z 8 e;simpa[tNs]using this.symm)
  unfold fT;split<;>first|(rename_i e;exact absurd e hw)|simp only[Qaf L (by decide)]|rfl
 have aa:m≠b:=by have:=J.hb;omega
 have hk:∀ k cs ty,W.heap.size<=k->w.heap[k]?=some (.cells cs ty)->(QaE w m (.map (es.push ⟨.string (sA Qby),.func (.func 119) #[.pointer (some ⟨b,0,none⟩)] #[],c⟩) (c+1))).heap[k]?=some (.cells cs ty):=fun k cs ty _ h=>by
  rw[Qan (fun e=>by rw[e,h5]at h;cases h)];exact h
 have ab:(QaE w m (.map (es.push ⟨.string (sA Qby),.func (.func 119) #[.pointer (some ⟨b,0,none⟩)] #[],c⟩) (c+1))).heap[b]?=some (Qb9 t mv1 (if L 28 then u43 else Value.map none)):=by rw[Qan (Ne.symm aa)];exact J.rd
 refine⟨m,es,c,h3,h5,h6,hn,?_⟩;exact⟨J.hb,Qa6 J.mod h4,by rw[Qaf L (by decide)];exact ab,ui J.cm3,ui J.cm5,ui J.cm8,ui J.cm10,ui J.cm12,ui J.cm14,ui J.cm16,ui J.cm18,fun _=>Qaj _ h1,ui J.cm24,ui J.cv3,ui J.cv5,fun h=>(J.a2 (ud h)).keep hk,fun h=>(J.a4 (ud h)).keep hk,fun _=>⟨m,_,_,h3,h4,QaS h5,h6.push hn hx hg⟩,fun h=>J.m25u (ud h),fun h=>J.m26 (ud h),fun h=>J.m27 (ud h),ui J.m28⟩
theorem JT.s24(J:JT t b W mv1 L u29 u30 u31 u43 u44 u45 w)(h0:L 24=false)(h1:L 1=true):∃ m es c,u29=.map (some m)/\w.heap[m]?=some (.map es c)/\Qb3 es (fT b L u30 u31)/\fT b L u30 u31 QdU=none/\JT t b W mv1 (up L 24) u29 u30 u31 u43 u44 u45 (QaE w m (.map (es.push ⟨.string (sA QdU),.func (.func 120) #[.pointer (some ⟨b,0,none⟩)] #[],c⟩) (c+1))):=by
 obtain⟨m,es,c,h3,h4,h5,h6⟩:=J.mp h1;have hn:fT b L u30 u31 QdU=none:=by unfold fT;rw[show wL tNs QdU=10 from by decide];simp only[h0];rfl
 have hx:fT b (up L 24) u30 u31 QdU=some (.func (.func 120) #[.pointer (some ⟨b,0,none⟩)] #[]):=by unfold fT;rw[show wL tNs QdU=10 from by decide];simp only[Qbr];rfl
 have hg:∀ z,z≠QdU->fT b (up L 24) u30 u31 z=fT b L u30 u31 z:=fun z hz=>by
  have hw:wL tNs z≠10:=fun e=>hz (by have:=Qaw tNs z 9 e;simpa[tNs]using this.symm)
  unfold fT;split<;>first|(rename_i e;exact absurd e hw)|simp only[Qaf L (by decide)]|rfl
 have aa:m≠b:=by have:=J.hb;omega
 have hk:∀ k cs ty,W.heap.size<=k->w.heap[k]?=some (.cells cs ty)->(QaE w m (.map (es.push ⟨.string (sA QdU),.func (.func 120) #[.pointer (some ⟨b,0,none⟩)] #[],c⟩) (c+1))).heap[k]?=some (.cells cs ty):=fun k cs ty _ h=>by
  rw[Qan (fun e=>by rw[e,h5]at h;cases h)];exact h
 have ab:(QaE w m (.map (es.push ⟨.string (sA QdU),.func (.func 120) #[.pointer (some ⟨b,0,none⟩)] #[],c⟩) (c+1))).heap[b]?=some (Qb9 t mv1 (if L 28 then u43 else Value.map none)):=by rw[Qan (Ne.symm aa)];exact J.rd
 refine⟨m,es,c,h3,h5,h6,hn,?_⟩;exact⟨J.hb,Qa6 J.mod h4,by rw[Qaf L (by decide)];exact ab,ui J.cm3,ui J.cm5,ui J.cm8,ui J.cm10,ui J.cm12,ui J.cm14,ui J.cm16,ui J.cm18,ui J.cm21,fun _=>Qaj _ h1,ui J.cv3,ui J.cv5,fun h=>(J.a2 (ud h)).keep hk,fun h=>(J.a4 (ud h)).keep hk,fun _=>⟨m,_,_,h3,h4,QaS h5,h6.push hn hx hg⟩,fun h=>J.m25u (ud h),fun h=>J.m26 (ud h),fun h=>J.m27 (ud h),ui J.m28⟩
theorem JT.s25(J:JT t b W mv1 L u29 u30 u31 u43 u44 u45 w)(h0:L 25=false)(h1:L 1=true)(ao:L 3=true)(aj:L 5=true)(ai:L 8=true)(ab:L 10=true)(ae:L 12=true)(aa:L 14=true)(ad:L 16=true)(ac:L 18=true)(ag:L 21=true)(af:L 24=true):JT t b W mv1 (up L 25) u29 u30 u31 u29 u44 u45 w:=by
 have ah:L 28=false:=nf J.m28 h0;have hk:∀ k cs ty,W.heap.size<=k->w.heap[k]?=some (.cells cs ty)->w.heap[k]?=some (.cells cs ty):=fun k cs ty _ h=>h
 have ak:∀(m:Nat) (es:Array MapEntry) (c:Nat),w.heap[m]?=some (Obj.map es c)->w.heap[m]?=some (Obj.map es c):=fun m es c h=>h
 exact⟨J.hb,J.mod,by have:=J.rd;rw[ah]at this;rw[Qaf L (by decide),ah];exact this,ui J.cm3,ui J.cm5,ui J.cm8,ui J.cm10,ui J.cm12,ui J.cm14,ui J.cm16,ui J.cm18,ui J.cm21,ui J.cm24,ui J.cv3,ui J.cv5,fun h=>(J.a2 (ud h)).keep hk,fun h=>(J.a4 (ud h)).keep hk,fun h=>by obtain⟨m,es,c,h3,h4,h5,h6⟩:=J.mp (ud h);exact⟨m,es,c,h3,h4,ak m _ _ h5,h6.congr (fun x=>(QoN 25 (by decide) x).symm)⟩,fun _=>⟨rfl,Qaj _ h1,Qaj _ ao,Qaj _ aj,Qaj _ ai,Qaj _ ab,Qaj _ ae,Qaj _ aa,Qaj _ ad,Qaj _ ac,Qaj _ ag,Qaj _ af⟩,fun h=>J.m26 (ud h),fun h=>J.m27 (ud h),ui J.m28⟩
theorem JT.s26(J:JT t b W mv1 L u29 u30 u31 u43 u44 u45 w)(h0:L 26=false):JT t b W mv1 (up L 26) u29 u30 u31 u43 (.pointer (some ⟨b,0,none⟩)) u45 w:=by
 have hk:∀ k cs ty,W.heap.size<=k->w.heap[k]?=some (.cells cs ty)->w.heap[k]?=some (.cells cs ty):=fun k cs ty _ h=>h
 have aa:∀(m:Nat) (es:Array MapEntry) (c:Nat),w.heap[m]?=some (Obj.map es c)->w.heap[m]?=some (Obj.map es c):=fun m es c h=>h
 exact⟨J.hb,J.mod,by rw[Qaf L (by decide)];exact J.rd,ui J.cm3,ui J.cm5,ui J.cm8,ui J.cm10,ui J.cm12,ui J.cm14,ui J.cm16,ui J.cm18,ui J.cm21,ui J.cm24,ui J.cv3,ui J.cv5,fun h=>(J.a2 (ud h)).keep hk,fun h=>(J.a4 (ud h)).keep hk,fun h=>by obtain⟨m,es,c,h3,h4,h5,h6⟩:=J.mp (ud h);exact⟨m,es,c,h3,h4,aa m _ _ h5,h6.congr (fun x=>(QoN 26 (by decide) x).symm)⟩,fun h=>J.m25u (ud h),fun _=>rfl,fun h=>J.m27 (ud h),ui J.m28⟩
theorem JT.s27(J:JT t b W mv1 L u29 u30 u31 u43 u44 u45 w)(h0:L 27=false):JT t b W mv1 (up L 27) u29 u30 u31 u43 u44 (.pointer (some ⟨b,9,none⟩)) w:=by
 have hk:∀ k cs ty,W.heap.size<=k->w.heap[k]?=some (.cells cs ty)->w.heap[k]?=some (.cells cs ty):=fun k cs ty _ h=>h
 have aa:∀(m:Nat) (es:Array MapEntry) (c:Nat),w.heap[m]?=some (Obj.map es c)->w.heap[m]?=some (Obj.map es c):=fun m es c h=>h
 exact⟨J.hb,J.mod,by rw[Qaf L (by decide)];exact J.rd,ui J.cm3,ui J.cm5,ui J.cm8,ui J.cm10,ui J.cm12,ui J.cm14,ui J.cm16,ui J.cm18,ui J.cm21,ui J.cm24,ui J.cv3,ui J.cv5,fun h=>(J.a2 (ud h)).keep hk,fun h=>(J.a4 (ud h)).keep hk,fun h=>by obtain⟨m,es,c,h3,h4,h5,h6⟩:=J.mp (ud h);exact⟨m,es,c,h3,h4,aa m _ _ h5,h6.congr (fun x=>(QoN 27 (by decide) x).symm)⟩,fun h=>J.m25u (ud h),fun h=>J.m26 (ud h),fun _=>rfl,ui J.m28⟩
theorem JT.s28(J:JT t b W mv1 L u29 u30 u31 u43 u44 u45 w)(h0:L 28=false)(ab:L 25=true):JT t b W mv1 (up L 28) u29 u30 u31 u43 u44 u45 (w.setCell ⟨b,9,none⟩ u43):=by
 have hb:=J.hb;have hk:∀ k cs ty,W.heap.size<=k->w.heap[k]?=some (.cells cs ty)->(w.setCell ⟨b,9,none⟩ u43).heap[k]?=some (.cells cs ty):=fun k cs ty hk h=>by rw[Below.heap_setCell _ _ _ _ (show k≠b by omega)];exact h
 have aa:∀(m:Nat) (es:Array MapEntry) (c:Nat),w.heap[m]?=some (Obj.map es c)->(w.setCell ⟨b,9,none⟩ u43).heap[m]?=some (Obj.map es c):=fun m es c h=>by
  have hr:=J.rd;rw[Below.heap_setCell _ _ _ _ (show m≠b from fun e=>by rw[e,hr]at h;cases h)];exact h
 exact⟨J.hb,J.mod.setCell 9 u43,by rw[Qbr];exact Qag _ _ _ _ _ _ J.rd,ui J.cm3,ui J.cm5,ui J.cm8,ui J.cm10,ui J.cm12,ui J.cm14,ui J.cm16,ui J.cm18,ui J.cm21,ui J.cm24,ui J.cv3,ui J.cv5,fun h=>(J.a2 (ud h)).keep hk,fun h=>(J.a4 (ud h)).keep hk,fun h=>by obtain⟨m,es,c,h3,h4,h5,h6⟩:=J.mp (ud h);exact⟨m,es,c,h3,h4,aa m _ _ h5,h6.congr (fun x=>(QoN 28 (by decide) x).symm)⟩,fun h=>J.m25u (ud h),fun h=>J.m26 (ud h),fun h=>J.m27 (ud h),fun _=>Qaj _ ab⟩
theorem JT.done(J:JT t b W mv1 L u29 u30 u31 u43 u44 u45 w)(aa:∀ i,i<29->L i=true)(ad:Qno W (b+1) b):∃ m pt pf,w.heap[b]?=some (Qb9 t mv1 (.map (some m)))/\Qo9 w b m (b+1) pt pf/\Mod b W w/\W.heap.size<=m:=by
 obtain⟨m,es,c,h3,h4,h5,h6⟩:=J.mp (aa 1 (by decide));obtain⟨pt,e1,hp1,ab⟩:=J.a2 (aa 2 (by decide));obtain⟨pf,e2,hp2,ac⟩:=J.a4 (aa 4 (by decide));have hb:=J.hb;have hr:=J.rd;rw[aa 28 (by decide),if_pos rfl,(J.m25 (aa 25 (by decide))).1,h3]at hr
 have hf:Qb3 es (testFn b (b+1) pt pf):=h6.congr (fun x=>by
  subst e1 e2;unfold fT testFn;simp only[aa 3 (by decide),aa 5 (by decide),aa 8 (by decide),aa 10 (by decide),aa 12 (by decide),aa 14 (by decide),aa 16 (by decide),aa 18 (by decide),aa 21 (by decide),aa 24 (by decide),if_true];generalize wL tNs x=i
  match i with
  |0|1|2|3|4|5|6|7|8|9|10=>rfl
  | n+11=>rfl)
 exact⟨m,pt,pf,hr,⟨Qnh (K:=9) (E:=197) underlying192 underlying9 Qxp h5 hf,ad.mod J.mod,Qaa ab 0,Qaa ac 0,by omega,by omega,by omega,Qar h5⟩,J.mod,h4⟩
end
end
end Go.Proofs.YthkibedbcbgajaaGreatDoor
