import Derived.MapFrom
import Derived.Orders
import Derived.Test.YtgnkjijocdmniaaGreatDoorChoice
namespace Go.Proofs.YtgnkjijocdmniaaGreatDoor
set_option linter.unusedVariables false
set_option linter.unusedSimpArgs false
set_option maxRecDepth 100000
set_option maxHeartbeats 4000000
open Go.Proofs.Tryz
variable{α:Type}{B F b c i j k m n p1 p2:Nat}{L:Nat->Bool}{a:Array MapEntry}{acc:List α}{f:L8->Option Value}{l x:L8}{o o':Obj}{req:Qa}{s:PS}{sub:PS->Qb (α×PS)}{v:Value}{w w':World}{y:Qa×PS}
section
open Go.RowKit
attribute [local go_sem ↓] Go.wp_at_zero Go.wp_at_succ
def cmdFn(b p1 k1 p2 k2 p3 k3:Nat)(x:L8):Option Value:=
 match wL cNs x with
 |1=>some (.func (.func 121) #[.pointer (some ⟨b,0,none⟩)] #[])
 |2=>some (.func (.func 122) #[.pointer (some ⟨b,0,none⟩)] #[])
 |3=>some (.func (.func 123) #[.pointer (some ⟨b,0,none⟩)] #[])
 |4=>some (.func (.func 178) #[] #[.pointer (some ⟨p1,0,none⟩),.pointer (some ⟨k1,0,none⟩)])
 |5=>some (.func (.func 178) #[] #[.pointer (some ⟨p2,0,none⟩),.pointer (some ⟨k2,0,none⟩)])
 |6=>some (.func (.func 178) #[] #[.pointer (some ⟨p3,0,none⟩),.pointer (some ⟨k3,0,none⟩)])
 |7=>some (.func (.func 125) #[.pointer (some ⟨b,0,none⟩)] #[])
 |8=>some (.func (.func 126) #[.pointer (some ⟨b,0,none⟩)] #[])
 |_=>none
structure JB (w:World) (b mc p1 k1 p2 k2 p3 k3:Nat):Prop where
 look:B4 w 207 mc (cmdFn b p1 k1 p2 k2 p3 k3)
 hp1:YJ w p1 b
 hk1:w.cell? ⟨k1,0,none⟩=some (.int .i64 2)
 hp2:YJ w p2 b
 hk2:w.cell? ⟨k2,0,none⟩=some (.int .i64 3)
 hp3:YJ w p3 b
 hk3:w.cell? ⟨k3,0,none⟩=some (.int .i64 4)
 k1b:k1≠b
 k2b:k2≠b
 k3b:k3≠b
 mcb:mc≠b
 mcl:mc < w.heap.size
theorem JB.mod{w w':World}{b mc p1 k1 p2 k2 p3 k3:Nat}(h:JB w b mc p1 k1 p2 k2 p3 k3)(hm:Mod b w w'):JB w' b mc p1 k1 p2 k2 p3 k3:=
 ⟨fun W x e=>h.look W x (e.trans (hm.block mc h.mcl h.mcb)),h.hp1.mod hm,YI h.hk1 hm h.k1b,h.hp2.mod hm,YI h.hk2 hm h.k2b,h.hp3.mod hm,YI h.hk3 hm h.k3b,h.k1b,h.k2b,h.k3b,h.mcb,Nat.lt_of_lt_of_le h.mcl hm.size⟩
theorem FM{k1 k2 p3 k3:Nat}(h:wL cNs x=0):cmdFn b p1 k1 p2 k2 p3 k3 x=none:=by unfold cmdFn;rw[h];rfl
theorem TT{k1 k2 p3 k3:Nat}(h:¬ wL cNs x=0):∃ fv,cmdFn b p1 k1 p2 k2 p3 k3 x=some fv:=by
 have c:=YU cNs x;have a:cNs.length=8:=rfl;unfold cmdFn;generalize wL cNs x=i at *;rcases(by omega:i=1\/i=2\/i=3\/i=4\/i=5\/i=6\/i=7\/i=8)with h|h|h|h|h|h|h|h<;>subst h<;>exact⟨_,rfl⟩
theorem TU:∀ z∈cNs,∀ c r,z=c::r->QP c.toNat=true:=by
 intro z a c r e;simp[cNs]at a;rcases a with h|h|h|h|h|h|h|h<;>subst h<;>cases e<;>decide
theorem TV:∀ z∈cNs,z≠[]:=by decide
theorem FN(f:¬ s.1.kind=1->VF s.1.spelt)(h:¬ wL cNs s.1.spelt=0):s.1.kind=1:=by
 apply Classical.byContradiction;intro e;have b:=FG h;have g:=TV _ b
 cases hsp:s.1.spelt with
 |nil=>exact g hsp
 |cons c r=>
  have d:=TU _ b c r hsp;have a:=f e c r hsp;rw[d]at a;cases a
theorem UK{f:Flt}(c:wL cNs s.1.spelt=k+1)(b:Zw req s.1.spelt=true)(a:nL l s.2=.error f):cmdL l req F (n+1) s=.error f:=by
 rw[cmdL,if_neg (by omega),if_pos b];exact Yd a
theorem UL{y:PS}(a:wL cNs s.1.spelt=k+1)(c:Zw req s.1.spelt=true)(b:nL l s.2=.ok y):cmdL l req F (n+1) s=cBd l F (Qq l req F n) (cmdL l req F n) k s.1.pos y:=by
 rw[cmdL,if_neg (by omega),if_pos c];refine(XV b).trans ?_;show cBd l F (Qq l req F n) (cmdL l req F n) (wL cNs s.1.spelt - 1) s.1.pos y=_
 rw[a];rfl
section
variable {α β:Type} {l:L8} {F pos:Nat} {tst:PS->Qb (β×PS)} {sub:PS->Qb (α×PS)} {s:PS}
theorem B8{α:Type}{l:L8}{s:PS}{a:α}{q:Nat×PS}(h:paL l [[59]] s=.ok q):semi l s a=.ok (a,q.2):=Qe h
theorem B9{α:Type}{l:L8}{s:PS}{a:α}{f:Flt}(h:paL l [[59]] s=.error f):semi l s a=.error f:=Qi h
theorem FO(h:cBd l F tst sub k pos s=Qp (sL l (fun _=>0) s) fun x s1=>semi l s1 (⟨k,pos,0,x,[],false⟩,[],[])):cBd l F tst sub k pos s=Qp (Na l s) fun x s1=>.ok ((⟨k,pos,0,x,[],false⟩,[],[]),s1):=by
 rw[h];unfold Na
 cases sL l (fun _=>0) s with
 |error f=>rfl
 |ok y=>
  rw[Qe (r:=.ok y) rfl,Qe (r:=.ok y) rfl];unfold semi
  cases paL l [[59]] y.2 with
  |error f=>rfl
  |ok z=>rfl
theorem Ca{q:L8×PS}(h:Na l s=.ok q)(a:cBd l F tst sub k pos s=Qp (sL l (fun _=>0) s) fun x s1=>semi l s1 (⟨k,pos,0,x,[],false⟩,[],[]):=by rfl):cBd l F tst sub k pos s=.ok ((⟨k,pos,0,q.1,[],false⟩,[],[]),q.2):=(FO a).trans (Qe h)
theorem Cb{f:Flt}(h:Na l s=.error f)(a:cBd l F tst sub k pos s=Qp (sL l (fun _=>0) s) fun x s1=>semi l s1 (⟨k,pos,0,x,[],false⟩,[],[]):=by rfl):cBd l F tst sub k pos s=.error f:=(FO a).trans (Qi h)
theorem TW:cBd l F tst sub 6 pos s=Qp (mayL l [Xs,Xt,Xu] s) fun tag s1=>Qp (sL l (fun x=>if isNameL x then 0 else 7) s1) fun v s2=>Qp (sL l (fun _=>0) s2) fun x s3=>semi l s3 (⟨6,pos,tag,x,zL v,false⟩,[],[]):=rfl
theorem FP:cBd l F tst sub 6 pos s=Qp (Nb l s) fun q s1=>.ok ((⟨6,pos,q.1,q.2.2,q.2.1,false⟩,[],[]),s1):=by
 rw[TW];unfold Nb
 cases mayL l [Xs,Xt,Xu] s with
 |error f=>rfl
 |ok y=>
  rw[Qe (r:=.ok y) rfl,Qe (r:=.ok y) rfl]
  cases sL l (fun x=>if isNameL x then 0 else 7) y.2 with
  |error f=>rfl
  |ok z=>
   rw[Qe (r:=.ok z) rfl,Qe (r:=.ok z) rfl]
   cases sL l (fun _=>0) z.2 with
   |error f=>rfl
   |ok u=>
    rw[Qe (r:=.ok u) rfl,Qe (r:=.ok u) rfl];unfold semi
    cases paL l [[59]] u.2 with
    |error f=>rfl
    |ok v=>rfl
theorem TX{q:(Nat×L8×L8)×PS}(h:Nb l s=.ok q):cBd l F tst sub 6 pos s=.ok ((⟨6,pos,q.1.1,q.1.2.2,q.1.2.1,false⟩,[],[]),q.2):=FP.trans (Qe h)
theorem TY{f:Flt}(h:Nb l s=.error f):cBd l F tst sub 6 pos s=.error f:=FP.trans (Qi h)
theorem TZ:cBd l F tst sub 7 pos s=Qp (armL l F tst sub s) fun a s1=>Qp (aMr l F tst sub F [a] s1) fun arms s2=>Qp (mayL l [Xv] s2) fun i s3=>if i=0 then .ok ((⟨7,pos,0,[],[],false⟩,arms,[]),s3)else Qp (blockL l F sub s3) fun cs s4=>.ok ((⟨7,pos,0,[],[],true⟩,arms,cs),s4):=rfl
theorem FQ:cBd l F tst sub 7 pos s=Qp (V5 l F tst sub s) fun x s1=>.ok ((⟨7,pos,0,[],[],x.2.1⟩,x.1,x.2.2),s1):=by
 rw[TZ];unfold V5
 cases h1:armL l F tst sub s with
 |error f=>rfl
 |ok y=>
  rw[Qe (r:=.ok y) rfl,Qe (r:=.ok y) rfl]
  cases h2:aMr l F tst sub F [y.1] y.2 with
  |error f=>rfl
  |ok z=>
   rw[Qe (r:=.ok z) rfl,Qe (r:=.ok z) rfl]
   cases h3:mayL l [Xv] z.2 with
   |error f=>rfl
   |ok u=>
    rw[Qe (r:=.ok u) rfl,Qe (r:=.ok u) rfl];by_cases h4:u.1=0
    ·rw[if_pos h4,if_pos h4];rfl
    ·rw[if_neg h4,if_neg h4]
     cases h5:blockL l F sub u.2 with
     |error f=>rfl
     |ok v=>rfl
theorem T0{q:(List (β×List α)×Bool×List α)×PS}(h:V5 l F tst sub s=.ok q):cBd l F tst sub 7 pos s=.ok ((⟨7,pos,0,[],[],q.1.2.1⟩,q.1.1,q.1.2.2),q.2):=FQ.trans (Qe h)
theorem T1{f:Flt}(h:V5 l F tst sub s=.error f):cBd l F tst sub 7 pos s=.error f:=FQ.trans (Qi h)
end
theorem T2(d:Int)(b:Nat)(t:ByteArray)(s:PS)(l:Value)(a k p1 k1 p2 k2 p3 k3:Nat)(w:World)(h:RC w b t s l a k)(p:JB w b a p1 k1 p2 k2 p3 k3)(x:d<=6)(m:wL cNs s.1.spelt=0) :
 Calls prog 195 #[.pointer (some ⟨b,0,none⟩),.map (some a),.int .i64 d] w fun e w'=>Z5 ⟨4,s.1.pos⟩ w e w'/\Mod b w w':=by
 have u:=Qo h.at_;have v:w.cell? ⟨b,3,none⟩=some (.string (sA s.1.spelt)):=h.at_.cell 3;have n:=p.look w s.1.spelt rfl;rw[FM m]at n;have H:=I h;clear h p m;simp only[Option.getD_none,Option.isSome_none]at n;by_cases hk:s.1.kind=1
 ·have q:((s.1.kind:Int) != 1)=false:=by simp;omega
  clear hk;go_enter func195,ntmps195;go_wp2_with fail;refine(ZE b _ _ _ rfl).mono ?_;rintro e w' ⟨rfl,i⟩;subst i;go_wp2_with fail;refine(XP b 4 _ _ t s.1 s.2 l a k _ H.o.at_ rfl rfl).mono ?_;rintro e r ⟨⟨c,j,rfl,f⟩,g⟩;exact⟨rfl,⟨c,j,rfl,f⟩,Mod.of_below g⟩
 ·have q:((s.1.kind:Int) != 1)=true:=by simp;omega
  clear hk;go_enter func195,ntmps195;go_wp2_with fail;refine(ZE b _ _ _ rfl).mono ?_;rintro e w' ⟨rfl,i⟩;subst i;go_wp2_with fail;refine(XP b 4 _ _ t s.1 s.2 l a k _ H.o.at_ rfl rfl).mono ?_;rintro e r ⟨⟨c,j,rfl,f⟩,g⟩;exact⟨rfl,⟨c,j,rfl,f⟩,Mod.of_below g⟩
theorem T3(q:Value)(req:Qa)(d:Int)(b:Nat)(t:ByteArray)(s:PS)(c:Value)(a f p1 k1 p2 k2 p3 k3:Nat)(w:World)(h:RC w b t s c a f)(l:JB w b a p1 k1 p2 k2 p3 k3)(k:Yf w b c req)(A:d<=6)(u:s.1.kind=1)(i:cmdFn b p1 k1 p2 k2 p3 k3 s.1.spelt=some q)(m:Zw req s.1.spelt=false) :
 Calls prog 195 #[.pointer (some ⟨b,0,none⟩),.map (some a),.int .i64 d] w fun e w'=>Z5 ⟨6,s.1.pos⟩ w e w'/\Mod b w w':=by
 have y:=Qo h.at_;have z:w.cell? ⟨b,3,none⟩=some (.string (sA s.1.spelt)):=h.at_.cell 3;have j:=l.look w s.1.spelt rfl;rw[i]at j;have H:=I h;have g:=I (Gc s.1.spelt req b t s c a f w h k);rw[m]at g;clear h l k i m;simp only[Option.getD_some,Option.isSome_some]at j;have B:((s.1.kind:Int) != 1)=false:=by simp;omega
 clear u;go_enter func195,ntmps195;go_wp2_with fail;refine(ZE b _ _ _ rfl).mono ?_;rintro e w' ⟨rfl,n⟩;subst w';go_wp2_with fail;refine(ZE b _ _ _ rfl).mono ?_;rintro e w' ⟨rfl,n⟩;subst w';go_wp2_with fail;refine g.o.mono ?_;rintro e w' ⟨rfl,n⟩;subst w';go_wp2_with fail;refine(XP b 6 _ _ t s.1 s.2 c a f _ H.o.at_ rfl rfl).mono ?_;rintro e C ⟨⟨p,x,rfl,r⟩,v⟩;exact⟨rfl,⟨p,x,rfl,r⟩,Mod.of_below v⟩
theorem T4(b:Nat)(t:ByteArray)(s:PS)(m:Value)(a l p1 k1 p2 k2 p3 k3:Nat)(w:World)(h:RC w b t s m a l)(j:JB w b a p1 k1 p2 k2 p3 k3) :
 Calls prog 195 #[.pointer (some ⟨b,0,none⟩),.map (some a),.int .i64 7] w fun e w'=>Z5 ⟨if s.1.kind=1 then 5 else 4,s.1.pos⟩ w e w'/\Mod b w w':=by
 have q:=Qo h.at_;have r:w.cell? ⟨b,3,none⟩=some (.string (sA s.1.spelt)):=h.at_.cell 3;have g:=j.look w s.1.spelt rfl;have H:=I h;by_cases hk:s.1.kind=1
 ·rw[if_pos hk];have n:((s.1.kind:Int) != 1)=false:=by simp;omega
  clear hk h j g;go_enter func195,ntmps195;go_wp2_with fail;refine(XP b 5 _ _ t s.1 s.2 m a l _ H.o.at_ rfl rfl).mono ?_;rintro e p ⟨⟨d,k,rfl,f⟩,i⟩;exact⟨rfl,⟨d,k,rfl,f⟩,Mod.of_below i⟩
 ·rw[if_neg hk]
  have c:wL cNs s.1.spelt=0:=by
   apply Classical.byContradiction;intro c;exact hk (FN h.nm c)
  rw[FM c]at g;have n:((s.1.kind:Int) != 1)=true:=by simp;omega
  clear hk h j c;simp only[Option.getD_none,Option.isSome_none]at g;go_enter func195,ntmps195;go_wp2_with fail;refine(ZE b _ _ _ rfl).mono ?_;rintro e w' ⟨rfl,u⟩;subst w';go_wp2_with fail;refine(XP b 4 _ _ t s.1 s.2 m a l _ H.o.at_ rfl rfl).mono ?_;rintro e p ⟨⟨d,k,rfl,f⟩,i⟩;exact⟨rfl,⟨d,k,rfl,f⟩,Mod.of_below i⟩
theorem Cc(f:FuncId)(q N:Nat)(n:Nat)(req:Qa)(d:Int)(b F:Nat)(t:ByteArray)(s:PS)(c:Value)(a i p1 k1 p2 k2 p3 k3:Nat)(w:World)(h:RC w b t s c a i)(K:JB w b a p1 k1 p2 k2 p3 k3)(J:Yf w b c req)(ab:0<=d)(hd:d<=6)(U:s.1.kind=1)(L:Zw req s.1.spelt=true)
 (D:cmdFn b p1 k1 p2 k2 p3 k3 s.1.spelt=some (.func (.func f) #[] #[.pointer (some ⟨q,0,none⟩),.pointer (some ⟨N,0,none⟩)])) (aa:∀ args W,(callFunc f args).run prog W=.ok (.enter f args) W) (E:∀ f2,nL t.data.toList s.2=.error f2->cmdL t.data.toList req F (n+1) s=.error f2)
 (C:∀ W y,Mod b w W->RC W b t y c a i->nL t.data.toList s.2=.ok y->Calls prog f #[.agg #[.string (sA s.1.spelt),.int .i64 s.1.pos],.int .i64 d,.pointer (some ⟨q,0,none⟩),.pointer (some ⟨N,0,none⟩)] W (Qg (cmdL t.data.toList req F (n+1) s) b t c a i w (XS (n+1) (fromB w.heap.size)))) :
 Calls prog 195 #[.pointer (some ⟨b,0,none⟩),.map (some a),.int .i64 d] w (Qg (cmdL t.data.toList req F (n+1) s) b t c a i w (XS (n+1) (fromB w.heap.size))):=by
 have h1:=Qo h.at_;have h2:=QG h.at_;have h3:w.cell? ⟨b,3,none⟩=some (.string (sA s.1.spelt)):=h.at_.cell 3;have p:=K.look w s.1.spelt rfl;rw[D]at p;have H:=I h;have k:=I (Gc s.1.spelt req b t s c a i w h J);rw[L]at k;have R:=I E;have Q:=I C;have V:=h.at_.lt;clear h K J D L E C;simp only[Option.getD_some,Option.isSome_some]at p;have ae:((s.1.kind:Int) != 1)=false:=by simp;omega
 clear U;go_enter func195,ntmps195;go_wp2_with fail;refine(ZE b _ _ _ rfl).mono ?_;rintro e g ⟨rfl,u⟩;subst g;go_wp2_with fail;refine(ZE b _ _ _ rfl).mono ?_;rintro e g ⟨rfl,u⟩;subst g;go_wp2_with fail;refine k.o.mono ?_;rintro e g ⟨rfl,u⟩;subst g;go_wp2_with fail;refine(ZE b _ _ _ rfl).mono ?_;rintro e g ⟨rfl,u⟩;subst g;clear k p;go_wp2_with fail;go_region
 all_goals go_wp2_with fail
 all_goals
  refine(Jk b t s c a i _ ((H.o.alloc _).drew)).mono ?_;rintro e w2 (⟨y,hy,rfl,hc,hm⟩ | ⟨f2,hf2,⟨l,x,rfl,m⟩,hm⟩)
 all_goals first
  |exact⟨rfl,Qg.err (R.o _ hf2) (((Mod.refl b w).alloc _).trans (Zt hm)) ⟨l,by simp at x;omega,rfl,m⟩⟩
  |skip
 all_goals
  obtain⟨ac,ad,r⟩:=Ap hm V;have Y:=I r;have X:=I hc;have P:=I (Q.o _ y r hc hy);clear hm hc hy r;go_wp2_with fail;refine P.o.mono ?_;intro e w3 A;have z:=I A;clear A;rcases z.o.cases with⟨q,v,G,rfl,M,B,j⟩ | ⟨Z,T,⟨l,x,rfl,m⟩,j⟩
 all_goals first
  |exact⟨rfl,Qg.err T j ⟨l,x,rfl,m⟩⟩
  |skip
 all_goals
  have S:=I (Qg.ok G j M B);clear G j M B z;go_wp2;go_ret;exact S.o
theorem Nc(f:FuncId)(n:Nat)(req:Qa)(d:Int)(b F:Nat)(t:ByteArray)(s:PS)(c:Value)(a i p1 k1 p2 k2 p3 k3:Nat)(w:World)(h:RC w b t s c a i)(K:JB w b a p1 k1 p2 k2 p3 k3)(J:Yf w b c req)(ab:0<=d)(hd:d<=6)(T:s.1.kind=1)(L:Zw req s.1.spelt=true)
 (D:cmdFn b p1 k1 p2 k2 p3 k3 s.1.spelt=some (.func (.func f) #[.pointer (some ⟨b,0,none⟩)] #[])) (aa:∀ args W,(callFunc f args).run prog W=.ok (.enter f args) W) (E:∀ f2,nL t.data.toList s.2=.error f2->cmdL t.data.toList req F (n+1) s=.error f2)
 (C:∀ W y,Mod b w W->RC W b t y c a i->nL t.data.toList s.2=.ok y->Calls prog f #[.pointer (some ⟨b,0,none⟩),.agg #[.string (sA s.1.spelt),.int .i64 s.1.pos],.int .i64 d] W (Qg (cmdL t.data.toList req F (n+1) s) b t c a i w (XS (n+1) (fromB w.heap.size)))) :
 Calls prog 195 #[.pointer (some ⟨b,0,none⟩),.map (some a),.int .i64 d] w (Qg (cmdL t.data.toList req F (n+1) s) b t c a i w (XS (n+1) (fromB w.heap.size))):=by
 have Z:=Qo h.at_;have h2:=QG h.at_;have h3:w.cell? ⟨b,3,none⟩=some (.string (sA s.1.spelt)):=h.at_.cell 3;have p:=K.look w s.1.spelt rfl;rw[D]at p;have H:=I h;have k:=I (Gc s.1.spelt req b t s c a i w h J);rw[L]at k;have Q:=I E;have P:=I C;have U:=h.at_.lt;clear h K J D L E C;simp only[Option.getD_some,Option.isSome_some]at p;have ae:((s.1.kind:Int) != 1)=false:=by simp;omega
 clear T;go_enter func195,ntmps195;go_wp2_with fail;refine(ZE b _ _ _ rfl).mono ?_;rintro e g ⟨rfl,u⟩;subst g;go_wp2_with fail;refine(ZE b _ _ _ rfl).mono ?_;rintro e g ⟨rfl,u⟩;subst g;go_wp2_with fail;refine k.o.mono ?_;rintro e g ⟨rfl,u⟩;subst g;go_wp2_with fail;refine(ZE b _ _ _ rfl).mono ?_;rintro e g ⟨rfl,u⟩;subst g;clear k p;go_wp2_with fail;go_region
 all_goals go_wp2_with fail
 all_goals
  refine(Jk b t s c a i _ ((H.o.alloc _).drew)).mono ?_;rintro e w2 (⟨y,hy,rfl,hc,hm⟩ | ⟨f2,hf2,⟨l,x,rfl,m⟩,hm⟩)
 all_goals first
  |exact⟨rfl,Qg.err (Q.o _ hf2) (((Mod.refl b w).alloc _).trans (Zt hm)) ⟨l,by simp at x;omega,rfl,m⟩⟩
  |skip
 all_goals
  obtain⟨ac,ad,r⟩:=Ap hm U;have X:=I r;have V:=I hc;have N:=I (P.o _ y r hc hy);clear hm hc hy r;go_wp2_with fail;refine N.o.mono ?_;intro e w3 A;have z:=I A;clear A;rcases z.o.cases with⟨q,v,G,rfl,M,B,j⟩ | ⟨Y,S,⟨l,x,rfl,m⟩,j⟩
 all_goals first
  |exact⟨rfl,Qg.err S j ⟨l,x,rfl,m⟩⟩
  |skip
 all_goals
  have R:=I (Qg.ok G j M B);clear G j M B z;go_wp2;go_ret;exact R.o
theorem T5(n:Nat)(req:Qa)(d:Int)(b F:Nat)(t:ByteArray)(s:PS)(i:Value)(c j p1 k1 p2 k2 p3 k3:Nat)(w:World)(h:RC w b t s i c j)(l:JB w b c p1 k1 p2 k2 p3 k3)(B:Yf w b i req)(hF:2*t.size+1<F)(z:0<=d)(u:d<=6)(G:SubMu t.size (cmdL t.data.toList req F n))(J:YA 186 w b t i c j (d+1) (Qq t.data.toList req F n) (TestV n))(H:YA 143 w b t i c j (d+1) (cmdL t.data.toList req F n) (XS n)) :
 Calls prog 195 #[.pointer (some ⟨b,0,none⟩),.map (some c),.int .i64 d] w (Qg (cmdL t.data.toList req F (n+1) s) b t i c j w (XS (n+1) (fromB w.heap.size))):=by
 by_cases h0:wL cNs s.1.spelt=0
 ·refine(T2 d b t s i c j p1 k1 p2 k2 p3 k3 w h l u h0).mono ?_;rintro e K ⟨h1,h2⟩;exact Qg.err (by rw[cmdL,if_pos h0]) h2 h1
 have A:=FN h.nm h0;cases hu:Zw req s.1.spelt
 ·obtain⟨E,hf⟩:=TT (b:=b) (p1:=p1) (k1:=k1) (p2:=p2) (k2:=k2) (p3:=p3) (k3:=k3) h0;refine(T3 E req d b t s i c j p1 k1 p2 k2 p3 k3 w h l B u A hf hu).mono ?_;rintro e K ⟨h1,h2⟩;exact Qg.err (by rw[cmdL,if_neg h0,if_neg (by rw[hu];decide)]) h2 h1
 have M:=YU cNs s.1.spelt;have L:cNs.length=8:=rfl;rcases(by omega:wL cNs s.1.spelt=0+1\/wL cNs s.1.spelt=1+1\/wL cNs s.1.spelt=2+1\/wL cNs s.1.spelt=3+1\/wL cNs s.1.spelt=4+1\/wL cNs s.1.spelt=5+1\/wL cNs s.1.spelt=6+1\/wL cNs s.1.spelt=7+1)with hi|hi|hi|hi|hi|hi|hi|hi
 ·refine Nc 121 n req d b F t s i c j p1 k1 p2 k2 p3 k3 w h l B z u A hu (by unfold cmdFn;rw[hi];rfl) (fun _ _=>by kernel_rfl) (fun C o=>UK hi hu o) (fun W y HM m r=>?_);have p:s.1.spelt=JH:=by have:=Zu _ _ _ hi;simpa[cNs]using this.symm
  have HE:=UL (F:=F) (n:=n) hi hu r;refine(To s.1.spelt s.1.pos d b t y i c j _ m).mono ?_;intro e D h3';exact Qg.lift (fun _=>((⟨0,s.1.pos,0,[],[],false⟩:Zx),[],[])) h3' HM (fun q hq=>HE.trans (B8 hq)) (fun f hf=>HE.trans (B9 hf)) (fun a v _ hv=>by rw[p]at hv;exact hv)
 ·refine Nc 122 n req d b F t s i c j p1 k1 p2 k2 p3 k3 w h l B z u A hu (by unfold cmdFn;rw[hi];rfl) (fun _ _=>by kernel_rfl) (fun C o=>UK hi hu o) (fun W y HM m r=>?_);have p:s.1.spelt=JI:=by have:=Zu _ _ _ hi;simpa[cNs]using this.symm
  have HE:=UL (F:=F) (n:=n) hi hu r;refine(Tp s.1.spelt s.1.pos d b t y i c j _ m).mono ?_;intro e D h3';exact Qg.lift (fun _=>((⟨1,s.1.pos,0,[],[],false⟩:Zx),[],[])) h3' HM (fun q hq=>HE.trans (B8 hq)) (fun f hf=>HE.trans (B9 hf)) (fun a v _ hv=>by rw[p]at hv;exact hv)
 ·refine Nc 123 n req d b F t s i c j p1 k1 p2 k2 p3 k3 w h l B z u A hu (by unfold cmdFn;rw[hi];rfl) (fun _ _=>by kernel_rfl) (fun C o=>UK hi hu o) (fun W y HM m r=>?_);have p:s.1.spelt=JJ:=by have:=Zu _ _ _ hi;simpa[cNs]using this.symm
  have HE:=UL (F:=F) (n:=n) hi hu r;refine(Tq s.1.spelt s.1.pos d b t y i c j _ m).mono ?_;intro e D h3';exact Qg.lift (fun _=>((⟨2,s.1.pos,0,[],[],false⟩:Zx),[],[])) h3' HM (fun q hq=>HE.trans (B8 hq)) (fun f hf=>HE.trans (B9 hf)) (fun a v _ hv=>by rw[p]at hv;exact hv)
 ·refine Cc 178 p1 k1 n req d b F t s i c j p1 k1 p2 k2 p3 k3 w h l B z u A hu (by unfold cmdFn;rw[hi];rfl) (fun _ _=>by kernel_rfl) (fun C o=>UK hi hu o) (fun W y HM m r=>?_);have p:s.1.spelt=Ze:=by have:=Zu _ _ _ hi;simpa[cNs]using this.symm
  have HE:=UL (F:=F) (n:=n) hi hu r;refine(B2 s.1.spelt s.1.pos d p1 k1 2 b t y i c j _ m (l.mod HM).hp1 (l.mod HM).hk1 (l.mod HM).k1b).mono ?_;intro e D h3';exact Qg.lift (fun x=>((⟨3,s.1.pos,0,x,[],false⟩:Zx),[],[])) h3' HM (fun q hq=>HE.trans (Ca hq)) (fun f hf=>HE.trans (Cb hf)) (fun a v _ hv=>by rw[p]at hv;exact hv)
 ·refine Cc 178 p2 k2 n req d b F t s i c j p1 k1 p2 k2 p3 k3 w h l B z u A hu (by unfold cmdFn;rw[hi];rfl) (fun _ _=>by kernel_rfl) (fun C o=>UK hi hu o) (fun W y HM m r=>?_);have p:s.1.spelt=Yn:=by have:=Zu _ _ _ hi;simpa[cNs]using this.symm
  have HE:=UL (F:=F) (n:=n) hi hu r;refine(B2 s.1.spelt s.1.pos d p2 k2 3 b t y i c j _ m (l.mod HM).hp2 (l.mod HM).hk2 (l.mod HM).k2b).mono ?_;intro e D h3';exact Qg.lift (fun x=>((⟨4,s.1.pos,0,x,[],false⟩:Zx),[],[])) h3' HM (fun q hq=>HE.trans (Ca hq)) (fun f hf=>HE.trans (Cb hf)) (fun a v _ hv=>by rw[p]at hv;exact hv)
 ·refine Cc 178 p3 k3 n req d b F t s i c j p1 k1 p2 k2 p3 k3 w h l B z u A hu (by unfold cmdFn;rw[hi];rfl) (fun _ _=>by kernel_rfl) (fun C o=>UK hi hu o) (fun W y HM m r=>?_);have p:s.1.spelt=Zf:=by have:=Zu _ _ _ hi;simpa[cNs]using this.symm
  have HE:=UL (F:=F) (n:=n) hi hu r;refine(B2 s.1.spelt s.1.pos d p3 k3 4 b t y i c j _ m (l.mod HM).hp3 (l.mod HM).hk3 (l.mod HM).k3b).mono ?_;intro e D h3';exact Qg.lift (fun x=>((⟨5,s.1.pos,0,x,[],false⟩:Zx),[],[])) h3' HM (fun q hq=>HE.trans (Ca hq)) (fun f hf=>HE.trans (Cb hf)) (fun a v _ hv=>by rw[p]at hv;exact hv)
 ·refine Nc 125 n req d b F t s i c j p1 k1 p2 k2 p3 k3 w h l B z u A hu (by unfold cmdFn;rw[hi];rfl) (fun _ _=>by kernel_rfl) (fun C o=>UK hi hu o) (fun W y HM m r=>?_);have p:s.1.spelt=ZW:=by have:=Zu _ _ _ hi;simpa[cNs]using this.symm
  have HE:=UL (F:=F) (n:=n) hi hu r;refine(Tx s.1.spelt s.1.pos d b t y i c j _ m).mono ?_;intro e D h3';exact Qg.lift (fun x=>((⟨6,s.1.pos,x.1,x.2.2,x.2.1,false⟩:Zx),[],[])) h3' HM (fun q hq=>HE.trans (TX hq)) (fun f hf=>HE.trans (TY hf)) (fun a v _ hv=>by rw[p]at hv;exact hv)
 ·refine Nc 126 n req d b F t s i c j p1 k1 p2 k2 p3 k3 w h l B z u A hu (by unfold cmdFn;rw[hi];rfl) (fun _ _=>by kernel_rfl) (fun C o=>UK hi hu o) (fun W y HM m r=>?_);have p:s.1.spelt=kIf:=by have:=Zu _ _ _ hi;simpa[cNs]using this.symm
  have HE:=UL (F:=F) (n:=n) hi hu r;refine(Re (Qq t.data.toList req F n) (TestV n) (cmdL t.data.toList req F n) (XS n) s.1.spelt s.1.pos d b F t y i c j _ m hF z (by omega) (Jg n) (Xf n) G (fun s g=>U4 n s g) (fun s g=>U3 n s g) (J.mod HM) (H.mod HM)).mono ?_;intro e D h3'
  exact Qg.lift (fun x=>((⟨7,s.1.pos,0,[],[],x.2.1⟩:Zx),x.1,x.2.2)) h3' HM (fun q hq=>HE.trans (T0 hq)) (fun f hf=>HE.trans (T1 hf)) (fun a v _ hv=>by
   rw[p]at hv;obtain⟨av,ev,rfl,h1,h2,h3⟩:=hv
   exact ⟨av,ev,rfl,Je.weak (Jg n) (Xf n) h2 h1 (fun k hk _=>Qm HM.size hk),h2,h3.weak (Xf n) (fun k hk _=>Qm HM.size hk)⟩)
theorem FR(r:Qb (α×PS))(n:α->World->Value->Prop)(d:Int)(b:Nat)(t:ByteArray)(s:PS)(g:Value)(a f:Nat)(w:World)(h:RC w b t s g a f)
 (j:Calls prog 195 #[.pointer (some ⟨b,0,none⟩),.map (some a),.int .i64 d] w (Qg r b t g a f w n)) :
 Calls prog 143 #[.pointer (some ⟨b,0,none⟩),.int .i64 d] w (Qg r b t g a f w n):=by
 have C:=KV h.at_;have p:=I j;clear j h;go_enter func143,ntmps143;go_wp2_with fail;refine p.o.mono ?_;intro e D i;rcases i.cases with⟨q,v,l,rfl,m,k,c⟩ | ⟨B,z,⟨x,A,rfl,y⟩,c⟩
 ·have u:=I (Qg.ok l c m k);clear i l c m k;go_wp2;go_ret;exact u.o
 ·exact⟨rfl,Qg.err z c ⟨x,A,rfl,y⟩⟩
theorem FS(req:Qa)(b F:Nat)(t:ByteArray)(d:Value)(a c pr pt pf p1 k1 p2 k2 p3 k3:Nat)(hF:2*t.size+1<F) :
 ∀(n:Nat),n<=7->∀(w:World),Y9 w b c pr pt pf->JB w b a p1 k1 p2 k2 p3 k3->Yf w b d req->YA 143 w b t d a c (7 - (n:Int)) (cmdL t.data.toList req F n) (XS n)
 |0,_,w,ht,hcm,hr=>fun W s hm hc=>by
  refine FR _ _ _ b t s d a c W hc ?_;refine(T4 b t s d a c p1 k1 p2 k2 p3 k3 W hc (hcm.mod hm)).mono ?_;rintro e j ⟨f,g⟩;refine Qg.err ?_ g f;rw[cmdL];split<;>rfl
 |n+1,hn,w,ht,hcm,hr=>fun W s hm hc=>by
  refine FR _ _ _ b t s d a c W hc ?_;have i:=FS req b F t d a c pr pt pf p1 k1 p2 k2 p3 k3 hF n (by omega) W (ht.mod hm) (hcm.mod hm) (hr.mod hm);have it:=TQ req b F t d a c pr pt pf hF n (by omega) W (ht.mod hm) (hr.mod hm);have e:(7:Int) - ((n+1:Nat):Int)+1=7 - (n:Int):=by omega
  exact T5 n req _ b F t s d a c p1 k1 p2 k2 p3 k3 W hc (hcm.mod hm) (hr.mod hm) hF (by omega) (by omega) (FK t req F n) (by rw[e];exact it) (by rw[e];exact i)
theorem FT{l:L8}{chk:L8->Nat}:∀(f:Nat) (acc:Qa) (s:PS),Gd l s->∀ y,moreL l chk f acc s=.ok y->2*y.1.length+mu l.length y.2<=2*acc.length+mu l.length s
 |0,acc,s,h=>fun y e=>by cases e;exact Nat.le_refl _
 |f+1,acc,s,h=>fun y e=>by
  rw[moreL]at e
  cases hp:paL l [[44],[93]] s with
  |error g=>rw[hp]at e;cases e
  |ok z=>
   rw[hp]at e;obtain⟨a,d⟩:=Vm (zs:=[[44],[93]]) h (by decide) z hp;dsimp only at e
   split at e
   ·cases hs:sL l chk z.2 with
    |error g=>rw[hs]at e;cases e
    |ok x=>
     rw[hs]at e;obtain⟨b,i⟩:=KR a x hs;have c:=FT f _ x.2 b y e;simp only[Qk,QD,Q4]at c;omega
   ·cases e;dsimp only;omega
theorem T6{chk:L8->Nat}(h:Gd l s):∀ y,sLs l chk F s=.ok y->2*y.1.length+mu l.length y.2<=mu l.length s+1:=fun y e=>by
 unfold sLs at e
 cases hm:mayL l [[91]] s with
 |error g=>rw[hm]at e;cases e
 |ok z=>
  rw[hm]at e;obtain⟨a,d⟩:=Gg (zs:=[[91]]) h (by decide) z hm;dsimp only at e
  cases hs:sL l chk z.2 with
  |error g=>rw[hs]at e;cases e
  |ok x=>
   rw[hs]at e;obtain⟨b,f⟩:=KR a x hs;dsimp only at e
   split at e
   ·cases e;simp only[QD,Q4];omega
   ·have c:=FT F _ x.2 b y e;simp only[QD,Q4]at c;omega
theorem T7(req:Qa)(x:L8):(ZF req x).length<=req.length+1:=by
 unfold ZF;split<;>simp
theorem FU:∀(xs req:Qa),(xs.foldl ZF req).length<=req.length+xs.length
 | [],req=>by simp
 |x::r,req=>by
  have a:=FU r (ZF req x);have b:=T7 req x;rw[List.foldl_cons,QD];omega
theorem FV{base:Nat}{a:Value}(h:w.ownsRow base 9 1 a req.length (Qw req))(e:req=[]->a=.slice none 0 0)(k:b<base)(d:req.length<=1000):Yf w b a req:=by
 by_cases hr:req=[]
 ·exact Qd ⟨e hr,hr⟩
 ·obtain⟨g,c,i,l,f,j⟩:=slB.of_owns h rfl hr;exact Qc ⟨g,c,i,by omega,f,j,d⟩
theorem Kd.mod{g er:Nat}{zs:Qa}(h:Kd w p1 p2 g n c er zs)(hm:Mod b w w')(h1:p1≠b)(h2:p2≠b)(h3:g≠b):Kd w' p1 p2 g n c er zs:=
 ⟨YI h.1 hm h1,YI h.2.1 hm h2,fun j hj=>YI (h.2.2.1 j hj) hm h3,h.2.2.2.1,h.2.2.2.2⟩
def Aq:Qa:=[QN,Ze,Zf,ZJ]
theorem RC.setReq{t:ByteArray}{rv:Value}{mc mt:Nat}(h:RC w b t s rv mc mt)(v:Value):RC (w.setCell ⟨b,7,none⟩ v) b t s v mc mt:=
 h.step ((Mod.refl b w).setCell 7 v) (Qv w b 7 v _ _ h.at_) h.le h.sz h.e0 h.nm
def T8(r:Qb (Qa×PS))(b:Nat)(t:ByteArray)(mc mt:Nat)(w:World)(e:Ending)(w':World):Prop:=
 Mod b w w'/\((∃ y rv,r=.ok y/\e=.returned (.tuple #[])/\RC w' b t y.2 rv mc mt/\Yf w' b rv y.1/\∀ k,rv.ownBlock=some k->w.heap.size<=k)\/(∃ f,r=.error f/\Z5 f w e w'))
theorem T9(b F:Nat)(t:ByteArray)(s:PS)(y z:Nat)(w:World)(h:RC w b t s (.slice none 0 0) y z)(hF:2*t.size+1<F) :
 Calls prog 142 #[.pointer (some ⟨b,0,none⟩)] w (T8 (reqMore t.data.toList F F [] s) b t y z w):=by
 have H:=I h;have bK:=h.at_.lt;have bn:=h.mu_le;have aZ:=h.mu_lt hF;clear h;obtain⟨i0,hi,bw,bx,bz⟩:=info_parts Tryz.infoStr;go_enter func142,ntmps142;go_wp2_with fail
 go_loopw [] (fun wr=>∃(K:PS) (m:Qa) (r:Value) (f:Nat),RC wr b t K r y z/\wr.ownsRow w.heap.size 9 1 r m.length (Qw m)/\(m=[]->r=.slice none 0 0)/\Mod b w wr/\mu t.size K<f/\2*m.length+mu t.size K<=1300/\reqMore t.data.toList F F [] s=reqMore t.data.toList F f m K) (fun wr=>muW wr b t.size)
 case atStart=>exact⟨s,[],.slice none 0 0,F,H.o,World.ownsRow_nil _ _ _ _,fun _=>rfl,Mod.refl _ _,aZ,by simp;omega,rfl⟩
 case round=>
  obtain⟨K,m,r,f,J,ac,ab,D,hf,bE,a0⟩:=hrel;obtain⟨f,rfl⟩:∃ g,f=g+1:=⟨f - 1,by omega⟩;have bM:=J.muEq;have bN:wr.heap.size=wr.heap.size:=rfl;generalize hMR:muW wr b t.size=MR at *;have HR:=I J;have ay:=I D;have S:=I a0;have aQ:=I ac;have az:=I ab;have bR:w.heap.size<=wr.heap.size:=D.size;clear J D a0 ac ab bn aZ;go_wp2_with fail;refine(VG b wr.heap.size 1 1 [YY] t K r y z _ (HR.o.alloc _) (YE wr [YY] _ _ rfl) rfl (by decide)).mono ?_;intro e q h3;rcases h3.cases with⟨M,v3,aK,rfl,a1,aV,aq⟩ | ⟨f3,bg,⟨V,hz,rfl,Y⟩,aq⟩
  rotate_left
  ·exact⟨rfl,⟨(ay.o.alloc _).trans aq,Qc ⟨f3,S.o.trans (Qi bg),⟨V,by simp at hz;omega,rfl,Y⟩⟩⟩⟩
  have au:=GS (l:=t.data.toList) (by simpa using HR.o.le) HR.o.e0 (by decide) aK;rw[bal]at au;have aY:=au.2.1;replace au:=au.1;have aC:=((Mod.refl b wr).alloc (.cells #[.string (sA YY)] 9)).trans aq;have ag:=I (ay.o.trans aC);have ao:=I aK;have av:=I aV;have ai:=I (ZV (b:=b) aQ.o aC (by omega));unfold XY at a1;subst a1;clear h3 aK aV aq aC;by_cases h1:M.1=0
  ·have bf:¬(0:Int)<(M.1:Int):=by omega
   have N:=I h1;clear h1;go_wp2;go_end0;exact⟨ag.o,Qd ⟨(m,M.2),r,S.o.trans ((Qe ao.o).trans (if_pos N.o)),rfl,av.o,FV ai.o az.o (by omega) (show m.length<=1000 by omega),fun k p=>(ai.o.lt k p).1⟩⟩
  have bf:(0:Int)<(M.1:Int):=by omega
  have bL:=aY h1;have N:=I h1;clear h1 aY;go_wp2_with (go_at_call 137;refine(A0 _ _ _ _ _).mono ?_;rintro e w' ⟨rfl,rfl⟩);obtain⟨U,G⟩:=QE (((q.alloc (.cells #[.string ⟨#[101,110,118,101,108,111,112,101]⟩,.string ⟨#[102,105,108,101,105,110,116,111]⟩,.string ⟨#[114,101,106,101,99,116]⟩,.string ⟨#[118,97,114,105,97,98,108,101,115]⟩] 9)).alloc (.cells #[.int .i64 6] 33)).alloc (.cells #[.slice (some ⟨q.heap.size,0,none⟩) 4 4] 61));have bP:w.heap.size<=q.heap.size:=ag.o.size
  have ba:Hid (Kd U (q.heap.size+1+1) (q.heap.size+1) q.heap.size 4 4 6 Aq):=by
   rw[G];refine⟨?_,?_,?_,rfl,by decide⟩
   ·exact Qn (Zv (by simp)) 0
   ·exact Qn (Qy (Zv (by simp))) 0
   ·exact((YE q Aq _ _ rfl).below (Qs _)).below (Qs _)
  have aj:Hid (RC U b t M.2 r y z):=by rw[G];exact((av.o.alloc _).alloc _).alloc _
  have aE:Mod b q U:=by rw[G];exact(((Mod.refl b q).alloc _).alloc _).alloc _
  have ax:=I (ag.o.trans aE);have aR:=I (ZV (b:=b) ai.o aE (by omega));have bT:U.heap.size=q.heap.size+1+1+1:=by rw[G];simp
  rw[<-G];clear G aE;refine(Ah (.func (.func 190) #[] #[.pointer (some ⟨q.heap.size+1+1,0,none⟩),.pointer (some ⟨q.heap.size+1,0,none⟩)]) (XQ 6 Aq) b F t M.2 r y z _ aj.o (fun W s hm hc=>C8 _ _ _ 4 4 6 Aq b t s r y z W hc (ba.o.mod hm (by omega) (by omega) (by omega))) (by have:=aj.o.mu_lt hF;exact this)).mono ?_;intro e w5 h5;rcases h5.cases with⟨d,v5,aL,rfl,bs,aW,aa⟩ | ⟨f5,bh,⟨V,hz,rfl,Y⟩,aa⟩
  rotate_left
  ·exact⟨rfl,⟨ax.o.trans aa,Qc ⟨f5,S.o.trans ((Qe ao.o).trans ((if_neg N.o).trans (Qi bh))),⟨V,Qm ax.o.size hz,rfl,Y⟩⟩⟩⟩
  have bm:=T6 (l:=t.data.toList) ⟨by simpa using aj.o.le,aj.o.e0⟩ d aL;rw[bal]at bm;obtain⟨xg,xc,rfl,bS,ae,bv⟩:=bs;have aA:=I ae;have aO:=I (ax.o.trans aa);have aT:=I aL;have aw:=I aW;have aP:=I (ZV (b:=b) aR.o aa (by omega));have bq:∀ k,r.ownBlock=some k->k<U.heap.size:=fun k p=>(aR.o.lt k p).2
  clear h5 aL aW aa ae;go_wp2_with fail
  go_loopw [13] (fun i L=>∃(k:Nat) (v:Value),i=.int .i64 k/\k<=d.1.length/\RC L b t d.2 v y z/\L.ownsRow w.heap.size 9 1 v ((d.1.take k).foldl ZF m).length (Qw ((d.1.take k).foldl ZF m))/\((d.1.take k).foldl ZF m=[]->v=.slice none 0 0)/\Mod b w L/\Zm L xg d.1/\(∀ g,v.ownBlock=some g->g≠xg)/\muW L b t.size=mu t.size d.2/\xg<L.heap.size) (fun i _=>d.1.length - (intOf i).toNat)
  case atStart=>exact⟨0,r,rfl,QC,aw.o,aP.o,az.o,aO.o,aA.o,fun k p e=>by have:=bq k p;omega,aw.o.muEq,QI (aA.o 0 (List.length_pos_iff.2 bv))⟩
  case round=>
   obtain⟨k,v,rfl,p,J,ac,ab,D,ae,aJ,bo,hxl⟩:=hrel;have bj:=FU (d.1.take k) m;have bO:(d.1.take k).length=k:=by rw[List.length_take];omega
   have B:=I J;have A:=I ac;have ah:=I ab;have Q:=I D;have aB:=I ae;have bQ:w.heap.size<=wr.heap.size:=D.size;clear J ac ab D ae aw aP aO aA HR aQ az ay ai av ag;by_cases hkl:k<d.1.length
   ·have hx:(d.1.take (k+1)).foldl ZF m=ZF ((d.1.take k).foldl ZF m) (d.1.getD k []):=by
     rw[List.take_add_one,List.foldl_append,List.getElem?_eq_getElem hkl,List.getD_eq_getElem?_getD,List.getElem?_eq_getElem hkl];rfl
    have ak:=I hx;have bF:wr.cell? ⟨xg,k,none⟩=some (.string (sA (d.1.getD k []))):=aB.o k hkl;have h7:=YT B.o.at_;generalize hR:(d.1.take k).foldl ZF m=R at *;generalize d.1.getD k []=x at *;have af:=I (Fu wr b v R x (FV A.o ah.o (by omega) (by omega)))
    obtain⟨ra,rn,rc,bp⟩:∃ a n c,v=.slice a n c:=by
     obtain⟨_,h2⟩:=A.o;rcases h2 with⟨h,_⟩ | ⟨g,bB,bC,h,_⟩
     ·exact⟨_,_,_,h⟩
     ·exact⟨_,_,_,h⟩
    subst bp;clear hx hR;by_cases hw0:0<wL R x
    ·rw[QO hw0]at af;have P:Hid (ZF R x=R):=by show _=_;unfold ZF;rw[if_pos hw0]
     clear hw0;go_wp2_with (go_at_call 64;refine af.o.mono ?_;rintro e w' ⟨rfl,bt⟩;subst w');go_roundw
     case rel=>exact⟨k+1,_,by go_num,by omega,B.o,by rw[ak.o,P.o];exact A.o,fun hh=>ah.o (by rw[ak.o,P.o]at hh;exact hh),Q.o,aB.o,aJ,bo,hxl⟩
     case measure=>simp[intOf];omega
    ·rw[Qr hw0]at af;have P:Hid (ZF R x=R++[x]):=by show _=_;unfold ZF;rw[if_neg hw0]
     clear hw0;have bG:wr.frozen? ⟨b,7,none⟩=false:=B.o.at_.frozen 7;go_wp2_with (first|(go_at_call 64;refine af.o.mono ?_;rintro e w' ⟨rfl,bt⟩;subst w')|(at_builtin;refine wpList_append_own_at _ rfl _ _ 61 rfl w.heap.size 9 i0 (.string ⟨#[]⟩) 1 16 underlying61 hi bw bx bz rfl (by decide) _ _ _ rfl (A.o.alloc _) ⟨wr.heap.size,0,none⟩ 1 1 [.string (sA x)] rfl rfl ?c1 ?c2 ?c3 ?c4 ?c5 ?_))
     case c1=>exact cell_one_new _ _ _
     case c2=>intro u hu;simp at hu;subst hu;rfl
     case c3=>unfold maxLen;omega
     case c4=>omega
     case c5=>simp;omega
     ·intro v' E ad Z _ aF;have bl:R.length+1=(R++[x]).length:=by simp
      rw[show Qw R++[.string (sA x)]=Qw (R++[x])from Jz R x,bl]at ad;obtain⟨C,X,rfl,bI,_,_⟩:=slB.of_owns ad rfl (by simp);obtain⟨nn,aH⟩:=QE ((R++[x]).length);rw[<-aH]at ad aF ⊢;have aI:∀ k,(Value.slice ra rn rc).ownBlock=some k->w.heap.size<=k:=fun k p=>(A.o.lt k p).1
      have a3:Zm E xg d.1:=fun j hj=>by
       rw [World.cell?_of_block (w:=wr) (a:=⟨xg,j,none⟩) (by
        rw[Z.block xg (by simp;omega) (fun e=>aJ xg e.symm rfl)]
        exact Below.heap_alloc _ _ _ hxl)]
       exact aB.o j hj
      have bJ:C≠xg:=by
       rcases aF with h|h
       ·exact aJ C (by rw[<-h];rfl)
       ·simp[Value.ownBlock]at h;omega
      have ap:=(B.o.alloc (Obj.cells #[.string (sA x)] 9)).grown Z (fun k p=>by have:=aI k p;omega);have aU:=(Q.o.alloc (Obj.cells #[.string (sA x)] 9)).grown Z (fun k p=>aI k p);have bD:=YT ap.at_;have bH:E.frozen? ⟨b,7,none⟩=false:=ap.at_.frozen 7;have bu:xg<E.heap.size:=by have:=Z.size;simp at this;omega
      have aS:=I (ap.setReq (.slice (some ⟨C,0,none⟩) nn X));have a4:=I (aU.setCell 7 (.slice (some ⟨C,0,none⟩) nn X));have a8:=I (EF (T:=b) (o:=7) (x:=.slice (some ⟨C,0,none⟩) nn X) ad (fun k p=>by simp[Value.ownBlock]at p;omega))
      have bc:Hid (Zm (E.setCell ⟨b,7,none⟩ (.slice (some ⟨C,0,none⟩) nn X)) xg d.1):=fun j hj=>by
       rw[World.cell?_setCell_other _ _ _ _ (by simp;try omega)];exact a3 j hj
      have bA:(E.setCell ⟨b,7,none⟩ (.slice (some ⟨C,0,none⟩) nn X)).heap.size=E.heap.size:=by simp[World.setCell]
      have a7:=I aH;clear aH ad Z aF aI a3 ap aU;go_wp2;go_roundw
      case rel=>exact⟨k+1,_,by go_num,by omega,aS.o,by rw[ak.o,P.o,<-a7.o];exact a8.o,fun hh=>by rw[ak.o,P.o]at hh;simp at hh,a4.o,bc.o,fun g hg=>by simp[Value.ownBlock]at hg;omega,aS.o.muEq,by rw[bA];exact bu⟩
      case measure=>simp[intOf];omega
   ·have bk:k=d.1.length:=by omega
    subst bk;have br:d.1.take d.1.length=d.1:=List.take_length;rw[br]at A ah bj;go_wp2_with fail;have HP:=I (Kc b wr.heap.size 1 1 [[59]] t d.2 v y z _ (B.o.alloc (.cells (Qw [[59]]).toArray 9)) (JV _ _ rfl) rfl (by decide));refine HP.o.mono ?_;intro e w8 h8;rcases h8.cases with⟨y8,v8,aM,rfl,a2,aX,ar⟩ | ⟨f8,bi,⟨V,hz,rfl,Y⟩,ar⟩
    rotate_left
    ·exact⟨rfl,⟨(Q.o.alloc _).trans ar,Qc ⟨f8,S.o.trans ((Qe ao.o).trans ((if_neg N.o).trans ((Qe aT.o).trans (Qi bi)))),⟨V,Qm (Q.o.alloc _).size hz,rfl,Y⟩⟩⟩⟩
    have aG:=Ai (l:=t.data.toList) (by simpa using B.o.le) B.o.e0 (by decide) aM;rw[bal]at aG;replace aG:=aG.1;have aD:=((Mod.refl b wr).alloc (.cells (Qw [[59]]).toArray 9)).trans ar;have a5:=I (Q.o.trans aD);have a9:=I (ZV (b:=b) A.o aD (by omega));have aN:=I aX;have bd:=I aM;unfold XY at a2;subst a2;clear h8 aM aX ar aD HP
    have a6:Hid (muW w8 b t.size<MR):=by
     show _<_
     rw[aN.o.muEq];omega
    go_wp2;go_roundw
    case rel=>exact⟨y8.2,d.1.foldl ZF m,v,f,aN.o,a9.o,ah.o,a5.o,by omega,by omega,S.o.trans ((Qe ao.o).trans ((if_neg N.o).trans ((Qe aT.o).trans (Qe bd.o))))⟩
    case measure=>exact a6.o
def ps0:PS:=(⟨0,0,[],[],0⟩,0)
def Y0(X:Nat->Prop)(req:Qa)(w:World)(v:Value):Prop:=
 (req=[]/\v=.slice none 0 0)\/slX X req w v
def DA(X:Nat->Prop)(y:Qa×List (QF 7))(w:World)(v:Value):Prop:=
 ∃ rv lv,v=.agg #[rv,lv]/\Y0 X y.1 w rv/\blX X (XS 7) y.2 w lv
theorem Y0.keep{X:Nat->Prop}{req:Qa}{w w':World}{v:Value}(h:Y0 X req w v)(a:AbvX X w w'):Y0 X req w' v:=by
 rcases h with h|h
 ·exact Qd h
 ·exact Qc (h.keep a)
theorem Y0.weak{X Y:Nat->Prop}{req:Qa}{w:World}{v:Value}(h:Y0 X req w v)(a:∀ k,X k->k<w.heap.size->Y k):Y0 Y req w v:=by
 rcases h with h|h
 ·exact Qd h
 ·exact Qc (h.weak a)
theorem Y0.of{a:Value}(h:Yf w b a req)(i:∀ k,a.ownBlock=some k->B<=k):Y0 (fromB B) req w a:=by
 rcases h with⟨e,f⟩ | ⟨g,c,d,_,l,j,_⟩
 ·exact Qd ⟨f,e⟩
 ·exact Qc ⟨g,c,d,i g (by rw[d];rfl),l,j⟩
theorem Y0.form{X:Nat->Prop}(h:Y0 X req w v):∃ a n c,v=.slice a n c:=by
 rcases h with⟨_,h⟩ | ⟨g,c,h,_⟩
 ·exact⟨_,_,_,h⟩
 ·exact⟨_,_,_,h⟩
def Wa(r:Qb (Qa×List (QF 7)))(b:Nat)(w:World)(e:Ending)(w':World):Prop:=
 Mod b w w'/\((∃ y v,r=.ok y/\e=.returned v/\DA (fromB w.heap.size) y w' v)\/(∃ f,r=.error f/\Z5 f w e w'))
theorem Wb{f:Flt}(h:nL l 0=.error f):prL l=.error f:=by unfold prL;rw[h]
theorem Wc{f:Flt}(h:nL l 0=.ok s)(a:reqMore l (2*l.length+10) (2*l.length+10) [] s=.error f):prL l=.error f:=by unfold prL;rw[h];dsimp only;rw[a]
theorem We{f:Flt}(h:nL l 0=.ok s)(a:reqMore l (2*l.length+10) (2*l.length+10) [] s=.ok y)(b:cMr (cmdL l y.1 (2*l.length+10) 7) (2*l.length+10) [] y.2=.error f):prL l=.error f:=by unfold prL;rw[h];dsimp only;rw[a];dsimp only;rw[b]
theorem Wf{a:List (QF 7)}(h:nL l 0=.ok s)(b:reqMore l (2*l.length+10) (2*l.length+10) [] s=.ok y)(c:cMr (cmdL l y.1 (2*l.length+10) 7) (2*l.length+10) [] y.2=.ok a):prL l=.ok (y.1,a):=by unfold prL;rw[h];dsimp only;rw[b];dsimp only;rw[c]
theorem Wg{f:Nat}(h:s.1.kind=0):cMr sub (f+1) acc s=.ok acc:=by rw[cMr,if_pos h]
theorem Wh{f:Nat}{e:Flt}(h:¬ s.1.kind=0)(a:sub s=.error e):cMr sub (f+1) acc s=.error e:=by rw[cMr,if_neg h,a]
theorem Wi{f:Nat}{y:α×PS}(h:¬ s.1.kind=0)(a:sub s=.ok y):cMr sub (f+1) acc s=cMr sub f (acc++[y.1]) y.2:=by rw[cMr,if_neg h,a]
theorem OG(b:Nat)(t:ByteArray)(r s pr pt pf p1 k1 p2 k2 p3 k3:Nat)(w:World)(h:RC w b t ps0 (.slice none 0 0) r s)(ht:Y9 w b s pr pt pf)(av:JB w b r p1 k1 p2 k2 p3 k3) :
 Calls prog 90 #[.pointer (some ⟨b,0,none⟩)] w (Wa (prL t.data.toList) b w):=by
 have H:=I h;have HT:=I ht;have aG:=I av;have a2:=h.at_.lt;have K:2*t.size+1<2*t.data.toList.length+10:=by rw[bal];omega
 generalize hFe:2*t.data.toList.length+10=F at K;clear h ht av;obtain⟨i0,hi,aX,aY,aZ⟩:=info_parts Tryz.infoCommand;go_enter func90,ntmps90;go_wp2_with fail;have aj:=I ((Mod.refl b w).alloc (.cells #[.slice none 0 0,.slice none 0 0] 91));have aE:=I (QA w (.cells #[.slice none 0 0,.slice none 0 0] 91));refine(Jk b t ps0 _ r s _ (H.o.alloc _)).mono ?_;rintro e w1 (⟨y,hy,rfl,hc,hm⟩ | ⟨W,Y,⟨A,E,rfl,B⟩,hm⟩);rotate_left
 ·exact⟨rfl,aj.o.trans hm,Qc ⟨W,Wb Y,⟨A,by simp at E;omega,rfl,B⟩⟩⟩
 have V:=I hy;have HC:=I hc;have S:=I (aj.o.trans hm);have af:=I (Qu aE.o hm (by omega));clear hy hc hm;go_wp2_with fail;refine(T9 b F t y r s _ HC.o K).mono ?_;rintro e i ⟨M,⟨m,rv,aD,rfl,L,ab,aB⟩ | ⟨W,Y,⟨A,E,rfl,B⟩⟩⟩;rotate_left
 ·exact⟨rfl,S.o.trans M,Qc ⟨W,Wc V.o (by rw[hFe];exact Y),⟨A,Qm S.o.size E,rfl,B⟩⟩⟩
 have a4:=Qh af.o;have ar:=I aD;have ah:=I L;have x:=I (S.o.trans M);have ag:=I (Qu af.o M (by omega));have aM:=I ab;have aO:Hid (∀ k,rv.ownBlock=some k->w.heap.size+1<=k):=fun k c=>by have:=aB k c;omega
 have HO:=I (FS m.1 b F t rv r s pr pt pf p1 k1 p2 k2 p3 k3 K 7 Qt i (HT.o.mod x.o) (aG.o.mod x.o) ab);rw[show(7:Int) - ((7:Nat):Int)=0 from rfl]at HO;have aV:=L.mu_le;have aw:=L.mu_lt K;have a5:=Qh ag.o;clear aD L M ab aB;go_wp2_with fail
 go_loopw [3] (fun v wr=>∃(d:PS) (j:List (QF 7)) (Q:List Value) (f:Nat),wr.ownsRow i.heap.size 179 1 v j.length Q/\QZ (fun a u=>Q5 (XS 7) i.heap.size wr v a u) j Q/\(j=[]->v=.slice none 0 0)/\RC wr b t d rv r s/\Mod b i wr/\mu t.size d<f/\j.length+mu t.size d<=1300/\cMr (cmdL t.data.toList m.1 F 7) F [] m.2=cMr (cmdL t.data.toList m.1 F 7) f j d) (fun _ wr=>muW wr b t.size)
 case atStart=>
  exact⟨m.2,[],[],F,World.ownsRow_nil _ _ _ _,trivial,fun _=>rfl,ah.o,Mod.refl _ _,aw,by simp;omega,rfl⟩
 case round=>
  obtain⟨d,j,Q,f,az,p,ay,ac,Z,hf,a0,aC⟩:=hrel;obtain⟨f,rfl⟩:∃ g,f=g+1:=⟨f - 1,by omega⟩;have z:=I ac;have l:=I Z;have U:=I aC;have T:=I az;have ap:=I p;have aK:=I ay;have J:=I (Qu ag.o Z (by omega));have a7:=Qh J.o;have a1:=Qo ac.at_;clear ac Z aC az p ay ah aV aw;by_cases h1:d.1.kind=0
  ·have aS:((d.1.kind:Int) != 0)=false:=by simp;omega
   have G:=I h1;have aq:=I (blX.of_owns (Xf 7) T.o rfl aK.o ap.o);obtain⟨la,ln,lc,rfl⟩:=aq.o.form;have ao:=I (Y0.of (aM.o.mod l.o) aO.o);obtain⟨ra,rn,rc,rfl⟩:=ao.o.form;have h7:=YT z.o.at_;have r0:=Qj J.o;have r1:=Qo J.o;have rf:=Qz J.o;clear h1;go_wp2;have D:¬ fromB (w.heap.size+1) w.heap.size:=by unfold fromB;omega
   have aW:∀ k,fromB (w.heap.size+1) k->k<((wr.setCell ⟨w.heap.size,0,none⟩ (.slice ra rn rc)).setCell ⟨w.heap.size,1,none⟩ (.slice la ln lc)).heap.size->fromB w.heap.size k:=fun k c _=>by unfold fromB at *;omega
   refine bodyPost_ret (v:=.agg #[.slice ra rn rc,.slice la ln lc]) (by simp[results,results90,go_sem,r0,r1]) rfl ⟨((x.o.trans l.o).setNew Qt _ _).setNew Qt _ _,Qd ⟨(m.1,j),_,Wf V.o (by rw[hFe];exact ar.o) (by rw[hFe,U.o];exact Wg G.o),rfl,⟨_,_,rfl,?_,?_⟩⟩⟩
   ·exact((ao.o.keep (AbvX.set D _ _)).keep (AbvX.set D _ _)).weak aW
   ·have D:¬ fromB i.heap.size w.heap.size:=by unfold fromB;omega
    refine blX.weak (Xf 7) ((aq.o.keep (Xf 7) (AbvX.set D _ _)).keep (Xf 7) (AbvX.set D _ _)) (fun k c _=>by unfold fromB at *;omega)
  have aS:((d.1.kind:Int) != 0)=true:=by simp;omega
  have G:=I h1;clear h1;go_wp2_with fail;refine(HO.o _ d l.o z.o).mono ?_;intro e w4 h4;rcases h4.cases with⟨z4,v4,ae,rfl,ad,au,n⟩ | ⟨f4,aT,⟨A,E,rfl,B⟩,n⟩
  rotate_left
  ·exact⟨rfl,(x.o.trans l.o).trans n,Qc ⟨f4,We V.o (by rw[hFe];exact ar.o) (by rw[hFe,U.o];exact Wh G.o aT),⟨A,Qm (x.o.trans l.o).size E,rfl,B⟩⟩⟩
  have a3:=FK t m.1 F 7 d z4 z.o.le z.o.e0 ae;have aP:=I ad;obtain⟨N,R,rfl⟩:=(Xf 7).form _ _ _ _ ad;have ak:=I (l.o.trans n);have aR:=I ae;have aF:=I au;have aa:=ZV (b:=b) T.o n (by omega);have aQ:=I (ap.o.imp (fun a u q=>Q5.mod (Xf 7) (b:=b) (w':=w4) q n (by omega)));have aU:=I (fun k c=>(T.o.lt k c).2);have aH:=I (Q5.new (Xf 7) (base:=i.heap.size) aP.o l.o.size aU.o);have a6:i.heap.size<=w4.heap.size:=ak.o.size;clear h4 ae au n ad;go_wp2_with (at_builtin;refine wpList_append_own_at _ rfl _ _ 89 rfl i.heap.size 179 i0 .nilIface 1 16 underlying89 hi aX aY aZ rfl (by decide) _ _ _ rfl (aa.alloc _) ⟨w4.heap.size,0,none⟩ 1 1 [.iface N R] rfl rfl ?c1 ?c2 ?c3 ?c4 ?c5 ?_)
  case c1=>exact cell_one_new _ _ _
  case c2=>intro u q;simp at q;subst q;rfl
  case c3=>unfold maxLen;omega
  case c4=>omega
  case c5=>simp;omega
  ·intro v' w5 aA C _ X;have p:∀ k,(u3).ownBlock=some k->i.heap.size<=k:=fun k c=>(aa.lt k c).1
   have aI:=I ((ak.o.alloc (Obj.cells #[.iface N R] 179)).grown C (fun k c=>p k c));have ai:=I ((aF.o.alloc (Obj.cells #[.iface N R] 179)).grown C (fun k c=>by have:=p k c;omega));have aL:=I aA;have aN:=I (QZ.snoc (P:=fun a u=>Q5 (XS 7) i.heap.size w5 v' a u) (aH.o.grown (Xf 7) C X) (aQ.o.imp (fun a u q=>Q5.grown (Xf 7) q C X)));have ax:muW w5 b t.size<muW wr b t.size:=by rw[ai.o.muEq,z.o.muEq];omega
   have aJ:=I ax;clear aA C ax aa p X;go_wp2;go_roundw
   case rel=>exact⟨z4.2,j++[z4.1],Q++[.iface N R],f,by simpa using aL.o,aN.o,fun hh=>absurd hh (by simp),ai.o,aI.o,by omega,by simp;omega,U.o.trans (Wi G.o aR.o)⟩
   case measure=>exact aJ.o
end
section
open Go.RowKit
def X5(es:Array MapEntry)(f:L8->Option Value):Prop:=
 (∀ e∈es.toList,∃ x,e.key=.string (sA x)/\f x=some e.val)/\∀ x v,f x=some v->∃ e∈es.toList,e.key=.string (sA x)
theorem X5.keys(h:X5 a f):∀ e∈a.toList,MapKept.IsKey .string e.key:=fun e he=>by
 obtain⟨x,b,_⟩:=h.1 e he;rw[b];trivial
theorem X5.empty:X5 #[] (fun _=>none):=⟨fun e he=>by simp at he,fun x v h=>by cases h⟩
theorem X5.push{b:Array MapEntry}{f g:L8->Option Value}(h:X5 b f){x:L8}{v:Value}{c:Nat}(l:f x=none)(m:g x=some v)(d:∀ z,z≠x->g z=f z):X5 (b.push ⟨.string (sA x),v,c⟩) g:=by
 refine⟨fun e he=>?_,fun z u i=>?_⟩
 ·simp only[Array.toList_push,List.mem_append,List.mem_singleton]at he;rcases he with he|he
  ·obtain⟨z,j,a⟩:=h.1 e he;have:z≠x:=fun e=>by rw[e,l]at a;cases a
   exact⟨z,j,by rw[d z this];exact a⟩
  ·subst he;exact⟨x,rfl,m⟩
 ·by_cases e:z=x
  ·exact⟨⟨.string (sA x),v,c⟩,by simp,by rw[e]⟩
  ·rw[d z e]at i;obtain⟨y,n,k⟩:=h.2 z u i;exact⟨y,by simp[n],k⟩
theorem X5.congr{g:L8->Option Value}(h:X5 a f)(e:∀ x,f x=g x):X5 a g:=by
 have:f=g:=funext e;rw[<-this];exact h
def JP(w:World)(m:Nat)(o:Obj):World:={ w with heap:=w.heap.setIfInBounds m o }
theorem Yo{T K E:TypeId}(q:prog.underlying T=some (.map K E))(d:prog.underlying K=some .string)(k:w.heap[m]?=some (.map a c))(g:X5 a f)(r:f x=none)(v:Value) :
 (Instr.mapUpdate T (.map (some m)) (.string (sA x)) v).run prog w=.ok () (JP w m (.map (a.push ⟨.string (sA x),v,c⟩) (c+1))):=by
 have i:MapKept.IsKey .string (.string (sA x)):=trivial;rcases MapKept.findNow_spec i a.toList 0 g.keys with⟨b,_⟩ | ⟨j,e,b,o,p⟩
 ·simp[Instr.mapUpdate,run_underlying q,MapKept.run_getObj_map k,MapKept.run_checkKey d i,MapKept.run_findKey d b,MapKept.run_setObj_map _ k,Result.andThen,JP]
 ·obtain⟨z,l,n⟩:=g.1 e (List.mem_of_getElem? o);rw[p]at l;have:x=z:=GD (by simpa using l);subst this;rw[r]at n;cases n
theorem FW(h:w.heap[m]?=some o):(JP w m o').heap[m]?=some o':=by
 have:=Qh h;simp[JP,this]
theorem Nd(h:k≠m):(JP w m o').heap[k]?=w.heap[k]?:=by
 simp[JP,Array.getElem?_setIfInBounds_ne (Ne.symm h)]
theorem Wj:(JP w m o').heap.size=w.heap.size:=by simp[JP]
theorem FX{T K E:TypeId}(n:prog.underlying T=some (.map K E))(a:prog.underlying K=some .string)(q:∀ W,(zeroValue E).run prog W=.ok .nilFunc W){b:Array MapEntry}(s:w.heap[m]?=some (.map b c))(k:X5 b f):B4 w T m f:=by
 intro W x i;rw[s]at i;have l:MapKept.IsKey .string (.string (sA x)):=trivial;rcases MapKept.findNow_spec l b.toList 0 k.keys with⟨d,g⟩ | ⟨j,e,d,g,p⟩
 ·have t:f x=none:=by
   cases hfx:f x with
   |none=>rfl
   |some v=>
    obtain⟨e,he,r⟩:=k.2 x v hfx;exact absurd r (g e he)
  rw[t];simp[Instr.lookup,run_underlying n,MapKept.run_getObj_map i,MapKept.run_checkKey a l,MapKept.run_findKey a d,q,Result.andThen]
 ·obtain⟨z,o,u⟩:=k.1 e (List.mem_of_getElem? g);rw[p]at o;have:x=z:=GD (by simpa using o);subst this;rw[u];simp[Instr.lookup,run_underlying n,MapKept.run_getObj_map i,MapKept.run_checkKey a l,MapKept.run_findKey a d,Result.andThen]
end
section
open Go.RowKit
attribute [local go_sem ↓] Go.wp_at_zero Go.wp_at_succ
theorem Tryz.infoFnC:(prog.info? 211).map (fun i=>(i.zero,i.size,i.bytes))=some (some .nilFunc,1,8):=by kernel_rfl
theorem Tryz.infoFnT:(prog.info? 213).map (fun i=>(i.zero,i.size,i.bytes))=some (some .nilFunc,1,8):=by kernel_rfl
theorem Wk(W:World):(zeroValue 211).run prog W=.ok .nilFunc W:=by
 obtain⟨e,a,b,c,d⟩:=info_parts Tryz.infoFnC;simp[zeroValue,typeInfo,Sem.run,a,b]
theorem Wl(W:World):(zeroValue 213).run prog W=.ok .nilFunc W:=by
 obtain⟨e,a,b,c,d⟩:=info_parts Tryz.infoFnT;simp[zeroValue,typeInfo,Sem.run,a,b]
theorem Bf(r:Value)(b:Nat)(a:Int)(w:World)(c:r=.pointer (some ⟨b,0,none⟩)) :
 Calls prog 124 #[r,.int .i64 a] w fun e w'=>e=.returned (.func (.func 178) #[] #[.pointer (some ⟨w.heap.size,0,none⟩),.pointer (some ⟨w.heap.size+1,0,none⟩)])/\w'=(w.alloc (.cells #[r] 161)).alloc (.cells #[.int .i64 a] 3):=by
 subst c;have d:∀(fn:Fn) (first cap:Array Value) (w:World),(Instr.makeFunc fn first cap).run prog w=.ok (.func fn first cap) w:=fun _ _ _ _=>rfl
 go_enter func124,ntmps124;go_wp2;go_ret;exact⟨rfl,rfl⟩
theorem Dz(h:Bool)(w:World) :
 Calls prog 127 #[.bool h] w fun e w'=>e=.returned (.func (.func 185) #[] #[.pointer (some ⟨w.heap.size,0,none⟩)])/\w'=w.alloc (.cells #[.bool h] 4):=by
 have a:∀(fn:Fn) (first cap:Array Value) (w:World),(Instr.makeFunc fn first cap).run prog w=.ok (.func fn first cap) w:=fun _ _ _ _=>rfl
 go_enter func127,ntmps127;go_wp2;go_ret;exact⟨rfl,rfl⟩
end
section
open Go.RowKit
def up(L:Nat->Bool)(i:Nat):Nat->Bool:=fun j=>if j=i then true else L j
theorem X6(L:Nat->Bool)(i:Nat):up L i i=true:=by simp[up]
theorem Q6(L:Nat->Bool)(h:j≠i):up L i j=L j:=by simp[up,h]
theorem QL(L:Nat->Bool)(h:L j=true):up L i j=true:=by unfold up;split<;>simp[h]
theorem ud(h:up L i j=true)(a:j≠i:=by decide):L j=true:=by rwa [Q6 L a]at h
theorem ui(b:L j=true->L k=true)(a:j≠i:=by decide)(h:up L i j=true):up L i k=true:=QL _ (b (ud h a))
theorem nf(b:L j=true->L k=true)(a:L k=false):L j=false:=by
 cases hh:L j with
 |false=>rfl
 |true=>have:=b hh;rw[a]at this;cases this
def YZ(t:ByteArray)(mv mv2:Value):Obj:=.cells #[.string t,.int .i64 0,.int .i64 0,.string ⟨#[]⟩,.string ⟨#[]⟩,.int .i64 0,.int .i64 0,.slice none 0 0,mv,mv2] 210
def Gh(w:World)(b B kd:Nat)(v:Value):Prop:=
 ∃ p q,v=.func (.func 178) #[] #[.pointer (some ⟨p,0,none⟩),.pointer (some ⟨q,0,none⟩)]/\B<=p/\B<=q/\w.heap[p]?=some (.cells #[.pointer (some ⟨b,0,none⟩)] 161)/\w.heap[q]?=some (.cells #[.int .i64 kd] 3)
theorem Gh.keep{e:Nat}(h:Gh w b B e v)(a:∀ k cs ty,B<=k->w.heap[k]?=some (.cells cs ty)->w'.heap[k]?=some (.cells cs ty)):Gh w' b B e v:=by
 obtain⟨p,q,i,c,d,f,g⟩:=h;exact⟨p,q,i,c,d,a p _ _ c f,a q _ _ d g⟩
def fC(b:Nat)(L:Nat->Bool)(u16 u18 u20:Value)(x:L8):Option Value:=
 match wL cNs x with
 |1=>if L 4 then some (.func (.func 121) #[.pointer (some ⟨b,0,none⟩)] #[])else none
 |2=>if L 7 then some (.func (.func 122) #[.pointer (some ⟨b,0,none⟩)] #[])else none
 |3=>if L 10 then some (.func (.func 123) #[.pointer (some ⟨b,0,none⟩)] #[])else none
 |4=>if L 13 then some (u16)else none
 |5=>if L 16 then some (u18)else none
 |6=>if L 19 then some (u20)else none
 |7=>if L 22 then some (.func (.func 125) #[.pointer (some ⟨b,0,none⟩)] #[])else none
 |8=>if L 25 then some (.func (.func 126) #[.pointer (some ⟨b,0,none⟩)] #[])else none
 |_=>none
structure JC (t:ByteArray) (b:Nat) (W:World) (mv2:Value) (L:Nat->Bool) (u8 u16 u18 u20 u25 u26 u27:Value) (w:World):Prop where
 hb:b < W.heap.size
 mod:Mod b W w
 rd:w.heap[b]?=some (YZ t (if L 29 then u25 else Value.map none) mv2)
 cm4:L 4=true->L 1=true
 cm7:L 7=true->L 1=true
 cm10:L 10=true->L 1=true
 cm13:L 13=true->L 1=true
 cm16:L 16=true->L 1=true
 cm19:L 19=true->L 1=true
 cm22:L 22=true->L 1=true
 cm25:L 25=true->L 1=true
 cv13:L 13=true->L 12=true
 cv16:L 16=true->L 15=true
 cv19:L 19=true->L 18=true
 a12:L 12=true->Gh w b W.heap.size 2 u16
 a15:L 15=true->Gh w b W.heap.size 3 u18
 a18:L 18=true->Gh w b W.heap.size 4 u20
 mp:L 1=true->∃ m es c,u8=.map (some m)∧W.heap.size<=m∧w.heap[m]?=some (.map es c)∧X5 es (fC b L u16 u18 u20)
 m26:L 26=true->u25=u8∧L 1=true∧L 4=true∧L 7=true∧L 10=true∧L 13=true∧L 16=true∧L 19=true∧L 22=true∧L 25=true
 m27:L 27=true->u26=.pointer (some ⟨b,0,none⟩)
 m28:L 28=true->u27=.pointer (some ⟨b,8,none⟩)
 m29:L 29=true->L 26=true
theorem FY{W:World}(h:Mod b W w)(a:W.heap.size<=m):Mod b W (JP w m o):=
 ⟨h.os,h.tape,h.output,by rw[Wj];exact h.size,fun k hk hn=>by rw[Nd (by omega)];exact h.block k hk hn⟩
section
variable {t:ByteArray} {b:Nat} {W:World} {mv2:Value} {L:Nat->Bool} {u8 u16 u18 u20 u25 u26 u27:Value} {w:World}
theorem UM(i:Nat)(h:i≠4/\i≠7/\i≠10/\i≠13/\i≠16/\i≠19/\i≠22/\i≠25)(x:L8):fC b (up L i) u16 u18 u20 x=fC b L u16 u18 u20 x:=by
 obtain⟨a,c,d,e,f,g,j,k⟩:=h;unfold fC;simp only[Q6 L (Ne.symm a),Q6 L (Ne.symm c),Q6 L (Ne.symm d),Q6 L (Ne.symm e),Q6 L (Ne.symm f),Q6 L (Ne.symm g),Q6 L (Ne.symm j),Q6 L (Ne.symm k)]
theorem JC.m26u(J:JC t b W mv2 L u8 u16 u18 u20 u25 u26 u27 w)(h:L 26=true):u25=u8/\up L i 1=true/\up L i 4=true/\up L i 7=true/\up L i 10=true/\up L i 13=true/\up L i 16=true/\up L i 19=true/\up L i 22=true/\up L i 25=true:=by
 obtain⟨a,d,e,f,g,j,k,l,m,c⟩:=J.m26 h;exact⟨a,QL _ d,QL _ e,QL _ f,QL _ g,QL _ j,QL _ k,QL _ l,QL _ m,QL _ c⟩
theorem JC.s1(J:JC t b W mv2 L u8 u16 u18 u20 u25 u26 u27 w)(a:L 1=false):JC t b W mv2 (up L 1) (.map (some w.heap.size)) u16 u18 u20 u25 u26 u27 (w.alloc (Obj.map #[] 0)):=by
 have d:∀ k c e,W.heap.size<=k->w.heap[k]?=some (.cells c e)->(w.alloc (Obj.map #[] 0)).heap[k]?=some (.cells c e):=fun k c e _ h=>Qy h
 have f:(w.alloc (Obj.map #[] 0)).heap[b]?=some (YZ t (if L 29 then u25 else Value.map none) mv2):=Qy J.rd;have o:L 4=false:=nf J.cm4 a;have p:L 7=false:=nf J.cm7 a;have g:L 10=false:=nf J.cm10 a;have i:L 13=false:=nf J.cm13 a;have j:L 16=false:=nf J.cm16 a;have l:L 19=false:=nf J.cm19 a;have m:L 22=false:=nf J.cm22 a;have n:L 25=false:=nf J.cm25 a;exact⟨J.hb,J.mod.trans ((Mod.refl b w).alloc _),by rw[Q6 L (by decide)];exact f,ui J.cm4,ui J.cm7,ui J.cm10,ui J.cm13,ui J.cm16,ui J.cm19,ui J.cm22,ui J.cm25,ui J.cv13,ui J.cv16,ui J.cv19,fun h=>(J.a12 (ud h)).keep d,fun h=>(J.a15 (ud h)).keep d,fun h=>(J.a18 (ud h)).keep d,fun _=>⟨w.heap.size,#[],0,rfl,J.mod.size,QA _ _,X5.empty.congr (fun x=>by rw[UM 1 (by decide)];unfold fC;simp only[o,p,g,i,j,l,m,n];split<;>rfl)⟩,fun h=>absurd (J.m26 (ud h)).2.1 (by rw[a];decide),fun h=>J.m27 (ud h),fun h=>J.m28 (ud h),ui J.m29⟩
theorem JC.s12(J:JC t b W mv2 L u8 u16 u18 u20 u25 u26 u27 w)(g:L 12=false):JC t b W mv2 (up L 12) u8 (.func (.func 178) #[] #[.pointer (some ⟨w.heap.size,0,none⟩),.pointer (some ⟨w.heap.size+1,0,none⟩)]) u18 u20 u25 u26 u27 ((w.alloc (.cells #[.pointer (some ⟨b,0,none⟩)] 161)).alloc (.cells #[.int .i64 2] 3)):=by
 have f:∀ k d e,W.heap.size<=k->w.heap[k]?=some (.cells d e)->((w.alloc (.cells #[.pointer (some ⟨b,0,none⟩)] 161)).alloc (.cells #[.int .i64 2] 3)).heap[k]?=some (.cells d e):=fun k d e _ h=>Qy (Qy h)
 have p:∀(m:Nat) (a:Array MapEntry) (c:Nat),w.heap[m]?=some (Obj.map a c)->((w.alloc (.cells #[.pointer (some ⟨b,0,none⟩)] 161)).alloc (.cells #[.int .i64 2] 3)).heap[m]?=some (Obj.map a c):=fun m a c h=>Qy (Qy h)
 have o:((w.alloc (.cells #[.pointer (some ⟨b,0,none⟩)] 161)).alloc (.cells #[.int .i64 2] 3)).heap[b]?=some (YZ t (if L 29 then u25 else Value.map none) mv2):=Qy (Qy J.rd);have q:L 13=false:=nf J.cv13 g;have r:=J.mod.size;exact⟨J.hb,J.mod.trans (((Mod.refl b w).alloc _).alloc _),by rw[Q6 L (by decide)];exact o,ui J.cm4,ui J.cm7,ui J.cm10,ui J.cm13,ui J.cm16,ui J.cm19,ui J.cm22,ui J.cm25,ui J.cv13,ui J.cv16,ui J.cv19,fun _=>⟨w.heap.size,w.heap.size+1,rfl,r,by omega,Qy (QA _ _),Zv (by simp)⟩,fun h=>(J.a15 (ud h)).keep f,fun h=>(J.a18 (ud h)).keep f,fun h=>by obtain⟨m,a,c,i,j,l,n⟩:=J.mp (ud h);exact⟨m,a,c,i,j,p m _ _ l,n.congr (fun x=>by rw[UM 12 (by decide)];unfold fC;simp only[q,Bool.false_eq_true,if_false])⟩,fun h=>J.m26u (ud h),fun h=>J.m27 (ud h),fun h=>J.m28 (ud h),ui J.m29⟩
theorem JC.s15(J:JC t b W mv2 L u8 u16 u18 u20 u25 u26 u27 w)(g:L 15=false):JC t b W mv2 (up L 15) u8 u16 (.func (.func 178) #[] #[.pointer (some ⟨w.heap.size,0,none⟩),.pointer (some ⟨w.heap.size+1,0,none⟩)]) u20 u25 u26 u27 ((w.alloc (.cells #[.pointer (some ⟨b,0,none⟩)] 161)).alloc (.cells #[.int .i64 3] 3)):=by
 have f:∀ k d e,W.heap.size<=k->w.heap[k]?=some (.cells d e)->((w.alloc (.cells #[.pointer (some ⟨b,0,none⟩)] 161)).alloc (.cells #[.int .i64 3] 3)).heap[k]?=some (.cells d e):=fun k d e _ h=>Qy (Qy h)
 have p:∀(m:Nat) (a:Array MapEntry) (c:Nat),w.heap[m]?=some (Obj.map a c)->((w.alloc (.cells #[.pointer (some ⟨b,0,none⟩)] 161)).alloc (.cells #[.int .i64 3] 3)).heap[m]?=some (Obj.map a c):=fun m a c h=>Qy (Qy h)
 have o:((w.alloc (.cells #[.pointer (some ⟨b,0,none⟩)] 161)).alloc (.cells #[.int .i64 3] 3)).heap[b]?=some (YZ t (if L 29 then u25 else Value.map none) mv2):=Qy (Qy J.rd);have q:L 16=false:=nf J.cv16 g;have r:=J.mod.size;exact⟨J.hb,J.mod.trans (((Mod.refl b w).alloc _).alloc _),by rw[Q6 L (by decide)];exact o,ui J.cm4,ui J.cm7,ui J.cm10,ui J.cm13,ui J.cm16,ui J.cm19,ui J.cm22,ui J.cm25,ui J.cv13,ui J.cv16,ui J.cv19,fun h=>(J.a12 (ud h)).keep f,fun _=>⟨w.heap.size,w.heap.size+1,rfl,r,by omega,Qy (QA _ _),Zv (by simp)⟩,fun h=>(J.a18 (ud h)).keep f,fun h=>by obtain⟨m,a,c,i,j,l,n⟩:=J.mp (ud h);exact⟨m,a,c,i,j,p m _ _ l,n.congr (fun x=>by rw[UM 15 (by decide)];unfold fC;simp only[q,Bool.false_eq_true,if_false])⟩,fun h=>J.m26u (ud h),fun h=>J.m27 (ud h),fun h=>J.m28 (ud h),ui J.m29⟩
theorem JC.s18(J:JC t b W mv2 L u8 u16 u18 u20 u25 u26 u27 w)(g:L 18=false):JC t b W mv2 (up L 18) u8 u16 u18 (.func (.func 178) #[] #[.pointer (some ⟨w.heap.size,0,none⟩),.pointer (some ⟨w.heap.size+1,0,none⟩)]) u25 u26 u27 ((w.alloc (.cells #[.pointer (some ⟨b,0,none⟩)] 161)).alloc (.cells #[.int .i64 4] 3)):=by
 have f:∀ k d e,W.heap.size<=k->w.heap[k]?=some (.cells d e)->((w.alloc (.cells #[.pointer (some ⟨b,0,none⟩)] 161)).alloc (.cells #[.int .i64 4] 3)).heap[k]?=some (.cells d e):=fun k d e _ h=>Qy (Qy h)
 have p:∀(m:Nat) (a:Array MapEntry) (c:Nat),w.heap[m]?=some (Obj.map a c)->((w.alloc (.cells #[.pointer (some ⟨b,0,none⟩)] 161)).alloc (.cells #[.int .i64 4] 3)).heap[m]?=some (Obj.map a c):=fun m a c h=>Qy (Qy h)
 have o:((w.alloc (.cells #[.pointer (some ⟨b,0,none⟩)] 161)).alloc (.cells #[.int .i64 4] 3)).heap[b]?=some (YZ t (if L 29 then u25 else Value.map none) mv2):=Qy (Qy J.rd);have q:L 19=false:=nf J.cv19 g;have r:=J.mod.size;exact⟨J.hb,J.mod.trans (((Mod.refl b w).alloc _).alloc _),by rw[Q6 L (by decide)];exact o,ui J.cm4,ui J.cm7,ui J.cm10,ui J.cm13,ui J.cm16,ui J.cm19,ui J.cm22,ui J.cm25,ui J.cv13,ui J.cv16,ui J.cv19,fun h=>(J.a12 (ud h)).keep f,fun h=>(J.a15 (ud h)).keep f,fun _=>⟨w.heap.size,w.heap.size+1,rfl,r,by omega,Qy (QA _ _),Zv (by simp)⟩,fun h=>by obtain⟨m,a,c,i,j,l,n⟩:=J.mp (ud h);exact⟨m,a,c,i,j,p m _ _ l,n.congr (fun x=>by rw[UM 18 (by decide)];unfold fC;simp only[q,Bool.false_eq_true,if_false])⟩,fun h=>J.m26u (ud h),fun h=>J.m27 (ud h),fun h=>J.m28 (ud h),ui J.m29⟩
def JD(t:ByteArray)(b:Nat)(W:World)(mv2:Value)(L:Nat->Bool)(u8 u16 u18 u20 u25 u26 u27:Value)(w:World)(i:Nat)(nm:L8)(v:Value):Prop:=
 ∃ m es c,u8=.map (some m)/\w.heap[m]?=some (.map es c)/\X5 es (fC b L u16 u18 u20)/\fC b L u16 u18 u20 nm=none/\JC t b W mv2 (up L i) u8 u16 u18 u20 u25 u26 u27 (JP w m (.map (es.push ⟨.string (sA nm),v,c⟩) (c+1)))
theorem JC.ins(J:JC t b W mv2 L u8 u16 u18 u20 u25 u26 u27 w){g:L8}(a:L 1=true)(s:fC b L u16 u18 u20 g=none)(D:fC b (up L i) u16 u18 u20 g=some v)(B:∀ z,z≠g->fC b (up L i) u16 u18 u20 z=fC b L u16 u18 u20 z)(u:up L i 13=true->up L i 12=true)(x:up L i 16=true->up L i 15=true)(y:up L i 19=true->up L i 18=true)(A:i ∉ [12,15,18,26,27,28,29]:=by decide):JD t b W mv2 L u8 u16 u18 u20 u25 u26 u27 w i g v:=by
 obtain⟨m,o,c,p,q,l,r⟩:=J.mp a;have C:m≠b:=by have:=J.hb;omega
 have f:∀ k j n,W.heap.size<=k->w.heap[k]?=some (.cells j n)->(JP w m (.map (o.push ⟨.string (sA g),v,c⟩) (c+1))).heap[k]?=some (.cells j n):=fun k j n _ h=>by
  rw[Nd (fun e=>by rw[e,l]at h;cases h)];exact h
 have d:∀ k,k∈[12,15,18,26,27,28,29]->k≠i:=fun k f e=>A (e ▸ f)
 refine⟨m,o,c,p,l,r,s,J.hb,FY J.mod q,by rw[Q6 L (d 29 (by decide)),Nd (Ne.symm C)];exact J.rd,fun _=>QL _ a,fun _=>QL _ a,fun _=>QL _ a,fun _=>QL _ a,fun _=>QL _ a,fun _=>QL _ a,fun _=>QL _ a,fun _=>QL _ a,u,x,y,fun h=>(J.a12 (ud h (d _ (by decide)))).keep f,fun h=>(J.a15 (ud h (d _ (by decide)))).keep f,fun h=>(J.a18 (ud h (d _ (by decide)))).keep f,fun _=>⟨m,_,_,p,q,FW l,r.push s D B⟩,fun h=>J.m26u (ud h (d _ (by decide))),fun h=>J.m27 (ud h (d _ (by decide))),fun h=>J.m28 (ud h (d _ (by decide))),ui J.m29 (d _ (by decide))⟩
theorem JC.s4(J:JC t b W mv2 L u8 u16 u18 u20 u25 u26 u27 w)(a:L 4=false)(c:L 1=true):JD t b W mv2 L u8 u16 u18 u20 u25 u26 u27 w 4 JH (.func (.func 121) #[.pointer (some ⟨b,0,none⟩)] #[]):=by
 refine J.ins c ?_ ?_ (fun z f=>?_) (ui J.cv13) (ui J.cv16) (ui J.cv19)
 ·unfold fC;rw[show wL cNs JH=1 from by decide];simp only[a];rfl
 ·unfold fC;rw[show wL cNs JH=1 from by decide];simp only[X6];rfl
 ·have d:wL cNs z≠1:=fun e=>f (by have:=Zu cNs z 0 e;simpa[cNs]using this.symm)
  unfold fC;split<;>first|(rename_i e;exact absurd e d)|simp only[Q6 L (by decide)]|rfl
theorem JC.s7(J:JC t b W mv2 L u8 u16 u18 u20 u25 u26 u27 w)(a:L 7=false)(c:L 1=true):JD t b W mv2 L u8 u16 u18 u20 u25 u26 u27 w 7 JI (.func (.func 122) #[.pointer (some ⟨b,0,none⟩)] #[]):=by
 refine J.ins c ?_ ?_ (fun z f=>?_) (ui J.cv13) (ui J.cv16) (ui J.cv19)
 ·unfold fC;rw[show wL cNs JI=2 from by decide];simp only[a];rfl
 ·unfold fC;rw[show wL cNs JI=2 from by decide];simp only[X6];rfl
 ·have d:wL cNs z≠2:=fun e=>f (by have:=Zu cNs z 1 e;simpa[cNs]using this.symm)
  unfold fC;split<;>first|(rename_i e;exact absurd e d)|simp only[Q6 L (by decide)]|rfl
theorem JC.s10(J:JC t b W mv2 L u8 u16 u18 u20 u25 u26 u27 w)(a:L 10=false)(c:L 1=true):JD t b W mv2 L u8 u16 u18 u20 u25 u26 u27 w 10 JJ (.func (.func 123) #[.pointer (some ⟨b,0,none⟩)] #[]):=by
 refine J.ins c ?_ ?_ (fun z f=>?_) (ui J.cv13) (ui J.cv16) (ui J.cv19)
 ·unfold fC;rw[show wL cNs JJ=3 from by decide];simp only[a];rfl
 ·unfold fC;rw[show wL cNs JJ=3 from by decide];simp only[X6];rfl
 ·have d:wL cNs z≠3:=fun e=>f (by have:=Zu cNs z 2 e;simpa[cNs]using this.symm)
  unfold fC;split<;>first|(rename_i e;exact absurd e d)|simp only[Q6 L (by decide)]|rfl
theorem JC.s13(J:JC t b W mv2 L u8 u16 u18 u20 u25 u26 u27 w)(a:L 13=false)(c:L 1=true)(d:L 12=true):JD t b W mv2 L u8 u16 u18 u20 u25 u26 u27 w 13 Ze (u16):=by
 refine J.ins c ?_ ?_ (fun z g=>?_) (fun _=>QL _ d) (ui J.cv16) (ui J.cv19)
 ·unfold fC;rw[show wL cNs Ze=4 from by decide];simp only[a];rfl
 ·unfold fC;rw[show wL cNs Ze=4 from by decide];simp only[X6];rfl
 ·have f:wL cNs z≠4:=fun e=>g (by have:=Zu cNs z 3 e;simpa[cNs]using this.symm)
  unfold fC;split<;>first|(rename_i e;exact absurd e f)|simp only[Q6 L (by decide)]|rfl
theorem JC.s16(J:JC t b W mv2 L u8 u16 u18 u20 u25 u26 u27 w)(a:L 16=false)(c:L 1=true)(d:L 15=true):JD t b W mv2 L u8 u16 u18 u20 u25 u26 u27 w 16 Yn (u18):=by
 refine J.ins c ?_ ?_ (fun z g=>?_) (ui J.cv13) (fun _=>QL _ d) (ui J.cv19)
 ·unfold fC;rw[show wL cNs Yn=5 from by decide];simp only[a];rfl
 ·unfold fC;rw[show wL cNs Yn=5 from by decide];simp only[X6];rfl
 ·have f:wL cNs z≠5:=fun e=>g (by have:=Zu cNs z 4 e;simpa[cNs]using this.symm)
  unfold fC;split<;>first|(rename_i e;exact absurd e f)|simp only[Q6 L (by decide)]|rfl
theorem JC.s19(J:JC t b W mv2 L u8 u16 u18 u20 u25 u26 u27 w)(a:L 19=false)(c:L 1=true)(d:L 18=true):JD t b W mv2 L u8 u16 u18 u20 u25 u26 u27 w 19 Zf (u20):=by
 refine J.ins c ?_ ?_ (fun z g=>?_) (ui J.cv13) (ui J.cv16) (fun _=>QL _ d)
 ·unfold fC;rw[show wL cNs Zf=6 from by decide];simp only[a];rfl
 ·unfold fC;rw[show wL cNs Zf=6 from by decide];simp only[X6];rfl
 ·have f:wL cNs z≠6:=fun e=>g (by have:=Zu cNs z 5 e;simpa[cNs]using this.symm)
  unfold fC;split<;>first|(rename_i e;exact absurd e f)|simp only[Q6 L (by decide)]|rfl
theorem JC.s22(J:JC t b W mv2 L u8 u16 u18 u20 u25 u26 u27 w)(a:L 22=false)(c:L 1=true):JD t b W mv2 L u8 u16 u18 u20 u25 u26 u27 w 22 ZW (.func (.func 125) #[.pointer (some ⟨b,0,none⟩)] #[]):=by
 refine J.ins c ?_ ?_ (fun z f=>?_) (ui J.cv13) (ui J.cv16) (ui J.cv19)
 ·unfold fC;rw[show wL cNs ZW=7 from by decide];simp only[a];rfl
 ·unfold fC;rw[show wL cNs ZW=7 from by decide];simp only[X6];rfl
 ·have d:wL cNs z≠7:=fun e=>f (by have:=Zu cNs z 6 e;simpa[cNs]using this.symm)
  unfold fC;split<;>first|(rename_i e;exact absurd e d)|simp only[Q6 L (by decide)]|rfl
theorem JC.s25(J:JC t b W mv2 L u8 u16 u18 u20 u25 u26 u27 w)(a:L 25=false)(c:L 1=true):JD t b W mv2 L u8 u16 u18 u20 u25 u26 u27 w 25 kIf (.func (.func 126) #[.pointer (some ⟨b,0,none⟩)] #[]):=by
 refine J.ins c ?_ ?_ (fun z f=>?_) (ui J.cv13) (ui J.cv16) (ui J.cv19)
 ·unfold fC;rw[show wL cNs kIf=8 from by decide];simp only[a];rfl
 ·unfold fC;rw[show wL cNs kIf=8 from by decide];simp only[X6];rfl
 ·have d:wL cNs z≠8:=fun e=>f (by have:=Zu cNs z 7 e;simpa[cNs]using this.symm)
  unfold fC;split<;>first|(rename_i e;exact absurd e d)|simp only[Q6 L (by decide)]|rfl
theorem JC.s26(J:JC t b W mv2 L u8 u16 u18 u20 u25 u26 u27 w)(i:L 26=false)(j:L 1=true)(z:L 4=true)(A:L 7=true)(q:L 10=true)(r:L 13=true)(s:L 16=true)(u:L 19=true)(v:L 22=true)(y:L 25=true):JC t b W mv2 (up L 26) u8 u16 u18 u20 u8 u26 u27 w:=by
 have g:L 29=false:=nf J.m29 i;have e:∀ k d f,W.heap.size<=k->w.heap[k]?=some (.cells d f)->w.heap[k]?=some (.cells d f):=fun k d f _ h=>h
 have B:∀(m:Nat) (a:Array MapEntry) (c:Nat),w.heap[m]?=some (Obj.map a c)->w.heap[m]?=some (Obj.map a c):=fun m a c h=>h
 exact⟨J.hb,J.mod.trans (Mod.refl b w),by have:=J.rd;rw[g]at this;rw[Q6 L (by decide),g];exact this,ui J.cm4,ui J.cm7,ui J.cm10,ui J.cm13,ui J.cm16,ui J.cm19,ui J.cm22,ui J.cm25,ui J.cv13,ui J.cv16,ui J.cv19,fun h=>(J.a12 (ud h)).keep e,fun h=>(J.a15 (ud h)).keep e,fun h=>(J.a18 (ud h)).keep e,fun h=>by obtain⟨m,a,c,l,n,o,p⟩:=J.mp (ud h);exact⟨m,a,c,l,n,B m _ _ o,p.congr (fun x=>(UM 26 (by decide) x).symm)⟩,fun _=>⟨rfl,QL _ j,QL _ z,QL _ A,QL _ q,QL _ r,QL _ s,QL _ u,QL _ v,QL _ y⟩,fun h=>J.m27 (ud h),fun h=>J.m28 (ud h),ui J.m29⟩
theorem JC.s27(J:JC t b W mv2 L u8 u16 u18 u20 u25 u26 u27 w)(o:L 27=false):JC t b W mv2 (up L 27) u8 u16 u18 u20 u25 (.pointer (some ⟨b,0,none⟩)) u27 w:=by
 have e:∀ k d f,W.heap.size<=k->w.heap[k]?=some (.cells d f)->w.heap[k]?=some (.cells d f):=fun k d f _ h=>h
 have n:∀(m:Nat) (a:Array MapEntry) (c:Nat),w.heap[m]?=some (Obj.map a c)->w.heap[m]?=some (Obj.map a c):=fun m a c h=>h
 exact⟨J.hb,J.mod.trans (Mod.refl b w),by rw[Q6 L (by decide)];exact J.rd,ui J.cm4,ui J.cm7,ui J.cm10,ui J.cm13,ui J.cm16,ui J.cm19,ui J.cm22,ui J.cm25,ui J.cv13,ui J.cv16,ui J.cv19,fun h=>(J.a12 (ud h)).keep e,fun h=>(J.a15 (ud h)).keep e,fun h=>(J.a18 (ud h)).keep e,fun h=>by obtain⟨m,a,c,g,i,j,l⟩:=J.mp (ud h);exact⟨m,a,c,g,i,n m _ _ j,l.congr (fun x=>(UM 27 (by decide) x).symm)⟩,fun h=>J.m26u (ud h),fun _=>rfl,fun h=>J.m28 (ud h),ui J.m29⟩
theorem JC.s28(J:JC t b W mv2 L u8 u16 u18 u20 u25 u26 u27 w)(o:L 28=false):JC t b W mv2 (up L 28) u8 u16 u18 u20 u25 u26 (.pointer (some ⟨b,8,none⟩)) w:=by
 have e:∀ k d f,W.heap.size<=k->w.heap[k]?=some (.cells d f)->w.heap[k]?=some (.cells d f):=fun k d f _ h=>h
 have n:∀(m:Nat) (a:Array MapEntry) (c:Nat),w.heap[m]?=some (Obj.map a c)->w.heap[m]?=some (Obj.map a c):=fun m a c h=>h
 exact⟨J.hb,J.mod.trans (Mod.refl b w),by rw[Q6 L (by decide)];exact J.rd,ui J.cm4,ui J.cm7,ui J.cm10,ui J.cm13,ui J.cm16,ui J.cm19,ui J.cm22,ui J.cm25,ui J.cv13,ui J.cv16,ui J.cv19,fun h=>(J.a12 (ud h)).keep e,fun h=>(J.a15 (ud h)).keep e,fun h=>(J.a18 (ud h)).keep e,fun h=>by obtain⟨m,a,c,g,i,j,l⟩:=J.mp (ud h);exact⟨m,a,c,g,i,n m _ _ j,l.congr (fun x=>(UM 28 (by decide) x).symm)⟩,fun h=>J.m26u (ud h),fun h=>J.m27 (ud h),fun _=>rfl,ui J.m29⟩
theorem JC.s29(J:JC t b W mv2 L u8 u16 u18 u20 u25 u26 u27 w)(r:L 29=false)(i:L 26=true):JC t b W mv2 (up L 29) u8 u16 u18 u20 u25 u26 u27 (w.setCell ⟨b,8,none⟩ u25):=by
 have s:=J.hb;have d:∀ k f g,W.heap.size<=k->w.heap[k]?=some (.cells f g)->(w.setCell ⟨b,8,none⟩ u25).heap[k]?=some (.cells f g):=fun k f g d h=>by rw[Below.heap_setCell _ _ _ _ (show k≠b by omega)];exact h
 have p:∀(m:Nat) (a:Array MapEntry) (c:Nat),w.heap[m]?=some (Obj.map a c)->(w.setCell ⟨b,8,none⟩ u25).heap[m]?=some (Obj.map a c):=fun m a c h=>by
  have q:=J.rd;rw[Below.heap_setCell _ _ _ _ (show m≠b from fun e=>by rw[e,q]at h;cases h)];exact h
 exact⟨J.hb,J.mod.setCell 8 u25,by rw[X6];exact Qv _ _ _ _ _ _ J.rd,ui J.cm4,ui J.cm7,ui J.cm10,ui J.cm13,ui J.cm16,ui J.cm19,ui J.cm22,ui J.cm25,ui J.cv13,ui J.cv16,ui J.cv19,fun h=>(J.a12 (ud h)).keep d,fun h=>(J.a15 (ud h)).keep d,fun h=>(J.a18 (ud h)).keep d,fun h=>by obtain⟨m,a,c,j,l,n,o⟩:=J.mp (ud h);exact⟨m,a,c,j,l,p m _ _ n,o.congr (fun x=>(UM 29 (by decide) x).symm)⟩,fun h=>J.m26u (ud h),fun h=>J.m27 (ud h),fun h=>J.m28 (ud h),fun _=>QL _ i⟩
theorem JC.done(J:JC t b W mv2 L u8 u16 u18 u20 u25 u26 u27 w)(a:∀ i,i<30->L i=true):∃ m p1 k1 p2 k2 p3 k3,w.heap[b]?=some (YZ t (.map (some m)) mv2)/\JB w b m p1 k1 p2 k2 p3 k3/\Mod b W w/\W.heap.size<=m:=by
 obtain⟨m,es,c,k,l,d,h6⟩:=J.mp (a 1 (by decide));obtain⟨p1,k1,f,B,y,r,o⟩:=J.a12 (a 12 (by decide));obtain⟨p2,k2,g,C,z,s,p⟩:=J.a15 (a 15 (by decide));obtain⟨p3,k3,j,D,A,u,q⟩:=J.a18 (a 18 (by decide));have v:=J.hb;have e:=J.rd;rw[a 29 (by decide),if_pos rfl,(J.m26 (a 26 (by decide))).1,k]at e
 have hf:X5 es (cmdFn b p1 k1 p2 k2 p3 k3):=h6.congr (fun x=>by
  subst f g j;unfold fC cmdFn;simp only[a 4 (by decide),a 7 (by decide),a 10 (by decide),a 13 (by decide),a 16 (by decide),a 19 (by decide),a 22 (by decide),a 25 (by decide),if_true]
  all_goals (
   generalize wL cNs x=i
   match i with
   |0|1|2|3|4|5|6|7|8=>rfl
   | n+9=>rfl))
 exact⟨m,p1,k1,p2,k2,p3,k3,e,⟨FX (K:=9) (E:=211) underlying207 underlying9 Wk d hf,⟨Qn r 0,by omega⟩,Qn o 0,⟨Qn s 0,by omega⟩,Qn p 0,⟨Qn u 0,by omega⟩,Qn q 0,by omega,by omega,by omega,by omega,Qh d⟩,J.mod,l⟩
end
theorem Be{P:Program}{g:Region.Mode}{c:Array Oper}{Q:Exit->Act->World->Prop}{S:World->Prop}(J:Array Bool->Act->World->Prop)
 (p:∀ l a w,J l a w->l.size=c.size) (q:∀ l a w,J l a w->S w)
 (t:∀ l a w i,J l a w->i∈Region.ready g c l->wpOp P c Q i (fun a' w'=>J (l.setIfInBounds i true) a' w') a w)
 (k:∀ l a w,J l a w->Region.ready g c l=[]->Q .normal a w) :
 ∀(fuel:Nat) (l:Array Bool) (a:Act) (w:World),l.toList.count false<=fuel->J l a w->wpAnyH P g c Q S fuel l a w
 |0,l,a,w,hf,hJ=>by
  have s:Region.ready g c l=[]:=by
   rw[List.eq_nil_iff_forall_not_mem];intro i f;obtain⟨j,o,n,_⟩:=mem_ready.1 f;have d:i<l.size:=by rw[p l a w hJ];exact(Array.getElem?_eq_some_iff.1 n).1
   have:l[i]=false:=by simpa[d]using j
   have m:false∈l.toList:=by rw[<-this];simp
   have:=List.count_pos_iff.2 m;omega
  exact⟨s,k l a w hJ s⟩
 |fuel+1,l,a,w,hf,hJ=>by
  refine⟨k l a w hJ,fun i f=>wpOp_mono (fun a' w' h=>⟨q _ _ _ h,?_⟩) (t l a w i hJ f)⟩;refine Be J p q t k fuel _ a' w' ?_ h;obtain⟨j,o,n,_⟩:=mem_ready.1 f;have d:i<l.size:=by rw[p l a w hJ];exact(Array.getElem?_eq_some_iff.1 n).1
  have v:l[i]=false:=by simpa[d]using j
  have e:(l.setIfInBounds i true).toList=l.toList.set i true:=by simp
  rw[e];have r:=List.count_set (a:=true) (b:=false) (l:=l.toList) (i:=i) (h:=by simpa using d);have u:l.toList[i]'(by simpa using d)=false:=by simpa using v
  rw[u]at r;simp only[beq_self_eq_true,if_true,show((true:Bool)==false)=false from rfl,Bool.false_eq_true,if_false]at r;have m:false∈l.toList:=by rw[<-u];simp
  have:=List.count_pos_iff.2 m;omega
theorem Dy{g:Region.Mode}{a:Array Oper}{l:Array Bool}(p:l.size=a.size)(m:((List.range a.size).all fun i=>(a[i]?).all fun o=>o.after.all fun e=>decide (e.on<i))=true)(n:Region.ready g a l=[]):∀ i,i<a.size->l.getD i false=true:=by
 intro i
 induction i using Nat.strongRecOn with
 |_ i ih=>
  intro c;apply Classical.byContradiction;intro f
  have d:i∈Region.ready g a l:=by
   refine mem_ready.2 ⟨?_,a[i],by simp[c],fun e he _=>?_⟩
   ·have:i<l.size:=by omega
    simp[this]at f ⊢;exact f
   ·have b:=List.all_eq_true.1 m i (List.mem_range.2 c);rw[Array.getElem?_eq_getElem c]at b;simp only[Option.all_some]at b;have j:=Array.all_eq_true_iff_forall_mem.1 b e he;have k:e.on<i:=of_decide_eq_true j;exact ih e.on k (by omega)
  rw[n]at d;cases d
theorem ZK{P:Program}{b:Array Oper}{Q:Exit->Act->World->Prop}{o:Oper}{K:Act->World->Prop}{a:Act}(c:b[i]?=some o)(hw:Region.wanted o (yielded b a.tmps)=true)(h:o.wp P a w K Q):wpOp P b Q i K a w:=by
 unfold wpOp;rw[c];dsimp only;rw[if_pos hw];exact Qd h
def Nf(w:World)(B:Nat)(h:Bool)(v:Value):Prop:=
 ∃ p,v=.func (.func 185) #[] #[.pointer (some ⟨p,0,none⟩)]/\B<=p/\w.heap[p]?=some (.cells #[.bool h] 4)
theorem Nf.keep{h:Bool}(c:Nf w B h v)(d:∀ k cs ty,B<=k->w.heap[k]?=some (.cells cs ty)->w'.heap[k]?=some (.cells cs ty)):Nf w' B h v:=by
 obtain⟨p,e,a,b⟩:=c;exact⟨p,e,a,d p _ _ a b⟩
def fT(b:Nat)(L:Nat->Bool)(u30 u31:Value)(x:L8):Option Value:=
 match wL tNs x with
 |1=>if L 3 then some (u30)else none
 |2=>if L 5 then some (u31)else none
 |3=>if L 8 then some (.func (.func 128) #[.pointer (some ⟨b,0,none⟩)] #[])else none
 |4=>if L 10 then some (.func (.func 129) #[] #[.pointer (some ⟨b+1,0,none⟩)])else none
 |5=>if L 12 then some (.func (.func 131) #[] #[.pointer (some ⟨b+1,0,none⟩)])else none
 |6=>if L 14 then some (.func (.func 132) #[] #[.pointer (some ⟨b+1,0,none⟩)])else none
 |7=>if L 16 then some (.func (.func 135) #[] #[.pointer (some ⟨b+1,0,none⟩)])else none
 |8=>if L 18 then some (.func (.func 138) #[] #[.pointer (some ⟨b+1,0,none⟩)])else none
 |9=>if L 21 then some (.func (.func 139) #[.pointer (some ⟨b,0,none⟩)] #[])else none
 |10=>if L 24 then some (.func (.func 140) #[.pointer (some ⟨b,0,none⟩)] #[])else none
 |_=>none
structure JT (t:ByteArray) (b:Nat) (W:World) (mv1:Value) (L:Nat->Bool) (u29 u30 u31 u43 u44 u45:Value) (w:World):Prop where
 hb:b < W.heap.size
 mod:Mod b W w
 rd:w.heap[b]?=some (YZ t mv1 (if L 28 then u43 else Value.map none))
 cm3:L 3=true->L 1=true
 cm5:L 5=true->L 1=true
 cm8:L 8=true->L 1=true
 cm10:L 10=true->L 1=true
 cm12:L 12=true->L 1=true
 cm14:L 14=true->L 1=true
 cm16:L 16=true->L 1=true
 cm18:L 18=true->L 1=true
 cm21:L 21=true->L 1=true
 cm24:L 24=true->L 1=true
 cv3:L 3=true->L 2=true
 cv5:L 5=true->L 4=true
 a2:L 2=true->Nf w W.heap.size true u30
 a4:L 4=true->Nf w W.heap.size false u31
 mp:L 1=true->∃ m es c,u29=.map (some m)∧W.heap.size<=m∧w.heap[m]?=some (.map es c)∧X5 es (fT b L u30 u31)
 m25:L 25=true->u43=u29∧L 1=true∧L 3=true∧L 5=true∧L 8=true∧L 10=true∧L 12=true∧L 14=true∧L 16=true∧L 18=true∧L 21=true∧L 24=true
 m26:L 26=true->u44=.pointer (some ⟨b,0,none⟩)
 m27:L 27=true->u45=.pointer (some ⟨b,9,none⟩)
 m28:L 28=true->L 25=true
section
variable {t:ByteArray} {b:Nat} {W:World} {mv1:Value} {L:Nat->Bool} {u29 u30 u31 u43 u44 u45:Value} {w:World}
theorem Vn(i:Nat)(h:i≠3/\i≠5/\i≠8/\i≠10/\i≠12/\i≠14/\i≠16/\i≠18/\i≠21/\i≠24)(x:L8):fT b (up L i) u30 u31 x=fT b L u30 u31 x:=by
 obtain⟨a,c,d,e,f,g,j,k,l,m⟩:=h;unfold fT;simp only[Q6 L (Ne.symm a),Q6 L (Ne.symm c),Q6 L (Ne.symm d),Q6 L (Ne.symm e),Q6 L (Ne.symm f),Q6 L (Ne.symm g),Q6 L (Ne.symm j),Q6 L (Ne.symm k),Q6 L (Ne.symm l),Q6 L (Ne.symm m)]
theorem JT.m25u(J:JT t b W mv1 L u29 u30 u31 u43 u44 u45 w)(h:L 25=true):u43=u29/\up L i 1=true/\up L i 3=true/\up L i 5=true/\up L i 8=true/\up L i 10=true/\up L i 12=true/\up L i 14=true/\up L i 16=true/\up L i 18=true/\up L i 21=true/\up L i 24=true:=by
 obtain⟨a,f,g,j,k,l,m,n,o,c,d,e⟩:=J.m25 h;exact⟨a,QL _ f,QL _ g,QL _ j,QL _ k,QL _ l,QL _ m,QL _ n,QL _ o,QL _ c,QL _ d,QL _ e⟩
theorem JT.s1(J:JT t b W mv1 L u29 u30 u31 u43 u44 u45 w)(a:L 1=false):JT t b W mv1 (up L 1) (.map (some w.heap.size)) u30 u31 u43 u44 u45 (w.alloc (Obj.map #[] 0)):=by
 have e:∀ k c d,W.heap.size<=k->w.heap[k]?=some (.cells c d)->(w.alloc (Obj.map #[] 0)).heap[k]?=some (.cells c d):=fun k c d _ h=>Qy h
 have f:(w.alloc (Obj.map #[] 0)).heap[b]?=some (YZ t mv1 (if L 28 then u43 else Value.map none)):=Qy J.rd;have p:L 3=false:=nf J.cm3 a;have q:L 5=false:=nf J.cm5 a;have r:L 8=false:=nf J.cm8 a;have g:L 10=false:=nf J.cm10 a;have i:L 12=false:=nf J.cm12 a;have j:L 14=false:=nf J.cm14 a;have l:L 16=false:=nf J.cm16 a;have m:L 18=false:=nf J.cm18 a;have n:L 21=false:=nf J.cm21 a;have o:L 24=false:=nf J.cm24 a;exact⟨J.hb,J.mod.trans ((Mod.refl b w).alloc _),by rw[Q6 L (by decide)];exact f,ui J.cm3,ui J.cm5,ui J.cm8,ui J.cm10,ui J.cm12,ui J.cm14,ui J.cm16,ui J.cm18,ui J.cm21,ui J.cm24,ui J.cv3,ui J.cv5,fun h=>(J.a2 (ud h)).keep e,fun h=>(J.a4 (ud h)).keep e,fun _=>⟨w.heap.size,#[],0,rfl,J.mod.size,QA _ _,X5.empty.congr (fun x=>by rw[Vn 1 (by decide)];unfold fT;simp only[p,q,r,g,i,j,l,m,n,o];split<;>rfl)⟩,fun h=>absurd (J.m25 (ud h)).2.1 (by rw[a];decide),fun h=>J.m26 (ud h),fun h=>J.m27 (ud h),ui J.m28⟩
theorem JT.s2(J:JT t b W mv1 L u29 u30 u31 u43 u44 u45 w)(f:L 2=false):JT t b W mv1 (up L 2) u29 (.func (.func 185) #[] #[.pointer (some ⟨w.heap.size,0,none⟩)]) u31 u43 u44 u45 (w.alloc (.cells #[.bool true] 4)):=by
 have n:∀ k d e,W.heap.size<=k->w.heap[k]?=some (.cells d e)->(w.alloc (.cells #[.bool true] 4)).heap[k]?=some (.cells d e):=fun k d e _ h=>Qy h
 have p:∀(m:Nat) (a:Array MapEntry) (c:Nat),w.heap[m]?=some (Obj.map a c)->(w.alloc (.cells #[.bool true] 4)).heap[m]?=some (Obj.map a c):=fun m a c h=>Qy h
 have o:(w.alloc (.cells #[.bool true] 4)).heap[b]?=some (YZ t mv1 (if L 28 then u43 else Value.map none)):=Qy J.rd;have q:L 3=false:=nf J.cv3 f;have r:=J.mod.size;exact⟨J.hb,J.mod.trans ((Mod.refl b w).alloc _),by rw[Q6 L (by decide)];exact o,ui J.cm3,ui J.cm5,ui J.cm8,ui J.cm10,ui J.cm12,ui J.cm14,ui J.cm16,ui J.cm18,ui J.cm21,ui J.cm24,ui J.cv3,ui J.cv5,fun _=>⟨w.heap.size,rfl,r,QA _ _⟩,fun h=>(J.a4 (ud h)).keep n,fun h=>by obtain⟨m,a,c,g,i,j,l⟩:=J.mp (ud h);exact⟨m,a,c,g,i,p m _ _ j,l.congr (fun x=>by rw[Vn 2 (by decide)];unfold fT;simp only[q,Bool.false_eq_true,if_false])⟩,fun h=>J.m25u (ud h),fun h=>J.m26 (ud h),fun h=>J.m27 (ud h),ui J.m28⟩
theorem JT.s4(J:JT t b W mv1 L u29 u30 u31 u43 u44 u45 w)(f:L 4=false):JT t b W mv1 (up L 4) u29 u30 (.func (.func 185) #[] #[.pointer (some ⟨w.heap.size,0,none⟩)]) u43 u44 u45 (w.alloc (.cells #[.bool false] 4)):=by
 have n:∀ k d e,W.heap.size<=k->w.heap[k]?=some (.cells d e)->(w.alloc (.cells #[.bool false] 4)).heap[k]?=some (.cells d e):=fun k d e _ h=>Qy h
 have p:∀(m:Nat) (a:Array MapEntry) (c:Nat),w.heap[m]?=some (Obj.map a c)->(w.alloc (.cells #[.bool false] 4)).heap[m]?=some (Obj.map a c):=fun m a c h=>Qy h
 have o:(w.alloc (.cells #[.bool false] 4)).heap[b]?=some (YZ t mv1 (if L 28 then u43 else Value.map none)):=Qy J.rd;have q:L 5=false:=nf J.cv5 f;have r:=J.mod.size;exact⟨J.hb,J.mod.trans ((Mod.refl b w).alloc _),by rw[Q6 L (by decide)];exact o,ui J.cm3,ui J.cm5,ui J.cm8,ui J.cm10,ui J.cm12,ui J.cm14,ui J.cm16,ui J.cm18,ui J.cm21,ui J.cm24,ui J.cv3,ui J.cv5,fun h=>(J.a2 (ud h)).keep n,fun _=>⟨w.heap.size,rfl,r,QA _ _⟩,fun h=>by obtain⟨m,a,c,g,i,j,l⟩:=J.mp (ud h);exact⟨m,a,c,g,i,p m _ _ j,l.congr (fun x=>by rw[Vn 4 (by decide)];unfold fT;simp only[q,Bool.false_eq_true,if_false])⟩,fun h=>J.m25u (ud h),fun h=>J.m26 (ud h),fun h=>J.m27 (ud h),ui J.m28⟩
def Kp(t:ByteArray)(b:Nat)(W:World)(mv1:Value)(L:Nat->Bool)(u29 u30 u31 u43 u44 u45:Value)(w:World)(i:Nat)(nm:L8)(v:Value):Prop:=
 ∃ m es c,u29=.map (some m)/\w.heap[m]?=some (.map es c)/\X5 es (fT b L u30 u31)/\fT b L u30 u31 nm=none/\JT t b W mv1 (up L i) u29 u30 u31 u43 u44 u45 (JP w m (.map (es.push ⟨.string (sA nm),v,c⟩) (c+1)))
theorem JT.ins(J:JT t b W mv1 L u29 u30 u31 u43 u44 u45 w){f:L8}(a:L 1=true)(s:fT b L u30 u31 f=none)(C:fT b (up L i) u30 u31 f=some v)(A:∀ z,z≠f->fT b (up L i) u30 u31 z=fT b L u30 u31 z)(u:up L i 3=true->up L i 2=true)(x:up L i 5=true->up L i 4=true)(y:i ∉ [2,4,25,26,27,28]:=by decide):Kp t b W mv1 L u29 u30 u31 u43 u44 u45 w i f v:=by
 obtain⟨m,o,c,p,q,l,r⟩:=J.mp a;have B:m≠b:=by have:=J.hb;omega
 have g:∀ k j n,W.heap.size<=k->w.heap[k]?=some (.cells j n)->(JP w m (.map (o.push ⟨.string (sA f),v,c⟩) (c+1))).heap[k]?=some (.cells j n):=fun k j n _ h=>by
  rw[Nd (fun e=>by rw[e,l]at h;cases h)];exact h
 have d:∀ k,k∈[2,4,25,26,27,28]->k≠i:=fun k g e=>y (e ▸ g)
 refine⟨m,o,c,p,l,r,s,J.hb,FY J.mod q,by rw[Q6 L (d 28 (by decide)),Nd (Ne.symm B)];exact J.rd,fun _=>QL _ a,fun _=>QL _ a,fun _=>QL _ a,fun _=>QL _ a,fun _=>QL _ a,fun _=>QL _ a,fun _=>QL _ a,fun _=>QL _ a,fun _=>QL _ a,fun _=>QL _ a,u,x,fun h=>(J.a2 (ud h (d _ (by decide)))).keep g,fun h=>(J.a4 (ud h (d _ (by decide)))).keep g,fun _=>⟨m,_,_,p,q,FW l,r.push s C A⟩,fun h=>J.m25u (ud h (d _ (by decide))),fun h=>J.m26 (ud h (d _ (by decide))),fun h=>J.m27 (ud h (d _ (by decide))),ui J.m28 (d _ (by decide))⟩
theorem JT.s3(J:JT t b W mv1 L u29 u30 u31 u43 u44 u45 w)(a:L 3=false)(c:L 1=true)(d:L 2=true):Kp t b W mv1 L u29 u30 u31 u43 u44 u45 w 3 Jv (u30):=by
 refine J.ins c ?_ ?_ (fun z g=>?_) (fun _=>QL _ d) (ui J.cv5)
 ·unfold fT;rw[show wL tNs Jv=1 from by decide];simp only[a];rfl
 ·unfold fT;rw[show wL tNs Jv=1 from by decide];simp only[X6];rfl
 ·have f:wL tNs z≠1:=fun e=>g (by have:=Zu tNs z 0 e;simpa[tNs]using this.symm)
  unfold fT;split<;>first|(rename_i e;exact absurd e f)|simp only[Q6 L (by decide)]|rfl
theorem JT.s5(J:JT t b W mv1 L u29 u30 u31 u43 u44 u45 w)(a:L 5=false)(c:L 1=true)(d:L 4=true):Kp t b W mv1 L u29 u30 u31 u43 u44 u45 w 5 Jw (u31):=by
 refine J.ins c ?_ ?_ (fun z g=>?_) (ui J.cv3) (fun _=>QL _ d)
 ·unfold fT;rw[show wL tNs Jw=2 from by decide];simp only[a];rfl
 ·unfold fT;rw[show wL tNs Jw=2 from by decide];simp only[X6];rfl
 ·have f:wL tNs z≠2:=fun e=>g (by have:=Zu tNs z 1 e;simpa[tNs]using this.symm)
  unfold fT;split<;>first|(rename_i e;exact absurd e f)|simp only[Q6 L (by decide)]|rfl
theorem JT.s8(J:JT t b W mv1 L u29 u30 u31 u43 u44 u45 w)(a:L 8=false)(c:L 1=true):Kp t b W mv1 L u29 u30 u31 u43 u44 u45 w 8 kNot (.func (.func 128) #[.pointer (some ⟨b,0,none⟩)] #[]):=by
 refine J.ins c ?_ ?_ (fun z f=>?_) (ui J.cv3) (ui J.cv5)
 ·unfold fT;rw[show wL tNs kNot=3 from by decide];simp only[a];rfl
 ·unfold fT;rw[show wL tNs kNot=3 from by decide];simp only[X6];rfl
 ·have d:wL tNs z≠3:=fun e=>f (by have:=Zu tNs z 2 e;simpa[tNs]using this.symm)
  unfold fT;split<;>first|(rename_i e;exact absurd e d)|simp only[Q6 L (by decide)]|rfl
theorem JT.s10(J:JT t b W mv1 L u29 u30 u31 u43 u44 u45 w)(a:L 10=false)(c:L 1=true):Kp t b W mv1 L u29 u30 u31 u43 u44 u45 w 10 YF (.func (.func 129) #[] #[.pointer (some ⟨b+1,0,none⟩)]):=by
 refine J.ins c ?_ ?_ (fun z f=>?_) (ui J.cv3) (ui J.cv5)
 ·unfold fT;rw[show wL tNs YF=4 from by decide];simp only[a];rfl
 ·unfold fT;rw[show wL tNs YF=4 from by decide];simp only[X6];rfl
 ·have d:wL tNs z≠4:=fun e=>f (by have:=Zu tNs z 3 e;simpa[tNs]using this.symm)
  unfold fT;split<;>first|(rename_i e;exact absurd e d)|simp only[Q6 L (by decide)]|rfl
theorem JT.s12(J:JT t b W mv1 L u29 u30 u31 u43 u44 u45 w)(a:L 12=false)(c:L 1=true):Kp t b W mv1 L u29 u30 u31 u43 u44 u45 w 12 YG (.func (.func 131) #[] #[.pointer (some ⟨b+1,0,none⟩)]):=by
 refine J.ins c ?_ ?_ (fun z f=>?_) (ui J.cv3) (ui J.cv5)
 ·unfold fT;rw[show wL tNs YG=5 from by decide];simp only[a];rfl
 ·unfold fT;rw[show wL tNs YG=5 from by decide];simp only[X6];rfl
 ·have d:wL tNs z≠5:=fun e=>f (by have:=Zu tNs z 4 e;simpa[tNs]using this.symm)
  unfold fT;split<;>first|(rename_i e;exact absurd e d)|simp only[Q6 L (by decide)]|rfl
theorem JT.s14(J:JT t b W mv1 L u29 u30 u31 u43 u44 u45 w)(a:L 14=false)(c:L 1=true):Kp t b W mv1 L u29 u30 u31 u43 u44 u45 w 14 X7 (.func (.func 132) #[] #[.pointer (some ⟨b+1,0,none⟩)]):=by
 refine J.ins c ?_ ?_ (fun z f=>?_) (ui J.cv3) (ui J.cv5)
 ·unfold fT;rw[show wL tNs X7=6 from by decide];simp only[a];rfl
 ·unfold fT;rw[show wL tNs X7=6 from by decide];simp only[X6];rfl
 ·have d:wL tNs z≠6:=fun e=>f (by have:=Zu tNs z 5 e;simpa[tNs]using this.symm)
  unfold fT;split<;>first|(rename_i e;exact absurd e d)|simp only[Q6 L (by decide)]|rfl
theorem JT.s16(J:JT t b W mv1 L u29 u30 u31 u43 u44 u45 w)(a:L 16=false)(c:L 1=true):Kp t b W mv1 L u29 u30 u31 u43 u44 u45 w 16 QN (.func (.func 135) #[] #[.pointer (some ⟨b+1,0,none⟩)]):=by
 refine J.ins c ?_ ?_ (fun z f=>?_) (ui J.cv3) (ui J.cv5)
 ·unfold fT;rw[show wL tNs QN=7 from by decide];simp only[a];rfl
 ·unfold fT;rw[show wL tNs QN=7 from by decide];simp only[X6];rfl
 ·have d:wL tNs z≠7:=fun e=>f (by have:=Zu tNs z 6 e;simpa[tNs]using this.symm)
  unfold fT;split<;>first|(rename_i e;exact absurd e d)|simp only[Q6 L (by decide)]|rfl
theorem JT.s18(J:JT t b W mv1 L u29 u30 u31 u43 u44 u45 w)(a:L 18=false)(c:L 1=true):Kp t b W mv1 L u29 u30 u31 u43 u44 u45 w 18 ZA (.func (.func 138) #[] #[.pointer (some ⟨b+1,0,none⟩)]):=by
 refine J.ins c ?_ ?_ (fun z f=>?_) (ui J.cv3) (ui J.cv5)
 ·unfold fT;rw[show wL tNs ZA=8 from by decide];simp only[a];rfl
 ·unfold fT;rw[show wL tNs ZA=8 from by decide];simp only[X6];rfl
 ·have d:wL tNs z≠8:=fun e=>f (by have:=Zu tNs z 7 e;simpa[tNs]using this.symm)
  unfold fT;split<;>first|(rename_i e;exact absurd e d)|simp only[Q6 L (by decide)]|rfl
theorem JT.s21(J:JT t b W mv1 L u29 u30 u31 u43 u44 u45 w)(a:L 21=false)(c:L 1=true):Kp t b W mv1 L u29 u30 u31 u43 u44 u45 w 21 XO (.func (.func 139) #[.pointer (some ⟨b,0,none⟩)] #[]):=by
 refine J.ins c ?_ ?_ (fun z f=>?_) (ui J.cv3) (ui J.cv5)
 ·unfold fT;rw[show wL tNs XO=9 from by decide];simp only[a];rfl
 ·unfold fT;rw[show wL tNs XO=9 from by decide];simp only[X6];rfl
 ·have d:wL tNs z≠9:=fun e=>f (by have:=Zu tNs z 8 e;simpa[tNs]using this.symm)
  unfold fT;split<;>first|(rename_i e;exact absurd e d)|simp only[Q6 L (by decide)]|rfl
theorem JT.s24(J:JT t b W mv1 L u29 u30 u31 u43 u44 u45 w)(a:L 24=false)(c:L 1=true):Kp t b W mv1 L u29 u30 u31 u43 u44 u45 w 24 Yh (.func (.func 140) #[.pointer (some ⟨b,0,none⟩)] #[]):=by
 refine J.ins c ?_ ?_ (fun z f=>?_) (ui J.cv3) (ui J.cv5)
 ·unfold fT;rw[show wL tNs Yh=10 from by decide];simp only[a];rfl
 ·unfold fT;rw[show wL tNs Yh=10 from by decide];simp only[X6];rfl
 ·have d:wL tNs z≠10:=fun e=>f (by have:=Zu tNs z 9 e;simpa[tNs]using this.symm)
  unfold fT;split<;>first|(rename_i e;exact absurd e d)|simp only[Q6 L (by decide)]|rfl
theorem JT.s25(J:JT t b W mv1 L u29 u30 u31 u43 u44 u45 w)(i:L 25=false)(j:L 1=true)(A:L 3=true)(B:L 5=true)(C:L 8=true)(q:L 10=true)(r:L 12=true)(s:L 14=true)(u:L 16=true)(v:L 18=true)(y:L 21=true)(z:L 24=true):JT t b W mv1 (up L 25) u29 u30 u31 u29 u44 u45 w:=by
 have g:L 28=false:=nf J.m28 i;have f:∀ k d e,W.heap.size<=k->w.heap[k]?=some (.cells d e)->w.heap[k]?=some (.cells d e):=fun k d e _ h=>h
 have D:∀(m:Nat) (a:Array MapEntry) (c:Nat),w.heap[m]?=some (Obj.map a c)->w.heap[m]?=some (Obj.map a c):=fun m a c h=>h
 exact⟨J.hb,J.mod,by have:=J.rd;rw[g]at this;rw[Q6 L (by decide),g];exact this,ui J.cm3,ui J.cm5,ui J.cm8,ui J.cm10,ui J.cm12,ui J.cm14,ui J.cm16,ui J.cm18,ui J.cm21,ui J.cm24,ui J.cv3,ui J.cv5,fun h=>(J.a2 (ud h)).keep f,fun h=>(J.a4 (ud h)).keep f,fun h=>by obtain⟨m,a,c,l,n,o,p⟩:=J.mp (ud h);exact⟨m,a,c,l,n,D m _ _ o,p.congr (fun x=>(Vn 25 (by decide) x).symm)⟩,fun _=>⟨rfl,QL _ j,QL _ A,QL _ B,QL _ C,QL _ q,QL _ r,QL _ s,QL _ u,QL _ v,QL _ y,QL _ z⟩,fun h=>J.m26 (ud h),fun h=>J.m27 (ud h),ui J.m28⟩
theorem JT.s26(J:JT t b W mv1 L u29 u30 u31 u43 u44 u45 w)(o:L 26=false):JT t b W mv1 (up L 26) u29 u30 u31 u43 (.pointer (some ⟨b,0,none⟩)) u45 w:=by
 have f:∀ k d e,W.heap.size<=k->w.heap[k]?=some (.cells d e)->w.heap[k]?=some (.cells d e):=fun k d e _ h=>h
 have n:∀(m:Nat) (a:Array MapEntry) (c:Nat),w.heap[m]?=some (Obj.map a c)->w.heap[m]?=some (Obj.map a c):=fun m a c h=>h
 exact⟨J.hb,J.mod,by rw[Q6 L (by decide)];exact J.rd,ui J.cm3,ui J.cm5,ui J.cm8,ui J.cm10,ui J.cm12,ui J.cm14,ui J.cm16,ui J.cm18,ui J.cm21,ui J.cm24,ui J.cv3,ui J.cv5,fun h=>(J.a2 (ud h)).keep f,fun h=>(J.a4 (ud h)).keep f,fun h=>by obtain⟨m,a,c,g,i,j,l⟩:=J.mp (ud h);exact⟨m,a,c,g,i,n m _ _ j,l.congr (fun x=>(Vn 26 (by decide) x).symm)⟩,fun h=>J.m25u (ud h),fun _=>rfl,fun h=>J.m27 (ud h),ui J.m28⟩
theorem JT.s27(J:JT t b W mv1 L u29 u30 u31 u43 u44 u45 w)(o:L 27=false):JT t b W mv1 (up L 27) u29 u30 u31 u43 u44 (.pointer (some ⟨b,9,none⟩)) w:=by
 have f:∀ k d e,W.heap.size<=k->w.heap[k]?=some (.cells d e)->w.heap[k]?=some (.cells d e):=fun k d e _ h=>h
 have n:∀(m:Nat) (a:Array MapEntry) (c:Nat),w.heap[m]?=some (Obj.map a c)->w.heap[m]?=some (Obj.map a c):=fun m a c h=>h
 exact⟨J.hb,J.mod,by rw[Q6 L (by decide)];exact J.rd,ui J.cm3,ui J.cm5,ui J.cm8,ui J.cm10,ui J.cm12,ui J.cm14,ui J.cm16,ui J.cm18,ui J.cm21,ui J.cm24,ui J.cv3,ui J.cv5,fun h=>(J.a2 (ud h)).keep f,fun h=>(J.a4 (ud h)).keep f,fun h=>by obtain⟨m,a,c,g,i,j,l⟩:=J.mp (ud h);exact⟨m,a,c,g,i,n m _ _ j,l.congr (fun x=>(Vn 27 (by decide) x).symm)⟩,fun h=>J.m25u (ud h),fun h=>J.m26 (ud h),fun _=>rfl,ui J.m28⟩
theorem JT.s28(J:JT t b W mv1 L u29 u30 u31 u43 u44 u45 w)(r:L 28=false)(i:L 25=true):JT t b W mv1 (up L 28) u29 u30 u31 u43 u44 u45 (w.setCell ⟨b,9,none⟩ u43):=by
 have s:=J.hb;have f:∀ k d g,W.heap.size<=k->w.heap[k]?=some (.cells d g)->(w.setCell ⟨b,9,none⟩ u43).heap[k]?=some (.cells d g):=fun k d g f h=>by rw[Below.heap_setCell _ _ _ _ (show k≠b by omega)];exact h
 have p:∀(m:Nat) (a:Array MapEntry) (c:Nat),w.heap[m]?=some (Obj.map a c)->(w.setCell ⟨b,9,none⟩ u43).heap[m]?=some (Obj.map a c):=fun m a c h=>by
  have q:=J.rd;rw[Below.heap_setCell _ _ _ _ (show m≠b from fun e=>by rw[e,q]at h;cases h)];exact h
 exact⟨J.hb,J.mod.setCell 9 u43,by rw[X6];exact Qv _ _ _ _ _ _ J.rd,ui J.cm3,ui J.cm5,ui J.cm8,ui J.cm10,ui J.cm12,ui J.cm14,ui J.cm16,ui J.cm18,ui J.cm21,ui J.cm24,ui J.cv3,ui J.cv5,fun h=>(J.a2 (ud h)).keep f,fun h=>(J.a4 (ud h)).keep f,fun h=>by obtain⟨m,a,c,j,l,n,o⟩:=J.mp (ud h);exact⟨m,a,c,j,l,p m _ _ n,o.congr (fun x=>(Vn 28 (by decide) x).symm)⟩,fun h=>J.m25u (ud h),fun h=>J.m26 (ud h),fun h=>J.m27 (ud h),fun _=>QL _ i⟩
theorem JT.done(J:JT t b W mv1 L u29 u30 u31 u43 u44 u45 w)(a:∀ i,i<29->L i=true)(p:YJ W (b+1) b):∃ m pt pf,w.heap[b]?=some (YZ t mv1 (.map (some m)))/\Y9 w b m (b+1) pt pf/\Mod b W w/\W.heap.size<=m:=by
 obtain⟨m,es,c,j,k,d,h6⟩:=J.mp (a 1 (by decide));obtain⟨pt,f,r,l⟩:=J.a2 (a 2 (by decide));obtain⟨pf,g,s,o⟩:=J.a4 (a 4 (by decide));have q:=J.hb;have e:=J.rd;rw[a 28 (by decide),if_pos rfl,(J.m25 (a 25 (by decide))).1,j]at e
 have hf:X5 es (testFn b (b+1) pt pf):=h6.congr (fun x=>by
  subst f g;unfold fT testFn;simp only[a 3 (by decide),a 5 (by decide),a 8 (by decide),a 10 (by decide),a 12 (by decide),a 14 (by decide),a 16 (by decide),a 18 (by decide),a 21 (by decide),a 24 (by decide),if_true];generalize wL tNs x=i
  match i with
  |0|1|2|3|4|5|6|7|8|9|10=>rfl
  | n+11=>rfl)
 exact⟨m,pt,pf,e,⟨FX (K:=9) (E:=213) underlying208 underlying9 Wl d hf,p.mod J.mod,Qn l 0,Qn o 0,by omega,by omega,by omega,Qh d⟩,J.mod,k⟩
end
end
end Go.Proofs.YtgnkjijocdmniaaGreatDoor
