import Derived.Lib.AppendIntMem
import Derived.Stop.Asserts
import Derived.Test.YtgnkjijocdmniaaGreatDoorZChoice
namespace Go.Proofs.YtgnkjijocdmniaaGreatDoor
set_option linter.unusedVariables false
set_option linter.unusedSimpArgs false
set_option maxRecDepth 100000
set_option maxHeartbeats 4000000
open Go.Proofs.Tryz
open Go.RowKit
attribute [local go_sem ↓] Go.wp_at_zero Go.wp_at_succ
variable{α:Type}{B F b k n p1 p2:Nat}{a:Value}{acc:List α}{f:Flt}{l x:L8}{req:Qa}{s:PS}{sub:PS->Qb (α×PS)}{w w':World}{y:Qa×PS}
def cmdFn(b p1 k1 p2 k2 p3 k3:Nat)(x:L8):Option Value:=
 match wL cNs x with
 |1=>some (.func (.func 121) #[.pointer (some ⟨b,0,none⟩)] #[])
 |2=>some (.func (.func 122) #[.pointer (some ⟨b,0,none⟩)] #[])
 |3=>some (.func (.func 123) #[.pointer (some ⟨b,0,none⟩)] #[])
 |4=>some (.func (.func 178) #[] #[.pointer (some ⟨p1,0,none⟩),.pointer (some ⟨k1,0,none⟩)])
 |5=>some (.func (.func 178) #[] #[.pointer (some ⟨p2,0,none⟩),.pointer (some ⟨k2,0,none⟩)])
 |6=>some (.func (.func 178) #[] #[.pointer (some ⟨p3,0,none⟩),.pointer (some ⟨k3,0,none⟩)])
 |7=>some (.func (.func 125) #[.pointer (some ⟨b,0,none⟩)] #[])
 |8=>some (.func (.func 126) #[.pointer (some ⟨b,0,none⟩)] #[])
 |_=>none
structure YZ (w:World) (b mc p1 k1 p2 k2 p3 k3:Nat):Prop where
 look:A9 w 207 mc (cmdFn b p1 k1 p2 k2 p3 k3)
 hp1:Yd w p1 b
 hk1:w.cell? ⟨k1,0,none⟩=some (.int .i64 2)
 hp2:Yd w p2 b
 hk2:w.cell? ⟨k2,0,none⟩=some (.int .i64 3)
 hp3:Yd w p3 b
 hk3:w.cell? ⟨k3,0,none⟩=some (.int .i64 4)
 k1b:k1≠b
 k2b:k2≠b
 k3b:k3≠b
 mcb:mc≠b
 mcl:mc < w.heap.size
theorem YZ.mod{w w':World}{b mc p1 k1 p2 k2 p3 k3:Nat}(h:YZ w b mc p1 k1 p2 k2 p3 k3)(hm:Mod b w w'):YZ w' b mc p1 k1 p2 k2 p3 k3:=
 ⟨fun W x e=>h.look W x (e.trans (hm.block mc h.mcl h.mcb)),h.hp1.mod hm,X4 h.hk1 hm h.k1b,h.hp2.mod hm,X4 h.hk2 hm h.k2b,h.hp3.mod hm,X4 h.hk3 hm h.k3b,h.k1b,h.k2b,h.k3b,h.mcb,Zs h.mcl hm.size⟩
theorem Cm{k1 k2 p3 k3:Nat}(h:wL cNs x=0):cmdFn b p1 k1 p2 k2 p3 k3 x=none:=by unfold cmdFn;rw[h];rfl
theorem Mx{k1 k2 p3 k3:Nat}(h:¬ wL cNs x=0):∃ fv,cmdFn b p1 k1 p2 k2 p3 k3 x=some fv:=by
 have c:=JP cNs x;have a:cNs.length=8:=rfl;unfold cmdFn;generalize wL cNs x=i at *;rcases(by omega:i=1\/i=2\/i=3\/i=4\/i=5\/i=6\/i=7\/i=8)with h|h|h|h|h|h|h|h<;>subst h<;>exact⟨_,rfl⟩
theorem Fs:∀ z∈cNs,∀ c r,z=c::r->QL c.toNat=true:=by
 intro z a c r e;simp[cNs]at a;rcases a with h|h|h|h|h|h|h|h<;>subst h<;>cases e<;>decide
theorem Mc:∀ z∈cNs,z≠[]:=by decide
theorem DU(f:¬ s.1.kind=1->Vk s.1.spelt)(h:¬ wL cNs s.1.spelt=0):s.1.kind=1:=by
 apply Classical.byContradiction;intro e;have b:=Cy h;have g:=Mc _ b
 cases hsp:s.1.spelt with
 |nil=>exact g hsp
 |cons c r=>
  have d:=Fs _ b c r hsp;have a:=f e c r hsp;rw[d]at a;cases a
theorem KX(hi:wL cNs s.1.spelt=k+1)(b:ZX req s.1.spelt=true)(a:nL l s.2=.error f):QG l req F (n+1) s=.error f:=by
 rw[QG,if_neg (by omega),if_pos b];exact VH a
theorem KY{y:PS}(hi:wL cNs s.1.spelt=k+1)(b:ZX req s.1.spelt=true)(a:nL l s.2=.ok y):QG l req F (n+1) s=Zp l F (Qy l req F n) (QG l req F n) k s.1.pos y:=by
 rw[QG,if_neg (by omega),if_pos b];refine(Ux a).trans ?_;show Zp l F (Qy l req F n) (QG l req F n) (wL cNs s.1.spelt - 1) s.1.pos y=_
 rw[hi];rfl
section
variable {α β:Type} {l:L8} {F pos:Nat} {tst:PS->Qb (β×PS)} {sub:PS->Qb (α×PS)} {s:PS}
theorem A5{α:Type}{l:L8}{s:PS}{a:α}{q:Nat×PS}(h:paL l [[59]] s=.ok q):ZK l s a=.ok (a,q.2):=QD h
theorem AR{α:Type}{l:L8}{s:PS}{a:α}(h:paL l [[59]] s=.error f):ZK l s a=.error f:=Q6 h
theorem D7(h:Zp l F tst sub k pos s=Qo (sL l (fun _=>0) s) fun x s1=>ZK l s1 (⟨k,pos,0,x,[],false⟩,[],[])):Zp l F tst sub k pos s=Qo (Gp l s) fun x s1=>.ok ((⟨k,pos,0,x,[],false⟩,[],[]),s1):=by
 rw[h];unfold Gp
 cases sL l (fun _=>0) s with
 |error f=>rfl
 |ok y=>
  rw[QD (r:=.ok y) rfl,QD (r:=.ok y) rfl];unfold ZK
  cases paL l [[59]] y.2 with
  |error f=>rfl
  |ok z=>rfl
theorem Bb{q:L8×PS}(h:Gp l s=.ok q)(a:Zp l F tst sub k pos s=Qo (sL l (fun _=>0) s) fun x s1=>ZK l s1 (⟨k,pos,0,x,[],false⟩,[],[]):=by rfl):Zp l F tst sub k pos s=.ok ((⟨k,pos,0,q.1,[],false⟩,[],[]),q.2):=(D7 a).trans (QD h)
theorem A1(h:Gp l s=.error f)(a:Zp l F tst sub k pos s=Qo (sL l (fun _=>0) s) fun x s1=>ZK l s1 (⟨k,pos,0,x,[],false⟩,[],[]):=by rfl):Zp l F tst sub k pos s=.error f:=(D7 a).trans (Q6 h)
theorem Pz:Zp l F tst sub 6 pos s=Qo (mayL l [J5,J7,JS] s) fun tag s1=>Qo (sL l (fun x=>if Z3 x then 0 else 7) s1) fun v s2=>Qo (sL l (fun _=>0) s2) fun x s3=>ZK l s3 (⟨6,pos,tag,x,zL v,false⟩,[],[]):=rfl
theorem Ee:Zp l F tst sub 6 pos s=Qo (Gl l s) fun q s1=>.ok ((⟨6,pos,q.1,q.2.2,q.2.1,false⟩,[],[]),s1):=by
 rw[Pz];unfold Gl
 cases mayL l [J5,J7,JS] s with
 |error f=>rfl
 |ok y=>
  rw[QD (r:=.ok y) rfl,QD (r:=.ok y) rfl]
  cases sL l (fun x=>if Z3 x then 0 else 7) y.2 with
  |error f=>rfl
  |ok z=>
   rw[QD (r:=.ok z) rfl,QD (r:=.ok z) rfl]
   cases sL l (fun _=>0) z.2 with
   |error f=>rfl
   |ok u=>
    rw[QD (r:=.ok u) rfl,QD (r:=.ok u) rfl];unfold ZK
    cases paL l [[59]] u.2 with
    |error f=>rfl
    |ok v=>rfl
theorem WB{q:(Nat×L8×L8)×PS}(h:Gl l s=.ok q):Zp l F tst sub 6 pos s=.ok ((⟨6,pos,q.1.1,q.1.2.2,q.1.2.1,false⟩,[],[]),q.2):=Ee.trans (QD h)
theorem T0(h:Gl l s=.error f):Zp l F tst sub 6 pos s=.error f:=Ee.trans (Q6 h)
theorem Re:Zp l F tst sub 7 pos s=Qo (armL l F tst sub s) fun a s1=>Qo (Z9 l F tst sub F [a] s1) fun arms s2=>Qo (mayL l [Yk] s2) fun i s3=>if i=0 then .ok ((⟨7,pos,0,[],[],false⟩,arms,[]),s3)else Qo (blockL l F sub s3) fun cs s4=>.ok ((⟨7,pos,0,[],[],true⟩,arms,cs),s4):=rfl
theorem EL:Zp l F tst sub 7 pos s=Qo (Vb l F tst sub s) fun x s1=>.ok ((⟨7,pos,0,[],[],x.2.1⟩,x.1,x.2.2),s1):=by
 rw[Re];unfold Vb
 cases h1:armL l F tst sub s with
 |error f=>rfl
 |ok y=>
  rw[QD (r:=.ok y) rfl,QD (r:=.ok y) rfl]
  cases h2:Z9 l F tst sub F [y.1] y.2 with
  |error f=>rfl
  |ok z=>
   rw[QD (r:=.ok z) rfl,QD (r:=.ok z) rfl]
   cases h3:mayL l [Yk] z.2 with
   |error f=>rfl
   |ok u=>
    rw[QD (r:=.ok u) rfl,QD (r:=.ok u) rfl];by_cases h4:u.1=0
    ·rw[if_pos h4,if_pos h4];rfl
    ·rw[if_neg h4,if_neg h4]
     cases h5:blockL l F sub u.2 with
     |error f=>rfl
     |ok v=>rfl
theorem Wi{q:(List (β×List α)×Bool×List α)×PS}(h:Vb l F tst sub s=.ok q):Zp l F tst sub 7 pos s=.ok ((⟨7,pos,0,[],[],q.1.2.1⟩,q.1.1,q.1.2.2),q.2):=EL.trans (QD h)
theorem TS(h:Vb l F tst sub s=.error f):Zp l F tst sub 7 pos s=.error f:=EL.trans (Q6 h)
end
theorem FN(d:Int)(b:Nat)(t:ByteArray)(s:PS)(j:Value)(a i p1 k1 p2 k2 p3 k3:Nat)(w:World)(h:RC w b t s j a i)(g:YZ w b a p1 k1 p2 k2 p3 k3)(v:d<=6)(c:wL cNs s.1.spelt=0) :
 Calls prog 195 #[.pointer (some ⟨b,0,none⟩),.map (some a),.int .i64 d] w fun e w'=>ZS ⟨4,s.1.pos⟩ w e w'/\Mod b w w':=by
 have r:=Qr h.at_;have u:w.cell? ⟨b,3,none⟩=some (.string (sA s.1.spelt)):=h.at_.cell 3;have f:=g.look w s.1.spelt rfl;rw[Cm c]at f;have H:=I h;clear h g c;simp only[Option.getD_none,Option.isSome_none]at f;by_cases hk:s.1.kind=1
 all_goals first
  |(have m:((s.1.kind:Int) != 1)=false:=by simp;omega)
  |(have m:((s.1.kind:Int) != 1)=true:=by simp;omega)
 all_goals
  clear hk;go_enter func195,ntmps195;go_wp2_with fail;refine(Zv b _ _ _ rfl).mono ?_;rintro e w' ⟨rfl,p⟩;subst p;go_wp2_with fail;refine(XB b 4 _ _ t s.1 s.2 j a i _ H.o.at_ rfl rfl).mono ?_;rintro e x ⟨⟨k,q,rfl,l⟩,n⟩;exact⟨rfl,⟨k,q,rfl,l⟩,Mod.of_below n⟩
theorem Io(q:Value)(req:Qa)(d:Int)(b:Nat)(t:ByteArray)(s:PS)(c:Value)(a f p1 k1 p2 k2 p3 k3:Nat)(w:World)(h:RC w b t s c a f)(l:YZ w b a p1 k1 p2 k2 p3 k3)(k:XO w b c req)(A:d<=6)(u:s.1.kind=1)(i:cmdFn b p1 k1 p2 k2 p3 k3 s.1.spelt=some q)(m:ZX req s.1.spelt=false) :
 Calls prog 195 #[.pointer (some ⟨b,0,none⟩),.map (some a),.int .i64 d] w fun e w'=>ZS ⟨6,s.1.pos⟩ w e w'/\Mod b w w':=by
 have y:=Qr h.at_;have z:w.cell? ⟨b,3,none⟩=some (.string (sA s.1.spelt)):=h.at_.cell 3;have j:=l.look w s.1.spelt rfl;rw[i]at j;have H:=I h;have g:=I (U5 s.1.spelt req b t s c a f w h k);rw[m]at g;clear h l k i m;simp only[Option.getD_some,Option.isSome_some]at j;have B:((s.1.kind:Int) != 1)=false:=by simp;omega
 clear u;go_enter func195,ntmps195;go_wp2_with fail;refine(Zv b _ _ _ rfl).mono ?_;rintro e w' ⟨rfl,n⟩;subst w';go_wp2_with fail;refine(Zv b _ _ _ rfl).mono ?_;rintro e w' ⟨rfl,n⟩;subst w';go_wp2_with fail;refine g.o.mono ?_;rintro e w' ⟨rfl,n⟩;subst w';go_wp2_with fail;refine(XB b 6 _ _ t s.1 s.2 c a f _ H.o.at_ rfl rfl).mono ?_;rintro e C ⟨⟨p,x,rfl,r⟩,v⟩;exact⟨rfl,⟨p,x,rfl,r⟩,Mod.of_below v⟩
theorem LV(b:Nat)(t:ByteArray)(s:PS)(m:Value)(a l p1 k1 p2 k2 p3 k3:Nat)(w:World)(h:RC w b t s m a l)(j:YZ w b a p1 k1 p2 k2 p3 k3) :
 Calls prog 195 #[.pointer (some ⟨b,0,none⟩),.map (some a),.int .i64 7] w fun e w'=>ZS ⟨if s.1.kind=1 then 5 else 4,s.1.pos⟩ w e w'/\Mod b w w':=by
 have q:=Qr h.at_;have r:w.cell? ⟨b,3,none⟩=some (.string (sA s.1.spelt)):=h.at_.cell 3;have g:=j.look w s.1.spelt rfl;have H:=I h;by_cases hk:s.1.kind=1
 ·rw[if_pos hk];have n:((s.1.kind:Int) != 1)=false:=by simp;omega
  clear hk h j g;go_enter func195,ntmps195;go_wp2_with fail;refine(XB b 5 _ _ t s.1 s.2 m a l _ H.o.at_ rfl rfl).mono ?_;rintro e p ⟨⟨d,k,rfl,f⟩,i⟩;exact⟨rfl,⟨d,k,rfl,f⟩,Mod.of_below i⟩
 ·rw[if_neg hk]
  have c:wL cNs s.1.spelt=0:=by
   apply Classical.byContradiction;intro c;exact hk (DU h.nm c)
  rw[Cm c]at g;have n:((s.1.kind:Int) != 1)=true:=by simp;omega
  clear hk h j c;simp only[Option.getD_none,Option.isSome_none]at g;go_enter func195,ntmps195;go_wp2_with fail;refine(Zv b _ _ _ rfl).mono ?_;rintro e w' ⟨rfl,u⟩;subst w';go_wp2_with fail;refine(XB b 4 _ _ t s.1 s.2 m a l _ H.o.at_ rfl rfl).mono ?_;rintro e p ⟨⟨d,k,rfl,f⟩,i⟩;exact⟨rfl,⟨d,k,rfl,f⟩,Mod.of_below i⟩
theorem AL(f:FuncId)(q N:Nat)(n:Nat)(req:Qa)(d:Int)(b F:Nat)(t:ByteArray)(s:PS)(c:Value)(a i p1 k1 p2 k2 p3 k3:Nat)(w:World)(h:RC w b t s c a i)(K:YZ w b a p1 k1 p2 k2 p3 k3)(J:XO w b c req)(ab:0<=d)(hd:d<=6)(U:s.1.kind=1)(L:ZX req s.1.spelt=true)
 (D:cmdFn b p1 k1 p2 k2 p3 k3 s.1.spelt=some (.func (.func f) #[] #[.pointer (some ⟨q,0,none⟩),.pointer (some ⟨N,0,none⟩)])) (aa:∀ args W,(callFunc f args).run prog W=.ok (.enter f args) W) (E:∀ f2,nL t.data.toList s.2=.error f2->QG t.data.toList req F (n+1) s=.error f2)
 (C:∀ W y,Mod b w W->RC W b t y c a i->nL t.data.toList s.2=.ok y->Calls prog f #[.agg #[.string (sA s.1.spelt),.int .i64 s.1.pos],.int .i64 d,.pointer (some ⟨q,0,none⟩),.pointer (some ⟨N,0,none⟩)] W (Qf (QG t.data.toList req F (n+1) s) b t c a i w (Yo (n+1) (fromB w.heap.size)))) :
 Calls prog 195 #[.pointer (some ⟨b,0,none⟩),.map (some a),.int .i64 d] w (Qf (QG t.data.toList req F (n+1) s) b t c a i w (Yo (n+1) (fromB w.heap.size))):=by
 have h1:=Qr h.at_;have h2:=QJ h.at_;have h3:w.cell? ⟨b,3,none⟩=some (.string (sA s.1.spelt)):=h.at_.cell 3;have p:=K.look w s.1.spelt rfl;rw[D]at p;have H:=I h;have k:=I (U5 s.1.spelt req b t s c a i w h J);rw[L]at k;have R:=I E;have Q:=I C;have V:=h.at_.lt;clear h K J D L E C;simp only[Option.getD_some,Option.isSome_some]at p;have ae:((s.1.kind:Int) != 1)=false:=by simp;omega
 clear U;go_enter func195,ntmps195;go_wp2_with fail;refine(Zv b _ _ _ rfl).mono ?_;rintro e g ⟨rfl,u⟩;subst g;go_wp2_with fail;refine(Zv b _ _ _ rfl).mono ?_;rintro e g ⟨rfl,u⟩;subst g;go_wp2_with fail;refine k.o.mono ?_;rintro e g ⟨rfl,u⟩;subst g;go_wp2_with fail;refine(Zv b _ _ _ rfl).mono ?_;rintro e g ⟨rfl,u⟩;subst g;clear k p;go_wp2_with fail;go_region
 all_goals go_wp2_with fail
 all_goals
  refine(YD b t s c a i _ ((H.o.alloc _).drew)).mono ?_;rintro e w2 (⟨y,hy,rfl,hc,hm⟩ | ⟨f2,hf2,⟨l,x,rfl,m⟩,hm⟩)
 all_goals first
  |exact⟨rfl,Qf.err (R.o _ hf2) (((Mod.refl b w).alloc _).trans (Zm hm)) ⟨l,by simp at x;omega,rfl,m⟩⟩
  |skip
 all_goals
  obtain⟨ac,ad,r⟩:=Gv hm V;have Y:=I r;have X:=I hc;have P:=I (Q.o _ y r hc hy);clear hm hc hy r;go_wp2_with fail;refine P.o.mono ?_;intro e w3 A;have z:=I A;clear A;rcases z.o.cases with⟨q,v,G,rfl,M,B,j⟩ | ⟨Z,T,⟨l,x,rfl,m⟩,j⟩
 all_goals first
  |exact⟨rfl,Qf.err T j ⟨l,x,rfl,m⟩⟩
  |skip
 all_goals
  have S:=I (Qf.ok G j M B);clear G j M B z;go_wp2;go_ret;exact S.o
theorem V0(f:FuncId)(n:Nat)(req:Qa)(d:Int)(b F:Nat)(t:ByteArray)(s:PS)(c:Value)(a i p1 k1 p2 k2 p3 k3:Nat)(w:World)(h:RC w b t s c a i)(K:YZ w b a p1 k1 p2 k2 p3 k3)(J:XO w b c req)(ab:0<=d)(hd:d<=6)(T:s.1.kind=1)(L:ZX req s.1.spelt=true)
 (D:cmdFn b p1 k1 p2 k2 p3 k3 s.1.spelt=some (.func (.func f) #[.pointer (some ⟨b,0,none⟩)] #[])) (aa:∀ args W,(callFunc f args).run prog W=.ok (.enter f args) W) (E:∀ f2,nL t.data.toList s.2=.error f2->QG t.data.toList req F (n+1) s=.error f2)
 (C:∀ W y,Mod b w W->RC W b t y c a i->nL t.data.toList s.2=.ok y->Calls prog f #[.pointer (some ⟨b,0,none⟩),.agg #[.string (sA s.1.spelt),.int .i64 s.1.pos],.int .i64 d] W (Qf (QG t.data.toList req F (n+1) s) b t c a i w (Yo (n+1) (fromB w.heap.size)))) :
 Calls prog 195 #[.pointer (some ⟨b,0,none⟩),.map (some a),.int .i64 d] w (Qf (QG t.data.toList req F (n+1) s) b t c a i w (Yo (n+1) (fromB w.heap.size))):=by
 have Z:=Qr h.at_;have h2:=QJ h.at_;have h3:w.cell? ⟨b,3,none⟩=some (.string (sA s.1.spelt)):=h.at_.cell 3;have p:=K.look w s.1.spelt rfl;rw[D]at p;have H:=I h;have k:=I (U5 s.1.spelt req b t s c a i w h J);rw[L]at k;have Q:=I E;have P:=I C;have U:=h.at_.lt;clear h K J D L E C;simp only[Option.getD_some,Option.isSome_some]at p;have ae:((s.1.kind:Int) != 1)=false:=by simp;omega
 clear T;go_enter func195,ntmps195;go_wp2_with fail;refine(Zv b _ _ _ rfl).mono ?_;rintro e g ⟨rfl,u⟩;subst g;go_wp2_with fail;refine(Zv b _ _ _ rfl).mono ?_;rintro e g ⟨rfl,u⟩;subst g;go_wp2_with fail;refine k.o.mono ?_;rintro e g ⟨rfl,u⟩;subst g;go_wp2_with fail;refine(Zv b _ _ _ rfl).mono ?_;rintro e g ⟨rfl,u⟩;subst g;clear k p;go_wp2_with fail;go_region
 all_goals go_wp2_with fail
 all_goals
  refine(YD b t s c a i _ ((H.o.alloc _).drew)).mono ?_;rintro e w2 (⟨y,hy,rfl,hc,hm⟩ | ⟨f2,hf2,⟨l,x,rfl,m⟩,hm⟩)
 all_goals first
  |exact⟨rfl,Qf.err (Q.o _ hf2) (((Mod.refl b w).alloc _).trans (Zm hm)) ⟨l,by simp at x;omega,rfl,m⟩⟩
  |skip
 all_goals
  obtain⟨ac,ad,r⟩:=Gv hm U;have X:=I r;have V:=I hc;have N:=I (P.o _ y r hc hy);clear hm hc hy r;go_wp2_with fail;refine N.o.mono ?_;intro e w3 A;have z:=I A;clear A;rcases z.o.cases with⟨q,v,G,rfl,M,B,j⟩ | ⟨Y,S,⟨l,x,rfl,m⟩,j⟩
 all_goals first
  |exact⟨rfl,Qf.err S j ⟨l,x,rfl,m⟩⟩
  |skip
 all_goals
  have R:=I (Qf.ok G j M B);clear G j M B z;go_wp2;go_ret;exact R.o
theorem Mh(n:Nat)(req:Qa)(d:Int)(b F:Nat)(t:ByteArray)(s:PS)(i:Value)(c j p1 k1 p2 k2 p3 k3:Nat)(w:World)(h:RC w b t s i c j)(l:YZ w b c p1 k1 p2 k2 p3 k3)(B:XO w b i req)(hF:2*t.size+1<F)(z:0<=d)(u:d<=6)(G:SubMu t.size (QG t.data.toList req F n))(J:XV 186 w b t i c j (d+1) (Qy t.data.toList req F n) (Yj n))(H:XV 143 w b t i c j (d+1) (QG t.data.toList req F n) (Yo n)) :
 Calls prog 195 #[.pointer (some ⟨b,0,none⟩),.map (some c),.int .i64 d] w (Qf (QG t.data.toList req F (n+1) s) b t i c j w (Yo (n+1) (fromB w.heap.size))):=by
 by_cases h0:wL cNs s.1.spelt=0
 ·refine(FN d b t s i c j p1 k1 p2 k2 p3 k3 w h l u h0).mono ?_;rintro e K ⟨h1,h2⟩;exact Qf.err (by rw[QG,if_pos h0]) h2 h1
 have A:=DU h.nm h0;cases hu:ZX req s.1.spelt
 ·obtain⟨E,hf⟩:=Mx (b:=b) (p1:=p1) (k1:=k1) (p2:=p2) (k2:=k2) (p3:=p3) (k3:=k3) h0;refine(Io E req d b t s i c j p1 k1 p2 k2 p3 k3 w h l B u A hf hu).mono ?_;rintro e K ⟨h1,h2⟩;exact Qf.err (by rw[QG,if_neg h0,if_neg (by rw[hu];decide)]) h2 h1
 have M:=JP cNs s.1.spelt;have L:cNs.length=8:=rfl;rcases(by omega:wL cNs s.1.spelt=0+1\/wL cNs s.1.spelt=1+1\/wL cNs s.1.spelt=2+1\/wL cNs s.1.spelt=3+1\/wL cNs s.1.spelt=4+1\/wL cNs s.1.spelt=5+1\/wL cNs s.1.spelt=6+1\/wL cNs s.1.spelt=7+1)with hi|hi|hi|hi|hi|hi|hi|hi
 ·refine V0 121 n req d b F t s i c j p1 k1 p2 k2 p3 k3 w h l B z u A hu (by unfold cmdFn;rw[hi];rfl) (fun _ _=>by kernel_rfl) (fun C o=>KX hi hu o) (fun W y HM m r=>?_);have p:s.1.spelt=KM:=by have:=Zk _ _ _ hi;simpa[cNs]using this.symm
  have HE:=KY (F:=F) (n:=n) hi hu r;refine(Rk s.1.spelt s.1.pos d b t y i c j _ m).mono ?_;intro e D h3';exact Qf.lift (fun _=>((⟨0,s.1.pos,0,[],[],false⟩:Xj),[],[])) h3' HM (fun q hq=>HE.trans (A5 hq)) (fun f hf=>HE.trans (AR hf)) (fun a v _ hv=>by rw[p]at hv;exact hv)
 ·refine V0 122 n req d b F t s i c j p1 k1 p2 k2 p3 k3 w h l B z u A hu (by unfold cmdFn;rw[hi];rfl) (fun _ _=>by kernel_rfl) (fun C o=>KX hi hu o) (fun W y HM m r=>?_);have p:s.1.spelt=Kt:=by have:=Zk _ _ _ hi;simpa[cNs]using this.symm
  have HE:=KY (F:=F) (n:=n) hi hu r;refine(L3 s.1.spelt s.1.pos d b t y i c j _ m).mono ?_;intro e D h3';exact Qf.lift (fun _=>((⟨1,s.1.pos,0,[],[],false⟩:Xj),[],[])) h3' HM (fun q hq=>HE.trans (A5 hq)) (fun f hf=>HE.trans (AR hf)) (fun a v _ hv=>by rw[p]at hv;exact hv)
 ·refine V0 123 n req d b F t s i c j p1 k1 p2 k2 p3 k3 w h l B z u A hu (by unfold cmdFn;rw[hi];rfl) (fun _ _=>by kernel_rfl) (fun C o=>KX hi hu o) (fun W y HM m r=>?_);have p:s.1.spelt=KH:=by have:=Zk _ _ _ hi;simpa[cNs]using this.symm
  have HE:=KY (F:=F) (n:=n) hi hu r;refine(Ri s.1.spelt s.1.pos d b t y i c j _ m).mono ?_;intro e D h3';exact Qf.lift (fun _=>((⟨2,s.1.pos,0,[],[],false⟩:Xj),[],[])) h3' HM (fun q hq=>HE.trans (A5 hq)) (fun f hf=>HE.trans (AR hf)) (fun a v _ hv=>by rw[p]at hv;exact hv)
 ·refine AL 178 p1 k1 n req d b F t s i c j p1 k1 p2 k2 p3 k3 w h l B z u A hu (by unfold cmdFn;rw[hi];rfl) (fun _ _=>by kernel_rfl) (fun C o=>KX hi hu o) (fun W y HM m r=>?_);have p:s.1.spelt=ZB:=by have:=Zk _ _ _ hi;simpa[cNs]using this.symm
  have HE:=KY (F:=F) (n:=n) hi hu r;refine(AN s.1.spelt s.1.pos d p1 k1 2 b t y i c j _ m (l.mod HM).hp1 (l.mod HM).hk1 (l.mod HM).k1b).mono ?_;intro e D h3';exact Qf.lift (fun x=>((⟨3,s.1.pos,0,x,[],false⟩:Xj),[],[])) h3' HM (fun q hq=>HE.trans (Bb hq)) (fun f hf=>HE.trans (A1 hf)) (fun a v _ hv=>by rw[p]at hv;exact hv)
 ·refine AL 178 p2 k2 n req d b F t s i c j p1 k1 p2 k2 p3 k3 w h l B z u A hu (by unfold cmdFn;rw[hi];rfl) (fun _ _=>by kernel_rfl) (fun C o=>KX hi hu o) (fun W y HM m r=>?_);have p:s.1.spelt=Kk:=by have:=Zk _ _ _ hi;simpa[cNs]using this.symm
  have HE:=KY (F:=F) (n:=n) hi hu r;refine(AN s.1.spelt s.1.pos d p2 k2 3 b t y i c j _ m (l.mod HM).hp2 (l.mod HM).hk2 (l.mod HM).k2b).mono ?_;intro e D h3';exact Qf.lift (fun x=>((⟨4,s.1.pos,0,x,[],false⟩:Xj),[],[])) h3' HM (fun q hq=>HE.trans (Bb hq)) (fun f hf=>HE.trans (A1 hf)) (fun a v _ hv=>by rw[p]at hv;exact hv)
 ·refine AL 178 p3 k3 n req d b F t s i c j p1 k1 p2 k2 p3 k3 w h l B z u A hu (by unfold cmdFn;rw[hi];rfl) (fun _ _=>by kernel_rfl) (fun C o=>KX hi hu o) (fun W y HM m r=>?_);have p:s.1.spelt=ZD:=by have:=Zk _ _ _ hi;simpa[cNs]using this.symm
  have HE:=KY (F:=F) (n:=n) hi hu r;refine(AN s.1.spelt s.1.pos d p3 k3 4 b t y i c j _ m (l.mod HM).hp3 (l.mod HM).hk3 (l.mod HM).k3b).mono ?_;intro e D h3';exact Qf.lift (fun x=>((⟨5,s.1.pos,0,x,[],false⟩:Xj),[],[])) h3' HM (fun q hq=>HE.trans (Bb hq)) (fun f hf=>HE.trans (A1 hf)) (fun a v _ hv=>by rw[p]at hv;exact hv)
 ·refine V0 125 n req d b F t s i c j p1 k1 p2 k2 p3 k3 w h l B z u A hu (by unfold cmdFn;rw[hi];rfl) (fun _ _=>by kernel_rfl) (fun C o=>KX hi hu o) (fun W y HM m r=>?_);have p:s.1.spelt=Xy:=by have:=Zk _ _ _ hi;simpa[cNs]using this.symm
  have HE:=KY (F:=F) (n:=n) hi hu r;refine(Td s.1.spelt s.1.pos d b t y i c j _ m).mono ?_;intro e D h3';exact Qf.lift (fun x=>((⟨6,s.1.pos,x.1,x.2.2,x.2.1,false⟩:Xj),[],[])) h3' HM (fun q hq=>HE.trans (WB hq)) (fun f hf=>HE.trans (T0 hf)) (fun a v _ hv=>by rw[p]at hv;exact hv)
 ·refine V0 126 n req d b F t s i c j p1 k1 p2 k2 p3 k3 w h l B z u A hu (by unfold cmdFn;rw[hi];rfl) (fun _ _=>by kernel_rfl) (fun C o=>KX hi hu o) (fun W y HM m r=>?_);have p:s.1.spelt=kIf:=by have:=Zk _ _ _ hi;simpa[cNs]using this.symm
  have HE:=KY (F:=F) (n:=n) hi hu r;refine(MP (Qy t.data.toList req F n) (Yj n) (QG t.data.toList req F n) (Yo n) s.1.spelt s.1.pos d b F t y i c j _ m hF z (by omega) (Y3 n) (Xm n) G (fun s g=>Va n s g) (fun s g=>UJ n s g) (J.mod HM) (H.mod HM)).mono ?_;intro e D h3'
  exact Qf.lift (fun x=>((⟨7,s.1.pos,0,[],[],x.2.1⟩:Xj),x.1,x.2.2)) h3' HM (fun q hq=>HE.trans (Wi hq)) (fun f hf=>HE.trans (TS hf)) (fun a v _ hv=>by
   rw[p]at hv;obtain⟨av,ev,rfl,h1,h2,h3⟩:=hv
   exact ⟨av,ev,rfl,Yy.weak (Y3 n) (Xm n) h2 h1 (fun k hk _=>Qs HM.size hk),h2,h3.weak (Xm n) (fun k hk _=>Qs HM.size hk)⟩)
theorem BS(r:Qb (α×PS))(n:α->World->Value->Prop)(d:Int)(b:Nat)(t:ByteArray)(s:PS)(g:Value)(a f:Nat)(w:World)(h:RC w b t s g a f)
 (j:Calls prog 195 #[.pointer (some ⟨b,0,none⟩),.map (some a),.int .i64 d] w (Qf r b t g a f w n)) :
 Calls prog 143 #[.pointer (some ⟨b,0,none⟩),.int .i64 d] w (Qf r b t g a f w n):=by
 have C:=JG h.at_;have p:=I j;clear j h;go_enter func143,ntmps143;go_wp2_with fail;refine p.o.mono ?_;intro e D i;rcases i.cases with⟨q,v,l,rfl,m,k,c⟩ | ⟨B,z,⟨x,A,rfl,y⟩,c⟩
 ·have u:=I (Qf.ok l c m k);clear i l c m k;go_wp2;go_ret;exact u.o
 ·exact⟨rfl,Qf.err z c ⟨x,A,rfl,y⟩⟩
theorem B4(req:Qa)(b F:Nat)(t:ByteArray)(d:Value)(a c pr pt pf p1 k1 p2 k2 p3 k3:Nat)(hF:2*t.size+1<F) :
 ∀(n:Nat),n<=7->∀(w:World),YB w b c pr pt pf->YZ w b a p1 k1 p2 k2 p3 k3->XO w b d req->XV 143 w b t d a c (7 - (n:Int)) (QG t.data.toList req F n) (Yo n)
 |0,_,w,ht,hcm,hr=>fun W s hm hc=>by
  refine BS _ _ _ b t s d a c W hc ?_;refine(LV b t s d a c p1 k1 p2 k2 p3 k3 W hc (hcm.mod hm)).mono ?_;rintro e j ⟨f,g⟩;refine Qf.err ?_ g f;rw[QG];split<;>rfl
 |n+1,hn,w,ht,hcm,hr=>fun W s hm hc=>by
  refine BS _ _ _ b t s d a c W hc ?_;have i:=B4 req b F t d a c pr pt pf p1 k1 p2 k2 p3 k3 hF n (by omega) W (ht.mod hm) (hcm.mod hm) (hr.mod hm);have it:=To req b F t d a c pr pt pf hF n (by omega) W (ht.mod hm) (hr.mod hm);have e:(7:Int) - ((n+1:Nat):Int)+1=7 - (n:Int):=by omega
  exact Mh n req _ b F t s d a c p1 k1 p2 k2 p3 k3 W hc (hcm.mod hm) (hr.mod hm) hF (by omega) (by omega) (E0 t req F n) (by rw[e];exact it) (by rw[e];exact i)
theorem DT{l:L8}{chk:L8->Nat}:∀(f:Nat) (acc:Qa) (s:PS),Gd l s->∀ y,moreL l chk f acc s=.ok y->2*y.1.length+mu l.length y.2<=2*acc.length+mu l.length s
 |0,acc,s,h=>fun y e=>by cases e;exact Nat.le_refl _
 |f+1,acc,s,h=>fun y e=>by
  rw[moreL]at e
  cases hp:paL l [[44],[93]] s with
  |error g=>rw[hp]at e;cases e
  |ok z=>
   rw[hp]at e;obtain⟨a,d⟩:=UH (zs:=[[44],[93]]) h (by decide) z hp;dsimp only at e
   split at e
   ·cases hs:sL l chk z.2 with
    |error g=>rw[hs]at e;cases e
    |ok x=>
     rw[hs]at e;obtain⟨b,i⟩:=JO a x hs;have c:=DT f _ x.2 b y e;simp only[Ze,ZN,Up]at c;omega
   ·cases e;dsimp only;omega
theorem I8{chk:L8->Nat}(h:Gd l s):∀ y,sLs l chk F s=.ok y->2*y.1.length+mu l.length y.2<=mu l.length s+1:=fun y e=>by
 unfold sLs at e
 cases hm:mayL l [[91]] s with
 |error g=>rw[hm]at e;cases e
 |ok z=>
  rw[hm]at e;obtain⟨a,d⟩:=Vj (zs:=[[91]]) h (by decide) z hm;dsimp only at e
  cases hs:sL l chk z.2 with
  |error g=>rw[hs]at e;cases e
  |ok x=>
   rw[hs]at e;obtain⟨b,f⟩:=JO a x hs;dsimp only at e
   split at e
   ·cases e;simp only[ZN,Up];omega
   ·have c:=DT F _ x.2 b y e;simp only[ZN,Up]at c;omega
theorem F6(req:Qa)(x:L8):(ZQ req x).length<=req.length+1:=by
 unfold ZQ;split<;>simp
theorem BF:∀(xs req:Qa),(xs.foldl ZQ req).length<=req.length+xs.length
 | [],req=>by simp
 |x::r,req=>by
  have a:=BF r (ZQ req x);have b:=F6 req x;rw[List.foldl_cons,ZN];omega
theorem C6{base:Nat}(h:w.ownsRow base 9 1 a req.length (Qv req))(e:req=[]->a=.slice none 0 0)(k:b<base)(d:req.length<=1000):XO w b a req:=by
 by_cases hr:req=[]
 ·exact Qd ⟨e hr,hr⟩
 ·obtain⟨g,c,i,l,f,j⟩:=slB.of_owns h rfl hr;exact Qc ⟨g,c,i,by omega,f,j,d⟩
theorem Jq.mod{g c er:Nat}{zs:Qa}(h:Jq w p1 p2 g n c er zs)(hm:Mod b w w')(h1:p1≠b)(h2:p2≠b)(h3:g≠b):Jq w' p1 p2 g n c er zs:=
 ⟨X4 h.1 hm h1,X4 h.2.1 hm h2,fun j hj=>X4 (h.2.2.1 j hj) hm h3,h.2.2.2.1,h.2.2.2.2⟩
def G6:Qa:=[QX,ZB,ZD,Xc]
theorem RC.setReq{t:ByteArray}{rv:Value}{mc mt:Nat}(h:RC w b t s rv mc mt)(v:Value):RC (w.setCell ⟨b,7,none⟩ v) b t s v mc mt:=
 h.step ((Mod.refl b w).setCell 7 v) (Qt w b 7 v _ _ h.at_) h.le h.sz h.e0 h.nm
def S8(r:Qb (Qa×PS))(b:Nat)(t:ByteArray)(mc mt:Nat)(w:World)(e:Ending)(w':World):Prop:=
 Mod b w w'/\((∃ y rv,r=.ok y/\e=.returned (.tuple #[])/\RC w' b t y.2 rv mc mt/\XO w' b rv y.1/\∀ k,rv.ownBlock=some k->w.heap.size<=k)\/(∃ f,r=.error f/\ZS f w e w'))
theorem Lf(b F:Nat)(t:ByteArray)(s:PS)(y z:Nat)(w:World)(h:RC w b t s (.slice none 0 0) y z)(hF:2*t.size+1<F) :
 Calls prog 142 #[.pointer (some ⟨b,0,none⟩)] w (S8 (X2 t.data.toList F F [] s) b t y z w):=by
 have H:=I h;have bK:=h.at_.lt;have bn:=h.mu_le;have aZ:=h.mu_lt hF;clear h;obtain⟨i0,hi,bw,bx,bz⟩:=info_parts Tryz.infoStr;go_enter func142,ntmps142;go_wp2_with fail
 go_loopw [] (fun wr=>∃(K:PS) (m:Qa) (r:Value) (f:Nat),RC wr b t K r y z/\wr.ownsRow w.heap.size 9 1 r m.length (Qv m)/\(m=[]->r=.slice none 0 0)/\Mod b w wr/\mu t.size K<f/\2*m.length+mu t.size K<=1300/\X2 t.data.toList F F [] s=X2 t.data.toList F f m K) (fun wr=>muW wr b t.size)
 case atStart=>exact⟨s,[],.slice none 0 0,F,H.o,Zj,fun _=>rfl,Mod.refl _ _,aZ,by simp;omega,rfl⟩
 case round=>
  obtain⟨K,m,r,f,J,ac,ab,D,hf,bE,a0⟩:=hrel;obtain⟨f,rfl⟩:∃ g,f=g+1:=⟨f - 1,by omega⟩;have bM:=J.muEq;have bN:wr.heap.size=wr.heap.size:=rfl;generalize hMR:muW wr b t.size=MR at *;have HR:=I J;have ay:=I D;have S:=I a0;have aQ:=I ac;have az:=I ab;have bR:w.heap.size<=wr.heap.size:=D.size;clear J D a0 ac ab bn aZ;go_wp2_with fail;refine(Vd b wr.heap.size 1 1 [JN] t K r y z _ (HR.o.alloc _) (X8 wr [JN] _ _ rfl) rfl (by decide)).mono ?_;intro e q h3;rcases h3.cases with⟨M,v3,aK,rfl,a1,aV,aq⟩ | ⟨f3,bg,⟨V,hz,rfl,Y⟩,aq⟩
  rotate_left
  ·exact⟨rfl,⟨(ay.o.alloc _).trans aq,Qc ⟨f3,S.o.trans (Q6 bg),⟨V,by simp at hz;omega,rfl,Y⟩⟩⟩⟩
  have au:=V2 (l:=t.data.toList) (by simpa using HR.o.le) HR.o.e0 (by decide) aK;rw[bal]at au;have aY:=au.2.1;replace au:=au.1;have aC:=((Mod.refl b wr).alloc (.cells #[.string (sA JN)] 9)).trans aq;have ag:=I (ay.o.trans aC);have ao:=I aK;have av:=I aV;have ai:=I (ZP (b:=b) aQ.o aC (by omega));unfold XG at a1;subst a1;clear h3 aK aV aq aC;by_cases h1:M.1=0
  ·have bf:¬(0:Int)<(M.1:Int):=by omega
   have N:=I h1;clear h1;go_wp2;go_end0;exact⟨ag.o,Qd ⟨(m,M.2),r,S.o.trans ((QD ao.o).trans (if_pos N.o)),rfl,av.o,C6 ai.o az.o (by omega) (show m.length<=1000 by omega),fun k p=>(ai.o.lt k p).1⟩⟩
  have bf:(0:Int)<(M.1:Int):=by omega
  have bL:=aY h1;have N:=I h1;clear h1 aY;go_wp2_with (go_at_call 137;refine(Aq _ _ _ _ _).mono ?_;rintro e w' ⟨rfl,rfl⟩);obtain⟨U,G⟩:=QF (((q.alloc (.cells #[.string ⟨#[101,110,118,101,108,111,112,101]⟩,.string ⟨#[102,105,108,101,105,110,116,111]⟩,.string ⟨#[114,101,106,101,99,116]⟩,.string ⟨#[118,97,114,105,97,98,108,101,115]⟩] 9)).alloc (.cells #[.int .i64 6] 33)).alloc (.cells #[.slice (some ⟨q.heap.size,0,none⟩) 4 4] 61));have bP:w.heap.size<=q.heap.size:=ag.o.size
  have ba:Hid (Jq U (q.heap.size+1+1) (q.heap.size+1) q.heap.size 4 4 6 G6):=by
   rw[G];refine⟨?_,?_,?_,rfl,by decide⟩
   ·exact Qi (Q5 (by simp)) 0
   ·exact Qi (Qn (Q5 (by simp))) 0
   ·exact((X8 q G6 _ _ rfl).below (Qp _)).below (Qp _)
  have aj:Hid (RC U b t M.2 r y z):=by rw[G];exact((av.o.alloc _).alloc _).alloc _
  have aE:Mod b q U:=by rw[G];exact(((Mod.refl b q).alloc _).alloc _).alloc _
  have ax:=I (ag.o.trans aE);have aR:=I (ZP (b:=b) ai.o aE (by omega));have bT:U.heap.size=q.heap.size+1+1+1:=by rw[G];simp
  rw[<-G];clear G aE;refine(Gw (.func (.func 190) #[] #[.pointer (some ⟨q.heap.size+1+1,0,none⟩),.pointer (some ⟨q.heap.size+1,0,none⟩)]) (Xv 6 G6) b F t M.2 r y z _ aj.o (fun W s hm hc=>BQ _ _ _ 4 4 6 G6 b t s r y z W hc (ba.o.mod hm (by omega) (by omega) (by omega))) (by have:=aj.o.mu_lt hF;exact this)).mono ?_;intro e w5 h5;rcases h5.cases with⟨d,v5,aL,rfl,bs,aW,aa⟩ | ⟨f5,bh,⟨V,hz,rfl,Y⟩,aa⟩
  rotate_left
  ·exact⟨rfl,⟨ax.o.trans aa,Qc ⟨f5,S.o.trans ((QD ao.o).trans ((if_neg N.o).trans (Q6 bh))),⟨V,Qs ax.o.size hz,rfl,Y⟩⟩⟩⟩
  have bm:=I8 (l:=t.data.toList) ⟨by simpa using aj.o.le,aj.o.e0⟩ d aL;rw[bal]at bm;obtain⟨xg,xc,rfl,bS,ae,bv⟩:=bs;have aA:=I ae;have aO:=I (ax.o.trans aa);have aT:=I aL;have aw:=I aW;have aP:=I (ZP (b:=b) aR.o aa (by omega));have bq:∀ k,r.ownBlock=some k->k<U.heap.size:=fun k p=>(aR.o.lt k p).2
  clear h5 aL aW aa ae;go_wp2_with fail
  go_loopw [13] (fun i L=>∃(k:Nat) (v:Value),i=.int .i64 k/\k<=d.1.length/\RC L b t d.2 v y z/\L.ownsRow w.heap.size 9 1 v ((d.1.take k).foldl ZQ m).length (Qv ((d.1.take k).foldl ZQ m))/\((d.1.take k).foldl ZQ m=[]->v=.slice none 0 0)/\Mod b w L/\Zx L xg d.1/\(∀ g,v.ownBlock=some g->g≠xg)/\muW L b t.size=mu t.size d.2/\xg<L.heap.size) (fun i _=>d.1.length - (intOf i).toNat)
  case atStart=>exact⟨0,r,rfl,QE,aw.o,aP.o,az.o,aO.o,aA.o,fun k p e=>by have:=bq k p;omega,aw.o.muEq,Qq (aA.o 0 (List.length_pos_iff.2 bv))⟩
  case round=>
   obtain⟨k,v,rfl,p,J,ac,ab,D,ae,aJ,bo,hxl⟩:=hrel;have bj:=BF (d.1.take k) m;have bO:(d.1.take k).length=k:=by rw[List.length_take];omega
   have B:=I J;have A:=I ac;have ah:=I ab;have Q:=I D;have aB:=I ae;have bQ:w.heap.size<=wr.heap.size:=D.size;clear J ac ab D ae aw aP aO aA HR aQ az ay ai av ag;by_cases hkl:k<d.1.length
   ·have hx:(d.1.take (k+1)).foldl ZQ m=ZQ ((d.1.take k).foldl ZQ m) (d.1.getD k []):=by
     rw[List.take_add_one,List.foldl_append,List.getElem?_eq_getElem hkl,List.getD_eq_getElem?_getD,List.getElem?_eq_getElem hkl];rfl
    have ak:=I hx;have bF:wr.cell? ⟨xg,k,none⟩=some (.string (sA (d.1.getD k []))):=aB.o k hkl;have h7:=Yf B.o.at_;generalize hR:(d.1.take k).foldl ZQ m=R at *;generalize d.1.getD k []=x at *;have af:=I (BP wr b v R x (C6 A.o ah.o (by omega) (by omega)))
    obtain⟨ra,rn,rc,bp⟩:∃ a n c,v=.slice a n c:=by
     obtain⟨_,h2⟩:=A.o;rcases h2 with⟨h,_⟩ | ⟨g,bB,bC,h,_⟩
     ·exact⟨_,_,_,h⟩
     ·exact⟨_,_,_,h⟩
    subst bp;clear hx hR;by_cases hw0:0<wL R x
    ·rw[Qw hw0]at af;have P:Hid (ZQ R x=R):=by show _=_;unfold ZQ;rw[if_pos hw0]
     clear hw0;go_wp2_with (go_at_call 64;refine af.o.mono ?_;rintro e w' ⟨rfl,bt⟩;subst w');go_roundw
     case rel=>exact⟨k+1,_,by go_num,by omega,B.o,by rw[ak.o,P.o];exact A.o,fun hh=>ah.o (by rw[ak.o,P.o]at hh;exact hh),Q.o,aB.o,aJ,bo,hxl⟩
     case measure=>simp[intOf];omega
    ·rw[Qh hw0]at af;have P:Hid (ZQ R x=R++[x]):=by show _=_;unfold ZQ;rw[if_neg hw0]
     clear hw0;have bG:wr.frozen? ⟨b,7,none⟩=false:=B.o.at_.frozen 7;go_wp2_with (first|(go_at_call 64;refine af.o.mono ?_;rintro e w' ⟨rfl,bt⟩;subst w')|(at_builtin;refine wpList_append_own_at _ rfl _ _ 61 rfl w.heap.size 9 i0 (.string ⟨#[]⟩) 1 16 underlying61 hi bw bx bz rfl (by decide) _ _ _ rfl (A.o.alloc _) ⟨wr.heap.size,0,none⟩ 1 1 [.string (sA x)] rfl rfl ?c1 ?c2 ?c3 ?c4 ?c5 ?_))
     case c1=>exact cell_one_new _ _ _
     case c2=>intro u hu;simp at hu;subst hu;rfl
     case c3=>unfold maxLen;omega
     case c4=>omega
     case c5=>simp;omega
     ·intro v' E ad Z _ aF;have bl:R.length+1=(R++[x]).length:=by simp
      rw[show Qv R++[.string (sA x)]=Qv (R++[x])from X0 R x,bl]at ad;obtain⟨C,X,rfl,bI,_,_⟩:=slB.of_owns ad rfl (by simp);obtain⟨nn,aH⟩:=QF ((R++[x]).length);rw[<-aH]at ad aF ⊢;have aI:∀ k,(Value.slice ra rn rc).ownBlock=some k->w.heap.size<=k:=fun k p=>(A.o.lt k p).1
      have a3:Zx E xg d.1:=fun j hj=>by
       rw [ZA (w:=wr) (a:=⟨xg,j,none⟩) (by
        rw[Z.block xg (by simp;omega) (fun e=>aJ xg e.symm rfl)]
        exact Below.heap_alloc _ _ _ hxl)]
       exact aB.o j hj
      have bJ:C≠xg:=by
       rcases aF with h|h
       ·exact aJ C (by rw[<-h];rfl)
       ·simp[Value.ownBlock]at h;omega
      have ap:=(B.o.alloc (Obj.cells #[.string (sA x)] 9)).grown Z (fun k p=>by have:=aI k p;omega);have aU:=(Q.o.alloc (Obj.cells #[.string (sA x)] 9)).grown Z (fun k p=>aI k p);have bD:=Yf ap.at_;have bH:E.frozen? ⟨b,7,none⟩=false:=ap.at_.frozen 7;have bu:xg<E.heap.size:=by have:=Z.size;simp at this;omega
      have aS:=I (ap.setReq (.slice (some ⟨C,0,none⟩) nn X));have a4:=I (aU.setCell 7 (.slice (some ⟨C,0,none⟩) nn X));have a8:=I (Ct (T:=b) (o:=7) (x:=.slice (some ⟨C,0,none⟩) nn X) ad (fun k p=>by simp[Value.ownBlock]at p;omega))
      have bc:Hid (Zx (E.setCell ⟨b,7,none⟩ (.slice (some ⟨C,0,none⟩) nn X)) xg d.1):=fun j hj=>by
       rw[World.cell?_setCell_other _ _ _ _ (by simp;try omega)];exact a3 j hj
      have bA:(E.setCell ⟨b,7,none⟩ (.slice (some ⟨C,0,none⟩) nn X)).heap.size=E.heap.size:=by simp[World.setCell]
      have a7:=I aH;clear aH ad Z aF aI a3 ap aU;go_wp2;go_roundw
      case rel=>exact⟨k+1,_,by go_num,by omega,aS.o,by rw[ak.o,P.o,<-a7.o];exact a8.o,fun hh=>by rw[ak.o,P.o]at hh;simp at hh,a4.o,bc.o,fun g hg=>by simp[Value.ownBlock]at hg;omega,aS.o.muEq,by rw[bA];exact bu⟩
      case measure=>simp[intOf];omega
   ·have bk:k=d.1.length:=by omega
    subst bk;have br:d.1.take d.1.length=d.1:=List.take_length;rw[br]at A ah bj;go_wp2_with fail;have HP:=I (Jo b wr.heap.size 1 1 [[59]] t d.2 v y z _ (B.o.alloc (.cells (Qv [[59]]).toArray 9)) (Y2 _ _ rfl) rfl (by decide));refine HP.o.mono ?_;intro e w8 h8;rcases h8.cases with⟨y8,v8,aM,rfl,a2,aX,ar⟩ | ⟨f8,bi,⟨V,hz,rfl,Y⟩,ar⟩
    rotate_left
    ·exact⟨rfl,⟨(Q.o.alloc _).trans ar,Qc ⟨f8,S.o.trans ((QD ao.o).trans ((if_neg N.o).trans ((QD aT.o).trans (Q6 bi)))),⟨V,Qs (Q.o.alloc _).size hz,rfl,Y⟩⟩⟩⟩
    have aG:=G3 (l:=t.data.toList) (by simpa using B.o.le) B.o.e0 (by decide) aM;rw[bal]at aG;replace aG:=aG.1;have aD:=((Mod.refl b wr).alloc (.cells (Qv [[59]]).toArray 9)).trans ar;have a5:=I (Q.o.trans aD);have a9:=I (ZP (b:=b) A.o aD (by omega));have aN:=I aX;have bd:=I aM;unfold XG at a2;subst a2;clear h8 aM aX ar aD HP
    have a6:Hid (muW w8 b t.size<MR):=by
     show _<_
     rw[aN.o.muEq];omega
    go_wp2;go_roundw
    case rel=>exact⟨y8.2,d.1.foldl ZQ m,v,f,aN.o,a9.o,ah.o,a5.o,by omega,by omega,S.o.trans ((QD ao.o).trans ((if_neg N.o).trans ((QD aT.o).trans (QD bd.o))))⟩
    case measure=>exact a6.o
def ps0:PS:=(⟨0,0,[],[],0⟩,0)
def Yz(X:Nat->Prop)(req:Qa)(w:World)(v:Value):Prop:=
 (req=[]/\v=.slice none 0 0)\/slX X req w v
def Fe(X:Nat->Prop)(y:Qa×List (Zt 7))(w:World)(v:Value):Prop:=
 ∃ rv lv,v=.agg #[rv,lv]/\Yz X y.1 w rv/\blX X (Yo 7) y.2 w lv
theorem Yz.keep{X:Nat->Prop}{req:Qa}{w w':World}{v:Value}(h:Yz X req w v)(a:AbvX X w w'):Yz X req w' v:=by
 rcases h with h|h
 ·exact Qd h
 ·exact Qc (h.keep a)
theorem Yz.weak{X Y:Nat->Prop}{req:Qa}{w:World}{v:Value}(h:Yz X req w v)(a:∀ k,X k->k<w.heap.size->Y k):Yz Y req w v:=by
 rcases h with h|h
 ·exact Qd h
 ·exact Qc (h.weak a)
theorem Yz.of(h:XO w b a req)(i:∀ k,a.ownBlock=some k->B<=k):Yz (fromB B) req w a:=by
 rcases h with⟨e,f⟩ | ⟨g,c,d,_,l,j,_⟩
 ·exact Qd ⟨f,e⟩
 ·exact Qc ⟨g,c,d,i g (by rw[d];rfl),l,j⟩
theorem Yz.form{X:Nat->Prop}{v:Value}(h:Yz X req w v):∃ a n c,v=.slice a n c:=by
 rcases h with⟨_,h⟩ | ⟨g,c,h,_⟩
 ·exact⟨_,_,_,h⟩
 ·exact⟨_,_,_,h⟩
def We(r:Qb (Qa×List (Zt 7)))(b:Nat)(w:World)(e:Ending)(w':World):Prop:=
 Mod b w w'/\((∃ y v,r=.ok y/\e=.returned v/\Fe (fromB w.heap.size) y w' v)\/(∃ f,r=.error f/\ZS f w e w'))
theorem FT(h:nL l 0=.error f):prL l=.error f:=by unfold prL;rw[h]
theorem FU(h:nL l 0=.ok s)(a:X2 l (2*l.length+10) (2*l.length+10) [] s=.error f):prL l=.error f:=by unfold prL;rw[h];dsimp only;rw[a]
theorem FW(h:nL l 0=.ok s)(a:X2 l (2*l.length+10) (2*l.length+10) [] s=.ok y)(b:cMr (QG l y.1 (2*l.length+10) 7) (2*l.length+10) [] y.2=.error f):prL l=.error f:=by unfold prL;rw[h];dsimp only;rw[a];dsimp only;rw[b]
theorem M6{a:List (Zt 7)}(h:nL l 0=.ok s)(b:X2 l (2*l.length+10) (2*l.length+10) [] s=.ok y)(c:cMr (QG l y.1 (2*l.length+10) 7) (2*l.length+10) [] y.2=.ok a):prL l=.ok (y.1,a):=by unfold prL;rw[h];dsimp only;rw[b];dsimp only;rw[c]
theorem Ic{f:Nat}(h:s.1.kind=0):cMr sub (f+1) acc s=.ok acc:=by rw[cMr,if_pos h]
theorem Hp{f:Nat}{e:Flt}(h:¬ s.1.kind=0)(a:sub s=.error e):cMr sub (f+1) acc s=.error e:=by rw[cMr,if_neg h,a]
theorem LT{f:Nat}{y:α×PS}(h:¬ s.1.kind=0)(a:sub s=.ok y):cMr sub (f+1) acc s=cMr sub f (acc++[y.1]) y.2:=by rw[cMr,if_neg h,a]
theorem Oe(b:Nat)(t:ByteArray)(r s pr pt pf p1 k1 p2 k2 p3 k3:Nat)(w:World)(h:RC w b t ps0 (.slice none 0 0) r s)(ht:YB w b s pr pt pf)(av:YZ w b r p1 k1 p2 k2 p3 k3) :
 Calls prog 90 #[.pointer (some ⟨b,0,none⟩)] w (We (prL t.data.toList) b w):=by
 have H:=I h;have HT:=I ht;have aG:=I av;have a2:=h.at_.lt;have K:2*t.size+1<2*t.data.toList.length+10:=by rw[bal];omega
 generalize hFe:2*t.data.toList.length+10=F at K;clear h ht av;obtain⟨i0,hi,aX,aY,aZ⟩:=info_parts Tryz.infoCommand;go_enter func90,ntmps90;go_wp2_with fail;have aj:=I ((Mod.refl b w).alloc (.cells #[.slice none 0 0,.slice none 0 0] 91));have aE:=I (QC w (.cells #[.slice none 0 0,.slice none 0 0] 91));refine(YD b t ps0 _ r s _ (H.o.alloc _)).mono ?_;rintro e w1 (⟨y,hy,rfl,hc,hm⟩ | ⟨W,Y,⟨A,E,rfl,B⟩,hm⟩);rotate_left
 ·exact⟨rfl,aj.o.trans hm,Qc ⟨W,FT Y,⟨A,by simp at E;omega,rfl,B⟩⟩⟩
 have V:=I hy;have HC:=I hc;have S:=I (aj.o.trans hm);have af:=I (QA aE.o hm (by omega));clear hy hc hm;go_wp2_with fail;refine(Lf b F t y r s _ HC.o K).mono ?_;rintro e i ⟨M,⟨m,rv,aD,rfl,L,ab,aB⟩ | ⟨W,Y,⟨A,E,rfl,B⟩⟩⟩;rotate_left
 ·exact⟨rfl,S.o.trans M,Qc ⟨W,FU V.o (by rw[hFe];exact Y),⟨A,Qs S.o.size E,rfl,B⟩⟩⟩
 have a4:=Qg af.o;have ar:=I aD;have ah:=I L;have x:=I (S.o.trans M);have ag:=I (QA af.o M (by omega));have aM:=I ab;have aO:Hid (∀ k,rv.ownBlock=some k->w.heap.size+1<=k):=fun k c=>by have:=aB k c;omega
 have HO:=I (B4 m.1 b F t rv r s pr pt pf p1 k1 p2 k2 p3 k3 K 7 Ql i (HT.o.mod x.o) (aG.o.mod x.o) ab);rw[show(7:Int) - ((7:Nat):Int)=0 from rfl]at HO;have aV:=L.mu_le;have aw:=L.mu_lt K;have a5:=Qg ag.o;clear aD L M ab aB;go_wp2_with fail
 go_loopw [3] (fun v wr=>∃(d:PS) (j:List (Zt 7)) (Q:List Value) (f:Nat),wr.ownsRow i.heap.size 179 1 v j.length Q/\Q3 (fun a u=>Q8 (Yo 7) i.heap.size wr v a u) j Q/\(j=[]->v=.slice none 0 0)/\RC wr b t d rv r s/\Mod b i wr/\mu t.size d<f/\j.length+mu t.size d<=1300/\cMr (QG t.data.toList m.1 F 7) F [] m.2=cMr (QG t.data.toList m.1 F 7) f j d) (fun _ wr=>muW wr b t.size)
 case atStart=>
  exact⟨m.2,[],[],F,Zj,trivial,fun _=>rfl,ah.o,Mod.refl _ _,aw,by simp;omega,rfl⟩
 case round=>
  obtain⟨d,j,Q,f,az,p,ay,ac,Z,hf,a0,aC⟩:=hrel;obtain⟨f,rfl⟩:∃ g,f=g+1:=⟨f - 1,by omega⟩;have z:=I ac;have l:=I Z;have U:=I aC;have T:=I az;have ap:=I p;have aK:=I ay;have J:=I (QA ag.o Z (by omega));have a7:=Qg J.o;have a1:=Qr ac.at_;clear ac Z aC az p ay ah aV aw;by_cases h1:d.1.kind=0
  ·have aS:((d.1.kind:Int) != 0)=false:=by simp;omega
   have G:=I h1;have aq:=I (blX.of_owns (Xm 7) T.o rfl aK.o ap.o);obtain⟨la,ln,lc,rfl⟩:=aq.o.form;have ao:=I (Yz.of (aM.o.mod l.o) aO.o);obtain⟨ra,rn,rc,rfl⟩:=ao.o.form;have h7:=Yf z.o.at_;have r0:=Qk J.o;have r1:=Qr J.o;have rf:=Qu J.o;clear h1;go_wp2;have D:¬ fromB (w.heap.size+1) w.heap.size:=by unfold fromB;omega
   have aW:∀ k,fromB (w.heap.size+1) k->k<((wr.setCell ⟨w.heap.size,0,none⟩ (.slice ra rn rc)).setCell ⟨w.heap.size,1,none⟩ (.slice la ln lc)).heap.size->fromB w.heap.size k:=fun k c _=>by unfold fromB at *;omega
   refine bodyPost_ret (v:=.agg #[.slice ra rn rc,.slice la ln lc]) (by simp[results,results90,go_sem,r0,r1]) rfl ⟨((x.o.trans l.o).setNew Ql _ _).setNew Ql _ _,Qd ⟨(m.1,j),_,M6 V.o (by rw[hFe];exact ar.o) (by rw[hFe,U.o];exact Ic G.o),rfl,⟨_,_,rfl,?_,?_⟩⟩⟩
   ·exact((ao.o.keep (AbvX.set D _ _)).keep (AbvX.set D _ _)).weak aW
   ·have D:¬ fromB i.heap.size w.heap.size:=by unfold fromB;omega
    refine blX.weak (Xm 7) ((aq.o.keep (Xm 7) (AbvX.set D _ _)).keep (Xm 7) (AbvX.set D _ _)) (fun k c _=>by unfold fromB at *;omega)
  have aS:((d.1.kind:Int) != 0)=true:=by simp;omega
  have G:=I h1;clear h1;go_wp2_with fail;refine(HO.o _ d l.o z.o).mono ?_;intro e w4 h4;rcases h4.cases with⟨z4,v4,ae,rfl,ad,au,n⟩ | ⟨f4,aT,⟨A,E,rfl,B⟩,n⟩
  rotate_left
  ·exact⟨rfl,(x.o.trans l.o).trans n,Qc ⟨f4,FW V.o (by rw[hFe];exact ar.o) (by rw[hFe,U.o];exact Hp G.o aT),⟨A,Qs (x.o.trans l.o).size E,rfl,B⟩⟩⟩
  have a3:=E0 t m.1 F 7 d z4 z.o.le z.o.e0 ae;have aP:=I ad;obtain⟨N,R,rfl⟩:=(Xm 7).form _ _ _ _ ad;have ak:=I (l.o.trans n);have aR:=I ae;have aF:=I au;have aa:=ZP (b:=b) T.o n (by omega);have aQ:=I (ap.o.imp (fun a u q=>Q8.mod (Xm 7) (b:=b) (w':=w4) q n (by omega)));have aU:=I (fun k c=>(T.o.lt k c).2);have aH:=I (Q8.new (Xm 7) (base:=i.heap.size) aP.o l.o.size aU.o);have a6:i.heap.size<=w4.heap.size:=ak.o.size;clear h4 ae au n ad;go_wp2_with (at_builtin;refine wpList_append_own_at _ rfl _ _ 89 rfl i.heap.size 179 i0 .nilIface 1 16 underlying89 hi aX aY aZ rfl (by decide) _ _ _ rfl (aa.alloc _) ⟨w4.heap.size,0,none⟩ 1 1 [.iface N R] rfl rfl ?c1 ?c2 ?c3 ?c4 ?c5 ?_)
  case c1=>exact cell_one_new _ _ _
  case c2=>intro u q;simp at q;subst q;rfl
  case c3=>unfold maxLen;omega
  case c4=>omega
  case c5=>simp;omega
  ·intro v' w5 aA C _ X;have p:∀ k,(u3).ownBlock=some k->i.heap.size<=k:=fun k c=>(aa.lt k c).1
   have aI:=I ((ak.o.alloc (Obj.cells #[.iface N R] 179)).grown C (fun k c=>p k c));have ai:=I ((aF.o.alloc (Obj.cells #[.iface N R] 179)).grown C (fun k c=>by have:=p k c;omega));have aL:=I aA;have aN:=I (Q3.snoc (P:=fun a u=>Q8 (Yo 7) i.heap.size w5 v' a u) (aH.o.grown (Xm 7) C X) (aQ.o.imp (fun a u q=>Q8.grown (Xm 7) q C X)));have ax:muW w5 b t.size<muW wr b t.size:=by rw[ai.o.muEq,z.o.muEq];omega
   have aJ:=I ax;clear aA C ax aa p X;go_wp2;go_roundw
   case rel=>exact⟨z4.2,j++[z4.1],Q++[.iface N R],f,by simpa using aL.o,aN.o,fun hh=>absurd hh (by simp),ai.o,aI.o,by omega,by simp;omega,U.o.trans (LT G.o aR.o)⟩
   case measure=>exact aJ.o
def Tab(w:World):Prop:=Lib.TabIs prog w "internal/strconv.uint64pow10" .u64 Lib.pow10Tab
theorem Tab.below(h:Tab w)(hb:Below w.heap.size w w'):Tab w':=Lib.tabBelow_of_tabIs h w' hb
theorem Rm(n:Nat)(b:n<=2147483647)(w:World)(a:Tab w) :
 Calls prog 240 #[.int .i64 n] w fun e w'=>e=.returned (.string (sA (iL n)))/\Below w.heap.size w w':=by
 refine(Tryz.strconv_Itoa n (by omega) (by omega) w a).mono ?_;rintro e w' ⟨rfl,k,c,rfl⟩;exact⟨by rw[Lib.itoa_nonneg];rfl,Lib.below_grow _ _ Ql _ _⟩
def Jd(w:World)(B:Nat)(cv:Value)(code:List Ins):Prop:=
 ∃ ps:List IV,ps.map Prod.fst=code/\w.ownsRow B 63 7 cv ps.length (ZH ps)/\(∀ p∈ps,ZT w p.1 p.2.1 p.2.2)/\(ps=[]->cv=.slice none 0 0)/\Apt B ps
def Gg(w:World)(B:Nat)(cv:Value)(code:List Ins):Prop:=
 ∃ ps:List IV,ps.map Prod.fst=code/\w.ownsRow B 63 7 cv ps.length (ZH ps)/\(∀ p∈ps,ZT w p.1 p.2.1 p.2.2)/\(ps=[]->cv=.slice none 0 0)
theorem Jd.codeO{b:Value}{a:List Ins}(h:Jd w B b a):Gg w B b a:=by
 obtain⟨g,e,f,c,d,_⟩:=h;exact⟨g,e,f,c,d⟩
theorem Jd.below{w w':World}{B:Nat}{b:Value}{a:List Ins}(h:Jd w B b a)(c:Below w.heap.size w w'):Jd w' B b a:=by
 obtain⟨k,e,i,f,g,d⟩:=h;exact⟨k,e,Xe (P:=fun _ _=>False) i (Fr.of_below c) (fun _ _ h=>h),fun p j=>(f p j).below c,g,d⟩
theorem Gg.len{d:Value}{b:List Ins}(h:Gg w B d b):∃ a c,d=.slice a b.length c:=by
 obtain⟨g,e,f,_⟩:=h;obtain⟨a,c,h⟩:=QQ f;exact⟨a,c,by rw[h,<-e,List.length_map]⟩
end Go.Proofs.YtgnkjijocdmniaaGreatDoor
