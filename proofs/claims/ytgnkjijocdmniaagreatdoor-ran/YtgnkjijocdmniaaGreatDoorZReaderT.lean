import Derived.Test.YtgnkjijocdmniaaGreatDoorChoice
namespace Go.Proofs.YtgnkjijocdmniaaGreatDoor
set_option linter.all false
set_option maxRecDepth 100000
set_option maxHeartbeats 4000000
open Go.Proofs.Tryz
open Go.RowKit
variable{α:Type}{B F b i j k k1 k2 k3 m p1 p2 p3:Nat}{L:Nat->Bool}{a:Array MapEntry}{acc:List α}{c v:Value}{d:Int}{f:L8->Option Value}{l x:L8}{o o':Obj}{req:Qn}{s:PS}{sub:PS->Qq (α×PS)}{t:ByteArray}{w w':World}{y:Qn×PS}
section
attribute [local go_sem ↓] Zt Zu
def cmdFn(b p1 k1 p2 k2 p3 k3:Nat)(x:L8):Option Value:=
 match wL cNs x with
 |1=>some (QA 121 #[Qc b] #[])
 |2=>some (QA 122 #[Qc b] #[])
 |3=>some (QA 123 #[Qc b] #[])
 |4=>some (QA 178 #[] #[Qc p1,Qc k1])
 |5=>some (QA 178 #[] #[Qc p2,Qc k2])
 |6=>some (QA 178 #[] #[Qc p3,Qc k3])
 |7=>some (QA 125 #[Qc b] #[])
 |8=>some (QA 126 #[Qc b] #[])
 |_=>none
structure KZ (w:World) (b mc p1 k1 p2 k2 p3 k3:Nat):Prop where
 look:EK w 207 mc (cmdFn b p1 k1 p2 k2 p3 k3)
 hp1:JP w p1 b
 hk1:w.cell? (Ql k1 0)=some (Qa 2)
 hp2:JP w p2 b
 hk2:w.cell? (Ql k2 0)=some (Qa 3)
 hp3:JP w p3 b
 hk3:w.cell? (Ql k3 0)=some (Qa 4)
 k1b:k1≠b
 k2b:k2≠b
 k3b:k3≠b
 mcb:mc≠b
 mcl:mc < w.heap.size
theorem KZ.mod{w w':World}{b mc p1 k1 p2 k2 p3 k3:Nat}(h:KZ w b mc p1 k1 p2 k2 p3 k3)(hm:Mod b w w'):KZ w' b mc p1 k1 p2 k2 p3 k3:=
 ⟨fun W x e=>h.look W x (e.trans (hm.block mc h.mcl h.mcb)),h.hp1.mod hm,Jr h.hk1 hm h.k1b,h.hp2.mod hm,Jr h.hk2 hm h.k2b,h.hp3.mod hm,Jr h.hk3 hm h.k3b,h.k1b,h.k2b,h.k3b,h.mcb,Yq h.mcl hm.size⟩
theorem Ia(h:wL cNs x=0):cmdFn b p1 k1 p2 k2 p3 k3 x=none:=by unfold cmdFn;rw[h];rfl
theorem Qtq(h:¬wL cNs x=0):∃fv,cmdFn b p1 k1 p2 k2 p3 k3 x=some fv:=by
 have c:=KK cNs x;have a:cNs.length=8:=rfl;unfold cmdFn;generalize wL cNs x=i at *;rcases(by omega:i=1\/i=2\/i=3\/i=4\/i=5\/i=6\/i=7\/i=8)with h|h|h|h|h|h|h|h<;>subst h<;>exact⟨_,rfl⟩
theorem Rx:∀z∈cNs,∀c r,z=c::r->Za c.toNat=true:=by
 intro z a c r e;simp[cNs]at a;rcases a with h|h|h|h|h|h|h|h<;>subst h<;>cases e<;>decide
theorem TG:∀z∈cNs,z≠[]:=Qb
theorem L9(f:¬s.1.kind=1->N1 s.1.spelt)(h:¬wL cNs s.1.spelt=0):s.1.kind=1:=by
 apply GE;intro e;have b:=HH h;have g:=TG _ b
 cases hsp:s.1.spelt with
 |nil=>exact g hsp
 |cons c r=>
  have d:=Rx _ b c r hsp;have a:=f e c r hsp;rw[d]at a;cases a
theorem V6{n:Nat}{f:Flt}(hi:wL cNs s.1.spelt=k+1)(b:Z4 req s.1.spelt=true)(a:nL l s.2=.error f):cmdL l req F (n+1) s=.error f:=by
 rw[cmdL,Q8,Qi b];exact Jv a
theorem V'{n:Nat}{y:PS}(hi:wL cNs s.1.spelt=k+1)(b:Z4 req s.1.spelt=true)(a:nL l s.2=.ok y):cmdL l req F (n+1) s=cBd l F (QP l req F n) (cmdL l req F n) k s.1.pos y:=by
 rw[cmdL,Q8,Qi b];refine(YV a).trans ?_;show cBd l F (QP l req F n) (cmdL l req F n) (wL cNs s.1.spelt-1) s.1.pos y=_
 rw[hi];rfl
section
variable {α β:Type} {l:L8} {F pos:Nat} {tst:PS->Qq (β×PS)} {sub:PS->Qq (α×PS)} {s:PS}
theorem ED{α:Type}{l:L8}{s:PS}{a:α}{q:Nat×PS}(h:paL l [[59]] s=.ok q):semi l s a=.ok (a,q.2):=Qx h
theorem D8{α:Type}{l:L8}{s:PS}{a:α}{f:Flt}(h:paL l [[59]] s=.error f):semi l s a=.error f:=QC h
theorem Mr(h:cBd l F tst sub k pos s=QL (sL l (fun _=>0) s) fun x s1=>semi l s1 (⟨k,pos,0,x,[],false⟩,[],[])):cBd l F tst sub k pos s=QL (Af l s) fun x s1=>.ok ((⟨k,pos,0,x,[],false⟩,[],[]),s1):=by
 rw[h];unfold Af
 cases sL l (fun _=>0) s with
 |error f=>rfl
 |ok y=>
  rw[Qx (r:=.ok y) rfl,Qx (r:=.ok y) rfl];unfold semi
  cases paL l [[59]] y.2 with
  |error f=>rfl
  |ok z=>rfl
theorem EO{q:L8×PS}(h:Af l s=.ok q)(a:cBd l F tst sub k pos s=QL (sL l (fun _=>0) s) fun x s1=>semi l s1 (⟨k,pos,0,x,[],false⟩,[],[]):=by rfl):cBd l F tst sub k pos s=.ok ((⟨k,pos,0,q.1,[],false⟩,[],[]),q.2):=(Mr a).trans (Qx h)
theorem EC{f:Flt}(h:Af l s=.error f)(a:cBd l F tst sub k pos s=QL (sL l (fun _=>0) s) fun x s1=>semi l s1 (⟨k,pos,0,x,[],false⟩,[],[]):=by rfl):cBd l F tst sub k pos s=.error f:=(Mr a).trans (QC h)
theorem Qv3:cBd l F tst sub 6 pos s=QL (mayL l [Yn,Ym,Yj] s) fun tag s1=>QL (sL l (fun x=>if isNameL x then 0 else 7) s1) fun v s2=>QL (sL l (fun _=>0) s2) fun x s3=>semi l s3 (⟨6,pos,tag,x,zL v,false⟩,[],[]):=rfl
theorem LV:cBd l F tst sub 6 pos s=QL (Ad l s) fun q s1=>.ok ((⟨6,pos,q.1,q.2.2,q.2.1,false⟩,[],[]),s1):=by
 rw[Qv3];unfold Ad
 cases mayL l [Yn,Ym,Yj] s with
 |error f=>rfl
 |ok y=>
  rw[Qx (r:=.ok y) rfl,Qx (r:=.ok y) rfl]
  cases sL l (fun x=>if isNameL x then 0 else 7) y.2 with
  |error f=>rfl
  |ok z=>
   rw[Qx (r:=.ok z) rfl,Qx (r:=.ok z) rfl]
   cases sL l (fun _=>0) z.2 with
   |error f=>rfl
   |ok u=>
    rw[Qx (r:=.ok u) rfl,Qx (r:=.ok u) rfl];unfold semi
    cases paL l [[59]] u.2 with
    |error f=>rfl
    |ok v=>rfl
theorem P_{q:(Nat×L8×L8)×PS}(h:Ad l s=.ok q):cBd l F tst sub 6 pos s=.ok ((⟨6,pos,q.1.1,q.1.2.2,q.1.2.1,false⟩,[],[]),q.2):=LV.trans (Qx h)
theorem Pa{f:Flt}(h:Ad l s=.error f):cBd l F tst sub 6 pos s=.error f:=LV.trans (QC h)
theorem QvP:cBd l F tst sub 7 pos s=QL (armL l F tst sub s) fun a s1=>QL (aMr l F tst sub F [a] s1) fun arms s2=>QL (mayL l [Yv] s2) fun i s3=>if i=0 then .ok ((⟨7,pos,0,[],[],false⟩,arms,[]),s3)else QL (blockL l F sub s3) fun cs s4=>.ok ((⟨7,pos,0,[],[],true⟩,arms,cs),s4):=rfl
theorem M6:cBd l F tst sub 7 pos s=QL (NR l F tst sub s) fun x s1=>.ok ((⟨7,pos,0,[],[],x.2.1⟩,x.1,x.2.2),s1):=by
 rw[QvP];unfold NR
 cases h1:armL l F tst sub s with
 |error f=>rfl
 |ok y=>
  rw[Qx (r:=.ok y) rfl,Qx (r:=.ok y) rfl]
  cases h2:aMr l F tst sub F [y.1] y.2 with
  |error f=>rfl
  |ok z=>
   rw[Qx (r:=.ok z) rfl,Qx (r:=.ok z) rfl]
   cases h3:mayL l [Yv] z.2 with
   |error f=>rfl
   |ok u=>
    rw[Qx (r:=.ok u) rfl,Qx (r:=.ok u) rfl];by_cases h4:u.1=0
    .rw[Qi h4,Qi h4];rfl
    .rw[Qg h4,Qg h4]
     cases h5:blockL l F sub u.2 with
     |error f=>rfl
     |ok v=>rfl
theorem PI{q:(List (β×List α)×Bool×List α)×PS}(h:NR l F tst sub s=.ok q):cBd l F tst sub 7 pos s=.ok ((⟨7,pos,0,[],[],q.1.2.1⟩,q.1.1,q.1.2.2),q.2):=M6.trans (Qx h)
theorem Rf{f:Flt}(h:NR l F tst sub s=.error f):cBd l F tst sub 7 pos s=.error f:=M6.trans (QC h)
end
theorem RN{j:Value}{a:Nat}(h:RC w b t s j a i)(g:KZ w b a p1 k1 p2 k2 p3 k3)(v:d<=6)(c:wL cNs s.1.spelt=0):Calls prog 195 #[Qc b,.map (some a),Qa d] w fun e w'=>X1 ⟨4,s.1.pos⟩ w e w'/\Mod b w w':=by
 have r:=Q9 h.at_;have u:w.cell? (Ql b 3)=some (Qf s.1.spelt):=h.at_.cell 3;have f:=g.look w s.1.spelt rfl;rw[Ia c]at f;clear g c;replace h:=O h;simp only[Option.getD_none,Option.isSome_none]at f;by_cases hk:s.1.kind=1
 all_goals first
  |(have m:((s.1.kind:Int) != 1)=false:=by simp;omega)
  |(have m:((s.1.kind:Int) != 1)=true:=by simp;omega)
 all_goals
  clear hk;go_enter func195,ntmps195;go_wp2_with fail;refine Qv (Xe b rfl) ?_;rintro w' p;subst p;go_wp2_with fail;refine(YJ 4 h.o.at_ rfl rfl).mono ?_;rintro e x ⟨⟨k,q,rfl,l⟩,n⟩;exact⟨rfl,⟨k,q,rfl,l⟩,Mod.of_below n⟩
theorem Sz{q:Value}{a f:Nat}(h:RC w b t s c a f)(l:KZ w b a p1 k1 p2 k2 p3 k3)(k:Y3 w b c req)(A:d<=6)(u:s.1.kind=1)(i:cmdFn b p1 k1 p2 k2 p3 k3 s.1.spelt=some q)(m:Z4 req s.1.spelt=false):Calls prog 195 #[Qc b,.map (some a),Qa d] w fun e w'=>X1 ⟨6,s.1.pos⟩ w e w'/\Mod b w w':=by
 have y:=Q9 h.at_;have z:w.cell? (Ql b 3)=some (Qf s.1.spelt):=h.at_.cell 3;have j:=l.look w s.1.spelt rfl;rw[i]at j;have g:=O (NG s.1.spelt h k);rw[m]at g;clear l k i m;replace h:=O h;simp only[Vp,Option.isSome_some]at j;have B:((s.1.kind:Int) != 1)=false:=by simp;omega
 clear u;go_enter func195,ntmps195;go_wp2_with fail;refine Qv (Xe b rfl) ?_;rintro w' n;subst w';go_wp2_with fail;refine Qv (Xe b rfl) ?_;rintro w' n;subst w';go_wp2_with fail;refine g.mono ?_;rintro e w' ⟨rfl,n⟩;subst w';go_wp2_with fail;refine(YJ 6 h.o.at_ rfl rfl).mono ?_;rintro e C ⟨⟨p,x,rfl,r⟩,v⟩;exact⟨rfl,⟨p,x,rfl,r⟩,Mod.of_below v⟩
theorem TU{m:Value}{a l:Nat}(h:RC w b t s m a l)(j:KZ w b a p1 k1 p2 k2 p3 k3):Calls prog 195 #[Qc b,.map (some a),Qa 7] w fun e w'=>X1 ⟨if s.1.kind=1 then 5 else 4,s.1.pos⟩ w e w'/\Mod b w w':=by
 have q:=Q9 h.at_;have r:w.cell? (Ql b 3)=some (Qf s.1.spelt):=h.at_.cell 3;have g:=j.look w s.1.spelt rfl;have H:=O h;by_cases hk:s.1.kind=1
 .rw[Qi hk];have n:((s.1.kind:Int) != 1)=false:=by simp;omega
  clear hk h j g;go_enter func195,ntmps195;go_wp2_with fail;refine(YJ 5 H.o.at_ rfl rfl).mono ?_;rintro e p ⟨⟨d,k,rfl,f⟩,i⟩;exact⟨rfl,⟨d,k,rfl,f⟩,Mod.of_below i⟩
 .rw[Qg hk]
  have c:wL cNs s.1.spelt=0:=by
   apply GE;intro c;exact hk (L9 h.nm c)
  rw[Ia c]at g;have n:((s.1.kind:Int) != 1)=true:=by simp;omega
  clear hk h j c;simp only[Option.getD_none,Option.isSome_none]at g;go_enter func195,ntmps195;go_wp2_with fail;refine Qv (Xe b rfl) ?_;rintro w' u;subst w';go_wp2_with fail;refine(YJ 4 H.o.at_ rfl rfl).mono ?_;rintro e p ⟨⟨d,k,rfl,f⟩,i⟩;exact⟨rfl,⟨d,k,rfl,f⟩,Mod.of_below i⟩
theorem D0(f:FuncId)(q L:Nat)(n:Nat){a:Nat}(h:RC w b t s c a i)(H:KZ w b a p1 k1 p2 k2 p3 k3)(G:Y3 w b c req)(Z:0<=d)(Y:d<=6)(Q:s.1.kind=1)(J:Z4 req s.1.spelt=true)
 (B:cmdFn b p1 k1 p2 k2 p3 k3 s.1.spelt=some (.func (.func f) #[] #[Qc q,Qc L])) (X:∀args W,(callFunc f args).run prog W=.ok (.enter f args) W) (D:∀f2,nL t.data.toList s.2=.error f2->cmdL t.data.toList req F (n+1) s=.error f2)
 (A:∀W y,Mod b w W->RC W b t y c a i->nL t.data.toList s.2=.ok y->Calls prog f #[.agg #[Qf s.1.spelt,Qa s.1.pos],Qa d,Qc q,Qc L] W (Qy (cmdL t.data.toList req F (n+1) s) b t c a i w (Yx (n+1) (fromB w.heap.size)))):Calls prog 195 #[Qc b,.map (some a),Qa d] w (Qy (cmdL t.data.toList req F (n+1) s) b t c a i w (Yx (n+1) (fromB w.heap.size))):=by
 have T:=Q9 h.at_;have U:=Xx h.at_;have V:w.cell? (Ql b 3)=some (Qf s.1.spelt):=h.at_.cell 3;have r:=H.look w s.1.spelt rfl;rw[B]at r;have k:=O (NG s.1.spelt h G);rw[J]at k;have R:=h.at_.lt;clear H G B J;change Qd _ at D A;replace h:=O h;simp only[Vp,Option.isSome_some]at r;have ac:((s.1.kind:Int) != 1)=false:=by simp;omega
 clear Q;go_enter func195,ntmps195;go_wp2_with fail;refine Qv (Xe b rfl) ?_;rintro g u;subst g;go_wp2_with fail;refine Qv (Xe b rfl) ?_;rintro g u;subst g;go_wp2_with fail;refine k.mono ?_;rintro e g ⟨rfl,u⟩;subst g;go_wp2_with fail;refine Qv (Xe b rfl) ?_;rintro g u;subst g;clear k r;go_wp2_with fail;go_region
 all_goals go_wp2_with fail
 all_goals
  refine(Km ((h.o.alloc _).drew)).mono ?_;rintro e w2 (⟨y,hy,rfl,hc,hm⟩ | ⟨f2,hf2,⟨l,x,rfl,p⟩,hm⟩)
 all_goals first
  |exact⟨rfl,Qy.err (D _ hf2) (((Mod.refl b w).alloc _).trans (Z0 hm)) ⟨l,by simp at x;omega,rfl,p⟩⟩
  |skip
 all_goals
  obtain⟨aa,ab,C⟩:=A_ hm R;have M:=O (A _ y C hc hy);clear hm hc hy C;go_wp2_with fail;refine M.mono ?_;intro e w3 m;have HQ:=O m;clear m;rcases HQ.o.cases with⟨q,v,E,rfl,K,z,j⟩ | ⟨S,P,⟨l,x,rfl,p⟩,j⟩
 all_goals first
  |exact⟨rfl,Qy.err P j ⟨l,x,rfl,p⟩⟩
  |skip
 all_goals
  have N:=O (Qy.ok E j K z);clear E j K z HQ;go_wp2;go_ret;exact N
theorem AI(f:FuncId)(n:Nat){a:Nat}(h:RC w b t s c a i)(H:KZ w b a p1 k1 p2 k2 p3 k3)(G:Y3 w b c req)(Y:0<=d)(X:d<=6)(P:s.1.kind=1)(J:Z4 req s.1.spelt=true)
 (B:cmdFn b p1 k1 p2 k2 p3 k3 s.1.spelt=some (.func (.func f) #[Qc b] #[])) (V:∀args W,(callFunc f args).run prog W=.ok (.enter f args) W) (D:∀f2,nL t.data.toList s.2=.error f2->cmdL t.data.toList req F (n+1) s=.error f2)
 (A:∀W y,Mod b w W->RC W b t y c a i->nL t.data.toList s.2=.ok y->Calls prog f #[Qc b,.agg #[Qf s.1.spelt,Qa s.1.pos],Qa d] W (Qy (cmdL t.data.toList req F (n+1) s) b t c a i w (Yx (n+1) (fromB w.heap.size)))):Calls prog 195 #[Qc b,.map (some a),Qa d] w (Qy (cmdL t.data.toList req F (n+1) s) b t c a i w (Yx (n+1) (fromB w.heap.size))):=by
 have S:=Q9 h.at_;have T:=Xx h.at_;have U:w.cell? (Ql b 3)=some (Qf s.1.spelt):=h.at_.cell 3;have r:=H.look w s.1.spelt rfl;rw[B]at r;have k:=O (NG s.1.spelt h G);rw[J]at k;have Q:=h.at_.lt;clear H G B J;change Qd _ at D A;replace h:=O h;simp only[Vp,Option.isSome_some]at r;have ab:((s.1.kind:Int) != 1)=false:=by simp;omega
 clear P;go_enter func195,ntmps195;go_wp2_with fail;refine Qv (Xe b rfl) ?_;rintro g u;subst g;go_wp2_with fail;refine Qv (Xe b rfl) ?_;rintro g u;subst g;go_wp2_with fail;refine k.mono ?_;rintro e g ⟨rfl,u⟩;subst g;go_wp2_with fail;refine Qv (Xe b rfl) ?_;rintro g u;subst g;clear k r;go_wp2_with fail;go_region
 all_goals go_wp2_with fail
 all_goals
  refine(Km ((h.o.alloc _).drew)).mono ?_;rintro e w2 (⟨y,hy,rfl,hc,hm⟩ | ⟨f2,hf2,⟨l,x,rfl,p⟩,hm⟩)
 all_goals first
  |exact⟨rfl,Qy.err (D _ hf2) (((Mod.refl b w).alloc _).trans (Z0 hm)) ⟨l,by simp at x;omega,rfl,p⟩⟩
  |skip
 all_goals
  obtain⟨Z,aa,C⟩:=A_ hm Q;have L:=O (A _ y C hc hy);clear hm hc hy C;go_wp2_with fail;refine L.mono ?_;intro e w3 m;have HQ:=O m;clear m;rcases HQ.o.cases with⟨q,v,E,rfl,K,z,j⟩ | ⟨R,N,⟨l,x,rfl,p⟩,j⟩
 all_goals first
  |exact⟨rfl,Qy.err N j ⟨l,x,rfl,p⟩⟩
  |skip
 all_goals
  have M:=O (Qy.ok E j K z);clear E j K z HQ;go_wp2;go_ret;exact M
theorem Quf{n:Nat}{i:Value}{c:Nat}(h:RC w b t s i c j)(l:KZ w b c p1 k1 p2 k2 p3 k3)(B:Y3 w b i req)(hF:2*t.size+1<F)(z:0<=d)(u:d<=6)(G:SubMu t.size (cmdL t.data.toList req F n))(J:Je 186 w b t i c j (d+1) (QP t.data.toList req F n) (TestV n))(H:Je 143 w b t i c j (d+1) (cmdL t.data.toList req F n) (Yx n)):Calls prog 195 #[Qc b,.map (some c),Qa d] w (Qy (cmdL t.data.toList req F (n+1) s) b t i c j w (Yx (n+1) (fromB w.heap.size))):=by
 by_cases h0:wL cNs s.1.spelt=0
 .refine(RN h l u h0).mono ?_;rintro e K ⟨h1,h2⟩;exact Qy.err (by rw[cmdL,Qi h0]) h2 h1
 have A:=L9 h.nm h0;cases hu:Z4 req s.1.spelt
 .obtain⟨E,hf⟩:=Qtq (b:=b) (p1:=p1) (k1:=k1) (p2:=p2) (k2:=k2) (p3:=p3) (k3:=k3) h0;refine(Sz h l B u A hf hu).mono ?_;rintro e K ⟨h1,h2⟩;exact Qy.err (by rw[cmdL,Qg h0,Qg (by rw[hu];decide)]) h2 h1
 have M:=KK cNs s.1.spelt;have L:cNs.length=8:=rfl;rcases(by omega:wL cNs s.1.spelt=0+1\/wL cNs s.1.spelt=1+1\/wL cNs s.1.spelt=2+1\/wL cNs s.1.spelt=3+1\/wL cNs s.1.spelt=4+1\/wL cNs s.1.spelt=5+1\/wL cNs s.1.spelt=6+1\/wL cNs s.1.spelt=7+1)with hi|hi|hi|hi|hi|hi|hi|hi
 .refine AI 121 n h l B z u A hu (by unfold cmdFn;rw[hi];rfl) (fun _ _=>Qm) (fun C o=>V6 hi hu o) (fun W y HM m r=>?_);have p:s.1.spelt=Ul:=by have:=Z1 _ _ _ hi;simpa[cNs]using this.symm
  have HE:=V' (F:=F) (n:=n) hi hu r;refine(Qxn d m).mono ?_;intro e D h3';exact Qy.lift (fun _=>((⟨0,s.1.pos,0,[],[],false⟩:Xa),[],[])) h3' HM (fun q hq=>HE.trans (ED hq)) (fun f hf=>HE.trans (D8 hf)) (fun a v _ hv=>by rw[p]at hv;exact hv)
 .refine AI 122 n h l B z u A hu (by unfold cmdFn;rw[hi];rfl) (fun _ _=>Qm) (fun C o=>V6 hi hu o) (fun W y HM m r=>?_);have p:s.1.spelt=K_:=by have:=Z1 _ _ _ hi;simpa[cNs]using this.symm
  have HE:=V' (F:=F) (n:=n) hi hu r;refine(T7 d m).mono ?_;intro e D h3';exact Qy.lift (fun _=>((⟨1,s.1.pos,0,[],[],false⟩:Xa),[],[])) h3' HM (fun q hq=>HE.trans (ED hq)) (fun f hf=>HE.trans (D8 hf)) (fun a v _ hv=>by rw[p]at hv;exact hv)
 .refine AI 123 n h l B z u A hu (by unfold cmdFn;rw[hi];rfl) (fun _ _=>Qm) (fun C o=>V6 hi hu o) (fun W y HM m r=>?_);have p:s.1.spelt=Uk:=by have:=Z1 _ _ _ hi;simpa[cNs]using this.symm
  have HE:=V' (F:=F) (n:=n) hi hu r;refine(QxU d m).mono ?_;intro e D h3';exact Qy.lift (fun _=>((⟨2,s.1.pos,0,[],[],false⟩:Xa),[],[])) h3' HM (fun q hq=>HE.trans (ED hq)) (fun f hf=>HE.trans (D8 hf)) (fun a v _ hv=>by rw[p]at hv;exact hv)
 .refine D0 178 p1 k1 n h l B z u A hu (by unfold cmdFn;rw[hi];rfl) (fun _ _=>Qm) (fun C o=>V6 hi hu o) (fun W y HM m r=>?_);have p:s.1.spelt=ZN:=by have:=Z1 _ _ _ hi;simpa[cNs]using this.symm
  have HE:=V' (F:=F) (n:=n) hi hu r;refine(D7 d 2 m (l.mod HM).hp1 (l.mod HM).hk1 (l.mod HM).k1b).mono ?_;intro e D h3';exact Qy.lift (fun x=>((⟨3,s.1.pos,0,x,[],false⟩:Xa),[],[])) h3' HM (fun q hq=>HE.trans (EO hq)) (fun f hf=>HE.trans (EC hf)) (fun a v _ hv=>by rw[p]at hv;exact hv)
 .refine D0 178 p2 k2 n h l B z u A hu (by unfold cmdFn;rw[hi];rfl) (fun _ _=>Qm) (fun C o=>V6 hi hu o) (fun W y HM m r=>?_);have p:s.1.spelt=Jt:=by have:=Z1 _ _ _ hi;simpa[cNs]using this.symm
  have HE:=V' (F:=F) (n:=n) hi hu r;refine(D7 d 3 m (l.mod HM).hp2 (l.mod HM).hk2 (l.mod HM).k2b).mono ?_;intro e D h3';exact Qy.lift (fun x=>((⟨4,s.1.pos,0,x,[],false⟩:Xa),[],[])) h3' HM (fun q hq=>HE.trans (EO hq)) (fun f hf=>HE.trans (EC hf)) (fun a v _ hv=>by rw[p]at hv;exact hv)
 .refine D0 178 p3 k3 n h l B z u A hu (by unfold cmdFn;rw[hi];rfl) (fun _ _=>Qm) (fun C o=>V6 hi hu o) (fun W y HM m r=>?_);have p:s.1.spelt=ZM:=by have:=Z1 _ _ _ hi;simpa[cNs]using this.symm
  have HE:=V' (F:=F) (n:=n) hi hu r;refine(D7 d 4 m (l.mod HM).hp3 (l.mod HM).hk3 (l.mod HM).k3b).mono ?_;intro e D h3';exact Qy.lift (fun x=>((⟨5,s.1.pos,0,x,[],false⟩:Xa),[],[])) h3' HM (fun q hq=>HE.trans (EO hq)) (fun f hf=>HE.trans (EC hf)) (fun a v _ hv=>by rw[p]at hv;exact hv)
 .refine AI 125 n h l B z u A hu (by unfold cmdFn;rw[hi];rfl) (fun _ _=>Qm) (fun C o=>V6 hi hu o) (fun W y HM m r=>?_);have p:s.1.spelt=Xw:=by have:=Z1 _ _ _ hi;simpa[cNs]using this.symm
  have HE:=V' (F:=F) (n:=n) hi hu r;refine(O2 d m).mono ?_;intro e D h3';exact Qy.lift (fun x=>((⟨6,s.1.pos,x.1,x.2.2,x.2.1,false⟩:Xa),[],[])) h3' HM (fun q hq=>HE.trans (P_ hq)) (fun f hf=>HE.trans (Pa hf)) (fun a v _ hv=>by rw[p]at hv;exact hv)
 .refine AI 126 n h l B z u A hu (by unfold cmdFn;rw[hi];rfl) (fun _ _=>Qm) (fun C o=>V6 hi hu o) (fun W y HM m r=>?_);have p:s.1.spelt=kIf:=by have:=Z1 _ _ _ hi;simpa[cNs]using this.symm
  have HE:=V' (F:=F) (n:=n) hi hu r;refine(QtY m hF z I (J7 n) (XO n) G (fun s g=>NQ n s g) (fun s g=>Na n s g) (J.mod HM) (H.mod HM)).mono ?_;intro e D h3'
  exact Qy.lift (fun x=>((⟨7,s.1.pos,0,[],[],x.2.1⟩:Xa),x.1,x.2.2)) h3' HM (fun q hq=>HE.trans (PI hq)) (fun f hf=>HE.trans (Rf hf)) (fun a v _ hv=>by
   rw[p]at hv;obtain⟨av,ev,rfl,h1,h2,h3⟩:=hv
   exact ⟨av,ev,rfl,Kc.weak (J7 n) (XO n) h2 h1 (fun k hk _=>QE HM.size hk),h2,h3.weak (XO n) (fun k hk _=>QE HM.size hk)⟩)
theorem FO{r:Qq (α×PS)}{n:α->World->Value->Prop}{i:Value}{a g:Nat}(h:RC w b t s i a g)
 (f:Calls prog 195 #[Qc b,.map (some a),Qa d] w (Qy r b t i a g w n)):Calls prog 143 #[Qc b,Qa d] w (Qy r b t i a g w n):=by
 have B:=Cv h.at_;clear h;replace f:=O f;go_enter func143,ntmps143;go_wp2_with fail;refine f.mono ?_;intro e C j;rcases j.cases with⟨q,v,l,rfl,m,k,c⟩ | ⟨A,y,⟨u,z,rfl,x⟩,c⟩
 .have p:=O (Qy.ok l c m k);clear j l c m k;go_wp2;go_ret;exact p
 .exact⟨rfl,Qy.err y c ⟨u,z,rfl,x⟩⟩
theorem Hl(req:Qn)(b:Nat){F:Nat}{t:ByteArray}(d:Value)(a c pr pt pf p1 k1 p2 k2 p3 k3:Nat)(hF:2*t.size+1<F) :
 ∀(n:Nat),n<=7->∀(w:World),Kd w b c pr pt pf->KZ w b a p1 k1 p2 k2 p3 k3->Y3 w b d req->Je 143 w b t d a c (7-(n:Int)) (cmdL t.data.toList req F n) (Yx n)
 |0,_,w,ht,hcm,hr=>fun W s hm hc=>by
  refine FO hc ?_;refine(TU hc (hcm.mod hm)).mono ?_;rintro e j ⟨f,g⟩;refine Qy.err ?_ g f;rw[cmdL];split<;>rfl
 |n+1,hn,w,ht,hcm,hr=>fun W s hm hc=>by
  refine FO hc ?_;have i:=Hl req b d a c pr pt pf p1 k1 p2 k2 p3 k3 hF n I W (ht.mod hm) (hcm.mod hm) (hr.mod hm);have it:=PA a hF n I (ht.mod hm) (hr.mod hm);have e:(7:Int)-((n+1:Nat):Int)+1=7-(n:Int):=I
  exact Quf hc (hcm.mod hm) (hr.mod hm) hF I I (OD t req F n) (by rw[e];exact it) (by rw[e];exact i)
theorem L5{l:L8}{chk:L8->Nat}:∀(f:Nat) (acc:Qn) (s:PS),Gd l s->∀y,moreL l chk f acc s=.ok y->2*y.1.length+mu l.length y.2<=2*acc.length+mu l.length s
 |0,acc,s,h=>fun y e=>by cases e;exact Q4 _
 |f+1,acc,s,h=>fun y e=>by
  rw[moreL]at e
  cases hp:paL l [[44],[93]] s with
  |error g=>rw[hp]at e;cases e
  |ok z=>
   rw[hp]at e;obtain⟨a,d⟩:=G8 (zs:=[[44],[93]]) h Qb z hp;dsimp only at e
   split at e
   .cases hs:sL l chk z.2 with
    |error g=>rw[hs]at e;cases e
    |ok x=>
     rw[hs]at e;obtain⟨b,i⟩:=UZ a x hs;have c:=L5 f _ x.2 b y e;simp only[Qz,Q1,Zl]at c;omega
   .cases e;dsimp only;omega
theorem Wx{chk:L8->Nat}(h:Gd l s):∀y,sLs l chk F s=.ok y->2*y.1.length+mu l.length y.2<=mu l.length s+1:=fun y e=>by
 unfold sLs at e
 cases hm:mayL l [[91]] s with
 |error g=>rw[hm]at e;cases e
 |ok z=>
  rw[hm]at e;obtain⟨a,d⟩:=NX (zs:=[[91]]) h Qb z hm;dsimp only at e
  cases hs:sL l chk z.2 with
  |error g=>rw[hs]at e;cases e
  |ok x=>
   rw[hs]at e;obtain⟨b,f⟩:=UZ a x hs;dsimp only at e
   split at e
   .cases e;simp only[Q1,Zl];omega
   .have c:=L5 F _ x.2 b y e;simp only[Q1,Zl]at c;omega
theorem Sa(req:Qn)(x:L8):(Xf req x).length<=req.length+1:=by
 unfold Xf;split<;>simp
theorem Fv:∀(xs req:Qn),(xs.foldl Xf req).length<=req.length+xs.length
 | [],req=>Qh
 |x::r,req=>by
  have a:=Fv r (Xf req x);have b:=Sa req x;rw[K7,Q1];omega
theorem IT{base:Nat}{a:Value}(h:w.ownsRow base 9 1 a req.length (QW req))(e:req=[]->a=.slice none 0 0)(k:b<base)(d:req.length<=1000):Y3 w b a req:=by
 by_cases hr:req=[]
 .exact Qt ⟨e hr,hr⟩
 .obtain⟨g,c,i,l,f,j⟩:=slB.of_owns h rfl hr;exact Qr ⟨g,c,i,I,f,j,d⟩
theorem UK.mod{g n c er:Nat}{zs:Qn}(h:UK w p1 p2 g n c er zs)(hm:Mod b w w')(h1:p1≠b)(h2:p2≠b)(h3:g≠b):UK w' p1 p2 g n c er zs:=
 ⟨Jr h.1 hm h1,Jr h.2.1 hm h2,fun j hj=>Jr (h.2.2.1 j hj) hm h3,h.2.2.2.1,h.2.2.2.2⟩
def Du:Qn:=[Zb,ZN,ZM,Z8]
theorem RC.setReq{rv:Value}{mc mt:Nat}(h:RC w b t s rv mc mt)(v:Value):RC (w.setCell ⟨b,7,none⟩ v) b t s v mc mt:=
 h.step ((Mod.refl b w).setCell 7 v) (QM (b:=b) (o:=7) (v:=v) h.at_) h.le h.sz h.e0 h.nm
def Pr(r:Qq (Qn×PS))(b:Nat)(t:ByteArray)(mc mt:Nat)(w:World)(e:Ending)(w':World):Prop:=
 Mod b w w'/\((∃y rv,r=.ok y/\e=.returned (.tuple #[])/\RC w' b t y.2 rv mc mt/\Y3 w' b rv y.1/\∀k,rv.ownBlock=some k->w.heap.size<=k)\/(∃f,r=.error f/\X1 f w e w'))
theorem Ty{C:Nat}(h:RC w b t s Qp B C)(hF:2*t.size+1<F):Calls prog 142 #[Qc b] w (Pr (reqMore t.data.toList F F [] s) b t B C w):=by
 have H:=O h;have bt:=h.at_.lt;have a6:=h.mu_le;have aN:=h.mu_lt hF;clear h;obtain⟨i0,hi,bh,bi,bj⟩:=ZU Tryz.infoStr;go_enter func142,ntmps142;go_wp2_with fail
 go_loopw [] (fun wr=>∃(N:PS) (m:Qn) (z:Value) (f:Nat),RC wr b t N z B C/\wr.ownsRow w.heap.size 9 1 z m.length (QW m)/\(m=[]->z=.slice none 0 0)/\Mod b w wr/\mu t.size N<f/\2*m.length+mu t.size N<=1300/\reqMore t.data.toList F F [] s=reqMore t.data.toList F f m N) (fun wr=>muW wr b t.size)
 case atStart=>exact⟨s,[],Qp,F,H,Z5,fun _=>rfl,Mod.refl _ _,aN,by simp;omega,rfl⟩
 case round=>
  obtain⟨N,m,z,f,v,r,D,q,hf,bo,L⟩:=hrel;obtain⟨f,rfl⟩:∃g,f=g+1:=⟨f-1,I⟩;have bv:=v.muEq;generalize hMR:muW wr b t.size=MR at *;have HR:=O v;have ar:=O q;have aI:=O r;have au:=O D;have bA:w.heap.size<=wr.heap.size:=q.size;clear v q r D a6 aN;change Qd _ at L;go_wp2_with fail;refine(NS 1 1 (HR.o.alloc _) (Ju wr [Kn] rfl) rfl Qb).mono ?_;intro e y h3;rcases h3.cases with⟨Q,v3,M,rfl,aO,Y,aj⟩ | ⟨f3,aZ,⟨V,hz,rfl,Z⟩,aj⟩
  rotate_left
  .exact⟨rfl,⟨(ar.o.alloc _).trans aj,Qr ⟨f3,L.o.trans (QC aZ),⟨V,by simp at hz;omega,rfl,Z⟩⟩⟩⟩
  have ao:=AN (l:=t.data.toList) (by simpa using HR.le) HR.e0 Qb M;rw[bal]at ao;have aM:=ao.2.1;replace ao:=ao.1;have aw:=((Mod.refl b wr).alloc (Qe #[Qf Kn] 9)).trans aj;have ae:=O (ar.o.trans aw);have af:=O (XP (b:=b) aI aw I);unfold YP at aO;subst aO;clear h3 aj aw;change Qd _ at M;replace Y:=O Y;by_cases h1:Q.1=0
  .have aY:¬(0:Int)<(Q.1:Int):=I
   change Qd _ at h1;go_wp2;go_end0;exact⟨ae,Qt ⟨(m,Q.2),z,L.o.trans ((Qx M).trans (Qi h1)),rfl,Y,IT af au I (show m.length<=1000 by omega),fun k p=>(af.o.lt k p).1⟩⟩
  have aY:(0:Int)<(Q.1:Int):=I
  have bu:=aM h1;clear aM;change Qd _ at h1;go_wp2_with (go_at_call 137;refine Qu (DX) ?_);obtain⟨U,K⟩:=Q3 (((y.alloc (Qe #[.string ⟨#[101,110,118,101,108,111,112,101]⟩,.string ⟨#[102,105,108,101,105,110,116,111]⟩,.string ⟨#[114,101,106,101,99,116]⟩,.string ⟨#[118,97,114,105,97,98,108,101,115]⟩] 9)).alloc (Qe #[Qa 6] 33)).alloc (Qe #[Qs y.heap.size 4 4] 61));have bx:w.heap.size<=y.heap.size:=ae.size
  have aW:Hid (UK U (y.heap.size+1+1) (y.heap.size+1) y.heap.size 4 4 6 Du):=by
   rw[K];refine⟨?_,?_,?_,rfl,Qb⟩
   .exact Qj (ZB Qh) 0
   .exact Qj (QJ (ZB Qh)) 0
   .exact((Ju y Du rfl).below (QH _)).below (QH _)
  have ag:Hid (RC U b t Q.2 z B C):=by rw[K];exact((Y.o.alloc _).alloc _).alloc _
  have ay:Mod b y U:=by rw[K];exact(((Mod.refl b y).alloc _).alloc _).alloc _
  have aq:=O (ae.o.trans ay);have aJ:=O (XP (b:=b) af ay I);have bC:U.heap.size=y.heap.size+1+1+1:=by rw[K];simp
  rw[<-K];clear K ay;refine(Bm (cv:=QA 190 #[] #[.pointer (some ⟨y.heap.size+1+1,0,none⟩),(Qc (y.heap.size+1))]) (chk:=YK 6 Du) (F:=F) ag (fun W s hm hc=>FV hc (aW.o.mod hm I I I)) (by have:=ag.mu_lt hF;exact this)).mono ?_;intro e w5 h5;rcases h5.cases with⟨d,v5,ap,rfl,bc,ai,ab⟩ | ⟨f5,a0,⟨V,hz,rfl,Z⟩,ab⟩
  rotate_left
  .exact⟨rfl,⟨aq.o.trans ab,Qr ⟨f5,L.o.trans ((Qx M).trans ((Qg h1).trans (QC a0))),⟨V,QE aq.size hz,rfl,Z⟩⟩⟩⟩
  have a5:=Wx (l:=t.data.toList) ⟨by simpa using ag.le,ag.e0⟩ d ap;rw[bal]at a5;obtain⟨xg,xc,rfl,bB,G,bg⟩:=bc;have av:=O G;have aG:=O (aq.o.trans ab);have aH:=O (XP (b:=b) aJ ab I);have a9:∀k,z.ownBlock=some k->k<U.heap.size:=fun k p=>(aJ.o.lt k p).2
  clear h5 ab G;change Qd _ at ap ai;go_wp2_with fail
  go_loopw [13] (fun i P=>∃(k:Nat) (A:Value),i=Qa k/\k<=d.1.length/\RC P b t d.2 A B C/\P.ownsRow w.heap.size 9 1 A ((d.1.take k).foldl Xf m).length (QW ((d.1.take k).foldl Xf m))/\((d.1.take k).foldl Xf m=[]->A=.slice none 0 0)/\Mod b w P/\ZQ P xg d.1/\(∀g,A.ownBlock=some g->g≠xg)/\muW P b t.size=mu t.size d.2/\xg<P.heap.size) (fun i _=>d.1.length-(intOf i).toNat)
  case atStart=>exact⟨0,z,rfl,QR,ai,aH,au,aG,av,fun k p e=>by have:=a9 k p;omega,ai.muEq,QX (av 0 (Xz.2 bg))⟩
  case round=>
   obtain⟨k,A,rfl,p,v,r,D,q,G,aE,a7,hxl⟩:=hrel;have a2:=Fv (d.1.take k) m;have bw:(d.1.take k).length=k:=by rw[YT];omega
   have bz:w.heap.size<=wr.heap.size:=q.size;clear ai aH aG av HR aI au ar af Y ae;change Qd _ at D G;replace v:=O v;replace r:=O r;replace q:=O q;by_cases hkl:k<d.1.length
   .have hx:(d.1.take (k+1)).foldl Xf m=Xf ((d.1.take k).foldl Xf m) (d.1.getD k []):=by
     rw[List.take_add_one,List.foldl_append,Zi hkl,Zv,Zi hkl];rfl
    have bp:wr.cell? ⟨xg,k,none⟩=some (Qf (d.1.getD k [])):=G k hkl;have h7:=K2 v.o.at_;generalize hR:(d.1.take k).foldl Xf m=R at *;generalize d.1.getD k []=x at *;have ad:=O (FY x (IT r D I I))
    obtain⟨ra,rn,rc,a8⟩:∃a n c,A=.slice a n c:=by
     obtain⟨_,h2⟩:=r.o;rcases h2 with⟨h,_⟩ | ⟨g,bl,bm,h,_⟩
     .exact⟨_,_,_,h⟩
     .exact⟨_,_,_,h⟩
    subst a8;clear hR;change Qd _ at hx;by_cases hw0:0<wL R x
    .rw[QU hw0]at ad;have S:Hid (Xf R x=R):=by show _=_;unfold Xf;rw[Qi hw0]
     clear hw0;go_wp2_with (go_at_call 64;refine ad.mono ?_;rintro e w' ⟨rfl,bd⟩;subst w');go_roundw
     case rel=>exact⟨k+1,_,by go_num,I,v,by rw[hx.o,S.o];exact r,fun hh=>D (by rw[hx.o,S.o]at hh;exact hh),q,G,aE,a7,hxl⟩
     case measure=>simp[intOf];omega
    .rw[QB hw0]at ad;have S:Hid (Xf R x=R++[x]):=by show _=_;unfold Xf;rw[Qg hw0]
     clear hw0;go_wp2_with (first|(go_at_call 64;refine ad.mono ?_;rintro e w' ⟨rfl,bd⟩;subst w')|(at_builtin;refine Kf _ rfl _ _ 61 rfl w.heap.size 9 i0 (.string ⟨#[]⟩) 1 16 underlying61 hi bh bi bj rfl Qb _ _ _ rfl (r.o.alloc _) ⟨wr.heap.size,0,none⟩ 1 1 [Qf x] rfl rfl ?c1 ?c2 ?c3 ?c4 ?c5 ?_))
     case c1=>exact cell_one_new _ _ _
     case c2=>intro u hu;simp at hu;subst hu;rfl
     case c3=>unfold maxLen;omega
     case c4=>omega
     case c5=>simp;omega
     .intro v' J ac aa _ az;have a4:R.length+1=(R++[x]).length:=Qh
      rw[show QW R++[Qf x]=QW (R++[x])from Jw R x,a4]at ac;obtain⟨E,X,rfl,br,_,_⟩:=slB.of_owns ac rfl Qh;obtain⟨nn,aC⟩:=Q3 ((R++[x]).length);rw[<-aC]at ac az ⊢;have aD:∀k,(Value.slice ra rn rc).ownBlock=some k->w.heap.size<=k:=fun k p=>(r.o.lt k p).1
      have aQ:ZQ J xg d.1:=fun j hj=>by
       rw [Xo (w:=wr) (a:=⟨xg,j,none⟩) (by
        rw[aa.block xg (by simp;omega) (fun e=>aE xg e.symm rfl)]
        exact ZL _ _ _ hxl)]
       exact G j hj
      have bs:E≠xg:=by
       rcases az with h|h
       .exact aE E (by rw[<-h];rfl)
       .simp[Value.ownBlock]at h;omega
      have ah:=(v.o.alloc (Obj.cells #[Qf x] 9)).grown aa (fun k p=>by have:=aD k p;omega);have aL:=(q.o.alloc (Obj.cells #[Qf x] 9)).grown aa (fun k p=>aD k p);have bn:=K2 ah.at_;have bq:J.frozen? ⟨b,7,none⟩=false:=ah.at_.frozen 7;have bf:xg<J.heap.size:=by have:=aa.size;simp at this;omega
      have aK:=O (ah.setReq (Qs E nn X));have aR:=O (aL.setCell 7 (Qs E nn X));have aU:=O (F5 (T:=b) (o:=7) (x:=Qs E nn X) ac (fun k p=>by simp[Value.ownBlock]at p;omega))
      have aX:Hid (ZQ (J.setCell ⟨b,7,none⟩ (Qs E nn X)) xg d.1):=fun j hj=>by
       rw[GD _ _ _ _ (by simp;try omega)];exact aQ j hj
      have bk:(J.setCell ⟨b,7,none⟩ (Qs E nn X)).heap.size=J.heap.size:=by simp[World.setCell]
      clear ac aa az aD aQ ah aL;change Qd _ at aC;go_wp2;go_roundw
      case rel=>exact⟨k+1,_,by go_num,I,aK,by rw[hx.o,S.o,<-aC.o];exact aU,fun hh=>by rw[hx.o,S.o]at hh;simp at hh,aR,aX,fun g hg=>by simp[Value.ownBlock]at hg;omega,aK.muEq,by rw[bk];exact bf⟩
      case measure=>simp[intOf];omega
   .have a3:k=d.1.length:=I
    subst a3;have ba:d.1.take d.1.length=d.1:=KA;rw[ba]at r D a2;go_wp2_with fail;have HP:=O (UG 1 1 (v.o.alloc (.cells (QW [[59]]).toArray 9)) (K' rfl) rfl Qb);refine HP.mono ?_;intro e w8 h8;rcases h8.cases with⟨y8,v8,aF,rfl,aP,aA,ak⟩ | ⟨f8,a1,⟨V,hz,rfl,Z⟩,ak⟩
    rotate_left
    .exact⟨rfl,⟨(q.o.alloc _).trans ak,Qr ⟨f8,L.o.trans ((Qx M).trans ((Qg h1).trans ((Qx ap).trans (QC a1)))),⟨V,QE (q.o.alloc _).size hz,rfl,Z⟩⟩⟩⟩
    have aB:=B7 (l:=t.data.toList) (by simpa using v.le) v.e0 Qb aF;rw[bal]at aB;replace aB:=aB.1;have ax:=((Mod.refl b wr).alloc (.cells (QW [[59]]).toArray 9)).trans ak;have aS:=O (q.o.trans ax);have aV:=O (XP (b:=b) r ax I);unfold YP at aP;subst aP;clear h8 ak ax HP;change Qd _ at aF aA
    have aT:Hid (muW w8 b t.size<MR):=by
     show _<_
     rw[aA.muEq];omega
    go_wp2;go_roundw
    case rel=>exact⟨y8.2,d.1.foldl Xf m,A,f,aA,aV,D,aS,I,I,L.o.trans ((Qx M).trans ((Qg h1).trans ((Qx ap).trans (Qx aF))))⟩
    case measure=>exact aT
def ps0:PS:=(⟨0,0,[],[],0⟩,0)
def Y1(X:Nat->Prop)(req:Qn)(w:World)(v:Value):Prop:=
 (req=[]/\v=.slice none 0 0)\/slX X req w v
def E5(X:Nat->Prop)(y:Qn×List (Q5 7))(w:World)(v:Value):Prop:=
 ∃rv lv,v=.agg #[rv,lv]/\Y1 X y.1 w rv/\blX X (Yx 7) y.2 w lv
theorem Y1.keep{X:Nat->Prop}{req:Qn}{w w':World}{v:Value}(h:Y1 X req w v)(a:AbvX X w w'):Y1 X req w' v:=by
 rcases h with h|h
 .exact Qt h
 .exact Qr (h.keep a)
theorem Y1.weak{X Y:Nat->Prop}{req:Qn}{w:World}{v:Value}(h:Y1 X req w v)(a:∀k,X k->k<w.heap.size->Y k):Y1 Y req w v:=by
 rcases h with h|h
 .exact Qt h
 .exact Qr (h.weak a)
theorem Y1.of{a:Value}(h:Y3 w b a req)(i:∀k,a.ownBlock=some k->B<=k):Y1 (fromB B) req w a:=by
 rcases h with⟨e,f⟩ | ⟨g,c,d,_,l,j,_⟩
 .exact Qt ⟨f,e⟩
 .exact Qr ⟨g,c,d,i g (by rw[d];rfl),l,j⟩
theorem Y1.form{X:Nat->Prop}(h:Y1 X req w v):∃a n c,v=.slice a n c:=by
 rcases h with⟨_,h⟩ | ⟨g,c,h,_⟩
 .exact⟨_,_,_,h⟩
 .exact⟨_,_,_,h⟩
def Rk(r:Qq (Qn×List (Q5 7)))(b:Nat)(w:World)(e:Ending)(w':World):Prop:=
 Mod b w w'/\((∃y v,r=.ok y/\e=.returned v/\E5 (fromB w.heap.size) y w' v)\/(∃f,r=.error f/\X1 f w e w'))
theorem RH{f:Flt}(h:nL l 0=.error f):prL l=.error f:=by unfold prL;rw[h]
theorem RY{f:Flt}(h:nL l 0=.ok s)(a:reqMore l (2*l.length+10) (2*l.length+10) [] s=.error f):prL l=.error f:=by unfold prL;rw[h];dsimp only;rw[a]
theorem Sc{f:Flt}(h:nL l 0=.ok s)(a:reqMore l (2*l.length+10) (2*l.length+10) [] s=.ok y)(b:cMr (cmdL l y.1 (2*l.length+10) 7) (2*l.length+10) [] y.2=.error f):prL l=.error f:=by unfold prL;rw[h];dsimp only;rw[a];dsimp only;rw[b]
theorem Qwz{a:List (Q5 7)}(h:nL l 0=.ok s)(b:reqMore l (2*l.length+10) (2*l.length+10) [] s=.ok y)(c:cMr (cmdL l y.1 (2*l.length+10) 7) (2*l.length+10) [] y.2=.ok a):prL l=.ok (y.1,a):=by unfold prL;rw[h];dsimp only;rw[b];dsimp only;rw[c]
theorem S3{f:Nat}(h:s.1.kind=0):cMr sub (f+1) acc s=.ok acc:=by rw[cMr,Qi h]
theorem Tb{f:Nat}{e:Flt}(h:¬s.1.kind=0)(a:sub s=.error e):cMr sub (f+1) acc s=.error e:=by rw[cMr,Qg h,a]
theorem Ti{f:Nat}{y:α×PS}(h:¬s.1.kind=0)(a:sub s=.ok y):cMr sub (f+1) acc s=cMr sub f (acc++[y.1]) y.2:=by rw[cMr,Qg h,a]
theorem Quc{s x pr pt pf:Nat}(h:RC w b t ps0 (.slice none 0 0) s x)(ht:Kd w b x pr pt pf)(X:KZ w b s p1 k1 p2 k2 p3 k3):Calls prog 90 #[.pointer (some ⟨b,0,none⟩)] w (Rk (prL t.data.toList) b w):=by
 have H:=O h;have HT:=O ht;have aW:=O X;have aL:=h.at_.lt;have J:2*t.size+1<2*t.data.toList.length+10:=by rw[bal];omega
 generalize hFe:2*t.data.toList.length+10=F at J;clear h ht X;obtain⟨i0,hi,aG,aH,aI⟩:=ZU Tryz.infoCommand;go_enter func90,ntmps90;go_wp2_with fail;have ag:=O ((Mod.refl b w).alloc (.cells #[.slice none 0 0,.slice none 0 0] 91));have av:=O (Q0 (w:=w) (o:=.cells #[.slice none 0 0,.slice none 0 0] 91));refine(Km (b:=b) (t:=t) (s:=ps0) (c:=s) (d:=x) (H.o.alloc _)).mono ?_;rintro e w1 (⟨y,hy,rfl,hc,hm⟩ | ⟨U,Y,⟨A,hz,rfl,C⟩,hm⟩);rotate_left
 .exact⟨rfl,ag.o.trans hm,Qr ⟨U,RH Y,⟨A,by simp at hz;omega,rfl,C⟩⟩⟩
 have HY:=O hy;have HC:=O hc;have T:=O (ag.o.trans hm);have ad:=O (QY av.o hm (by omega));clear hy hc hm;go_wp2_with fail;refine(Ty (b:=b) (F:=F) (t:=t) (s:=y) (B:=s) (C:=x) HC.o J).mono ?_;rintro e i ⟨K,⟨n,rv,ab,rfl,B,L,au⟩ | ⟨U,Y,⟨A,hz,rfl,C⟩⟩⟩;rotate_left
 .exact⟨rfl,T.o.trans K,Qr ⟨U,RY HY.o (by rw[hFe];exact Y),⟨A,QE T.o.size hz,rfl,C⟩⟩⟩
 have aN:=QI ad.o;have aU:=O ab;have aT:=O B;have z:=O (T.o.trans K);have ae:=O (QY ad.o K (by omega));have a0:=O L;have az:Hid (∀k,rv.ownBlock=some k->w.heap.size+1<=k):=fun k c=>by have:=au k c;omega
 have HO:=O (Hl n.1 b (F:=F) (t:=t) rv s x pr pt pf p1 k1 p2 k2 p3 k3 J 7 QF i (HT.o.mod z.o) (aW.o.mod z.o) L);rw[show(7:Int)-((7:Nat):Int)=0 from rfl]at HO;have aE:=B.mu_le;have ao:=B.mu_lt J;have aO:=QI ae.o;clear ab B K L au;go_wp2_with fail
 go_loopw [3] (fun v wr=>∃(d:PS) (l:List (Q5 7)) (Q:List Value) (f:Nat),wr.ownsRow i.heap.size 179 1 v l.length Q/\Zz (fun a u=>ZD (Yx 7) i.heap.size wr v a u) l Q/\(l=[]->v=.slice none 0 0)/\RC wr b t d rv s x/\Mod b i wr/\mu t.size d<f/\l.length+mu t.size d<=1300/\cMr (cmdL t.data.toList n.1 F 7) F [] n.2=cMr (cmdL t.data.toList n.1 F 7) f l d) (fun _ wr=>muW wr b t.size)
 case atStart=>
  exact⟨n.2,[],[],F,Z5,trivial,fun _=>rfl,aT.o,Mod.refl _ _,ao,by simp;omega,rfl⟩
 case round=>
  obtain⟨d,l,Q,f,E,q,aq,m,j,hf,aJ,M⟩:=hrel;obtain⟨f,rfl⟩:∃g,f=g+1:=⟨f-1,by omega⟩;have HR:=O m;have aQ:=O j;have aS:=O M;have aR:=O E;have aj:=O q;have aY:=O aq;have S:=O (QY ae.o j (by omega));have aK:=Q9 m.at_;clear m j M E q aq aT aE ao;by_cases h1:d.1.kind=0
  .have aB:((d.1.kind:Int) != 0)=false:=by simp;omega
   have H1:=O h1;have ak:=O (blX.of_owns (XO 7) aR.o rfl aY.o aj.o);obtain⟨la,ln,lc,rfl⟩:=ak.o.form;have ai:=O (Y1.of (a0.o.mod aQ.o) az.o);obtain⟨ra,rn,rc,rfl⟩:=ai.o.form;have h7:=K2 HR.o.at_;have r0:=Zs S.o;have r1:=Q9 S.o;have rf:=QQ S.o;clear h1;go_wp2;have G:¬fromB (w.heap.size+1) w.heap.size:=by unfold fromB;omega
   have aF:∀k,fromB (w.heap.size+1) k->k<((wr.setCell ⟨w.heap.size,0,none⟩ (.slice ra rn rc)).setCell ⟨w.heap.size,1,none⟩ (.slice la ln lc)).heap.size->fromB w.heap.size k:=fun k c _=>by unfold fromB at *;omega
   refine Q_ (v:=.agg #[.slice ra rn rc,.slice la ln lc]) (by simp[results,results90,go_sem,r0,r1]) rfl ⟨((z.o.trans aQ.o).setNew QF _ _).setNew QF _ _,Qt ⟨(n.1,l),_,Qwz HY.o (by rw[hFe];exact aU.o) (by rw[hFe,aS.o];exact S3 H1.o),rfl,⟨_,_,rfl,?_,?_⟩⟩⟩
   .exact((ai.o.keep (AbvX.set G _ _)).keep (AbvX.set G _ _)).weak aF
   .have G:¬fromB i.heap.size w.heap.size:=by unfold fromB;omega
    refine blX.weak (XO 7) ((ak.o.keep (XO 7) (AbvX.set G _ _)).keep (XO 7) (AbvX.set G _ _)) (fun k c _=>by unfold fromB at *;omega)
  have aB:((d.1.kind:Int) != 0)=true:=by simp;omega
  have H1:=O h1;clear h1;go_wp2_with fail;refine(HO.o _ d aQ.o HR.o).mono ?_;intro e w4 h4;rcases h4.cases with⟨z4,v4,ac,rfl,aa,W,p⟩ | ⟨f4,aC,⟨A,hz,rfl,C⟩,p⟩
  rotate_left
  .exact⟨rfl,(z.o.trans aQ.o).trans p,Qr ⟨f4,Sc HY.o (by rw[hFe];exact aU.o) (by rw[hFe,aS.o];exact Tb H1.o aC),⟨A,QE (z.o.trans aQ.o).size hz,rfl,C⟩⟩⟩
  have aM:=OD t n.1 F 7 d z4 HR.o.le HR.o.e0 ac;have a1:=O aa;obtain⟨N,R,rfl⟩:=(XO 7).form _ _ _ _ aa;have ah:=O (aQ.o.trans p);have a2:=O ac;have aV:=O W;have Z:=XP (b:=b) aR.o p (by omega);have aA:=O (aj.o.imp (fun a u r=>ZD.mod (XO 7) (b:=b) (w':=w4) r p (by omega)));have aD:=O (fun k c=>(aR.o.lt k c).2);have aw:=O (ZD.new (XO 7) (base:=i.heap.size) a1.o aQ.o.size aD.o);have aP:i.heap.size<=w4.heap.size:=ah.o.size;clear h4 ac W p aa;go_wp2_with (at_builtin;refine Kf _ rfl _ _ 89 rfl i.heap.size 179 i0 .nilIface 1 16 underlying89 hi aG aH aI rfl (by decide) _ _ _ rfl (Z.alloc _) ⟨w4.heap.size,0,none⟩ 1 1 [.iface N R] rfl rfl ?c1 ?c2 ?c3 ?c4 ?c5 ?_)
  case c1=>exact cell_one_new _ _ _
  case c2=>intro u r;simp at r;subst r;rfl
  case c3=>unfold maxLen;omega
  case c4=>omega
  case c5=>simp;omega
  .intro v' w5 ar D _ V;have q:∀k,(u3).ownBlock=some k->i.heap.size<=k:=fun k c=>(Z.lt k c).1
   have ax:=O ((ah.o.alloc (Obj.cells #[.iface N R] 179)).grown D (fun k c=>q k c));have af:=O ((aV.o.alloc (Obj.cells #[.iface N R] 179)).grown D (fun k c=>by have:=q k c;omega));have aZ:=O ar;have ay:=O (Zz.snoc (P:=fun a u=>ZD (Yx 7) i.heap.size w5 v' a u) (aw.o.grown (XO 7) D V) (aA.o.imp (fun a u r=>ZD.grown (XO 7) r D V)));have ap:muW w5 b t.size<muW wr b t.size:=by rw[af.o.muEq,HR.o.muEq];omega
   have aX:=O ap;clear ar D ap Z q V;go_wp2;go_roundw
   case rel=>exact⟨z4.2,l++[z4.1],Q++[.iface N R],f,by simpa using aZ.o,ay.o,fun hh=>absurd hh (by simp),af.o,ax.o,by omega,by simp;omega,aS.o.trans (Ti H1.o a2.o)⟩
   case measure=>exact aX.o
end
def YO(es:Array MapEntry)(f:L8->Option Value):Prop:=
 (∀e∈es.toList,∃x,e.key=Qf x/\f x=some e.val)/\∀x v,f x=some v->∃e∈es.toList,e.key=Qf x
theorem YO.keys(h:YO a f):∀e∈a.toList,MapKept.IsKey .string e.key:=fun e he=>by
 obtain⟨x,b,_⟩:=h.1 e he;rw[b];trivial
theorem YO.empty:YO #[] (fun _=>none):=⟨fun e he=>by simp at he,fun x v h=>by cases h⟩
theorem YO.push{b:Array MapEntry}{f g:L8->Option Value}(h:YO b f){x:L8}{v:Value}{c:Nat}(l:f x=none)(m:g x=some v)(d:∀z,z≠x->g z=f z):YO (b.push ⟨.string (sA x),v,c⟩) g:=by
 refine⟨fun e he=>?_,fun z u i=>?_⟩
 .simp only[Array.toList_push,Z6,List.mem_singleton]at he;rcases he with he|he
  .obtain⟨z,j,a⟩:=h.1 e he;have:z≠x:=fun e=>by rw[e,l]at a;cases a
   exact⟨z,j,by rw[d z this];exact a⟩
  .subst he;exact⟨x,rfl,m⟩
 .by_cases e:z=x
  .exact⟨⟨.string (sA x),v,c⟩,Qh,by rw[e]⟩
  .rw[d z e]at i;obtain⟨y,n,k⟩:=h.2 z u i;exact⟨y,by simp[n],k⟩
theorem YO.congr{g:L8->Option Value}(h:YO a f)(e:∀x,f x=g x):YO a g:=by
 have:f=g:=funext e;rw[<-this];exact h
def Yu(w:World)(m:Nat)(o:Obj):World:={ w with heap:=w.heap.setIfInBounds m o }
theorem Y6{T K E:TypeId}(q:prog.underlying T=some (.map K E))(d:prog.underlying K=some .string){c:Nat}(k:w.heap[m]?=some (.map a c))(g:YO a f)(r:f x=none) :
 (Instr.mapUpdate T (.map (some m)) (Qf x) v).run prog w=.ok () (Yu w m (.map (a.push ⟨.string (sA x),v,c⟩) (c+1))):=by
 have i:MapKept.IsKey .string (Qf x):=trivial;rcases MapKept.findNow_spec i a.toList 0 g.keys with⟨b,_⟩ | ⟨j,e,b,o,p⟩
 .simp[Instr.mapUpdate,run_underlying q,MapKept.run_getObj_map k,MapKept.run_checkKey d i,MapKept.run_findKey d b,MapKept.run_setObj_map _ k,Result.andThen,Yu]
 .obtain⟨z,l,n⟩:=g.1 e (Uv o);rw[p]at l;have:x=z:=NM (by simpa using l);subst this;rw[r]at n;cases n
theorem Ay(h:w.heap[m]?=some o):(Yu w m o').heap[m]?=some o':=by
 have:=QI h;simp[Yu,this]
theorem Vu(h:k≠m):(Yu w m o').heap[k]?=w.heap[k]?:=by
 simp[Yu,Array.getElem?_setIfInBounds_ne (Ne.symm h)]
theorem Hf:(Yu w m o').heap.size=w.heap.size:=by simp[Yu]
theorem I9{T K E:TypeId}(n:prog.underlying T=some (.map K E))(a:prog.underlying K=some .string)(q:∀W,(zeroValue E).run prog W=.ok .nilFunc W){b:Array MapEntry}{c:Nat}(s:w.heap[m]?=some (.map b c))(k:YO b f):EK w T m f:=by
 intro W x i;rw[s]at i;have l:MapKept.IsKey .string (Qf x):=trivial;rcases MapKept.findNow_spec l b.toList 0 k.keys with⟨d,g⟩ | ⟨j,e,d,g,p⟩
 .have t:f x=none:=by
   cases hfx:f x with
   |none=>rfl
   |some v=>
    obtain⟨e,he,r⟩:=k.2 x v hfx;exact absurd r (g e he)
  rw[t];simp[Instr.lookup,run_underlying n,MapKept.run_getObj_map i,MapKept.run_checkKey a l,MapKept.run_findKey a d,q,Result.andThen]
 .obtain⟨z,o,u⟩:=k.1 e (Uv g);rw[p]at o;have:x=z:=NM (by simpa using o);subst this;rw[u];simp[Instr.lookup,run_underlying n,MapKept.run_getObj_map i,MapKept.run_checkKey a l,MapKept.run_findKey a d,Result.andThen]
section
attribute [local go_sem ↓] Zt Zu
theorem Tryz.infoFnC:(prog.info? 211).map (fun i=>(i.zero,i.size,i.bytes))=some (some .nilFunc,1,8):=Qm
theorem Tryz.infoFnT:(prog.info? 213).map (fun i=>(i.zero,i.size,i.bytes))=some (some .nilFunc,1,8):=Qm
theorem Pt(W:World):(zeroValue 211).run prog W=.ok .nilFunc W:=by
 obtain⟨e,a,b,c,d⟩:=ZU Tryz.infoFnC;simp[zeroValue,typeInfo,Sem.run,a,b]
theorem QzX(W:World):(zeroValue 213).run prog W=.ok .nilFunc W:=by
 obtain⟨e,a,b,c,d⟩:=ZU Tryz.infoFnT;simp[zeroValue,typeInfo,Sem.run,a,b]
theorem EA{r:Value}(b:Nat)(a:Int)(c:r=(Qc b)):Calls prog 124 #[r,Qa a] w fun e w'=>e=.returned (QA 178 #[] #[Qc w.heap.size,(Qc (w.heap.size+1))])/\w'=(w.alloc (Qe #[r] 161)).alloc (Qe #[Qa a] 3):=by
 subst c;go_enter func124,ntmps124;go_wp2;go_ret;exact⟨rfl,rfl⟩
theorem I8(h:Bool):Calls prog 127 #[.bool h] w fun e w'=>e=.returned (QA 185 #[] #[Qc w.heap.size])/\w'=w.alloc (Qe #[.bool h] 4):=by
 go_enter func127,ntmps127;go_wp2;go_ret;exact⟨rfl,rfl⟩
end
def up(L:Nat->Bool)(i:Nat):Nat->Bool:=fun j=>if j=i then true else L j
theorem Yi:up L i i=true:=by simp[up]
theorem QK(L:Nat->Bool)(h:j≠i):up L i j=L j:=by simp[up,h]
theorem QD(h:L j=true):up L i j=true:=by unfold up;split<;>simp[h]
theorem ud(h:up L i j=true)(a:j≠i:=by decide):L j=true:=by rwa [QK L a]at h
theorem ui(hi:L j=true->L k=true)(a:j≠i:=by decide)(h:up L i j=true):up L i k=true:=QD (hi (ud h a))
theorem nf(hi:L j=true->L k=true)(a:L k=false):L j=false:=by
 cases hh:L j with
 |false=>rfl
 |true=>have:=hi hh;rw[a]at this;cases this
def JX(t:ByteArray)(mv mv2:Value):Obj:=Qe #[.string t,Qa 0,Qa 0,.string ⟨#[]⟩,.string ⟨#[]⟩,Qa 0,Qa 0,Qp,mv,mv2] 210
def N5(w:World)(b B kd:Nat)(v:Value):Prop:=
 ∃p q,v=QA 178 #[] #[Qc p,Qc q]/\B<=p/\B<=q/\w.heap[p]?=some (Qe #[Qc b] 161)/\w.heap[q]?=some (Qe #[Qa kd] 3)
theorem N5.keep{e:Nat}(h:N5 w b B e v)(a:∀k cs ty,B<=k->w.heap[k]?=some (Qe cs ty)->w'.heap[k]?=some (Qe cs ty)):N5 w' b B e v:=by
 obtain⟨p,q,i,c,d,f,g⟩:=h;exact⟨p,q,i,c,d,a p _ _ c f,a q _ _ d g⟩
def fC(b:Nat)(L:Nat->Bool)(u16 u18 u20:Value)(x:L8):Option Value:=
 match wL cNs x with
 |1=>if L 4 then some (QA 121 #[Qc b] #[])else none
 |2=>if L 7 then some (QA 122 #[Qc b] #[])else none
 |3=>if L 10 then some (QA 123 #[Qc b] #[])else none
 |4=>if L 13 then some (u16)else none
 |5=>if L 16 then some (u18)else none
 |6=>if L 19 then some (u20)else none
 |7=>if L 22 then some (QA 125 #[Qc b] #[])else none
 |8=>if L 25 then some (QA 126 #[Qc b] #[])else none
 |_=>none
structure JC (t:ByteArray) (b:Nat) (W:World) (mv2:Value) (L:Nat->Bool) (u8 u16 u18 u20 u25 u26 u27:Value) (w:World):Prop where
 hb:b < W.heap.size
 mod:Mod b W w
 rd:w.heap[b]?=some (JX t (if L 29 then u25 else Value.map none) mv2)
 cm4:L 4=true->L 1=true
 cm7:L 7=true->L 1=true
 cm10:L 10=true->L 1=true
 cm13:L 13=true->L 1=true
 cm16:L 16=true->L 1=true
 cm19:L 19=true->L 1=true
 cm22:L 22=true->L 1=true
 cm25:L 25=true->L 1=true
 cv13:L 13=true->L 12=true
 cv16:L 16=true->L 15=true
 cv19:L 19=true->L 18=true
 a12:L 12=true->N5 w b W.heap.size 2 u16
 a15:L 15=true->N5 w b W.heap.size 3 u18
 a18:L 18=true->N5 w b W.heap.size 4 u20
 mp:L 1=true->∃m es c,u8=.map (some m)∧W.heap.size<=m∧w.heap[m]?=some (.map es c)∧YO es (fC b L u16 u18 u20)
 m26:L 26=true->u25=u8∧L 1=true∧L 4=true∧L 7=true∧L 10=true∧L 13=true∧L 16=true∧L 19=true∧L 22=true∧L 25=true
 m27:L 27=true->u26=(Qc b)
 m28:L 28=true->u27=.pointer (some ⟨b,8,none⟩)
 m29:L 29=true->L 26=true
theorem Ij{W:World}(h:Mod b W w)(a:W.heap.size<=m):Mod b W (Yu w m o):=
 ⟨h.os,h.tape,h.output,by rw[Hf];exact h.size,fun k hk hn=>by rw[Vu I];exact h.block k hk hn⟩
section
variable {t:ByteArray} {b:Nat} {W:World} {mv2:Value} {L:Nat->Bool} {u8 u16 u18 u20 u25 u26 u27:Value} {w:World}
theorem Gn(i:Nat)(h:i≠4/\i≠7/\i≠10/\i≠13/\i≠16/\i≠19/\i≠22/\i≠25)(x:L8):fC b (up L i) u16 u18 u20 x=fC b L u16 u18 u20 x:=by
 obtain⟨a,c,d,e,f,g,j,k⟩:=h;unfold fC;simp only[QK L (Ne.symm a),QK L (Ne.symm c),QK L (Ne.symm d),QK L (Ne.symm e),QK L (Ne.symm f),QK L (Ne.symm g),QK L (Ne.symm j),QK L (Ne.symm k)]
theorem JC.m26u(J:JC t b W mv2 L u8 u16 u18 u20 u25 u26 u27 w)(h:L 26=true):u25=u8/\up L i 1=true/\up L i 4=true/\up L i 7=true/\up L i 10=true/\up L i 13=true/\up L i 16=true/\up L i 19=true/\up L i 22=true/\up L i 25=true:=by
 obtain⟨a,d,e,f,g,j,k,l,m,c⟩:=J.m26 h;exact⟨a,QD d,QD e,QD f,QD g,QD j,QD k,QD l,QD m,QD c⟩
theorem JC.s1(J:JC t b W mv2 L u8 u16 u18 u20 u25 u26 u27 w)(a:L 1=false):JC t b W mv2 (up L 1) (.map (some w.heap.size)) u16 u18 u20 u25 u26 u27 (w.alloc (Obj.map #[] 0)):=by
 have d:∀k c e,W.heap.size<=k->w.heap[k]?=some (Qe c e)->(w.alloc (Obj.map #[] 0)).heap[k]?=some (Qe c e):=fun k c e _ h=>QJ h
 have f:(w.alloc (Obj.map #[] 0)).heap[b]?=some (JX t (if L 29 then u25 else Value.map none) mv2):=QJ J.rd;have o:L 4=false:=nf J.cm4 a;have p:L 7=false:=nf J.cm7 a;have g:L 10=false:=nf J.cm10 a;have i:L 13=false:=nf J.cm13 a;have j:L 16=false:=nf J.cm16 a;have l:L 19=false:=nf J.cm19 a;have m:L 22=false:=nf J.cm22 a;have n:L 25=false:=nf J.cm25 a;exact⟨J.hb,J.mod.trans ((Mod.refl b w).alloc _),by rw[QK L Qb];exact f,ui J.cm4,ui J.cm7,ui J.cm10,ui J.cm13,ui J.cm16,ui J.cm19,ui J.cm22,ui J.cm25,ui J.cv13,ui J.cv16,ui J.cv19,fun h=>(J.a12 (ud h)).keep d,fun h=>(J.a15 (ud h)).keep d,fun h=>(J.a18 (ud h)).keep d,fun _=>⟨w.heap.size,#[],0,rfl,J.mod.size,Q0,YO.empty.congr (fun x=>by rw[Gn 1 Qb];unfold fC;simp only[o,p,g,i,j,l,m,n];split<;>rfl)⟩,fun h=>absurd (J.m26 (ud h)).2.1 (by rw[a];decide),fun h=>J.m27 (ud h),fun h=>J.m28 (ud h),ui J.m29⟩
theorem JC.s12(J:JC t b W mv2 L u8 u16 u18 u20 u25 u26 u27 w)(g:L 12=false):JC t b W mv2 (up L 12) u8 (QA 178 #[] #[Qc w.heap.size,(Qc (w.heap.size+1))]) u18 u20 u25 u26 u27 ((w.alloc (Qe #[Qc b] 161)).alloc (Qe #[Qa 2] 3)):=by
 have f:∀k d e,W.heap.size<=k->w.heap[k]?=some (Qe d e)->((w.alloc (Qe #[Qc b] 161)).alloc (Qe #[Qa 2] 3)).heap[k]?=some (Qe d e):=fun k d e _ h=>QJ (QJ h)
 have p:∀(m:Nat) (a:Array MapEntry) (c:Nat),w.heap[m]?=some (Obj.map a c)->((w.alloc (Qe #[Qc b] 161)).alloc (Qe #[Qa 2] 3)).heap[m]?=some (Obj.map a c):=fun m a c h=>QJ (QJ h)
 have o:((w.alloc (Qe #[Qc b] 161)).alloc (Qe #[Qa 2] 3)).heap[b]?=some (JX t (if L 29 then u25 else Value.map none) mv2):=QJ (QJ J.rd);have q:L 13=false:=nf J.cv13 g;have r:=J.mod.size;exact⟨J.hb,J.mod.trans (((Mod.refl b w).alloc _).alloc _),by rw[QK L Qb];exact o,ui J.cm4,ui J.cm7,ui J.cm10,ui J.cm13,ui J.cm16,ui J.cm19,ui J.cm22,ui J.cm25,ui J.cv13,ui J.cv16,ui J.cv19,fun _=>⟨w.heap.size,w.heap.size+1,rfl,r,I,QJ (Q0),ZB Qh⟩,fun h=>(J.a15 (ud h)).keep f,fun h=>(J.a18 (ud h)).keep f,fun h=>by obtain⟨m,a,c,i,j,l,n⟩:=J.mp (ud h);exact⟨m,a,c,i,j,p m _ _ l,n.congr (fun x=>by rw[Gn 12 Qb];unfold fC;simp only[q,J2,if_false])⟩,fun h=>J.m26u (ud h),fun h=>J.m27 (ud h),fun h=>J.m28 (ud h),ui J.m29⟩
theorem JC.s15(J:JC t b W mv2 L u8 u16 u18 u20 u25 u26 u27 w)(g:L 15=false):JC t b W mv2 (up L 15) u8 u16 (QA 178 #[] #[Qc w.heap.size,(Qc (w.heap.size+1))]) u20 u25 u26 u27 ((w.alloc (Qe #[Qc b] 161)).alloc (Qe #[Qa 3] 3)):=by
 have f:∀k d e,W.heap.size<=k->w.heap[k]?=some (Qe d e)->((w.alloc (Qe #[Qc b] 161)).alloc (Qe #[Qa 3] 3)).heap[k]?=some (Qe d e):=fun k d e _ h=>QJ (QJ h)
 have p:∀(m:Nat) (a:Array MapEntry) (c:Nat),w.heap[m]?=some (Obj.map a c)->((w.alloc (Qe #[Qc b] 161)).alloc (Qe #[Qa 3] 3)).heap[m]?=some (Obj.map a c):=fun m a c h=>QJ (QJ h)
 have o:((w.alloc (Qe #[Qc b] 161)).alloc (Qe #[Qa 3] 3)).heap[b]?=some (JX t (if L 29 then u25 else Value.map none) mv2):=QJ (QJ J.rd);have q:L 16=false:=nf J.cv16 g;have r:=J.mod.size;exact⟨J.hb,J.mod.trans (((Mod.refl b w).alloc _).alloc _),by rw[QK L Qb];exact o,ui J.cm4,ui J.cm7,ui J.cm10,ui J.cm13,ui J.cm16,ui J.cm19,ui J.cm22,ui J.cm25,ui J.cv13,ui J.cv16,ui J.cv19,fun h=>(J.a12 (ud h)).keep f,fun _=>⟨w.heap.size,w.heap.size+1,rfl,r,I,QJ (Q0),ZB Qh⟩,fun h=>(J.a18 (ud h)).keep f,fun h=>by obtain⟨m,a,c,i,j,l,n⟩:=J.mp (ud h);exact⟨m,a,c,i,j,p m _ _ l,n.congr (fun x=>by rw[Gn 15 Qb];unfold fC;simp only[q,J2,if_false])⟩,fun h=>J.m26u (ud h),fun h=>J.m27 (ud h),fun h=>J.m28 (ud h),ui J.m29⟩
theorem JC.s18(J:JC t b W mv2 L u8 u16 u18 u20 u25 u26 u27 w)(g:L 18=false):JC t b W mv2 (up L 18) u8 u16 u18 (QA 178 #[] #[Qc w.heap.size,(Qc (w.heap.size+1))]) u25 u26 u27 ((w.alloc (Qe #[Qc b] 161)).alloc (Qe #[Qa 4] 3)):=by
 have f:∀k d e,W.heap.size<=k->w.heap[k]?=some (Qe d e)->((w.alloc (Qe #[Qc b] 161)).alloc (Qe #[Qa 4] 3)).heap[k]?=some (Qe d e):=fun k d e _ h=>QJ (QJ h)
 have p:∀(m:Nat) (a:Array MapEntry) (c:Nat),w.heap[m]?=some (Obj.map a c)->((w.alloc (Qe #[Qc b] 161)).alloc (Qe #[Qa 4] 3)).heap[m]?=some (Obj.map a c):=fun m a c h=>QJ (QJ h)
 have o:((w.alloc (Qe #[Qc b] 161)).alloc (Qe #[Qa 4] 3)).heap[b]?=some (JX t (if L 29 then u25 else Value.map none) mv2):=QJ (QJ J.rd);have q:L 19=false:=nf J.cv19 g;have r:=J.mod.size;exact⟨J.hb,J.mod.trans (((Mod.refl b w).alloc _).alloc _),by rw[QK L Qb];exact o,ui J.cm4,ui J.cm7,ui J.cm10,ui J.cm13,ui J.cm16,ui J.cm19,ui J.cm22,ui J.cm25,ui J.cv13,ui J.cv16,ui J.cv19,fun h=>(J.a12 (ud h)).keep f,fun h=>(J.a15 (ud h)).keep f,fun _=>⟨w.heap.size,w.heap.size+1,rfl,r,I,QJ (Q0),ZB Qh⟩,fun h=>by obtain⟨m,a,c,i,j,l,n⟩:=J.mp (ud h);exact⟨m,a,c,i,j,p m _ _ l,n.congr (fun x=>by rw[Gn 18 Qb];unfold fC;simp only[q,J2,if_false])⟩,fun h=>J.m26u (ud h),fun h=>J.m27 (ud h),fun h=>J.m28 (ud h),ui J.m29⟩
def VW(t:ByteArray)(b:Nat)(W:World)(mv2:Value)(L:Nat->Bool)(u8 u16 u18 u20 u25 u26 u27:Value)(w:World)(i:Nat)(nm:L8)(v:Value):Prop:=
 ∃m es c,u8=.map (some m)/\w.heap[m]?=some (.map es c)/\YO es (fC b L u16 u18 u20)/\fC b L u16 u18 u20 nm=none/\JC t b W mv2 (up L i) u8 u16 u18 u20 u25 u26 u27 (Yu w m (.map (es.push ⟨.string (sA nm),v,c⟩) (c+1)))
theorem JC.ins(J:JC t b W mv2 L u8 u16 u18 u20 u25 u26 u27 w){g:L8}(a:L 1=true)(s:fC b L u16 u18 u20 g=none)(D:fC b (up L i) u16 u18 u20 g=some v)(B:∀z,z≠g->fC b (up L i) u16 u18 u20 z=fC b L u16 u18 u20 z)(u:up L i 13=true->up L i 12=true)(x:up L i 16=true->up L i 15=true)(y:up L i 19=true->up L i 18=true)(A:i ∉ [12,15,18,26,27,28,29]:=by decide):VW t b W mv2 L u8 u16 u18 u20 u25 u26 u27 w i g v:=by
 obtain⟨m,o,c,p,q,l,r⟩:=J.mp a;have C:m≠b:=by have:=J.hb;omega
 have f:∀k j n,W.heap.size<=k->w.heap[k]?=some (Qe j n)->(Yu w m (.map (o.push ⟨.string (sA g),v,c⟩) (c+1))).heap[k]?=some (Qe j n):=fun k j n _ h=>by
  rw[Vu (fun e=>by rw[e,l]at h;cases h)];exact h
 have d:∀k,k∈[12,15,18,26,27,28,29]->k≠i:=fun k f e=>A (e ▸ f)
 refine⟨m,o,c,p,l,r,s,J.hb,Ij J.mod q,by rw[QK L (d 29 Qb),Vu (Ne.symm C)];exact J.rd,fun _=>QD a,fun _=>QD a,fun _=>QD a,fun _=>QD a,fun _=>QD a,fun _=>QD a,fun _=>QD a,fun _=>QD a,u,x,y,fun h=>(J.a12 (ud h (d _ Qb))).keep f,fun h=>(J.a15 (ud h (d _ Qb))).keep f,fun h=>(J.a18 (ud h (d _ Qb))).keep f,fun _=>⟨m,_,_,p,q,Ay l,r.push s D B⟩,fun h=>J.m26u (ud h (d _ Qb)),fun h=>J.m27 (ud h (d _ Qb)),fun h=>J.m28 (ud h (d _ Qb)),ui J.m29 (d _ Qb)⟩
theorem JC.s4(J:JC t b W mv2 L u8 u16 u18 u20 u25 u26 u27 w)(a:L 4=false)(c:L 1=true):VW t b W mv2 L u8 u16 u18 u20 u25 u26 u27 w 4 Ul (QA 121 #[Qc b] #[]):=by
 refine J.ins c ?_ ?_ (fun z f=>?_) (ui J.cv13) (ui J.cv16) (ui J.cv19)
 .unfold fC;rw[show wL cNs Ul=1 from Qb];simp only[a];rfl
 .unfold fC;rw[show wL cNs Ul=1 from Qb];simp only[Yi];rfl
 .have d:wL cNs z≠1:=fun e=>f (by have:=Z1 cNs z 0 e;simpa[cNs]using this.symm)
  unfold fC;split<;>first|(rename_i e;exact absurd e d)|simp only[QK L Qb]|rfl
theorem JC.s7(J:JC t b W mv2 L u8 u16 u18 u20 u25 u26 u27 w)(a:L 7=false)(c:L 1=true):VW t b W mv2 L u8 u16 u18 u20 u25 u26 u27 w 7 K_ (QA 122 #[Qc b] #[]):=by
 refine J.ins c ?_ ?_ (fun z f=>?_) (ui J.cv13) (ui J.cv16) (ui J.cv19)
 .unfold fC;rw[show wL cNs K_=2 from Qb];simp only[a];rfl
 .unfold fC;rw[show wL cNs K_=2 from Qb];simp only[Yi];rfl
 .have d:wL cNs z≠2:=fun e=>f (by have:=Z1 cNs z 1 e;simpa[cNs]using this.symm)
  unfold fC;split<;>first|(rename_i e;exact absurd e d)|simp only[QK L Qb]|rfl
theorem JC.s10(J:JC t b W mv2 L u8 u16 u18 u20 u25 u26 u27 w)(a:L 10=false)(c:L 1=true):VW t b W mv2 L u8 u16 u18 u20 u25 u26 u27 w 10 Uk (QA 123 #[Qc b] #[]):=by
 refine J.ins c ?_ ?_ (fun z f=>?_) (ui J.cv13) (ui J.cv16) (ui J.cv19)
 .unfold fC;rw[show wL cNs Uk=3 from Qb];simp only[a];rfl
 .unfold fC;rw[show wL cNs Uk=3 from Qb];simp only[Yi];rfl
 .have d:wL cNs z≠3:=fun e=>f (by have:=Z1 cNs z 2 e;simpa[cNs]using this.symm)
  unfold fC;split<;>first|(rename_i e;exact absurd e d)|simp only[QK L Qb]|rfl
theorem JC.s13(J:JC t b W mv2 L u8 u16 u18 u20 u25 u26 u27 w)(a:L 13=false)(c:L 1=true)(d:L 12=true):VW t b W mv2 L u8 u16 u18 u20 u25 u26 u27 w 13 ZN (u16):=by
 refine J.ins c ?_ ?_ (fun z g=>?_) (fun _=>QD d) (ui J.cv16) (ui J.cv19)
 .unfold fC;rw[show wL cNs ZN=4 from Qb];simp only[a];rfl
 .unfold fC;rw[show wL cNs ZN=4 from Qb];simp only[Yi];rfl
 .have f:wL cNs z≠4:=fun e=>g (by have:=Z1 cNs z 3 e;simpa[cNs]using this.symm)
  unfold fC;split<;>first|(rename_i e;exact absurd e f)|simp only[QK L Qb]|rfl
theorem JC.s16(J:JC t b W mv2 L u8 u16 u18 u20 u25 u26 u27 w)(a:L 16=false)(c:L 1=true)(d:L 15=true):VW t b W mv2 L u8 u16 u18 u20 u25 u26 u27 w 16 Jt (u18):=by
 refine J.ins c ?_ ?_ (fun z g=>?_) (ui J.cv13) (fun _=>QD d) (ui J.cv19)
 .unfold fC;rw[show wL cNs Jt=5 from Qb];simp only[a];rfl
 .unfold fC;rw[show wL cNs Jt=5 from Qb];simp only[Yi];rfl
 .have f:wL cNs z≠5:=fun e=>g (by have:=Z1 cNs z 4 e;simpa[cNs]using this.symm)
  unfold fC;split<;>first|(rename_i e;exact absurd e f)|simp only[QK L Qb]|rfl
theorem JC.s19(J:JC t b W mv2 L u8 u16 u18 u20 u25 u26 u27 w)(a:L 19=false)(c:L 1=true)(d:L 18=true):VW t b W mv2 L u8 u16 u18 u20 u25 u26 u27 w 19 ZM (u20):=by
 refine J.ins c ?_ ?_ (fun z g=>?_) (ui J.cv13) (ui J.cv16) (fun _=>QD d)
 .unfold fC;rw[show wL cNs ZM=6 from Qb];simp only[a];rfl
 .unfold fC;rw[show wL cNs ZM=6 from Qb];simp only[Yi];rfl
 .have f:wL cNs z≠6:=fun e=>g (by have:=Z1 cNs z 5 e;simpa[cNs]using this.symm)
  unfold fC;split<;>first|(rename_i e;exact absurd e f)|simp only[QK L Qb]|rfl
theorem JC.s22(J:JC t b W mv2 L u8 u16 u18 u20 u25 u26 u27 w)(a:L 22=false)(c:L 1=true):VW t b W mv2 L u8 u16 u18 u20 u25 u26 u27 w 22 Xw (QA 125 #[Qc b] #[]):=by
 refine J.ins c ?_ ?_ (fun z f=>?_) (ui J.cv13) (ui J.cv16) (ui J.cv19)
 .unfold fC;rw[show wL cNs Xw=7 from Qb];simp only[a];rfl
 .unfold fC;rw[show wL cNs Xw=7 from Qb];simp only[Yi];rfl
 .have d:wL cNs z≠7:=fun e=>f (by have:=Z1 cNs z 6 e;simpa[cNs]using this.symm)
  unfold fC;split<;>first|(rename_i e;exact absurd e d)|simp only[QK L Qb]|rfl
theorem JC.s25(J:JC t b W mv2 L u8 u16 u18 u20 u25 u26 u27 w)(a:L 25=false)(c:L 1=true):VW t b W mv2 L u8 u16 u18 u20 u25 u26 u27 w 25 kIf (QA 126 #[Qc b] #[]):=by
 refine J.ins c ?_ ?_ (fun z f=>?_) (ui J.cv13) (ui J.cv16) (ui J.cv19)
 .unfold fC;rw[show wL cNs kIf=8 from Qb];simp only[a];rfl
 .unfold fC;rw[show wL cNs kIf=8 from Qb];simp only[Yi];rfl
 .have d:wL cNs z≠8:=fun e=>f (by have:=Z1 cNs z 7 e;simpa[cNs]using this.symm)
  unfold fC;split<;>first|(rename_i e;exact absurd e d)|simp only[QK L Qb]|rfl
theorem JC.s26(J:JC t b W mv2 L u8 u16 u18 u20 u25 u26 u27 w)(i:L 26=false)(j:L 1=true)(z:L 4=true)(A:L 7=true)(q:L 10=true)(r:L 13=true)(s:L 16=true)(u:L 19=true)(v:L 22=true)(y:L 25=true):JC t b W mv2 (up L 26) u8 u16 u18 u20 u8 u26 u27 w:=by
 have g:=nf J.m29 i;have e:∀k d f,W.heap.size<=k->w.heap[k]?=some (Qe d f)->w.heap[k]?=some (Qe d f):=fun k d f _ h=>h
 have B:∀(m:Nat) (a:Array MapEntry) (c:Nat),w.heap[m]?=some (Obj.map a c)->w.heap[m]?=some (Obj.map a c):=fun m a c h=>h
 exact⟨J.hb,J.mod.trans (Mod.refl b w),by have:=J.rd;rw[g]at this;rw[QK L Qb,g];exact this,ui J.cm4,ui J.cm7,ui J.cm10,ui J.cm13,ui J.cm16,ui J.cm19,ui J.cm22,ui J.cm25,ui J.cv13,ui J.cv16,ui J.cv19,fun h=>(J.a12 (ud h)).keep e,fun h=>(J.a15 (ud h)).keep e,fun h=>(J.a18 (ud h)).keep e,fun h=>by obtain⟨m,a,c,l,n,o,p⟩:=J.mp (ud h);exact⟨m,a,c,l,n,B m _ _ o,p.congr (fun x=>(Gn 26 Qb x).symm)⟩,fun _=>⟨rfl,QD j,QD z,QD A,QD q,QD r,QD s,QD u,QD v,QD y⟩,fun h=>J.m27 (ud h),fun h=>J.m28 (ud h),ui J.m29⟩
theorem JC.s27(J:JC t b W mv2 L u8 u16 u18 u20 u25 u26 u27 w)(o:L 27=false):JC t b W mv2 (up L 27) u8 u16 u18 u20 u25 (Qc b) u27 w:=by
 have e:∀k d f,W.heap.size<=k->w.heap[k]?=some (Qe d f)->w.heap[k]?=some (Qe d f):=fun k d f _ h=>h
 have n:∀(m:Nat) (a:Array MapEntry) (c:Nat),w.heap[m]?=some (Obj.map a c)->w.heap[m]?=some (Obj.map a c):=fun m a c h=>h
 exact⟨J.hb,J.mod.trans (Mod.refl b w),by rw[QK L Qb];exact J.rd,ui J.cm4,ui J.cm7,ui J.cm10,ui J.cm13,ui J.cm16,ui J.cm19,ui J.cm22,ui J.cm25,ui J.cv13,ui J.cv16,ui J.cv19,fun h=>(J.a12 (ud h)).keep e,fun h=>(J.a15 (ud h)).keep e,fun h=>(J.a18 (ud h)).keep e,fun h=>by obtain⟨m,a,c,g,i,j,l⟩:=J.mp (ud h);exact⟨m,a,c,g,i,n m _ _ j,l.congr (fun x=>(Gn 27 Qb x).symm)⟩,fun h=>J.m26u (ud h),fun _=>rfl,fun h=>J.m28 (ud h),ui J.m29⟩
theorem JC.s28(J:JC t b W mv2 L u8 u16 u18 u20 u25 u26 u27 w)(o:L 28=false):JC t b W mv2 (up L 28) u8 u16 u18 u20 u25 u26 (.pointer (some ⟨b,8,none⟩)) w:=by
 have e:∀k d f,W.heap.size<=k->w.heap[k]?=some (Qe d f)->w.heap[k]?=some (Qe d f):=fun k d f _ h=>h
 have n:∀(m:Nat) (a:Array MapEntry) (c:Nat),w.heap[m]?=some (Obj.map a c)->w.heap[m]?=some (Obj.map a c):=fun m a c h=>h
 exact⟨J.hb,J.mod.trans (Mod.refl b w),by rw[QK L Qb];exact J.rd,ui J.cm4,ui J.cm7,ui J.cm10,ui J.cm13,ui J.cm16,ui J.cm19,ui J.cm22,ui J.cm25,ui J.cv13,ui J.cv16,ui J.cv19,fun h=>(J.a12 (ud h)).keep e,fun h=>(J.a15 (ud h)).keep e,fun h=>(J.a18 (ud h)).keep e,fun h=>by obtain⟨m,a,c,g,i,j,l⟩:=J.mp (ud h);exact⟨m,a,c,g,i,n m _ _ j,l.congr (fun x=>(Gn 28 Qb x).symm)⟩,fun h=>J.m26u (ud h),fun h=>J.m27 (ud h),fun _=>rfl,ui J.m29⟩
theorem JC.s29(J:JC t b W mv2 L u8 u16 u18 u20 u25 u26 u27 w)(r:L 29=false)(i:L 26=true):JC t b W mv2 (up L 29) u8 u16 u18 u20 u25 u26 u27 (w.setCell ⟨b,8,none⟩ u25):=by
 have s:=J.hb;have d:∀k f g,W.heap.size<=k->w.heap[k]?=some (Qe f g)->(w.setCell ⟨b,8,none⟩ u25).heap[k]?=some (Qe f g):=fun k f g d h=>by rw[Q' (show k≠b by omega)];exact h
 have p:∀(m:Nat) (a:Array MapEntry) (c:Nat),w.heap[m]?=some (Obj.map a c)->(w.setCell ⟨b,8,none⟩ u25).heap[m]?=some (Obj.map a c):=fun m a c h=>by
  have q:=J.rd;rw[Q' (show m≠b from fun e=>by rw[e,q]at h;cases h)];exact h
 exact⟨J.hb,J.mod.setCell 8 u25,by rw[Yi];exact QM J.rd,ui J.cm4,ui J.cm7,ui J.cm10,ui J.cm13,ui J.cm16,ui J.cm19,ui J.cm22,ui J.cm25,ui J.cv13,ui J.cv16,ui J.cv19,fun h=>(J.a12 (ud h)).keep d,fun h=>(J.a15 (ud h)).keep d,fun h=>(J.a18 (ud h)).keep d,fun h=>by obtain⟨m,a,c,j,l,n,o⟩:=J.mp (ud h);exact⟨m,a,c,j,l,p m _ _ n,o.congr (fun x=>(Gn 29 Qb x).symm)⟩,fun h=>J.m26u (ud h),fun h=>J.m27 (ud h),fun h=>J.m28 (ud h),fun _=>QD i⟩
theorem Vt:type_of%@Go.Proofs.Tryz.underlying207:=@Go.Proofs.Tryz.underlying207
theorem JC.done(J:JC t b W mv2 L u8 u16 u18 u20 u25 u26 u27 w)(a:∀i,i<30->L i=true):∃m p1 k1 p2 k2 p3 k3,w.heap[b]?=some (JX t (.map (some m)) mv2)/\KZ w b m p1 k1 p2 k2 p3 k3/\Mod b W w/\W.heap.size<=m:=by
 obtain⟨m,es,c,k,l,d,h6⟩:=J.mp (a 1 Qb);obtain⟨p1,k1,f,B,y,r,o⟩:=J.a12 (a 12 Qb);obtain⟨p2,k2,g,C,z,s,p⟩:=J.a15 (a 15 Qb);obtain⟨p3,k3,j,D,A,u,q⟩:=J.a18 (a 18 Qb);have v:=J.hb;have e:=J.rd;rw[a 29 Qb,Qi rfl,(J.m26 (a 26 Qb)).1,k]at e
 have hf:YO es (cmdFn b p1 k1 p2 k2 p3 k3):=h6.congr (fun x=>by
  subst f g j;unfold fC cmdFn;simp only[a 4 Qb,a 7 Qb,a 10 Qb,a 13 Qb,a 16 Qb,a 19 Qb,a 22 Qb,a 25 Qb,if_true]
  all_goals (
   generalize wL cNs x=i
   match i with
   |0|1|2|3|4|5|6|7|8=>rfl
   | n+9=>rfl))
 exact⟨m,p1,k1,p2,k2,p3,k3,e,⟨I9 (K:=9) (E:=211) Vt Z2 Pt d hf,⟨Qj r 0,I⟩,Qj o 0,⟨Qj s 0,I⟩,Qj p 0,⟨Qj u 0,I⟩,Qj q 0,I,I,I,I,QI d⟩,J.mod,l⟩
end
theorem N':type_of%@Array.getElem?_eq_some_iff:=@Array.getElem?_eq_some_iff
theorem BC{P:Program}{g:Region.Mode}{c:Array Oper}{Q:Exit->Act->World->Prop}{S:World->Prop}(J:Array Bool->Act->World->Prop)
 (p:∀l a w,J l a w->l.size=c.size) (q:∀l a w,J l a w->S w)
 (t:∀l a w i,J l a w->i∈Region.ready g c l->wpOp P c Q i (fun a' w'=>J (l.setIfInBounds i true) a' w') a w)
 (k:∀l a w,J l a w->Region.ready g c l=[]->Q .normal a w) :
 ∀(fuel:Nat) (l:Array Bool) (a:Act) (w:World),l.toList.count false<=fuel->J l a w->wpAnyH P g c Q S fuel l a w
 |0,l,a,w,hf,hJ=>by
  have s:Region.ready g c l=[]:=by
   rw[List.eq_nil_iff_forall_not_mem];intro i f;obtain⟨j,o,n,_⟩:=mem_ready.1 f;have d:i<l.size:=by rw[p l a w hJ];exact(N'.1 n).1
   have:l[i]=false:=by simpa[d]using j
   have m:false∈l.toList:=by rw[<-this];simp
   have:=List.count_pos_iff.2 m;omega
  exact⟨s,k l a w hJ s⟩
 |fuel+1,l,a,w,hf,hJ=>by
  refine⟨k l a w hJ,fun i f=>wpOp_mono (fun a' w' h=>⟨q _ _ _ h,?_⟩) (t l a w i hJ f)⟩;refine BC J p q t k fuel _ a' w' ?_ h;obtain⟨j,o,n,_⟩:=mem_ready.1 f;have d:i<l.size:=by rw[p l a w hJ];exact(N'.1 n).1
  have v:l[i]=false:=by simpa[d]using j
  have e:(l.setIfInBounds i true).toList=l.toList.set i true:=Qh
  rw[e];have r:=List.count_set (a:=true) (b:=false) (l:=l.toList) (i:=i) (h:=by simpa using d);have u:l.toList[i]'(by simpa using d)=false:=by simpa using v
  rw[u]at r;simp only[beq_self_eq_true,if_true,show((true:Bool)==false)=false from rfl,J2,if_false]at r;have m:false∈l.toList:=by rw[<-u];simp
  have:=List.count_pos_iff.2 m;omega
theorem CD{g:Region.Mode}{a:Array Oper}{l:Array Bool}(p:l.size=a.size)(m:((List.range a.size).all fun i=>(a[i]?).all fun o=>o.after.all fun e=>decide (e.on<i))=true)(n:Region.ready g a l=[]):∀i,i<a.size->l.getD i false=true:=by
 intro i
 induction i using Nat.strongRecOn with
 |_ i ih=>
  intro c;apply GE;intro f
  have d:i∈Region.ready g a l:=by
   refine mem_ready.2 ⟨?_,a[i],by simp[c],fun e he _=>?_⟩
   .have:i<l.size:=I
    simp[this]at f ⊢;exact f
   .have b:=List.all_eq_true.1 m i (List.mem_range.2 c);rw[Array.getElem?_eq_getElem c]at b;simp only[Option.all_some]at b;have j:=Array.all_eq_true_iff_forall_mem.1 b e he;have k:=K5 j;exact ih e.on k I
  rw[n]at d;cases d
theorem Zp{P:Program}{b:Array Oper}{Q:Exit->Act->World->Prop}{o:Oper}{K:Act->World->Prop}{a:Act}(c:b[i]?=some o)(hw:Region.wanted o (yielded b a.tmps)=true)(h:o.wp P a w K Q):wpOp P b Q i K a w:=by
 unfold wpOp;rw[c];dsimp only;rw[Qi hw];exact Qt h
def AL(w:World)(B:Nat)(h:Bool)(v:Value):Prop:=
 ∃p,v=QA 185 #[] #[Qc p]/\B<=p/\w.heap[p]?=some (Qe #[.bool h] 4)
theorem AL.keep{h:Bool}(c:AL w B h v)(d:∀k cs ty,B<=k->w.heap[k]?=some (Qe cs ty)->w'.heap[k]?=some (Qe cs ty)):AL w' B h v:=by
 obtain⟨p,e,a,b⟩:=c;exact⟨p,e,a,d p _ _ a b⟩
def fT(b:Nat)(L:Nat->Bool)(u30 u31:Value)(x:L8):Option Value:=
 match wL tNs x with
 |1=>if L 3 then some (u30)else none
 |2=>if L 5 then some (u31)else none
 |3=>if L 8 then some (QA 128 #[Qc b] #[])else none
 |4=>if L 10 then some (QA 129 #[] #[(Qc (b+1))])else none
 |5=>if L 12 then some (QA 131 #[] #[(Qc (b+1))])else none
 |6=>if L 14 then some (QA 132 #[] #[(Qc (b+1))])else none
 |7=>if L 16 then some (QA 135 #[] #[(Qc (b+1))])else none
 |8=>if L 18 then some (QA 138 #[] #[(Qc (b+1))])else none
 |9=>if L 21 then some (QA 139 #[Qc b] #[])else none
 |10=>if L 24 then some (QA 140 #[Qc b] #[])else none
 |_=>none
structure JT (t:ByteArray) (b:Nat) (W:World) (mv1:Value) (L:Nat->Bool) (u29 u30 u31 u43 u44 u45:Value) (w:World):Prop where
 hb:b < W.heap.size
 mod:Mod b W w
 rd:w.heap[b]?=some (JX t mv1 (if L 28 then u43 else Value.map none))
 cm3:L 3=true->L 1=true
 cm5:L 5=true->L 1=true
 cm8:L 8=true->L 1=true
 cm10:L 10=true->L 1=true
 cm12:L 12=true->L 1=true
 cm14:L 14=true->L 1=true
 cm16:L 16=true->L 1=true
 cm18:L 18=true->L 1=true
 cm21:L 21=true->L 1=true
 cm24:L 24=true->L 1=true
 cv3:L 3=true->L 2=true
 cv5:L 5=true->L 4=true
 a2:L 2=true->AL w W.heap.size true u30
 a4:L 4=true->AL w W.heap.size false u31
 mp:L 1=true->∃m es c,u29=.map (some m)∧W.heap.size<=m∧w.heap[m]?=some (.map es c)∧YO es (fT b L u30 u31)
 m25:L 25=true->u43=u29∧L 1=true∧L 3=true∧L 5=true∧L 8=true∧L 10=true∧L 12=true∧L 14=true∧L 16=true∧L 18=true∧L 21=true∧L 24=true
 m26:L 26=true->u44=(Qc b)
 m27:L 27=true->u45=.pointer (some ⟨b,9,none⟩)
 m28:L 28=true->L 25=true
section
variable {t:ByteArray} {b:Nat} {W:World} {mv1:Value} {L:Nat->Bool} {u29 u30 u31 u43 u44 u45:Value} {w:World}
theorem Nk(i:Nat)(h:i≠3/\i≠5/\i≠8/\i≠10/\i≠12/\i≠14/\i≠16/\i≠18/\i≠21/\i≠24)(x:L8):fT b (up L i) u30 u31 x=fT b L u30 u31 x:=by
 obtain⟨a,c,d,e,f,g,j,k,l,m⟩:=h;unfold fT;simp only[QK L (Ne.symm a),QK L (Ne.symm c),QK L (Ne.symm d),QK L (Ne.symm e),QK L (Ne.symm f),QK L (Ne.symm g),QK L (Ne.symm j),QK L (Ne.symm k),QK L (Ne.symm l),QK L (Ne.symm m)]
theorem JT.m25u(J:JT t b W mv1 L u29 u30 u31 u43 u44 u45 w)(h:L 25=true):u43=u29/\up L i 1=true/\up L i 3=true/\up L i 5=true/\up L i 8=true/\up L i 10=true/\up L i 12=true/\up L i 14=true/\up L i 16=true/\up L i 18=true/\up L i 21=true/\up L i 24=true:=by
 obtain⟨a,f,g,j,k,l,m,n,o,c,d,e⟩:=J.m25 h;exact⟨a,QD f,QD g,QD j,QD k,QD l,QD m,QD n,QD o,QD c,QD d,QD e⟩
theorem JT.s1(J:JT t b W mv1 L u29 u30 u31 u43 u44 u45 w)(a:L 1=false):JT t b W mv1 (up L 1) (.map (some w.heap.size)) u30 u31 u43 u44 u45 (w.alloc (Obj.map #[] 0)):=by
 have e:∀k c d,W.heap.size<=k->w.heap[k]?=some (Qe c d)->(w.alloc (Obj.map #[] 0)).heap[k]?=some (Qe c d):=fun k c d _ h=>QJ h
 have f:(w.alloc (Obj.map #[] 0)).heap[b]?=some (JX t mv1 (if L 28 then u43 else Value.map none)):=QJ J.rd;have p:L 3=false:=nf J.cm3 a;have q:L 5=false:=nf J.cm5 a;have r:L 8=false:=nf J.cm8 a;have g:L 10=false:=nf J.cm10 a;have i:L 12=false:=nf J.cm12 a;have j:L 14=false:=nf J.cm14 a;have l:L 16=false:=nf J.cm16 a;have m:L 18=false:=nf J.cm18 a;have n:L 21=false:=nf J.cm21 a;have o:L 24=false:=nf J.cm24 a;exact⟨J.hb,J.mod.trans ((Mod.refl b w).alloc _),by rw[QK L Qb];exact f,ui J.cm3,ui J.cm5,ui J.cm8,ui J.cm10,ui J.cm12,ui J.cm14,ui J.cm16,ui J.cm18,ui J.cm21,ui J.cm24,ui J.cv3,ui J.cv5,fun h=>(J.a2 (ud h)).keep e,fun h=>(J.a4 (ud h)).keep e,fun _=>⟨w.heap.size,#[],0,rfl,J.mod.size,Q0,YO.empty.congr (fun x=>by rw[Nk 1 Qb];unfold fT;simp only[p,q,r,g,i,j,l,m,n,o];split<;>rfl)⟩,fun h=>absurd (J.m25 (ud h)).2.1 (by rw[a];decide),fun h=>J.m26 (ud h),fun h=>J.m27 (ud h),ui J.m28⟩
theorem JT.s2(J:JT t b W mv1 L u29 u30 u31 u43 u44 u45 w)(f:L 2=false):JT t b W mv1 (up L 2) u29 (QA 185 #[] #[Qc w.heap.size]) u31 u43 u44 u45 (w.alloc (Qe #[.bool true] 4)):=by
 have n:∀k d e,W.heap.size<=k->w.heap[k]?=some (Qe d e)->(w.alloc (Qe #[.bool true] 4)).heap[k]?=some (Qe d e):=fun k d e _ h=>QJ h
 have p:∀(m:Nat) (a:Array MapEntry) (c:Nat),w.heap[m]?=some (Obj.map a c)->(w.alloc (Qe #[.bool true] 4)).heap[m]?=some (Obj.map a c):=fun m a c h=>QJ h
 have o:(w.alloc (Qe #[.bool true] 4)).heap[b]?=some (JX t mv1 (if L 28 then u43 else Value.map none)):=QJ J.rd;have q:L 3=false:=nf J.cv3 f;have r:=J.mod.size;exact⟨J.hb,J.mod.trans ((Mod.refl b w).alloc _),by rw[QK L Qb];exact o,ui J.cm3,ui J.cm5,ui J.cm8,ui J.cm10,ui J.cm12,ui J.cm14,ui J.cm16,ui J.cm18,ui J.cm21,ui J.cm24,ui J.cv3,ui J.cv5,fun _=>⟨w.heap.size,rfl,r,Q0⟩,fun h=>(J.a4 (ud h)).keep n,fun h=>by obtain⟨m,a,c,g,i,j,l⟩:=J.mp (ud h);exact⟨m,a,c,g,i,p m _ _ j,l.congr (fun x=>by rw[Nk 2 Qb];unfold fT;simp only[q,J2,if_false])⟩,fun h=>J.m25u (ud h),fun h=>J.m26 (ud h),fun h=>J.m27 (ud h),ui J.m28⟩
theorem JT.s4(J:JT t b W mv1 L u29 u30 u31 u43 u44 u45 w)(f:L 4=false):JT t b W mv1 (up L 4) u29 u30 (QA 185 #[] #[Qc w.heap.size]) u43 u44 u45 (w.alloc (Qe #[.bool false] 4)):=by
 have n:∀k d e,W.heap.size<=k->w.heap[k]?=some (Qe d e)->(w.alloc (Qe #[.bool false] 4)).heap[k]?=some (Qe d e):=fun k d e _ h=>QJ h
 have p:∀(m:Nat) (a:Array MapEntry) (c:Nat),w.heap[m]?=some (Obj.map a c)->(w.alloc (Qe #[.bool false] 4)).heap[m]?=some (Obj.map a c):=fun m a c h=>QJ h
 have o:(w.alloc (Qe #[.bool false] 4)).heap[b]?=some (JX t mv1 (if L 28 then u43 else Value.map none)):=QJ J.rd;have q:L 5=false:=nf J.cv5 f;have r:=J.mod.size;exact⟨J.hb,J.mod.trans ((Mod.refl b w).alloc _),by rw[QK L Qb];exact o,ui J.cm3,ui J.cm5,ui J.cm8,ui J.cm10,ui J.cm12,ui J.cm14,ui J.cm16,ui J.cm18,ui J.cm21,ui J.cm24,ui J.cv3,ui J.cv5,fun h=>(J.a2 (ud h)).keep n,fun _=>⟨w.heap.size,rfl,r,Q0⟩,fun h=>by obtain⟨m,a,c,g,i,j,l⟩:=J.mp (ud h);exact⟨m,a,c,g,i,p m _ _ j,l.congr (fun x=>by rw[Nk 4 Qb];unfold fT;simp only[q,J2,if_false])⟩,fun h=>J.m25u (ud h),fun h=>J.m26 (ud h),fun h=>J.m27 (ud h),ui J.m28⟩
def UR(t:ByteArray)(b:Nat)(W:World)(mv1:Value)(L:Nat->Bool)(u29 u30 u31 u43 u44 u45:Value)(w:World)(i:Nat)(nm:L8)(v:Value):Prop:=
 ∃m es c,u29=.map (some m)/\w.heap[m]?=some (.map es c)/\YO es (fT b L u30 u31)/\fT b L u30 u31 nm=none/\JT t b W mv1 (up L i) u29 u30 u31 u43 u44 u45 (Yu w m (.map (es.push ⟨.string (sA nm),v,c⟩) (c+1)))
theorem JT.ins(J:JT t b W mv1 L u29 u30 u31 u43 u44 u45 w){f:L8}(a:L 1=true)(s:fT b L u30 u31 f=none)(C:fT b (up L i) u30 u31 f=some v)(A:∀z,z≠f->fT b (up L i) u30 u31 z=fT b L u30 u31 z)(u:up L i 3=true->up L i 2=true)(x:up L i 5=true->up L i 4=true)(y:i ∉ [2,4,25,26,27,28]:=by decide):UR t b W mv1 L u29 u30 u31 u43 u44 u45 w i f v:=by
 obtain⟨m,o,c,p,q,l,r⟩:=J.mp a;have B:m≠b:=by have:=J.hb;omega
 have g:∀k j n,W.heap.size<=k->w.heap[k]?=some (Qe j n)->(Yu w m (.map (o.push ⟨.string (sA f),v,c⟩) (c+1))).heap[k]?=some (Qe j n):=fun k j n _ h=>by
  rw[Vu (fun e=>by rw[e,l]at h;cases h)];exact h
 have d:∀k,k∈[2,4,25,26,27,28]->k≠i:=fun k g e=>y (e ▸ g)
 refine⟨m,o,c,p,l,r,s,J.hb,Ij J.mod q,by rw[QK L (d 28 Qb),Vu (Ne.symm B)];exact J.rd,fun _=>QD a,fun _=>QD a,fun _=>QD a,fun _=>QD a,fun _=>QD a,fun _=>QD a,fun _=>QD a,fun _=>QD a,fun _=>QD a,fun _=>QD a,u,x,fun h=>(J.a2 (ud h (d _ Qb))).keep g,fun h=>(J.a4 (ud h (d _ Qb))).keep g,fun _=>⟨m,_,_,p,q,Ay l,r.push s C A⟩,fun h=>J.m25u (ud h (d _ Qb)),fun h=>J.m26 (ud h (d _ Qb)),fun h=>J.m27 (ud h (d _ Qb)),ui J.m28 (d _ Qb)⟩
theorem JT.s3(J:JT t b W mv1 L u29 u30 u31 u43 u44 u45 w)(a:L 3=false)(c:L 1=true)(d:L 2=true):UR t b W mv1 L u29 u30 u31 u43 u44 u45 w 3 Uj (u30):=by
 refine J.ins c ?_ ?_ (fun z g=>?_) (fun _=>QD d) (ui J.cv5)
 .unfold fT;rw[show wL tNs Uj=1 from Qb];simp only[a];rfl
 .unfold fT;rw[show wL tNs Uj=1 from Qb];simp only[Yi];rfl
 .have f:wL tNs z≠1:=fun e=>g (by have:=Z1 tNs z 0 e;simpa[tNs]using this.symm)
  unfold fT;split<;>first|(rename_i e;exact absurd e f)|simp only[QK L Qb]|rfl
theorem JT.s5(J:JT t b W mv1 L u29 u30 u31 u43 u44 u45 w)(a:L 5=false)(c:L 1=true)(d:L 4=true):UR t b W mv1 L u29 u30 u31 u43 u44 u45 w 5 Ud (u31):=by
 refine J.ins c ?_ ?_ (fun z g=>?_) (ui J.cv3) (fun _=>QD d)
 .unfold fT;rw[show wL tNs Ud=2 from Qb];simp only[a];rfl
 .unfold fT;rw[show wL tNs Ud=2 from Qb];simp only[Yi];rfl
 .have f:wL tNs z≠2:=fun e=>g (by have:=Z1 tNs z 1 e;simpa[tNs]using this.symm)
  unfold fT;split<;>first|(rename_i e;exact absurd e f)|simp only[QK L Qb]|rfl
theorem JT.s8(J:JT t b W mv1 L u29 u30 u31 u43 u44 u45 w)(a:L 8=false)(c:L 1=true):UR t b W mv1 L u29 u30 u31 u43 u44 u45 w 8 kNot (QA 128 #[Qc b] #[]):=by
 refine J.ins c ?_ ?_ (fun z f=>?_) (ui J.cv3) (ui J.cv5)
 .unfold fT;rw[show wL tNs kNot=3 from Qb];simp only[a];rfl
 .unfold fT;rw[show wL tNs kNot=3 from Qb];simp only[Yi];rfl
 .have d:wL tNs z≠3:=fun e=>f (by have:=Z1 tNs z 2 e;simpa[tNs]using this.symm)
  unfold fT;split<;>first|(rename_i e;exact absurd e d)|simp only[QK L Qb]|rfl
theorem JT.s10(J:JT t b W mv1 L u29 u30 u31 u43 u44 u45 w)(a:L 10=false)(c:L 1=true):UR t b W mv1 L u29 u30 u31 u43 u44 u45 w 10 JV (QA 129 #[] #[(Qc (b+1))]):=by
 refine J.ins c ?_ ?_ (fun z f=>?_) (ui J.cv3) (ui J.cv5)
 .unfold fT;rw[show wL tNs JV=4 from Qb];simp only[a];rfl
 .unfold fT;rw[show wL tNs JV=4 from Qb];simp only[Yi];rfl
 .have d:wL tNs z≠4:=fun e=>f (by have:=Z1 tNs z 3 e;simpa[tNs]using this.symm)
  unfold fT;split<;>first|(rename_i e;exact absurd e d)|simp only[QK L Qb]|rfl
theorem JT.s12(J:JT t b W mv1 L u29 u30 u31 u43 u44 u45 w)(a:L 12=false)(c:L 1=true):UR t b W mv1 L u29 u30 u31 u43 u44 u45 w 12 JU (QA 131 #[] #[(Qc (b+1))]):=by
 refine J.ins c ?_ ?_ (fun z f=>?_) (ui J.cv3) (ui J.cv5)
 .unfold fT;rw[show wL tNs JU=5 from Qb];simp only[a];rfl
 .unfold fT;rw[show wL tNs JU=5 from Qb];simp only[Yi];rfl
 .have d:wL tNs z≠5:=fun e=>f (by have:=Z1 tNs z 4 e;simpa[tNs]using this.symm)
  unfold fT;split<;>first|(rename_i e;exact absurd e d)|simp only[QK L Qb]|rfl
theorem JT.s14(J:JT t b W mv1 L u29 u30 u31 u43 u44 u45 w)(a:L 14=false)(c:L 1=true):UR t b W mv1 L u29 u30 u31 u43 u44 u45 w 14 Y_ (QA 132 #[] #[(Qc (b+1))]):=by
 refine J.ins c ?_ ?_ (fun z f=>?_) (ui J.cv3) (ui J.cv5)
 .unfold fT;rw[show wL tNs Y_=6 from Qb];simp only[a];rfl
 .unfold fT;rw[show wL tNs Y_=6 from Qb];simp only[Yi];rfl
 .have d:wL tNs z≠6:=fun e=>f (by have:=Z1 tNs z 5 e;simpa[tNs]using this.symm)
  unfold fT;split<;>first|(rename_i e;exact absurd e d)|simp only[QK L Qb]|rfl
theorem JT.s16(J:JT t b W mv1 L u29 u30 u31 u43 u44 u45 w)(a:L 16=false)(c:L 1=true):UR t b W mv1 L u29 u30 u31 u43 u44 u45 w 16 Zb (QA 135 #[] #[(Qc (b+1))]):=by
 refine J.ins c ?_ ?_ (fun z f=>?_) (ui J.cv3) (ui J.cv5)
 .unfold fT;rw[show wL tNs Zb=7 from Qb];simp only[a];rfl
 .unfold fT;rw[show wL tNs Zb=7 from Qb];simp only[Yi];rfl
 .have d:wL tNs z≠7:=fun e=>f (by have:=Z1 tNs z 6 e;simpa[tNs]using this.symm)
  unfold fT;split<;>first|(rename_i e;exact absurd e d)|simp only[QK L Qb]|rfl
theorem JT.s18(J:JT t b W mv1 L u29 u30 u31 u43 u44 u45 w)(a:L 18=false)(c:L 1=true):UR t b W mv1 L u29 u30 u31 u43 u44 u45 w 18 Xc (QA 138 #[] #[(Qc (b+1))]):=by
 refine J.ins c ?_ ?_ (fun z f=>?_) (ui J.cv3) (ui J.cv5)
 .unfold fT;rw[show wL tNs Xc=8 from Qb];simp only[a];rfl
 .unfold fT;rw[show wL tNs Xc=8 from Qb];simp only[Yi];rfl
 .have d:wL tNs z≠8:=fun e=>f (by have:=Z1 tNs z 7 e;simpa[tNs]using this.symm)
  unfold fT;split<;>first|(rename_i e;exact absurd e d)|simp only[QK L Qb]|rfl
theorem JT.s21(J:JT t b W mv1 L u29 u30 u31 u43 u44 u45 w)(a:L 21=false)(c:L 1=true):UR t b W mv1 L u29 u30 u31 u43 u44 u45 w 21 YL (QA 139 #[Qc b] #[]):=by
 refine J.ins c ?_ ?_ (fun z f=>?_) (ui J.cv3) (ui J.cv5)
 .unfold fT;rw[show wL tNs YL=9 from Qb];simp only[a];rfl
 .unfold fT;rw[show wL tNs YL=9 from Qb];simp only[Yi];rfl
 .have d:wL tNs z≠9:=fun e=>f (by have:=Z1 tNs z 8 e;simpa[tNs]using this.symm)
  unfold fT;split<;>first|(rename_i e;exact absurd e d)|simp only[QK L Qb]|rfl
theorem JT.s24(J:JT t b W mv1 L u29 u30 u31 u43 u44 u45 w)(a:L 24=false)(c:L 1=true):UR t b W mv1 L u29 u30 u31 u43 u44 u45 w 24 JK (QA 140 #[Qc b] #[]):=by
 refine J.ins c ?_ ?_ (fun z f=>?_) (ui J.cv3) (ui J.cv5)
 .unfold fT;rw[show wL tNs JK=10 from Qb];simp only[a];rfl
 .unfold fT;rw[show wL tNs JK=10 from Qb];simp only[Yi];rfl
 .have d:wL tNs z≠10:=fun e=>f (by have:=Z1 tNs z 9 e;simpa[tNs]using this.symm)
  unfold fT;split<;>first|(rename_i e;exact absurd e d)|simp only[QK L Qb]|rfl
theorem JT.s25(J:JT t b W mv1 L u29 u30 u31 u43 u44 u45 w)(i:L 25=false)(j:L 1=true)(A:L 3=true)(B:L 5=true)(C:L 8=true)(q:L 10=true)(r:L 12=true)(s:L 14=true)(u:L 16=true)(v:L 18=true)(y:L 21=true)(z:L 24=true):JT t b W mv1 (up L 25) u29 u30 u31 u29 u44 u45 w:=by
 have g:=nf J.m28 i;have f:∀k d e,W.heap.size<=k->w.heap[k]?=some (Qe d e)->w.heap[k]?=some (Qe d e):=fun k d e _ h=>h
 have D:∀(m:Nat) (a:Array MapEntry) (c:Nat),w.heap[m]?=some (Obj.map a c)->w.heap[m]?=some (Obj.map a c):=fun m a c h=>h
 exact⟨J.hb,J.mod,by have:=J.rd;rw[g]at this;rw[QK L Qb,g];exact this,ui J.cm3,ui J.cm5,ui J.cm8,ui J.cm10,ui J.cm12,ui J.cm14,ui J.cm16,ui J.cm18,ui J.cm21,ui J.cm24,ui J.cv3,ui J.cv5,fun h=>(J.a2 (ud h)).keep f,fun h=>(J.a4 (ud h)).keep f,fun h=>by obtain⟨m,a,c,l,n,o,p⟩:=J.mp (ud h);exact⟨m,a,c,l,n,D m _ _ o,p.congr (fun x=>(Nk 25 Qb x).symm)⟩,fun _=>⟨rfl,QD j,QD A,QD B,QD C,QD q,QD r,QD s,QD u,QD v,QD y,QD z⟩,fun h=>J.m26 (ud h),fun h=>J.m27 (ud h),ui J.m28⟩
theorem JT.s26(J:JT t b W mv1 L u29 u30 u31 u43 u44 u45 w)(o:L 26=false):JT t b W mv1 (up L 26) u29 u30 u31 u43 (Qc b) u45 w:=by
 have f:∀k d e,W.heap.size<=k->w.heap[k]?=some (Qe d e)->w.heap[k]?=some (Qe d e):=fun k d e _ h=>h
 have n:∀(m:Nat) (a:Array MapEntry) (c:Nat),w.heap[m]?=some (Obj.map a c)->w.heap[m]?=some (Obj.map a c):=fun m a c h=>h
 exact⟨J.hb,J.mod,by rw[QK L Qb];exact J.rd,ui J.cm3,ui J.cm5,ui J.cm8,ui J.cm10,ui J.cm12,ui J.cm14,ui J.cm16,ui J.cm18,ui J.cm21,ui J.cm24,ui J.cv3,ui J.cv5,fun h=>(J.a2 (ud h)).keep f,fun h=>(J.a4 (ud h)).keep f,fun h=>by obtain⟨m,a,c,g,i,j,l⟩:=J.mp (ud h);exact⟨m,a,c,g,i,n m _ _ j,l.congr (fun x=>(Nk 26 Qb x).symm)⟩,fun h=>J.m25u (ud h),fun _=>rfl,fun h=>J.m27 (ud h),ui J.m28⟩
theorem JT.s27(J:JT t b W mv1 L u29 u30 u31 u43 u44 u45 w)(o:L 27=false):JT t b W mv1 (up L 27) u29 u30 u31 u43 u44 (.pointer (some ⟨b,9,none⟩)) w:=by
 have f:∀k d e,W.heap.size<=k->w.heap[k]?=some (Qe d e)->w.heap[k]?=some (Qe d e):=fun k d e _ h=>h
 have n:∀(m:Nat) (a:Array MapEntry) (c:Nat),w.heap[m]?=some (Obj.map a c)->w.heap[m]?=some (Obj.map a c):=fun m a c h=>h
 exact⟨J.hb,J.mod,by rw[QK L Qb];exact J.rd,ui J.cm3,ui J.cm5,ui J.cm8,ui J.cm10,ui J.cm12,ui J.cm14,ui J.cm16,ui J.cm18,ui J.cm21,ui J.cm24,ui J.cv3,ui J.cv5,fun h=>(J.a2 (ud h)).keep f,fun h=>(J.a4 (ud h)).keep f,fun h=>by obtain⟨m,a,c,g,i,j,l⟩:=J.mp (ud h);exact⟨m,a,c,g,i,n m _ _ j,l.congr (fun x=>(Nk 27 Qb x).symm)⟩,fun h=>J.m25u (ud h),fun h=>J.m26 (ud h),fun _=>rfl,ui J.m28⟩
theorem JT.s28(J:JT t b W mv1 L u29 u30 u31 u43 u44 u45 w)(r:L 28=false)(i:L 25=true):JT t b W mv1 (up L 28) u29 u30 u31 u43 u44 u45 (w.setCell ⟨b,9,none⟩ u43):=by
 have s:=J.hb;have f:∀k d g,W.heap.size<=k->w.heap[k]?=some (Qe d g)->(w.setCell ⟨b,9,none⟩ u43).heap[k]?=some (Qe d g):=fun k d g f h=>by rw[Q' (show k≠b by omega)];exact h
 have p:∀(m:Nat) (a:Array MapEntry) (c:Nat),w.heap[m]?=some (Obj.map a c)->(w.setCell ⟨b,9,none⟩ u43).heap[m]?=some (Obj.map a c):=fun m a c h=>by
  have q:=J.rd;rw[Q' (show m≠b from fun e=>by rw[e,q]at h;cases h)];exact h
 exact⟨J.hb,J.mod.setCell 9 u43,by rw[Yi];exact QM J.rd,ui J.cm3,ui J.cm5,ui J.cm8,ui J.cm10,ui J.cm12,ui J.cm14,ui J.cm16,ui J.cm18,ui J.cm21,ui J.cm24,ui J.cv3,ui J.cv5,fun h=>(J.a2 (ud h)).keep f,fun h=>(J.a4 (ud h)).keep f,fun h=>by obtain⟨m,a,c,j,l,n,o⟩:=J.mp (ud h);exact⟨m,a,c,j,l,p m _ _ n,o.congr (fun x=>(Nk 28 Qb x).symm)⟩,fun h=>J.m25u (ud h),fun h=>J.m26 (ud h),fun h=>J.m27 (ud h),fun _=>QD i⟩
theorem Uz:type_of%@Go.Proofs.Tryz.underlying208:=@Go.Proofs.Tryz.underlying208
theorem JT.done(J:JT t b W mv1 L u29 u30 u31 u43 u44 u45 w)(a:∀i,i<29->L i=true)(p:JP W (b+1) b):∃m pt pf,w.heap[b]?=some (JX t mv1 (.map (some m)))/\Kd w b m (b+1) pt pf/\Mod b W w/\W.heap.size<=m:=by
 obtain⟨m,es,c,j,k,d,h6⟩:=J.mp (a 1 Qb);obtain⟨pt,f,r,l⟩:=J.a2 (a 2 Qb);obtain⟨pf,g,s,o⟩:=J.a4 (a 4 Qb);have q:=J.hb;have e:=J.rd;rw[a 28 Qb,Qi rfl,(J.m25 (a 25 Qb)).1,j]at e
 have hf:YO es (testFn b (b+1) pt pf):=h6.congr (fun x=>by
  subst f g;unfold fT testFn;simp only[a 3 Qb,a 5 Qb,a 8 Qb,a 10 Qb,a 12 Qb,a 14 Qb,a 16 Qb,a 18 Qb,a 21 Qb,a 24 Qb,if_true];generalize wL tNs x=i
  match i with
  |0|1|2|3|4|5|6|7|8|9|10=>rfl
  | n+11=>rfl)
 exact⟨m,pt,pf,e,⟨I9 (K:=9) (E:=213) Uz Z2 QzX d hf,p.mod J.mod,Qj l 0,Qj o 0,I,I,I,QI d⟩,J.mod,k⟩
end
end Go.Proofs.YtgnkjijocdmniaaGreatDoor
