import Derived.Test.YtgnkjijocdmniaaGreatDoorVHoldsG
namespace Go.Proofs.YtgnkjijocdmniaaGreatDoor
set_option linter.all false
set_option maxRecDepth 100000
set_option maxHeartbeats 4000000
open Go.Proofs.Tryz
open Go.RowKit
variable{α:Type}{A d er i kind p pz:Int}{B b base c f g k n q sb size:Nat}{M:Msg}{X:Nat->Prop}{a en kp o u y:Bool}{e t:TypeId}{m:List (Int×L8)}{r:Int×List (Int×L8)}{s s':SS}{v v':Value}{w w':World}{x:L8}{xs:List Value}{z:StV}
structure LbT (x:Zk) (m:Nat):Prop where
 f:x.fr.length<=100000
 fs:∀t∈x.fr,t.length<=100000
 k:x.keys.length<=100000
 ks:∀t∈x.keys,t.length<=100000
 m:m<=100000
theorem Ik{x:Zn n}(h:RTest n X x w v):∃g,v=(Qc g):=by
 match n,x,h with
 |n+1,x,⟨g,_,_,_,h,_⟩=>exact⟨g,h⟩
theorem slY.getV{xs:Qn}(h:slY X xs w v)(d:xs≠[]):∃g c,v=Qs g xs.length c/\ZQ w g xs:=by
 rcases h with h | ⟨g,c,a,_,b,_⟩
 .exact absurd h.1 d
 .exact⟨g,c,a,b⟩
theorem Ig{req:Qn}(B:Nat)(M:Msg):∀(n:Nat) (x:Zn n) (w:World) (v:Value),RTest n (fun k=>k<B) x w v->JQ (WfT req) n x->JQ LbT n x->Gx B M w v (Ye M n x)
 |0,x,w,v,h,ha,_=>ha.elim
 |n+1,x,w,v,h,ha,hb=>by
  intro W o s z q y p t A hW E J;obtain⟨l,ak⟩:=ha;obtain⟨i,ai⟩:=hb;have h':=(XX (n+1)).keep _ _ _ _ _ h (fun k V _=>hW.block k V);obtain⟨g,C,D,K,rfl,hg,F,R,Z,V,ag⟩:=h'
  have ae:∀a∈x.2,∀u,RTest n (fun k=>k<B) a W u->∃d,u=(Qc d)/\Gx B M W (Qc d) (Ye M n a):=fun a ha u hu=>by
   obtain⟨d,rfl⟩:=Ik hu;exact⟨d,rfl,Ig B M n a W _ hu (ak a ha) (ai a ha)⟩
  have h9:=l.kind;have ah:x.1.kind=0\/x.1.kind=1\/x.1.kind=2\/x.1.kind=3\/x.1.kind=4\/x.1.kind=5\/x.1.kind=6\/x.1.kind=7\/x.1.kind=8\/x.1.kind=9:=I
  have ad:x.2≠[]->∃b c,C=Qs b x.2.length c/\b<B/\∀j (hj:j<x.2.length),∃d,W.cell? ⟨b,j,none⟩=some (Qc d)/\Gx B M W (Qc d) (Ye M n x.2[j]):=by
   intro aj;rcases R with R | ⟨_,b,c,P,U,L⟩
   .exact absurd R.1 aj
   .refine⟨b,c,P,U,fun j hj=>?_⟩;obtain⟨u,aa,ab⟩:=L j hj;obtain⟨d,rfl,ho⟩:=ae _ (ZT hj) u ab;exact⟨d,aa,ho⟩
  have G:∀r,evalTN M (Ye M n) x.1 x.2 s=r->Calls prog 85 #[Qc o,Qc g] W (HP B o M q y p t A W r)->Calls prog 85 #[Qc o,Qc g] W (HP B o M q y p t A W (Ye M (n+1) x s)):=fun r hr af=>by
   show Calls _ _ _ _ (HP B o M q y p t A W (evalTN M (Ye M n) x.1 x.2 s))
   rw[hr];exact af
  have H:=hg;rcases ah with e|e|e|e|e|e|e|e|e|e
  .exact G (true,s) (by unfold evalTN;rw[e];rfl) (Pm C D K E J H F (by rw[e];rfl))
  .exact G (false,s) (by unfold evalTN;rw[e];rfl) (Qxj C D K E J H F (by rw[e];rfl))
  .have h1:=l.one e
   obtain⟨a,ha⟩:∃a,x.2=[a]:=by
    match L:x.2,h1 with
    | [a],_=>exact⟨a,rfl⟩
   rcases R with R | ⟨_,b,c,P,_,L⟩
   .rw[ha]at R;exact absurd R.1 Qh
   .rw[ha]at P L;obtain⟨u,aa,ab⟩:=L 0 Qh;obtain⟨d,rfl,ho⟩:=ae a (by rw[ha];simp) u ab;exact G (!(Ye M n a s).1,(Ye M n a s).2) (by unfold evalTN;rw[e,ha];rfl) (PN D K E J H F (by rw[e];rfl) b d c P aa ho)
  .obtain⟨b,c,P,U,L⟩:=ad (Xz.1 (l.many (Qt e)));exact G (X3 (Ye M n) false x.2 s) (by unfold evalTN;rw[e];rfl) (QxJ D K E J H F (by rw[e];rfl) (Ye M n) P U L (by have:=i.m;omega))
  .obtain⟨b,c,P,U,L⟩:=ad (Xz.1 (l.many (Qr e)));exact G (X3 (Ye M n) true x.2 s) (by unfold evalTN;rw[e];rfl) (QxC D K E J H F (by rw[e];rfl) (Ye M n) P U L (by have:=i.m;omega))
  .obtain⟨b,Q,N,S⟩:=Z.getV (l.frm I I);obtain⟨d,T,X,Y⟩:=V.getV (l.keys I I);exact G (askL s x.1.tag x.1.octet (fieldsL M (x.1.fr.map (expL s))) x.1.keys) (by unfold evalTN;rw[e];rfl) (QwO C E J H F (by rw[e];rfl) N X S Y i.f i.k i.fs i.ks (by have:=l.tag I I;omega))
  .obtain⟨b,Q,N,S⟩:=Z.getV (l.frm I I);obtain⟨d,T,X,Y⟩:=V.getV (l.keys I I);exact G (askL s x.1.tag x.1.octet (envL M x.1.fr) x.1.keys) (by unfold evalTN;rw[e];rfl) (WK C E J H F (by rw[e];rfl) N X S Y i.f i.k i.fs i.ks (by have:=l.tag I I;omega))
  .obtain⟨b,Q,N,S⟩:=Z.getV (l.frm I I);obtain⟨d,T,X,Y⟩:=V.getV (l.keys I I);exact G (askL s x.1.tag x.1.octet (x.1.fr.map (expL s)) x.1.keys) (by unfold evalTN;rw[e];rfl) (QuQ C E J H F (by rw[e];rfl) N X S Y i.f i.k i.fs i.ks (by have:=l.tag I I;omega))
  .obtain⟨b,Q,N,S⟩:=Z.getV (l.frm I I);have ac:=ag e;rw[N]at ac;exact G (existsL M (x.1.fr.map (expL s)),s) (by unfold evalTN;rw[e];rfl) (Qv7 C K E J H F (by rw[e];rfl) N S ac i.f i.fs)
  .exact G (sizeB M x.1.tag x.1.num,s) (by unfold evalTN;rw[e];rfl) (O3 C D K E J H F (by rw[e];rfl) (by have:=l.size e;omega))
section
attribute [local go_sem ↓] Zt Zu
theorem Tryz.infoActionV:(prog.info? 52).map (fun i=>(i.zero,i.size,i.bytes))=some (some (.agg #[Qa 0,.string ⟨#[]⟩]),2,24):=Qm
theorem Ra(a b:Int×L8)(W:World):(binOp .eql 52 (.agg #[Qa a.1,Qf a.2]) (.agg #[Qa b.1,Qf b.2])).run prog W=.ok (.bool (decide (a=b))) W:=by
 have c:=U3 (a:=a.2) (b:=b.2);have d:prog.underlying 52=some (.struct (prog.fieldsOf 52)):=Qm
 have f:prog.stoodInHeld 52=false:=Qm
 have e:(prog.fieldsOf 52).toList=[⟨ "Kind",3,0,false, "", "",0⟩,⟨ "Arg",9,1,false, "", "",8⟩]:=Qm
 rw[run_eql_struct,run_equalIn_struct W _ _ _ _ d f,e];simp[Op.eqFields,go_sem,Result.andThen,c];obtain⟨x,y⟩:=a;obtain⟨z,u⟩:=b;by_cases h1:x=z<;>by_cases h2:y=u<;>simp[h1,h2]
theorem QxO(x:Int×L8):∀j u,[Value.int .i64 x.1,Qf x.2][j]?=some u->(w.alloc (Qe #[Qa x.1,Qf x.2] t)).cell? ((⟨w.heap.size,0,none⟩:Addr).add j)=some u:=by
 intro j u a
 match j,a with
 |0,a=>simp at a;subst a;simp[Addr.add]
 |1,a=>simp at a;subst a;simp[Addr.add]
theorem QyZ(x:Int×L8):∀u∈[Value.int .i64 x.1,Value.string (sA x.2)],u.oneCell'=true:=by
 intro u a;simp at a;rcases a with rfl|rfl<;>rfl
theorem VG(h:w.ownsRow base e size v n xs)(g:∀k,v.ownBlock=some k->w'.heap[k]?=w.heap[k]?):w'.ownsRow base e size v n xs:=by
 refine⟨h.1,?_⟩;rcases h.2 with f | ⟨a,c,d,b,i,j,r⟩
 .exact Qt f
 .exact Qr ⟨a,c,d,b,i,by rw[g a (by rw[b];rfl)];exact j,r⟩
theorem TxL.of{zs:Qn}(h:TxL w v zs)(e:∀k,v.ownBlock=some k->w'.heap[k]?=w.heap[k]?):TxL w' v zs:=by
 rcases h with h | ⟨g,c,b,d⟩
 .exact Qt h
 .exact Qr ⟨g,c,b,fun j f=>by rw[Xo (a:=⟨g,j,none⟩) (w:=w) (e g (by rw[b];rfl))];exact d j f⟩
theorem VA{i:Nat}{j:List Value}(h:w.ownsRow base e size v n xs)(d:w.ownsRow b t i v' g j)(he:e≠t):∀k,v.ownBlock=some k->v'.ownBlock≠some k:=fun k hk hk'=>by
 rcases d.2 with⟨a,_⟩ | ⟨c,l,m,a,_,f,_⟩
 .rw[a]at hk';cases hk'
 .have:c=k:=by rw[a]at hk';simpa[Value.ownBlock]using hk'
  subst this;exact XG h f he hk
theorem StI.modS{D r j:Bool}{x E m t:Int}(h:StI w B f M s z q D u x E)(d:Mod f w w')
 (A:SB w' f M.fr M.to M.size z.hv s'.vs z.nv z.vv z.cv z.av r j m t) (o:s'.vs=s.vs) (C:s'.vals=s.vals) (p:s'.told=s.told) (g:s'.met=s.met):StI w' B f M s' z q r j m t:=by
 have b:∀ {e:TypeId} {size:Nat} {v:Value} {n:Nat} {xs:List Value},w.ownsRow B e size v n xs->e≠104->w'.ownsRow B e size v n xs:=fun i he=>VG i fun k b=>d.block k (i.lt k b).2 (fun e=>XG i h.blk he (by rw[<-e];exact b))
 refine⟨h.hB,A,b h.n Qb,b h.v Qb,by rw[g];exact b h.a Qb,fun e=>?_,fun e=>h.c0 (by rw[<-o];exact e),h.cap,fun k b=>UH (h.capt k b) (d.block k (h.capl k b) (h.cap k b).2.2.2),h.nvv,h.l,h.nl,fun y=>by rw[C];exact h.vals y,h.h.below (d.below h.hB h.lt),h.mb,h.vb,by rw[p];exact h.tb,by rw[g];exact h.alone,by rw[g];exact h.six⟩;rw[p];exact(h.c (by rw[<-o];exact e)).of fun k b=>d.block k (h.capl k b) (h.cap k b).2.2.2
theorem StI.fail{a:Nat}{b c:Bool}{g:Int}(h:StI w B a M s z q b c 0 g)(e p:Int):Calls prog 46 #[Qc a,Qa e,Qa p] w fun x w'=>x=.returned (.tuple #[])/\Mod a w w'/\StI w' B a M s z q b true e p:=by
 refine(QwJ e p h.blk).mono ?_;rintro x w' ⟨i,d,f⟩;rw[Qi rfl,Qi rfl,Qi rfl]at f;exact⟨i,d,h.modS d f rfl rfl rfl rfl⟩
theorem StI.metS(h:StI w B sb M s z q kp en er pz):StI w B sb M (Y2 s s.met) z q kp en er pz:=h
theorem StI.growA{i:World}(h:StI w B f M s z q y o p A)(m:∀k,k<w.heap.size->some k≠z.av.ownBlock->i.heap[k]?=w.heap[k]?)(J:Below B w i){met':List (Int×L8)}(t:i.ownsRow B 52 2 v' met'.length (ZG met'))(hv:v'.ownBlock=z.av.ownBlock\/∀k,v'.ownBlock=some k->w.heap.size<=k)(H:∀x∈met',x.1=4->met'.length=1)(G:met'.length<=6) :
 StI (i.setCell ⟨f,8,none⟩ v') B f M (Y2 s met') ⟨z.hv,z.nv,z.vv,z.cv,v',z.ns,z.vl⟩ q y o p A:=by
 have N:i.heap[f]?=w.heap[f]?:=m f h.lt (fun e=>XG h.a h.blk Qb e.symm);have j:=h.blk;unfold SB at j;rw[<-N]at j;have L:Mod f i (i.setCell ⟨f,8,none⟩ v'):=(Mod.refl f i).setCell _ _;have r:=VG h.n fun k d=>m k (h.n.lt k d).2 (fun e=>VA h.n h.a Qb k d e.symm)
 have u:=VG h.v fun k d=>m k (h.v.lt k d).2 (fun e=>VA h.v h.a Qb k d e.symm)
 refine⟨h.hB,QM j,Yk r (XG r j Qb),Yk u (XG u j Qb),Yk t (XG t j Qb),fun e=>?_,h.c0,fun k d=>?_,fun k d=>UH (UH (h.capt k d) (m k (h.capl k d) (fun g=>(h.cap k d).2.2.1 g.symm))) (Q' (h.cap k d).2.2.2),h.nvv,h.l,h.nl,h.vals,(h.h.below J).below (L.below h.hB (QI j)),h.mb,h.vb,h.tb,H,G⟩
 .have K:=h.c e;refine TxL.setV (b:=f) ?_ (fun g=>(h.cap f g).2.2.2 rfl);exact K.of fun k d=>m k (h.capl k d) (fun g=>(h.cap k d).2.2.1 g.symm)
 .obtain⟨C,D,E,F⟩:=h.cap k d;refine⟨C,D,fun g=>?_,F⟩;rcases hv with hv|hv
  .exact E (by rw[<-hv];exact g)
  .have:=hv k g;have:=h.capl k d;omega
theorem StI.appA{wr d:World}{w r:Bool}{t y:Int}(h:StI wr B c M s z q w r t y){la:Option Addr}{p:Nat}{a:Int×L8}{i:Obj}(m:z.av=.slice la s.met.length p)(v:(wr.alloc i).drew.grownBy d (Value.slice la s.met.length p).ownBlock)
 (G:d.ownsRow B 52 2 (Qs b (s.met.length+1) g) (s.met.length+1) (ZG s.met++[Qa a.1,Qf a.2])) (F:(Value.slice la s.met.length p).ownBlock=some b\/b=(wr.alloc i).drew.heap.size) (E:∀x∈s.met++[a],x.1=4->(s.met++[a]).length=1) (J:s.met.length<=5) :
 ∃z',StI (d.setCell ⟨c,8,none⟩ (Qs b (s.met.length+1) g)) B c M (Y2 s (s.met++[a])) z' q w r t y/\Below B wr (d.setCell ⟨c,8,none⟩ (Qs b (s.met.length+1) g))/\KB wr (d.setCell ⟨c,8,none⟩ (Qs b (s.met.length+1) g)):=by
 have o:(wr.alloc i).drew.heap.size=wr.heap.size+1:=by show(wr.heap.push i).size=_;simp
 have C:=QE h.hB (Xj h.lt)
 have u:Below B wr d:=by
  have A:Below B wr (wr.alloc i).drew:=((QO _ _).alloc C i).drew;exact A.grown v (by rw[o];omega) (fun k f=>(h.a.lt k (by rw[m];exact f)).1)
 have l:∀k,k<wr.heap.size->some k≠z.av.ownBlock->d.heap[k]?=wr.heap[k]?:=fun k f n=>by
  rw[v.block k (by rw[o];omega) (by rw[<-m];exact n)];exact ZL _ _ _ f
 have H:d.heap[c]?=wr.heap[c]?:=l c h.lt (fun e=>XG h.a h.blk Qb e.symm);have j:=h.blk;unfold SB at j;rw[<-H]at j;have D:KB wr (d.setCell ⟨c,8,none⟩ (Qs b (s.met.length+1) g)):=(Ci h.a Qb l).trans (Ch j Qb);refine⟨_,h.growA (v':=Qs b (s.met.length+1) g) (met':=s.met++[a]) (fun k f n=>?_) u ?_ ?_ E (by rw[Qz];simp;omega),u.setCell (by exact h.hB) _,D⟩
 .exact l k f n
 .rw[Qz,<-Hg];exact G
 .rw[m];rcases F with e|e
  .exact Qt e.symm
  .right;intro k f;have:b=k:=by simpa[Value.ownBlock]using f
   rw[o]at e;omega
def Kx(met:List (Int×L8))(a:Int×L8):Int×List (Int×L8):=
 if a∈met then(0,met)
 else if met≠[]/\(a.1=4\/(met.headD (0,[])).1=4)then(10,met)
 else if met.length=6 then(11,met)
 else(0,met++[a])
def Gy(a:Int×L8)(l:List (Int×L8)):Bool:=l.any fun x=>decide (x=a)
theorem Mp(a:Int×L8)(l:List (Int×L8)):Gy a l=true↔a∈l:=by
 unfold Gy;simp
theorem Qu1(a:Int×L8){l:List (Int×L8)}(h:k<l.length):Gy a (l.drop k)=(decide (l[k]=a) || Gy a (l.drop (k+1))):=by
 rw[Xt h];rfl
def Uq(B sb:Nat)(M:Msg)(s:SS)(q:Nat)(kp en:Bool)(pz p:Int)(r:Int×List (Int×L8))(w':World):Prop:=
 ∃z',StI w' B sb M (Y2 s r.2) z' q kp (if r.1=0 then en else true) r.1 (if r.1=0 then pz else p)
theorem Uq.err{c:Bool}{e:Int}(f:r=(e,s.met))(he:¬e=0)(h:StI w' B b M s z q a true e p):Uq B b M s q a c d p r w':=by
 subst f;refine⟨z,?_⟩;show StI w' B b M s z q a (if e=0 then c else true) e (if e=0 then d else p)
 rw[Qg he,Qg he];exact h
theorem Uq.ok{d:Nat}{b:Bool}{c:Int}(e:r=(0,m))(h:StI w' B d M (Y2 s m) z q b a 0 c):Uq B d M s q b a c p r w':=by
 subst e;exact⟨z,h⟩
theorem On{d:Nat}{a:Int×L8}(p:Int)(h:StI w B d M s z q kp en 0 pz):Calls prog 79 #[Qc d,.agg #[Qa a.1,Qf a.2],Qa p] w fun e w'=>e=.returned (.tuple #[])/\(Below B w w'/\KB w w')/\Uq B d M s q kp en pz p (Kx s.met a) w':=by
 obtain⟨la,G,D⟩:=Zj h.a;have c8:w.cell? (Ql d 8)=some (.slice la s.met.length G):=by rw[<-D];exact Qj h.blk 8
 have P:=h.lt;have h6:=h.six;have H:=O h;have HE:=O Ra;have J:=QE h.hB (Xj h.lt);have aK:=O D;clear h D;go_enter func79,ntmps79;go_wp2
 go_loopw [6] (fun F wr=>∃(k:Nat),k<=s.met.length/\F=Qa k/\Hid (Qo w wr)/\Hid (wr.heap[w.heap.size]?=some (Qe #[Qa a.1,Qf a.2] 52))/\Hid (Gy a s.met=Gy a (s.met.drop k))) (fun F _=>s.met.length-(intOf F).toNat)
 case atStart=>exact⟨0,QR,rfl,QH _,Q0,rfl⟩
 case round=>
  obtain⟨k,hk,rfl,b,t,m⟩:=hrel;have X:=QN b c8 P
  have p0:=Qj t 0;have p1:=Qj t 1;by_cases hkl:k<s.met.length
  .have ab:(k:Int)<(s.met.length:Int):=I
   have K:=O (Qu1 a hkl);have E:=YA H.a b;rw[aK.o]at E;obtain⟨g,c,hv,az,aA,hcells⟩:=Jo E I;injection hv with hv1 hv2 hv3
   subst hv1;have q0:=hcells (k*2) _ (V9 k hkl).1;have q1:=hcells (k*2+1) _ (V9 k hkl).2;have hq:=HE s.met[k] a;obtain⟨i,N⟩:=Qw (s.met[k]);rw[N]at q0 q1 hq K;clear hcells E hv2 hv3 N;by_cases he:i=a
   .rw[QU he]at hq K
    have n:Hid (Kx s.met a=(0,s.met)):=by
     show _=_
     unfold Kx;rw[Qi ((Mp a s.met).1 (by rw[m.o,K.o,Bool.true_or]))]
    clear he;go_wp2;go_region;go_wp2;refine Q_ (v:=.tuple #[]) (by simp[results,results79,go_sem]) rfl ?_;exact⟨rfl,⟨(b.mono J).drew,Js b.o.drew⟩,z,by rw[n.o];exact(H.o.below b.o.drew).metS⟩
   .rw[QB he]at hq K;have au:Hid (Gy a s.met=Gy a (s.met.drop (k+1))):=by show _=_;rw[m.o,K.o,Bool.false_or]
    clear he;go_wp2;go_region;go_wp2;exact⟨⟨k+1,I,by go_num,b.o.drew,t,au⟩,by simp[intOf];omega⟩
  .have aa:k=s.met.length:=I
   subst aa;have ab:¬(s.met.length:Int)<(s.met.length:Int):=I
   have ad:Hid (¬a∈s.met):=by
    intro e;have:=(Mp a s.met).2 e;rw[m.o,ZE QF]at this;cases this
   have V:Hid (Kx s.met a=if s.met≠[]/\(a.1=4\/(s.met.headD (0,[])).1=4)then(10,s.met)else if s.met.length=6 then(11,s.met)else(0,s.met++[a])):=by
    show _=_
    unfold Kx;rw[Qg ad]
   clear m p0 p1;have af:=b;have ag:=t;clear b t;go_wp2
   go_loopw [7] (fun F wr=>∃(k:Nat),k<=s.met.length/\F=Qa k/\Hid (Qo w wr)/\Hid (wr.heap[w.heap.size]?=some (Qe #[Qa a.1,Qf a.2] 52))/\Hid (0<k->¬(a.1=4\/(s.met.headD (0,[])).1=4))) (fun F _=>s.met.length-(intOf F).toNat)
   case atStart=>exact⟨0,QR,rfl,af,ag,fun e=>absurd e I⟩
   case round=>
    clear af ag X;obtain⟨k,hk,rfl,b,t,m⟩:=hrel;have X:=QN b c8 P
    have p0:=Qj t 0;have p1:=Qj t 1;by_cases hkl:k<s.met.length
    .have ab:(k:Int)<(s.met.length:Int):=I
     have E:=YA H.a b;rw[aK.o]at E;obtain⟨g,c,hv,az,aA,hcells⟩:=Jo E I;injection hv with hv1 hv2 hv3
     subst hv1;have q0:=hcells (k*2) _ (V9 k hkl).1;have q1:=hcells (k*2+1) _ (V9 k hkl).2
     have W:Hid (k=0->(s.met.headD (0,[])).1=s.met[k].1):=by
      intro e
      have S:∀(l:List (Int×L8)) (h:k<l.length),k=0->(l.headD (0,[])).1=(l[k]'h).1:=fun l h e=>by subst e;cases l with
       |nil=>exact absurd h (XA _)
       |cons x r=>rfl
      exact S s.met hkl e
     have Q:Hid (0<k->¬s.met[k].1=4):=fun L e=>by
      have:=H.alone _ (ZT hkl) e;omega
     have aw:Hid (s.met≠[]):=fun e=>by rw[e]at hkl;exact absurd hkl (XA _)
     obtain⟨i,N⟩:=Qw (s.met[k]);rw[N]at q0 q1 W Q;clear hcells E hv2 hv3 N;have R:=O ((H.o.below b).fail 10 p)
     have ac:(i.1=4\/a.1=4)->Kx s.met a=(10,s.met):=fun e=>by
      by_cases L:0<k
      .exfalso;rcases e with e|e
       .exact Q L e
       .exact m L (Qt e)
      .rw[V.o,Qi ⟨aw,by rw[W I];exact e.symm⟩]
     have ai:¬(i.1=4\/a.1=4)->¬(a.1=4\/(s.met.headD (0,[])).1=4):=fun e=>by
      by_cases L:0<k
      .exact m L
      .rw[W I];exact fun u=>e u.symm
     have aM:=O ac;have aN:=O ai;clear ac ai;by_cases e1:i.1=4
     .have b1:(i.1==4)=true:=by simpa using e1
      have n:=O (aM (Qt e1));clear e1;go_wp2_with fail;refine R.mono ?_;rintro e w2 ⟨rfl,f,A⟩;have au:=O f;have aL:=O A;clear f A;go_wp2;refine Q_ (v:=.tuple #[]) (by simp[results,results79,go_sem]) rfl ?_;exact⟨rfl,⟨(b.mono J).trans (au.o.below H.hB (Yq P b.size)),(Js b).trans (NW au (H.o.below b).blk Qb)⟩,Uq.err n Qb aL⟩
     .have b1:(i.1==4)=false:=by simpa using e1
      by_cases u:a.1=4
      .have b2:(a.1==4)=true:=by simpa using u
       have n:=O (aM (Qr u));clear e1 u;go_wp2_with fail;refine R.mono ?_;rintro e w2 ⟨rfl,f,A⟩;have au:=O f;have aL:=O A;clear f A;go_wp2;refine Q_ (v:=.tuple #[]) (by simp[results,results79,go_sem]) rfl ?_;exact⟨rfl,⟨(b.mono J).trans (au.o.below H.hB (Yq P b.size)),(Js b).trans (NW au (H.o.below b).blk Qb)⟩,Uq.err n Qb aL⟩
      .have b2:(a.1==4)=false:=by simpa using u
       have av:=O (aN (fun e=>e.elim e1 u));clear e1 u;go_wp2;exact⟨⟨k+1,I,by go_num,b,t,fun _=>av⟩,by simp[intOf];omega⟩
    .have aa:k=s.met.length:=I
     subst aa;have ab:¬(s.met.length:Int)<(s.met.length:Int):=I
     have U:Hid (Kx s.met a=if s.met.length=6 then(11,s.met)else(0,s.met++[a])):=by
      show _=_
      rw[V.o,Qg];rintro⟨Y,h2⟩;exact m (Xz.2 Y) h2
     by_cases h66:s.met.length=6
     .have b6:((s.met.length:Int)==6)=true:=by simp;omega
      have n:Hid (Kx s.met a=(11,s.met)):=by show _=_;rw[U.o,Qi h66]
      have R:=O ((H.o.below b).fail 11 p);clear h66;go_wp2_with fail;refine R.mono ?_;rintro e w2 ⟨rfl,f,A⟩;have au:=O f;have aL:=O A;clear f A;go_wp2;refine Q_ (v:=.tuple #[]) (by simp[results,results79,go_sem]) rfl ?_;exact⟨rfl,⟨(b.mono J).trans (au.o.below H.hB (Yq P b.size)),(Js b).trans (NW au (H.o.below b).blk Qb)⟩,Uq.err n Qb aL⟩
     .have b6:((s.met.length:Int)==6)=false:=by simp;omega
      have n:Hid (Kx s.met a=(0,s.met++[a])):=by show _=_;rw[U.o,Qg h66]
      have C:=O (H.o.below b);have ap:Hid (wr.ownsRow B 52 2 (.slice la s.met.length G) s.met.length (ZG s.met)):=by rw[<-aK.o];exact C.a
      have ae:Hid (¬(Value.slice la s.met.length G).ownBlock=some d):=by rw[<-aK.o];exact XG C.a C.blk Qb
      have ak:=C.o.lt;have aH:=QE J b.size;have aq:=O (QQ C.blk);have h5:s.met.length<=5:=I
      have Q:Hid (∀x∈s.met++[a],x.1=4->(s.met++[a]).length=1):=by
       intro x hx e;by_cases S:s.met=[]
       .rw[S];rfl
       .exfalso;have Z:=m (Xz.2 S);rcases Z6.1 hx with hx|hx
        .have Y:=C.alone x hx e;obtain⟨y,hy⟩:=List.length_eq_one_iff.1 Y;rw[hy]at hx Z;rw[ZV hx]at e;exact Z (Qr e)
        .rw[ZV hx]at e;exact Z (Qt e)
      obtain⟨i0,hi,aD,aE,aF⟩:=ZU Tryz.infoActionV;clear h66 U V m HE ad;go_wp2;go_region_law (refine step_append_lies _ rfl (.tmp 65) (.tmp 67) 32 rfl B 52 i0 (.agg #[Qa 0,.string ⟨#[]⟩]) 2 24 underlying32 hi aD aE aF rfl Qb (.slice la s.met.length G) s.met.length (ZG s.met) (by simp[Act.eval,Act.put]) (ap.o.alloc _) ⟨wr.heap.size,0,none⟩ 1 1 [Qa a.1,Qf a.2] (by simp[Act.eval,Act.put]) rfl (QxO a) (QyZ a) Qb (by unfold maxLen;omega) I (by simp;omega) _ rfl ?_;intro g' aG w5 aj T ah aJ;have ax:=O aj;have ar:=O T;have ao:=O ah;have t8:w5.cell? (Ql d 8)=some (.slice la s.met.length G):=T.cell (a:=⟨d,8,none⟩) ((Xo (a:=⟨d,8,none⟩) (w:=wr) (ZL _ _ _ ak)).trans X) (fun e=>ae e.symm);have aI:∀j,w5.frozen? ⟨d,j,none⟩=false:=fun j=>(World.frozen?_of_block (a:=⟨d,j,none⟩) (w:=wr) ((T.block d (by simp;omega) (fun e=>ae e.symm)).trans (ZL _ _ _ ak))).trans (aq j);clear aj T ah;skip)
      all_goals go_wp2
      all_goals go_end0
      all_goals obtain⟨z',aC,ay,aB⟩:=C.appA aK ar ax ao Q h5
      all_goals exact⟨rfl,⟨(b.mono J).trans ay,(Js b).trans aB⟩,Uq.ok n aC⟩
theorem O0:expL s []=[]:=by
 unfold expL;split
 .rw[J0,Qg (fun h=>h.1 rfl)]
 .rfl
theorem MM(met:List (Int×L8))(kind:Int)(arg:L8):addL met kind arg=if kind=2/\isBoxL arg=false then(8,met)else if kind=3/\isAddrL arg=false then(9,met)else Kx met (kind,cutArg kind arg):=rfl
def Vm(B sb:Nat)(M:Msg)(s:SS)(q:Nat)(en:Bool)(pz p:Int)(r:Int×List (Int×L8))(w':World):Prop:=
 ∃z' kp',StI w' B sb M (Y2 s r.2) z' q kp' (if r.1=0 then en else true) r.1 (if r.1=0 then pz else p)/\(r.1=0->kp'=false)
theorem Vm.err{c:Bool}{e:Int}(g:r=(e,s.met))(he:¬e=0)(h:StI w' B b M s z q a true e p):Vm B b M s q c d p r w':=by
 subst g;refine⟨z,a,?_,fun f=>absurd f he⟩;show StI w' B b M s z q a (if e=0 then c else true) e (if e=0 then d else p)
 rw[Qg he,Qg he];exact h
theorem Uq.act{b:Int}(h:Uq B c M s q false a b p r w'):Vm B c M s q a b p r w':=by
 obtain⟨d,h⟩:=h;exact⟨d,false,h,fun _=>rfl⟩
theorem Rc{l:Nat}{U F:Bool}{J:Int}(p:Int)(h:StI w B l M s z q U F 0 J)(hq:q<=1000000)(N:x.length<=100000)(hk:(kind=1/\x=[])\/kind=2\/kind=3\/kind=4):Calls prog 49 #[Qc l,Qa kind,Qf x,Qa p] w fun e w'=>e=.returned (.tuple #[])/\(Below B w w'/\KB w w')/\Vm B l M s q F J p (addL s.met kind (expL s x)) w':=by
 have H:=O h;have A:=QE h.hB (Xj h.lt);have n:=O (h.expand hq x N);have ab:=AO s N;have j:=O (MM s.met kind (expL s x))
 have S:Hid (kind=1->expL s x=[]):=fun e=>by
  rcases hk with⟨_,N⟩|hk|hk|hk
  .rw[N,O0]
  all_goals omega
 have aa:kind=1\/kind=2\/kind=3\/kind=4:=by
  rcases hk with⟨h,_⟩|h|h|h
  .exact Qt h
  .exact Qr (Qt h)
  .exact Qr (Qr (Qt h))
  .exact Qr (Qr (Qr h))
 clear hk;obtain⟨y,Q⟩:=Qw (expL s x);rw[Q]at n ab j S;rw[Q];have ad:=Zc y
 have C:∀(u:World) (a:Int×L8),StI u B l M s z q U F 0 J->addL s.met kind y=Kx s.met a->Calls prog 79 #[Qc l,.agg #[Qa a.1,Qf a.2],Qa p] (u.setCell ⟨l,9,none⟩ (.bool false)) fun e w'=>e=.returned (.tuple #[])/\(Below B u w'/\KB u w')/\Vm B l M s q F J p (addL s.met kind y) w':=fun u a L he=>by
  refine(On p (L.keep0 false)).mono ?_;rintro e w' ⟨X,T,Y⟩;refine⟨X,⟨(((Mod.refl l u).setCell 9 (.bool false)).below L.hB L.lt).trans T.1,(Ch L.blk Qb).trans T.2⟩,?_⟩;rw[he];exact Y.act
 have ag:=O C;clear Q h C;rcases aa with rfl|rfl|rfl|rfl
 .have W:=S rfl;subst W;have r:=Qj H.blk 9;have D:=QQ H.blk;go_enter func49,ntmps49;go_wp2_with fail;refine Qv (ag w (1,[]) H (by rw[j.o,Qg (fun e=>absurd e.1 Qb),Qg (fun e=>absurd e.1 Qb)];rfl)) ?_;rintro E ⟨d,f⟩;have ae:=O d;have af:=O f;clear d f;go_wp2;go_end0;exact⟨rfl,ae,af⟩
 .have m:Hid (∀u,Calls prog 77 #[Qf y] u fun e w'=>e=.returned (.bool (isBoxL y))/\w'=u):=fun u=>Qug (sA y) u I
  obtain⟨t,P⟩:=Qw (isBoxL y);rw[P]at m j
  cases t with
  |true=>
   go_enter func49,ntmps49;go_wp2_with fail;refine n.mono ?_;rintro e K ⟨rfl,b⟩;have g:=O (b.mono A);have i:=O (Js b);have c:=O (H.o.below b);have ai:=b.size;have r:=Qj c.blk 9;have D:=QQ c.blk;clear b;go_wp2_with fail;refine Qu (m _) ?_;go_wp2_with fail;refine Qv (ag _ (2,y) c (by rw[j.o,Qg (fun e=>absurd e.2 Qb),Qg (fun e=>absurd e.1 Qb)];rfl)) ?_;rintro E ⟨d,f⟩;have ae:=O d;have af:=O f;clear d f;go_wp2;go_end0;exact⟨rfl,⟨g.o.trans ae.1,i.o.trans ae.2⟩,af⟩
  |false=>
   go_enter func49,ntmps49;go_wp2_with fail;refine n.mono ?_;rintro e K ⟨rfl,b⟩;have g:=O (b.mono A);have i:=O (Js b);have c:=O (H.o.below b);have ai:=b.size;have r:=Qj c.blk 9;have D:=QQ c.blk;clear b;go_wp2_with fail;refine Qu (m _) ?_;go_wp2_with fail;refine Qv (c.fail 8 p) ?_;rintro E ⟨k,G⟩;have ah:=O k;have aj:=O G;clear k G;go_wp2;refine Q_ (v:=.tuple #[]) (by simp[results,results49,go_sem]) rfl ?_;exact⟨rfl,⟨g.o.trans (ah.o.below c.hB c.o.lt),i.o.trans (NW ah c.blk Qb)⟩,Vm.err (by rw[j.o];simp) Qb aj⟩
 .have m:Hid (∀u,Calls prog 78 #[Qf y] u fun e w'=>e=.returned (.bool (isAddrL y))/\w'=u):=fun u=>RR y u I
  obtain⟨t,P⟩:=Qw (isAddrL y);rw[P]at m j
  cases t with
  |true=>
   go_enter func49,ntmps49;go_wp2_with fail;refine n.mono ?_;rintro e K ⟨rfl,b⟩;have g:=O (b.mono A);have i:=O (Js b);have c:=O (H.o.below b);have ai:=b.size;have r:=Qj c.blk 9;have D:=QQ c.blk;clear b;go_wp2_with fail;refine Qu (m _) ?_;go_wp2_with fail;refine Qv (ag _ (3,y) c (by rw[j.o,Qg (fun e=>absurd e.1 Qb),Qg (fun e=>absurd e.2 Qb)];rfl)) ?_;rintro E ⟨d,f⟩;have ae:=O d;have af:=O f;clear d f;go_wp2;go_end0;exact⟨rfl,⟨g.o.trans ae.1,i.o.trans ae.2⟩,af⟩
  |false=>
   go_enter func49,ntmps49;go_wp2_with fail;refine n.mono ?_;rintro e K ⟨rfl,b⟩;have g:=O (b.mono A);have i:=O (Js b);have c:=O (H.o.below b);have ai:=b.size;have r:=Qj c.blk 9;have D:=QQ c.blk;clear b;go_wp2_with fail;refine Qu (m _) ?_;go_wp2_with fail;refine Qv (c.fail 9 p) ?_;rintro E ⟨k,G⟩;have ah:=O k;have aj:=O G;clear k G;go_wp2;refine Q_ (v:=.tuple #[]) (by simp[results,results49,go_sem]) rfl ?_;exact⟨rfl,⟨g.o.trans (ah.o.below c.hB c.o.lt),i.o.trans (NW ah c.blk Qb)⟩,Vm.err (by rw[j.o];rw[Qg (fun e=>absurd e.1 Qb)];simp) Qb aj⟩
 .by_cases h48:48<y.length
  .have Z:(48:Int)<(y.length:Int):=I
   have ac:(sA y).extract 0 48=sA (y.take 48):=by rw[UC];simp
   go_enter func49,ntmps49;go_wp2_with fail;refine n.mono ?_;rintro e K ⟨rfl,b⟩;have g:=O (b.mono A);have i:=O (Js b);have c:=O (H.o.below b);have ai:=b.size;have r:=Qj c.blk 9;have D:=QQ c.blk;clear b;go_wp2_with fail;refine Qv (ag _ (4,y.take 48) c (by rw[j.o,Qg (fun e=>absurd e.1 Qb),Qg (fun e=>absurd e.1 Qb)];rfl)) ?_;rintro E ⟨d,f⟩;have ae:=O d;have af:=O f;clear d f;go_wp2;go_end0;exact⟨rfl,⟨g.o.trans ae.1,i.o.trans ae.2⟩,af⟩
  .have Z:¬(48:Int)<(y.length:Int):=I
   have V:Hid (y.take 48=y):=Z7 I;go_enter func49,ntmps49;go_wp2_with fail;refine n.mono ?_;rintro e K ⟨rfl,b⟩;have g:=O (b.mono A);have i:=O (Js b);have c:=O (H.o.below b);have ai:=b.size;have r:=Qj c.blk 9;have D:=QQ c.blk;clear b;go_wp2_with fail;refine Qv (ag _ (4,y) c (by rw[j.o,Qg (fun e=>absurd e.1 Qb),Qg (fun e=>absurd e.1 Qb)];show Kx s.met (4,y.take 48)=_;rw[V.o])) ?_;rintro E ⟨d,f⟩;have ae:=O d;have af:=O f;clear d f;go_wp2;go_end0;exact⟨rfl,⟨g.o.trans ae.1,i.o.trans ae.2⟩,af⟩
theorem BU(kind:Int)(p:Int)(h:StI w B sb M s z q kp en 0 pz)(hq:q<=1000000)(hx:x.length<=100000)(hk:(kind=1/\x=[])\/kind=2\/kind=3\/kind=4):Calls prog 49 #[Qc sb,Qa kind,Qf x,Qa p] w fun e w'=>e=.returned (.tuple #[])/\Below B w w'/\Vm B sb M s q en pz p (addL s.met kind (expL s x)) w':=
 (Rc p h hq hx hk).mono fun e w' hh=>⟨hh.1,hh.2.1.1,hh.2.2⟩
end
structure StK (w:World) (B sb:Nat) (M:Msg) (s:SS) (z:StV) (kp en:Bool) (er pz:Int):Prop where
 hB:B<=sb
 blk:SB w sb M.fr M.to M.size z.hv s.vs z.nv z.vv z.cv z.av kp en er pz
 n:w.ownsRow B 9 1 z.nv z.ns.length (QW z.ns)
 v:w.ownsRow B 9 1 z.vv z.vl.length (QW z.vl)
 a:w.ownsRow B 52 2 z.av s.met.length (ZG s.met)
 c:s.vs=true->TxL w z.cv (s.told.take 10)
 c0:s.vs=false->z.cv=.slice none 0 0
 cap:∀k,z.cv.ownBlock=some k->z.nv.ownBlock≠some k∧z.vv.ownBlock≠some k∧z.av.ownBlock≠some k∧k≠sb
 capt:∀k,z.cv.ownBlock=some k->∃cs,w.heap[k]?=some (Qe cs 9)
 nvv:∀k,z.nv.ownBlock=some k->z.vv.ownBlock≠some k
 h:HdB w B M z.hv
 mb:GK M
 vb:∀t∈z.vl,t.length<=100000
 tb:∀t∈s.told,t.length<=100000
 alone:∀x∈s.met,x.1=4->s.met.length=1
 six:s.met.length<=6
theorem StK.capl{d:Bool}{b e:Int}(h:StK w B f M s z d a b e):∀k,z.cv.ownBlock=some k->k<w.heap.size:=fun k hk=>by
 obtain⟨g,c⟩:=h.capt k hk;exact QI c
theorem StI.toK(h:StI w B sb M s z q kp en er pz):StK w B sb M s z kp en er pz:=⟨h.hB,h.blk,h.n,h.v,h.a,h.c,h.c0,h.cap,h.capt,h.nvv,h.h,h.mb,h.vb,h.tb,h.alone,h.six⟩
theorem StK.toI(h:StK w B sb M s z kp en er pz)(e1:s'.vs=s.vs)(e2:s'.told=s.told)(e3:s'.met=s.met)(hl:z.ns.length=z.vl.length)(hn:z.ns.length<=q)(hv:∀x,s'.vals x=lookQ z.ns z.vl x):StI w B sb M s' z q kp en er pz:=⟨h.hB,by rw[e1];exact h.blk,h.n,h.v,by rw[e3];exact h.a,by rw[e1,e2];exact h.c,by rw[e1];exact h.c0,h.cap,h.capt,h.nvv,hl,hn,hv,h.h,h.mb,h.vb,by rw[e2];exact h.tb,by rw[e3];exact h.alone,by rw[e3];exact h.six⟩
theorem StK.growNV{g:World}{x:Bool}{y:Int}(h:StK w B f M s z x o p y)(l:∀k,k<w.heap.size->some k≠z.nv.ownBlock->g.heap[k]?=w.heap[k]?)(F:Below B w g){m:Qn}(t:g.ownsRow B 9 1 v' m.length (QW m))(hv:v'.ownBlock=z.nv.ownBlock\/∀k,v'.ownBlock=some k->w.heap.size<=k) :
 StK (g.setCell ⟨f,5,none⟩ v') B f M s ⟨z.hv,v',z.vv,z.cv,z.av,m,z.vl⟩ x o p y:=by
 have J:g.heap[f]?=w.heap[f]?:=l f (QI h.blk) (fun e=>XG h.n h.blk Qb e.symm);have j:=h.blk;unfold SB at j;rw[<-J]at j;have G:Mod f g (g.setCell ⟨f,5,none⟩ v'):=(Mod.refl f g).setCell _ _;have u:=VG (w':=g) h.v fun k d=>l k (h.v.lt k d).2 (fun e=>h.nvv k e.symm d)
 have q:=VG (w':=g) h.a fun k d=>l k (h.a.lt k d).2 (fun e=>VA h.a h.n Qb k d e.symm)
 have r:∀k,k<w.heap.size->z.nv.ownBlock≠some k->v'.ownBlock≠some k:=fun k d H e=>by
  rcases hv with hv|hv
  .exact H (by rw[<-hv];exact e)
  .have:=hv k e;omega
 refine⟨h.hB,QM j,Yk t (XG t j Qb),Yk u (XG u j Qb),Yk q (XG q j Qb),fun e=>?_,h.c0,fun k d=>?_,fun k d=>UH (UH (h.capt k d) (l k (h.capl k d) (fun i=>(h.cap k d).1 i.symm))) (Q' (h.cap k d).2.2.2),fun k d=>?_,(h.h.below F).below (G.below h.hB (QI j)),h.mb,h.vb,h.tb,h.alone,h.six⟩
 .exact TxL.setV (b:=f) ((h.c e).of fun k d=>l k (h.capl k d) (fun i=>(h.cap k d).1 i.symm)) (fun i=>(h.cap f i).2.2.2 rfl)
 .obtain⟨A,C,D,E⟩:=h.cap k d;exact⟨r k (h.capl k d) A,C,D,E⟩
 .exact fun e=>r k (h.v.lt k e).2 (fun i=>h.nvv k i e) d
theorem StK.growVV{g:World}(h:StK w B f M s z y o p A)(l:∀k,k<w.heap.size->some k≠z.vv.ownBlock->g.heap[k]?=w.heap[k]?)(G:Below B w g){m:Qn}(u:g.ownsRow B 9 1 v' m.length (QW m))(hv:v'.ownBlock=z.vv.ownBlock\/∀k,v'.ownBlock=some k->w.heap.size<=k)(L:∀t∈m,t.length<=100000) :
 StK (g.setCell ⟨f,6,none⟩ v') B f M s ⟨z.hv,z.nv,v',z.cv,z.av,z.ns,m⟩ y o p A:=by
 have K:g.heap[f]?=w.heap[f]?:=l f (QI h.blk) (fun e=>XG h.v h.blk Qb e.symm);have i:=h.blk;unfold SB at i;rw[<-K]at i;have H:Mod f g (g.setCell ⟨f,6,none⟩ v'):=(Mod.refl f g).setCell _ _;have x:=VG (w':=g) h.n fun k d=>l k (h.n.lt k d).2 (fun e=>h.nvv k d e.symm)
 have q:=VG (w':=g) h.a fun k d=>l k (h.a.lt k d).2 (fun e=>VA h.a h.v Qb k d e.symm)
 have r:∀k,k<w.heap.size->z.vv.ownBlock≠some k->v'.ownBlock≠some k:=fun k d J e=>by
  rcases hv with hv|hv
  .exact J (by rw[<-hv];exact e)
  .have:=hv k e;omega
 refine⟨h.hB,QM i,Yk x (XG x i Qb),Yk u (XG u i Qb),Yk q (XG q i Qb),fun e=>?_,h.c0,fun k d=>?_,fun k d=>UH (UH (h.capt k d) (l k (h.capl k d) (fun j=>(h.cap k d).2.1 j.symm))) (Q' (h.cap k d).2.2.2),fun k d=>?_,(h.h.below G).below (H.below h.hB (QI i)),h.mb,L,h.tb,h.alone,h.six⟩
 .exact TxL.setV (b:=f) ((h.c e).of fun k d=>l k (h.capl k d) (fun j=>(h.cap k d).2.1 j.symm)) (fun j=>(h.cap f j).2.2.2 rfl)
 .obtain⟨C,D,E,F⟩:=h.cap k d;exact⟨C,r k (h.capl k d) D,E,F⟩
 .exact r k (h.n.lt k d).2 (h.nvv k d)
theorem Qz7(h:w.ownsRow base e 1 (Qs g n c) n xs)(k:Nat)(x:Value):(w.setCell ⟨g,k,none⟩ x).ownsRow base e 1 (Qs g n c) n (xs.set k x):=by
 refine⟨by rw[UW];exact h.1,?_⟩;rcases h.2 with⟨a,_⟩ | ⟨p,b,d,o,l,m,a,f,i,j⟩
 .cases a
 .injection o with e1 e2 e3
  injection e1 with e1
  injection e1 with e1
  subst e1;refine Qr ⟨g,b,d.setIfInBounds k x,by rw[e3],l,QM m,a,f,by rw[Array.size_setIfInBounds];exact i,?_⟩;rw[Array.toList_setIfInBounds,List.take_set,j]
theorem Mi:∀(a b:Qn) (k:Nat) (x z:L8) (c:k<a.length),a.length=b.length->a[k]=x->(∀j (d:j<k),a[j]' I≠x)->∀y,lookQ a (b.set k z) y=if y=x then some z else lookQ a b y
 | [],_,k,_,_,c,_,_,_,_=>absurd c (XA _)
 |n::a,[],_,_,_,_,hl,_,_,_=>by cases hl
 |n::a,v::b,0,x,z,c,hl,hx,d,y=>by
  have g:=hx;subst g;show(if n=y then some z else lookQ a b y)=if y=n then some z else(if n=y then some v else lookQ a b y)
  by_cases e:y=n
  .rw[Qi e,Qi e.symm]
  .rw[Qg e,Qg (fun h=>e h.symm),Qg (fun h=>e h.symm)]
 |n::a,v::b,k+1,x,z,c,hl,hx,d,y=>by
  have f:=d 0 (Vr _);have i:=Mi a b k x z (Nat.lt_of_succ_lt_succ c) (by simpa using hl) hx (fun j h=>d (j+1) (Nat.succ_lt_succ h)) y;show(if n=y then some v else lookQ a (b.set k z) y)=if y=x then some z else(if n=y then some v else lookQ a b y)
  rw[i];by_cases e:y=x
  .rw[Qi e,Qg (fun h=>f (h.trans e)),Qi e]
  .rw[Qg e,Qg e]
theorem L7:∀(a b:Qn) (x z:L8),a.length=b.length->(∀n∈a,n≠x)->∀y,lookQ (a++[x]) (b++[z]) y=if y=x then some z else lookQ a b y
 | [],[],x,z,_,_,y=>by
  show(if x=y then some z else none)=if y=x then some z else none
  by_cases e:y=x
  .rw[Qi e,Qi e.symm]
  .rw[Qg e,Qg (fun h=>e h.symm)]
 | [],_::_,_,_,hl,_,_=>by cases hl
 |_::_,[],_,_,hl,_,_=>by cases hl
 |n::a,v::b,x,z,hl,hn,y=>by
  have f:=L7 a b x z (by simpa using hl) (fun m d=>hn m (Kz _ d)) y;have c:=hn n Kh;show(if n=y then some v else lookQ (a++[x]) (b++[z]) y)=if y=x then some z else(if n=y then some v else lookQ a b y)
  rw[f];by_cases e:y=x
  .rw[Qi e,Qg (fun h=>c (h.trans e)),Qi e]
  .rw[Qg e,Qg e]
theorem StI.setVal{d:Nat}{E:Bool}{F:Int}(h:StI w B d M s z q E u A F)(p:z.vv=Qs g z.vl.length c)(k:Nat)(x:L8)(Q:x.length<=100000)(i:s'.vs=s.vs)(f:s'.told=s.told)(j:s'.met=s.met)(P:∀y,s'.vals y=lookQ z.ns (z.vl.set k x) y) :
 StI (w.setCell ⟨g,k,none⟩ (Qf x)) B d M s' ⟨z.hv,z.nv,z.vv,z.cv,z.av,z.ns,z.vl.set k x⟩ q E u A F/\Below B w (w.setCell ⟨g,k,none⟩ (Qf x))/\KB w (w.setCell ⟨g,k,none⟩ (Qf x)):=by
 have b:z.vv.ownBlock=some g:=by rw[p];rfl
 have K:g≠d:=fun e=>XG h.v h.blk Qb (by rw[b,e])
 have J:=h.v.lt g b;have C:Below B w (w.setCell ⟨g,k,none⟩ (Qf x)):=(QO _ _).setCell J.1 _;have G:KB w (w.setCell ⟨g,k,none⟩ (Qf x)):=Ci h.v Qb (fun r o L=>Q' (fun e=>L (by rw[b,e])));have H:(w.setCell ⟨g,k,none⟩ (Qf x)).heap[d]?=w.heap[d]?:=Q' (fun e=>K e.symm);have m:=h.blk;unfold SB at m;rw[<-H]at m;refine⟨⟨h.hB,by rw[i];exact m,Yk h.n (fun e=>h.nvv g e b),?_,by rw[j];exact Yk h.a (fun e=>VA h.a h.v Qb g e b),fun e=>?_,by rw[i];exact h.c0,h.cap,fun r o=>UH (h.capt r o) (Q' (fun e=>(h.cap r o).2.1 (by rw[b];exact ZI some e.symm))),h.nvv,by rw[UW];exact h.l,h.nl,P,h.h.below C,h.mb,fun t N=>?_,by rw[f];exact h.tb,by rw[j];exact h.alone,by rw[j];exact h.six⟩,C,G⟩
 .have D:=h.v;rw[p]at D;have:=Qz7 D k (Qf x);show World.ownsRow _ B 9 1 z.vv (z.vl.set k x).length (QW (z.vl.set k x))
  rw[UW,show QW (z.vl.set k x)=(QW z.vl).set k (Qf x) by unfold QW;rw[List.map_set],p];exact this
 .rw[f];exact(h.c (by rw[<-i];exact e)).setV (fun f=>(h.cap g f).2.1 b)
 .rcases List.mem_or_eq_of_mem_set N with h1|h1
  .exact h.vb t h1
  .rw[h1];exact Q
section
attribute [local go_sem ↓] Zt Zu
theorem StK.appNV{d:World}{q g:Bool}{r:Int}(h:StK w B b M s z q g i r){o:Obj}{c:Value}(l:(w.alloc o).grownBy d z.nv.ownBlock)(y:d.ownsRow B 9 1 c (z.ns.length+1) (QW z.ns++[Qf x]))(u:c.ownBlock=z.nv.ownBlock\/c.ownBlock=some (w.heap.size+1)) :
 StK (d.setCell ⟨b,5,none⟩ c) B b M s ⟨z.hv,c,z.vv,z.cv,z.av,z.ns++[x],z.vl⟩ q g i r/\(Below B w (d.setCell ⟨b,5,none⟩ c)/\KB w (d.setCell ⟨b,5,none⟩ c))/\d.heap[b]?=w.heap[b]?:=by
 have A:(w.alloc o).heap.size=w.heap.size+1:=Qh
 have m:=QI h.blk;have t:=QE h.hB (Xj m);have j:=Vv (QO B w) t l (fun k a=>(h.n.lt k a).1)
 have a:∀k,k<w.heap.size->some k≠z.nv.ownBlock->d.heap[k]?=w.heap[k]?:=fun k a v=>by
  rw[l.block k (by rw[A];omega) v];exact ZL _ _ _ a
 have p:=a b m (fun e=>XG h.n h.blk Qb e.symm);have f:=h.blk;unfold SB at f;rw[<-p]at f;refine⟨h.growNV a j ?_ ?_,⟨j.setCell h.hB _,(Ci h.n Qb a).trans (Ch f Qb)⟩,p⟩
 .rw[Qz,<-Jw];exact y
 .rcases u with e|e
  .exact Qt e
  .refine Qr (fun k a=>?_);rw[e]at a;have:w.heap.size+1=k:=by simpa using a
   omega
theorem StK.appVV{d:World}{p g:Bool}{q:Int}(h:StK w B b M s z p g i q){o:Obj}{c:Value}(l:(w.alloc o).grownBy d z.vv.ownBlock)(A:d.ownsRow B 9 1 c (z.vl.length+1) (QW z.vl++[Qf x]))(u:c.ownBlock=z.vv.ownBlock\/c.ownBlock=some (w.heap.size+1))(E:x.length<=100000) :
 StK (d.setCell ⟨b,6,none⟩ c) B b M s ⟨z.hv,z.nv,c,z.cv,z.av,z.ns,z.vl++[x]⟩ p g i q/\(Below B w (d.setCell ⟨b,6,none⟩ c)/\KB w (d.setCell ⟨b,6,none⟩ c))/\d.heap[b]?=w.heap[b]?:=by
 have C:(w.alloc o).heap.size=w.heap.size+1:=Qh
 have m:=QI h.blk;have r:=QE h.hB (Xj m);have j:=Vv (QO B w) r l (fun k a=>(h.v.lt k a).1)
 have a:∀k,k<w.heap.size->some k≠z.vv.ownBlock->d.heap[k]?=w.heap[k]?:=fun k a y=>by
  rw[l.block k (by rw[C];omega) y];exact ZL _ _ _ a
 have n:=a b m (fun e=>XG h.v h.blk Qb e.symm);have f:=h.blk;unfold SB at f;rw[<-n]at f;refine⟨h.growVV a j ?_ ?_ ?_,⟨j.setCell h.hB _,(Ci h.v Qb a).trans (Ch f Qb)⟩,n⟩
 .rw[Qz,<-Jw];exact A
 .rcases u with e|e
  .exact Qt e
  .refine Qr (fun k a=>?_);rw[e]at a;have:w.heap.size+1=k:=by simpa using a
   omega
 .intro t D;rcases Z6.1 D with h1|h1
  .exact h.vb t h1
  .rw[ZV h1];exact E
theorem DN(h:w.ownsRow base e size v n xs):∃p m c,v=.slice p m c:=by
 rcases h.2 with⟨a,_⟩ | ⟨g,c,_,a,_⟩
 .exact⟨_,_,_,a⟩
 .exact⟨_,_,_,a⟩
theorem QyP(tag:Int){y:L8}(h:y.length<=100000):(turnL tag y).length<=100000:=by
 unfold turnL;split
 .unfold zL;rw[XB];exact h
 .split
  .unfold capL;rw[XB];exact h
  .split
   .rw[Lib.decDigits_length];have:=Lib.nDigits_le20 y.length I;omega
   .exact h
theorem P6(nm:L8){tag:Int}(h:StI w B sb M s z q kp en er pz)(hq:q<=1000000)(hx:x.length<=100000)(ht:tag=0\/tag=1\/tag=2\/tag=3):Calls prog 50 #[Qc sb,Qf nm,Qf x,Qa tag] w fun e w'=>e=.returned (.tuple #[])/\(Below B w w'/\KB w w')/\∃z',StI w' B sb M (Ur s nm tag x) z' (q+1) kp en er pz:=by
 have H:=O h;have R:=QE h.hB (Xj h.lt);have HX:=O (h.expand hq x hx);have aq:=AO s hx;have HSET:Hid (Ur s nm tag x=⟨s.vs,fun y=>if y=nm then some ((turnL tag (expL s x)).take 48)else s.vals y,s.told,s.met,s.disc⟩):=rfl;obtain⟨y,hy⟩:=Qw (expL s x);rw[hy]at HX aq HSET;have aO:=Zc y;clear hy h;go_enter func50,ntmps50;go_wp2_with fail;refine HX.mono ?_;rintro e w1 ⟨rfl,g⟩;have aQ:=O g;have ae:=g.size;clear g;go_upto_block 0 with fail
 go_cut [8] (fun vv wx=>vv=Qf (turnL tag y)/\Qo w wx)
 case first=>
  rcases ht with rfl|rfl|rfl|rfl
  .go_wp2;go_meet;exact⟨rfl,aQ⟩
  .go_wp2_with fail;refine Qv (J6 _ I) ?_;rintro w2 c;have p:=O (aQ.o.trans (c.mono ae));clear c;go_wp2;go_meet;exact⟨rfl,p⟩
  .go_wp2_with fail;refine Qv (Qt3 I) ?_;rintro w2 c;have p:=O (aQ.o.trans (c.mono ae));clear c;go_wp2;go_meet;exact⟨rfl,p⟩
  .go_wp2_with fail;refine Qv (QxM y.length y.length QF I _) ?_;rintro w2 c;have p:=O (aQ.o.trans (c.mono ae));clear c;go_wp2;go_meet;exact⟨rfl,p⟩
 case rest=>
  obtain⟨rfl,Q⟩:=hcut;have aT:=O Q;have ak:=QyP tag aq;obtain⟨t,ad⟩:=Qw (turnL tag y);rw[ad]at ak HSET;rw[ad];have aD:=Zc t;clear Q ad;go_upto_if 29 with fail
  go_cut [8] (fun vv wx=>vv=Qf (t.take 48)/\wx=wc)
  case first=>
   by_cases h48:48<t.length
   .have ay:(48:Int)<(t.length:Int):=I
    have aH:(sA t).extract 0 48=sA (t.take 48):=by rw[UC];simp
    go_wp2;go_meet;exact⟨rfl,rfl⟩
   .have ay:¬(48:Int)<(t.length:Int):=I
    have r:Hid (t.take 48=t):=Z7 I;go_wp2;go_meet;exact⟨by rw[r.o],rfl⟩
  case rest=>
   obtain⟨rfl,ap⟩:=hcut;rw[ap];clear ap;have hZl:(t.take 48).length<=100000:=by rw[YT];omega
   obtain⟨Z,T⟩:=Qw (t.take 48);rw[T]at hZl HSET;rw[T];clear T ak aD t;obtain⟨na,nc,m⟩:=Zj H.n;obtain⟨va,vc,aW⟩:=Zj H.v;have aP:=O m;have HVA:=O aW;have aV:=H.l;have aL:=H.nl;have HLL:=O aV;clear aV m aW;have aN:z.vl.length<=1000000:=by have:=HLL.o;omega
   go_wp2
   go_loopw [9] (fun iv wr=>∃(k:Nat),k<=z.ns.length/\iv=Qa k/\Hid (Qo w wr)/\Hid (∀n∈z.ns.take k,n≠nm)) (fun iv _=>z.ns.length-(intOf iv).toNat)
   case atStart=>exact⟨0,QR,rfl,aT,fun n d=>by cases d⟩
   case round=>
    clear aT;obtain⟨k,hk,rfl,f,J⟩:=hrel;have HS:=O (H.o.below f);have aC:=f.size;have aG:=QE R aC;have d5:wr.cell? (Ql sb 5)=some (.slice na z.ns.length nc):=by rw[<-aP.o];exact Qj HS.blk 5
    have d6:wr.cell? (Ql sb 6)=some (.slice va z.vl.length vc):=by rw[<-HVA.o];exact Qj HS.blk 6
    by_cases hkl:k<z.ns.length
    .have aA:k<z.vl.length:=by have:=HLL.o;omega
     have aB:(k:Int)<(z.ns.length:Int):=I
     have aK:(k:Int)<(z.vl.length:Int):=I
     obtain⟨gn,cn,L,_,_,af⟩:=Jo HS.n I;obtain⟨gv,cv,N,_,aJ,ag⟩:=Jo HS.v I;rw[aP.o]at L;rw[HVA.o]at N;injection L with L _ hgn3
     injection N with N _ hgv3
     subst L;subst N;have b1:=af k (.string (sA z.ns[k])) (by simp[QW,Zi hkl]);have b2:=ag k (.string (sA z.vl[k])) (by simp[QW,Zi aA])
     have aI:wr.frozen? ⟨gv,k,none⟩=false:=by
      rcases HS.o.v.2 with⟨b,h2⟩ | ⟨g',aE,aF,b,_,hh,_⟩
      .omega
      .rw[HVA.o]at b;injection b with b
       injection b with b
       injection b with b
       subst b;exact QQ hh k
     have P:((sA z.ns[k]).toList==(sA nm).toList)=decide (z.ns[k]=nm):=U3
     have r:Hid (∀n∈z.ns.take (k+1),n∈z.ns.take k\/n=z.ns[k]):=fun n d=>by
      rw[Y4 hkl]at d;rcases Z6.1 d with h|h
      .exact Qt h
      .exact Qr (ZV h)
     clear af ag;by_cases he:z.ns[k]=nm
     .rw[QU he]at P
      have HFIN:=O (HS.setVal (s':=Ur s nm tag x) (z:=z) HVA k Z hZl (by rw [HSET.o]) (by rw [HSET.o]) (by rw [HSET.o]) (fun y=>by
       rw[HSET.o,Mi z.ns z.vl k nm Z hkl HLL he (fun j a=>J _ (by rw[List.mem_take_iff_getElem];exact⟨j,I,rfl⟩)) y];show(if y=nm then some Z else s.vals y)=_
       rw [HS.vals y]))
      obtain⟨G,E⟩:=Qw (z.ns[k]);obtain⟨vk,ao⟩:=Qw (z.vl[k]);rw[E]at b1 P;rw[ao]at b2;clear he r E ao;go_wp2;refine Q_ (v:=.tuple #[]) (by simp[results,results50,go_sem]) rfl ?_;exact⟨rfl,⟨(f.mono R).trans HFIN.2.1,(Js f).trans HFIN.2.2⟩,_,HFIN.1.more (Nat.le_succ _)⟩
     .rw[QB he]at P
      have ax:Hid (∀n∈z.ns.take (k+1),n≠nm):=fun n d=>by
       rcases r.o n d with h|h
       .exact J n h
       .rw[h];exact he
      obtain⟨G,E⟩:=Qw (z.ns[k]);rw[E]at b1 P;clear he r E b2;go_wp2;exact⟨⟨k+1,I,by go_num,f,ax⟩,by simp[intOf];omega⟩
    .have az:k=z.ns.length:=I
     subst az;have aB:¬(z.ns.length:Int)<(z.ns.length:Int):=I
     have HNA2:Hid (∀n∈z.ns,n≠nm):=fun n d=>J n (by rw[KA];exact d)
     have HK:=O HS.toK;have ac:=HS.n;rw[aP.o]at ac;obtain⟨i0,hi,ar,au,aw⟩:=ZU Tryz.infoStr;clear J;go_wp2_with (at_builtin;refine Kf _ rfl _ _ 61 rfl B 9 i0 (.string ⟨#[]⟩) 1 16 Uw hi ar au aw rfl Qb _ _ _ rfl (ac.alloc _) ⟨wr.heap.size,0,none⟩ 1 1 [Qf nm] rfl rfl ?c1 ?c2 ?c3 ?c4 ?c5 ?_)
     all_goals first|rfl|omega|(unfold maxLen;omega)|(simp;omega)|(intro j u a;match j,a with|0,a=>simp at a;subst a;simp[Addr.add])|(intro u F;simp at F;subst F;rfl)|skip
     .intro v5 w5 aa X _ U;rw[<-aP.o]at X U;obtain⟨i,A,ai⟩:=HK.appNV (x:=nm) X aa U;have C:=HK.blk;unfold SB at C;rw[<-ai]at C;have t5:=Qj C 5;rw[aP.o]at t5;have f5:=QQ C;obtain⟨p5,m5,c5,rfl⟩:=DN aa;obtain⟨K,S⟩:=Q3 (w5.setCell ⟨sb,5,none⟩ (.slice p5 m5 c5));have aX:=O S;rw[<-S]at i A;have aU:=O i;have aR:=O A;have n6:=Qj i.blk 6;rw[HVA.o]at n6
      have ah:K.ownsRow B 9 1 (.slice va z.vl.length vc) z.vl.length (QW z.vl):=by
       have h:=i.v;rw[<-HVA.o];exact h
      have aM:=A.1.size;clear aa X U ac i A ai C S d5 d6;go_wp2_with (first|(at_builtin;refine Kf _ rfl _ _ 61 rfl B 9 i0 (.string ⟨#[]⟩) 1 16 Uw hi ar au aw rfl Qb _ _ _ rfl (ah.alloc _) ⟨K.heap.size,0,none⟩ 1 1 [Qf Z] rfl rfl ?e1 ?e2 ?e3 ?e4 ?e5 ?_)|(rw[<-aX.o]))
      all_goals first|rfl|omega|(unfold maxLen;omega)|(simp;omega)|(intro j u a;match j,a with|0,a=>simp at a;subst a;simp[Addr.add])|(intro u F;simp at F;subst F;rfl)|skip
      .intro v8 w8 ab Y _ V;rw[<-HVA.o]at Y V;obtain⟨hK9,W,aj⟩:=aU.appVV (x:=Z) Y ab V hZl;have D:=aU.blk;unfold SB at D;rw[<-aj]at D;have t8:=Qj D 6;rw[HVA.o]at t8;have f8:=QQ D;obtain⟨p8,m8,c8,rfl⟩:=DN ab
       have HFIN:Hid (StI (w8.setCell ⟨sb,6,none⟩ (.slice p8 m8 c8)) B sb M (Ur s nm tag x) ⟨z.hv,.slice p5 m5 c5,.slice p8 m8 c8,z.cv,z.av,z.ns++[nm],z.vl++[Z]⟩ (q+1) kp en er pz):=hK9.toI (by rw [HSET.o]) (by rw [HSET.o]) (by rw [HSET.o]) (by show (z.ns++[nm]).length=(z.vl++[Z]).length;rw [Qz,Qz,HLL.o];rfl) (by show (z.ns++[nm]).length<=_;rw [Qz];simp;omega) (fun y=>by
        rw[HSET.o];show(if y=nm then some Z else s.vals y)=lookQ (z.ns++[nm]) (z.vl++[Z]) y
        rw [L7 z.ns z.vl nm Z HLL HNA2 y,HS.vals y])
       have aS:=O W;clear ab Y V ah hK9 W aj D n6 t5;go_wp2;go_end0;exact⟨rfl,⟨((f.mono R).trans aR.1).trans aS.1,((Js f).trans aR.2).trans aS.2⟩,_,HFIN⟩
theorem QxN(nm:L8)(tag:Int)(h:StI w B sb M s z q kp en er pz)(hq:q<=1000000)(hx:x.length<=100000)(ht:tag=0\/tag=1\/tag=2\/tag=3):Calls prog 50 #[Qc sb,Qf nm,Qf x,Qa tag] w fun e w'=>e=.returned (.tuple #[])/\Below B w w'/\∃z',StI w' B sb M (Ur s nm tag x) z' (q+1) kp en er pz:=
 (P6 nm h hq hx ht).mono fun e w' hh=>⟨hh.1,hh.2.1.1,hh.2.2⟩
end
def keepB(s:SS):Bool:=s.met.isEmpty && !s.disc
def RP(B sb:Nat)(M:Msg)(q:Nat)(pz:Int)(r:CR)(w':World):Prop:=
 match r with
 | .ok (t,b)=>∃z',StI w' B sb M t z' q (keepB t) b 0 pz
 | .error (c,p)=>¬c=0/\∃s' z' kp',StI w' B sb M s' z' q kp' true c p
theorem RP.more{B f:Nat}{M:Msg}{q e:Nat}{d:Int}{r:CR}{w':World}(h:RP B f M q d r w')(a:q<=e):RP B f M e d r w':=by
 match r,h with
 | .ok (t,b),⟨z',h⟩=>exact⟨z',h.more a⟩
 | .error (c,p),⟨hc,s',z',kp',h⟩=>exact⟨hc,s',z',kp',h.more a⟩
theorem RP.below{B e:Nat}{M:Msg}{q:Nat}{d:Int}{r:CR}{w w':World}(h:RP B e M q d r w)(a:Qo w w'):RP B e M q d r w':=by
 match r,h with
 | .ok (t,b),⟨z',h⟩=>exact⟨z',h.below a⟩
 | .error (c,p),⟨hc,s',z',kp',h⟩=>exact⟨hc,s',z',kp',h.below a⟩
def Fi(r:CR):Bool:=
 match r with
 | .ok (_,b)=>b
 | .error _=>true
theorem RP.ends{a:Nat}{r:CR}(h:RP B a M q d r w'):w'.cell? (Ql a 10)=some (.bool (Fi r))/\a<w'.heap.size/\B<=a:=by
 match r,h with
 | .ok (t,b),⟨z',h⟩=>exact⟨Qj h.blk 10,h.lt,h.hB⟩
 | .error (c,p),⟨hc,s',z',kp',h⟩=>exact⟨Qj h.blk 10,h.lt,h.hB⟩
def Nn(B:Nat)(M:Msg)(w0:World)(lv:Value)(cnt:Nat)(ev:SS->CR):Prop:=
 ∀W sb s z q pz,Below B w0 W->StI W B sb M s z q (keepB s) false 0 pz->q+cnt<=1000000->Calls prog 56 #[Qc sb,lv] W fun e w'=>e=.returned (.tuple #[])/\Below B W w'/\RP B sb M (q+cnt) pz (ev s) w'
theorem QzV{met:List (Int×L8)}{arg:L8}(h:(addL met kind arg).1=0):(addL met kind arg).2≠[]:=by
 rw[MM]at h ⊢
 split at h
 .cases h
 .split at h
  .cases h
  .rename_i h1 h2;rw[Qg h1,Qg h2];unfold Kx at h ⊢;by_cases hm:(kind,cutArg kind arg)∈met
   .rw[Qi hm];exact List.ne_nil_of_mem hm
   .rw[Qg hm]at h ⊢
    split at h
    .cases h
    .split at h
     .cases h
     .rename_i h3 h4;rw[Qg h3,Qg h4];simp
theorem QyT(s:SS)(h:m≠[]):keepB (Y2 s m)=false:=by
 show(m.isEmpty && !s.disc)=false
 cases m with
 |nil=>exact absurd rfl h
 |cons a r=>rfl
theorem Vm.run{b:Int}{pos:Nat}(h:Vm B c M s q false b (pos:Int) (addL s.met kind (expL s x)) w'):RP B c M q b (UQ s kind x pos) w':=by
 obtain⟨d,f,a,e⟩:=h;unfold UQ;by_cases h0:(addL s.met kind (expL s x)).1=0
 .rw[Qi h0];rw[Qi h0,Qi h0,h0,e h0]at a;refine⟨d,?_⟩;rw[QyT s (QzV h0)];exact a
 .rw[Qg h0];rw[Qg h0,Qg h0]at a;exact⟨h0,_,d,f,a⟩
theorem QtH(b:α->SS->CR){a:List α}(h:k<a.length):bEval b (a.drop k) s=match b a[k] s with
 | .error e=>.error e
 | .ok (s',true)=>.ok (s',true)
 | .ok (s',false)=>bEval b (a.drop (k+1)) s':=by
 rw[Xt h];rfl
theorem QtT{β:Type}(b:β->SS->Bool×SS)(c:α->SS->CR){d:List α}{a:List (β×List α)}(h:k<a.length):VP b c d (a.drop k) s=if(b a[k].1 s).1=true then bEval c a[k].2 (b a[k].1 s).2 else VP b c d (a.drop (k+1)) (b a[k].1 s).2:=by
 rw[Xt h];rfl
section
attribute [local go_sem ↓] Zt Zu
def K0(lv:Value)(f:Option FZ):Value:=.agg #[lv,Qa ((f.getD (0,0)).1),Qa ((f.getD (0,0)).2)]
def Ab(B:Nat)(w:World)(r:List (Int×L8)×Option FZ)(e:Ending)(w':World):Prop:=
 (Below B w w'/\KB w w')/\∃lv,e=.returned (K0 lv r.2)/\w'.ownsRow B 52 2 lv r.1.length (ZG r.1)
theorem Qyy{W:World}(hg:B<=g)(h:W.heap[g]?=some (Qe #[Qa 1,.string ⟨#[]⟩] 52)):W.ownsRow B 52 2 (Qs g 1 1) 1 (ZG [(1,[])]):=
 ⟨rfl,Qr ⟨g,1,#[Qa 1,.string (sA [])],rfl,hg,h,Q4 _,Qb,rfl,rfl⟩⟩
theorem QxH:Kx [] ((1:Int),([]:L8))=(0,[(1,[])]):=Qb
theorem TW{d:Bool}{c:Int}(h:StI w B b M s z q d true c p)(a:¬c=0):Calls prog 51 #[Qc b] w (Ab B w ([(1,[])],some (c,p))):=by
 have e:=Qj h.blk 11;have f:=Qj h.blk 12;have j:=h.lt;have g:=h.hB;have i:(c != 0)=true:=by simpa using a
 clear a h;go_enter func51,ntmps51;go_wp2;go_region;go_wp2;refine Q_ (v:=K0 (.slice (some ⟨w.heap.size+1,0,none⟩) 1 1) (some (c,p))) (by simp[results,results51,go_sem,K0]) rfl ?_;refine⟨⟨(((QO _ _).alloc I _).alloc (by simp;omega) _).drew,Js ((QH _).alloc Qh _).drew⟩,_,rfl,?_⟩;exact Qyy I (ZB Qh)
theorem QtN{n:Bool}{f:Int}(h:StI w B c M s z q (keepB s) n 0 f):Calls prog 51 #[Qc c] w (Ab B w (K1 s,none)):=by
 have ad:=Qj h.blk 11;have c9:=Qj h.blk 9;have ae:=Qj h.blk 12;have S:=Qj h.blk 8;have ah:=h.lt;have hB:=h.hB;have H:=O h;obtain⟨la,lc,u⟩:=Zj h.a;have ai:=O u;rw[u]at S;clear h u
 cases b:keepB s with
 |false=>
  rw[b]at c9
  have l:Hid (K1 s=s.met):=by
   show _=_
   unfold K1;unfold keepB at b;rw[Qg];rintro⟨V,X⟩;rw[V,X]at b;cases b
  clear b;go_enter func51,ntmps51;go_wp2;refine Q_ (v:=K0 (.slice la s.met.length lc) none) (by simp[results,results51,go_sem,K0]) rfl ?_;refine⟨⟨(QO _ _).alloc I _,Js (QH _)⟩,_,rfl,?_⟩;rw[l.o,<-ai.o];exact H.a.alloc _
 |true=>
  rw[b]at c9
  have r:s.met=[]/\s.disc=false:=by
   unfold keepB at b;rw[Jl]at b;exact⟨List.isEmpty_iff.1 b.1,by simpa using b.2⟩
  have l:Hid (K1 s=[(1,[])]):=by
   show _=_
   unfold K1;rw[Qi r]
  have Q:=O (r.1)
  have R:Hid (∀W,Qo w W->Calls prog 79 #[Qc c,.agg #[Qa 1,.string ⟨#[]⟩],Qa f] W fun e D=>e=.returned (.tuple #[])/\(Below B W D/\KB W D)/\Uq B c M s q true n f f (0,[(1,[])]) D):=by
   intro W hW;have J:=H.o.below hW;rw[b]at J;have:=On (a:=(1,[])) f J;rw[Q.o,QxH]at this;exact this
  have m:Hid (∀o,Qo w (w.alloc o)):=fun o=>QH o
  clear b r;go_enter func51,ntmps51;go_wp2_with (first|(go_at_call 79;refine Qv (R _ (m _)) ?_;rintro E ⟨j,ac⟩;obtain⟨K,i⟩:=ac;have G:=O i;have L:=O (((m _).mono I).trans j.1);have N:=O ((Js (m _)).trans j.2);have d:=j.2 w.heap.size _ _ (Q0) Qb;have F:=O d;have r0:=Qj d 0;have r1:=Qj d 1;have r2:=Qj d 2;have rf:=QQ d;have af:=E2 i.blk;have Y:=Cv i.blk;obtain⟨A,C,x⟩:=Zj i.a;have P:=O x;rw[x]at Y;clear j i x d;skip));obtain⟨U,g⟩:=Q3 ((((E.setCell ⟨w.heap.size,0,none⟩ (.slice A (Y2 s [(1,[])]).met.length C)).setCell ⟨w.heap.size,1,none⟩ (Qa 0)).setCell ⟨w.heap.size,2,none⟩ (Qa 0)));rw[<-g];have p:U.heap[w.heap.size]?=some (Qe #[.slice A (Y2 s [(1,[])]).met.length C,Qa 0,Qa 0] 70):=by rw[g];exact QM (QM (QM F))
  have y0:=Qj p 0;have y1:=Qj p 1;have y2:=Qj p 2;have aa:Below B w U:=by rw[g];exact((L.setCell (by show B<=w.heap.size;omega) _).setCell (by show B<=w.heap.size;omega) _).setCell (by show B<=w.heap.size;omega) _
  have y:=XG G.a F Qb;have Z:U.ownsRow B 52 2 K.av (Y2 s [(1,[])]).met.length (ZG (Y2 s [(1,[])]).met):=by rw[g];exact Yk (Yk (Yk G.a y) y) y
  refine Q_ (v:=K0 (.slice A (Y2 s [(1,[])]).met.length C) none) (by simp[results,results51,go_sem,K0,y0,y1,y2]) rfl ?_
  have ab:KB w U:=fun k T t b ht=>by
   have ag:=QI b;rw[g,Q' (show k≠w.heap.size by omega),Q' (show k≠w.heap.size by omega),Q' (show k≠w.heap.size by omega)];exact N k T t b ht
  refine⟨⟨aa,ab⟩,_,rfl,?_⟩;rw[l.o,<-P.o];exact Z
theorem RP.len{d:Nat}{a:Int}{r:CR}(h:RP B d M q a r w):(sayE r).1.length<=7:=by
 match r,h with
 | .ok (t,b),⟨z',h⟩=>
  have:=h.six;show(K1 t).length<=7
  unfold K1;split
  .exact Nat.le_add_left 1 6
  .omega
 | .error (c,p),_=>exact Nat.le_add_left 1 6
theorem TA{a:Nat}(r:CR)(h:RP B a M q d r w):Calls prog 51 #[Qc a] w (Ab B w (sayE r)):=by
 match r,h with
 | .ok (t,b),⟨z',h⟩=>exact QtN h
 | .error (c,p),⟨hc,s',z',kp',h⟩=>exact TW h hc
end
end Go.Proofs.YtgnkjijocdmniaaGreatDoor
