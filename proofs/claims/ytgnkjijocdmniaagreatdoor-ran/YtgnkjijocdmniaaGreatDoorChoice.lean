import Derived.Deep.AppendLies
import Derived.Test.YtgnkjijocdmniaaGreatDoorZQMatch
namespace Go.Proofs.YtgnkjijocdmniaaGreatDoor
set_option linter.all false
set_option maxRecDepth 100000
set_option maxHeartbeats 4000000
open Go.Proofs.Tryz
open Go.RowKit
attribute [local go_sem ↓] Zt Zu
def NR{α β:Type}(l:L8)(F:Nat)(tst:PS->Qq (β×PS))(sub:PS->Qq (α×PS))(s:PS):Qq ((List (β×List α)×Bool×List α)×PS):=
 QL (armL l F tst sub s) fun a s1=>QL (aMr l F tst sub F [a] s1) fun arms s2=>QL (mayL l [Yv] s2) fun i s3=>
  if i=0 then .ok ((arms,false,[]),s3)else QL (blockL l F sub s3) fun cs s4=>.ok ((arms,true,cs),s4)
abbrev E0(hw:L8)(hp:Nat)(av:Value):Obj:=Qe #[Qf hw,Qa hp,av,.bool false,Qp] 261
abbrev Uf:Obj:=Qe #[.string ⟨#[]⟩,Qa 0,Qp,.bool false,Qp] 261
variable{α β:Type}{B F T base n size:Nat}{a:β×List α}{b:(Nat->Prop)->β->World->Value->Prop}{d u v x:Value}{e:TypeId}{s:PS}{sub:PS->Qq (α×PS)}{t:ByteArray}{tst:PS->Qq (β×PS)}{w:World}{y:(β×List α)×PS}
theorem Tryz.infoArm:(prog.info? 298).map (fun i=>(i.zero,i.size,i.bytes))=some (some (.agg #[.nilIface,Qp]),2,40):=Qm
theorem Sj{y:Value}{t:TypeId}:∀j u,[x,y][j]?=some u->(w.alloc (Qe #[x,y] t)).cell? ((⟨w.heap.size,0,none⟩:Addr).add j)=some u:=by
 intro j u a
 match j,a with
 |0,a=>simp at a;subst a;simp[Addr.add]
 |1,a=>simp at a;subst a;simp[Addr.add]
theorem PE{f:(Nat->Prop)->α->World->Value->Prop}(j:TreeP b){X Y:Nat->Prop}(g:b X a.1 w u)(i:blX Y f a.2 w d):∀x∈[u,d],x.oneCell'=true:=by
 obtain⟨k,x,rfl⟩:=j.form _ _ _ _ g;obtain⟨a,n,c,rfl⟩:=i.form;intro x e;simp at e;rcases e with rfl|rfl<;>rfl
theorem QuL{l:(Nat->Prop)->β->World->Value->Prop}{m:(Nat->Prop)->α->World->Value->Prop}(y:TreeP l)(z:TreeP m){b g p f q:Nat}{F:Value}{D E:Nat}{d i:World}{o r:Obj}{acc:List (β×List α)}{c:Value}{x:List Value}
 (J:XY l m base T d (Qs g n p) a u c) (L:Jf (fun a u c=>XY l m base T d (Qs g n p) a u c) acc x) (A:d.heap[T]?=some o) (G:RC d b t s F D E) (K:Mod b w d) (S:i.ownsRow base e 2 (Qs f (n+1) q) (n+1) (x++[u,c])) (j:(d.alloc r).grownBy i (some g)) (B:(Value.slice (some ⟨g,0,none⟩) n p).ownBlock=some f\/f=(d.alloc r).heap.size) (Q:w.heap.size<=T) (N:¬T=b) (H:g≠T) (R:b<base/\base<=g/\base=w.heap.size) :
 i.heap[T]?=some o/\RC i b t s F D E/\Mod b w i/\f≠T/\Jf (fun a u c=>XY l m base T i (Qs f (n+1) q) a u c) (acc++[a]) (x++[u,c]):=by
 have P:=QI A
 have C:(Value.slice (some ⟨f,0,none⟩) (n+1) q).ownBlock=(Value.slice (some ⟨g,0,none⟩) n p).ownBlock\/(Value.slice (some ⟨f,0,none⟩) (n+1) q).ownBlock=some (d.heap.size+1):=by
  rcases B with h|h
  .left;rw[h];rfl
  .right;rw[h];simp[Value.ownBlock]
 refine⟨?_,(G.alloc r).grown j (fun k v=>by cases v;omega),(K.alloc r).grown j (fun k v=>by cases v;omega),?_,?_⟩
 .rw[j.block T (by simp;omega) (fun h=>H (by cases h;rfl))];exact QJ A
 .rcases B with h|h
  .simp[Value.ownBlock]at h;omega
  .simp at h;omega
 .exact Jf.snoc (J.grown y z j C) (L.imp (fun a u c M=>M.grown y z j C))
def N8{α β:Type}(l:L8)(F:Nat)(sub:PS->Qq (α×PS))(arms:List (β×List α))(s2:PS):Qq ((List (β×List α)×Bool×List α)×PS):=
 QL (mayL l [Yv] s2) fun i s3=>if i=0 then .ok ((arms,false,[]),s3)else QL (blockL l F sub s3) fun cs s4=>.ok ((arms,true,cs),s4)
theorem NB{l:L8}(h:armL l F tst sub s=.ok y):NR l F tst sub s=QL (aMr l F tst sub F [y.1] y.2) (N8 l F sub):=Qx h
theorem XY.first{c:(Nat->Prop)->α->World->Value->Prop}(i:TreeP b)(j:TreeP c)(h:b (fromB B) a.1 w u)(e:blX (fromB B) c a.2 w d)(f:base<=B)(l:∀g,v.ownBlock=some g->w.heap.size<=g)(m:T<B\/w.heap.size<=T):XY b c base T w v a u d:=
 ⟨fun k=>B<=k/\k<w.heap.size,i.weak _ _ _ _ _ h (fun k hk hz=>⟨hk,hz⟩),e.weak j (fun k hk hz=>⟨hk,hz⟩),fun k hk=>⟨QE f hk.1,hk.2⟩,fun g hg hX=>by have:=l g hg;omega,fun hX=>I⟩
theorem Wv{g:Nat}{cs:Array Value}(h:w.heap[g]?=some (Qe cs e))(hb:base<=g)(hm:n<=maxLen)(hs:cs.size=n*size):w.ownsRow base e size (Qs g n n) n cs.toList:=
 ⟨by simpa using hs,.inr ⟨g,n,cs,rfl,hb,h,Q4 _,hm,hs,Z7 (by rw[Array.length_toList,hs];exact QF)⟩⟩
theorem F5{o:Nat}{xs:List Value}(h:w.ownsRow base e size v n xs)(i:∀g,v.ownBlock=some g->g≠T):(w.setCell ⟨T,o,none⟩ x).ownsRow base e size v n xs:=by
 obtain⟨f,a⟩:=h;refine⟨f,?_⟩;rcases a with a | ⟨g,c,d,b,j,k,r⟩
 .exact Qt a
 .exact Qr ⟨g,c,d,b,j,by rw[Q' (show g≠T from i g (by rw[b];rfl))];exact k,r⟩
theorem Qwf:∀z∈([YB]:Qn),z≠[]:=Qb
theorem P9(d:∀s,Gd t.data.toList s->Dn 1 t.data.toList (tst s) s)(c:∀s,Gd t.data.toList s->Dn 1 t.data.toList (sub s) s)(a:s.2<=t.size)(b:s.1.kind=0->s.1.spelt=[])(e:armL t.data.toList F tst sub s=.ok y):mu t.size y.2<mu t.size s:=by
 have:=(ER d c ⟨by simpa using a,b⟩ y e).2;rw[bal]at this;omega
theorem QtY{W:(Nat->Prop)->β->World->Value->Prop}{K:(Nat->Prop)->α->World->Value->Prop}{hw:L8}{R:Nat}{d:Int}{b:Nat}{D:Value}{C:Nat}(h:RC w b t s D B C)(hF:2*t.size+1<F)(a3:0<=d)(a4:d<=100)(j:TreeP W)(i:TreeP K)(hS:SubMu t.size sub)(a6:∀s,Gd t.data.toList s->Dn 1 t.data.toList (tst s) s)(a5:∀s,Gd t.data.toList s->Dn 1 t.data.toList (sub s) s)(aB:Je 186 w b t D B C (d+1) tst W)(ar:Je 143 w b t D B C (d+1) sub K):Calls prog 126 #[Qc b,Xn hw R,Qa d] w (Qy (NR t.data.toList F tst sub s) b t D B C w (fun x w' v=>∃av ev,v=.iface 261 (.agg #[Qf hw,Qa R,av,.bool x.2.1,ev])/\Kc (fromB w.heap.size) W K x.1 w' av/\x.1≠[]/\blX (fromB w.heap.size) K x.2.2 w' ev)):=by
 have H:=O h;have bS:=h.at_.lt;clear h;change Qd _ at j i hS;replace aB:=O aB;replace ar:=O ar;unfold Xn;obtain⟨i0,hi,bI,bJ,bK⟩:=ZU Tryz.infoArm;go_enter func126,ntmps126;go_upto_region 1 with fail
 have bF:¬w.heap.size=b:=I
 have bG:¬w.heap.size+1=b:=I
 go_cut [7] (fun v wc=>∃(T G:Nat) (y:(β×List α)×PS) (u p:Value),v=(Qc T)/\armL t.data.toList F tst sub s=.ok y/\RC wc b t y.2 D B C/\Mod b w wc/\w.heap.size<=T/\w.heap.size<=G/\T≠G/\wc.heap[T]?=some (E0 hw R (Qs G 1 1))/\wc.heap[G]?=some (Qe #[u,p] 298)/\XY W K w.heap.size T wc (Qs G 1 1) y.1 u p)
 case first=>
  go_region_with (go_at_call 183;refine(Oe (s:=s) (by first|exact(H.o.alloc _).drew|exact((H.o.alloc _).alloc _).drew) hF a3 a4 j i hS (aB.o.mod (by first|exact((Mod.refl b w).alloc _).drew|exact(((Mod.refl b w).alloc _).alloc _).drew)) (ar.o.mod (by first|exact((Mod.refl b w).alloc _).drew|exact(((Mod.refl b w).alloc _).alloc _).drew))).mono ?_;intro e c E;rcases E.cases with⟨y,v,S,rfl,hv,hc,A⟩ | ⟨f,hf,⟨N,U,rfl,P⟩,A⟩;rotate_left;exact⟨rfl,Qy.err (QC hf) (by first|exact((Mod.refl b w).alloc _).trans (Z0 A)|exact(((Mod.refl b w).alloc _).alloc _).trans (Z0 A)) ⟨N,by simp at U;omega,rfl,P⟩⟩;obtain⟨u,p,rfl,L,a1⟩:=hv;have bM:=A.size;simp at bM;have bg:w.heap.size<c.heap.size:=I;have aN:=QY (g:=w.heap.size) (o:=Qe #[Qf hw,Qa R] 216) (by first|exact Q0|exact QJ (Q0)) (Z0 A) bF;have bA:=Zs aN;have bC:=Q9 aN;clear aN;have bB:∀o,(c.alloc o).cell? (Ql w.heap.size 0)=some (Qf hw):=(fun o=>by rw[YR _ _ _ bg];exact bA);have bD:∀o,(c.alloc o).cell? (Ql w.heap.size 1)=some (Qa R):=(fun o=>by rw[YR _ _ _ bg];exact bC);have bQ:∀o o',((c.alloc o).alloc o').cell? (Ql w.heap.size 0)=some (Qf hw):=(fun o o'=>by rw[YR _ _ _ (by simp;omega)];exact bB o);have bR:∀o o',((c.alloc o).alloc o').cell? (Ql w.heap.size 1)=some (Qa R):=(fun o o'=>by rw[YR _ _ _ (by simp;omega)];exact bD o);(first|(have tb:=QY (g:=w.heap.size+1) (o:=Uf) (ZB Qh) (Z0 A) bG;have t0:∀o,(c.alloc o).cell? ⟨w.heap.size+1,0,none⟩=some (.string ⟨#[]⟩):=(fun o=>Qj (QJ tb) 0);have t1:∀o,(c.alloc o).cell? ⟨w.heap.size+1,1,none⟩=some (Qa 0):=(fun o=>Qj (QJ tb) 1);have t2:∀o,(c.alloc o).cell? ⟨w.heap.size+1,2,none⟩=some Qp:=(fun o=>Qj (QJ tb) 2);have t3:∀o,(c.alloc o).cell? ⟨w.heap.size+1,3,none⟩=some (.bool false):=(fun o=>Qj (QJ tb) 3);have t4:∀o,(c.alloc o).cell? ⟨w.heap.size+1,4,none⟩=some Qp:=(fun o=>Qj (QJ tb) 4);have tf:=(fun o=>QQ (QJ (o':=o) tb));have TB:=O tb;clear tb)|(have t0:∀o,((c.alloc Uf).alloc o).cell? (Ql c.heap.size 0)=some (.string ⟨#[]⟩):=(fun o=>Qj (QJ (Q0 (w:=c) (o:=Uf))) 0);have t1:∀o,((c.alloc Uf).alloc o).cell? (Ql c.heap.size 1)=some (Qa 0):=(fun o=>Qj (QJ (Q0 (w:=c) (o:=Uf))) 1);have t2:∀o,((c.alloc Uf).alloc o).cell? (Ql c.heap.size 2)=some Qp:=(fun o=>Qj (QJ (Q0 (w:=c) (o:=Uf))) 2);have t3:∀o,((c.alloc Uf).alloc o).cell? (Ql c.heap.size 3)=some (.bool false):=(fun o=>Qj (QJ (Q0 (w:=c) (o:=Uf))) 3);have t4:∀o,((c.alloc Uf).alloc o).cell? (Ql c.heap.size 4)=some Qp:=(fun o=>Qj (QJ (Q0 (w:=c) (o:=Uf))) 4);have tf:=(fun o=>QQ (QJ (o':=o) (Q0 (w:=c) (o:=Uf))))));have HY:=O S;have HC:=O hc;have HU:=O L;have aD:=O a1;have aE:Hid (Mod b w c):=(by first|exact((Mod.refl b w).alloc _).trans (Z0 A)|exact(((Mod.refl b w).alloc _).alloc _).trans (Z0 A));clear E S hc A L a1;skip)
  all_goals (go_wp2_with fail;go_meet)
  all_goals first
   |(have bN:=TB;exact⟨w.heap.size+1,c.heap.size,y,u,p,rfl,HY,(((((HC.o.alloc _).setNew I _ _).setNew I _ _).setNew I _ _).setNew I _ _).setNew I _ _,(((((aE.o.alloc _).setNew I _ _).setNew I _ _).setNew I _ _).setNew I _ _).setNew I _ _,I,I,I,QM (QM (QM (QM (QM (QJ TB))))),by rw[Q' (show c.heap.size≠w.heap.size+1 by omega),Q' (show c.heap.size≠w.heap.size+1 by omega),Q' (show c.heap.size≠w.heap.size+1 by omega),Q' (show c.heap.size≠w.heap.size+1 by omega),Q' (show c.heap.size≠w.heap.size+1 by omega)];exact Q0,((((((XY.first j i HU aD (by simp;omega) (fun g hg=>by simp[Value.ownBlock]at hg;omega) Qh).mod j i ((Mod.refl b c).alloc _) I).set j i _ _).set j i _ _).set j i _ _).set j i _ _).set j i _ _⟩)
   |exact⟨c.heap.size+1,c.heap.size,y,u,p,rfl,HY,(HC.o.alloc _).alloc _,(aE.o.alloc _).alloc _,I,I,I,ZB Qh,QJ (Q0),((XY.first j i HU aD Qh (fun g hg=>by simp[Value.ownBlock]at hg;omega) (Qr I)).mod j i ((Mod.refl b c).alloc _) I).mod j i ((Mod.refl b _).alloc _) I⟩
   |exact⟨c.heap.size,c.heap.size+1,y,u,p,rfl,HY,(HC.o.alloc _).alloc _,(aE.o.alloc _).alloc _,I,I,I,QJ (Q0),ZB Qh,((XY.first j i HU aD Qh (fun g hg=>by simp[Value.ownBlock]at hg;omega) (Qr I)).mod j i ((Mod.refl b c).alloc _) I).mod j i ((Mod.refl b _).alloc _) I⟩
 case rest=>
  obtain⟨T,G,y,u,p,rfl,S,hc,A,hT,hG,bs,af,aJ,aM⟩:=hcut;have aU:=O af;have ao:¬T=b:=I
  have bE:=hc.mu_le;have a8:=hc.mu_lt hF;clear af;change Qd _ at S hc A aJ aM a6 a5;go_wp2_with fail
  go_loopw [] (fun wr=>∃(J:PS) (m:List (β×List α)) (vs:List Value) (f g q:Nat),wr.ownsRow w.heap.size 298 2 (Qs g m.length q) m.length vs/\Jf (fun a u p=>XY W K w.heap.size T wr (Qs g m.length q) a u p) m vs/\m≠[]/\g≠T/\wr.heap[T]?=some (E0 hw R (Qs g m.length q))/\RC wr b t J D B C/\Mod b w wr/\mu t.size J<f/\m.length+mu t.size J<=1300/\QL (aMr t.data.toList F tst sub F [y.1] y.2) (N8 t.data.toList F sub)=QL (aMr t.data.toList F tst sub f m J) (N8 t.data.toList F sub)) (fun wr=>muW wr b t.size)
  case atStart=>
   exact⟨y.2,[y.1],[u,p],F,G,1,Wv (n:=1) aJ hG (by unfold maxLen;omega) rfl,⟨aM,trivial⟩,Qh,fun e=>bs e.symm,aU,hc,A,a8,by simp;omega,rfl⟩
  case round=>
   obtain⟨J,m,vs,f,g,q,aP,aR,aq,bx,af,aj,aA,hf,bP,aa⟩:=hrel;obtain⟨f,rfl⟩:∃g,f=g+1:=⟨f-1,I⟩;have bz:=(aP.lt g rfl).1;have bO:=QI af;clear hc aU aJ aM bE a8;change Qd _ at aa aP af;replace aj:=O aj;replace aA:=O aA;replace aR:=O aR;go_wp2_with fail;refine(NS 1 1 (aj.o.alloc _) (Ju wr [YB] rfl) rfl Qb).mono ?_;intro e w3 h3;rcases h3.cases with⟨y3,v3,ab,rfl,a9,ag,az⟩ | ⟨f3,bt,⟨N,U,rfl,P⟩,az⟩
   rotate_left
   .exact⟨rfl,Qy.err ((NB S).trans (aa.o.trans (QC (RA bt)))) ((aA.o.alloc _).trans az) ⟨N,by simp at U;omega,rfl,P⟩⟩
   have aO:=AN (l:=t.data.toList) (by simpa using aj.le) aj.e0 Qwf ab;rw[bal]at aO;replace aO:=aO.1;have Y:=((Mod.refl b wr).alloc (Qe #[Qf YB] 9)).trans az;have M:=O (aA.o.trans Y);have aF:=O (XP (b:=b) aP Y I);have aV:=O (aR.o.imp (fun a u p L=>XY.mod j i (b:=b) (w':=w3) L Y I));have ax:=O (QY af Y ao);have bL:=QI ax;unfold YP at a9;subst a9;clear h3 az Y;change Qd _ at ab;replace ag:=O ag;by_cases E:y3.1=0
   .have bq:¬(0:Int)<(y3.1:Int):=I
    change Qd _ at E;go_wp2_with fail;have HP:=O (NS 1 1 (ag.o.alloc (.cells (QW [Yv]).toArray 9)) (K' rfl) rfl Qb);refine HP.mono ?_;intro e V h4;rcases h4.cases with⟨y4,v4,ad,rfl,aC,ah,Q⟩ | ⟨f4,aL,⟨N,U,rfl,P⟩,Q⟩
    rotate_left
    .exact⟨rfl,Qy.err ((NB S).trans (aa.o.trans ((Qx (Bh ab E)).trans (QC aL)))) ((M.o.alloc _).trans Q) ⟨N,QE (M.o.alloc _).size U,rfl,P⟩⟩
    have Z:=((Mod.refl b w3).alloc (.cells (QW [Yv]).toArray 9)).trans Q;have ak:=O (M.o.trans Z);have aG:=O (XP (b:=b) aF Z I);have aH:=O (aV.o.imp (fun a u p L=>XY.mod j i (b:=b) (w':=V) L Z I));have z:=O (QY ax Z ao);have aT:=O (Kc.of_owns j i aG rfl aq (fun X bw=>by simp[Value.ownBlock]at bw;omega) aH);have q0:=Qj z 0;have q1:=Qj z 1;have q2:=Qj z 2;have q3:=Qj z 3;have q4:=Qj z 4;have tf:=QQ z;have bf:=QI z;unfold YP at aC;subst aC;clear h4 Q Z HP;change Qd _ at ad ah;by_cases h2:y4.1=0
    .have br:¬(0:Int)<(y4.1:Int):=I
     change Qd _ at h2;go_wp2;go_ret;exact Qy.ok ((NB S).trans (aa.o.trans ((Qx (Bh ab E)).trans ((Qx ad).trans (Qi h2))))) ak ⟨_,_,rfl,Kc.weak j i aq aT (fun k hk _=>hk.1),aq,Qt ⟨rfl,rfl⟩⟩ ah
    have br:(0:Int)<(y4.1:Int):=I
    change Qd _ at h2;go_wp2_with fail;have ay:=O (ak.setNew hT 3 (.bool true));refine(Lh (ah.setNew I 3 (.bool true)) hF i hS (ar.o.mod ay)).mono ?_;intro e w5 h5;rcases h5.cases with⟨y5,v5,bd,rfl,au,a2,ai⟩ | ⟨f5,bu,⟨N,U,rfl,P⟩,ai⟩
    rotate_left
    .exact⟨rfl,Qy.err ((NB S).trans (aa.o.trans ((Qx (Bh ab E)).trans ((Qx ad).trans ((Qg h2).trans (QC bu)))))) (ay.o.trans ai) ⟨N,QE ay.size U,rfl,P⟩⟩
    have bH:(V.setCell ⟨T,3,none⟩ (.bool true)).heap.size=V.heap.size:=by simp[World.setCell]
    rw[bH]at au;obtain⟨ba,bn,bc,rfl⟩:=au.form;have ae:=O (QY (QM (b:=T) (o:=3) (v:=.bool true) z) ai ao);have bh:=O ((aT.o.keep j i (AbvX.set (fun h=>h.2 rfl) 3 (.bool true))).keep j i (ai.abvX (fun h=>by have:=h.1;omega)));have bl:=O (ay.o.trans ai);have r0:=Qj ae 0;have r1:=Qj ae 1;have r2:=Qj ae 2;have r3:=Qj ae 3;have r4:=Qj ae 4;have rf:=QQ ae;clear h5 ai q0 q1 q2 q3 q4 tf;change Qd _ at bd a2;replace au:=O au;go_wp2;go_ret;exact Qy.ok ((NB S).trans (aa.o.trans ((Qx (Bh ab E)).trans ((Qx ad).trans ((Qg h2).trans (Qx bd)))))) (bl.setNew hT _ _) ⟨_,_,rfl,Kc.weak j i aq (bh.o.keep j i (AbvX.set (fun h=>h.2 rfl) _ _)) (fun k hk _=>hk.1),aq,blX.weak i (au.o.keep i (AbvX.set (IY bf) _ _)) (fun k hk _=>by unfold fromB at *;omega)⟩ (a2.setNew I _ _)
   have bq:(0:Int)<(y3.1:Int):=I
   change Qd _ at E;have q2:=Qj ax 2;go_wp2_with fail;go_region_law (first|(go_simp;go_at_call 183;refine(Oe ag.o.drew hF a3 a4 j i hS (aB.o.mod M.o.drew) (ar.o.mod M.o.drew)).mono ?_;intro e V h4;rcases h4.cases with⟨z4,v4,ad,rfl,aC,ah,Q⟩ | ⟨f4,aL,⟨N,U,rfl,P⟩,Q⟩;rotate_left;exact⟨rfl,Qy.err ((NB S).trans (aa.o.trans (QC (RB ab E aL)))) (M.o.trans (Z0 Q)) ⟨N,QE M.size (by simpa using U),rfl,P⟩⟩;obtain⟨u4,aX,rfl,aS,aK⟩:=aC;have ap:=Z0 Q;have bk:=O (XY.new j i (base:=w.heap.size) (T:=T) (v:=Qs g m.length q) aS aK M.size (fun k hk=>(aF.o.lt k hk).2) bL);have bo:=O (PE j aS aK);have aG:=O (XP (b:=b) aF ap I);have aH:=O (aV.o.imp (fun a u p L=>XY.mod j i (b:=b) (w':=V) L ap I));have z:=O (QY ax ap ao);have ak:=O (M.o.trans ap);have bi:=O ah;have aW:=O ad;have q4:=Xx z;have bV:∀o,(V.alloc o).cell? (Ql T 2)=some (Qs g m.length q):=(fun o=>Qj (QJ z) 2);have bf:w.heap.size<=V.heap.size:=ak.size;clear h4 ad ah Q ap aS aK;skip)|(refine step_append_lies _ rfl (.tmp 19) (.tmp 23) 259 rfl w.heap.size 298 i0 (.agg #[.nilIface,Qp]) 2 40 underlying259 hi bI bJ bK rfl Qb (Qs g m.length q) m.length vs (by simp[Act.eval,Act.put]) (aG.o.alloc _) ⟨V.heap.size,0,none⟩ 1 1 [u4,aX] (by simp[Act.eval,Act.put]) rfl (Sj) bo Qb (by unfold maxLen;omega) I (by first|omega|(simp;omega)|simp) _ rfl ?_;intro X ac w5 aQ a7 a0 bT;have aw:=(QuL j i bk aH z bi ak aQ a7 a0 hT ao bx ⟨I,bz,rfl⟩);have t2:=Xx aw.1;have tf:=QQ aw.1;have HA:=O aw;have bp:=O aQ;clear aw aQ a7 a0;skip))
   all_goals
    obtain⟨aY,aI,Y,Z,aZ⟩:=HA.o;have bU:=P9 a6 a5 ag.le ag.e0 aW
    have bm:Hid (muW (w5.setCell ⟨T,2,none⟩ (Qs X (m.length+1) ac)) b t.size<muW wr b t.size):=by
     show _<_
     rw[(aI.setNew I _ _).muEq,aj.muEq];omega
    have bj:Hid (∃(J:PS) (acc':List (β×List α)) (vs:List Value) (f g q:Nat),(w5.setCell ⟨T,2,none⟩ (Qs X (m.length+1) ac)).ownsRow w.heap.size 298 2 (Qs g acc'.length q) acc'.length vs/\Jf (fun a u p=>XY W K w.heap.size T (w5.setCell ⟨T,2,none⟩ (Qs X (m.length+1) ac)) (Qs g acc'.length q) a u p) acc' vs/\acc'≠[]/\g≠T/\(w5.setCell ⟨T,2,none⟩ (Qs X (m.length+1) ac)).heap[T]?=some (E0 hw R (Qs g acc'.length q))/\RC (w5.setCell ⟨T,2,none⟩ (Qs X (m.length+1) ac)) b t J D B C/\Mod b w (w5.setCell ⟨T,2,none⟩ (Qs X (m.length+1) ac))/\mu t.size J<f/\acc'.length+mu t.size J<=1300/\QL (aMr t.data.toList F tst sub F [y.1] y.2) (N8 t.data.toList F sub)=QL (aMr t.data.toList F tst sub f acc' J) (N8 t.data.toList F sub)):=by
     show ∃_,_
     have hl:(m++[z4.1]).length=m.length+1:=Qh
     refine⟨z4.2,m++[z4.1],vs++[u4,aX],f,X,ac,?_,?_,Qh,Z,?_,aI.setNew I _ _,Y.setNew hT _ _,I,by rw[hl];omega,aa.o.trans (ZI (fun r=>QL r (N8 t.data.toList F sub)) (Tp ab E aW))⟩
     .rw[hl];exact F5 bp (fun k hk=>by simp[Value.ownBlock]at hk;omega)
     .rw[hl];exact aZ.imp (fun a u p L=>L.set j i _ _)
     .rw[hl];exact QM (b:=T) (o:=2) aY
    clear aY aI Y Z aZ;go_wp2;go_roundw
    case rel=>exact bj
    case measure=>exact bm
end Go.Proofs.YtgnkjijocdmniaaGreatDoor
