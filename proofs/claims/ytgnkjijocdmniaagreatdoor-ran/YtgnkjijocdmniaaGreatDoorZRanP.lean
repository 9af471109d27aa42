import Derived.Test.YtgnkjijocdmniaaGreatDoorTie
import Derived.Test.YtgnkjijocdmniaaGreatDoorCards
import Derived.Test.YtgnkjijocdmniaaGreatDoorZMTable
import Derived.Test.YtgnkjijocdmniaaGreatDoorRowsC
namespace Go.Proofs.YtgnkjijocdmniaaGreatDoor
set_option linter.all false
set_option maxRecDepth 100000
set_option maxHeartbeats 4000000
open Go.Proofs.Tryz
open Go.RowKit
variable{B N p xb:Nat}{C cv d hv i lv s u v:Value}{M:Msg}{R:Except FZ MS}{X:Nat->Prop}{a b code:List Ins}{f:FuncId}{l:List (Int×L8)}{m:MS}{w w':World}{y:Qn×List (Q5 7)}
section
attribute [local go_sem ↓] Zt Zu
theorem Se(h:KL X y w v):KL (fun k=>k<w.heap.size) y w v:=by
 obtain⟨g,i,f,e,j,b,c,d⟩:=h;exact⟨g,i,f,e,QI b,b,c.weak (fun k _ a=>a),(Xk (XD 7)).weak _ _ _ _ _ d (fun k _ a=>a)⟩
def usesB(req:Qn):Bool:=decide (0<wL req Z8)
theorem Tu(g:Nat)(h:KL X y w (Qc g))(ha:∀c∈y.2,YE (WfT y.1) (WfC y.1) 7 c)(ax:(KU y).length<=90000)(aE:(XH y.2).length<=400)(hl:y.1.length<=100000)(Y:HdR w M hv)(hm:GK M):Calls prog 33 #[Qc g,A8 M hv] w fun e w'=>Ab w.heap.size w (sayE (bEval (evalC M 7) y.2 (ss0 (usesB y.1)))) e w'/\(sayE (bEval (evalC M 7) y.2 (ss0 (usesB y.1)))).1.length<=7:=by
 have h0:=Se h;obtain⟨g',K,N,hg,av,T,hn,f⟩:=h0;have aF:g=g':=by injection hg with h;injection h with h;injection h
 subst aF
 have ae:TxL w K y.1:=by
  rcases hn with h | ⟨g1,c1,h1,_,Q,_⟩
  .exact Qt h
  .exact Qr ⟨g1,c1,h1,Q⟩
 obtain⟨a1,n1,c1,aI⟩:∃a n c,K=.slice a n c:=by
  obtain⟨a,c,h,_⟩:=ae.form;exact⟨a,_,c,h⟩
 obtain⟨a2,n2,c2,aD⟩:∃a n c,N=.slice a n c:=by
  rcases f with⟨_,h⟩ | ⟨_,g5,c5,h,_⟩
  .exact⟨_,_,_,h⟩
  .exact⟨_,_,_,h⟩
 have aG:(ZJ (ZR 7) y.2 []).length<=90000:=by unfold KU at ax;rw[Qz]at ax;omega
 have aM:(Q2 (Xg 7) y.2).length<=400:=by rw[<-BN];exact aE
 obtain⟨S,ac,ag,_⟩:=id Y;unfold A8;rw[ag];obtain⟨b,m⟩:=Q3 ((w.alloc (Qe #[Qf M.fr,Qf M.to,Qa M.size,.slice S M.hdrs.length ac] 28)).alloc (Qe #[Qp,Qa 0,Qa 0] 70));have aY:=O m;have d:Qo w b:=by rw[m];exact(QH _).alloc Qh _
 have ao:RBk (w.heap.size+1) b:=by unfold RBk;rw[m];exact ZB Qh
 have A:b.heap[w.heap.size]?=some (Qe #[Qf M.fr,Qf M.to,Qa M.size,.slice S M.hdrs.length ac] 28):=by rw[m];exact QJ (Q0)
 have aK:b.heap.size=w.heap.size+2:=by rw[m];simp
 have aq:=(Xk (XD 7)).weak _ _ _ _ _ ((Xk (XD 7)).keep _ _ _ _ _ f (fun k Z _=>d.block k Z)) (fun k _ Z=>Z);have aB:=O (Qwn y.1 b.heap.size M 7 y.2 b N [] aq ha aG)
 have aw:HdR b M hv:=by
  obtain⟨p,c,e,Q⟩:=Y;refine⟨p,c,e,fun j hj=>?_⟩;obtain⟨P,ah,e2,h3,h4,h5⟩:=Q j hj;exact⟨P,ah,e2,I,by rw[d.cell (p:=⟨P,ah+j*2,none⟩) h3];exact h4,by rw[d.cell (p:=⟨P,ah+j*2+1,none⟩) h3];exact h5⟩
 have ai:=O (Bi K Z8 (ae.belowV d) I);have c0:b.cell? (Ql g 0)=some K:=by rw[d.cell (p:=⟨g,0,none⟩) av];exact Qj T 0
 have aL:b.cell? (Ql g 1)=some N:=by rw[d.cell (p:=⟨g,1,none⟩) av];exact Qj T 1
 have m0:=Qj A 0;have m1:=Qj A 1;have m2:=Qj A 2;have m3:=Qj A 3;have HU:Hid (usesB y.1=decide (0<wL y.1 Z8)):=rfl;have a0:=O aw;have aP:=O d;have aj:=O ao;have aN:g<b.heap.size:=I
 subst aI aD;have a3:=O aK;obtain⟨u,af⟩:=Qw (usesB y.1);rw[<-HU.o,af]at ai;rw[af];obtain⟨C,F⟩:=Q3 (b.alloc (Qe #[Qf M.fr,Qf M.to,Qa M.size,.slice S M.hdrs.length ac,.bool u,Qp,Qp,Qp,Qp,.bool true,.bool false,Qa 0,Qa 0] 104));have aZ:=O F;have D:Qo b C:=by rw[F];exact QH _
 have ap:=StI.new u D QF (by unfold SB;rw[F,ag];exact Q0) aw hm;have L:=O (aB C b.heap.size (ss0 u) _ 0 0 D ap I);have aT:=O D;obtain⟨t,q⟩:=Qw (b.heap.size);rw[q]at L;have aO:=O q;obtain⟨l,J⟩:=Qw (w.heap.size+1);rw[J]at aj;have aS:=O J;obtain⟨r,hr⟩:=Qw (bEval (evalC M 7) y.2 (ss0 u));rw[hr]at L;rw[hr];clear f aq hn ae Y hm hg ag m d ao A aK aw F D ap q J hr af T;go_enter func33,ntmps33;go_wp2_with (rw[<-aY.o]);refine ai.mono ?_;rintro e w9 ⟨rfl,rfl⟩;go_wp2_with fail;rw[<-aZ.o,aO.o];refine L.mono ?_;rintro e w3 ⟨rfl,ar,H⟩;have ay:=O (aT.o.trans (by rw[aO.o];exact ar));have aX:=O H;have aA:=O (TA r H);clear ar H;go_wp2_with fail;refine aA.mono ?_;rintro e w4 ⟨au,lv,rfl,G⟩;have R:=ay.o.trans (by rw[aO.o];exact au.1);have i:=aj.o.below R;have aR:=O i;have az:=O (aP.o.trans (R.mono aP.size));have aQ:=O G;have s0:=Qj i 0;have s1:=Qj i 1;have s2:=Qj i 2;have rf:=QQ i;obtain⟨la,B,aH⟩:=Zj G;subst aH;have ad:w.heap.size<=l:=by have:=aS.o;omega
 have aJ:w.heap.size<=t:=by have:=aO.o;have:=aP.size;omega
 unfold K0;obtain⟨x,V⟩:=Qw ((((sayE r).2).getD (0,0)).1);obtain⟨z,W⟩:=Qw ((((sayE r).2).getD (0,0)).2);obtain⟨s,aa⟩:=Qw ((sayE r).1.length);rw[V,W,aa];have aU:=O V;have aV:=O W;have aW:=O aa;rw[aS.o];clear i au G R V W aa;go_wp2;obtain⟨U,E⟩:=Q3 ((((w4.setCell ⟨l,0,none⟩ (.slice la s B)).setCell ⟨l,1,none⟩ (Qa x)).setCell ⟨l,2,none⟩ (Qa z)));rw[<-E];have f:U.heap[l]?=some (Qe #[.slice la s B,Qa x,Qa z] 70):=by rw[E];exact QM (QM (QM aR))
 have y0:=Qj f 0;have y1:=Qj f 1;have y2:=Qj f 2;have ak:Qo w U:=by rw[E];exact((az.setCell ad _).setCell ad _).setCell ad _
 have ab:=XG aQ aR Qb;have aC:U.ownsRow t 52 2 (.slice la (sayE r).1.length B) (sayE r).1.length (ZG (sayE r).1):=by rw[E];exact Yk (Yk (Yk aQ ab) ab) ab
 refine Q_ (v:=.agg #[.slice la s B,Qa x,Qa z]) (by simp[results,results33,go_sem,y0,y1,y2]) rfl ?_;refine⟨⟨⟨ak,Js ak⟩,.slice la s B,?_,?_⟩,aX.o.len⟩
 .rw[<-aU.o,<-aV.o];rfl
 .rw[<-aW.o];exact U6 aC aJ
theorem WO{a:Nat}{s:SS}(h:SAt w B a M s):Calls prog 107 #[Qc a] w fun e w'=>∃v,e=.returned v/\ActsV w' w.heap.size v (K1 s)/\Qo w w':=by
 have i:=O (h.below (Z9 (QO _ _)));obtain⟨t,x,z,y,b⟩:=h;have k:w.cell? (Ql a 8)=some (.bool s.disc):=b.cell 8;have m:=b.lt;clear b;go_enter func107,ntmps107;go_wp2_with fail;go_region_held3 (fun w'=>w'.cell? (Ql a 8)=some (.bool s.disc)) (first|go_keep|exact l) (first|(go_at_call 169;refine(Qw2 s.disc i rfl).mono ?_;rintro e q ⟨v,rfl,d,f⟩;have c:=Y9 f;have l:q.cell? (Ql a 8)=some (.bool s.disc):=(QN c k m);obtain⟨r,u,n⟩:=Zj d.1;subst n;have j:=O d;have g:=O c;clear d f c;skip))
 all_goals go_wp2
 all_goals go_ret
 all_goals exact⟨_,rfl,j,g⟩
theorem WW(p q:Addr) :
 CallsD prog 101 #[.pointer (some p),.pointer (some q)] .returning w fun e u' w'=>e=.returned (.tuple #[])/\u'=.returning/\w'=w:=by
 refine callsD_of_wpS func101 rfl fun a c b=>?_
 apply wpS_seq;apply wpS_region;simp[wpOpsS,go_sem,recoverD,b,ntmps101,Exit.thenS];refine Qu (If w) ?_;apply wpS_seq;apply wpS_region;simp[wpOpsS,go_sem,Exit.thenS];refine wpS_cond (t:=false) (by simp[Act.eval,Array.replicate]) ?_;simp only[J2,if_false];refine wpS_of_wp (wp_skip ?_);cases a;simp_all [bodyPostS,results,results101]
theorem Fo(P Q:Nat)(a:Addr)(i:List PanicEntry)(c:w.cell? (Ql P 0)=some s)(d:w.cell? (Ql Q 0)=some u)(q:∀j,w.frozen? ⟨P,j,none⟩=false)(r:∀j,w.frozen? ⟨Q,j,none⟩=false)(f:P≠Q) :
 CallsD prog 101 #[Qc P,Qc Q] (.panicking ({ v:=.iface 125 (.pointer (some a)),recovered:=false }::i)) w fun e u' w'=>
  e=.returned (.tuple #[])/\u'=.panicking ({ v:=.iface 125 (.pointer (some a)),recovered:=true }::i)/\∃v w1,ActsV w1 w.heap.size v [(1,[])]/\Qo w w1/\w'=(w1.setCell ⟨P,0,none⟩ v).setCell ⟨Q,0,none⟩ (.iface 125 (.pointer (some a))):=by
 refine callsD_of_wpS func101 rfl fun B A n=>?_
 apply wpS_seq;apply wpS_region;simp[wpOpsS,go_sem,recoverD,n,ntmps101,Exit.thenS];refine Qu (FW w) ?_;apply wpS_seq;apply wpS_region;simp[wpOpsS,go_sem,Exit.thenS];refine wpS_cond (t:=true) (by simp[Act.eval,Array.replicate]) ?_;simp only[if_true];apply wpS_region;simp[wpOpsS,go_sem,Exit.thenS];refine(L3).mono ?_;rintro e w1 ⟨v,rfl,g,b⟩;obtain⟨z,C,o⟩:=Zj g.1;subst o;have k:=(QN b c (QX c));have l:=(QN b d (QX d));have x:∀j,w1.frozen? ⟨P,j,none⟩=false:=fun j=>(b.frozen (p:=⟨P,j,none⟩) (show P<_ from QX (a:=⟨P,0,none⟩) c)).trans (q j)
 have y:∀j,w1.frozen? ⟨Q,j,none⟩=false:=fun j=>(b.frozen (p:=⟨Q,j,none⟩) (show Q<_ from QX (a:=⟨Q,0,none⟩) d)).trans (r j)
 have m:=Ne.symm f;simp[wpOpsS,go_sem,k,l,x,y,f,m,bodyPostS,results,results101];exact⟨_,w1,g,b,rfl⟩
theorem QzT(W:World):(binOp .neq 277 .nilFunc .nilFunc).run prog W=.ok (.bool false) W:=Qm
theorem Ot(W:World)(f:Fn)(a b:Array Value):(binOp .neq 277 (.func f a b) .nilFunc).run prog W=.ok (.bool true) W:=Qm
theorem VR(k:Nat)(n tag:Int)(oct:Bool){a b:Qn}(i:Int)(d l:Option Addr){g:Nat}{J:Nat}{F:Nat}(ab:∀args W,(callFunc f args).run prog W=.ok (.enter f args) W)(ae:1<=k)(ag:k<=14)(h:MAt w B xb J M m F)(hw:Ug w (xb+1))(H:(EW (xb+1))[k]?=some (.func (.func f) #[] #[]))
 (G:Calls prog f #[Qc xb,.agg #[Qa (k:Int),Qa n,Qa tag,.bool oct,.slice d a.length g,.slice l b.length p,Qa i]] (w.alloc (Qe #[Qa (k:Int),Qa n,Qa tag,.bool oct,.slice d a.length g,.slice l b.length p,Qa i] 63)).drew (QZ R B xb J M F (w.alloc (Qe #[Qa (k:Int),Qa n,Qa tag,.bool oct,.slice d a.length g,.slice l b.length p,Qa i] 63)).drew)):Calls prog 106 #[Qc xb,.slice (some ⟨xb+6,0,none⟩) 15 15,.agg #[Qa (k:Int),Qa n,Qa tag,.bool oct,.slice d a.length g,.slice l b.length p,Qa i]] w (QZ R B xb J M F w):=by
 have s:=O (h.below (Zg (o:=Qe #[Qa (k:Int),Qa n,Qa tag,.bool oct,.slice d a.length g,.slice l b.length p,Qa i] 63)));have T:=O (hw.below (Zg (o:=Qe #[Qa (k:Int),Qa n,Qa tag,.bool oct,.slice d a.length g,.slice l b.length p,Qa i] 63)));have hn:=Ot;have Y:=(Qj hw.tb k).trans H;have ah:=QI hw.tb;have ai:=O G;have K:Hid (∀W,Fr (PMc B xb) (w.alloc (Qe #[Qa (k:Int),Qa n,Qa tag,.bool oct,.slice d a.length g,.slice l b.length p,Qa i] 63)).drew W->W.cell? ⟨xb+6,k,none⟩=some (.func (.func f) #[] #[])):=fun W D=>(Qj (T.o.fr D).tb k).trans H
 have ad:(0:Int)<=(k:Int):=I
 have af:(k:Int)<15:=I
 clear h hw G H;go_enter func106,ntmps106;go_wp2_with (go_at_call 168;refine Qv (Ua) ?_;rintro c P;rw[P];clear P);refine Uy (S:=fun c=>c.cell? ⟨xb+6,k,none⟩=some (.func (.func f) #[] #[])/\c.cell? (Ql w.heap.size 0)=some (Qa (k:Int))/\c.cell? (Ql w.heap.size 1)=some (Qa n)/\c.cell? (Ql w.heap.size 2)=some (Qa tag)/\c.cell? (Ql w.heap.size 3)=some (.bool oct)/\c.cell? (Ql w.heap.size 4)=some (.slice d a.length g)/\c.cell? (Ql w.heap.size 5)=some (.slice l b.length p)/\c.cell? (Ql w.heap.size 6)=some (Qa i)) Qm ?_;have q:(fun c:World=>c.cell? ⟨xb+6,k,none⟩=some (.func (.func f) #[] #[])/\c.cell? (Ql w.heap.size 0)=some (Qa (k:Int))/\c.cell? (Ql w.heap.size 1)=some (Qa n)/\c.cell? (Ql w.heap.size 2)=some (Qa tag)/\c.cell? (Ql w.heap.size 3)=some (.bool oct)/\c.cell? (Ql w.heap.size 4)=some (.slice d a.length g)/\c.cell? (Ql w.heap.size 5)=some (.slice l b.length p)/\c.cell? (Ql w.heap.size 6)=some (Qa i)) (w.alloc (Qe #[Qa (k:Int),Qa n,Qa tag,.bool oct,.slice d a.length g,.slice l b.length p,Qa i] 63)).drew:=⟨K _ (Fr.refl _ _),(ZO s (Fr.refl _ _)).2 0,(ZO s (Fr.refl _ _)).2 1,(ZO s (Fr.refl _ _)).2 2,(ZO s (Fr.refl _ _)).2 3,(ZO s (Fr.refl _ _)).2 4,(ZO s (Fr.refl _ _)).2 5,(ZO s (Fr.refl _ _)).2 6⟩;refine QS 0 26 (.slice (some ⟨xb+6,0,none⟩) 15 15) rfl q (fun c ⟨t,u,v,x,y,z,A,C⟩=>by go_simp) ?_;simp only[pt,sz,sc];refine QS 1 27 (Qc w.heap.size) rfl q (fun c ⟨t,u,v,x,y,z,A,C⟩=>by go_simp) ?_;simp only[pt,sz,sc];refine QS 2 28 (Qa (k:Int)) rfl q (fun c ⟨t,u,v,x,y,z,A,C⟩=>by go_simp) ?_;simp only[pt,sz,sc];refine QS 3 29 (.pointer (some ⟨xb+6,k,none⟩)) rfl q (fun c ⟨t,u,v,x,y,z,A,C⟩=>by go_simp) ?_;simp only[pt,sz,sc];refine QS 4 30 (.func (.func f) #[] #[]) rfl q (fun c ⟨t,u,v,x,y,z,A,C⟩=>by go_simp) ?_;simp only[pt,sz,sc];refine QS 5 31 (Qc xb) rfl q (fun c ⟨t,u,v,x,y,z,A,C⟩=>by go_simp) ?_;simp only[pt,sz,sc];refine QS 6 32 (.agg #[Qa (k:Int),Qa n,Qa tag,.bool oct,.slice d a.length g,.slice l b.length p,Qa i]) rfl q (fun c ⟨t,u,v,x,y,z,A,C⟩=>by go_simp) ?_;simp only[pt,sz,sc];clear q;refine wpAnyH_all (rs:=[7]) Qm Qb (fun j L=>?_);simp only[List.mem_singleton]at L;subst L;refine Zp rfl (by rfl) ?_;go_simp;refine ai.mono ?_;intro e V E;rcases E.cases with⟨D,⟨m',U,rfl,N⟩ | ⟨f,U,X,hz,rfl,Z⟩⟩
 rotate_left
 .exact⟨rfl,QZ.from E (Fr.of_below (Zg))⟩
 have H2:=O E;have Q:=O (K V D);have r:=O (ZO N D);clear N D E;refine⟨⟨Q,(r.o).2 0,(r.o).2 1,(r.o).2 2,(r.o).2 3,(r.o).2 4,(r.o).2 5,(r.o).2 6⟩,wpAnyH_done Qm ?_ _⟩
 try simp only[Act.put,K3,Ux,K4]
 go_wp2;go_end0;exact QZ.from H2 (Fr.of_below (Zg))
theorem AX(k:Nat)(q:Nat)(n tag:Int)(oct:Bool){a b:Qn}(i:Int)(d l:Option Addr){g:Nat}{K:Nat}{G:Nat}(ad:∀args W,(callFunc f args).run prog W=.ok (.enter f args) W)(af:1<=k)(ah:k<=14)(h:MAt w B xb K M m G)(hw:Ug w (xb+1))(J:(EW (xb+1))[k]?=some (.func (.func f) #[] #[Qc q]))
 (H:Calls prog f #[Qc xb,.agg #[Qa (k:Int),Qa n,Qa tag,.bool oct,.slice d a.length g,.slice l b.length p,Qa i],Qc q] (w.alloc (Qe #[Qa (k:Int),Qa n,Qa tag,.bool oct,.slice d a.length g,.slice l b.length p,Qa i] 63)).drew (QZ R B xb K M G (w.alloc (Qe #[Qa (k:Int),Qa n,Qa tag,.bool oct,.slice d a.length g,.slice l b.length p,Qa i] 63)).drew)):Calls prog 106 #[Qc xb,.slice (some ⟨xb+6,0,none⟩) 15 15,.agg #[Qa (k:Int),Qa n,Qa tag,.bool oct,.slice d a.length g,.slice l b.length p,Qa i]] w (QZ R B xb K M G w):=by
 have t:=O (h.below (Zg (o:=Qe #[Qa (k:Int),Qa n,Qa tag,.bool oct,.slice d a.length g,.slice l b.length p,Qa i] 63)));have U:=O (hw.below (Zg (o:=Qe #[Qa (k:Int),Qa n,Qa tag,.bool oct,.slice d a.length g,.slice l b.length p,Qa i] 63)));have hn:=Ot;have Z:=(Qj hw.tb k).trans J;have ai:=QI hw.tb;have aj:=O H;have L:Hid (∀W,Fr (PMc B xb) (w.alloc (Qe #[Qa (k:Int),Qa n,Qa tag,.bool oct,.slice d a.length g,.slice l b.length p,Qa i] 63)).drew W->W.cell? ⟨xb+6,k,none⟩=some (.func (.func f) #[] #[Qc q])):=fun W E=>(Qj (U.o.fr E).tb k).trans J
 have ae:(0:Int)<=(k:Int):=I
 have ag:(k:Int)<15:=I
 clear h hw H J;go_enter func106,ntmps106;go_wp2_with (go_at_call 168;refine Qv (Ua) ?_;rintro c Q;rw[Q];clear Q);refine Uy (S:=fun c=>c.cell? ⟨xb+6,k,none⟩=some (.func (.func f) #[] #[Qc q])/\c.cell? (Ql w.heap.size 0)=some (Qa (k:Int))/\c.cell? (Ql w.heap.size 1)=some (Qa n)/\c.cell? (Ql w.heap.size 2)=some (Qa tag)/\c.cell? (Ql w.heap.size 3)=some (.bool oct)/\c.cell? (Ql w.heap.size 4)=some (.slice d a.length g)/\c.cell? (Ql w.heap.size 5)=some (.slice l b.length p)/\c.cell? (Ql w.heap.size 6)=some (Qa i)) Qm ?_;have r:(fun c:World=>c.cell? ⟨xb+6,k,none⟩=some (.func (.func f) #[] #[Qc q])/\c.cell? (Ql w.heap.size 0)=some (Qa (k:Int))/\c.cell? (Ql w.heap.size 1)=some (Qa n)/\c.cell? (Ql w.heap.size 2)=some (Qa tag)/\c.cell? (Ql w.heap.size 3)=some (.bool oct)/\c.cell? (Ql w.heap.size 4)=some (.slice d a.length g)/\c.cell? (Ql w.heap.size 5)=some (.slice l b.length p)/\c.cell? (Ql w.heap.size 6)=some (Qa i)) (w.alloc (Qe #[Qa (k:Int),Qa n,Qa tag,.bool oct,.slice d a.length g,.slice l b.length p,Qa i] 63)).drew:=⟨L _ (Fr.refl _ _),(ZO t (Fr.refl _ _)).2 0,(ZO t (Fr.refl _ _)).2 1,(ZO t (Fr.refl _ _)).2 2,(ZO t (Fr.refl _ _)).2 3,(ZO t (Fr.refl _ _)).2 4,(ZO t (Fr.refl _ _)).2 5,(ZO t (Fr.refl _ _)).2 6⟩;refine QS 0 26 (.slice (some ⟨xb+6,0,none⟩) 15 15) rfl r (fun c ⟨u,v,x,y,z,A,C,D⟩=>by go_simp) ?_;simp only[pt,sz,sc];refine QS 1 27 (Qc w.heap.size) rfl r (fun c ⟨u,v,x,y,z,A,C,D⟩=>by go_simp) ?_;simp only[pt,sz,sc];refine QS 2 28 (Qa (k:Int)) rfl r (fun c ⟨u,v,x,y,z,A,C,D⟩=>by go_simp) ?_;simp only[pt,sz,sc];refine QS 3 29 (.pointer (some ⟨xb+6,k,none⟩)) rfl r (fun c ⟨u,v,x,y,z,A,C,D⟩=>by go_simp) ?_;simp only[pt,sz,sc];refine QS 4 30 (.func (.func f) #[] #[Qc q]) rfl r (fun c ⟨u,v,x,y,z,A,C,D⟩=>by go_simp) ?_;simp only[pt,sz,sc];refine QS 5 31 (Qc xb) rfl r (fun c ⟨u,v,x,y,z,A,C,D⟩=>by go_simp) ?_;simp only[pt,sz,sc];refine QS 6 32 (.agg #[Qa (k:Int),Qa n,Qa tag,.bool oct,.slice d a.length g,.slice l b.length p,Qa i]) rfl r (fun c ⟨u,v,x,y,z,A,C,D⟩=>by go_simp) ?_;simp only[pt,sz,sc];clear r;refine wpAnyH_all (rs:=[7]) Qm Qb (fun j N=>?_);simp only[List.mem_singleton]at N;subst N;refine Zp rfl (by rfl) ?_;go_simp;refine aj.mono ?_;intro e X F;rcases F.cases with⟨E,⟨m',V,rfl,P⟩ | ⟨f,V,Y,hz,rfl,ab⟩⟩
 rotate_left
 .exact⟨rfl,QZ.from F (Fr.of_below (Zg))⟩
 have H2:=O F;have T:=O (L X E);have s:=O (ZO P E);clear P E F;refine⟨⟨T,(s.o).2 0,(s.o).2 1,(s.o).2 2,(s.o).2 3,(s.o).2 4,(s.o).2 5,(s.o).2 6⟩,wpAnyH_done Qm ?_ _⟩
 try simp only[Act.put,K3,Ux,K4]
 go_wp2;go_end0;exact QZ.from H2 (Fr.of_below (Zg))
theorem PV{i:Ins}{D:Value}{A:Nat}{x:Nat}(h:MAt w B xb A M m x)(z:Z_ w i C D)(hw:Ug w (xb+1))(hop:i.op<1\/14<i.op):Calls prog 106 #[Qc xb,.slice (some ⟨xb+6,0,none⟩) 15 15,Zy i C D] w (QZ (.error (12,(m.now:Int))) B xb A M x w):=by
 obtain⟨l,p,H⟩:=z.a.len;obtain⟨r,s,J⟩:=z.b.len;subst H J;obtain⟨c,n,u,t,a,b,q⟩:=i;have y:=(h.box (Qe #[Qa c,Qa n,Qa u,.bool t,.slice l a.length p,.slice r b.length s,Qa q] 63)).now;have K:=Zs hw.tb;have P:¬xb+6=w.heap.size:=by have:=QI hw.tb;omega
 have Q:xb+6<w.heap.size:=QI hw.tb;have N:=QzT;dsimp only at hop;clear h z hw;unfold Zy;dsimp only;have v:Hid (∀(e:Ending) (d:World),KO (12,(m.now:Int)) (w.alloc (Qe #[Qa c,Qa n,Qa u,.bool t,.slice l a.length p,.slice r b.length s,Qa q] 63)) e d->Below (w.alloc (Qe #[Qa c,Qa n,Qa u,.bool t,.slice l a.length p,.slice r b.length s,Qa q] 63)).heap.size (w.alloc (Qe #[Qa c,Qa n,Qa u,.bool t,.slice l a.length p,.slice r b.length s,Qa q] 63)) d->QZ (.error (12,(m.now:Int))) B xb A M x w e d):=fun e d F G=>QZ.from (QZ.err rfl (Fr.of_below G) F) (JW)
 rcases(by omega:c<0\/c=0\/14<c)with hop|hop|hop
 .have E:¬0<=c:=I
  go_enter func106,ntmps106;go_wp2_with (go_at_call 168;refine(Kk y).mono ?_;rintro e d ⟨⟨f,k,rfl,j⟩,g⟩);exact⟨rfl,v _ _ ⟨f,k,rfl,j⟩ g⟩
 .subst hop;go_enter func106,ntmps106;go_wp2_with (go_at_call 168;refine(Kk y).mono ?_;rintro e d ⟨⟨f,k,rfl,j⟩,g⟩);exact⟨rfl,v _ _ ⟨f,k,rfl,j⟩ g⟩
 .have E:0<=c:=I
  have L:¬c<15:=I
  go_enter func106,ntmps106;go_wp2_with (go_at_call 168;refine(Kk y).mono ?_;rintro e d ⟨⟨f,k,rfl,j⟩,g⟩);exact⟨rfl,v _ _ ⟨f,k,rfl,j⟩ g⟩
theorem OZ{i:Ins}{r:Value}{g:Nat}{f:Nat}(h:MAt w B xb g M m f)(j:Z_ w i r s)(hw:Ug w (xb+1))(x:Tab w):Calls prog 106 #[.pointer (some ⟨xb,0,none⟩),.slice (some ⟨xb+6,0,none⟩) 15 15,Zy i r s] w (QZ (stepL M f i m) B xb g M f w):=by
 by_cases hop:i.op<1\/14<i.op
 .have v:stepL M f i m=.error (12,(m.now:Int)):=by
   unfold stepL XJ;rw[Qg (by omega),Qg (by omega),Qg (by omega),Qg (by omega),Qg (by omega),Qg (by omega),Qg (by omega),Qg (by omega),Qg (by omega),Qg (by omega),Qg (by omega),Qg (by omega),Qg (by omega),Qg (by omega)]
  rw[v];exact PV (i:=i) (C:=r) (D:=s) (B:=B) (xb:=xb) (A:=g) (M:=M) (m:=m) (x:=f) (w:=w) h j hw hop
 obtain⟨q,n,e,d,a,b,c⟩:=i;dsimp only at hop;obtain⟨k,l,t⟩:=j.a.len;obtain⟨o,p,u⟩:=j.b.len;subst t u;rcases(by omega:q=1\/q=2\/q=3\/q=4\/q=5\/q=6\/q=7\/q=8\/q=9\/q=10\/q=11\/q=12\/q=13\/q=14)with rfl|rfl|rfl|rfl|rfl|rfl|rfl|rfl|rfl|rfl|rfl|rfl|rfl|rfl
 .exact VR 1 (f:=153) (R:=G_ ⟨1,n,e,d,a,b,c⟩ m) n e d (a:=a) (b:=b) c k o (g:=l) (p:=p) (B:=B) (xb:=xb) (J:=g) (M:=M) (m:=m) (F:=f) (w:=w) (fun _ _=>by kernel_rfl) (by decide) (by decide) h hw rfl (QxK (i:=⟨1,n,e,d,a,b,c⟩) (B:=B) (xb:=xb) (j:=g) (M:=M) (m:=m) (g:=f) (h.below (Zg)) (j.below (Zg)) )
 .exact VR 2 (f:=154) (R:=Nf m) n e d (a:=a) (b:=b) c k o (g:=l) (p:=p) (B:=B) (xb:=xb) (J:=g) (M:=M) (m:=m) (F:=f) (w:=w) (fun _ _=>by kernel_rfl) (by decide) (by decide) h hw rfl (QxR (i:=⟨2,n,e,d,a,b,c⟩) (B:=B) (xb:=xb) (g:=g) (M:=M) (m:=m) (c:=f) (h.below (Zg)) (j.below (Zg)) )
 .exact VR 3 (f:=155) (R:=VL f ⟨3,n,e,d,a,b,c⟩ m) n e d (a:=a) (b:=b) c k o (g:=l) (p:=p) (B:=B) (xb:=xb) (J:=g) (M:=M) (m:=m) (F:=f) (w:=w) (fun _ _=>by kernel_rfl) (by decide) (by decide) h hw rfl (Qxa (i:=⟨3,n,e,d,a,b,c⟩) (B:=B) (xb:=xb) (q:=g) (M:=M) (m:=m) (c:=f) (h.below (Zg)) (j.below (Zg)) )
 .exact AX 4 (f:=202) (xb+1) (R:=doCond true f ⟨4,n,e,d,a,b,c⟩ m) n e d (a:=a) (b:=b) c k o (g:=l) (p:=p) (B:=B) (xb:=xb) (K:=g) (M:=M) (m:=m) (G:=f) (w:=w) (fun _ _=>by kernel_rfl) (by decide) (by decide) h hw rfl (Hp true (xb+1) (i:=⟨4,n,e,d,a,b,c⟩) (B:=B) (xb:=xb) (x:=g) (M:=M) (m:=m) (f:=f) (h.below (Zg)) (j.below (Zg)) (hw.below (Zg)).p0 (by omega))
 .exact AX 5 (f:=202) (xb+1+1) (R:=doCond false f ⟨5,n,e,d,a,b,c⟩ m) n e d (a:=a) (b:=b) c k o (g:=l) (p:=p) (B:=B) (xb:=xb) (K:=g) (M:=M) (m:=m) (G:=f) (w:=w) (fun _ _=>by kernel_rfl) (by decide) (by decide) h hw rfl (Hp false (xb+1+1) (i:=⟨5,n,e,d,a,b,c⟩) (B:=B) (xb:=xb) (x:=g) (M:=M) (m:=m) (f:=f) (h.below (Zg)) (j.below (Zg)) (hw.below (Zg)).p1 (by omega))
 .exact AX 6 (f:=203) (xb+1+2) (R:=doAsk (fieldsL M (a.map (expL m.st))) ⟨6,n,e,d,a,b,c⟩ m) n e d (a:=a) (b:=b) c k o (g:=l) (p:=p) (B:=B) (xb:=xb) (K:=g) (M:=M) (m:=m) (G:=f) (w:=w) (fun _ _=>by kernel_rfl) (by decide) (by decide) h hw rfl (W_ (xb+1+2) (i:=⟨6,n,e,d,a,b,c⟩) (B:=B) (xb:=xb) (f:=g) (M:=M) (m:=m) (g:=f) (h.below (Zg)) (j.below (Zg)) (hw.below (Zg)).p2)
 .exact AX 7 (f:=203) (xb+1+3) (R:=doAsk (envL M a) ⟨7,n,e,d,a,b,c⟩ m) n e d (a:=a) (b:=b) c k o (g:=l) (p:=p) (B:=B) (xb:=xb) (K:=g) (M:=M) (m:=m) (G:=f) (w:=w) (fun _ _=>by kernel_rfl) (by decide) (by decide) h hw rfl (SA (xb+1+3) (i:=⟨7,n,e,d,a,b,c⟩) (B:=B) (xb:=xb) (f:=g) (M:=M) (m:=m) (g:=f) (h.below (Zg)) (j.below (Zg)) (hw.below (Zg)).p3)
 .exact AX 8 (f:=203) (xb+1+4) (R:=doAsk (a.map (expL m.st)) ⟨8,n,e,d,a,b,c⟩ m) n e d (a:=a) (b:=b) c k o (g:=l) (p:=p) (B:=B) (xb:=xb) (K:=g) (M:=M) (m:=m) (G:=f) (w:=w) (fun _ _=>by kernel_rfl) (by decide) (by decide) h hw rfl (Th (xb+1+4) (i:=⟨8,n,e,d,a,b,c⟩) (B:=B) (xb:=xb) (f:=g) (M:=M) (m:=m) (g:=f) (h.below (Zg)) (j.below (Zg)) (hw.below (Zg)).p4)
 .exact VR 9 (f:=161) (R:=JM (existsL M (a.map (expL m.st))) m) n e d (a:=a) (b:=b) c k o (g:=l) (p:=p) (B:=B) (xb:=xb) (J:=g) (M:=M) (m:=m) (F:=f) (w:=w) (fun _ _=>by kernel_rfl) (by decide) (by decide) h hw rfl (Qt2 (i:=⟨9,n,e,d,a,b,c⟩) (B:=B) (xb:=xb) (l:=g) (M:=M) (m:=m) (C:=f) (h.below (Zg)) (j.below (Zg)) )
 .exact VR 10 (f:=162) (R:=VK M ⟨10,n,e,d,a,b,c⟩ m) n e d (a:=a) (b:=b) c k o (g:=l) (p:=p) (B:=B) (xb:=xb) (J:=g) (M:=M) (m:=m) (F:=f) (w:=w) (fun _ _=>by kernel_rfl) (by decide) (by decide) h hw rfl (Qxr (i:=⟨10,n,e,d,a,b,c⟩) (B:=B) (xb:=xb) (q:=g) (M:=M) (m:=m) (A:=f) (h.below (Zg)) (j.below (Zg)) )
 .exact VR 11 (f:=163) (R:=UI ⟨11,n,e,d,a,b,c⟩ m) n e d (a:=a) (b:=b) c k o (g:=l) (p:=p) (B:=B) (xb:=xb) (J:=g) (M:=M) (m:=m) (F:=f) (w:=w) (fun _ _=>by kernel_rfl) (by decide) (by decide) h hw rfl (Pf (i:=⟨11,n,e,d,a,b,c⟩) (B:=B) (xb:=xb) (A:=g) (M:=M) (m:=m) (ad:=f) (h.below (Zg)) (j.below (Zg)) )
 .exact VR 12 (f:=164) (R:=VO ⟨12,n,e,d,a,b,c⟩ m) n e d (a:=a) (b:=b) c k o (g:=l) (p:=p) (B:=B) (xb:=xb) (J:=g) (M:=M) (m:=m) (F:=f) (w:=w) (fun _ _=>by kernel_rfl) (by decide) (by decide) h hw rfl (QzH (i:=⟨12,n,e,d,a,b,c⟩) (B:=B) (xb:=xb) (U:=g) (M:=M) (m:=m) (ag:=f) (h.below (Zg)) (j.below (Zg)) (x.below (Zg)))
 .exact VR 13 (f:=165) (R:=.ok (stL m (Gl m.st))) n e d (a:=a) (b:=b) c k o (g:=l) (p:=p) (B:=B) (xb:=xb) (J:=g) (M:=M) (m:=m) (F:=f) (w:=w) (fun _ _=>by kernel_rfl) (by decide) (by decide) h hw rfl (WT (i:=⟨13,n,e,d,a,b,c⟩) (B:=B) (xb:=xb) (f:=g) (M:=M) (m:=m) (k:=f) (h.below (Zg)) (j.below (Zg)) )
 .exact VR 14 (f:=167) (R:=.ok (goL m f)) n e d (a:=a) (b:=b) c k o (g:=l) (p:=p) (B:=B) (xb:=xb) (J:=g) (M:=M) (m:=m) (F:=f) (w:=w) (fun _ _=>by kernel_rfl) (by decide) (by decide) h hw rfl (QyJ (i:=⟨14,n,e,d,a,b,c⟩) (B:=B) (xb:=xb) (k:=g) (M:=M) (m:=m) (d:=f) (h.below (Zg)) (j.below (Zg)) )
def E3(w:World)(cs:Array Value)(j:Nat)(i:Ins):Prop:=
 ∃av bv,cs[j*7]?=some (Qa i.op)/\cs[j*7+1]?=some (Qa i.n)/\cs[j*7+2]?=some (Qa i.tag)/\cs[j*7+3]?=some (.bool i.oct)/\cs[j*7+4]?=some av/\cs[j*7+5]?=some bv/\cs[j*7+6]?=some (Qa i.at_)/\Z_ w i av bv
def JH(w:World)(cv:Value)(code:List Ins):Prop:=
 (cv=.slice none 0 0/\code=[])\/∃g c cs,cv=Qs g code.length c/\w.heap[g]?=some (Qe cs 63)/\∀j (hj:j<code.length),E3 w cs j code[j]
theorem JH.fr{P:Nat->Obj->Prop}{w w':World}{b:Value}{a:List Ins}(h:JH w b a)(d:Fr P w w')(r:∀k cs,¬P k (Qe cs 63))(s:∀k cs,¬P k (Qe cs 9)):JH w' b a:=by
 rcases h with h | ⟨g,c,cs,y,t,u⟩
 .exact Qt h
 .refine Qr ⟨g,c,cs,y,d.block _ _ t (r _ _),fun j v=>?_⟩;obtain⟨p,q,e,f,i,l,m,n,o,x⟩:=u j v;exact⟨p,q,e,f,i,l,m,n,o,x.fr d s⟩
theorem JH.pm(h:JH w cv code)(hf:Fr (PMc B xb) w w'):JH w' cv code:=h.fr hf (fun _ _=>PMc.not Qb Qb Qb Qb) (fun _ _=>PMc.not Qb Qb Qb Qb)
theorem JH.below(h:JH w cv code)(hb:Qo w w'):JH w' cv code:=h.fr (P:=fun _ _=>False) (Fr.of_below hb) (fun _ _ h=>h) (fun _ _ h=>h)
theorem JH.len(h:JH w d b):∃a c,d=.slice a b.length c:=by
 rcases h with⟨h,rfl⟩ | ⟨g,c,e,h,_⟩
 .exact⟨none,0,h⟩
 .exact⟨_,_,h⟩
theorem JH.get'{la:Option Addr}{n i:Nat}(h:JH w (.slice la n i) a)(j:Nat)(b:j<a.length):∃g cs,la=some ⟨g,0,none⟩/\w.heap[g]?=some (Qe cs 63)/\E3 w cs j a[j]:=by
 rcases h with⟨_,rfl⟩ | ⟨g,c,cs,f,d,e⟩
 .exact absurd b (XA _)
 .injection f with h1 h2 h3
  exact⟨g,cs,h1,d,e j b⟩
def N2(r:List (Int×L8)×Nat×Option FZ)(w:World)(e:Ending)(w':World):Prop:=
 Qo w w'∧((∃lv,r.2.2=none∧e=.returned (.tuple #[lv,Qa (r.2.1:Int),.nilIface])∧ActsV w' w.heap.size lv r.1)∨
  (∃lv f bb,r.2.2=some f∧e=.returned (.tuple #[lv,Qa (r.2.1:Int),.iface 125 (Qc bb)])∧ActsV w' w.heap.size lv r.1∧w.heap.size<=bb∧w'.heap[bb]?=some (Qe #[Qa f.1,Qa f.2] 130)))
theorem ActsV.set(h:ActsV w B v l){b:Nat}(a:b<B)(j:Nat)(x:Value):ActsV (w.setCell ⟨b,j,none⟩ x) B v l:=
 ⟨GQ h.1 (fun e=>by have:=(h.1.lt _ e).1;omega) (j:=j) (x:=x),h.2⟩
theorem ActsV.lo{B':Nat}(h:ActsV w B v l)(hb:B'<=B):ActsV w B' v l:=⟨U6 h.1 hb,h.2⟩
theorem Iz{V w1:World}{a:Value}{f:FZ}{bb P:Nat}(d:Qo w V)(q:w.heap.size<=P)(c:P+1<V.heap.size)(t:ActsV w1 V.heap.size a l)(b:Qo V w1)(v:w.heap.size<=bb)(r:bb≠P)(s:bb≠P+1)(hF:V.heap[bb]?=some (Qe #[Qa f.1,Qa f.2] 130)){g:Value}(i:V.cell? (Ql P 0)=some u)(j:V.cell? ⟨P+1,0,none⟩=some g) :
 ∃W,W=(w1.setCell ⟨P,0,none⟩ a).setCell ⟨P+1,0,none⟩ (.iface 125 (Qc bb))/\W.cell? (Ql P 0)=some a/\W.cell? ⟨P+1,0,none⟩=some (.iface 125 (Qc bb))/\Qo w W/\ActsV W w.heap.size a l/\W.heap[bb]?=some (Qe #[Qa f.1,Qa f.2] 130):=by
 have e:=d.size;have k:=(QN b i (show P<_ by omega));have m:=(QN b j c);have o:=d.trans (b.mono e);refine⟨_,rfl,?_,?_,(o.setCell q _).setCell (show w.heap.size<=P+1 by omega) _,((t.set I _ _).set c _ _).lo e,?_⟩
 .rw[GD _ _ _ _ Qh,GF _ _ _ k]
 .have n:(w1.setCell ⟨P,0,none⟩ a).cell? ⟨P+1,0,none⟩=some g:=by rw[GD _ _ _ _ Qh];exact m
  exact GF _ _ _ n
 .rw[Q' s,Q' r,b.block bb (QI hF)];exact hF
theorem Qum{v:Bool}(h:400<a.length):execL v a M=([(1,[])],0,some (12,400)):=by unfold execL;rw[Qi h]
theorem QyW{v:Bool}{d:Nat}(h:¬400<a.length)(b:Yd M a a.length (ms0 v) 0=(.ok m,d)):execL v a M=(K1 m.st,d,none):=by unfold execL;rw[Qg h,b]
theorem Qu2{v:Bool}{f:FZ}{d:Nat}(h:¬400<a.length)(b:Yd M a a.length (ms0 v) 0=(.error f,d)):execL v a M=([(1,[])],d,some f):=by unfold execL;rw[Qg h,b]
theorem QvS{v:Bool}{g p:Value}(l:JH w g b)(n:Jj w p M.hdrs)(D:SBd M (ss0 v))(U:1<w.heap.size)(K:∃m,w.cell? (Ql 1 0)=some (Qa m))(L:Tab w)(Y:b.length<=1000000)(H:400<b.length):Calls prog 65 #[.bool v,g,Yg M p] w (N2 (execL v b M) w):=by
 obtain⟨S,T,F⟩:=l.len;subst F;obtain⟨B,C,G⟩:=n.len;subst G;unfold Yg;have X:(400:Int)<(b.length:Int):=I
 have s:=O (Qum (v:=v) (M:=M) H);clear l n D L K;go_enter_defers func65,ntmps65;go_wp2_with (go_at_call 103;refine Qu (Yr) ?_);obtain⟨V,a⟩:=Q3 ((((w.alloc (Qe #[Qf M.fr,Qf M.to,Qa M.size,.slice B M.hdrs.length C] 28)).alloc (Qe #[Qp] 32)).alloc (Qe #[.nilIface] 84)).alloc (Qe #[Qa 12,Qa 400] 130));have Z:V.heap.size=w.heap.size+4:=by rw[a];simp
 have j:V.heap[w.heap.size+1]?=some (Qe #[Qp] 32):=by rw[a];exact QJ (QJ (ZB Qh))
 have k:V.heap[w.heap.size+1+1]?=some (Qe #[.nilIface] 84):=by rw[a];exact QJ (ZB Qh)
 have hF:V.heap[w.heap.size+1+1+1]?=some (Qe #[Qa 12,Qa 400] 130):=by rw[a];exact ZB Qh
 have z:Qo w V:=by rw[a];exact(((QH _).alloc Qh _).alloc (by simp;omega) _).alloc (by simp;omega) _
 rw[<-a];clear a;have c:=Qj j 0;have d:=Qj k 0;have Q:=QQ j;have R:=QQ k;refine leaves_cons (f:=101) (args:=#[(Qc (w.heap.size+1)),.pointer (some ⟨w.heap.size+1+1,0,none⟩)]) Qh (by simp[go_sem]) ?_;refine(Fo (w.heap.size+1) (w.heap.size+1+1) ⟨w.heap.size+1+1+1,0,none⟩ [] c d Q R I).mono ?_;rintro e u' aa ⟨rfl,rfl,q,w1,N,E,rfl⟩;obtain⟨W,A,t,u,x,i,y⟩:=Iz (f:=(12,400)) (bb:=w.heap.size+1+1+1) (P:=w.heap.size+1) z I I N E I I I hF c d;rw[<-A]
 have r:Hid (N2 (execL v b M) w (.returned (.tuple #[q,Qa 0,.iface 125 (.pointer (some ⟨w.heap.size+1+1+1,0,none⟩))])) W):=by
  rw[s.o];exact⟨x,Qr ⟨q,(12,400),_,rfl,rfl,i,I,y⟩⟩
 obtain⟨la,lk,J⟩:=Zj i.1;subst J;simp[Leaves,settle,results,results65,go_sem,t,u];exact r
theorem Pq{v:Bool}{c:List Ins}{b:World}{a o e:Value}{d:Nat}(n:execL v c M=(l,d,none))(j:Qo w b)(m:ActsV b B a l)(f:b.cell? ⟨w.heap.size+1,0,none⟩=some o)(g:b.cell? ⟨w.heap.size+1+1,0,none⟩=some e)(k:w.heap.size+1+1<B) :
 ∃W,W=(b.setCell ⟨w.heap.size+1,0,none⟩ a).setCell ⟨w.heap.size+1+1,0,none⟩ .nilIface/\W.cell? ⟨w.heap.size+1,0,none⟩=some a/\W.cell? ⟨w.heap.size+1+1,0,none⟩=some .nilIface/\Hid (N2 (execL v c M) w (.returned (.tuple #[a,Qa (d:Int),.nilIface])) W):=by
 refine⟨_,rfl,?_,?_,?_⟩
 .rw[GD _ _ _ _ Qh,GF _ _ _ f]
 .have i:(b.setCell ⟨w.heap.size+1,0,none⟩ a).cell? ⟨w.heap.size+1+1,0,none⟩=some e:=by rw[GD _ _ _ _ Qh];exact g
  exact GF _ _ _ i
 .rw[n];exact⟨(j.setCell (show w.heap.size<=w.heap.size+1 by omega) _).setCell (show w.heap.size<=w.heap.size+1+1 by omega) _,Qt ⟨a,rfl,rfl,((m.set I _ _).set k _ _).lo I⟩⟩
theorem MI.atNext{f:Nat}{a:Nat}(h:MI w B xb f M m a d)(j:m.next<a):MAt ((w.setCell ⟨xb,2,none⟩ (Qa (m.next:Int))).setCell ⟨xb,3,none⟩ (Qa ((m.next:Int)+1))).drew.drew B xb f M (atL m) a/\Fr (PMc B xb) w ((w.setCell ⟨xb,2,none⟩ (Qa (m.next:Int))).setCell ⟨xb,3,none⟩ (Qa ((m.next:Int)+1))).drew.drew:=by
 have i:=h.cl;have b:=h.set 2 (Qa (m.next:Int)) ⟨m.st,m.stack,m.next,m.next⟩ d rfl rfl (GQ h.stack h.row) h.sl (show m.next<=400 by omega) h.nx;have c:=b.1.set 3 (Qa ((m.next:Int)+1)) (atL m) d rfl rfl (GQ b.1.stack b.1.row) h.sl (show m.next<=400 by omega) (show m.next+1<=a by omega);obtain⟨X,g⟩:=Q3 ((w.setCell ⟨xb,2,none⟩ (Qa (m.next:Int))).setCell ⟨xb,3,none⟩ (Qa ((m.next:Int)+1)));rw[<-g]at c ⊢;have e:=Z9 (Z9 (QO X.heap.size X));exact⟨⟨_,c.1.below e⟩,((b.2.trans c.2).mono (fun _ _=>PMc.k)).trans (Fr.of_below e)⟩
theorem Qt0{v:Bool}(R:JH w cv a)(T:Jj w hv M.hdrs)(hb:SBd M (ss0 v))(h1:1<w.heap.size)(A:∃m,w.cell? (Ql 1 0)=some (Qa m))(ht:Tab w)(hn:a.length<=1000000)(hlong:¬400<a.length):Calls prog 65 #[.bool v,cv,Yg M hv] w (N2 (execL v a M) w):=by
 obtain⟨ca,cc,aM⟩:=R.len;subst aM;obtain⟨ha,ao,aN⟩:=T.len;subst aN;unfold Yg;have aZ:¬(400:Int)<(a.length:Int):=I
 have HC:=O R;have HH:=O T;have bk:=O hb;have HT:=O ht;have aD:=O A;clear R T hb ht A;go_enter_defers func65,ntmps65;go_wp2_with fail;obtain⟨V,u⟩:=Q3 (((w.alloc (Qe #[Qf M.fr,Qf M.to,Qa M.size,.slice ha M.hdrs.length ao] 28)).alloc (Qe #[Qp] 32)).alloc (Qe #[.nilIface] 84));have bf:V.heap.size=w.heap.size+3:=by rw[u];simp
 have hP:V.heap[w.heap.size+1]?=some (Qe #[Qp] 32):=by rw[u];exact QJ (ZB Qh)
 have hQ:V.heap[w.heap.size+1+1]?=some (Qe #[.nilIface] 84):=by rw[u];exact ZB Qh
 have K:Qo w V:=by rw[u];exact((QH _).alloc Qh _).alloc (by simp;omega) _
 rw[<-u];clear u;have bm:=O K;have HP:=O hP;have HQ:=O hQ;refine(Py (HH.o.fr (P:=fun _ _=>False) (Fr.of_below K) (fun _ _ h=>h)) bk I (by obtain⟨m,A⟩:=aD.o;exact⟨m,(QN K A (QX A))⟩)).mono ?_;rintro e s ⟨j,rfl,hs,L⟩;have HS:=O hs;have bj:=O L;have ay:=L.size;clear K hP hQ hs L;go_wp2_with fail;refine Qv (Qu3) ?_;rintro c ⟨aw,ap,az⟩;obtain⟨b,y⟩:=Q3 (s.heap.size);have aT:c.heap.size=b+7:=by rw[az,y];simp
 have ax:(s.alloc (Qe (VF j Qp 0 0 a.length) 188)).heap.size=b+1:=by rw[y];simp
 have ah:Ug c (b+1):=by rw[<-ax];exact aw
 have ac:Below (s.alloc (Qe (VF j Qp 0 0 a.length) 188)).heap.size (s.alloc (Qe (VF j Qp 0 0 a.length) 188)) c:=ap;have aq:c.heap[b]?=some (Qe (VF j Qp 0 0 a.length) 188):=by rw[y];exact Ze (Q0) ac
 have aL:a.length<=400:=I
 have N:Qo s c:=(QH _).trans (ac.mono Qh);have aF:Hid (MAt c V.heap.size b j M (ms0 v) a.length):=⟨.slice none 0 0,I,aq,HS.o.below N,Z5,QR,QR,QR,aL,I⟩;have bn:=O ah;have q:=O (bm.o.trans ((bj.o.trans (N.mono ay)).mono I));have E:=O (bj.o.trans (N.mono ay));have aS:∀o:Obj,(s.alloc o).heap.size=b+1:=fun o=>by rw[y];simp
 rw[aS,<-y];clear aw ap ac aq N ah ax az;have bd:V.heap.size<=b:=I
 have bc:b+7<=c.heap.size:=I
 clear y aT;go_wp2_with fail
 go_loopw [7] (fun dn wr=>∃(m:MS) (d:Nat),dn=Qa (d:Int)/\MAt wr V.heap.size b j M m a.length/\Fr (PMc V.heap.size b) c wr/\d<=m.next/\∃F,a.length-m.next<=F/\Yd M a a.length (ms0 v) 0=Yd M a F m d) (fun dn _=>a.length-(intOf dn).toNat)
 case atStart=>exact⟨ms0 v,0,rfl,aF,Fr.refl _ _,Q4 _,a.length,Nat.sub_le _ _,rfl⟩
 case round=>
  obtain⟨m,d,rfl,aQ,r,aY,F,hF,U⟩:=hrel;obtain⟨kv,i⟩:=aQ;have bh:=O i;have bg:=O r;have bi:=O U;have c0:=Zs i.blk;have c3:=XU i.blk;have c4:=YF i.blk;clear i r U;by_cases hlt:m.next<a.length;rotate_left
  .have aP:¬(m.next:Int)<(a.length:Int):=I
   have HL:Hid (Yd M a a.length (ms0 v) 0=(.ok m,d)):=by
    show _=_
    rw[bi.o]
    cases F with
    |zero=>rfl
    |succ F=>unfold Yd;rw[Qg hlt]
   have HX:=O (QyW (v:=v) hlong HL);go_wp2_with fail;go_region_held3 (fun C=>C.cell? (Ql b 3)=some (Qa (m.next:Int))/\C.cell? (Ql b 4)=some (Qa (a.length:Int))) (first|go_keep) (fail)
   all_goals go_wp2_with fail
   all_goals refine(WO ((bh.o.st).below (Z9 (QO _ _)))).mono ?_
   all_goals rintro e D ⟨lv,rfl,ag,Q⟩
   all_goals obtain⟨a5,k5,af⟩:=Zj ag.1
   all_goals subst af
   all_goals have aa:D.heap[w.heap.size+1]?=some (Qe #[Qp] 32):=Ze (show wr.drew.heap[w.heap.size+1]?=_ from bg.o.block _ _ (Ze HP E) (PMc.not Qb Qb Qb Qb)) Q
   all_goals have ab:D.heap[w.heap.size+1+1]?=some (Qe #[.nilIface] 84):=Ze (show wr.drew.heap[w.heap.size+1+1]?=_ from bg.o.block _ _ (Ze HQ E) (PMc.not Qb Qb Qb Qb)) Q
   all_goals have Z:=Zs aa
   all_goals have x2:=Zs ab
   all_goals have z1:=QQ aa
   all_goals have z2:=QQ ab
   all_goals have ba:w.heap.size+3<=wr.heap.size:=by have h1:=bg.size;omega
   all_goals have ai:Qo w D:=(q.o.trans ((bg.o.below (B:=w.heap.size) (fun k o h=>by have:=h.1;omega) q.size).trans (((Z9 (QO wr.heap.size wr)).trans (Q.mono QF)).mono I)))
   all_goals have aA:=O ai
   all_goals have aG:=O ag
   all_goals clear ai ag aa ab Q
   all_goals go_wp2
   all_goals refine leaves_cons (f:=101) (args:=#[(Qc (w.heap.size+1)),.pointer (some ⟨w.heap.size+1+1,0,none⟩)]) Qh (by simp[go_sem]) ?_
   all_goals refine(WW ⟨w.heap.size+1,0,none⟩ ⟨w.heap.size+1+1,0,none⟩).mono ?_
   all_goals rintro e u' aU ⟨rfl,rfl,rfl⟩
   all_goals obtain⟨W,x,e0,e1,z⟩:=Pq HX aA aG Z x2 (show w.heap.size+1+1<wr.drew.heap.size from by show _<wr.heap.size;omega)
   all_goals rw[<-x]
   all_goals clear x
   all_goals simp[Leaves,settle,results,results65,go_sem,e0,e1]
   all_goals exact z
  .have aP:(m.next:Int)<(a.length:Int):=I
   have z0:=QQ bh.blk;go_wp2_with fail;go_region_held3 (fun C=>C.cell? (Ql b 3)=some (Qa (m.next:Int))/\C.cell? (Ql b 4)=some (Qa (a.length:Int))) (first|go_keep) (fail)
   all_goals go_wp2_with fail
   all_goals have c2:=Xx bh.blk
   all_goals have a9:(m.next:Int)<400:=I
   all_goals have a8:(0:Int)<=(m.next:Int):=I
   all_goals refine wp_region_noPanic ?_
   all_goals go_region
   all_goals refine NoPanic.normal ?_
   all_goals obtain⟨Y,ad⟩:=bh.atNext hlt
   all_goals obtain⟨W,x⟩:=Q3 (((wr.setCell ⟨b,2,none⟩ (Qa (m.next:Int))).setCell ⟨b,3,none⟩ (Qa ((m.next:Int)+1))).drew.drew)
   all_goals rw[<-x]at Y ad
   all_goals rw[<-x]
   all_goals clear x
   all_goals have J:Fr (PMc V.heap.size b) c W:=bg.o.trans ad
   all_goals obtain⟨g,cs,aO,l,av,bv,a1,a2,a3,a4,a5,a6,a7,ho⟩:=((HC.o.below q).pm J).get' m.next hlt
   all_goals subst aO
   all_goals have e0:W.cell? ⟨g,m.next*7,none⟩=some (Qa a[m.next].op):=(Qj l _).trans a1
   all_goals have e1:W.cell? ⟨g,m.next*7+1,none⟩=some (Qa a[m.next].n):=(Qj l _).trans a2
   all_goals have e2:W.cell? ⟨g,m.next*7+2,none⟩=some (Qa a[m.next].tag):=(Qj l _).trans a3
   all_goals have e3:W.cell? ⟨g,m.next*7+3,none⟩=some (.bool a[m.next].oct):=(Qj l _).trans a4
   all_goals have e4:W.cell? ⟨g,m.next*7+4,none⟩=some av:=(Qj l _).trans a5
   all_goals have e5:W.cell? ⟨g,m.next*7+5,none⟩=some bv:=(Qj l _).trans a6
   all_goals have e6:W.cell? ⟨g,m.next*7+6,none⟩=some (Qa a[m.next].at_):=(Qj l _).trans a7
   all_goals have en:W.cell? (Ql b 2)=some (Qa (m.next:Int)):=Y.now
   all_goals have aE:=O Y
   all_goals have G:=O J
   all_goals have HO:=O ho
   all_goals have aB:=O (q.o.trans (J.below (B:=w.heap.size) (fun k o h=>by have:=h.1;omega) q.size))
   all_goals clear Y ad J l a1 a2 a3 a4 a5 a6 a7 c0 c2 c3 c4 z0
   all_goals go_wp2_with fail
   all_goals refine(OZ aE HO (bn.o.fr G) (HT.o.below aB)).mono ?_
   all_goals rintro e t ⟨S,H⟩
   all_goals have hgd:a.getD m.next A6=a[m.next]:=by simp[List.getD,hlt]
   all_goals cases hr:stepL M a.length a[m.next] (atL m)with
   |ok m'=>
    rw[hr]at H;obtain⟨rfl,ar⟩:=H;have au:=Dv hr (show m.next+1<=a.length by omega);have a0:m.next+1<=m'.next:=au.1
    have z:Hid (∃F,a.length-m'.next<=F/\Yd M a a.length (ms0 v) 0=Yd M a F m' (d+1)):=by
     show ∃F,_
     rw[bi.o]
     cases F with
     |zero=>omega
     |succ F=>exact⟨F,I,by rw[Yd,Qi hlt,hgd,hr]⟩
    have bl:=O ar;have aC:=O (G.o.trans S);clear ar S au hr;go_wp2_with fail;refine⟨⟨m',d+1,rfl,bl,aC,I,z⟩,?_⟩;simp[intOf];omega
   |error f=>
    rw[hr]at H;obtain⟨bb,aX,rfl,aI⟩:=H;have ae:Fr (PMc V.heap.size b) c t:=G.o.trans S;have aW:w.heap.size+3<=W.heap.size:=by have h1:=G.size;omega
    have aV:W.heap.size<=t.heap.size:=S.size;have aj:t.heap[w.heap.size+1]?=some (Qe #[Qp] 32):=ae.block _ _ (Ze HP E) (PMc.not Qb Qb Qb Qb);have ak:t.heap[w.heap.size+1+1]?=some (Qe #[.nilIface] 84):=ae.block _ _ (Ze HQ E) (PMc.not Qb Qb Qb Qb);have aH:Qo w t:=q.o.trans (ae.below (B:=w.heap.size) (fun k o h=>by have:=h.1;omega) q.size)
    have HR:=O (Qu2 (v:=v) (f:=f) (d:=d+1) hlong (by
     rw[bi.o]
     cases F with
     |zero=>omega
     | succ F=>rw [Yd,Qi hlt,hgd,hr]))
    have Z:=Zs aj;have x2:=Zs ak;have z1:=QQ aj;have z2:=QQ ak;refine leaves_cons (f:=101) (args:=#[(Qc (w.heap.size+1)),.pointer (some ⟨w.heap.size+1+1,0,none⟩)]) Qh (by simp[go_sem]) ?_;refine(Fo (w.heap.size+1) (w.heap.size+1+1) ⟨bb,0,none⟩ [] Z x2 z1 z2 I).mono ?_;rintro e u' aU ⟨rfl,rfl,lv,w7,aR,aK,rfl⟩;obtain⟨X,hX,y0,y1,hB,hA,aJ⟩:=Iz (f:=f) (bb:=bb) (P:=w.heap.size+1) aH I I aR aK I I I aI Z x2;rw[<-hX]
    have z:Hid (N2 (execL v a M) w (.returned (.tuple #[lv,Qa ((d:Int)+1),.iface 125 (Qc bb)])) X):=by
     rw[HR.o];exact⟨hB,Qr ⟨lv,f,_,rfl,rfl,hA,I,aJ⟩⟩
    obtain⟨la,lk,af⟩:=Zj hA.1;subst af;simp[Leaves,settle,results,results65,go_sem,y0,y1];exact z
theorem QwZ{v:Bool}{b c:Value}(f:JH w b a)(g:Jj w c M.hdrs)(e:SBd M (ss0 v))(d:1<w.heap.size)(i:∃m,w.cell? (Ql 1 0)=some (Qa m))(k:Tab w)(j:a.length<=1000000):Calls prog 65 #[.bool v,b,Yg M c] w (N2 (execL v a M) w):=by
 by_cases hl:400<a.length
 .exact QvS f g e d i k j hl
 .exact Qt0 f g e d i k j hl
theorem N7.codeV{e:List Ins}(h:N7 w B i e):JH w i e:=by
 obtain⟨b,rfl,q,d,p⟩:=h;by_cases h0:b=[]
 .subst h0;exact Qt ⟨p rfl,rfl⟩
 .rcases q.2 with⟨_,m⟩ | ⟨g,l,f,s,u,n,t,_,v,r⟩
  .exact absurd (XV m) h0
  .refine Qr ⟨g,l,f,by rw[XB];exact s,n,fun j c=>?_⟩;rw[XB]at c
   have a:∀k,k<7->f[j*7+k]?=(KT b[j])[k]?:=fun k d=>by
    rw[<-DE b j c k d,<-r,List.getElem?_take_of_lt I];simp
   have o:(b.map Prod.fst)[j]'(by simpa using c)=b[j].1:=Qh
   rw[o];exact⟨b[j].2.1,b[j].2.2,a 0 I,a 1 I,a 2 I,a 3 I,a 4 I,a 5 I,a 6 I,d _ (ZT c)⟩
theorem QuO(g:Nat){q:Value}(h:w.heap[g]?=some (Qe #[i,q] 124))(p:Y1 X y.1 w i)(d:blX X (Yx 7) y.2 w q)(D:∀c∈y.2,YE (WfT y.1) (WfC y.1) 7 c)(F:(KU y).length<=100000):Calls prog 57 #[Qc g] w fun e w'=>∃cv,e=.returned cv/\N7 w' w.heap.size cv (XH y.2)/\Qo w w':=by
 obtain⟨t,V,v,rfl⟩:∃a n c,i=.slice a n c:=by
  rcases p with⟨_,rfl⟩ | ⟨N,M,rfl,_⟩
  .exact⟨_,_,_,rfl⟩
  .exact⟨_,_,_,rfl⟩
 obtain⟨u,J,x,rfl⟩:=d.form;have H:=O h;have T:=O d;clear h p d;go_enter func57,ntmps57;go_wp2_with fail;refine Qv (LQ g t u H) ?_;rintro Q b;have S:=O b;have j:=b.size;have s:=O (T.o.keep (XO 7) (fun k _ E=>b.block k E));clear b;go_wp2_with fail;refine(Re ⟨_,_,_,rfl⟩ s D F).mono ?_;rintro e R ⟨cv,rfl,m,l⟩;have r:=O (S.o.trans (l.mono j));have f:=m.codeO;clear m;obtain⟨L,P,G⟩:=f.len;subst G;have U:=O f;clear l f;go_wp2;go_ret;obtain⟨K,z,A,B,C⟩:=U.o;exact⟨_,rfl,⟨K,z,U6 A j,B,C⟩,r⟩
def varsB(req:Qn):Bool:=Lib.containsS (req.map sA) (sA Z8)
theorem QvE(a b:Value)(W:World):(Instr.field 91 (.agg #[a,b]) 0).run prog W=.ok a W:=Qm
def EI(r:List (Int×L8)×Nat×Option FZ)(w:World)(e:Ending)(w':World):Prop:=
 Qo w w'∧((∃lv,r.2.2=none∧e=.returned (.tuple #[lv,.nilIface])∧ActsV w' w.heap.size lv r.1)∨
  (∃lv f bb,r.2.2=some f∧e=.returned (.tuple #[lv,.iface 125 (Qc bb)])∧ActsV w' w.heap.size lv r.1∧w.heap.size<=bb∧w'.heap[bb]?=some (Qe #[Qa f.1,Qa f.2] 130)))
theorem R3{req:Qn}{a:Value}(d:Y1 X req w a)(i:req.length<=1000000):Calls prog 64 #[a,Qf Z8] w fun e w'=>e=.returned (.bool (varsB req))/\w'=w:=by
 rcases d with⟨b,rfl⟩ | ⟨g,c,rfl,_,f,k⟩
 .subst b;exact Tryz.slices_Contains_string_empty none 0 (sA Z8) w
 .have:=Tryz.slices_Contains_string g 0 req.length c (req.map sA) (sA Z8) w Qh I (fun j hj=>by
   rw[XB]at hj;rw[J4,f j hj,Zv,Zv,Ns,Zi hj]
   rfl)
  rw[Z7 Qh]at this;exact this
theorem QxV(g:Nat){K:Value}(h:w.heap[g]?=some (Qe #[C,lv] 124))(r:Y1 X y.1 w C)(t:blX X (Yx 7) y.2 w lv)(J:∀c∈y.2,YE (WfT y.1) (WfC y.1) 7 c)(V:(KU y).length<=100000)(Y:y.1.length<=1000000)
 (hh:Jj w K M.hdrs) (hbd:∀v,SBd M (ss0 v)) (h1:1<w.heap.size) (hm:∃m,w.cell? (Ql 1 0)=some (Qa m)) (ht:Tab w):Calls prog 41 #[Qc g,Yg M K] w (EI (execL (varsB y.1) (XH y.2) M) w):=by
 obtain⟨R,n1,D,rfl⟩:∃a n c,C=.slice a n c:=by
  rcases r with⟨_,rfl⟩ | ⟨g',c',rfl,_⟩
  .exact⟨_,_,_,rfl⟩
  .exact⟨_,_,_,rfl⟩
 obtain⟨S,n2,E,rfl⟩:=t.form;obtain⟨ah,ch,rfl⟩:=hh.len;have hcl:(XH y.2).length<=1000000:=by have:=MH J;omega
 have H:=O h;have HM:=O hm;clear h hm;change Qd _ at hbd hcl;replace r:=O r;replace t:=O t;replace hh:=O hh;replace ht:=O ht;unfold Yg;have aa:=QvE;go_enter func41,ntmps41;obtain⟨j,l⟩:=Q3 (w.alloc (Qe #[Qf M.fr,Qf M.to,Qa M.size,.slice ah M.hdrs.length ch] 28));have u:Hid (Qo w j):=by show Below _ _ _;rw[l];exact QH _
 have N:Hid (j.heap[w.heap.size]?=some (Qe #[Qf M.fr,Qf M.to,Qa M.size,.slice ah M.hdrs.length ch] 28)):=by show _=_;rw[l];exact Q0
 have T:=u.size;change Qd _ at l;go_wp2_with (first|(go_at_call 64;refine Qv (R3 Q Y) ?_;rintro w2 L;rw[L];clear L;skip)|(go_at_call 38;rw[<-l.o];refine Qv (LQ g R S (Ze H u)) ?_;rintro s x;have d:=O (u.o.trans (x.mono T));have i:=O (Ze N x);have Q:=O (r.o.keep (w':=s) (fun k _ q=>d.o.block k q));clear x;skip));have c0:=Qj i 0;have D:=Qj i 1;have E:=Qj i 2;have c3:=Qj i 3;have U:=d.size;obtain⟨vb,B⟩:=Qw (varsB y.1);rw[B];clear l;change Qd _ at B
 go_region_held3 (fun w'=>w'.cell? (Ql w.heap.size 0)=some (Qf M.fr)∧w'.cell? (Ql w.heap.size 1)=some (Qf M.to)∧w'.cell? (Ql w.heap.size 2)=some (Qa M.size)∧w'.cell? (Ql w.heap.size 3)=some (.slice ah M.hdrs.length ch)) (first | go_keep | exact ⟨Qj HM3 0,Qj HM3 1,Qj HM3 2,Qj HM3 3⟩) (first
  |(go_at_call 57;refine(QuO g (Ze (w:=w) (w':=s.drew) H d.o.drew) (r.o.keep (w':=s.drew) (fun k _ q=>d.o.block k q)) (t.o.keep (XO 7) (w':=s.drew) (fun k _ q=>d.o.block k q)) J V).mono ?_;rintro e w2 ⟨cv,rfl,A,z⟩;obtain⟨a5,k5,Z⟩:=A.len;subst Z;have HC2:=O A;have HB2:=O (d.o.drew.trans (z.mono U));have HM2:=O (Ze (w:=s.drew) i z);have d0:=Zs HM2;have d1:=Q9 HM2;have d2:=Xx HM2;have d3:=XU HM2;have h2s:=HB2.size;clear A z;skip)
  | (go_at_call 65;refine (QwZ HC2.o.codeV (hh.o.fr (P:=fun _ _=>False) (Fr.of_below HB2) (fun _ _ h=>h)) (hbd _) I (by obtain ⟨m,hm⟩:=HM.o;exact ⟨m,(QN HB2 hm h1)⟩) (ht.o.below HB2) hcl).mono ?_;rintro e w3 ⟨hB3,hX⟩;have HB3:=O (HB2.o.trans (hB3.mono h2s));have HM3:=O (Ze HM2 hB3);clear hB3;have hX':∃lv' ev',e=.returned (.tuple #[lv',Qa ((execL vb (XH y.2) M).2.1:Int),ev']):=(by rcases hX with ⟨lv,_,he,_⟩ | ⟨lv,f,bb,_,he,_⟩ <;> exact ⟨_,_,he⟩);have HX:=O hX;obtain ⟨lv',ev',he⟩:=hX';subst he;clear hX;skip))
 all_goals (
  have HFIN:Hid (EI (execL vb (XH y.2) M) w (.returned (.tuple #[lv',ev'])) w3):=by
   refine⟨HB3,?_⟩;rcases HX.o with⟨lv,h1,he,b⟩ | ⟨lv,f,bb,h1,he,b,F,G⟩
   .injection he with he
    injection he with he
    simp at he;obtain⟨rfl,rfl⟩:=he;exact Qt ⟨_,h1,rfl,b.lo h2s⟩
   .injection he with he
    injection he with he
    simp at he;obtain⟨rfl,rfl⟩:=he;exact Qr ⟨_,f,bb,h1,rfl,b.lo h2s,QE h2s F,G⟩
  obtain⟨ab,ac,W⟩:∃a c,lv'=.slice a (execL vb (XH y.2) M).1.length c:=by
   rcases HX.o with⟨lv,h1,he,b⟩ | ⟨lv,f,bb,h1,he,b,F,G⟩
   .injection he with he
    injection he with he
    simp at he;obtain⟨rfl,rfl⟩:=he;exact Zj b.1
   .injection he with he
    injection he with he
    simp at he;obtain⟨rfl,rfl⟩:=he;exact Zj b.1
  clear HX;subst W;go_wp2;refine Q_ (v:=.tuple #[_,ev']) (by simp[results,results41,go_sem];rfl) rfl ?_;rw[B.o]
  exact HFIN)
def hcells(l:List (L8×L8)):List Value:=l.flatMap fun a=>[Qf a.1,Qf a.2]
theorem FC{l:List (L8×L8)}:(hcells l).length=l.length*2:=by
 induction l with
 |nil=>rfl
 |cons p r ih=>simp only[hcells,YS,Qz,Q1,Zl]at ih ⊢;omega
theorem Lq{l:List (L8×L8)}(j:Nat)(a:j<l.length):(hcells l)[j*2]?=some (.string (sA l[j].1))/\(hcells l)[j*2+1]?=some (.string (sA l[j].2)):=by
 induction l generalizing j with
 |nil=>exact absurd a (XA _)
 |cons p r ih=>
  cases j with
  |zero=>exact⟨rfl,rfl⟩
  |succ j=>
   have:=ih j (by simpa using a);have e:hcells (p::r)=Qf p.1 :: Qf p.2::hcells r:=rfl;have b:(j+1)*2=j*2+1+1:=I
   rw[e,b,Y5,Y5,Y5,Y5];exact this
theorem Qt1{l:List (L8×L8)}:∀u∈hcells l,u.oneCell'=true:=by
 intro u c;unfold hcells at c;obtain⟨a,_,b⟩:=Vq.1 c;simp at b;rcases b with rfl|rfl<;>rfl
theorem QsM{l:List (L8×L8)}{j:Nat}(h:(hcells l)[j]?=some u):∃k,∃hk:k<l.length,(j=k*2/\u=.string (sA l[k].1))\/(j=k*2+1/\u=.string (sA l[k].2)):=by
 have b:j<l.length*2:=by
  rw[<-FC];exact(List.getElem?_eq_some_iff.1 h).1
 have hk:j / 2<l.length:=I
 have:=Lq (j / 2) hk;by_cases e:j % 2=0
 .have a:j=j / 2*2:=I
  refine⟨j / 2,hk,Qt ⟨a,?_⟩⟩;rw[a,this.1]at h;exact(ZK h).symm
 .have a:j=j / 2*2+1:=I
  refine⟨j / 2,hk,Qr ⟨a,?_⟩⟩;rw[a,this.2]at h;exact(ZK h).symm
theorem Tryz.infoHeader:(prog.info? 50).map (fun i=>(i.zero,i.size,i.bytes))=some (some (.agg #[.string ⟨#[]⟩,.string ⟨#[]⟩]),2,32):=Qm
def UU(w:World)(B:Nat)(hv:Value)(hs:List (L8×L8)):Prop:=w.ownsRow B 50 2 hv hs.length (hcells hs)
theorem UU.hdrV{a:List (L8×L8)}(h:UU w B d a):Jj w d a:=by
 rcases h.2 with⟨i,k⟩ | ⟨g,e,f,o,q,l,p,_,r,n⟩
 .exact Qt ⟨i,XV k⟩
 .refine Qr ⟨g,e,f,o,l,fun j m=>?_⟩;obtain⟨b,c⟩:=Lq j m;rw[<-n,List.getElem?_take_of_lt I]at b c;exact⟨by rw[<-b];simp,by rw[<-c];simp⟩
def Gt(w:World)(v:Value)(hs:List (L8×L8)):Prop:=
 ∃a c,v=.slice a hs.length c/\(hs≠[]->∃b off,a=some ⟨b,off,none⟩/\∀j (hj:j<hs.length),w.cell? ⟨b,off+j*2,none⟩=some (.string (sA hs[j].1))/\w.cell? ⟨b,off+j*2+1,none⟩=some (.string (sA hs[j].2)))
theorem Gt.len{b:List (L8×L8)}(h:Gt w v b):∃a c,v=.slice a b.length c:=by
 obtain⟨a,c,h,_⟩:=h;exact⟨a,c,h⟩
theorem Gt.below{g:List (L8×L8)}(h:Gt w v g)(f:Qo w w'):Gt w' v g:=by
 obtain⟨a,c,h,i⟩:=h;refine⟨a,c,h,fun m=>?_⟩;obtain⟨b,n,rfl,k⟩:=i m;refine⟨b,n,rfl,fun j l=>?_⟩;obtain⟨d,e⟩:=k j l;exact⟨(f.cell (QX d)).trans d,(f.cell (QX e)).trans e⟩
theorem WB(g d:Nat){c:Nat}(q:∀j (r:j<M.hdrs.length),w.cell? ⟨g,d+j*2,none⟩=some (.string (sA M.hdrs[j].1))/\w.cell? ⟨g,d+j*2+1,none⟩=some (.string (sA M.hdrs[j].2)))(G:M.hdrs≠[])(U:M.hdrs.length<=100000):Calls prog 40 #[Yg M (.slice (some ⟨g,d,none⟩) M.hdrs.length c)] w fun e w'=>∃a k,e=.returned (Yg M (.slice a M.hdrs.length k))/\UU w' w.heap.size (.slice a M.hdrs.length k) M.hdrs/\Qo w w':=by
 obtain⟨N,F,J,K,L⟩:=ZU Tryz.infoHeader;have E:g<w.heap.size:=QX (q 0 (Xz.2 G)).1
 have A:Hid (∀j u,(hcells M.hdrs)[j]?=some u->w.cell? ⟨g,d+j,none⟩=some u):=fun j u r=>by
  obtain⟨k,s,⟨rfl,rfl⟩ | ⟨rfl,rfl⟩⟩:=QsM r
  .exact(q k s).1
  .exact(q k s).2
 clear q
 have D:Hid (∀j u,(hcells M.hdrs)[j]?=some u->((w.alloc (Qe #[Qf M.fr,Qf M.to,Qa M.size,.slice (some ⟨g,d,none⟩) M.hdrs.length c] 28)).alloc (Qe #[.string ⟨#[]⟩,.string ⟨#[]⟩,Qa 0,Qp] 28)).cell? ((⟨g,d,none⟩:Addr).add j)=some u):=fun j u r=>by
  rw[Addr.add_lit,Xo (a:=⟨g,d+j,none⟩) (w:=w) ((ZL _ _ _ (by simp;omega)).trans (ZL _ _ _ E))];exact A j u r
 have HP:Hid (((w.alloc (Qe #[Qf M.fr,Qf M.to,Qa M.size,.slice (some ⟨g,d,none⟩) M.hdrs.length c] 28)).alloc (Qe #[.string ⟨#[]⟩,.string ⟨#[]⟩,Qa 0,Qp] 28)).heap[w.heap.size]?=some (Qe #[Qf M.fr,Qf M.to,Qa M.size,.slice (some ⟨g,d,none⟩) M.hdrs.length c] 28)):=QJ (Q0);have C:Hid (((w.alloc (Qe #[Qf M.fr,Qf M.to,Qa M.size,.slice (some ⟨g,d,none⟩) M.hdrs.length c] 28)).alloc (Qe #[.string ⟨#[]⟩,.string ⟨#[]⟩,Qa 0,Qp] 28)).heap[w.heap.size+1]?=some (Qe #[.string ⟨#[]⟩,.string ⟨#[]⟩,Qa 0,Qp] 28)):=ZB Qh;unfold Yg;go_enter func40,ntmps40;go_wp2_with (at_builtin;refine XM _ rfl _ _ 26 rfl (w.heap.size+2) 50 N _ 2 32 underlying26 F J K L rfl Qb _ _ _ rfl (Z5) ⟨g,d,none⟩ M.hdrs.length c (hcells M.hdrs) rfl (FC) D (Qt1) (by unfold maxLen;omega) I Qh ?_;intro v5 f x p _;obtain⟨n,t,H⟩:=Zj x;subst H;have i:=(p.block w.heap.size (by simp;omega) (fun e=>nomatch e)).trans HP;have l:=(p.block (w.heap.size+1) Qh (fun e=>nomatch e)).trans C;have B:=O x;have z:=O (CS (((QO w.heap.size w).alloc QF (Qe #[Qf M.fr,Qf M.to,Qa M.size,.slice (some ⟨g,d,none⟩) M.hdrs.length c] 28)).alloc Qh (Qe #[.string ⟨#[]⟩,.string ⟨#[]⟩,Qa 0,Qp] 28)) p (by simp;omega) (fun k s=>nomatch s));have Z:=QQ i;have qf:=QQ l;have V:=Zs i;have W:=Q9 i;have X:=Xx i;have Y:=XU i;have P:=Zs l;have Q:=Q9 l;have R:=Xx l;have S:=XU l;clear x p i l);refine Q_ (v:=.agg #[Qf M.fr,Qf M.to,Qa M.size,.slice n M.hdrs.length t]) (by simp[results,results40,go_sem,P,Q,R,S]) rfl ?_
 have y:f.ownsRow (w.heap.size+2) 50 2 (.slice n M.hdrs.length t) M.hdrs.length (hcells M.hdrs):=by
  have:=B.o;rw[J4,GJ]at this;exact this
 have m:∀b,b<w.heap.size+2->(Value.slice n M.hdrs.length t).ownBlock≠some b:=fun b T e=>by have:=(y.lt b e).1;omega
 refine⟨n,t,rfl,U6 (NL (NL (NL (NL (NL y (m _ I)) (m _ I)) (m _ I)) (m _ I)) (m _ I)) I,?_⟩;exact((((z.setCell (show w.heap.size<=w.heap.size from QF) _).setCell (show w.heap.size<=w.heap.size+1 by omega) _).setCell (show w.heap.size<=w.heap.size+1 by omega) _).setCell (show w.heap.size<=w.heap.size+1 by omega) _).setCell (show w.heap.size<=w.heap.size+1 by omega) _
theorem QtD(M:Msg)(a:Option Addr)(c:Nat)(w:World)(b:M.hdrs=[]):Calls prog 40 #[Yg M (.slice a 0 c)] w fun e w'=>∃a k,e=.returned (Yg M (.slice a M.hdrs.length k))/\UU w' w.heap.size (.slice a M.hdrs.length k) M.hdrs/\Qo w w':=by
 have d:Hid (M.hdrs.length=0):=by show _=_;rw[b];rfl
 have f:=O b;clear b;unfold Yg
 cases a with
 |none=>
  go_enter func40,ntmps40;go_wp2;refine Q_ (v:=.agg #[Qf M.fr,Qf M.to,Qa M.size,Qp]) (by simp[results,results40,go_sem]) rfl ?_;refine⟨none,0,by rw[d.o],?_,?_⟩
  .unfold UU;rw[f.o];exact Z5
  .exact(QH _).alloc Qh _
 |some a=>
  go_enter func40,ntmps40;go_wp2;refine Q_ (v:=.agg #[Qf M.fr,Qf M.to,Qa M.size,Qp]) (by simp[results,results40,go_sem]) rfl ?_;refine⟨none,0,by rw[d.o],?_,?_⟩
  .unfold UU;rw[f.o];exact Z5
  .exact(QH _).alloc Qh _
theorem QtE(i:Gt w d M.hdrs)(j:M.hdrs.length<=100000):Calls prog 40 #[Yg M d] w fun e w'=>∃a k,e=.returned (Yg M (.slice a M.hdrs.length k))/\UU w' w.heap.size (.slice a M.hdrs.length k) M.hdrs/\Qo w w':=by
 obtain⟨a,c,rfl,f⟩:=i;by_cases h0:M.hdrs=[]
 .have e:M.hdrs.length=0:=by rw[h0];rfl
  rw[e];have:=QtD M a c w h0;rw[e]at this;exact this
 .obtain⟨b,l,rfl,g⟩:=f h0;exact WB b l g h0 j
theorem Mx(a:Option Addr){k:Nat}(x:UU w B (.slice a M.hdrs.length k) M.hdrs)(T:M.hdrs.length<=100000):Calls prog 42 #[Yg M (.slice a M.hdrs.length k)] w fun e w'=>e=.returned (.tuple #[])/\Fr (fun k o=>B<=k/\∃cs,o=Qe cs 50) w w':=by
 obtain⟨d,f⟩:=Q3 (w.alloc (Qe #[Qf M.fr,Qf M.to,Qa M.size,.slice a M.hdrs.length k] 28));have A:Hid (Qo w d):=by show Below _ _ _;rw[f];exact QH _
 have C:Hid (d.heap[w.heap.size]?=some (Qe #[Qf M.fr,Qf M.to,Qa M.size,.slice a M.hdrs.length k] 28)):=by show _=_;rw[f];exact Q0
 have D:Hid (d.ownsRow B 50 2 (.slice a M.hdrs.length k) M.hdrs.length (hcells M.hdrs)):=by show World.ownsRow _ _ _ _ _ _ _;rw[f];exact World.ownsRow.alloc x _
 have X:=O f;generalize hn:M.hdrs.length=n at *;clear x f;unfold Yg;go_enter func42,ntmps42;go_wp2_with fail;rw[<-X.o]
 go_loopw [2,6] (fun _ i wr=>∃(j:Nat) (l:List Value),j<=n/\i=Qa (j:Int)/\wr.ownsRow B 50 2 (.slice a n k) n l/\Fr (fun k o=>B<=k/\∃cs,o=Qe cs 50) d wr) (fun _ i _=>n-(intOf i).toNat)
 case atStart=>exact⟨0,_,QR,by go_num,D,Fr.refl _ _⟩
 case round=>
  obtain⟨j,l,S,rfl,b,hF⟩:=hrel;have m:=hF.block _ _ C (fun h=>by obtain⟨_,cs,e⟩:=h;injection e with _ e;exact absurd e Qb);have N:=Qj m 3;by_cases hlt:j<n
  .obtain⟨g,c,J,P,R,hcells⟩:=Jo b I;injection J with hv1 hv2 hv3
   subst hv1 hv3;have K:=b.1;obtain⟨u1,U⟩:∃u,wr.cell? ⟨g,j*2,none⟩=some u:=⟨l[j*2]' I,hcells _ _ (Zi I)⟩;obtain⟨u2,V⟩:∃u,wr.cell? ⟨g,j*2+1,none⟩=some u:=⟨l[j*2+1]' I,hcells _ _ (Zi I)⟩;have Q:∀o,wr.frozen? ⟨g,o,none⟩=false:=b.frozenAt;obtain⟨q,s⟩:=b.stored (j*2) (.string ⟨#[109,105,110,101]⟩);obtain⟨y,t⟩:=q.stored (j*2+1) (.string ⟨#[109,105,110,101]⟩);have p:∀(u v:World) (z:List Value),u.ownsRow B 50 2 (Qs g n k) n z->u.grownBy v (some g)->Fr (fun k o=>B<=k/\∃cs,o=Qe cs 50) u v:=fun u v z G E=>(Fr.refl _ u).grown E (fun L o e H=>JS G e H)
   have r:=O (And.intro y ((hF.trans (p _ _ _ b s)).trans (p _ _ _ q t)));clear p q y s t b hF m hcells K;go_wp2;go_roundw
   case rel=>exact⟨j+1,_,I,by go_num,r.1,r.2⟩
   case measure=>simp[intOf];omega
  .have W:=O hF;have F:j=n:=I
   subst F;clear hF m b;go_wp2;go_end0;exact⟨rfl,(Fr.of_below A).trans W⟩
def AZ(f:Option FZ):FZ:=f.getD (0,-1)
def PT(r:List (Int×L8)×Nat×Option FZ)(w:World)(e:Ending)(w':World):Prop:=
 Qo w w'/\∃lv,e=.returned (.tuple #[lv,Qa (AZ r.2.2).1,Qa (AZ r.2.2).2])/\ActsV w' w.heap.size lv r.1
theorem ActsV.fr{P:Nat->Obj->Prop}(h:ActsV w B v l)(hf:Fr P w w')(hp:∀k cs,¬P k (Qe cs 52)):ActsV w' B v l:=⟨Yc h.1 hf hp,h.2⟩
theorem ActsV.below(h:ActsV w B v l)(hb:Qo w w'):ActsV w' B v l:=h.fr (P:=fun _ _=>False) (Fr.of_below hb) (fun _ _ h=>h)
theorem UU.below{l:List (L8×L8)}(h:UU w B v l)(hb:Qo w w'):UU w' B v l:=Yc h (P:=fun _ _=>False) (Fr.of_below hb) (fun _ _ h=>h)
theorem QxZ(g:Nat){rv:Value}(he:Env w)(h:w.heap[g]?=some (Qe #[rv,lv] 124))(hr:Y1 X y.1 w rv)(U:blX X (Yx 7) y.2 w lv)(ha:∀c∈y.2,YE (WfT y.1) (WfC y.1) 7 c)(hl:(KU y).length<=100000)(aq:y.1.length<=1000000)
 (C:Gt w hv M.hdrs) (V:∀v,SBd M (ss0 v)):Calls prog 21 #[Qc g,Yg M hv] w (PT (execL (varsB y.1) (XH y.2) M) w):=by
 have Z:=(V true).hl;obtain⟨ah,ch,rfl⟩:=C.len;have H:=O h;have HR:=O hr;have aA:=O U;have aE:=O C;have HE:=O he;have aB:=O V;have K:=O (And.intro ha (And.intro hl aq));obtain⟨r,ab⟩:=Qw (execL (varsB y.1) (XH y.2) M);rw[ab];have aH:=O ab;obtain⟨m1,ap⟩:=he.m1;have aw:=QX ap;clear h hr U C he V ha hl aq ab ap m1;have b:∀(a:Option Addr) (n c:Nat),Yg M (.slice a n c)=.agg #[Qf M.fr,Qf M.to,Qa M.size,.slice a n c]:=fun _ _ _=>rfl
 rw[b];have ax:=O b;clear b;go_enter func21,ntmps21;go_wp2_with fail;obtain⟨x,T⟩:=Q3 (w.alloc (Qe #[Qf M.fr,Qf M.to,Qa M.size,.slice ah M.hdrs.length ch] 28));rw[<-T];have z:Qo w x:=by rw[T];exact QH _
 have L:=z.size;clear T;rw[<-ax.o];refine(QtE (aE.o.below z) Z).mono ?_;rintro e D ⟨q,t,rfl,aa,ak⟩;have Q:=z.trans (ak.mono L);have aG:=O aa;have az:=O Q;have ar:=Q.size;clear aa Q ak z;rw[ax.o];go_wp2_with fail;obtain⟨j,B⟩:=Q3 (D.alloc (Qe #[Qf M.fr,Qf M.to,Qa M.size,.slice q M.hdrs.length t] 28));rw[<-B];have R:Qo D j:=by rw[B];exact QH _
 have ao:j.heap[D.heap.size]?=some (Qe #[Qf M.fr,Qf M.to,Qa M.size,.slice q M.hdrs.length t] 28):=by rw[B];exact Q0
 have l:=az.o.trans (R.mono ar);have af:=O (aG.o.below R);have ac:=O (HE.o.below l);have aC:=O l;have aF:=O ao;have S:=l.size
 have ag:Hid (Calls prog 41 #[Qc g,Yg M (.slice q M.hdrs.length t)] j (EI r j)):=by
  show Calls _ _ _ _ _
  rw[<-aH.o];exact QxV g (Ze H l) (HR.o.keep (fun k _ W=>l.block k W)) (aA.o.keep (XO 7) (fun k _ W=>l.block k W)) K.1 K.2.1 K.2.2 af.o.hdrV aB I ac.m1 ac.tab
 clear R ao B l;rw[<-ax.o];refine ag.mono ?_;rintro e w2 ⟨A,hX⟩;have G:=O (aC.o.trans (A.mono S));have ae:=O (af.o.below A);have u:=O (Ze aF A);have m0:=Qj u 0;have m1:=Qj u 1;have m2:=Qj u 2;have m3:=Qj u 3;have aj:=G.size;clear A ag;rcases hX with⟨au,N,rfl,d⟩ | ⟨au,f,bb,N,rfl,d,av,hF⟩
 .have s:AZ r.2.2=(0,-1):=by rw[N];rfl
  have ay:=O s;have HA:=O d;obtain⟨la,lc,Y⟩:=Zj d.1;subst Y;clear d s;rw[ax.o];go_wp2_with fail;rw[<-ax.o];refine Qv (Mx q (U6 ae L) Z) ?_;rintro w3 i;have p:=O (G.o.trans (i.below (fun k o h=>h.1) aj));have E:=O (HA.o.fr i (fun k cs h=>by obtain⟨_,ai,e⟩:=h;injection e with _ e;exact absurd e Qb));have P:=p.size;clear i;rw[ax.o];go_wp2_with fail;refine Qv (MB w3) ?_;rintro w4 m;have J:=O (p.o.trans (m.mono P));have F:=O (E.o.below m);clear m;go_wp2;refine Q_ (v:=.tuple #[.slice la r.1.length lc,Qa 0,Qa (-1)]) (by simp[results,results21,go_sem]) rfl ?_;exact⟨J,_,by rw[ay.o],F.o.lo S⟩
 .have s:AZ r.2.2=f:=by rw[N];rfl
  have ay:=O s;have HA:=O d;have aD:=O hF;obtain⟨la,lc,Y⟩:=Zj d.1;subst Y;clear d s hF;rw[ax.o];go_wp2_with fail;rw[<-ax.o];refine Qv (Mx q (U6 ae L) Z) ?_;rintro w3 i;have p:=O (G.o.trans (i.below (fun k o h=>h.1) aj));have E:=O (HA.o.fr i (fun k cs h=>by obtain⟨_,ai,e⟩:=h;injection e with _ e;exact absurd e Qb));have ad:=O (i.block _ _ aD (fun h=>by obtain⟨_,ai,e⟩:=h;injection e with _ e;exact absurd e Qb));have P:=p.size;clear i;rw[ax.o];go_wp2_with fail;refine Qv (Ic bb f.1 f.2 ((HE.o.below p).et) (Qj ad 0) (Qj ad 1)) ?_;rintro w4 m;have J:=O (p.o.trans (m.mono P));have F:=O (E.o.below m);clear m;go_wp2;refine Q_ (v:=.tuple #[.slice la r.1.length lc,Qa f.1,Qa f.2]) (by simp[results,results21,go_sem]) rfl ?_;exact⟨J,_,by rw[ay.o],F.o.lo S⟩
theorem Ph{y:UL}(d:∃t:L8,t.length<=600/\prL t=.ok y):(∀c∈y.2,YE (WfT y.1) (WfC y.1) 7 c)/\(KU y).length<=90000/\(XH y.2).length<=400/\y.1.length<=100000:=by
 obtain⟨t,i,b⟩:=d;have f:=Qvj b;have g:=T_ b;refine⟨(Qxi b).2,I,I,?_⟩;have a:(NF y.1).length<=(KU y).length:=by unfold KU;rw[Qz];omega
 unfold NF at a;by_cases e:y.1=[]
 .rw[e];exact QR
 .rw[Qg e]at a;have:=(H' y.1).2;simp only[Qz]at a;omega
theorem QtZ{d:Nat}{u:World}(x:OpD)(h:Jg d u N w)(he:Env u)(hu:u.heap.size=d)(hN:N<1100000000000)(hx:GL x)(aW:SmD x)(br:VX u x.hv x.hs)(B:∃a n c,x.hv=.slice a n c)(S:∃a n c,x.cv=.slice a n c)(hk:x.kind=1\/x.kind=3\/x.kind=6\/x.kind=7):Calls prog 16 #[Qc d,opV x] w fun e w'=>e=.returned (.bool true)/\Jg d u (N+1) w':=by
 have HE:=O he;obtain⟨P,xv,mv,cv,f,X,af,cs,aC,ae,a5,bn⟩:=h;have ah:Hid (∀W,Qo w W->Calls prog 24 #[Qc d,opV x] W fun e w'=>e=.returned (.tuple #[])/\Cs d u P xv mv cv f X af cs.length W w'):=fun W q=>TF x (aC.below q) bn I hx aW.s B S
 have bJ:=O ae;have a8:=O aC.cu;have ak:=O aW;have ba:=O br;obtain⟨l,A,m,B⟩:=B;obtain⟨a2,n2,c2,S⟩:=S;have bz:=hx.s;obtain⟨bk,bl⟩:=hx.a;unfold opV at ah ⊢;rw[B,S]at ah ⊢;obtain⟨L,aa⟩:=Q3 (w.alloc (Qe #[Qa x.kind,Qa x.a,Qa x.b,Qf x.s,Qf x.fr,Qf x.tt,Qa x.sz,.slice l A m,.slice a2 n2 c2] 47));have bP:=O aa;have a7:Hid (Qo w L):=by show Below _ _ _;rw[aa];exact QH _
 have aG:Hid (L.heap[w.heap.size]?=some (Qe #[Qa x.kind,Qa x.a,Qa x.b,Qf x.s,Qf x.fr,Qf x.tt,Qa x.sz,.slice l A m,.slice a2 n2 c2] 47)):=by show _=_;rw[aa];exact Q0
 clear aC ae he hx S aa;generalize hKK:x.kind=K at *;go_enter func16,ntmps16;go_wp2_with fail;rw[<-bP.o];refine Qv (ah L a7) ?_;rintro H ⟨⟨aq,D,bo⟩,bA,aS⟩;have C:=(aS w.heap.size (a8 _ (Qt QF)) (QI aG)).trans aG;have q0:=Qj C 0;have q1:=Qj C 1;have q3:=Qj C 3;have q4:=Qj C 4;have q5:=Qj C 5;have q6:=Qj C 6;have q7:=Qj C 7;have bI:=O D;have r0:=Qj D.nd 0;have r1:=Qj D.nd 1;have bM:=O C;have aP:aq.length<=N:=I
 have H1:Hid (Jg d u N H):=⟨P,xv,mv,cv,f,X,af,aq,D,bJ,a5,aP⟩;clear C D aS bA bo;rcases hk with rfl|hk
 .go_wp2_with fail;refine Qv (SH H1 HE hu I bz) ?_;rintro w2 aZ;have HG:=O aZ;clear aZ;go_wp2;go_ret;exact⟨rfl,HG⟩
 .have k1:(K==1)=false:=by rcases hk with rfl|rfl|rfl<;>rfl
  have k5:(K==5)=false:=by rcases hk with rfl|rfl|rfl<;>rfl
  have l1:=U8 bI.r1;by_cases hy0:f=[]
  .subst hy0;have bv:X=[]:=XV l1.symm;subst bv;obtain⟨p0,c0,aD⟩:=Eg bI.o1;subst aD;go_wp2;go_ret;exact⟨rfl,H1.o.more (Nat.le_succ N)⟩
  .have a4:0<f.length:=Xz.2 hy0;obtain⟨i,hi⟩:=Qw (pickL x.a f.length);have aR:i<f.length:=by rw[<-hi];exact Er a4
   have bd:Hid (∀W,Calls prog 31 #[Qa x.a,Qa f.length] W fun e w'=>e=.returned (Qa i)/\w'=W):=fun W=>by rw[<-hi];exact DD bk bl a4 I
   obtain⟨cx,cm,bx,bm,gx,gm,aD,bt,aJ,aK,az,aA⟩:=bI.o.get i aR;obtain⟨y,hy⟩:=Qw (f[i]);rw[hy]at az aA;have a3:=bJ y (by rw[<-hy];exact ZT aR);subst aD bt;have bN:=O az;have bO:=O aA;have bS:=O a3;have bF:((f.length:Int)==0)=false:=by simp;omega
   clear az aA a3 hi hy hy0 l1;go_wp2_with fail;go_quiet (first|(go_at_call 31;refine Kg (bd _)));generalize hWW:H.drewN _=V;have z:∀a:Addr,V.cell? a=H.cell? a:=fun a=>by rw[<-hWW];rfl
   have J:Hid (Qo H V):=by rw[<-hWW];exact⟨rfl,rfl,rfl,Q4 _,fun _ _=>rfl⟩
   have s0:=(z _).trans r0;have s1:=(z _).trans r1;have s2:=(z _).trans aJ;have s3:=(z _).trans aK;have s4:=(z _).trans q0;have t4:=(z _).trans q4;have t5:=(z _).trans q5;have t6:=(z _).trans q6;have t7:=(z _).trans q7;have ap:=O (bI.o.below J);have bf:=O (Vw.keep _ _ _ _ _ bN (fun k _ hk=>J.o.block k hk));have bg:=O (UY.keep _ _ _ _ _ bO (fun k _ hk=>J.o.block k hk));clear hWW z q0 q1 q3 q4 q5 q6 q7 r0 r1 aJ aK;rcases hk with rfl|hk
   .obtain⟨M,Q⟩:∃M:Msg,M=⟨x.fr,x.tt,x.sz,x.hs⟩:=⟨_,rfl⟩
    have G:GK M:=by
     rw[Q];have h1:=ak.o.fr;have h2:=ak.tt;have h3:=ak.hs;exact⟨by show x.fr.length<=_;omega,by show x.tt.length<=_;omega,by have:=h3.1;show x.hs.length<=_;omega,fun h B=>by have:=h3.2 h B;omega⟩
    have aM:∀v,SBd M (ss0 v):=fun v=>⟨G.fr,G.tu,G.hl,G.hs,(fun t ht=>nomatch ht),QR,(fun x t ht=>nomatch ht),QR⟩
    have aB:∀W,Below d u W->Qo u W:=fun W q=>by show Below _ _ _;rw[hu];exact q
    have a9:Hid (∀W,Below d u W->Env W):=fun W q=>HE.o.below (aB W q)
    have aF:Hid (∀W,Below d u W->HdR W M (.slice l A m)/\Gt W (.slice l A m) M.hdrs):=fun W q=>by
     rw[Q];obtain⟨p,c,e,h2⟩:=ba.o.below (aB W q);rw[B]at e;refine⟨⟨p,c,e,fun j hj=>?_⟩,p,c,e,h2⟩;obtain⟨g,bE,e2,h3⟩:=h2 (Nr (JR QR hj));obtain⟨h4,h5⟩:=h3 j hj;exact⟨g,bE,e2,QX h4,h4,h5⟩
    have bb:Hid (A8 M (.slice l A m)=.agg #[Qf x.fr,Qf x.tt,Qa x.sz,.slice l A m]):=by show _=_;unfold A8;rw[Q]
    have bc:Hid (Yg M (.slice l A m)=.agg #[Qf x.fr,Qf x.tt,Qa x.sz,.slice l A m]):=by show _=_;unfold Yg;rw[Q]
    obtain⟨ac,aX,av,aU⟩:=Ph bS;obtain⟨bj,rv,lv,aQ,_,aO,U,aN⟩:=bf.o;have bq:gx=bj:=by injection aQ with h;injection h with h;injection h
    subst bq;have bw:=QI ap.nd;have ag:=O ap.b;have ai:=O (QxZ gx (a9 V ag) aO U aN ac I I (aF V ag).2 aM);rw[bc.o]at ai;have aY:varsB y.1=usesB y.1:=Fs;have ao:=O (Qyb (M:=M) (varsB y.1) ac av)
    have aH:Hid (∀W,Qo V W->Calls prog 33 #[Qc gm,.agg #[Qf x.fr,Qf x.tt,Qa x.sz,.slice l A m]] W fun e w'=>Ab W.heap.size W (sayE (bEval (evalC M 7) y.2 (ss0 (varsB y.1)))) e w'/\(sayE (bEval (evalC M 7) y.2 (ss0 (varsB y.1)))).1.length<=7):=fun W q=>by
     rw[aY,<-bb.o];exact Tu gm (UY.keep _ _ _ _ _ bg (fun k _ hk=>q.block k hk)) ac aX av aU (aF W (ag.o.trans (q.mono (Xj bw)))).1 G
    obtain⟨r,hr⟩:=Qw (execL (varsB y.1) (XH y.2) M);rw[hr]at ai ao;obtain⟨r2,aT⟩:=Qw (sayE (bEval (evalC M 7) y.2 (ss0 (varsB y.1))));rw[aT]at aH ao;have bB:=Yq (QI bM) J.size;clear Q G aM B ac aX av aU aQ aO U aN aY hr aT aB;go_wp2_with fail;refine ai.mono ?_;rintro e w3 ⟨R,bG,rfl,ab⟩;obtain⟨bC,bD,bs⟩:=Zj ab.1;subst bs;have T:∀o,w3.cell? ⟨w.heap.size,o,none⟩=V.cell? ⟨w.heap.size,o,none⟩:=fun o=>R.cell (p:=⟨w.heap.size,o,none⟩) bB
    have i4:=(T _).trans t4;have i5:=(T _).trans t5;have i6:=(T _).trans t6;have i7:=(T _).trans t7;have bK:=O ab;have bL:=O R;have a6:=R.size;have bh:=O (aH w3 R);clear R T ab t4 t5 t6 t7 s0 s1 s2 s3 s4;go_wp2_with fail;refine bh.mono ?_;rintro e Y ⟨⟨⟨au,_⟩,bH,rfl,ay⟩,h7⟩;obtain⟨E,F,bu⟩:=Zj ay;subst bu;have bp:=ao.symm;subst bp;have U:Y.ownsRow w3.heap.size 52 2 (.slice E r.1.length F) r.1.length (ZG r.1):=ay;have aL:r.1.length<=7:=h7;have aE:Hid (Qo V Y):=bL.o.trans (au.mono a6);have aj:Hid (K0 (.slice E r.1.length F) r.2.2=.agg #[.slice E r.1.length F,Qa ((r.2.2.getD (0,0)).1),Qa ((r.2.2.getD (0,0)).2)]):=rfl;have aV:K0 (Value.slice E (r.1,r.2.2).1.length F) (r.1,r.2.2).2=K0 (.slice E r.1.length F) r.2.2:=rfl;rw[aV,aj.o];have bi:Hid (A1 r.2.2=AZ r.2.2):=rfl;obtain⟨fe,aw⟩:=Qw ((r.2.2.getD (0,0)).1);obtain⟨fp,ax⟩:=Qw ((r.2.2.getD (0,0)).2);rw[aw,ax];rw[aw,ax]at aj;obtain⟨Z,ar⟩:=Q3 (Y.alloc (Qe #[.slice E r.1.length F,Qa fe,Qa fp] 70));have bQ:=O ar;have ad:Qo Y Z:=by rw[ar];exact QH _
    have aI:=O (Qvw ap (aE.o.trans (ad.mono aE.size)) bJ a5 aP I r.2.2 (YA (ActsV.below bK au).1 ad) bK.2 (YA (U6 U a6) ad) aL);rw[aj.o,bi.o]at aI;clear au ay h7 U aL aV aw ax ar ad;go_wp2_with fail;rw[<-bQ.o];refine aI.mono ?_;rintro e w7 ⟨rfl,a0⟩;have bR:=O a0;clear a0;go_wp2;go_ret;exact⟨rfl,bR⟩
   .have k2:(K==2)=false:=by rcases hk with rfl|rfl<;>rfl
    have k3:(K==3)=false:=by rcases hk with rfl|rfl<;>rfl
    have k4:(K==4)=false:=by rcases hk with rfl|rfl<;>rfl
    clear hk B;go_wp2;go_ret;exact⟨rfl,(H1.o.below J).more (Nat.le_succ N)⟩
theorem QyA(u:World)(hw:w'=u.alloc (Qe #[Qp,Qp,Qp,Qp] 44)):Jg u.heap.size u 0 w':=by
 subst hw;refine⟨fun _=>1,_,_,_,[],[],[],[],⟨Q0,Z5,Z5,Z5,trivial,trivial,(fun k h=>nomatch h),(fun k h=>nomatch h),(fun k h=>nomatch h),(fun k _=>rfl),(fun j a=>absurd a (XA _)),QH _⟩,(fun y h=>nomatch h),Q4 _,Q4 _⟩
theorem Lg{a:Nat}{u:World}(h:Jg a u N w):Below a u w/\a<w.heap.size:=by
 obtain⟨d,l,i,f,m,j,k,e,c,g⟩:=h;exact⟨c.b,QI c.nd⟩
theorem WF{l:List OpD}(C:Nat)(h:Gw w v l)(hs:∀x∈l,GL x)(hl:l.length<=1100000000000)(he:Env w)(hk:w.cell? (Ql C 0)=some (Qa 3)):Calls prog 9 #[v,Qs C 1 1] w fun e w'=>e=.returned (.bool true)/\Qo w w':=by
 have H:=O h;have HS:=O hs;have HE:=O he;have aB:=O (QsL h hs I);have ao:=QX hk;obtain⟨a,c,P,_⟩:=h;subst P;clear hs he;go_enter func9,ntmps9;go_wp2_with fail;refine aB.mono ?_;rintro e u ⟨⟨b,rfl,ae⟩,t⟩;have aP:=O ae;clear ae;have aL:=O t;have aq:=t.size;have ar:=O (HE.o.below t);clear t
 cases b with
 |false=>
  go_wp2;go_ret;exact⟨rfl,aL⟩
 |true=>
  obtain⟨X,Y⟩:=Q3 (u.alloc (Qe #[Qp,Qp,Qp,Qp] 44));have aU:=O Y;have V:=O (QyA u Y);clear Y;obtain⟨r,D⟩:=Qw (u.heap.size);rw[D]at V;have aM:=O D;go_upto_block 0 with fail
  rw[<-aU.o];clear D;go_cut [] (fun T=>Below r u T)
  case first=>
   go_wp2_with fail
   go_loopg [5,7,8,9,10] l.length (fun m _ iv _ _ _ wr=>∃k:Nat,m=l.length-k/\k<=l.length/\iv=Qa k/\Jg r u k wr)
   case atStart=>exact⟨0,I,I,rfl,V⟩
   case round=>
    obtain⟨k,rfl,aI,rfl,B⟩:=hrel;have HG:=O B;obtain⟨ak,aJ⟩:=Lg B;have U:Hid (Qo w wr):=by show Below _ _ _;exact aL.o.trans (ak.mono (by rw[<-aM.o];exact aq))
    have kc:=QN U hk ao
    have aG:=Yq ao U.size;clear B ak V;by_cases hlt:k<l.length
    .obtain⟨a',c',P,A⟩:=H.o;obtain⟨g,aK,ha,hc⟩:=A (Nr I);have ea:a=a':=by injection P
     subst ea;subst ha;have ab:=hc k hlt;have ad:=HS l[k] (ZT hlt);obtain⟨x,hx⟩:=Qw (l[k]);rw[hx]at ab ad;have aT:=O ad;have aA:Hid (SmD x):=by rw[<-hx];first|exact aP trivial _ (ZT hlt)|exact aP rfl _ (ZT hlt)
     have ax:=O (ab.2.2.2.2.2.2.2.2.2.1.below aL);obtain⟨p0,p1,p2,p3,p4,p5,p6,p7,p8,hh,aC⟩:=ab;have aE:=QX p0;have i:∀j,wr.cell? ⟨g,j,none⟩=w.cell? ⟨g,j,none⟩:=fun j=>U.o.cell (p:=⟨g,j,none⟩) aE
     have q0:=(i _).trans p0;have q1:=(i _).trans p1;have q2:=(i _).trans p2;have q3:=(i _).trans p3;have q4:=(i _).trans p4;have q5:=(i _).trans p5;have q6:=(i _).trans p6;have q7:=(i _).trans p7;have q8:=(i _).trans p8;have aH:(k:Int)<(l.length:Int):=I
     obtain⟨E,F,J,_⟩:=aC;obtain⟨R,S,M,_⟩:=hh;have ag:Hid (opV x=.agg #[Qa x.kind,Qa x.a,Qa x.b,Qf x.s,Qf x.fr,Qf x.tt,Qa x.sz,.slice R x.hs.length S,.slice E x.code.length F]):=by show _=_;unfold opV;rw[M,J]
     have au:Hid (∃a n c,x.hv=.slice a n c):=⟨_,_,_,M⟩;have av:Hid (∃a n c,x.cv=.slice a n c):=⟨_,_,_,J⟩;rw[J]at q8;rw[M]at q7;obtain⟨z,G⟩:=Q3 (wr.alloc (Qe #[Qa x.kind,Qa x.a,Qa x.b,Qf x.s,Qf x.fr,Qf x.tt,Qa x.sz,.slice R x.hs.length S,.slice E x.code.length F] 47));have ai:=O G;have f:Hid (Qo wr z):=by show Below _ _ _;rw[G];exact QH _
     have d:Hid (z.heap[wr.heap.size]?=some (Qe #[Qa x.kind,Qa x.a,Qa x.b,Qf x.s,Qf x.fr,Qf x.tt,Qa x.sz,.slice R x.hs.length S,.slice E x.code.length F] 47)):=by show _=_;rw[G];exact Q0
     have ah:Hid (∀W,Qo wr W->(x.kind=1\/x.kind=3\/x.kind=6\/x.kind=7)->Calls prog 16 #[Qc r,.agg #[Qa x.kind,Qa x.a,Qa x.b,Qf x.s,Qf x.fr,Qf x.tt,Qa x.sz,.slice R x.hs.length S,.slice E x.code.length F]] W fun e w'=>e=.returned (.bool true)/\Jg r u (k+1) w'):=by
      intro W hW aF;rw[<-ag.o];exact QtZ x (HG.o.below hW) ar aM I aT aA ax au av aF
     obtain⟨K,hK⟩:=Qw (x.kind);rw[hK]at q0 d ai ah;obtain⟨Q,ac⟩:=Qw (wr.heap.size);rw[ac]at d;have aS:=O ac;clear p0 p1 p2 p3 p4 p5 p6 p7 p8 i hc A P hx ad G J M ag hK ac;have d0:=Qj d 0;have d1:=Qj d 1;have d2:=Qj d 2;have d3:=Qj d 3;have d4:=Qj d 4;have d5:=Qj d 5;have d6:=Qj d 6;have d7:=Qj d 7;have d8:=Qj d 8;have dk:=QN f kc aG
     obtain⟨y,N⟩:=Qw (decide (K=1\/K=3\/K=6\/K=7));have aO:=O N
     have aD:K=1\/K=6\/K=7\/((K==1)=false/\(K==6)=false/\(K==7)=false/\(K==3)=y):=by
      by_cases h1:K=1
      .exact Qt h1
      .by_cases h6:K=6
       .exact Qr (Qt h6)
       .by_cases h7:K=7
        .exact Qr (Qr (Qt h7))
        .refine Qr (Qr (Qr ⟨by simpa using h1,by simpa using h6,by simpa using h7,?_⟩));rw[<-N];by_cases A:K=3
         .rw[A];decide
         .have:¬(K=1\/K=3\/K=6\/K=7):=fun h=>by rcases h with h|h|h|h;exact h1 h;exact A h;exact h6 h;exact h7 h
          rw[QB this];simpa using A
     clear N;go_upto_region 9 with fail
     rw[<-ai.o,aS.o];clear q0 q1 q2 q3 q4 q5 q6 q7 q8 kc
     have ay:Hid ((K=1\/K=6\/K=7)->y=true):=by
      intro h;rw[<-aO.o];exact QU (by rcases h with h|h|h<;>simp[h])
     rcases aD with rfl|rfl|rfl | ⟨k1,k6,k7,k2⟩
     all_goals
      go_upto_block 2 with fail
      go_cut [9] (fun bv T=>bv=.bool y/\Qo wr T/\T.heap[Q]?=z.heap[Q]?)
      case first=>
       go_wp2_with fail;refine Vs 2 ?_;rw[UB];go_wp2_with fail;go_quiet (fail);go_wp2_with fail;rw[UB];go_wp2;go_meet
       first
        |exact⟨ZI Value.bool (ay Qh).symm,⟨f.os,f.tape,f.output,f.size,f.o.block⟩,rfl⟩
        |exact⟨rfl,⟨f.os,f.tape,f.output,f.size,f.o.block⟩,rfl⟩
      case rest=>
       obtain⟨rfl,aa,ap⟩:=hcut;have q:=ap.trans d;have aN:=O aa;clear d0 d1 d2 d3 d4 d5 d6 d7 d8 dk aa ap;have d0:=Qj q 0;have d1:=Qj q 1;have d2:=Qj q 2;have d3:=Qj q 3;have d4:=Qj q 4;have d5:=Qj q 5;have d6:=Qj q 6;have d7:=Qj q 7;have d8:=Qj q 8;have af:Hid (y=true->_):=fun h=>K5 (aO.o.trans h)
       cases y with
       |false=>
        go_wp2;go_roundg (l.length-(k+1))
        case measure=>omega
        case rel=>exact⟨k+1,rfl,I,by go_num,(HG.o.below aN).more (Nat.le_succ k)⟩
       |true=>
        go_wp2_with fail;refine Qv (ah _ aN (by first|exact af rfl|exact af trivial)) ?_;rintro w3 L;have aR:=O L;have az:=O (TV L I);clear L;go_wp2_with fail;refine az.mono ?_;rintro e w4 ⟨rfl,aj⟩;have aw:=O (aR.o.below aj);clear aj;go_wp2;go_roundg (l.length-(k+1))
        case measure=>omega
        case rel=>exact⟨k+1,rfl,I,by go_num,aw⟩
    .have aH:¬(k:Int)<(l.length:Int):=I
     go_wp2;go_meet;exact(Lg HG).1
  case rest=>
   have Z:=hcut;have aQ:=O Z;clear Z hcut;go_wp2;go_ret;exact⟨rfl,aL.o.trans (aQ.mono (by rw[<-aM.o];exact aq))⟩
theorem Gw.belowR{l:List OpD}(h:Gw w v l)(d:Qo w w'):Gw w' v l:=by
 obtain⟨a,c,i,h⟩:=h;refine⟨a,c,i,fun f=>?_⟩;obtain⟨g,k,b,h⟩:=h f;exact⟨g,k,b,fun j e=>(h j e).below d⟩
theorem Qxg{l:List OpD}(he:Env w)(h:Gw w v l)(i:∀x∈l,GL x)(m:l.length<=1100000000000):Calls prog 4 #[v] w fun e w'=>e=.returned (.bool true)/\Qo w w':=by
 obtain⟨b,f⟩:=Q3 (w.alloc (Qe #[Qa 3] 3));have r:=O f;have d:Hid (Qo w b):=by show Below _ _ _;rw[f];exact QH _
 have k:Hid (b.cell? (Ql w.heap.size 0)=some (Qa 3)):=by show _=_;rw[f];exact Qj (Q0) 0
 have HP:=O (WF w.heap.size (Gw.belowR h d) i m (he.below d) k);have p:=d.size;obtain⟨a,c,n,_⟩:=h;subst n;clear f he i;go_enter func4,ntmps4;go_wp2_with fail;rw[<-r.o];refine HP.mono ?_;rintro e q ⟨rfl,g⟩;have j:=O (d.o.trans (g.mono p));clear g;go_wp2;go_ret;exact⟨rfl,j⟩
end
section
open Go.ChangeShapes Go.WideShapes Go.ChangeAt Go.WideMaps Go.WideElems Go.RowKit
open Go.ChangeMaps (open_string shut_string)
theorem QxB:laidOutB prog=true:=Qm
theorem QsF(os:Os)(N:os.Started)(H:Type)(enc:TypeId×Value->H) :
 ReturnsInHanded {} Tryz.checked os 4 .any (fun w args=>(Rows.ranSpec.pre enc prog Tryz.f4 [] false w args/\laidMetH prog A2 w)/\sizedMet enc prog Tryz.f4 (OpenSpec.ofChange Rows.ranSpec) false w args)
  (Rows.ranSpec.post enc prog Tryz.f4 false true false false):=by
 refine QvY (C:=Tryz.checked) (X:=fun w _=>laidMetH prog A2 w) (fun _ _ _ D h=>h.of_heap D) Tryz.own N Qm func4
  (ChangeSpec.witness_shaped (enc:=enc) (C:=Tryz.checked) (os:=os) (X:=fun w _=>laidMetH prog A2 w) false (World.doorLaid prog 400 os) #[Qp] 8 rfl (World.shaped_of_RefB Qm Qm) Qm Qm Qm (QyH os)) ?_
 intro W u args y R Q L m M A K;have r:∀(j:Nat) t v,Tryz.f4.params[j]?=some t->args[j]?=some v->Value.okWide prog W .any u t v:=L;have n:=m;obtain⟨p,q,z,B,rfl,S,U⟩:=m;have g:DataW.TrodAll enc prog W 0 (fun _=>true) true Tryz.f4.params.toList args.toList y p:=z;rw[Tryz.params4]at g r;obtain⟨s,a,rfl,rfl,f⟩:=trodAll_one g;obtain⟨rfl,rfl⟩:=trodVars_none B;have G:∀x∈p,x.block<W.heap.size:=fun x c=>n.lt x (by simp[c])
 obtain⟨l,F,J,T⟩:=Qvy (r 0 22 s rfl rfl) f (fun k E=>K5 (List.all_eq_true.1 M k (DataW.weights_mem_each (j:=0) (t:=22) (d:=a) rfl rfl k E)));have i:=Pd A;have b:Rows.ranSpec.fn H ([a]++[])={ results:=[.lit (.bool true)],args:=[a] }:=by simp[Rows.ranSpec]
 refine(Qxg ⟨Qz0 K,i.1,i.2⟩ F J I).mono fun e P ⟨he,o⟩=>?_
 subst he;refine⟨_,rfl,_,_,_,[],p,[],n,?_,?_,?_,o.frame _,fun h=>by cases h⟩
 .rw[b];exact trodAll_mk1 (shut_bool underlying4 true)
 .rw[b];exact trodAll_mk1 (Below.trod QxB Qm (by rw[Tryz.tyCount];decide) f o (fun x c=>G x (by simpa using c)))
 .rw[b];rfl
end
theorem Qtn:joinedFacts prog 4 Tryz.f4 Rows.ranSpec Rows.ranRow=true:=by
 unfold joinedFacts;simp only[Jl]
 repeat' apply And.intro
 all_goals as_aux_lemma=>kernel_rfl
theorem Ls:prog.funcNamed Rows.ranRow.func=some 4:=Qm
section
open Go
theorem Qye:(Tryz.f4).isInstance prog Rows.ranRow.origin Rows.ranRow.targs:=K5 Qm
theorem Qyd:(Tryz.f4).isWrapper prog Rows.ranRow.wrapper Rows.ranRow.mainSum:=by
 unfold Func.isWrapper
 first
  |(rw[Qi (by decide +kernel)];kernel_rfl)
  |(rw[Qg (by decide +kernel)];exact⟨rfl,rfl⟩)
theorem Quz:Rows.RanSaid:=
 OpenClaim.holds_of_wide 4 Tryz.f4 rfl rfl rfl rfl rfl rfl rfl ⟨rfl,rfl,rfl,rfl,rfl⟩ rfl rfl rfl rfl rfl Ls func4 Qtn
  Qye Qyd (fun os started H enc _=>QsF os started H enc)
theorem Qyt:∀(j:Nat) (t:TypeId),(Tryz.f4).params[j]?=some t->prog.wantsStandIn t=false:=fun j t ht=>by
 rw[Tryz.params4]at ht
 have a:t∈[22]:=by
  have:=Uv (l:=[22]) (by simpa using ht);exact this
 simp only[XW,List.not_mem_nil,or_false]at a;subst a;exact(show prog.wantsStandIn 22=false by kernel_rfl)
theorem Rd:Rows.ranRow.wfByText (OpenSpec.ofChange Rows.ranSpec)=true:=Qm
theorem Qxq:Tryz.pinned.checked.prog.mainIs=some (true, "f92bcb6c8891d389d7e26fd120d8b9519b3e2ba37a68b58703642a3997de0636".toList):=Qm
theorem QuB:true=Tryz.pinned.checked.prog.looks []:=Qm
theorem Qyj:false=Rows.ranRow.goesBy Tryz.pinned.checked.prog:=Qm
theorem ran_card_holds:Rows.RanCardSaid:=
 Claim7.holds_tied_plain_at .later [] [.data,.data,.data,.handle] true (true, "f92bcb6c8891d389d7e26fd120d8b9519b3e2ba37a68b58703642a3997de0636") true
  Quz (fun _ h=>by cases h) Rd (fun _ h=>by cases h) ran_row_tie rfl ⟨rfl,rfl⟩ Qxq rfl
  (fun f fn hf hfn=>by
    obtain rfl:f=4:=(ZK (Ls.symm.trans hf)).symm;obtain rfl:fn=Tryz.f4:=(ZK (func4.symm.trans hfn)).symm
    exact ⟨QuB,Qyt⟩)
  Qyj
end
end Go.Proofs.YtgnkjijocdmniaaGreatDoor
