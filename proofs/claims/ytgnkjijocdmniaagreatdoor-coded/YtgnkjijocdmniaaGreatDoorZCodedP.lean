import Derived.Test.YtgnkjijocdmniaaGreatDoorTie
import Derived.Test.YtgnkjijocdmniaaGreatDoorCards
import Derived.SevenTiedAt
import Derived.Test.YtgnkjijocdmniaaGreatDoorCodedF
import Derived.Test.YtgnkjijocdmniaaGreatDoorZPlainCodeS
import Derived.Test.YtgnkjijocdmniaaGreatDoorZRowsC
import Derived.Test.YtgnkjijocdmniaaGreatDoorVExec
import Derived.Test.YtgnkjijocdmniaaGreatDoorVRun
namespace Go.Proofs.YtgnkjijocdmniaaGreatDoor
set_option linter.unusedVariables false
set_option linter.unusedSimpArgs false
set_option maxRecDepth 100000
set_option maxHeartbeats 4000000
open Go.Proofs.Tryz
variable{α β:Type}{X:Nat->Prop}{col:Nat->Nat}{cv v:Value}{j n:Nat}{u w w':World}
section
open Go.RowKit
attribute [local go_sem ↓] Go.wp_at_zero Go.wp_at_succ
theorem SA(a:Nat)(u w:World)(N:Nat)(s:L8)(h:Yp a u N w)(he:Env u)(x:u.heap.size=a)(hN:N<=1100000000000)(hs:s.length<=140737488355328) :
 Calls prog 25 #[.pointer (some ⟨a,0,none⟩),.string (sA s)] w fun e w'=>e=.returned (.bool true)/\Yp a u (N+1) w':=by
 obtain⟨Z,V,T,cv,ys,ay,az,cs,D,ax,a4,aY⟩:=h;have G:=Zr s;have l1:=Kj D.r1;have l2:=Kj D.r2;have A:=I D;have X:=I ax;have HE:Hid (∀ W,Below a u W->Env W):=fun W hW=>he.below (by rw[x];exact hW)
 have hE:=HE.o w D.b;obtain⟨i0,hi,aS,aT,aU⟩:=info_parts Tryz.infoPtrS;obtain⟨j0,d,aO,aP,aQ⟩:=info_parts Tryz.infoPtrR;have av:=hE.m1;have au:=hE.et;have aB:=I av;have aA:=I au;have aN:=Qh D.nd;clear D ax he hE av au;go_enter func25,ntmps25;go_wp2_with fail;refine(OW (sA s) w aB.o aA.o).mono ?_;rintro e K ⟨M,hP⟩;have aW:=I M;have L:=I (A.o.below M);have aJ:=M.size;clear M;rcases hP with⟨aI,rfl⟩ | ⟨ah,y,g,rv,lv,hy,rfl,aV,hc,hr,hb⟩ | ⟨ah,f,hf,rfl⟩
 ·have C:600<s.length:=aI;go_wp2_with fail;refine(A7 s K hs).mono ?_;rintro e l ⟨i,q⟩;rw[if_pos C]at q;subst q;have m:=I (L.o.below i);clear i;go_wp2;go_ret;exact⟨rfl,Z,V,T,cv,ys,ay,az,cs,m.o,X.o,by omega,by omega⟩
 ·have C:¬ 600<s.length:=by have:s.length<=600:=ah;omega
  have aj:prL s=.ok y:=hy;have ar:Hid (Uy (fromB w.heap.size) y K (.pointer (some ⟨g,0,none⟩))):=⟨g,rv,lv,rfl,aV,hc,hr,hb⟩;have aC:Hid (∃ t:L8,t.length<=600/\prL t=.ok y):=⟨s,by omega,aj⟩;clear hc hr hb hy;go_wp2_with fail;refine(A7 s K hs).mono ?_;rintro e l ⟨i,q⟩;rw[if_neg C,aj]at q;obtain⟨v2,rfl,S⟩:=q;obtain⟨p,aH⟩:∃ p,v2=.pointer (some ⟨p,0,none⟩):=by obtain⟨p,_,_,h,_⟩:=S;exact⟨p,h⟩
  subst aH;have aK:w.heap.size<=K.heap.size:=aJ;have E:=(L.o.below i).paint (s0:=w.heap.size) (fun _=>0) (fun k c=>A.o.cu k (Qd c)) aN (fun k c=>(A.o.o1.lt k c).2) (fun k c=>(A.o.o2.lt k c).2) (fun k c=>(A.o.o4.lt k c).2);obtain⟨v,ab⟩:=Qf (fun k=>if w.heap.size<=k/\k<l.heap.size then 0 else Z k);rw[ab]at E;have aw:∀ k,w.heap.size<=k->k<l.heap.size->v k=0:=fun k h1 h2=>by rw[<-ab];exact if_pos ⟨h1,h2⟩
  have aq:=I aw;have m:=I E;clear aw ab;have aL:a<l.heap.size:=Qh E.nd;have ak:Hid (Uy (fun k=>v k=0) y l (.pointer (some ⟨g,0,none⟩))):=KC.weak _ _ _ _ _ (KC.keep _ _ _ _ _ ar.o (fun k _ c=>i.block k c)) (fun k c G=>aq.o k c G);have ap:Hid (YX (fun k=>v k=0) y l (.pointer (some ⟨p,0,none⟩))):=Jm.weak _ _ _ _ _ S (fun k c G=>aq.o k (Qm aK c) G);have aX:=I S;have a2:=i.size;have n0:=Qj E.nd;have ad:=E.o1;clear i S E L A ar aj C;go_wp2_with (at_builtin;refine wpList_append_own_at _ rfl _ _ 39 rfl (a+1) 53 i0 (.pointer none) 1 8 underlying39 hi aS aT aU rfl (by decide) _ _ _ rfl (ad.alloc _) ⟨l.heap.size,0,none⟩ 1 1 [.pointer (some ⟨g,0,none⟩)] rfl rfl ?c1 ?c2 ?c3 ?c4 ?c5 ?_)
  case c1=>
   intro j u d
   match j,d with
   |0,d=>simp at d;subst d;simp[Addr.add]
  case c2=>intro u x;simp at x;subst x;rfl
  case c3=>unfold maxLen;omega
  case c4=>omega
  case c5=>simp;omega
  ·intro v' U ae r _ H;have J:=K3 (gb:=a) ad aL r;have Q:=(J a (Nat.lt_succ_self _)).trans m.o.nd;obtain⟨p5,m5,c5,rfl⟩:=Uu ae;obtain⟨B,P⟩:=QE (U.setCell ⟨a,0,none⟩ (.slice p5 m5 c5));have aD:=I P;have F:=m.o.app1 ak.o r ae H;have a3:l.heap.size+1<=U.heap.size:=by have:=r.size;simp at this;omega
   have ao:Hid (YX (fun k=>v k=0) y B (.pointer (some ⟨p,0,none⟩))):=by
    show YX _ _ _ _
    rw[P];exact Jm.keep _ _ _ _ _ ap.o (fun k c G=>GL m.o m.o.k1 r 0 (.slice p5 m5 c5) k (by have aZ:v k=0:=c;omega) G)
   rw[<-P]at F;have Y:=I F;have f5:=fun o=>Qz Q o
   have t5:=Qj Q;have a0:a<U.heap.size:=Qh Q;have aM:a<B.heap.size:=Qh F.nd;have n1:=Qo F.nd;have af:=F.o2;clear ae r ad H J Q P F m ak ap n0;go_wp2_with (first|(at_builtin;refine wpList_append_own_at _ rfl _ _ 40 rfl (a+1) 76 j0 (.pointer none) 1 8 underlying40 d aO aP aQ rfl (by decide) _ _ _ rfl (af.alloc _) ⟨B.heap.size,0,none⟩ 1 1 [.pointer (some ⟨p,0,none⟩)] rfl rfl ?c1 ?c2 ?c3 ?c4 ?c5 ?_)|(rw[<-aD.o]))
   case c1=>
    intro j u d
    match j,d with
    |0,d=>simp at d;subst d;simp[Addr.add]
   case c2=>intro u x;simp at x;subst x;rfl
   case c3=>unfold maxLen;omega
   case c4=>omega
   case c5=>simp;omega
   ·intro a5 w8 ag r _ H;have J:=K3 (gb:=a) af aM r;have R:=(J a (Nat.lt_succ_self _)).trans Y.o.nd;obtain⟨p8,m8,c8,rfl⟩:=Uu ag;obtain⟨W9,aa⟩:=QE (w8.setCell ⟨a,1,none⟩ (.slice p8 m8 c8));have aE:=I aa;have ai:=Y.o.app2 ao.o r ag H;rw[<-aa]at ai;have aF:=I ai;have f8:=fun o=>Qz R o
    have t8:=Qo R;have a1:a<w8.heap.size:=Qh R;clear ag r af H J R aa ai Y ao n1;go_wp2_with (rw[<-aE.o]);go_wp2;go_ret;refine⟨rfl,v,_,_,cv,ys++[y],_,_,cs,aF.o,fun z aR=>?_,by simp;omega,by omega⟩;rcases List.mem_append.1 aR with h|h
    ·exact X.o z h
    ·rw[QY h];exact aC.o
 ·have C:¬ 600<s.length:=by have:s.length<=600:=ah;omega
  have ac:prL s=.error f:=hf;obtain⟨g1,p,g3⟩:=SC s f ac;have h0:((f.err:Int) != 0)=true:=by simp;omega
  have h1:((f.err:Int) != 1)=true:=by simp;omega
  clear hf;go_wp2_with fail;refine(A7 s K hs).mono ?_;rintro e l ⟨i,q⟩;rw[if_neg C,ac]at q;have aG:e=.returned (.tuple #[.pointer none,.int .i64 f.err,.int .i64 f.pos]):=q;subst aG;have m:=I (L.o.below i);clear i ac g1 p g3 q;go_wp2;go_ret;exact⟨rfl,Z,V,T,cv,ys,ay,az,cs,m.o,X.o,by omega,by omega⟩
theorem WldC.code{d:Nat}{q n:Value}{s v:List Kk}{o p:List Value}{a:List Y1}(h:WldC d u w col q n cv s v o p a)(k:j<a.length):∃ g c,cv=.slice (some ⟨g,0,none⟩) a.length c/\g<w.heap.size/\d<g/\w.cell? ⟨g,j*2,none⟩=some a[j].r/\w.cell? ⟨g,j*2+1,none⟩=some a[j].t:=by
 obtain⟨g,c,m,i,l,b⟩:=Y7 h.o4 (by omega);obtain⟨e,f⟩:=DN a j k;exact⟨g,c,m,l,i,b _ _ e,b _ _ f⟩
theorem Al{ps:List IV}(h:Q9 X w cv ps):∃ a c,cv=.slice a ps.length c:=ZC h.row
theorem SD(b:Nat)(u w:World)(N:Nat)(h:Yp b u N w)(hN:N<=1100000000000) :
 Calls prog 17 #[.pointer (some ⟨b,0,none⟩)] w fun e w'=>e=.returned (.bool true)/\Below w.heap.size w w':=by
 obtain⟨ac,xv,mv,T,ys,ae,af,a,f,_,_,ad⟩:=h;have D:=I f;obtain⟨pc,y,z⟩:=ZC f.o4;have c2:=QG f.nd;have x:=QH f.nd;rw[z]at x;have S:=I z;have K:=Qh f.nd;clear f z;go_enter func17,ntmps17;go_wp2;refine wp_loop_rounds 1 ?_;rw[rounds_succ];go_wp2
 go_loopw [5] (fun A wr=>∃ k:Nat,k<=a.length/\A=.int .i64 k/\Hid (Below w.heap.size w wr)) (fun A _=>a.length - (intOf A).toNat)
 case atStart=>exact⟨0,QC,rfl,Below.refl _ _⟩
 case round=>
  obtain⟨k,hk,rfl,c⟩:=hrel;have d3:wr.cell? ⟨b,3,none⟩=some (.slice pc a.length y):=by rw[c.o.cell (p:=⟨b,3,none⟩) K];exact x
  by_cases hlt:k<a.length
  ·have ab:(k:Int)<(a.length:Int):=by omega
   obtain⟨g,c',v,n,_,j,m⟩:=D.o.code hlt;rw[S.o]at v;injection v with v _ hcc
   subst v;have U:wr.cell? ⟨g,k*2,none⟩=some a[k].r:=by rw[c.o.cell (p:=⟨g,k*2,none⟩) n];exact j
   have V:wr.cell? ⟨g,k*2+1,none⟩=some a[k].t:=by rw[c.o.cell (p:=⟨g,k*2+1,none⟩) n];exact m
   have d:=D.o.kc k hlt;obtain⟨E,L,q⟩:=Al d.r;obtain⟨F,M,s⟩:=Al d.t
   have C:Hid (∀ W,Below w.heap.size w W->Calls prog 29 #[a[k].r,a[k].t] W fun e w'=>e=.returned (.bool true)/\Below W.heap.size W w'):=fun W H=>by
    have X:=d.r.codeP.codR.below H;have G:=d.t.codeP.codR.below H;rw[<-d.e]at G;exact O1 _ _ _ W X G (by rw[List.length_map];exact d.l)
   rw[q,s]at C;rw[q]at U;rw[s]at V;rw[q]at j;rw[s]at m;have P:=I j;have Q:=I m;clear j m d q s hcc;go_wp2;go_region_held3 (fun w'=>w'.cell? ⟨b,3,none⟩=some (.slice (some ⟨g,0,none⟩) a.length y)/\w'.cell? ⟨g,k*2,none⟩=some (.slice E a[k].ps.length L)/\w'.cell? ⟨g,k*2+1,none⟩=some (.slice F a[k].qs.length M)) (first|go_keep|exact⟨Y,Z,f3⟩) (first|(go_at_call 29;refine(C.o wr.drew c.o.drew).mono ?_;rintro e B ⟨rfl,J⟩;have i:=c.o.drew.trans (J.mono c.o.size);have Y:B.cell? ⟨b,3,none⟩=some (.slice (some ⟨g,0,none⟩) a.length y):=(by rw[i.cell (p:=⟨b,3,none⟩) K];exact x);have Z:B.cell? ⟨g,k*2,none⟩=some (.slice E a[k].ps.length L):=(by rw[i.cell (p:=⟨g,k*2,none⟩) n];exact P.o);have f3:B.cell? ⟨g,k*2+1,none⟩=some (.slice F a[k].qs.length M):=(by rw[i.cell (p:=⟨g,k*2+1,none⟩) n];exact Q.o);have R:=I i;clear J i;skip))
   all_goals go_wp2
   all_goals go_roundw
   all_goals first
    |exact⟨k+1,by omega,by go_num,R⟩
    |(simp[intOf];omega)
  ·have aa:k=a.length:=by omega
   subst aa;have ab:¬(a.length:Int)<(a.length:Int):=by omega
   go_wp2;go_ret;exact⟨rfl,c.o⟩
theorem SE(l:List α)(i:Nat)(h:i<l.length):l=l.take i++l[i]::l.drop (i+1)/\(l.take i).length=i:=by
 refine⟨?_,by rw[List.length_take];omega⟩
 conv=>lhs;rw[<-List.take_append_drop i l]
 rw[List.drop_eq_getElem_cons h]
theorem G7{P:Nat->Obj->Prop}{k:Nat}(c:Fr P w w')(d:k<w.heap.size)(e:∀ o:Obj,¬ P k o):w'.heap[k]?=w.heap[k]?:=by
 obtain⟨a,b⟩:∃ a,w.heap[k]?=some a:=⟨w.heap[k],Array.getElem?_eq_getElem d⟩;rw[b];exact c.block k a b (e a)
theorem SF(X:Nat->Prop)(x:OpD)(cv:Value)(ps:List IV)(i:Nat)(w:World)(h:Q9 X w cv ps)(B:i<ps.length)(u:∀ k,X k->k<w.heap.size)(D:x.s.length<=100000)(v:-9223372036854775808<=x.b)(y:x.b<=9223372036854775807)(A:∃ a n c,x.hv=.slice a n c)(z:∃ a n c,x.cv=.slice a n c)(C:ps.length<=1000000) :
 Calls prog 43 #[cv,.int .i64 (i:Int),opV x] w fun e w'=>e=.returned (.tuple #[])/\(∃ ps',ps'.map Prod.fst=(ps.map Prod.fst).set i (VQ x (ps[i]).1)/\ps'.length=ps.length/\Q9 X w' cv ps')/\Fr (fun k _=>X k) w w':=by
 obtain⟨d,f⟩:=SE ps i B;obtain⟨p,o⟩:=Qf (ps[i]);rw[o]at d ⊢;obtain⟨g,l⟩:=Qf (ps.take i);obtain⟨j,m⟩:=Qf (ps.drop (i+1));rw[l]at d f;rw[m]at d;clear o l m;subst d;have:=O6 X x cv p.2.1 p.2.2 g j p.1 w h u D v y A z (by simpa using C);rw[f]at this;refine this.mono ?_;rintro e w' ⟨q,r,t⟩;refine⟨q,⟨_,?_,?_,r⟩,t⟩
 ·rw[List.map_append,List.map_append,List.map_cons,List.map_cons,List.set_append_right _ _ (by rw[List.length_map,f];exact Qt),List.length_map,f,Nat.sub_self,List.set_cons_zero]
 ·rw[Qk,Qk,QD,QD]
theorem Fi(X:Nat->Prop)(x:OpD)(cv v ov:Value)(ps:List IV)(i:Nat)(w:World)(r:cv=v)(p:opV x=ov)(h:Q9 X w cv ps)(m:i<ps.length)(d:∀ k,X k->k<w.heap.size)(q:x.s.length<=100000)(f:-9223372036854775808<=x.b)(g:x.b<=9223372036854775807)(l:∃ a n c,x.hv=.slice a n c)(j:∃ a n c,x.cv=.slice a n c)(o:ps.length<=1000000) :
 Calls prog 43 #[v,.int .i64 (i:Int),ov] w fun e w'=>e=.returned (.tuple #[])/\(∃ ps',ps'.map Prod.fst=(ps.map Prod.fst).set i (VQ x (ps[i]).1)/\ps'.length=ps.length/\Q9 X w' cv ps')/\Fr (fun k _=>X k) w w':=by
 subst r p;exact SF X x cv ps i w h m d q f g l j o
def Am(wb:Nat)(u:World)(col:Nat->Nat)(xv mv cv:Value)(ys:List Kk)(vs1 vs2:List Value)(n:Nat)(w w':World):Prop:=(∃ cs,WldC wb u w' col xv mv cv ys ys vs1 vs2 cs/\cs.length=n)/\w.heap.size<=w'.heap.size/\∀ k,col k=1->k<w.heap.size->w'.heap[k]?=w.heap[k]?
theorem SG(C:Nat)(u w:World)(N:Nat)(x:OpD)(col:Nat->Nat)(xv mv cv:Value)(ys:List Kk)(ak ao:List Value)(f:List Y1)(hw:WldC C u w col xv mv cv ys ys ak ao f)(bK:f.length<=N)(hN:N<=1100000000000)(hx:U6 x)(hs:x.s.length<=65536)(hh:∃ a n c,x.hv=.slice a n c)(hc:∃ a n c,x.cv=.slice a n c) :
 Calls prog 24 #[.pointer (some ⟨C,0,none⟩),opV x] w fun e w'=>e=.returned (.tuple #[])/\Am C u col xv mv cv ys ak ao f.length w w':=by
 have HH:=I hh;have aG:=I hc;have HX:=I hx;obtain⟨G,L,J,aV⟩:=hh;obtain⟨H,M,K,aT⟩:=hc;obtain⟨bC,bD⟩:=hx.a;obtain⟨ax,ay⟩:=hx.b;have au:Hid (opV x=.agg #[.int .i64 x.kind,.int .i64 x.a,.int .i64 x.b,.string (sA x.s),.string (sA x.fr),.string (sA x.tt),.int .i64 x.sz,.slice G L J,.slice H M K]):=by show _=_;unfold opV;rw[aV,aT]
 rw[au.o];obtain⟨p,af⟩:=QE (w.alloc (.cells #[.int .i64 x.kind,.int .i64 x.a,.int .i64 x.b,.string (sA x.s),.string (sA x.fr),.string (sA x.tt),.int .i64 x.sz,.slice G L J,.slice H M K] 47));have av:=I af;have Y:Below w.heap.size w p:=by rw[af];exact Qs _
 have E:p.heap[w.heap.size]?=some (.cells #[.int .i64 x.kind,.int .i64 x.a,.int .i64 x.b,.string (sA x.s),.string (sA x.fr),.string (sA x.tt),.int .i64 x.sz,.slice G L J,.slice H M K] 47):=by rw[af];exact QA _ _
 have U:=hw.below Y;have aw:=I U;obtain⟨d,aE⟩:=Qf (w.heap.size);rw[aE]at E;have ar:=I aE;have bg:=I E;have aY:col d=1:=hw.cu d (Qd (by omega));have bi:=I aY;obtain⟨pc,cc,az⟩:=ZC U.o4;have e2:=QG U.nd;have e3:p.cell? ⟨C,3,none⟩=some (.slice pc f.length cc):=by rw[<-az];exact Qn U.nd 3
 have aH:=I az;have ba:=Qh U.nd;have v:d<p.heap.size:=Qh E;have q0:=Qj E;have q1:=Qo E;have q2:=QG E;have q3:=QH E;have q4:=QJ E;have q5:=QM E;have q6:=Zg E;have q7:=YT E;have q8:=KV E;have aq:Hid (∀ W,Below p.heap.size p W->Am C u col xv mv cv ys ak ao f.length w W):=fun W hW=>⟨⟨f,U.below hW,rfl⟩,Qm Y.size hW.size,fun k _ B=>(Y.trans (hW.mono Y.size)).block k B⟩
 have ae:=I Y;clear hw U aV aT af Y E aE aY az hx;go_enter func24,ntmps24;by_cases T:x.kind=7/\0<f.length;rotate_left
 ·by_cases B:x.kind=7
  ·have ag:f=[]:=XB (by omega);subst ag;have k6:(x.kind==6)=false:=by rw[B];rfl
   have k7:(x.kind==7)=true:=by rw[B];rfl
   clear B T;go_wp2_with (first|(rw[<-av.o,ar.o];skip))
   all_goals go_end0
   all_goals exact⟨rfl,aq.o _ (Below.refl _ _)⟩
  ·have k7:(x.kind==7)=false:=by simpa using B
   clear B T;cases k6:(x.kind==6)
   all_goals go_wp2_with (first|(rw[<-av.o,ar.o];skip))
   all_goals go_end0
   all_goals exact⟨rfl,aq.o _ (Below.refl _ _)⟩
 ·obtain⟨T,ag⟩:=T;have k6:(x.kind==6)=false:=by rw[T];rfl
  have k7:(x.kind==7)=true:=by rw[T];rfl
  have bJ:(0:Int)<(f.length:Int):=by omega
  have bL:¬ f.length=0:=by omega
  obtain⟨j,hj⟩:=Qf (pickL x.a f.length);have ac:j<f.length:=by rw[<-hj];exact Bi _ ag
  have bk:Hid (∀ W,Calls prog 31 #[.int .i64 x.a,.int .i64 f.length] W fun e w'=>e=.returned (.int .i64 j)/\w'=W):=fun W=>by rw[<-hj];exact Bj x.a f.length W bC bD ag (by omega)
  clear T hj;obtain⟨g,c',hv,hg,bR,Q,h2⟩:=aw.o.code ac;rw[aH.o]at hv;injection hv with hv _ i
  subst hv;have Z:=aw.o.kc j ac;obtain⟨r1,r2,hr⟩:=Al Z.r;obtain⟨t1,t2,ht⟩:=Al Z.t;have ab:=I Z;have HR:=I hr;have HT:=I ht;rw[hr]at Q;rw[ht]at h2;have aF:f[j].ps.length=f[j].qs.length:=by have:=congrArg List.length Z.e;simpa using this
  have bH:=Z.l;obtain⟨y,ai⟩:=Qf (f[j].ps.length);rw[ai]at Q bH;rw[<-aF,ai]at h2;have F:=I ai;have X:=I aF;clear Z hr ht i aF ai;go_wp2_with (first|(rw[<-av.o,ar.o];skip));go_quiet (first|(go_at_call 31;refine Calls.quiet_of_same (bk.o _)));generalize hWW:p.drewN _=V;have D:∀ a:Addr,V.cell? a=p.cell? a:=fun a=>by rw[<-hWW];rfl
  have P:Hid (Below p.heap.size p V):=by rw[<-hWW];exact⟨rfl,rfl,rfl,Nat.le_refl _,fun _ _=>rfl⟩
  have d3:=(D _).trans e3;have d1:=(D _).trans Q;have d2:=(D _).trans h2;have p0:=(D _).trans q0;have p1:=(D _).trans q1;have p2:=(D _).trans q2;have p3:=(D _).trans q3;have p4:=(D _).trans q4;have p5:=(D _).trans q5;have p6:=(D _).trans q6;have p7:=(D _).trans q7;have p8:=(D _).trans q8;have S:=I (aw.o.below P.o);have bh:=I (Zk bg.o P.o);clear hWW D e3 Q h2 q0 q1 q2 q3 q4 q5 q6 q7 q8 e2;by_cases hnp0:0<y;rotate_left
  ·have bG:¬(0:Int)<(y:Int):=by omega
   have bO:y=0:=by omega
   go_wp2;go_end0;exact⟨rfl,aq.o _ P.o⟩
  ·have bG:(0:Int)<(y:Int):=by omega
   have bN:¬ y=0:=by omega
   obtain⟨z,aD⟩:=Qf (pickL x.b y);have R:z<y:=by rw[<-aD];exact Bi _ hnp0
   have bj:Hid (∀ W,Calls prog 31 #[.int .i64 x.b,.int .i64 y] W fun e w'=>e=.returned (.int .i64 z)/\w'=W):=fun W=>by rw[<-aD];exact Bj x.b y W ax ay hnp0 (by omega)
   clear aD;go_wp2_with (first|(go_at_call 31;refine(bj.o _).mono ?_;rintro e w2 ⟨rfl,bc⟩;rw[bc];clear bc;skip));have a9:col C=1:=S.o.cu C (Qc Qt);have aC:col g=1:=S.o.k4 g (by rw[aH.o];rfl);have q:col d=1:=bi.o;have bM:g<V.heap.size:=Nat.lt_of_lt_of_le hg P.o.size;have bQ:C<V.heap.size:=Qh S.o.nd;have bP:d<V.heap.size:=Qh bh.o;have bf:=I S.o.cu
   have aX:∀ n,n≠1->∀ k,col k=n->k<V.heap.size:=fun n hn k B=>by
    apply Classical.byContradiction;intro h;exact hn (B.symm.trans (bf.o k (Qd (by omega))))
   have aJ:=I aX
   have bq:Hid (Calls prog 43 #[.slice r1 y r2,.int .i64 (z:Int),.agg #[.int .i64 x.kind,.int .i64 x.a,.int .i64 x.b,.string (sA x.s),.string (sA x.fr),.string (sA x.tt),.int .i64 x.sz,.slice G L J,.slice H M K]] V.drew fun e w'=>e=.returned (.tuple #[])/\(∃ ad,ad.map Prod.fst=(f[j].ps.map Prod.fst).set z (VQ x (f[j].ps[z]'(by rw[F.o];exact R)).1)/\ad.length=f[j].ps.length/\Q9 (fun k=>col k=2+2*j) w' f[j].r ad)/\Fr (fun k _=>col k=2+2*j) V.drew w'):=by
    show Calls _ _ _ _ _
    exact Fi (fun k=>col k=2+2*j) x f[j].r _ _ f[j].ps z V.drew (by rw[HR.o,F.o]) au.o (((S.o.kc j ac).r).keep (fun _ _ _=>rfl)) (by rw[F.o];exact R) (aJ.o _ (by omega)) (by omega) ax ay HH.o aG.o ab.o.l
   clear aX;go_region_held3 (fun w'=>w'.cell? ⟨C,3,none⟩=some (.slice (some ⟨g,0,none⟩) f.length cc)/\w'.cell? ⟨g,j*2,none⟩=some (.slice r1 y r2)/\w'.cell? ⟨d,0,none⟩=some (.int .i64 x.kind)/\w'.cell? ⟨d,1,none⟩=some (.int .i64 x.a)/\w'.cell? ⟨d,2,none⟩=some (.int .i64 x.b)/\w'.cell? ⟨d,3,none⟩=some (.string (sA x.s))/\w'.cell? ⟨d,4,none⟩=some (.string (sA x.fr))/\w'.cell? ⟨d,5,none⟩=some (.string (sA x.tt))/\w'.cell? ⟨d,6,none⟩=some (.int .i64 x.sz)/\w'.cell? ⟨d,7,none⟩=some (.slice G L J)/\w'.cell? ⟨d,8,none⟩=some (.slice H M K)) (first|go_keep|exact⟨f3,f1,aK,aL,aM,aN,aO,aP,aQ,aR,aS⟩) (first|(go_at_call 43;refine bq.o.mono ?_;rintro e m ⟨rfl,a3,aA⟩;have i:∀ k:Nat,col k=1->k<p.heap.size->∀ o,m.cell? ⟨k,o,none⟩=V.drew.cell? ⟨k,o,none⟩:=(fun k aW aa o=>(World.cell?_of_block (a:=⟨k,o,none⟩) (w:=V.drew) (G7 aA (show k<V.drew.heap.size from Nat.lt_of_lt_of_le aa P.o.size) (fun _ h=>by have h':col k=2+2*j:=h;omega))));have f3:m.cell? ⟨C,3,none⟩=some (.slice (some ⟨g,0,none⟩) f.length cc):=(by rw[i _ a9 ba];exact d3);have f1:m.cell? ⟨g,j*2,none⟩=some (.slice r1 y r2):=(by rw[i _ aC hg];exact d1);have aK:m.cell? ⟨d,0,none⟩=some (.int .i64 x.kind):=(by rw[i _ q v];exact p0);have aL:m.cell? ⟨d,1,none⟩=some (.int .i64 x.a):=(by rw[i _ q v];exact p1);have aM:m.cell? ⟨d,2,none⟩=some (.int .i64 x.b):=(by rw[i _ q v];exact p2);have aN:m.cell? ⟨d,3,none⟩=some (.string (sA x.s)):=(by rw[i _ q v];exact p3);have aO:m.cell? ⟨d,4,none⟩=some (.string (sA x.fr)):=(by rw[i _ q v];exact p4);have aP:m.cell? ⟨d,5,none⟩=some (.string (sA x.tt)):=(by rw[i _ q v];exact p5);have aQ:m.cell? ⟨d,6,none⟩=some (.int .i64 x.sz):=(by rw[i _ q v];exact p6);have aR:m.cell? ⟨d,7,none⟩=some (.slice G L J):=(by rw[i _ q v];exact p7);have aS:m.cell? ⟨d,8,none⟩=some (.slice H M K):=(by rw[i _ q v];exact p8);have f2:m.cell? ⟨g,j*2+1,none⟩=some (.slice t1 y t2):=(by rw[i _ aC hg];exact d2);have bn:=I a3;have ap:=I aA;clear a3 aA i;skip))
   all_goals (
    obtain⟨ad,aZ,a0,a4⟩:=bn.o;have bl:=I aZ;have bm:=I a0;have bo:=I a4;have bd:V.heap.size<=m.heap.size:=ap.o.size
    have br:Hid (Calls prog 43 #[.slice t1 y t2,.int .i64 (z:Int),.agg #[.int .i64 x.kind,.int .i64 x.a,.int .i64 x.b,.string (sA x.s),.string (sA x.fr),.string (sA x.tt),.int .i64 x.sz,.slice G L J,.slice H M K]] m.drew fun e w'=>e=.returned (.tuple #[])/\(∃ aj,aj.map Prod.fst=(f[j].qs.map Prod.fst).set z (VQ x (f[j].qs[z]'(by rw[<-X.o,F.o];exact R)).1)/\aj.length=f[j].qs.length/\Q9 (fun k=>col k=3+2*j) w' f[j].t aj)/\Fr (fun k _=>col k=3+2*j) m.drew w'):=by
     show Calls _ _ _ _ _
     have bF:Q9 (fun k=>col k=3+2*j) m.drew f[j].t f[j].qs:=((S.o.kc j ac).t).keep (fun k B hz=>show m.heap[k]?=V.drew.heap[k]? from G7 ap.o hz (fun _ h=>by have bE:col k=3+2*j:=B;have h':col k=2+2*j:=h;omega));exact Fi (fun k=>col k=3+2*j) x f[j].t _ _ f[j].qs z m.drew (by rw[HT.o,<-X.o,F.o]) au.o bF (by rw[<-X.o,F.o];exact R) (fun k B=>Nat.lt_of_lt_of_le (aJ.o _ (by omega) k B) bd) (by omega) ax ay HH.o aG.o (by rw[<-X.o];exact ab.o.l)
    clear aZ a0 a4;go_wp2;go_region_held3 (fun w'=>w'.cell? ⟨C,3,none⟩=some (.slice (some ⟨g,0,none⟩) f.length cc)/\w'.cell? ⟨g,j*2+1,none⟩=some (.slice t1 y t2)/\w'.cell? ⟨d,0,none⟩=some (.int .i64 x.kind)/\w'.cell? ⟨d,1,none⟩=some (.int .i64 x.a)/\w'.cell? ⟨d,2,none⟩=some (.int .i64 x.b)/\w'.cell? ⟨d,3,none⟩=some (.string (sA x.s))/\w'.cell? ⟨d,4,none⟩=some (.string (sA x.fr))/\w'.cell? ⟨d,5,none⟩=some (.string (sA x.tt))/\w'.cell? ⟨d,6,none⟩=some (.int .i64 x.sz)/\w'.cell? ⟨d,7,none⟩=some (.slice G L J)/\w'.cell? ⟨d,8,none⟩=some (.slice H M K)) (first|go_keep|exact⟨g3,g1,bs,bt,bu,bv,bw,bx,bz,bA,bB⟩) (first|(go_at_call 43;refine br.o.mono ?_;rintro e A ⟨rfl,a6,aB⟩;have i:∀ k:Nat,col k=1->k<p.heap.size->∀ o,A.cell? ⟨k,o,none⟩=m.drew.cell? ⟨k,o,none⟩:=(fun k aW aa o=>(World.cell?_of_block (a:=⟨k,o,none⟩) (w:=m.drew) (G7 aB (show k<m.drew.heap.size from Nat.lt_of_lt_of_le (Nat.lt_of_lt_of_le aa P.o.size) bd) (fun _ h=>by have h':col k=3+2*j:=h;omega))));have g3:A.cell? ⟨C,3,none⟩=some (.slice (some ⟨g,0,none⟩) f.length cc):=(by rw[i _ a9 ba];exact f3);have g1:A.cell? ⟨g,j*2+1,none⟩=some (.slice t1 y t2):=(by rw[i _ aC hg];exact f2);have bs:A.cell? ⟨d,0,none⟩=some (.int .i64 x.kind):=(by rw[i _ q v];exact aK);have bt:A.cell? ⟨d,1,none⟩=some (.int .i64 x.a):=(by rw[i _ q v];exact aL);have bu:A.cell? ⟨d,2,none⟩=some (.int .i64 x.b):=(by rw[i _ q v];exact aM);have bv:A.cell? ⟨d,3,none⟩=some (.string (sA x.s)):=(by rw[i _ q v];exact aN);have bw:A.cell? ⟨d,4,none⟩=some (.string (sA x.fr)):=(by rw[i _ q v];exact aO);have bx:A.cell? ⟨d,5,none⟩=some (.string (sA x.tt)):=(by rw[i _ q v];exact aP);have bz:A.cell? ⟨d,6,none⟩=some (.int .i64 x.sz):=(by rw[i _ q v];exact aQ);have bA:A.cell? ⟨d,7,none⟩=some (.slice G L J):=(by rw[i _ q v];exact aR);have bB:A.cell? ⟨d,8,none⟩=some (.slice H M K):=(by rw[i _ q v];exact aS);have bp:=I a6;have aI:=I aB;clear a6 aB i;skip))
    all_goals (
     obtain⟨aj,a5,bI,a7⟩:=bp.o
     have ah:Fr (fun k _=>col k=2+2*j\/col k=3+2*j) V A:=by
      have Q:Fr (fun k _=>col k=2+2*j\/col k=3+2*j) V m:=((Fr.refl _ V).drew).trans (ap.o.mono (fun k o h=>Qd h));exact Q.trans (((Fr.refl _ m).drew).trans (aI.o.mono (fun k o h=>Qc h)))
     have a8:Q9 (fun k=>col k=2+2*j) A f[j].r ad:=bo.o.keep (fun k B hz=>show A.heap[k]?=m.drew.heap[k]? from G7 aI.o hz (fun _ h=>by have bE:col k=2+2*j:=B;have h':col k=3+2*j:=h;omega))
     have aU:(f[j].ps[z]'(by rw[F.o];exact R)).1=(f[j].qs[z]'(by rw[<-X.o,F.o];exact R)).1:=by
      have Q:(f[j].ps.map Prod.fst)[z]?=(f[j].qs.map Prod.fst)[z]?:=by rw[ab.o.e]
      rw[List.getElem?_map,List.getElem?_map,List.getElem?_eq_getElem (by rw[F.o];exact R),List.getElem?_eq_getElem (by rw[<-X.o,F.o];exact R)]at Q;simpa using Q
     have bb:=S.o.wrote ac ah a8 a7 (by rw[bl.o,a5,ab.o.e,aU]) (by rw[bm.o];exact ab.o.l);have HRES:Hid (Am C u col xv mv cv ys ak ao f.length w A):=⟨⟨_,bb,by rw[List.length_set]⟩,Qm (Qm ae.o.size P.o.size) ah.size,fun k aW aa=>by rw[G7 ah (Nat.lt_of_lt_of_le (Nat.lt_of_lt_of_le aa ae.o.size) P.o.size) (fun _ h=>by rcases h with h|h<;>omega)];exact(ae.o.trans (P.o.mono ae.o.size)).block k aa⟩;clear a5 bI a7 ah a8 aU bb;go_wp2;go_end0
     exact ⟨rfl,HRES.o⟩))
end
section
open Go.RowKit
theorem U1.more{B:Nat}{M:Msg}{d:World}{b:Value}{c c':Nat}{a:SS->CR}(h:U1 B M d b c a)(m:c<=c'):U1 B M d b c' a:=by
 intro W l s z q k g f n;refine(h W l s z q k g f (by omega)).mono ?_;rintro e o ⟨he,i,j⟩;exact⟨he,i,j.more (by omega)⟩
theorem SH{s t:SS}(h:Tells s t):keepB t=keepB s:=by
 unfold keepB;rw[h.1,h.2]
theorem SI{x:QF n}(h:RCmd n X x w v):∃ g,v=.pointer (some ⟨g,0,none⟩):=by
 match n,x,h with
 |n+1,x,⟨g,_,_,_,h,_⟩=>exact⟨g,h⟩
theorem SJ(a:List (QF n)):Yw (fun c=>(Zy n c).length) a a.length=(QB (Zy n) a).length:=by
 unfold Yw QB;rw[List.take_length,List.length_flatMap]
theorem SK(x:Zx×List (β×List α)×List α):(XR x).length=if x.1.els then x.2.1.length+1 else x.2.1.length:=by
 unfold XR;rw[Qk,List.length_map];cases x.1.els<;>simp
theorem mem_blocksV{x:Zx×List (β×List α)×List α}{b:List α}(h:b∈XR x):(∃ a∈x.2.1,a.2=b)\/(x.1.els=true/\b=x.2.2):=by
 unfold XR at h;rcases List.mem_append.1 h with h|h
 ·obtain⟨a,c,d⟩:=List.mem_map.1 h;exact Qd ⟨a,c,d⟩
 ·by_cases he:x.1.els=true
  ·rw[if_pos he]at h;exact Qc ⟨he,QY h⟩
  ·rw[if_neg he]at h;cases h
theorem SL(req:Qa)(B:Nat)(M:Msg):∀(n:Nat) (q:List (QF n)) (w:World) (v:Value) (i:L8),trY (RCmd n) (fun k=>k<B) q w v->(∀ c∈q,XU (WfT req) (WfC req) n c)->(Q7 (Q8 n) q i).length<=90000->U1 B M w v (QB (Zy n) q).length (bEval (evalC M n) q):=by
 intro n
 induction n with
 |zero=>
  intro q w v i h ha hl;rcases h with⟨rfl,rfl⟩ | ⟨ag,g,c,hv,_,Z⟩
  ·exact BE B M w (evalC M 0) (fun c=>(Zy 0 c).length) [] none 0 QC (fun j l=>absurd l (Nat.not_lt_zero _))
  ·obtain⟨u,_,hu⟩:=Z 0 (List.length_pos_iff.2 ag);exact hu.elim
 |succ n ih=>
  intro q w v i h ha hl;obtain⟨aL,aC⟩:=GW (Q8 (n+1)) i q
  have aK:∀ c∈q,∀ g,RCmd (n+1) (fun k=>k<B) c w (.pointer (some ⟨g,0,none⟩))->Ei B M w g (Zy (n+1) c).length (evalC M (n+1) c):=by
   intro c hc g hg;obtain⟨K,S,ap⟩:=ha c hc;obtain⟨g',av,tv,bv,ay,X,aD,G,Y,V⟩:=hg;have az:g=g':=by injection ay with h;injection h with h;injection h
   subst az;have d:(XM c.1 i (c.2.1.map fun(a:QQ n×List (QF n))=>(Q3 n a.1,Q7 (Q8 n) a.2 (i++[32,32]))) (Q7 (Q8 n) c.2.2 (i++[32,32]))).length<=90000:=Qm (aC c hc) hl;have r:∀ s,evalC M (n+1) c s=J3 (Xl M n) (evalC M n) c.1 c.2.1 c.2.2 s:=fun s=>rfl
   have af:Zy (n+1) c=KJ (ZD n) (Zy n) c.1 c.2.1 c.2.2:=rfl;refine⟨X,_,av,tv,bv,c.1.tag,c.1.pos,aD,?_⟩;have h7:=K.kind;have aA:c.1.kind=0\/c.1.kind=1\/c.1.kind=2\/c.1.kind=3\/c.1.kind=4\/c.1.kind=5\/c.1.kind=6\/c.1.kind=7:=by omega
   have ab:∀(k:L8) (aa:Int),cNs.getD c.1.kind []=k->UF c.1=[c.1.arg]->(Zc [k,QR c.1.arg]++[59]).length<=90000->(∀ s,evalC M (n+1) c s=Kh s aa c.1.arg c.1.pos)->N5 B w (cNs.getD c.1.kind []) av c.1.pos k aa (evalC M (n+1) c):=by
    intro k aa aE R aB aq;rw[R]at G;have hq:(QR c.1.arg).length<=(Zc [k,QR c.1.arg]).length:=Jf (by simp);have aF:=An c.1.arg;rw[Qk]at aB;rcases G with h | ⟨z,y,A,D,t,_⟩
    ·cases h.1
    ·exact⟨aE,z,y,c.1.arg,A,D,t 0 (by simp),by omega,aq⟩
   rcases aA with e|e|e|e|e|e|e|e
   ·exact Qc (Qc (Qd ⟨by rw[e];rfl,fun s=>by rw[r];unfold J3;rw[e];rfl⟩))
   ·exact Qc (Qd ⟨by rw[e];rfl,fun s=>by rw[r];unfold J3;rw[e];rfl⟩)
   ·exact Qd ⟨by rw[e];rfl,fun s=>by rw[r];unfold J3;rw[e];rfl⟩
   ·unfold XM at d;rw[e]at d;exact Qc (Qc (Qc (Qd (ab Ze 2 (by rw[e];rfl) (by unfold UF;rw[e];rfl) d (fun s=>by rw[r];unfold J3;rw[e];rfl)))))
   ·unfold XM at d;rw[e]at d;exact Qc (Qc (Qc (Qc (Qd (ab Yn 3 (by rw[e];rfl) (by unfold UF;rw[e];rfl) d (fun s=>by rw[r];unfold J3;rw[e];rfl))))))
   ·unfold XM at d;rw[e]at d;exact Qc (Qc (Qc (Qc (Qc (Qd (ab Zf 4 (by rw[e];rfl) (by unfold UF;rw[e];rfl) d (fun s=>by rw[r];unfold J3;rw[e];rfl)))))))
   ·unfold XM at d;rw[e]at d;have d:(Zc [ZW,YO c.1.tag [Xs,Xt,Xu],QR c.1.var,QR c.1.arg]++[59]).length<=90000:=d;rw[Qk]at d;have hq:(QR c.1.arg).length<=(Zc [ZW,YO c.1.tag [Xs,Xt,Xu],QR c.1.var,QR c.1.arg]).length:=Jf (by simp);have aF:=An c.1.arg;have R:UF c.1=[c.1.var,c.1.arg]:=by unfold UF;rw[e];rfl
    rw[R]at G;have aN:=K.tag;refine Qc (Qc (Qc (Qc (Qc (Qc (Qd ⟨by rw[e];rfl,?_,?_⟩))))))
    ·rw[af];unfold KJ;rw[e];exact Nat.le_refl _
    ·rcases G with h | ⟨z,y,A,D,t,_⟩
     ·cases h.1
     ·exact⟨z,y,c.1.var,c.1.arg,A,D,t 0 (by simp),t 1 (by simp),by omega,by omega,fun s=>by rw[r];unfold J3;rw[e];rfl⟩
   ·unfold XM at d;rw[e]at d;have d:(Xh i kIf (c.2.1.map fun(a:QQ n×List (QF n))=>(Q3 n a.1,Q7 (Q8 n) a.2 (i++[32,32])))++(if c.1.els then UC++Q7 (Q8 n) c.2.2 (i++[32,32])++i else [])++[125]).length<=90000:=d;simp only[Qk]at d;obtain⟨ai,ac⟩:=BP i (c.2.1.map fun(a:QQ n×List (QF n))=>(Q3 n a.1,Q7 (Q8 n) a.2 (i++[32,32]))) kIf;rw[List.length_map]at ai;have ad:c.2.1≠[]:=List.length_pos_iff.1 (K.arms e);have aG:c.2.1.map Prod.fst≠[]:=by simpa using ad
    have ak:XR c≠[]:=by unfold XR;simp;exact fun e=>absurd e ad
    have ao:Zy (n+1) c=ZX (ZD n) (Zy n) c.2.2 c.2.1:=by rw[af];unfold KJ;rw[e];rfl
    obtain⟨aw,ax⟩:=Fj (ZD n) (Zy n) c.2.2 c.2.1;rcases Y with Y | ⟨_,z,y,ah,D,aI⟩
    ·exact absurd Y.1 aG
    rcases V with V | ⟨_,g3,c3,ae,au,aJ⟩
    ·exact absurd V.1 ak
    rw[List.length_map]at ah;have U:(XR (α:=QF n) (β:=QQ n) c).length=if c.1.els then c.2.1.length+1 else c.2.1.length:=SK (α:=QF n) (β:=QQ n) c
    rw[U]at ae
    have aH:∀ a∈c.2.1,(Q3 n a.1).length<=90000:=fun a N=>by
     have:=(ac _ (List.mem_map_of_mem (f:=fun(a:QQ n×List (QF n))=>(Q3 n a.1,Q7 (Q8 n) a.2 (i++[32,32]))) N)).1;dsimp only at this;omega
    have aj:∀ a∈c.2.1,(Q7 (Q8 n) a.2 (i++[32,32])).length<=90000:=fun a N=>by
     have:=(ac _ (List.mem_map_of_mem (f:=fun(a:QQ n×List (QF n))=>(Q3 n a.1,Q7 (Q8 n) a.2 (i++[32,32]))) N)).2;dsimp only at this;omega
    refine Qc (Qc (Qc (Qc (Qc (Qc (Qc ⟨by rw[e];rfl,?_⟩))))));refine⟨c.2.1.length,fun j s=>match c.2.1[j]? with|some a=>Xl M n a.1 s|none=>(false,s),fun j s=>match (XR c)[j]? with|some b=>bEval (evalC M n) b s|none=>.ok (s,false),c.1.els,z,g3,y,c3,ah,D,ae,au,by omega,?_,?_,?_,fun k s=>KY (Xl M n) (evalC M n) c.2.2 (c.2.1.drop k) s,?_,?_,?_⟩
    ·intro j l;obtain⟨u,C,o⟩:=aI j (by rw[List.length_map];exact l);obtain⟨F,rfl⟩:=De o;have E:c.2.1[j]∈c.2.1:=List.getElem_mem l;rw[List.getElem_map]at o;refine⟨F,C,?_⟩
     have W:(fun s=>match c.2.1[j]? with|some a=>Xl M n a.1 s|none=>(false,s))=Xl M n c.2.1[j].1:=by
      rw[List.getElem?_eq_getElem l]
     show Uj B M w _ (fun s=>match c.2.1[j]? with|some a=>Xl M n a.1 s|none=>(false,s))
     rw[W];exact Df (req:=req) B M n c.2.1[j].1 w _ o (S _ E).1 (Ae (fun x m A t h3 h4 h5=>⟨A,t,h3,h4,h5⟩) n _ (S _ E).1 (aH _ E))
    ·intro j l;rw[<-U]at l;obtain⟨u,C,o⟩:=aJ j l
     have ar:∃ p m L,u=.slice p m L:=by
      rcases o with⟨_,h⟩ | ⟨_,g5,c5,h,_⟩
      ·exact⟨_,_,_,h⟩
      ·exact⟨_,_,_,h⟩
     obtain⟨p,m,L,rfl⟩:=ar;refine⟨p,m,L,C,?_⟩
     have W:(fun s=>match (XR c)[j]? with|some b=>bEval (evalC M n) b s|none=>.ok (s,false))=bEval (evalC M n) (XR c)[j]:=by
      rw[List.getElem?_eq_getElem l]
     show U1 B M w _ _ (fun s=>match (XR c)[j]? with|some b=>bEval (evalC M n) b s|none=>.ok (s,false))
     rw[W,ao];have E:(XR c)[j]∈XR c:=List.getElem_mem l;rcases mem_blocksV E with⟨a,Q,P⟩ | ⟨H,P⟩
     ·rw[<-P]at o ⊢;exact(ih a.2 w _ (i++[32,32]) o (S a Q).2 (aj a Q)).more (ax a Q)
     ·rw[P]at o ⊢;refine(ih c.2.2 w _ (i++[32,32]) o ap ?_).more aw;rw[if_pos H]at d;simp only[Qk]at d;omega
    ·intro j s;show keepB (match c.2.1[j]? with|some a=>Xl M n a.1 s|none=>(false,s)).2=keepB s
     split
     ·exact SH (Ao M n _ s)
     ·rfl
    ·intro s;rw[r];unfold J3;rw[e];rfl
    ·intro k s J;show KY _ _ _ (c.2.1.drop k) s=_
     rw[MK _ _ _ J];have aM:k<(XR c).length:=by rw[U];split<;>omega
     have T:(XR c)[k]?=some c.2.1[k].2:=by
      unfold XR;rw[List.getElem?_append_left (by rw[List.length_map];exact J),List.getElem?_map,List.getElem?_eq_getElem J];rfl
     simp only[List.getElem?_eq_getElem J,T]
    ·intro s;show KY _ _ _ (c.2.1.drop c.2.1.length) s=_
     rw[Zi Qt];show bEval (evalC M n) c.2.2 s=_
     dsimp only
     cases H:c.1.els with
     |true=>
      have T:(XR c)[c.2.1.length]?=some c.2.2:=by
       unfold XR;rw[List.getElem?_append_right (by rw[List.length_map];exact Qt),List.length_map,H];simp
      rw[T];rfl
     |false=>
      have:=K.else0 H;rw[XB this];rfl
  rw[<-SJ];rcases h with⟨rfl,rfl⟩ | ⟨ag,g,c,hv,X,Z⟩
  ·exact BE B M w (evalC M (n+1)) (fun c=>(Zy (n+1) c).length) [] none 0 QC (fun j l=>absurd l (Nat.not_lt_zero _))
  ·rw[hv];refine BE B M w (evalC M (n+1)) (fun c=>(Zy (n+1) c).length) q _ c (by omega) (fun j l=>?_);obtain⟨u,C,o⟩:=Z j l;obtain⟨F,rfl⟩:=SI o;exact⟨g,F,rfl,X,C,aK _ (List.getElem_mem l) F o⟩
end
section
open Go.RowKit
attribute [local go_sem ↓] Go.wp_at_zero Go.wp_at_succ
theorem SM{y:Qa×List (QF 7)}(h:YX X y w v):YX (fun k=>k<w.heap.size) y w v:=by
 obtain⟨g,i,f,e,j,b,c,d⟩:=h;exact⟨g,i,f,e,Qh b,b,c.weak (fun k _ a=>a),(ZO (Z1 7)).weak _ _ _ _ _ d (fun k _ a=>a)⟩
def usesB(req:Qa):Bool:=decide (0<wL req ZJ)
theorem SN(X:Nat->Prop)(y:Qa×List (QF 7))(g:Nat)(w:World)(h:YX X y w (.pointer (some ⟨g,0,none⟩)))(z:y.1.length<=100000) :
 Calls prog 58 #[.pointer (some ⟨g,0,none⟩),.string (sA ZJ)] w fun e w'=>e=.returned (.bool (usesB y.1))/\w'=w:=by
 obtain⟨l,b,v,r,_,i,j,_⟩:=h;have s:g=l:=by injection r with h;injection h with h;injection h
 subst s;have x:=Qj i
 have d:TxL w b y.1:=by
  rcases j with h | ⟨m,f,p,_,q,_⟩
  ·exact Qd h
  ·exact Qc ⟨m,f,p,q⟩
 obtain⟨u,A,f,t⟩:∃ a n c,b=.slice a n c:=by
  obtain⟨a,c,h,_⟩:=d.form;exact⟨a,_,c,h⟩
 have k:=I (GE b y.1 ZJ w d (by omega));subst t;clear i j d;go_enter func58,ntmps58;go_wp2_with fail;refine k.o.mono ?_;rintro e B ⟨rfl,rfl⟩;go_wp2;go_ret;exact⟨rfl,rfl⟩
theorem SO(X:Nat->Prop)(y:Qa×List (QF 7))(g:Nat)(M:Msg)(L:Value)(w:World)(h:YX X y w (.pointer (some ⟨g,0,none⟩)))(ha:∀ c∈y.2,XU (WfT y.1) (WfC y.1) 7 c)(aC:(JK y).length<=90000)(aR:(codeL y.2).length<=400)(hl:y.1.length<=100000)(hh:HdR w M L)(hm:KU M) :
 Calls prog 33 #[.pointer (some ⟨g,0,none⟩),Ud M L] w (G8 w.heap.size w (Xy (bEval (evalC M 7) y.2 (ss0 (usesB y.1))))):=by
 have h0:=SM h;obtain⟨g',P,F,hg,aB,W,hn,i⟩:=h0;have aS:g=g':=by injection hg with h;injection h with h;injection h
 subst aS
 have ai:TxL w P y.1:=by
  rcases hn with h | ⟨g1,c1,h1,_,T,_⟩
  ·exact Qd h
  ·exact Qc ⟨g1,c1,h1,T⟩
 obtain⟨a1,n1,c1,aW⟩:∃ a n c,P=.slice a n c:=by
  obtain⟨a,c,h,_⟩:=ai.form;exact⟨a,_,c,h⟩
 obtain⟨a2,n2,c2,aQ⟩:∃ a n c,F=.slice a n c:=by
  rcases i with⟨_,h⟩ | ⟨_,g5,c5,h,_⟩
  ·exact⟨_,_,_,h⟩
  ·exact⟨_,_,_,h⟩
 have aU:(Q7 (Q8 7) y.2 []).length<=90000:=by unfold JK at aC;rw[Qk]at aC;omega
 have a4:(QB (Zy 7) y.2).length<=400:=by rw[<-GQ];exact aR
 obtain⟨J,K,N,_⟩:=id hh;unfold Ud;rw[N];obtain⟨b,z⟩:=QE ((w.alloc (.cells #[.string (sA M.fr),.string (sA M.to),.int .i64 M.size,.slice J M.hdrs.length K] 28)).alloc (.cells #[.slice none 0 0,.int .i64 0,.int .i64 0] 70));have aM:=I z;have f:Below w.heap.size w b:=by rw[z];exact(Qs _).alloc (by simp) _
 have aw:RBk (w.heap.size+1) b:=by unfold RBk;rw[z];exact Zv (by simp)
 have C:b.heap[w.heap.size]?=some (.cells #[.string (sA M.fr),.string (sA M.to),.int .i64 M.size,.slice J M.hdrs.length K] 28):=by rw[z];exact Qy (QA _ _)
 have aD:b.heap.size=w.heap.size+2:=by rw[z];simp
 have ay:trY (RCmd 7) (fun k=>k<b.heap.size) y.2 b F:=(ZO (Z1 7)).weak _ _ _ _ _ ((ZO (Z1 7)).keep _ _ _ _ _ i (fun k hk _=>f.block k hk)) (fun k _ hk=>hk);have aL:=I (SL y.1 b.heap.size M 7 y.2 b F [] ay ha aU)
 have aa:HdR b M L:=by
  obtain⟨p,c,e,T⟩:=hh;refine⟨p,c,e,fun j hj=>?_⟩;obtain⟨S,ak,e2,h3,h4,h5⟩:=T j hj;exact⟨S,ak,e2,by omega,by rw[f.cell (p:=⟨S,ak+j*2,none⟩) h3];exact h4,by rw[f.cell (p:=⟨S,ak+j*2+1,none⟩) h3];exact h5⟩
 have ao:=I (GE P y.1 ZJ b (ai.belowV f) (by omega));have c0:b.cell? ⟨g,0,none⟩=some P:=by rw[f.cell (p:=⟨g,0,none⟩) aB];exact Qn W 0
 have aO:b.cell? ⟨g,1,none⟩=some F:=by rw[f.cell (p:=⟨g,1,none⟩) aB];exact Qn W 1
 have m0:=Qj C;have m1:=Qo C;have m2:=QG C;have m3:=QH C;have HU:Hid (usesB y.1=decide (0<wL y.1 ZJ)):=rfl;have aY:=I aa;have HM:=I hm;have aZ:=I N;have Q:=I f;have aq:=I aw;have aT:g<b.heap.size:=by omega
 subst aW aQ;have a3:=I aD;obtain⟨s,aj⟩:=Qf (usesB y.1);rw[<-HU.o,aj]at ao;rw[aj];obtain⟨t,H⟩:=QE (b.alloc (.cells #[.string (sA M.fr),.string (sA M.to),.int .i64 M.size,.slice J M.hdrs.length K,.bool s,.slice none 0 0,.slice none 0 0,.slice none 0 0,.slice none 0 0,.bool true,.bool false,.int .i64 0,.int .i64 0] 104));have aN:=I H;have B:Below b.heap.size b t:=by rw[H];exact Qs _
 have ax:StI t b.heap.size b.heap.size M (ss0 s) ⟨L,.slice none 0 0,.slice none 0 0,.slice none 0 0,.slice none 0 0,[],[]⟩ 0 true false 0 0:=StI.new s B Qt (by unfold SB;rw[H,N];exact QA _ _) aa hm;have R:=I (aL.o t b.heap.size (ss0 s) _ 0 0 B ax (by omega));have aE:=I B;have d1:t.cell? ⟨g,1,none⟩=some (.slice a2 n2 c2):=by rw[B.cell (p:=⟨g,1,none⟩) aT];exact aO
 obtain⟨A,ah⟩:=Qf (b.heap.size);rw[ah]at R;have E:=I ah;obtain⟨d,ag⟩:=Qf (w.heap.size+1);rw[ag]at aq;have au:=I ag;obtain⟨r,hr⟩:=Qf (bEval (evalC M 7) y.2 (ss0 s));rw[hr]at R;rw[hr];clear i ay hn ai hh hm hg N z f aw C aD aa H B ax ah ag hr aj W;go_enter func33,ntmps33;go_wp2_with (rw[<-aM.o]);refine ao.o.mono ?_;rintro e w9 ⟨rfl,rfl⟩;go_wp2_with fail;rw[<-aN.o,E.o];refine R.o.mono ?_;rintro e w3 ⟨rfl,az,ae⟩;have aF:=I (aE.o.trans (by rw[E.o];exact az));have a0:=I ae;have aK:=I (Fh A A M _ 0 r w3 ae);clear az ae;go_wp2_with fail;refine aK.o.mono ?_;rintro e D ⟨aA,lv,rfl,ad⟩;have V:Below w9.heap.size w9 D:=aF.o.trans (by rw[E.o];exact aA.1);have l:=aq.o.below V;have ar:=I l;have aG:=I (Q.o.trans (V.mono Q.o.size));have ap:=I ad;have s0:=Qj l;have s1:=Qo l;have s2:=QG l;have rf:=Qz l;obtain⟨la,m,aV⟩:=ZC ad;subst aV;have a5:=Qh l;have af:w.heap.size<=d:=by have:=au.o;omega
 have aX:w.heap.size<=A:=by have:=E.o;have:=Q.o.size;omega
 unfold Jq;obtain⟨u,Y⟩:=Qf ((((Xy r).2).getD (0,0)).1);obtain⟨x,Z⟩:=Qf ((((Xy r).2).getD (0,0)).2);obtain⟨q,ab⟩:=Qf ((Xy r).1.length);rw[Y,Z,ab];have aH:=I Y;have aI:=I Z;have aJ:=I ab;rw[au.o];clear l aA ad V Y Z ab;go_wp2;obtain⟨U,G⟩:=QE ((((D.setCell ⟨d,0,none⟩ (.slice la q m)).setCell ⟨d,1,none⟩ (.int .i64 u)).setCell ⟨d,2,none⟩ (.int .i64 x)));rw[<-G];have i:U.heap[d]?=some (.cells #[.slice la q m,.int .i64 u,.int .i64 x] 70):=by rw[G];exact Qv _ _ _ _ _ _ (Qv _ _ _ _ _ _ (Qv _ _ _ _ _ _ ar.o))
 have y0:=Qj i;have y1:=Qo i;have y2:=QG i;have av:Below w.heap.size w U:=by rw[G];exact((aG.o.setCell af _).setCell af _).setCell af _
 have ac:(Value.slice la (Xy r).1.length m).ownBlock≠some d:=ZI ap.o ar.o (by decide);have aP:U.ownsRow A 52 2 (.slice la (Xy r).1.length m) (Xy r).1.length (XZ (Xy r).1):=by rw[G];exact Xd (Xd (Xd ap.o ac) ac) ac
 refine bodyPost_ret (v:=.agg #[.slice la q m,.int .i64 u,.int .i64 x]) (by simp[results,results33,go_sem,y0,y1,y2]) rfl ?_;refine⟨⟨av,Ym av⟩,.slice la q m,?_,?_⟩
 ·rw[<-aH.o,<-aI.o];rfl
 ·rw[<-aJ.o];exact Bk aP aX
theorem SP(g:Nat)(y:Qa×List (QF 7))(j p:Value)(w:World)(X:Nat->Prop)(h:w.heap[g]?=some (.cells #[j,p] 124))(m:Y0 X y.1 w j)(f:blX X (XS 7) y.2 w p)(G:∀ c∈y.2,XU (WfT y.1) (WfC y.1) 7 c)(K:(JK y).length<=100000) :
 Calls prog 57 #[.pointer (some ⟨g,0,none⟩)] w fun e w'=>∃ cv,e=.returned cv/\XK w' w.heap.size cv (codeL y.2)/\Below w.heap.size w w':=by
 obtain⟨v,M,z,rfl⟩:∃ a n c,j=.slice a n c:=by
  rcases m with⟨_,rfl⟩ | ⟨S,R,rfl,_⟩
  ·exact⟨_,_,_,rfl⟩
  ·exact⟨_,_,_,rfl⟩
 obtain⟨x,N,A,rfl⟩:=f.form;have H:=I h;have s:=I f;clear h m f;go_enter func57,ntmps57;go_wp2_with fail;refine(Mx g v x M z N A w H.o).mono ?_;rintro e U ⟨rfl,b⟩;have q:=I b;have d:=b.size;have t:=I (s.o.keep (Xf 7) (fun k _ J=>b.block k J));clear b;go_wp2_with fail;refine(SQ y _ _ X _ ⟨_,_,_,rfl⟩ t.o G K).mono ?_;rintro e V ⟨cv,rfl,i,l⟩;have r:=I (q.o.trans (l.mono d));obtain⟨Q,T,L⟩:=i.codeO.len;subst L;have u:=I i;clear l i;go_wp2;go_ret;obtain⟨P,B,C,D,E,F⟩:=u.o;exact⟨_,rfl,⟨P,B,Bk C d,D,E,F.mono d⟩,r.o⟩
theorem Tryz.infoCode:(prog.info? 82).map (fun i=>(i.zero,i.size,i.bytes))=some (some (.agg #[.slice none 0 0,.slice none 0 0]),2,48):=by kernel_rfl
theorem XK.opsR{B:Nat}{code:List Ins}(h:XK w B cv code)(t:∀ k∈code,Ye k):B1 w cv code:=by
 obtain⟨a,c,m⟩:=h.codeO.len;refine⟨a,c,m,fun j i=>?_⟩;obtain⟨g,u,q,r,o,_,_,s,d,l,v⟩:=h.get i;rw[m]at o;injection o with e
 have f:=t _ (List.getElem_mem i);exact⟨g,0,q,r,e,by rw[Nat.zero_add];exact s,⟨d.a.toO,d.b.toO,f.1,f.2,d.al,d.bl,fun p n c e=>by rw[e]at l;exact l⟩⟩
theorem SR{w1 w2:World}{ov:Value}{code:List Ins}(q:XK w2 w.heap.size cv code)(e:XK w1 w.heap.size cv code)(f:XK w2 w1.heap.size ov code)(g:Below w1.heap.size w1 w2)(i:∀ k,w.heap.size<=k->k<w1.heap.size->col k=2+2*j)(l:∀ k,w1.heap.size<=k->k<w2.heap.size->col k=3+2*j)(s:code.length<=1000000):∃ c:Y1,c.r=cv/\c.t=ov/\c.ps.map Prod.fst=code/\U9 col w2 j c:=by
 obtain⟨b,a,n⟩:=Q9.of_codeP e (X:=fun k=>col k=2+2*j) i;obtain⟨p,d,o⟩:=Q9.of_codeP f (X:=fun k=>col k=3+2*j) l;refine⟨⟨cv,ov,b,p⟩,rfl,rfl,a,n.keep (fun k _ m=>g.block k m),o,by rw[a,d],?_⟩;show b.length<=1000000
 have:=congrArg List.length a;rw[List.length_map]at this;omega
theorem ST(w:World)(c:Y1)(t:TypeId):∀ j u,[c.r,c.t][j]?=some u->(w.alloc (.cells #[c.r,c.t] t)).cell? ((⟨w.heap.size,0,none⟩:Addr).add j)=some u:=by
 intro j u a
 match j,a with
 |0,a=>simp at a;subst a;simp[Addr.add]
 |1,a=>simp at a;subst a;simp[Addr.add]
theorem SU(A:Nat)(u w:World)(N:Nat)(col:Nat->Nat)(xv mv cv:Value)(ys:List Kk)(cy cz:List Value)(F:List Y1)(hw:WldC A u w col xv mv cv ys ys cy cz F)(cp:∀ y∈ys,∃ t:L8,t.length<=600/\prL t=.ok y)(dk:ys.length<=N)(dg:F.length<=N)(hN:N<=1100000000000)
 (hu:u.heap.size=A) (gx gm:Nat) (y:Kk) (X1:Nat->Prop) (ch:Uy X1 y w (.pointer (some ⟨gx,0,none⟩))) (ci:YX (fun k=>col k=0) y w (.pointer (some ⟨gm,0,none⟩))) (hy:∃ t:L8,t.length<=600/\prL t=.ok y) (M:Msg) (hv:Value) (hh:HdR u M hv) (hm:KU M) :
 Calls prog 34 #[.pointer (some ⟨A,0,none⟩),.pointer (some ⟨gx,0,none⟩),.pointer (some ⟨gm,0,none⟩),Ud M hv] w fun e w'=>e=.returned (.bool true)/\Yp A u (N+1) w':=by
 obtain⟨aR,bJ,a5,cn⟩:(∀ c∈y.2,XU (WfT y.1) (WfC y.1) 7 c)/\(JK y).length<=90000/\(codeL y.2).length<=400/\y.1.length<=100000:=by
  obtain⟨t,ht,hp⟩:=hy;have B:=SV hp;have h2:=Rm hp;refine⟨(SW hp).2,by omega,by omega,?_⟩;have h3:(Gb y.1).length<=(JK y).length:=by unfold JK;rw[Qk];omega
  unfold Gb at h3;by_cases e:y.1=[]
  ·rw[e];exact QC
  ·rw[if_neg e]at h3;have:=(Fk y.1).2;simp only[Qk]at h3;omega
 obtain⟨ak,aA,co,_⟩:=id hh;obtain⟨Q,a4⟩:=QE (w.alloc (.cells #[.string (sA M.fr),.string (sA M.to),.int .i64 M.size,.slice ak M.hdrs.length aA] 28));have aO:Below w.heap.size w Q:=by rw[a4];exact Qs _
 have cf:Q.heap[w.heap.size]?=some (.cells #[.string (sA M.fr),.string (sA M.to),.int .i64 M.size,.slice ak M.hdrs.length aA] 28):=by rw[a4];exact QA _ _
 have bL:=hw.below aO;have cY:=KC.keep _ _ _ _ _ ch (fun k _ g=>aO.block k g);have cj:=Jm.keep _ _ _ _ _ ci (fun k _ g=>aO.block k g);obtain⟨cQ,rv,lv,b9,_,b3,cm,aS⟩:=cY;have cS:gx=cQ:=by injection b9 with h;injection h with h;injection h
 subst cS
 have bR:Hid (∀ W,Below A u W->HdR W M hv):=fun W C=>by
  obtain⟨p,c,e,h2⟩:=hh;refine⟨p,c,e,fun j hj=>?_⟩;obtain⟨g2,bO,e2,h3,h4,h5⟩:=h2 j hj;have b1:g2<A:=by rw[<-hu];exact h3
  exact⟨g2,bO,e2,Nat.lt_of_lt_of_le h3 C.size,by rw[C.cell (p:=⟨g2,bO+j*2,none⟩) b1];exact h4,by rw[C.cell (p:=⟨g2,bO+j*2+1,none⟩) b1];exact h5⟩
 have HM:=I hm;have cP:=I cp;have cL:=I cj;have cB:=I aR;have cN:=I bJ;have bW:=I cn;have cE:=I a5;have bQ:=I (SP gx y rv lv Q X1 b3 cm aS aR (by omega));have bX:=I (fun v=>Pp (M:=M) v y.2 aR a5);have bS:=I (Rn aR bJ);have c0:=Qh bL.nd;have dc:=I aO;have cO:=I a4;have bn:=I cf;have aF:=I bL;obtain⟨code,bz⟩:=Qf (codeL y.2);rw[bz]at bQ bS a5 bX;have de:=I bz;have bT:Hid (Ud M hv=.agg #[.string (sA M.fr),.string (sA M.to),.int .i64 M.size,.slice ak M.hdrs.length aA]):=by show _=_;unfold Ud;rw[co]
 rw[bT.o];obtain⟨a,bG⟩:=Qf (w.heap.size);have cJ:=I bG;rw[bG]at bn;have dj:a<Q.heap.size:=Qh bn.o;clear hh hm hw bL cp ch ci cj aR b3 cm aS b9 co bz a4 aO cf bJ cn bG;go_enter func34,ntmps34;go_wp2_with fail;rw[<-cO.o,cJ.o];refine bQ.o.mono ?_;rintro e w1 ⟨c9,rfl,bA,aS⟩;obtain⟨aD,aE,bF⟩:=bA.codeO.len;have a0:=I bA;have bd:=I aS;have a2:=I bF;rw[bF];clear bA aS bF;go_wp2_with fail;refine(SX code (.slice aD code.length aE) Q.heap.size w1 (by rw[<-a2.o];exact a0.o) (by omega)).mono ?_;rintro e w2 ⟨ov,rfl,bB,aG⟩;obtain⟨bM,bN,bH⟩:=bB.codeO.len;have aP:=bd.o.trans (aG.mono bd.o.size);have aC:=(aF.o.below aP).paint (s0:=Q.heap.size) (fun k=>if k<w1.heap.size then 2+2*F.length else 3+2*F.length) (fun k g=>aF.o.cu k (Qd g)) c0 (fun k g=>(aF.o.o1.lt k g).2) (fun k g=>(aF.o.o2.lt k g).2) (fun k g=>(aF.o.o4.lt k g).2);obtain⟨R,aT⟩:=Qf (fun k=>if Q.heap.size<=k/\k<w2.heap.size then(if k<w1.heap.size then 2+2*F.length else 3+2*F.length)else col k);rw[aT]at aC;have dl:=bd.o.size;have dm:=aG.size
 have b6:∀ k,col k=0->R k=0:=fun k g=>by
  rw[<-aT];show(if _ then _ else _)=_
  rw[if_neg]
  ·exact g
  ·rintro⟨B,_⟩;have:=aF.o.cu k (Qd B);omega
 have cC:=I b6;obtain⟨cd,b7,b8,b4,ca⟩:=SR (w:=Q) (w1:=w1) (w2:=w2) (cv:=c9) (ov:=ov) (code:=code) (col:=R) (j:=F.length) (a0.o.below aG) a0.o bB aG (fun k B h2=>by rw[<-aT];show(if _ then _ else _)=_;rw[if_pos ⟨B,by omega⟩,if_pos h2]) (fun k B h2=>by rw[<-aT];show(if _ then _ else _)=_;rw[if_pos ⟨by omega,h2⟩,if_neg (by omega)]) (by omega);have cH:=I ca;have cD:=I b4;have aN:=I aC;have cM:=I (Jm.keep _ _ _ _ _ cL.o (fun k _ g=>aP.block k g));have dd:=I aP;have cF:=I (a0.o.below aG);have bC:cd.r=.slice aD code.length aE:=by rw[b7,a2.o]
 have bD:cd.t=.slice bM code.length bN:=by rw[b8,bH]
 have bh:=I bC;have cG:=I bD;obtain⟨pc,cc,a6⟩:=ZC aC.o4;have bi:=I a6;have n3:w2.cell? ⟨A,3,none⟩=some (.slice pc F.length cc):=by rw[<-a6];exact Qn aC.nd 3
 have aW:=aC.o4;rw[a6]at aW;have cZ:A<w2.heap.size:=Qh aC.nd;have aM:=I (Zk bn.o aP);rw[bH];obtain⟨i0,cT,c6,c7,c8⟩:=info_parts Tryz.infoCode;have a9:=I (ST w2 cd 82);rw[bC,bD]at a9;clear bB aG aP aC aT ca b7 b8 a6 bH bC bD b4 b6;go_wp2_with (at_builtin;refine wpList_append_own_at _ rfl _ _ 42 rfl (A+1) 82 i0 (.agg #[.slice none 0 0,.slice none 0 0]) 2 48 underlying42 cT c6 c7 c8 rfl (by decide) _ _ _ rfl (aW.alloc _) ⟨w2.heap.size,0,none⟩ 1 1 [.slice aD code.length aE,.slice bM code.length bN] rfl rfl ?c1 ?c2 ?c3 ?c4 ?c5 ?_)
 case c1=>exact a9.o
 case c2=>intro u hu;simp at hu;rcases hu with rfl|rfl<;>rfl
 case c3=>unfold maxLen;omega
 case c4=>omega
 case c5=>simp;omega
 ·intro v' w5 bI a7 _ b2;have ce:=DO aW cZ a7;have a8:=(ce A (Nat.lt_succ_self _)).trans aN.o.nd;obtain⟨p5,m5,c5,rfl⟩:=A4 bI;obtain⟨x,aQ⟩:=QE (w5.setCell ⟨A,3,none⟩ (.slice p5 m5 c5));have bY:=I aQ;have bE:(w2.alloc (.cells #[.slice aD code.length aE,.slice bM code.length bN] 82)).grownBy w5 cv.ownBlock:=by rw[bi.o];exact a7
  have aY:=aN.o.app4 (c:=cd) cH.o bE (by rw[bh.o,cG.o];exact bI) (by rw[bi.o];exact b2);rw[<-aQ]at aY
  have ck:YX (fun k=>R k=0) y x (.pointer (some ⟨gm,0,none⟩)):=by
   rw[aQ];exact Jm.keep _ _ _ _ _ (Jm.weak _ _ _ _ _ cM.o (fun k g _=>cC.o k g)) (fun k g hz=>GL aN.o aN.o.k4 bE 3 (.slice p5 m5 c5) k (by have dh:R k=0:=g;omega) hz)
  have cW:a≠A:=by
   intro e;have B:=aM.o;rw[e,aN.o.nd]at B;injection B with B
   injection B with _ B
   exact absurd B (by decide)
  have aH:x.heap[a]?=some (.cells #[.string (sA M.fr),.string (sA M.to),.int .i64 M.size,.slice ak M.hdrs.length aA] 28):=by
   rw[aQ,Below.heap_setCell _ _ _ _ cW,a7.block a (by simp;have:=Qh aM.o;omega) (fun e=>ZI aW aM.o (by decide) e.symm),Below.heap_alloc _ _ _ (Qh aM.o)];exact aM.o
  have cb:U9 R x F.length cd:=by
   have:=aY.kc F.length (by simp);rw[List.getElem_append_right Qt]at this;simpa using this
  have cg:B1 x (.slice aD code.length aE) code:=by
   have:=cb.r.codeP;rw[bh.o,cD.o]at this;exact this.opsR bS.o
  have bU:=I cg;have cI:=I aH;have bV:=I ck;have bZ:=I aY;have bP:=I aY.b
  have cK:Hid (code=[]->aD=none/\aE=0):=fun e=>by
   obtain⟨ps,e1,_,_,e4,_⟩:=cF.o;have:ps=[]:=by rw[e]at e1;exact List.map_eq_nil_iff.1 e1
   have:=e4 this;rw[a2.o]at this;injection this with B h2 h3
   exact⟨B,h3⟩
  have f5:=fun o=>Qz a8 o
  have t5:w5.cell? ⟨A,3,none⟩=some (.slice pc F.length cc):=by rw[<-bi.o];exact Qn a8 3
  have di:A<w5.heap.size:=Qh a8;have cU:¬(400:Int)<(code.length:Int):=by omega
  have cr:=Qj aH;have ct:=Qo aH;have cw:=QG aH;have cx:=QH aH;clear bI a7 bE aW b2 ce a8 aQ aY ck aH cb cg n3 a9;have cq:∀ W,Below x.heap.size x W->Yp A u (N+1) W:=fun W C=>⟨R,xv,mv,_,ys,cy,cz,F++[cd],bZ.o.below C,cP.o,by omega,by simp;omega⟩
  have b0:=I cq;clear cq;have S:a<x.heap.size:=Qh cI.o;obtain⟨i,bK⟩:=Qf (usesB y.1);have bu:=I (SN (fun k=>R k=0) y gm x bV.o bW.o);rw[bK]at bu;have a1:=I (So i code (.slice aD code.length aE) M hv x bU.o a5 (bR.o x bP.o) HM.o)
  have br:Hid (∀ W,Below x.heap.size x W->Calls prog 33 #[.pointer (some ⟨gm,0,none⟩),Ud M hv] W (G8 W.heap.size W (Xy (bEval (evalC M 7) y.2 (ss0 i))))):=fun W C=>by
   rw[<-bK];exact SO (fun k=>R k=0) y gm M hv W (Jm.keep _ _ _ _ _ bV.o (fun k _ g=>C.block k g)) cB.o cN.o cE.o bW.o (bR.o W (bP.o.trans (C.mono (by have:=bZ.o.nd;exact Nat.le_of_lt (Qh this))))) HM.o
  have a3:=I (bX.o i);rw[bT.o]at a1 br;clear bK;by_cases hc0:code=[]
  ·obtain⟨rfl,rfl⟩:=cK.o hc0;have bx:code.length=0:=by rw[hc0];rfl
   clear hc0;obtain⟨cl,b5⟩:=Qf (code.length);rw[b5]at bx;subst bx;rw[b5]at a1 cU bh a2 bU ⊢;go_wp2_with (rw[<-bY.o]);refine bu.o.mono ?_;rintro e w7 ⟨rfl,aZ⟩;rw[aZ];clear aZ;go_wp2_with fail;refine(a1.o).mono ?_;rintro e s ⟨z,da,rfl,Z⟩;obtain⟨L,P,aw⟩:=ZC Z;have aK:=I z;have ba:=I (Kn.of_owns Z);have bl:=I aw;have bm:=I (Fl Z);have cV:a<s.heap.size:=Nat.lt_of_lt_of_le S z.size;unfold Jq;rw[aw];have u60:s.cell? ⟨a,0,none⟩=some (.string (sA M.fr)):=by rw[z.cell (p:=⟨a,0,none⟩) S];exact cr
   have u61:s.cell? ⟨a,1,none⟩=some (.string (sA M.to)):=by rw[z.cell (p:=⟨a,1,none⟩) S];exact ct
   have u62:s.cell? ⟨a,2,none⟩=some (.int .i64 M.size):=by rw[z.cell (p:=⟨a,2,none⟩) S];exact cw
   have u63:s.cell? ⟨a,3,none⟩=some (.slice ak M.hdrs.length aA):=by rw[z.cell (p:=⟨a,3,none⟩) S];exact cx
   obtain⟨m,au⟩:=Qf ((((XT i code M).2.2).getD (0,0)).1);obtain⟨q,av⟩:=Qf ((((XT i code M).2.2).getD (0,0)).2);obtain⟨d,ay⟩:=Qf ((XT i code M).1.length);rw[au,av,ay];have bj:=I au;have bk:=I av;have G:=I ay;obtain⟨J,T⟩:=QE (s.alloc (.cells #[.slice L d P,.int .i64 m,.int .i64 q] 70));have bv:=I T;have ap:Below s.heap.size s J:=by rw[T];exact Qs _
   have aj:=aK.o.trans (ap.mono aK.o.size);have aL:=I aj;obtain⟨f,ao⟩:=Qf (s.heap.size);have bc:=I ao;have aU:J.heap[f]?=some (.cells #[.slice L d P,.int .i64 m,.int .i64 q] 70):=by rw[T,<-ao];exact QA _ _
   have bo:=I aU;have bs:=I (br.o J aj);have aJ:=I (ba.o.below ap);rw[bl.o,G.o]at aJ;clear z Z aw au av ay T ap aj ao aU;go_wp2_with fail;rw[<-bv.o,bc.o];refine bs.o.mono ?_;rintro e l ⟨X,db,rfl,az⟩;obtain⟨aa,ac,ax⟩:=ZC az;have ae:=I (aL.o.trans (X.1.mono aL.o.size));have ad:=I (Kn.of_owns az);have H:=I (Zk bo.o X.1);have aI:=I (aJ.o.below X.1);unfold Jq;rw[ax];have aB:(Xy (bEval (evalC M 7) y.2 (ss0 i))).1=(XT i code M).1:=by rw[<-a3.o]
   have aX:(Xy (bEval (evalC M 7) y.2 (ss0 i))).2=(XT i code M).2.2:=by rw[<-a3.o]
   rw[ax,aB,G.o]at ad;rw[aB,aX,G.o,bj.o,bk.o];obtain⟨ai,V⟩:=Qf ((XT i code M).1);rw[V]at aI ad;have cA:=I V;have cX:d<=9223372036854775807:=by rw[<-G.o];exact bm.o
   have bt:Hid (∀ W,Below l.heap.size l W->Calls prog 35 #[.slice L d P,.slice aa d ac] W fun e w'=>e=.returned (.bool true)/\Below W.heap.size W w'):=fun W C=>Fm ai _ _ W (aI.o.below C) (ad.o.below C) (by have:=G.o;rw[V]at this;omega)
   obtain⟨K,U⟩:=QE (l.alloc (.cells #[.slice aa d ac,.int .i64 m,.int .i64 q] 70));have bw:=I U;have aq:Below l.heap.size l K:=by rw[U];exact Qs _
   have af:=I aq;obtain⟨D,ar⟩:=Qf (l.heap.size);have bg:=I ar;have aV:K.heap[D]?=some (.cells #[.slice aa d ac,.int .i64 m,.int .i64 q] 70):=by rw[U,<-ar];exact QA _ _
   have bp:=I aV;have bq:=I (Zk H.o aq);have x0:=Qj H.o;have x1:=Qo H.o;have x2:=QG H.o;have cR:f<l.heap.size:=Qh H.o;clear X az ax aB aX V U aq ar aV;go_wp2_with fail;rw[<-bw.o,bg.o];refine(bt.o K af.o).mono ?_;rintro e E ⟨rfl,Y⟩;have ag:=I (Zk bq.o Y);have ah:=I (Zk bp.o Y);have bf:=I ((ae.o.trans (af.o.mono ae.o.size)).trans (Y.mono (Qm ae.o.size af.o.size)));have s0:=Qj ag.o;have s1:=Qo ag.o;have s2:=QG ag.o;have z0:=Qj ah.o;have z1:=Qo ah.o;have z2:=QG ah.o;clear Y x0 x1 x2;go_wp2;go_ret;exact⟨rfl,b0.o _ bf.o⟩
  ·have bx:¬ code.length=0:=fun e=>hc0 (XB e)
   have df:((code.length:Int)==0)=false:=by simp;omega
   clear hc0;go_wp2_with (rw[<-bY.o]);refine bu.o.mono ?_;rintro e w7 ⟨rfl,aZ⟩;rw[aZ];clear aZ;go_wp2_with fail;refine(a1.o).mono ?_;rintro e s ⟨z,da,rfl,Z⟩;obtain⟨L,P,aw⟩:=ZC Z;have aK:=I z;have ba:=I (Kn.of_owns Z);have bl:=I aw;have bm:=I (Fl Z);have cV:a<s.heap.size:=Nat.lt_of_lt_of_le S z.size;unfold Jq;rw[aw];have u60:s.cell? ⟨a,0,none⟩=some (.string (sA M.fr)):=by rw[z.cell (p:=⟨a,0,none⟩) S];exact cr
   have u61:s.cell? ⟨a,1,none⟩=some (.string (sA M.to)):=by rw[z.cell (p:=⟨a,1,none⟩) S];exact ct
   have u62:s.cell? ⟨a,2,none⟩=some (.int .i64 M.size):=by rw[z.cell (p:=⟨a,2,none⟩) S];exact cw
   have u63:s.cell? ⟨a,3,none⟩=some (.slice ak M.hdrs.length aA):=by rw[z.cell (p:=⟨a,3,none⟩) S];exact cx
   obtain⟨m,au⟩:=Qf ((((XT i code M).2.2).getD (0,0)).1);obtain⟨q,av⟩:=Qf ((((XT i code M).2.2).getD (0,0)).2);obtain⟨d,ay⟩:=Qf ((XT i code M).1.length);rw[au,av,ay];have bj:=I au;have bk:=I av;have G:=I ay;obtain⟨J,T⟩:=QE (s.alloc (.cells #[.slice L d P,.int .i64 m,.int .i64 q] 70));have bv:=I T;have ap:Below s.heap.size s J:=by rw[T];exact Qs _
   have aj:=aK.o.trans (ap.mono aK.o.size);have aL:=I aj;obtain⟨f,ao⟩:=Qf (s.heap.size);have bc:=I ao;have aU:J.heap[f]?=some (.cells #[.slice L d P,.int .i64 m,.int .i64 q] 70):=by rw[T,<-ao];exact QA _ _
   have bo:=I aU;have bs:=I (br.o J aj);have aJ:=I (ba.o.below ap);rw[bl.o,G.o]at aJ;clear z Z aw au av ay T ap aj ao aU;go_wp2_with fail;rw[<-bv.o,bc.o];refine bs.o.mono ?_;rintro e l ⟨X,db,rfl,az⟩;obtain⟨aa,ac,ax⟩:=ZC az;have ae:=I (aL.o.trans (X.1.mono aL.o.size));have ad:=I (Kn.of_owns az);have H:=I (Zk bo.o X.1);have aI:=I (aJ.o.below X.1);unfold Jq;rw[ax];have aB:(Xy (bEval (evalC M 7) y.2 (ss0 i))).1=(XT i code M).1:=by rw[<-a3.o]
   have aX:(Xy (bEval (evalC M 7) y.2 (ss0 i))).2=(XT i code M).2.2:=by rw[<-a3.o]
   rw[ax,aB,G.o]at ad;rw[aB,aX,G.o,bj.o,bk.o];obtain⟨ai,V⟩:=Qf ((XT i code M).1);rw[V]at aI ad;have cA:=I V;have cX:d<=9223372036854775807:=by rw[<-G.o];exact bm.o
   have bt:Hid (∀ W,Below l.heap.size l W->Calls prog 35 #[.slice L d P,.slice aa d ac] W fun e w'=>e=.returned (.bool true)/\Below W.heap.size W w'):=fun W C=>Fm ai _ _ W (aI.o.below C) (ad.o.below C) (by have:=G.o;rw[V]at this;omega)
   obtain⟨K,U⟩:=QE (l.alloc (.cells #[.slice aa d ac,.int .i64 m,.int .i64 q] 70));have bw:=I U;have aq:Below l.heap.size l K:=by rw[U];exact Qs _
   have af:=I aq;obtain⟨D,ar⟩:=Qf (l.heap.size);have bg:=I ar;have aV:K.heap[D]?=some (.cells #[.slice aa d ac,.int .i64 m,.int .i64 q] 70):=by rw[U,<-ar];exact QA _ _
   have bp:=I aV;have bq:=I (Zk H.o aq);have x0:=Qj H.o;have x1:=Qo H.o;have x2:=QG H.o;have cR:f<l.heap.size:=Qh H.o;clear X az ax aB aX V U aq ar aV;go_wp2_with fail;rw[<-bw.o,bg.o];refine(bt.o K af.o).mono ?_;rintro e E ⟨rfl,Y⟩;have ag:=I (Zk bq.o Y);have ah:=I (Zk bp.o Y);have bf:=I ((ae.o.trans (af.o.mono ae.o.size)).trans (Y.mono (Qm ae.o.size af.o.size)));have s0:=Qj ag.o;have s1:=Qo ag.o;have s2:=QG ag.o;have z0:=Qj ah.o;have z1:=Qo ah.o;have z2:=QG ah.o;clear Y x0 x1 x2;go_wp2;go_ret;exact⟨rfl,b0.o _ bf.o⟩
theorem WldC.get{y:Nat}{j c:Value}{a:List Kk}{v x:List Value}{n:List Y1}(h:WldC y u w col j c cv a a v x n)(i:Nat)(b:i<a.length):∃ cx cm bx bm gx gm,j=.slice (some ⟨bx,0,none⟩) a.length cx/\c=.slice (some ⟨bm,0,none⟩) a.length cm/\w.cell? ⟨bx,i,none⟩=some (.pointer (some ⟨gx,0,none⟩))/\w.cell? ⟨bm,i,none⟩=some (.pointer (some ⟨gm,0,none⟩))/\Uy (fun k=>col k=0) a[i] w (.pointer (some ⟨gx,0,none⟩))/\YX (fun k=>col k=0) a[i] w (.pointer (some ⟨gm,0,none⟩)):=by
 have s:=Kj h.r1;have t:=Kj h.r2;obtain⟨u1,p,f⟩:=h.r1.at i b;obtain⟨u2,q,g⟩:=h.r2.at i b;obtain⟨gx,_,_,rfl,_⟩:=id f;obtain⟨gm,_,_,rfl,_⟩:=id g;have d:=h.o1;have e:=h.o2;rw[<-s]at d;rw[<-t]at e;obtain⟨bx,cx,r,_,_,l⟩:=Y7 d (by omega);obtain⟨bm,cm,o,_,_,m⟩:=Y7 e (by omega);exact⟨cx,cm,bx,bm,gx,gm,r,o,l _ _ p,m _ _ q,f,g⟩
theorem SY(l:Nat)(u w:World)(N:Nat)(x:OpD)(h:Yp l u N w)(he:Env u)(hu:u.heap.size=l)(hN:N<1100000000000)(D:U6 x)(au:SmD x)(aS:Kz u x.hv x.hs)(q:∃ a n c,x.hv=.slice a n c)(t:∃ a n c,x.cv=.slice a n c)(hk:x.kind=1\/x.kind=4\/x.kind=6\/x.kind=7) :
 Calls prog 16 #[.pointer (some ⟨l,0,none⟩),opV x] w fun e w'=>e=.returned (.bool true)/\Yp l u (N+1) w':=by
 have H:=I h;have HE:=I he;have HX:=I D;have HH:=I q;have HC:=I t;obtain⟨B,X,T,L,f,F,U,cs,S,ax,aA,aQ⟩:=h;have a0:=Qh S.nd;have aa:Hid (∀ W,Below w.heap.size w W->Calls prog 24 #[.pointer (some ⟨l,0,none⟩),opV x] W fun e w'=>e=.returned (.tuple #[])/\Am l u B X T L f F U cs.length W w'):=fun W hW=>SG l u W N x B X T L f F U cs (S.below hW) aQ (by omega) D au.s q t
 have ac:=I ax;have aC:=I S.cu;have ab:=I au;have aD:=I aS;obtain⟨z,E,A,q⟩:=q;obtain⟨a2,n2,c2,t⟩:=t;have aV:=D.s;obtain⟨aO,aP⟩:=D.a;unfold opV at aa ⊢;rw[q,t]at aa ⊢;obtain⟨v,R⟩:=QE (w.alloc (.cells #[.int .i64 x.kind,.int .i64 x.a,.int .i64 x.b,.string (sA x.s),.string (sA x.fr),.string (sA x.tt),.int .i64 x.sz,.slice z E A,.slice a2 n2 c2] 47));have aK:=I R;have aB:Hid (Below w.heap.size w v):=by show Below _ _ _;rw[R];exact Qs _
 have ah:Hid (v.heap[w.heap.size]?=some (.cells #[.int .i64 x.kind,.int .i64 x.a,.int .i64 x.b,.string (sA x.s),.string (sA x.fr),.string (sA x.tt),.int .i64 x.sz,.slice z E A,.slice a2 n2 c2] 47)):=by show _=_;rw[R];exact QA _ _
 clear S ax he D t R;generalize hKK:x.kind=K at *;go_enter func16,ntmps16;go_wp2_with fail;rw[<-aK.o];refine(aa.o v aB.o).mono ?_;rintro e d ⟨rfl,⟨ad,C,aR⟩,aW,ar⟩;have r:=(ar w.heap.size (aC.o _ (Qd Qt)) (Qh ah.o)).trans ah.o;have q0:=Qj r;have q1:=Qo r;have q3:=QH r;have q4:=QJ r;have q5:=QM r;have q6:=Zg r;have q7:=YT r;have J:=I C;have r0:=Qj C.nd;have r1:=Qo C.nd;have aE:=I r;have ao:ad.length<=N:=by omega
 have Y:Hid (Yp l u N d):=⟨B,X,T,L,f,F,U,ad,C,ac.o,aA,ao⟩;clear r C ar aW aR;rcases hk with rfl|hk
 ·go_wp2_with fail;refine(SA l u d N x.s Y.o HE.o hu (by omega) aV).mono ?_;rintro e w2 ⟨rfl,av⟩;have HG:=I av;clear av;go_wp2;go_ret;exact⟨rfl,HG.o⟩
 ·have k1:(K==1)=false:=by rcases hk with rfl|rfl|rfl<;>rfl
  have k5:(K==5)=false:=by rcases hk with rfl|rfl|rfl<;>rfl
  have l1:=Kj J.o.r1;by_cases hy0:f=[]
  ·subst hy0;have aU:F=[]:=XB l1.symm;subst aU;obtain⟨p0,c0,ag⟩:=A6 J.o.o1;subst ag;go_wp2;go_ret;exact⟨rfl,Y.o.more (Nat.le_succ N)⟩
  ·have az:0<f.length:=List.length_pos_iff.2 hy0;obtain⟨i,hi⟩:=Qf (pickL x.a f.length);have aq:i<f.length:=by rw[<-hi];exact Bi _ az
   have aH:Hid (∀ W,Calls prog 31 #[.int .i64 x.a,.int .i64 f.length] W fun e w'=>e=.returned (.int .i64 i)/\w'=W):=fun W=>by rw[<-hi];exact Bj x.a f.length W aO aP az (by omega)
   obtain⟨cx,cm,bx,bm,gx,gm,ag,aT,ai,aj,ae,af⟩:=J.o.get i aq;obtain⟨y,hy⟩:=Qf (f[i]);rw[hy]at ae af;have ay:=ac.o y (by rw[<-hy];exact List.getElem_mem aq);subst ag aT;have aF:=I ae;have aG:=I af;have aN:=I ay;have aZ:((f.length:Int)==0)=false:=by simp;omega
   have aY:¬ f.length=0:=by omega
   clear ae af ay hi hy hy0 l1;go_wp2_with fail;go_quiet (first|(go_at_call 31;refine Calls.quiet_of_same (aH.o _)));generalize hWW:d.drewN _=V;have m:∀ a:Addr,V.cell? a=d.cell? a:=fun a=>by rw[<-hWW];rfl
   have G:Hid (Below d.heap.size d V):=by rw[<-hWW];exact⟨rfl,rfl,rfl,Nat.le_refl _,fun _ _=>rfl⟩
   have s0:=(m _).trans r0;have s1:=(m _).trans r1;have s2:=(m _).trans ai;have s3:=(m _).trans aj;have s4:=(m _).trans q0;have t4:=(m _).trans q4;have t5:=(m _).trans q5;have t6:=(m _).trans q6;have t7:=(m _).trans q7;have aM:=I (J.o.below G.o);have aI:=I (KC.keep _ _ _ _ _ aF.o (fun k _ hk=>G.o.block k hk));have aJ:=I (Jm.keep _ _ _ _ _ aG.o (fun k _ hk=>G.o.block k hk));clear hWW m q0 q1 q3 q4 q5 q6 q7 r0 r1 ai aj aE;rcases hk with rfl|hk
   ·obtain⟨M,Q⟩:∃ M:Msg,M=⟨x.fr,x.tt,x.sz,x.hs⟩:=⟨_,rfl⟩
    have ak:KU M:=by
     rw[Q];have h1:=ab.o.fr;have h2:=ab.o.tt;have P:=ab.o.hs;exact⟨by show x.fr.length<=_;omega,by show x.tt.length<=_;omega,by have:=P.1;show x.hs.length<=_;omega,fun h q=>by have:=P.2 h q;omega⟩
    have ap:HdR u M (.slice z E A):=by
     rw[Q];obtain⟨p,c,e,h2⟩:=aD.o;rw[q]at e;refine⟨p,c,e,fun j hj=>?_⟩;obtain⟨g,aX,e2,P⟩:=h2 (List.ne_nil_of_length_pos (Nat.lt_of_le_of_lt QC hj));obtain⟨h4,h5⟩:=P j hj;exact⟨g,aX,e2,QI h4,h4,h5⟩
    have Z:=I (SU l u V N B _ _ L f F U ad aM.o ac.o aA ao (by omega) hu gx gm y (fun k=>B k=0) aI.o aJ.o aN.o M (.slice z E A) ap ak);rw[Q]at Z;unfold Ud at Z;clear Q ak ap q;go_wp2_with fail;refine Z.o.mono ?_;rintro e w3 ⟨rfl,aw⟩;have aL:=I aw;clear aw;go_wp2;go_ret;exact⟨rfl,aL.o⟩
   ·have k2:(K==2)=false:=by rcases hk with rfl|rfl<;>rfl
    have k3:(K==3)=false:=by rcases hk with rfl|rfl<;>rfl
    have k4:(K==4)=false:=by rcases hk with rfl|rfl<;>rfl
    clear hk q;go_wp2;go_ret;exact⟨rfl,(Y.o.below G.o).more (Nat.le_succ N)⟩
theorem SZ(u w':World)(hw:w'=u.alloc (.cells #[.slice none 0 0,.slice none 0 0,.slice none 0 0,.slice none 0 0] 44)):Yp u.heap.size u 0 w':=by
 subst hw;refine⟨fun _=>1,_,_,_,[],[],[],[],⟨QA _ _,World.ownsRow_nil _ _ _ _,World.ownsRow_nil _ _ _ _,World.ownsRow_nil _ _ _ _,trivial,trivial,(fun k h=>nomatch h),(fun k h=>nomatch h),(fun k h=>nomatch h),(fun k _=>rfl),(fun j a=>absurd a (Nat.not_lt_zero _)),Qs _⟩,(fun y h=>nomatch h),Nat.le_refl _,Nat.le_refl _⟩
theorem Fo{a:Nat}{N:Nat}(h:Yp a u N w):Below a u w/\a<w.heap.size:=by
 obtain⟨d,l,i,f,m,j,k,e,c,g⟩:=h;exact⟨c.b,Qh c.nd⟩
theorem S0(l:List OpD)(v:Value)(y:Nat)(w:World)(h:Ux w v l)(hs:∀ x∈l,U6 x)(hl:l.length<=1100000000000)(he:Env w)(hk:w.cell? ⟨y,0,none⟩=some (.int .i64 4)) :
 Calls prog 9 #[v,.slice (some ⟨y,0,none⟩) 1 1] w fun e w'=>e=.returned (.bool true)/\Below w.heap.size w w':=by
 have H:=I h;have HS:=I hs;have HE:=I he;have aK:=I (O3 l v w h hs (by omega));have av:y<w.heap.size:=QI hk;obtain⟨a,c,Q,_⟩:=h;subst Q;clear hs he;go_enter func9,ntmps9;go_wp2_with fail;refine aK.o.mono ?_;rintro e u ⟨⟨b,rfl,ax⟩,L⟩;have aj:=I ax;clear ax;have G:=I L;have ay:=L.size;have aA:=I (HE.o.below L);clear L
 cases b with
 |false=>
  go_wp2;go_ret;exact⟨rfl,G.o⟩
 |true=>
  obtain⟨V,Y⟩:=QE (u.alloc (.cells #[.slice none 0 0,.slice none 0 0,.slice none 0 0,.slice none 0 0] 44));have aM:=I Y;have T:=I (SZ u V Y);clear Y;obtain⟨z,ae⟩:=Qf (u.heap.size);rw[ae]at T;have U:=I ae;go_upto_block 0 with fail
  rw[<-aM.o];clear ae;go_cut [] (fun R=>Below z u R)
  case first=>
   go_wp2_with fail
   go_loopg [5,7,8,9,10] l.length (fun m _ iv _ _ _ wr=>∃ k:Nat,m=l.length - k/\k<=l.length/\iv=.int .i64 k/\Yp z u k wr)
   case atStart=>exact⟨0,by omega,by omega,rfl,T.o⟩
   case round=>
    obtain⟨k,rfl,aT,rfl,X⟩:=hrel;have S:=I X;obtain⟨ar,aV⟩:=Fo X;have J:Hid (Below w.heap.size w wr):=by show Below _ _ _;exact G.o.trans (ar.mono (by rw[<-U.o];exact ay))
    have kc:wr.cell? ⟨y,0,none⟩=some (.int .i64 4):=by rw[J.o.cell (p:=⟨y,0,none⟩) av];exact hk
    have aQ:y<wr.heap.size:=Nat.lt_of_lt_of_le av J.o.size;clear X ar T;by_cases hlt:k<l.length
    ·obtain⟨a',c',Q,B⟩:=H.o;obtain⟨g,aW,ha,hc⟩:=B (List.ne_nil_of_length_pos (by omega));have ea:a=a':=by injection Q
     subst ea;subst ha;have Z:=hc k hlt;have ad:=HS.o l[k] (List.getElem_mem hlt);obtain⟨x,hx⟩:=Qf (l[k]);rw[hx]at Z ad;have aL:=I ad;have aJ:Hid (SmD x):=by rw[<-hx];first|exact aj.o trivial _ (List.getElem_mem hlt)|exact aj.o rfl _ (List.getElem_mem hlt)
     have aF:Hid (Kz u x.hv x.hs):=Z.2.2.2.2.2.2.2.2.2.1.below G.o;obtain⟨p0,p1,p2,p3,p4,p5,p6,p7,p8,hh,aN⟩:=Z;have au:g<w.heap.size:=QI p0;have r:∀ j,wr.cell? ⟨g,j,none⟩=w.cell? ⟨g,j,none⟩:=fun j=>J.o.cell (p:=⟨g,j,none⟩) au
     have q0:=(r _).trans p0;have q1:=(r _).trans p1;have q2:=(r _).trans p2;have q3:=(r _).trans p3;have q4:=(r _).trans p4;have q5:=(r _).trans p5;have q6:=(r _).trans p6;have q7:=(r _).trans p7;have q8:=(r _).trans p8;have aR:(k:Int)<(l.length:Int):=by omega
     have aS:g<wr.heap.size:=Nat.lt_of_lt_of_le au J.o.size;obtain⟨C,D,N,_⟩:=aN;obtain⟨E,F,P,_⟩:=hh;have ai:Hid (opV x=.agg #[.int .i64 x.kind,.int .i64 x.a,.int .i64 x.b,.string (sA x.s),.string (sA x.fr),.string (sA x.tt),.int .i64 x.sz,.slice E x.hs.length F,.slice C x.code.length D]):=by show _=_;unfold opV;rw[P,N]
     have aB:Hid (∃ a n c,x.hv=.slice a n c):=⟨_,_,_,P⟩;have aC:Hid (∃ a n c,x.cv=.slice a n c):=⟨_,_,_,N⟩;rw[N]at q8;rw[P]at q7;obtain⟨d,M⟩:=QE (wr.alloc (.cells #[.int .i64 x.kind,.int .i64 x.a,.int .i64 x.b,.string (sA x.s),.string (sA x.fr),.string (sA x.tt),.int .i64 x.sz,.slice E x.hs.length F,.slice C x.code.length D] 47));have ao:=I M;have q:Hid (Below wr.heap.size wr d):=by show Below _ _ _;rw[M];exact Qs _
     have i:Hid (d.heap[wr.heap.size]?=some (.cells #[.int .i64 x.kind,.int .i64 x.a,.int .i64 x.b,.string (sA x.s),.string (sA x.fr),.string (sA x.tt),.int .i64 x.sz,.slice E x.hs.length F,.slice C x.code.length D] 47)):=by show _=_;rw[M];exact QA _ _
     have ak:Hid (∀ W,Below wr.heap.size wr W->(x.kind=1\/x.kind=4\/x.kind=6\/x.kind=7)->Calls prog 16 #[.pointer (some ⟨z,0,none⟩),.agg #[.int .i64 x.kind,.int .i64 x.a,.int .i64 x.b,.string (sA x.s),.string (sA x.fr),.string (sA x.tt),.int .i64 x.sz,.slice E x.hs.length F,.slice C x.code.length D]] W fun e w'=>e=.returned (.bool true)/\Yp z u (k+1) w'):=by
      intro W hW aP;rw[<-ai.o];exact SY z u W k x (S.o.below hW) aA.o U.o (by omega) aL.o aJ.o aF.o aB.o aC.o aP
     obtain⟨K,hK⟩:=Qf (x.kind);rw[hK]at q0 i ao ak;obtain⟨f,ac⟩:=Qf (wr.heap.size);rw[ac]at i;have aI:=I ac;clear p0 p1 p2 p3 p4 p5 p6 p7 p8 r hc B Q hx ad M N P ai hK ac;have d0:=Qj i.o;have d1:=Qo i.o;have d2:=QG i.o;have d3:=QH i.o;have d4:=QJ i.o;have d5:=QM i.o;have d6:=Zg i.o;have d7:=YT i.o;have d8:=KV i.o;have dk:d.cell? ⟨y,0,none⟩=some (.int .i64 4):=by rw[q.o.cell (p:=⟨y,0,none⟩) aQ];exact kc
     obtain⟨A,ab⟩:=Qf (decide (K=1\/K=4\/K=6\/K=7));have ag:=I ab
     have aO:K=1\/K=6\/K=7\/((K==1)=false/\(K==6)=false/\(K==7)=false/\(K==4)=A):=by
      by_cases h1:K=1
      ·exact Qd h1
      ·by_cases h6:K=6
       ·exact Qc (Qd h6)
       ·by_cases h7:K=7
        ·exact Qc (Qc (Qd h7))
        ·refine Qc (Qc (Qc ⟨by simpa using h1,by simpa using h6,by simpa using h7,?_⟩));rw[<-ab];by_cases B:K=4
         ·rw[B];decide
         ·have:¬(K=1\/K=4\/K=6\/K=7):=fun h=>by rcases h with h|h|h|h;exact h1 h;exact B h;exact h6 h;exact h7 h
          rw[Qr this];simpa using B
     clear ab;go_upto_region 9 with fail
     rw[<-ao.o,aI.o];clear q0 q1 q2 q3 q4 q5 q6 q7 q8 kc;have aU:f<d.heap.size:=Qh i.o
     have aG:Hid ((K=1\/K=6\/K=7)->A=true):=by
      intro h;rw[<-ag.o];exact QO (by rcases h with h|h|h<;>simp[h])
     rcases aO with rfl|rfl|rfl | ⟨k1,k6,k7,k2⟩
     all_goals
      go_upto_block 2 with fail
      go_cut [9] (fun bv R=>bv=.bool A/\Below wr.heap.size wr R/\R.heap[f]?=d.heap[f]?)
      case first=>
       go_wp2_with fail;refine wp_loop_rounds 2 ?_;rw[rounds_succ];go_wp2_with fail;go_quiet (fail);go_wp2_with fail;rw[rounds_succ];go_wp2;go_meet
       first
        |exact⟨congrArg Value.bool (aG.o (by simp)).symm,⟨q.o.os,q.o.tape,q.o.output,q.o.size,q.o.block⟩,rfl⟩
        |exact⟨rfl,⟨q.o.os,q.o.tape,q.o.output,q.o.size,q.o.block⟩,rfl⟩
      case rest=>
       obtain⟨rfl,ap,aw⟩:=hcut;have t:=aw.trans i.o;have af:=I ap;clear d0 d1 d2 d3 d4 d5 d6 d7 d8 dk ap aw;have d0:=Qn t 0;have d1:=Qn t 1;have d2:=Qn t 2;have d3:=Qn t 3;have d4:=Qn t 4;have d5:=Qn t 5;have d6:=Qn t 6;have d7:=Qn t 7;have d8:=Qn t 8;have ah:Hid (A=true->_):=fun h=>of_decide_eq_true (ag.o.trans h)
       cases A with
       |false=>
        go_wp2;go_roundg (l.length - (k+1))
        case measure=>omega
        case rel=>exact⟨k+1,rfl,by omega,by go_num,(S.o.below af.o).more (Nat.le_succ k)⟩
       |true=>
        go_wp2_with fail;refine(ak.o _ af.o (by first|exact ah.o rfl|exact ah.o trivial)).mono ?_;rintro e w3 ⟨rfl,aa⟩;have aD:=I aa;have aH:=I (SD z u w3 (k+1) aa (by omega));clear aa;go_wp2_with fail;refine aH.o.mono ?_;rintro e w4 ⟨rfl,aq⟩;have aE:=I (aD.o.below aq);clear aq;go_wp2;go_roundg (l.length - (k+1))
        case measure=>omega
        case rel=>exact⟨k+1,rfl,by omega,by go_num,aE.o⟩
    ·have aR:¬(k:Int)<(l.length:Int):=by omega
     go_wp2;go_meet;exact(Fo S.o).1
  case rest=>
   have hb:=hcut;have az:=I hb;clear hb hcut;go_wp2;go_ret;exact⟨rfl,G.o.trans (az.o.mono (by rw[<-U.o];exact ay))⟩
theorem Ux.belowC{l:List OpD}(h:Ux w v l)(d:Below w.heap.size w w'):Ux w' v l:=by
 obtain⟨a,c,i,h⟩:=h;refine⟨a,c,i,fun f=>?_⟩;obtain⟨g,k,b,h⟩:=h f;exact⟨g,k,b,fun j e=>(h j e).below d⟩
theorem S1(l:List OpD)(v:Value)(w:World)(he:Env w)(h:Ux w v l)(i:∀ x∈l,U6 x)(n:l.length<=1100000000000) :
 Calls prog 5 #[v] w fun e w'=>e=.returned (.bool true)/\Below w.heap.size w w':=by
 obtain⟨b,f⟩:=QE (w.alloc (.cells #[.int .i64 4] 3));have m:=I f;have d:Hid (Below w.heap.size w b):=by show Below _ _ _;rw[f];exact Qs _
 have k:Hid (b.cell? ⟨w.heap.size,0,none⟩=some (.int .i64 4)):=by show _=_;rw[f];exact Qn (QA _ _) 0
 have HP:=I (S0 l v w.heap.size b (Ux.belowC h d.o) i n (he.below d.o) k.o);have q:=d.o.size;obtain⟨a,c,p,_⟩:=h;subst p;clear f he i;go_enter func5,ntmps5;go_wp2_with fail;rw[<-m.o];refine HP.o.mono ?_;rintro e r ⟨rfl,g⟩;have j:=I (d.o.trans (g.mono q));clear g;go_wp2;go_ret;exact⟨rfl,j.o⟩
end
section
open Go.ChangeShapes Go.WideShapes Go.ChangeAt Go.WideMaps Go.WideElems Go.RowKit
open Go.ChangeMaps (open_string shut_string)
theorem S2:laidOutB prog=true:=by kernel_rfl
theorem S3(os:Os)(N:os.Started)(H:Type)(enc:TypeId×Value->H) :
 ReturnsInHanded {} Tryz.checked os 5 .any (fun w args=>(Rows.codedSpec.pre enc prog Tryz.f5 [] false w args/\laidMetH prog GK w)/\sizedMet enc prog Tryz.f5 (OpenSpec.ofChange Rows.codedSpec) false w args)
  (Rows.codedSpec.post enc prog Tryz.f5 false true false false):=by
 refine OZ (C:=Tryz.checked) (X:=fun w _=>laidMetH prog GK w) (fun _ _ _ D h=>h.of_heap D) Tryz.own N (by kernel_rfl) func5
  (ChangeSpec.witness_shaped (enc:=enc) (C:=Tryz.checked) (os:=os) (X:=fun w _=>laidMetH prog GK w) false (World.doorLaid prog 400 os) #[.slice none 0 0] 8 rfl (World.shaped_of_RefB (by kernel_rfl) (by kernel_rfl)) (by kernel_rfl) (by kernel_rfl) (by kernel_rfl) (OY os _)) ?_
 intro W u args y R Q L m M A K;have r:∀(j:Nat) t v,Tryz.f5.params[j]?=some t->args[j]?=some v->Value.okWide prog W .any u t v:=L;have n:=m;obtain⟨p,q,z,B,rfl,S,U⟩:=m;have g:DataW.TrodAll enc prog W 0 (fun _=>true) true Tryz.f5.params.toList args.toList y p:=z;rw[Tryz.params5]at g r;obtain⟨s,a,rfl,rfl,f⟩:=trodAll_one g;obtain⟨rfl,rfl⟩:=trodVars_none B;have G:∀ x∈p,x.block<W.heap.size:=fun x c=>n.lt x (by simp[c])
 obtain⟨l,F,J,T⟩:=Pb (r 0 22 s rfl rfl) f (fun k E=>of_decide_eq_true (List.all_eq_true.1 M k (DataW.weights_mem_each (j:=0) (t:=22) (d:=a) rfl rfl k E)));have i:=OX A;have b:Rows.codedSpec.fn H ([a]++[])={ results:=[.lit (.bool true)],args:=[a] }:=by simp[Rows.codedSpec]
 refine(S1 l s W ⟨O0 K,i.1,i.2⟩ F J (by omega)).mono fun e P ⟨he,o⟩=>?_
 subst he;refine⟨_,rfl,_,_,_,[],p,[],n,?_,?_,?_,o.frame _,fun h=>by cases h⟩
 ·rw[b];exact trodAll_mk1 (shut_bool underlying4 true)
 ·rw[b];exact trodAll_mk1 (Below.trod S2 (by kernel_rfl) (by rw[Tryz.tyCount];decide) f o (fun x c=>G x (by simpa using c)))
 ·rw[b];rfl
end
section
open Go
theorem S4:(Tryz.f5).isInstance prog Rows.codedRow.origin Rows.codedRow.targs:=of_decide_eq_true (by kernel_rfl)
theorem S5:(Tryz.f5).isWrapper prog Rows.codedRow.wrapper Rows.codedRow.mainSum:=by
 unfold Func.isWrapper
 first
  |(rw[if_pos (by decide +kernel)];kernel_rfl)
  |(rw[if_neg (by decide +kernel)];exact⟨rfl,rfl⟩)
theorem S6:Rows.CodedSaid:=
 OpenClaim.holds_of_wide 5 Tryz.f5 rfl rfl rfl rfl rfl rfl rfl ⟨rfl,rfl,rfl,rfl,rfl⟩ rfl rfl rfl rfl rfl Fp func5 S7
  S4 S5 (fun os started H enc _=>S3 os started H enc)
theorem S8:∀(j:Nat) (t:TypeId),(Tryz.f5).params[j]?=some t->prog.wantsStandIn t=false:=fun j t ht=>by
 rw[Tryz.params5]at ht
 have a:t∈[22]:=by
  have:=List.mem_of_getElem? (l:=[22]) (by simpa using ht);exact this
 simp only[List.mem_cons,List.not_mem_nil,or_false]at a;subst a;exact(show prog.wantsStandIn 22=false by kernel_rfl)
theorem S9:Rows.codedRow.wfByText (OpenSpec.ofChange Rows.codedSpec)=true:=by kernel_rfl
theorem Ta:Tryz.pinned.checked.prog.mainIs=some (true, "f92bcb6c8891d389d7e26fd120d8b9519b3e2ba37a68b58703642a3997de0636".toList):=by kernel_rfl
theorem Tb:true=Tryz.pinned.checked.prog.looks []:=by kernel_rfl
theorem Tc:false=Rows.codedRow.goesBy Tryz.pinned.checked.prog:=by kernel_rfl
theorem coded_card_holds:Rows.CodedCardSaid:=
 Claim7.holds_tied_plain_at .later [] [.data,.data,.data,.handle] true (true, "f92bcb6c8891d389d7e26fd120d8b9519b3e2ba37a68b58703642a3997de0636") true
  S6 (fun _ h=>by cases h) S9 (fun _ h=>by cases h) coded_row_tie rfl ⟨rfl,rfl⟩ Ta rfl
  (fun f fn hf hfn=>by
    obtain rfl:f=5:=(Option.some.inj (Fp.symm.trans hf)).symm;obtain rfl:fn=Tryz.f5:=(Option.some.inj (func5.symm.trans hfn)).symm
    exact ⟨Tb,S8⟩)
  Tc
end
end Go.Proofs.YtgnkjijocdmniaaGreatDoor
