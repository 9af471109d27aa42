import Derived.Laws.AppendOwnNone
import Derived.Test.YtgnkjijocdmniaaGreatDoorZVAsks
import Derived.Test.YtgnkjijocdmniaaGreatDoorZVSet
namespace Go.Proofs.YtgnkjijocdmniaaGreatDoor
set_option linter.unusedVariables false
set_option linter.unusedSimpArgs false
set_option maxRecDepth 100000
set_option maxHeartbeats 4000000
open Go.Proofs.Tryz
open Go.RowKit
attribute [local go_sem ↓] Go.wp_at_zero Go.wp_at_succ
variable{B base c g j k n q rb sb size:Nat}{M:Msg}{P:Nat->Obj->Prop}{W u w w':World}{X:Nat->Prop}{a:Option Addr}{b f sv v:Value}{e:TypeId}{kind p:Int}{l:List (Int×L8)}{o:Obj}{r:Int×List (Int×L8)}{s:SS}{st:List Bool}{xs:List Value}{z:StV}
def Vt(i:Ins)(a1 a2:Option Addr)(c1 c2 pc n k:Nat)(w:World):Prop:=
 Calls prog 47 #[Zh i (.slice a1 i.a.length c1) (.slice a2 i.b.length c2),.int .i64 pc,.int .i64 n,.int .i64 k] w fun e w'=>e=.returned (.bool (soundB i pc n k))/\Below w.heap.size w w'
theorem OF(i:Ins)(d e:Option Addr)(f g pc n k:Nat)(w:World)(q:pc<n)(p:n<=1000000000)(m:k<=100)(h:1<=i.op/\i.op<=14):Vt i d e f g pc n k w:=by
 have c:Hid (∀ o,Below w.heap.size w (w.alloc o)):=fun o=>Qp o
 rcases(by omega:i.op=1\/i.op=2\/i.op=3\/i.op=4\/i.op=5\/i.op=6\/i.op=7\/i.op=8\/i.op=9\/i.op=10\/i.op=11\/i.op=12\/i.op=13\/i.op=14)with ho|ho|ho|ho|ho|ho|ho|ho|ho|ho|ho|ho|ho|ho
 all_goals clear h
 all_goals unfold Vt
 all_goals first
  |rw[show soundB i pc n k=(((decide (i.n=0) || decide (i.n=1))&&decide (k<8)))from by unfold soundB;rw[ho];rfl]
  |rw[show soundB i pc n k=((decide (0<k)))from by unfold soundB;rw[ho];rfl]
  |rw[show soundB i pc n k=((decide (0<=i.n)&&decide (i.n<=(n:Int) - pc - 1)))from by unfold soundB;rw[ho];rfl]
  |rw[show soundB i pc n k=((decide (0<k)&&decide (0<=i.n)&&decide (i.n<=(n:Int) - pc - 1)))from by unfold soundB;rw[ho];rfl]
  |rw[show soundB i pc n k=((decide (1<=i.tag)&&decide (i.tag<=3)&&decide (k<8)))from by unfold soundB;rw[ho];rfl]
  |rw[show soundB i pc n k=((decide (k<8)))from by unfold soundB;rw[ho];rfl]
  |rw[show soundB i pc n k=(((decide (i.tag=1) || decide (i.tag=2))&&decide (k<8)))from by unfold soundB;rw[ho];rfl]
  |rw[show soundB i pc n k=((decide (i.tag=1) || (decide (2<=i.tag)&&decide (i.tag<=4)&&decide (0<i.a.length))))from by unfold soundB;rw[ho];rfl]
  |rw[show soundB i pc n k=((decide (0<=i.tag)&&decide (i.tag<=3)&&decide (0<i.a.length)&&decide (0<i.b.length)))from by unfold soundB;rw[ho];rfl]
  |rw[show soundB i pc n k=((true))from by unfold soundB;rw[ho];rfl]
 all_goals as_aux_lemma=>
  unfold Zh;rw[ho];clear ho;obtain⟨t,r,j,s,a,b,l⟩:=i;dsimp only;go_enter func47,ntmps47;go_wp2
  all_goals go_ret
  all_goals refine⟨?_,c.o _⟩
  all_goals first|rfl|(simp;done)|(simp;omega)|(simp_all;done)|(show Ending.returned (Value.bool (j==1))=_;congr 2;rw[Zo];simp;omega)|(simp_all;omega)
theorem O2(i:Ins)(d f:Option Addr)(g j pc n k:Nat)(w:World)(a:∀ o:Int,1<=o->o<=14->(i.op==o)=false):Vt i d f g j pc n k w:=by
 unfold Vt
 have b:Hid (soundB i pc n k=false):=by
  have h:∀ o:Int,1<=o->o<=14->¬ i.op=o:=fun o l m e=>by have:=a o l m;simp at this;exact this e
  have:=h 1 (by decide) (by decide);have:=h 2 (by decide) (by decide);have:=h 3 (by decide) (by decide);have:=h 4 (by decide) (by decide);have:=h 5 (by decide) (by decide);have:=h 6 (by decide) (by decide);have:=h 7 (by decide) (by decide);have:=h 8 (by decide) (by decide);have:=h 9 (by decide) (by decide);have:=h 10 (by decide) (by decide);have:=h 11 (by decide) (by decide);have:=h 12 (by decide) (by decide);have:=h 13 (by decide) (by decide);have:=h 14 (by decide) (by decide);show _=_
  unfold soundB;rw[if_neg (by omega),if_neg (by omega),if_neg (by omega),if_neg (by omega),if_neg (by omega),if_neg (by omega),if_neg (by omega),if_neg (by omega),if_neg (by omega)];simp;omega
 have c:Hid (∀ o,Below w.heap.size w (w.alloc o)):=fun o=>Qp o
 have p:=a 1 (by decide) (by decide);have v:=a 2 (by decide) (by decide);have x:=a 3 (by decide) (by decide);have y:=a 4 (by decide) (by decide);have z:=a 5 (by decide) (by decide);have A:=a 6 (by decide) (by decide);have B:=a 7 (by decide) (by decide);have C:=a 8 (by decide) (by decide);have D:=a 9 (by decide) (by decide);have q:=a 10 (by decide) (by decide);have r:=a 11 (by decide) (by decide);have s:=a 12 (by decide) (by decide);have t:=a 13 (by decide) (by decide);have u:=a 14 (by decide) (by decide);unfold Zh;rw[b.o];clear a b;go_enter func47,ntmps47;go_wp2;go_ret;exact⟨rfl,c.o _⟩
theorem Mo(i:Ins)(a b:Option Addr)(c d pc n k:Nat)(w:World)(g:pc<n)(f:n<=1000000000)(e:k<=100):Vt i a b c d pc n k w:=by
 by_cases h:1<=i.op/\i.op<=14
 ·exact OF i a b c d pc n k w g f e h
 ·exact O2 i a b c d pc n k w (fun o j l=>by simp;omega)
theorem T7(s:SS):expL s []=[]:=by
 unfold expL;split
 ·rw[Yq,if_neg (fun h=>h.1 rfl)]
 ·rfl
theorem Ew(met:List (Int×L8))(kind:Int)(arg:L8):addL met kind arg=if kind=2/\isBoxL arg=false then(8,met)else if kind=3/\isAddrL arg=false then(9,met)else YK met (kind,cutArg kind arg):=rfl
def Uk(B sb:Nat)(M:Msg)(s:SS)(q:Nat)(en:Bool)(pz p:Int)(r:Int×List (Int×L8))(w':World):Prop:=
 ∃ z' kp',StI w' B sb M (XE s r.2) z' q kp' (if r.1=0 then en else true) r.1 (if r.1=0 then pz else p)/\(r.1=0->kp'=false)
theorem Uk.err{a b:Bool}{c e:Int}(f:r=(e,s.met))(he:¬ e=0)(h:StI w' B sb M s z q a true e p):Uk B sb M s q b c p r w':=by
 subst f;refine⟨z,a,?_,fun d=>absurd d he⟩;show StI w' B sb M s z q a (if e=0 then b else true) e (if e=0 then c else p)
 rw[if_neg he,if_neg he];exact h
theorem Jh.act{a:Bool}{b:Int}(h:Jh B sb M s q false a b p r w'):Uk B sb M s q a b p r w':=by
 obtain⟨c,h⟩:=h;exact⟨c,false,h,fun _=>rfl⟩
theorem EQ(B sb:Nat)(M:Msg)(s:SS)(z:StV)(q:Nat)(n K:Bool)(Q:Int)(kind:Int)(x:L8)(p:Int)(w:World)(h:StI w B sb M s z q n K 0 Q)(hq:q<=1000000)(S:x.length<=100000)(hk:(kind=1/\x=[])\/kind=2\/kind=3\/kind=4) :
 Calls prog 49 #[.pointer (some ⟨sb,0,none⟩),.int .i64 kind,.string (sA x),.int .i64 p] w fun e w'=>e=.returned (.tuple #[])/\(Below B w w'/\KB w w')/\Uk B sb M s q K Q p (addL s.met kind (expL s x)) w':=by
 have H:=I h;have D:B<=w.heap.size:=Qs h.hB (Nat.le_of_lt h.lt);have A:=I (h.expand hq x S);have ad:=V4 s S;have af:=h.lt;have l:=I (Ew s.met kind (expL s x))
 have X:Hid (kind=1->expL s x=[]):=fun e=>by
  rcases hk with⟨_,S⟩|hk|hk|hk
  ·rw[S,T7]
  all_goals omega
 have ac:kind=1\/kind=2\/kind=3\/kind=4:=by
  rcases hk with⟨h,_⟩|h|h|h
  ·exact Qd h
  ·exact Qc (Qd h)
  ·exact Qc (Qc (Qd h))
  ·exact Qc (Qc (Qc h))
 clear hk;obtain⟨y,V⟩:=Qe (expL s x);rw[V]at A ad l X;rw[V];have ag:=QN y
 have Z:∀(u:World) (a:Int×L8),StI u B sb M s z q n K 0 Q->addL s.met kind y=YK s.met a->Calls prog 79 #[.pointer (some ⟨sb,0,none⟩),.agg #[.int .i64 a.1,.string (sA a.2)],.int .i64 p] (u.setCell ⟨sb,9,none⟩ (.bool false)) fun e w'=>e=.returned (.tuple #[])/\(Below B u w'/\KB u w')/\Uk B sb M s q K Q p (addL s.met kind y) w':=fun u a R he=>by
  refine(EU B sb M s z q false K Q a p _ (R.keep0 false)).mono ?_;rintro e w' ⟨h1,Y,h3⟩;refine⟨h1,⟨(((Mod.refl sb u).setCell 9 (.bool false)).below R.hB R.lt).trans Y.1,(Vm R.blk (by decide) _ _).trans Y.2⟩,?_⟩;rw[he];exact h3.act
 have G:=I Z;clear V h Z;rcases ac with rfl|rfl|rfl|rfl
 ·have e0:=X.o rfl;subst e0;have C:=Jk H.o.blk;have E:=Qu H.o.blk;go_enter func49,ntmps49;go_wp2_with fail;refine(G.o w (1,[]) H.o (by rw[l.o,if_neg (fun e=>absurd e.1 (by decide)),if_neg (fun e=>absurd e.1 (by decide))];rfl)).mono ?_;rintro e F ⟨rfl,d,f⟩;have g:=I d;have m:=I f;clear d f;go_wp2;go_end0;exact⟨rfl,g.o,m.o⟩
 ·have r:Hid (∀ u,Calls prog 77 #[.string (sA y)] u fun e w'=>e=.returned (.bool (isBoxL y))/\w'=u):=fun u=>MO (sA y) u (by omega)
  obtain⟨t,U⟩:=Qe (isBoxL y);rw[U]at r l
  cases t with
  |true=>
   go_enter func49,ntmps49;go_wp2_with fail;refine A.o.mono ?_;rintro e k ⟨rfl,b⟩;have i:=I (b.mono D);have j:=I (X5 b);have c:=I (H.o.below b);have P:=b.size;have C:=Jk c.o.blk;have E:=Qu c.o.blk;clear b;go_wp2_with fail;refine(r.o _).mono ?_;rintro e W ⟨rfl,rfl⟩;go_wp2_with fail;refine(G.o _ (2,y) c.o (by rw[l.o,if_neg (fun e=>absurd e.2 (by decide)),if_neg (fun e=>absurd e.1 (by decide))];rfl)).mono ?_;rintro e F ⟨rfl,d,f⟩;have g:=I d;have m:=I f;clear d f;go_wp2;go_end0;exact⟨rfl,⟨i.o.trans g.o.1,j.o.trans g.o.2⟩,m.o⟩
  |false=>
   go_enter func49,ntmps49;go_wp2_with fail;refine A.o.mono ?_;rintro e k ⟨rfl,b⟩;have i:=I (b.mono D);have j:=I (X5 b);have c:=I (H.o.below b);have P:=b.size;have C:=Jk c.o.blk;have E:=Qu c.o.blk;clear b;go_wp2_with fail;refine(r.o _).mono ?_;rintro e W ⟨rfl,rfl⟩;go_wp2_with fail;refine(c.o.fail 8 p).mono ?_;rintro e F ⟨rfl,L,N⟩;have J:=I L;have T:=I N;clear L N;go_wp2;refine bodyPost_ret (v:=.tuple #[]) (by simp[results,results49,go_sem]) rfl ?_;exact⟨rfl,⟨i.o.trans (J.o.below c.o.hB c.o.lt),j.o.trans (K8 J.o c.o.blk (by decide))⟩,Uk.err (by rw[l.o];simp) (by decide) T.o⟩
 ·have r:Hid (∀ u,Calls prog 78 #[.string (sA y)] u fun e w'=>e=.returned (.bool (isAddrL y))/\w'=u):=fun u=>FM y u (by omega)
  obtain⟨t,U⟩:=Qe (isAddrL y);rw[U]at r l
  cases t with
  |true=>
   go_enter func49,ntmps49;go_wp2_with fail;refine A.o.mono ?_;rintro e k ⟨rfl,b⟩;have i:=I (b.mono D);have j:=I (X5 b);have c:=I (H.o.below b);have P:=b.size;have C:=Jk c.o.blk;have E:=Qu c.o.blk;clear b;go_wp2_with fail;refine(r.o _).mono ?_;rintro e W ⟨rfl,rfl⟩;go_wp2_with fail;refine(G.o _ (3,y) c.o (by rw[l.o,if_neg (fun e=>absurd e.1 (by decide)),if_neg (fun e=>absurd e.2 (by decide))];rfl)).mono ?_;rintro e F ⟨rfl,d,f⟩;have g:=I d;have m:=I f;clear d f;go_wp2;go_end0;exact⟨rfl,⟨i.o.trans g.o.1,j.o.trans g.o.2⟩,m.o⟩
  |false=>
   go_enter func49,ntmps49;go_wp2_with fail;refine A.o.mono ?_;rintro e k ⟨rfl,b⟩;have i:=I (b.mono D);have j:=I (X5 b);have c:=I (H.o.below b);have P:=b.size;have C:=Jk c.o.blk;have E:=Qu c.o.blk;clear b;go_wp2_with fail;refine(r.o _).mono ?_;rintro e W ⟨rfl,rfl⟩;go_wp2_with fail;refine(c.o.fail 9 p).mono ?_;rintro e F ⟨rfl,L,N⟩;have J:=I L;have T:=I N;clear L N;go_wp2;refine bodyPost_ret (v:=.tuple #[]) (by simp[results,results49,go_sem]) rfl ?_;exact⟨rfl,⟨i.o.trans (J.o.below c.o.hB c.o.lt),j.o.trans (K8 J.o c.o.blk (by decide))⟩,Uk.err (by rw[l.o];rw[if_neg (fun e=>absurd e.1 (by decide))];simp) (by decide) T.o⟩
 ·by_cases h48:48<y.length
  ·have ab:(48:Int)<(y.length:Int):=by omega
   have ae:(sA y).extract 0 48=sA (y.take 48):=by rw[Jn];simp
   go_enter func49,ntmps49;go_wp2_with fail;refine A.o.mono ?_;rintro e k ⟨rfl,b⟩;have i:=I (b.mono D);have j:=I (X5 b);have c:=I (H.o.below b);have P:=b.size;have C:=Jk c.o.blk;have E:=Qu c.o.blk;clear b;go_wp2_with fail;refine(G.o _ (4,y.take 48) c.o (by rw[l.o,if_neg (fun e=>absurd e.1 (by decide)),if_neg (fun e=>absurd e.1 (by decide))];rfl)).mono ?_;rintro e F ⟨rfl,d,f⟩;have g:=I d;have m:=I f;clear d f;go_wp2;go_end0;exact⟨rfl,⟨i.o.trans g.o.1,j.o.trans g.o.2⟩,m.o⟩
  ·have ab:¬(48:Int)<(y.length:Int):=by omega
   have aa:Hid (y.take 48=y):=List.take_of_length_le (by omega);go_enter func49,ntmps49;go_wp2_with fail;refine A.o.mono ?_;rintro e k ⟨rfl,b⟩;have i:=I (b.mono D);have j:=I (X5 b);have c:=I (H.o.below b);have P:=b.size;have C:=Jk c.o.blk;have E:=Qu c.o.blk;clear b;go_wp2_with fail;refine(G.o _ (4,y) c.o (by rw[l.o,if_neg (fun e=>absurd e.1 (by decide)),if_neg (fun e=>absurd e.1 (by decide))];show YK s.met (4,y.take 48)=_;rw[aa.o])).mono ?_;rintro e F ⟨rfl,d,f⟩;have g:=I d;have m:=I f;clear d f;go_wp2;go_end0;exact⟨rfl,⟨i.o.trans g.o.1,j.o.trans g.o.2⟩,m.o⟩
def Z6(s:SS):Bool:=s.met.isEmpty && !s.disc
def RP(B sb:Nat)(M:Msg)(q:Nat)(pz:Int)(r:CR)(w':World):Prop:=
 match r with
 | .ok (t,b)=>∃ z',StI w' B sb M t z' q (Z6 t) b 0 pz
 | .error (c,p)=>¬ c=0/\∃ s' z' kp',StI w' B sb M s' z' q kp' true c p
theorem RP.more{B sb:Nat}{M:Msg}{q e:Nat}{d:Int}{r:CR}{w':World}(h:RP B sb M q d r w')(a:q<=e):RP B sb M e d r w':=by
 match r,h with
 | .ok (t,b),⟨z',h⟩=>exact⟨z',h.more a⟩
 | .error (c,p),⟨hc,s',z',kp',h⟩=>exact⟨hc,s',z',kp',h.more a⟩
def endB(r:CR):Bool:=
 match r with
 | .ok (_,b)=>b
 | .error _=>true
theorem RP.ends{a:Int}{r:CR}(h:RP B sb M q a r w'):w'.cell? ⟨sb,10,none⟩=some (.bool (endB r))/\sb<w'.heap.size/\B<=sb:=by
 match r,h with
 | .ok (t,b),⟨z',h⟩=>exact⟨Qi h.blk 10,h.lt,h.hB⟩
 | .error (c,p),⟨hc,s',z',kp',h⟩=>exact⟨Qi h.blk 10,h.lt,h.hB⟩
theorem T2{met:List (Int×L8)}{arg:L8}(h:(addL met kind arg).1=0):(addL met kind arg).2≠[]:=by
 rw[Ew]at h ⊢
 split at h
 ·cases h
 ·split at h
  ·cases h
  ·rename_i h1 h2;rw[if_neg h1,if_neg h2];unfold YK at h ⊢;by_cases hm:(kind,cutArg kind arg)∈met
   ·rw[if_pos hm];exact List.ne_nil_of_mem hm
   ·rw[if_neg hm]at h ⊢
    split at h
    ·cases h
    ·split at h
     ·cases h
     ·rename_i h3 h4;rw[if_neg h3,if_neg h4];simp
theorem RA(s:SS){m:List (Int×L8)}(h:m≠[]):Z6 (XE s m)=false:=by
 show(m.isEmpty && !s.disc)=false
 cases m with
 |nil=>exact absurd rfl h
 |cons a r=>rfl
def Yp(lv:Value)(f:Option FZ):Value:=.agg #[lv,.int .i64 ((f.getD (0,0)).1),.int .i64 ((f.getD (0,0)).2)]
def Bn(B:Nat)(w:World)(r:List (Int×L8)×Option FZ)(e:Ending)(w':World):Prop:=
 (Below B w w'/\KB w w')/\∃ lv,e=.returned (Yp lv r.2)/\w'.ownsRow B 52 2 lv r.1.length (QZ r.1)
theorem Sc(hg:B<=g)(h:W.heap[g]?=some (.cells #[.int .i64 1,.string ⟨#[]⟩] 52)):W.ownsRow B 52 2 (.slice (some ⟨g,0,none⟩) 1 1) 1 (QZ [(1,[])]):=
 ⟨rfl,Qc ⟨g,1,#[.int .i64 1,.string (sA [])],rfl,hg,h,Nat.le_refl _,by decide,rfl,rfl⟩⟩
theorem RX:YK [] ((1:Int),([]:L8))=(0,[(1,[])]):=by decide
theorem LO(B sb:Nat)(M:Msg)(s:SS)(z:StV)(q:Nat)(b:Bool)(c p:Int)(w:World)(h:StI w B sb M s z q b true c p)(a:¬ c=0) :
 Calls prog 51 #[.pointer (some ⟨sb,0,none⟩)] w (Bn B w ([(1,[])],some (c,p))):=by
 have e:=Gu h.blk;have f:=NA h.blk;have k:=h.lt;have g:=h.hB;have i:(c != 0)=true:=by simpa using a
 have j:(c==0)=false:=by simpa using a
 have d:=I a;clear a h;go_enter func51,ntmps51;go_wp2;go_region;go_wp2;refine bodyPost_ret (v:=Yp (.slice (some ⟨w.heap.size+1,0,none⟩) 1 1) (some (c,p))) (by simp[results,results51,go_sem,Yp]) rfl ?_;refine⟨⟨(((Below.refl _ _).alloc (by omega) _).alloc (by simp;omega) _).drew,X5 ((Qp _).alloc (by simp) _).drew⟩,_,rfl,?_⟩;exact Sc (by omega) (Q5 (by simp))
theorem Mu(B sb:Nat)(M:Msg)(s:SS)(z:StV)(q:Nat)(p:Bool)(c:Int)(w:World)(h:StI w B sb M s z q (Z6 s) p 0 c) :
 Calls prog 51 #[.pointer (some ⟨sb,0,none⟩)] w (Bn B w (YX s,none)):=by
 have ae:=Gu h.blk;have J:=Jk h.blk;have af:=NA h.blk;have T:=JG h.blk;have ai:=h.lt;have hB:=h.hB;have H:=I h;obtain⟨la,lc,x⟩:=QQ h.a;have Q:=I x;rw[x]at T;clear h x
 cases b:Z6 s with
 |false=>
  rw[b]at J
  have m:Hid (YX s=s.met):=by
   show _=_
   unfold YX;unfold Z6 at b;rw[if_neg];rintro⟨X,Y⟩;rw[X,Y]at b;cases b
  clear b;go_enter func51,ntmps51;go_wp2;refine bodyPost_ret (v:=Yp (.slice la s.met.length lc) none) (by simp[results,results51,go_sem,Yp]) rfl ?_;refine⟨⟨(Below.refl _ _).alloc (by omega) _,X5 (Qp _)⟩,_,rfl,?_⟩;rw[m.o,<-Q.o];exact H.o.a.alloc _
 |true=>
  rw[b]at J
  have u:s.met=[]/\s.disc=false:=by
   unfold Z6 at b;rw[Bool.and_eq_true]at b;exact⟨List.isEmpty_iff.1 b.1,by simpa using b.2⟩
  have m:Hid (YX s=[(1,[])]):=by
   show _=_
   unfold YX;rw[if_pos u]
  have R:Hid (s.met=[]):=u.1
  have S:Hid (∀ W,Below w.heap.size w W->Calls prog 79 #[.pointer (some ⟨sb,0,none⟩),.agg #[.int .i64 1,.string ⟨#[]⟩],.int .i64 c] W fun e C=>e=.returned (.tuple #[])/\(Below B W C/\KB W C)/\Jh B sb M s q true p c c (0,[(1,[])]) C):=by
   intro W hW;have K:=H.o.below hW;rw[b]at K;have:=EU B sb M s z q true p c (1,[]) c W K;rw[R.o,RX]at this;exact this
  have n:Hid (∀ o,Below w.heap.size w (w.alloc o)):=fun o=>Qp o
  clear b u;go_enter func51,ntmps51;go_wp2_with (first|(go_at_call 79;refine(S.o _ (n.o _)).mono ?_;rintro e D ⟨rfl,i,ad⟩;obtain⟨E,g⟩:=ad;have G:=I g;have L:=I (((n.o _).mono (by omega)).trans i.1);have N:=I ((X5 (n.o _)).trans i.2);have d:=i.2 w.heap.size _ _ (QC _ _) (by decide);have F:=I d;have r0:=Qi d 0;have r1:=Qi d 1;have r2:=Qi d 2;have rf:=Qu d;have ag:=Gu g.blk;have Z:=JG g.blk;obtain⟨j,l,y⟩:=QQ g.a;have P:=I y;rw[y]at Z;clear i g y d;skip));obtain⟨U,f⟩:=QF ((((D.setCell ⟨w.heap.size,0,none⟩ (.slice j (XE s [(1,[])]).met.length l)).setCell ⟨w.heap.size,1,none⟩ (.int .i64 0)).setCell ⟨w.heap.size,2,none⟩ (.int .i64 0)));rw[<-f];have r:U.heap[w.heap.size]?=some (.cells #[.slice j (XE s [(1,[])]).met.length l,.int .i64 0,.int .i64 0] 70):=by rw[f];exact Qt _ _ _ _ _ _ (Qt _ _ _ _ _ _ (Qt _ _ _ _ _ _ F.o))
  have y0:=Qk r;have y1:=Qr r;have y2:=QJ r;have ab:Below B w U:=by rw[f];exact((L.o.setCell (by show B<=w.heap.size;omega) _).setCell (by show B<=w.heap.size;omega) _).setCell (by show B<=w.heap.size;omega) _
  have A:E.av.ownBlock≠some w.heap.size:=ZF G.o.a F.o (by decide);have aa:U.ownsRow B 52 2 E.av (XE s [(1,[])]).met.length (QZ (XE s [(1,[])]).met):=by rw[f];exact ZY (ZY (ZY G.o.a A) A) A
  refine bodyPost_ret (v:=Yp (.slice j (XE s [(1,[])]).met.length l) none) (by simp[results,results51,go_sem,Yp,y0,y1,y2]) rfl ?_
  have ac:KB w U:=fun k V t b ht=>by
   have ah:=Qg b;rw[f,QK (show k≠w.heap.size by omega),QK (show k≠w.heap.size by omega),QK (show k≠w.heap.size by omega)];exact N.o k V t b ht
  refine⟨⟨ab,ac⟩,_,rfl,?_⟩;rw[m.o,<-P.o];exact aa
theorem RP.len{a:Int}{r:CR}(h:RP B sb M q a r w):(Y1 r).1.length<=7:=by
 match r,h with
 | .ok (t,b),⟨z',h⟩=>
  have:=h.six;show(YX t).length<=7
  unfold YX;split
  ·exact Nat.le_add_left 1 6
  ·omega
 | .error (c,p),_=>exact Nat.le_add_left 1 6
theorem Cv(B sb:Nat)(M:Msg)(q:Nat)(a:Int)(r:CR)(w:World)(h:RP B sb M q a r w) :
 Calls prog 51 #[.pointer (some ⟨sb,0,none⟩)] w (Bn B w (Y1 r)):=by
 match r,h with
 | .ok (t,b),⟨z',h⟩=>exact Mu B sb M t z' q b a w h
 | .error (c,p),⟨hc,s',z',kp',h⟩=>exact LO B sb M s' z' q kp' c p w h hc
def Ui(w:World)(g o:Nat)(i:Ins)(av bv:Value):Prop:=
 w.cell? ⟨g,o,none⟩=some (.int .i64 i.op)/\w.cell? ⟨g,o+1,none⟩=some (.int .i64 i.n)/\w.cell? ⟨g,o+2,none⟩=some (.int .i64 i.tag)/\w.cell? ⟨g,o+3,none⟩=some (.bool i.oct)/\w.cell? ⟨g,o+4,none⟩=some av/\w.cell? ⟨g,o+5,none⟩=some bv/\w.cell? ⟨g,o+6,none⟩=some (.int .i64 i.at_)
def UX(w:World)(v:Value)(ops:List Ins):Prop:=∃ a c,v=.slice a ops.length c/\∀ j (hj:j<ops.length),∃ g off av bv,a=some ⟨g,off,none⟩/\Ui w g (off+j*7) ops[j] av bv/\Vz w ops[j] av bv
def UZ(M:Msg)(hv:Value):Value:=.agg #[.string (sA M.fr),.string (sA M.to),.int .i64 M.size,hv]
def HdR(w:World)(M:Msg)(hv:Value):Prop:=HdB w w.heap.size M hv
theorem StI.new{c:Value}(v:Bool)(d:Below w.heap.size w W)(i:w.heap.size<=sb)(e:SB W sb M.fr M.to M.size c v (.slice none 0 0) (.slice none 0 0) (.slice none 0 0) (.slice none 0 0) true false 0 0)(f:HdR w M c)(g:KR M):StI W w.heap.size sb M (ss0 v) ⟨c,.slice none 0 0,.slice none 0 0,.slice none 0 0,.slice none 0 0,[],[]⟩ 0 true false 0 0:=by
 refine⟨i,e,Zj,Zj,Zj,(fun _=>Qd ⟨rfl,rfl⟩),(fun _=>rfl),(fun k a=>nomatch a),(fun k a=>nomatch a),(fun k a=>nomatch a),rfl,Nat.le_refl _,(fun x=>rfl),?_,g,(fun t b=>nomatch b),(fun t b=>nomatch b),(fun t b=>nomatch b),QE⟩;exact HdB.below f d
def ExR(x:Except FZ MS×Nat)(r:CR)(d:Nat):Prop:=
 x.2=d/\match x.1 with
  | .error e=>r=.error e
  | .ok m=>∃ b,r=.ok (m.st,b)
def ExI(B sb:Nat)(M:Msg)(ops:List Ins)(v:Bool)(sv:Value)(d pc:Nat)(wr:World):Prop:=
 (∃ s st now f z,StI wr B sb M s z d (Z6 s) false 0 0/\st.length<=8/\wr.ownsRow B 4 1 sv st.length (st.map Value.bool)/\ops.length - pc<=f/\Xh M ops ops.length (ms0 v) 0=Xh M ops f ⟨s,st,now,pc⟩ d)\/
 (∃ r,endB r=true/\RP B sb M d 0 r wr/\ExR (Xh M ops ops.length (ms0 v) 0) r d)
def RBk(rb:Nat)(w:World):Prop:=w.heap[rb]?=some (.cells #[.slice none 0 0,.int .i64 0,.int .i64 0] 70)
theorem RBk.below(h:RBk rb w)(hb:Below w.heap.size w w'):RBk rb w':=QP h hb
theorem RBk.kb(h:RBk rb w)(hb:KB w w'):RBk rb w':=hb rb _ _ h (by decide)
def ZJ(B sb rb:Nat)(M:Msg)(n:Nat)(i:Ins)(s:SS)(st:List Bool)(pc d:Nat)(sv nv:Value)(wr wx:World):Prop:=
 Below B wr wx/\RBk rb wx/\
 ((∃ s' st' pc' z',nv=.int .i64 (pc':Nat)∧stepL M n i ⟨s,st,pc,pc+1⟩=.ok ⟨s',st',pc,pc'⟩∧pc+1<=pc'∧pc'<=n∧StI wx B sb M s' z' (d+1) (Z6 s') false 0 0∧st'.length<=8∧wx.ownsRow B 4 1 sv st'.length (st'.map Value.bool))∨
  (∃ r,nv=.int .i64 ((pc+1:Nat):Int)∧endB r=true∧RP B sb M (d+1) 0 r wx∧((∃ e,stepL M n i ⟨s,st,pc,pc+1⟩=.error e∧r=.error e)∨(stepL M n i ⟨s,st,pc,pc+1⟩=.ok ⟨s,st,pc,n⟩∧r=.ok (s,true)))))
theorem ZJ.next{a:List Ins}{v:Bool}{pc d u f:Nat}{nv:Value}{wr wx:World}(j:pc<a.length)(z:a.length - pc<=f)(b:Xh M a a.length (ms0 v) 0=Xh M a f ⟨s,st,u,pc⟩ d)(h:ZJ B sb rb M a.length a[pc] s st pc d sv nv wr wx) :
 ∃ pc':Nat,nv=.int .i64 pc'/\pc+1<=pc'/\pc'<=a.length/\ExI B sb M a v sv (d+1) pc' wx:=by
 obtain⟨g,rfl⟩:∃ g,f=g+1:=⟨f - 1,by omega⟩;rw[Dk j]at b;rcases h.2.2 with⟨w,x,pc',y,i,c,k,l,p,n,q⟩ | ⟨r,i,he,o,t⟩
 ·rw[c]at b;exact⟨pc',i,k,l,Qd ⟨w,x,pc,g,y,p,n,q,by omega,b⟩⟩
 ·refine⟨pc+1,i,Nat.le_refl _,j,Qc ⟨r,he,o,?_⟩⟩;rcases t with⟨e,c,rfl⟩ | ⟨c,rfl⟩
  ·rw[c]at b;rw[b];exact⟨rfl,rfl⟩
  ·rw[c]at b;dsimp only at b;rw[D5 (m:=⟨s,st,pc,a.length⟩) Ql]at b;rw[b];exact⟨rfl,true,rfl⟩
theorem R5(h:w.ownsRow B e 1 (.slice (some ⟨g,0,none⟩) n c) n xs)(k:Nat)(q:k<=n):w.ownsRow B e 1 (.slice (some ⟨g,0,none⟩) k c) k (xs.take k):=by
 refine⟨by rw[List.length_take,h.1];omega,?_⟩;rcases h.2 with⟨a,_⟩ | ⟨p,o,b,m,j,l,a,d,f,i⟩
 ·cases a
 ·injection m with e1 e2 e3
  injection e1 with e1
  injection e1 with e1
  subst e1;subst e3;refine Qc ⟨g,c,b,rfl,j,l,by omega,d,f,?_⟩;rw[<-i,List.take_take];congr 1;omega
theorem ID(t:List Bool)(b a:Bool):((t++[b]).map Value.bool).set t.length (.bool a)=(t++[a]).map Value.bool:=by
 rw[<-List.map_set];congr 1;rw[List.set_append_right _ _ Ql];simp
theorem Hg(t:List Bool)(b:Bool):((t++[b]).map Value.bool).take t.length=t.map Value.bool:=by
 rw[<-List.map_take,List.take_left]
theorem Vl(h:w.ownsRow B 4 1 sv st.length (st.map Value.bool))(f:KB w w'):w'.ownsRow B 4 1 sv st.length (st.map Value.bool):=by
 refine⟨h.1,?_⟩;rcases h.2 with c | ⟨g,b,a,i,d,e,r⟩
 ·exact Qd c
 ·exact Qc ⟨g,b,a,i,d,f g a _ e (by decide),r⟩
theorem I5{t:SS}(h:Bj s t):Z6 t=Z6 s:=by
 unfold Z6;rw[h.1,h.2]
theorem OS(M:Msg)(i:Ins)(s:SS):Bj s (askE M i s).2:=by
 unfold askE;split
 ·exact Ae _ _ _ _ _
 ·split
  ·exact Ae _ _ _ _ _
  ·split
   ·exact Ae _ _ _ _ _
   ·split
    ·exact⟨rfl,rfl⟩
    ·exact⟨rfl,rfl⟩
theorem Tk{v:Bool}{f:List Ins}{r:CR}{d:Nat}(g:f.length<=400)(h:ExR (Xh M f f.length (ms0 v) 0) r d):execL v f M=((Y1 r).1,d,(Y1 r).2):=by
 unfold execL;rw[if_neg (by omega)];obtain⟨a,c⟩:=h
 match hx:Xh M f f.length (ms0 v) 0 with
 |(.error e,d')=>
  rw[hx]at a c;dsimp only at a c;subst a;subst c;rfl
 |(.ok m,d')=>
  rw[hx]at a c;dsimp only at a c;obtain⟨b,rfl⟩:=c;subst a;rfl
theorem U7(h:w.ownsRow base e size v n xs)(a:v.ownBlock=some k):∃ cs,w.heap[k]?=some (.cells cs e):=by
 rcases h.2 with⟨c,_⟩ | ⟨g,i,b,f,_,d,_⟩
 ·rw[c]at a;cases a
 ·rw[f]at a;have:g=k:=by simpa[Value.ownBlock]using a
  exact⟨b,by rw[<-this];exact d⟩
def Ue(w w':World):Prop:=∀(k:Nat) (cs:Array Value) (t:TypeId),w.heap[k]?=some (.cells cs t)->t≠4->w'.heap[k]?=w.heap[k]?
theorem Ue.owns(c:Ue w w')(h:w.ownsRow base e size v n xs)(he:e≠4):w'.ownsRow base e size v n xs:=JW h fun k hk'=>by
 obtain⟨a,b⟩:=U7 h hk';exact c k a e b he
theorem Ue.sti(b:Ue w w'){B':Nat}(r:Below B' w w'){m i:Bool}{j o:Int}(p:B'=B)(h:StI w B sb M s z q m i j o):StI w' B sb M s z q m i j o:=by
 subst p;refine⟨h.hB,(b sb _ _ h.blk (by decide)).trans h.blk,b.owns h.n (by decide),b.owns h.v (by decide),b.owns h.a (by decide),fun e=>(h.c e).of fun k g=>?_,h.c0,h.cap,fun k g=>?_,h.nvv,h.l,h.nl,h.vals,h.h.below r,h.mb,h.vb,h.tb,h.alone,h.six⟩
 ·obtain⟨d,f⟩:=h.capt k g;exact b k d _ f (by decide)
 ·obtain⟨d,f⟩:=h.capt k g;exact Y5 ⟨d,f⟩ (b k d _ f (by decide))
theorem Ue.rbk(hk:Ue w w')(h:RBk rb w):RBk rb w':=(hk rb _ _ h (by decide)).trans h
theorem IL{a:World}(h:w.ownsRow B 4 1 sv n xs)(hg:(w.alloc o).grownBy a sv.ownBlock):Ue w a:=fun k cs t hk ht=>by
 have b:=Qg hk
 rw [hg.block k (by simp;omega) (fun e=>by
  obtain⟨c,hc⟩:=U7 h e.symm;rw[hk]at hc;injection hc with hc
  injection hc with _ hc
  exact ht hc)]
 exact Below.heap_alloc _ _ _ b
theorem Pp   {cs0:Array Value} (h:w.heap[g]?=some (.cells cs0 4)) (o:Nat) (x:Value):Ue w (w.setCell ⟨g,o,none⟩ x):=fun k cs t hk ht=>QK (fun e=>by
 have a:k=g:=e;rw[a,h]at hk;injection hk with hk
 injection hk with _ hk
 exact ht hk.symm)
theorem Pu(h:w.ownsRow base e size (.slice a n c) n xs):n<=c:=by
 rcases h.2 with⟨h,i⟩ | ⟨g,d,f,b,_,_,j⟩
 ·omega
 ·injection b with _ _ hc
  subst hc;omega
section
variable {B sb rb:Nat} {M:Msg} {n:Nat} {i:Ins} {s s':SS} {st:List Bool} {pc d:Nat} {sv nv:Value} {wr wx w5:World} {z:StV}
theorem ZJ.same{pc':Nat}(hb:Below B wr wx)(hr:RBk rb wx)(hn:nv=.int .i64 (pc':Nat))(hst:stepL M n i ⟨s,st,pc,pc+1⟩=.ok ⟨s',st,pc,pc'⟩)(h1:pc+1<=pc')(h2:pc'<=n)(hS:StI wx B sb M s' z (d+1) (Z6 s') false 0 0)(h8:st.length<=8)(ho:wx.ownsRow B 4 1 sv st.length (st.map Value.bool)):ZJ B sb rb M n i s st pc d sv nv wr wx:=⟨hb,hr,Qd ⟨s',st,pc',z,hn,hst,h1,h2,hS,h8,ho⟩⟩
theorem ZJ.push{b:Bool}{j:Value}(q:Below B wr wx)(u:RBk rb wx)(t:nv=.int .i64 ((pc+1:Nat):Int))(v:stepL M n i ⟨s,st,pc,pc+1⟩=.ok ⟨s',st++[b],pc,pc+1⟩)(l:pc<n)(a:StI wx B sb M s' z d (Z6 s') false 0 0)(w:st.length<8)(f:wx.ownsRow B 4 1 sv st.length (st.map Value.bool))(e:(wx.alloc o).grownBy w5 sv.ownBlock)(m:w5.ownsRow B 4 1 j (st.length+1) (st.map Value.bool++[.bool b])):ZJ B sb rb M n i s st pc d j nv wr w5:=by
 have p:B<=wx.heap.size:=Qs a.hB (Nat.le_of_lt a.lt);have g:=IL f e;have c:Below B wx w5:=JI (Below.refl B wx) p e (fun k r=>(f.lt k r).1);refine⟨q.trans c,g.rbk u,Qd ⟨s',st++[b],pc+1,z,t,v,Nat.le_refl _,l,(g.sti c rfl a).more (Nat.le_succ _),by rw[Ze];simp;omega,?_⟩⟩;rw[Ze,List.map_append];exact m
theorem G5{a:Nat}(h:st.length=a+1)(x:Bool):(st.map Value.bool).set a (.bool x)=(st.dropLast++[x]).map Value.bool/\(st.dropLast++[x]).length=a+1/\st[a]?=some (st.getLastD false)/\(st.map Value.bool).take a=st.dropLast.map Value.bool/\st.dropLast.length=a:=by
 rcases List.eq_nil_or_concat st with rfl | ⟨t,b,rfl⟩
 ·cases h
 ·rw[List.concat_eq_append]at h ⊢;have c:t.length=a:=by simpa using h
  subst c;refine⟨?_,by simp,by simp,?_,by simp⟩
  ·rw[List.dropLast_concat];exact ID t b x
  ·rw[List.dropLast_concat];exact Hg t b
theorem ZJ.not{a:Nat}(p:Below B wr wx)(u:RBk rb wx)(r:nv=.int .i64 ((pc+1:Nat):Int))(v:stepL M n i ⟨s,st,pc,pc+1⟩=.ok ⟨s,st.dropLast++[!st.getLastD false],pc,pc+1⟩)(m:pc<n)(o:StI wx B sb M s z d (Z6 s) false 0 0)(x:st.length<=8)(t:st.length=a+1)(b:wx.ownsRow B 4 1 (.slice (some ⟨g,0,none⟩) (a+1) c) (a+1) (st.map Value.bool)):ZJ B sb rb M n i s st pc d (.slice (some ⟨g,0,none⟩) (a+1) c) nv wr (wx.setCell ⟨g,a,none⟩ (.bool (!st.getLastD false))):=by
 obtain⟨w,q⟩:=U7 b (k:=g) rfl;have j:=Pp q a (.bool (!st.getLastD false));have f:Below B wx (wx.setCell ⟨g,a,none⟩ (.bool (!st.getLastD false))):=(Below.refl _ _).setCell (b.lt g rfl).1 _;obtain⟨l,e,_⟩:=G5 t (!st.getLastD false);refine⟨p.trans f,j.rbk u,Qd ⟨s,_,pc+1,z,r,v,Nat.le_refl _,m,(j.sti f rfl o).more (Nat.le_succ _),by rw[e];omega,?_⟩⟩;rw[e,<-l];exact Ex b a _
theorem ZJ.pop{a g c pc':Nat}(l:Below B wr wx)(q:RBk rb wx)(m:nv=.int .i64 (pc':Nat))(r:stepL M n i ⟨s,st,pc,pc+1⟩=.ok ⟨s,st.dropLast,pc,pc'⟩)(f:pc+1<=pc')(j:pc'<=n)(k:StI wx B sb M s z d (Z6 s) false 0 0)(t:st.length<=8)(o:st.length=a+1)(p:wx.ownsRow B 4 1 (.slice (some ⟨g,0,none⟩) (a+1) c) (a+1) (st.map Value.bool)):ZJ B sb rb M n i s st pc d (.slice (some ⟨g,0,none⟩) a c) nv wr wx:=by
 obtain⟨_,_,_,e,b⟩:=G5 o true;refine⟨l,q,Qd ⟨s,_,pc',z,m,r,f,j,k.more (Nat.le_succ _),by rw[b];omega,?_⟩⟩;rw[b,<-e];exact R5 p a (Nat.le_succ _)
theorem ZJ.stop(hb:Below B wr wx)(hr:RBk rb wx)(hn:nv=.int .i64 ((pc+1:Nat):Int))(hst:stepL M n i ⟨s,st,pc,pc+1⟩=.ok ⟨s,st,pc,n⟩)(hS:StI wx B sb M s z d (Z6 s) true 0 0):ZJ B sb rb M n i s st pc d sv nv wr wx:=⟨hb,hr,Qc ⟨.ok (s,true),hn,rfl,⟨z,hS.more (Nat.le_succ _)⟩,Qc ⟨hst,rfl⟩⟩⟩
theorem ZJ.act{y:L8}(c:Below B wr wx)(f:RBk rb wx)(e:nv=.int .i64 ((pc+1:Nat):Int))(b:stepL M n i ⟨s,st,pc,pc+1⟩=if(addL s.met kind y).1=0 then .ok ⟨XE s (addL s.met kind y).2,st,pc,pc+1⟩else .error ((addL s.met kind y).1,p))(j:pc<n)(m:Uk B sb M s d false 0 p (addL s.met kind y) wx)(l:st.length<=8)(o:wx.ownsRow B 4 1 sv st.length (st.map Value.bool)):ZJ B sb rb M n i s st pc d sv nv wr wx:=by
 obtain⟨g,q,a,k⟩:=m;by_cases h0:(addL s.met kind y).1=0
 ·rw[if_pos h0]at b;rw[if_pos h0,if_pos h0,h0,k h0]at a;refine ZJ.same c f e b Ql j (z:=g) ?_ l o;rw[RA s (T2 h0)];exact a.more (Nat.le_succ _)
 ·rw[if_neg h0]at b;rw[if_neg h0,if_neg h0]at a;exact⟨c,f,Qc ⟨.error ((addL s.met kind y).1,p),e,rfl,⟨h0,_,g,q,a.more (Nat.le_succ _)⟩,Qd ⟨_,b,rfl⟩⟩⟩
end
theorem NJ{w5:World}{row:Option Nat}(h:Below B w w')(hg:w'.grownBy w5 row)(hz:B<=w'.heap.size)(hr:∀ k,row=some k->B<=k):Below B w w5:=h.grown hg hz hr
theorem Lu(zs:Qa):∀ u∈Qv zs,u.oneCell'=true:=by
 intro u a;unfold Qv at a;obtain⟨x,_,rfl⟩:=List.mem_map.1 a;rfl
def roomZ(v:Value):Prop:=∀ c,v=.slice none 0 c->c=0
theorem Gy{y:Array Oper}{A:List Oper}{o:Oper}{a:Act}{Q:Exit->Act->World->Prop}(i:o.guard=none)(s x:Operand)
 (m:o.op=.call { callee:=.builtin .append,args:=#[s,x],argTypes:=#[61,61] }) (zs:Qa) (sv:Value) (n:a.eval s=.slice none 0 0) (q:a.eval x=sv) (h:TxO w sv zs/\roomZ sv) (P:zs.length<=1000000)
 (K:∀ a' k' w',w'.ownsRow w.heap.size 9 1 (.slice a' zs.length k') zs.length (Qv zs)->Below w.heap.size w w'->wpList prog y Q A (a.put o.dst (.slice a' zs.length k')) w'):wpList prog y Q (o::A) a w:=by
 obtain⟨t,l,J,L,M⟩:=info_parts Tryz.infoStr;obtain⟨⟨N,c,rfl,p⟩,F⟩:=h
 cases N with
 |none=>
  have H:zs=[]:=by
   cases zs with
   |nil=>rfl
   |cons z r=>obtain⟨g,v,e,_⟩:=p 0 (Nat.succ_pos _);cases e
  subst H;have C:=F c rfl;subst C;exact wpList_append_own_none i s x _ m w.heap.size 9 t 1 underlying61 l (.slice none 0 0) 0 [] n (Zj) q (K none 0 w (Zj) (Below.refl _ _))
 |some ad=>
  refine wpList_append_own _ i s x _ m w.heap.size 9 t _ 1 16 underlying61 l J L M rfl (by decide) (.slice none 0 0) 0 [] n (Zj) ad zs.length c (Qv zs) q (by rw[NB];omega) (fun j u b=>?_) (Lu zs) (by unfold maxLen;omega) (by omega) Ql (fun R w' f D _=>?_)
  ·have d:j<zs.length:=by rw[<-NB];exact(List.getElem?_eq_some_iff.1 b).1
   rw[Dx zs j d]at b;obtain⟨g,v,e,B⟩:=p j d;obtain rfl:ad=⟨g,v,none⟩:=Option.some.inj e;rw[Addr.add_lit,B];rw[List.getD_eq_getElem?_getD,List.getElem?_eq_getElem d]at b;exact b
  ·rw[Nat.zero_add,List.nil_append]at f;obtain⟨a',k',G⟩:=QQ f;subst G;exact K a' k' w' f (NJ (Below.refl _ _) D Ql (fun k E=>nomatch E))
structure Yl (w:World) (B:Nat) (lv:Value) (ps:List IV):Prop where
 row:w.ownsRow B 63 7 lv ps.length (ZH ps)
 ok:∀ p∈ps,ZT w p.1 p.2.1 p.2.2
 ap:Apt B ps
 nil:ps=[]->lv=.slice none 0 0
theorem Yl.ltL{e:Value}{d:List IV}(h:Yl w B e d):∀ k∈Kf d,k<w.heap.size:=fun k hk=>by
 obtain⟨p,c,hk⟩:=AT.1 hk;rcases hk with hk|hk
 ·exact(h.ok p c).a.lt hk
 ·exact(h.ok p c).b.lt hk
theorem Yl.codeP{lv:Value}{ps:List IV}(h:Yl w B lv ps):Jd w B lv (ps.map Prod.fst):=⟨ps,rfl,h.row,h.ok,h.nil,h.ap⟩
theorem Dr(h:w.ownsRow base e size (.slice a n c) n xs):n<=c:=by
 rcases h.2 with⟨h,i⟩ | ⟨g,d,f,b,_,_,j⟩
 ·omega
 ·injection b with _ _ hc
  subst hc;omega
theorem Cq(i:Ins)(a b:Option Addr)(n k m l:Nat):∀ u∈ZH [(i,.slice a n k,.slice b m l)],u.oneCell'=true:=by
 intro u c;simp[ZH,Js]at c;rcases c with rfl|rfl|rfl|rfl|rfl|rfl|rfl<;>rfl
theorem Ds(w:World)(i:Ins){a:Value}{x:Value}:∀ j u,(ZH [(i,a,b)])[j]?=some u->((w.setCell ⟨c,5,none⟩ x).alloc (.cells #[.int .i64 i.op,.int .i64 i.n,.int .i64 i.tag,.bool i.oct,a,b,.int .i64 i.at_] 63)).cell? ((⟨w.heap.size,0,none⟩:Addr).add j)=some u:=by
 intro j u d;rw[Ys,Qi (show((w.setCell ⟨c,5,none⟩ x).alloc (.cells #[.int .i64 i.op,.int .i64 i.n,.int .i64 i.tag,.bool i.oct,a,b,.int .i64 i.at_] 63)).heap[w.heap.size]?=some (.cells (ZH [(i,a,b)]).toArray 63)from Q5 (by simp))];simpa using d
theorem C2{wr a f:World}{d g:Value}{k:Array Value}(i:wr.ownsRow B 63 7 d n xs)(r:c=wr.heap.size)
 (l:Below (wr.heap.size+1) (wr.alloc (.cells k 63)) a) (v:a.heap[c]?=some (.cells k 63)) (m:Below a.heap.size (a.setCell ⟨c,4,none⟩ b) f) (o:Obj) :
 ((f.setCell ⟨c,5,none⟩ g).alloc o).ownsRow B 63 7 d n xs:=by
 subst r;have q:Below wr.heap.size wr a:=(Qp _).trans (l.mono (by omega));have s:(a.setCell ⟨wr.heap.size,4,none⟩ b).heap.size=a.heap.size:=by simp
 have p:Below (a.setCell ⟨wr.heap.size,4,none⟩ b).heap.size (a.setCell ⟨wr.heap.size,4,none⟩ b) f:=by rw[s];exact m
 have t:=Xe i (P:=fun _ _=>False) (Fr.of_below q) (fun _ _ h=>h);have j:d.ownBlock≠some wr.heap.size:=fun e=>by have:=(i.lt _ e).2;omega
 have u:=Xe (JJ t j 4 b) (P:=fun _ _=>False) (Fr.of_below p) (fun _ _ h=>h);exact(JJ u j 5 g).alloc _
theorem Cc{wr c g r:World}{B la:Nat}{N d:Value}{q:List IV}{i:Ins}{s:Nat}{C:Array Value}
 (af:s=wr.heap.size) (y:B<=wr.heap.size) (m:Yl wr B v q)
 (G:Below (wr.heap.size+1) (wr.alloc (.cells C 63)) c) (ad:c.heap[s]?=some (.cells C 63)) (t:c.ownsRow (wr.heap.size+1) 9 1 d i.a.length (Qv i.a))
 (H:Below c.heap.size (c.setCell ⟨s,4,none⟩ d) g) (u:g.ownsRow c.heap.size 9 1 f i.b.length (Qv i.b)) (ae:g.heap[s]?=some (.cells (C.setIfInBounds 4 d) 63))
 (hi:(∀ z∈i.a,z.length<=100000)/\(∀ z∈i.b,z.length<=100000)/\i.a.length<=1000000/\i.b.length<=1000000/\-9223372036854775808<=i.n/\i.n<=9223372036854775807)
 (ag:r.ownsRow B 63 7 N (q.length+1) (ZH q++ZH [(i,d,f)])) (J:((g.setCell ⟨s,5,none⟩ f).alloc (.cells (ZH [(i,d,f)]).toArray 63)).grownBy r v.ownBlock) :
 Yl r B N (q++[(i,d,f)])/\Below B wr r:=by
 subst af;have x:Below wr.heap.size wr c:=(Qp _).trans (G.mono (by omega));have ai:wr.heap.size+1<=c.heap.size:=by have:=G.size;simpa using this
 have M:(c.setCell ⟨wr.heap.size,4,none⟩ d).heap.size=c.heap.size:=by simp
 have w:Below (c.setCell ⟨wr.heap.size,4,none⟩ d).heap.size (c.setCell ⟨wr.heap.size,4,none⟩ d) g:=by rw[M];exact H
 have W:Fr (fun k o=>∃ j,o=.cells j 63) c (c.setCell ⟨wr.heap.size,4,none⟩ d):=(Fr.refl _ c).set ad ⟨_,rfl⟩ 4 d;have X:Fr (fun k o=>∃ j,o=.cells j 63) g ((g.setCell ⟨wr.heap.size,5,none⟩ f).alloc (.cells (ZH [(i,d,f)]).toArray 63)):=((Fr.refl _ g).set ae ⟨_,rfl⟩ 5 f).alloc _;have aj:c.heap.size<=g.heap.size:=by have:=w.size;rw[M]at this;exact this
 have ah:((g.setCell ⟨wr.heap.size,5,none⟩ f).alloc (.cells (ZH [(i,d,f)]).toArray 63)).ownsRow B 63 7 v q.length (ZH q):=by
  have r2:=Xe m.row (P:=fun _ _=>False) (Fr.of_below x) (fun _ _ h=>h);have K:v.ownBlock≠some wr.heap.size:=fun e=>by have:=(m.row.lt _ e).2;omega
  have r3:=Xe (JJ r2 K 4 d) (P:=fun _ _=>False) (Fr.of_below w) (fun _ _ h=>h);exact(JJ r3 K 5 f).alloc _
 have Y:Fr (fun k o=>∃ j,o=.cells j 63) _ r:=(Fr.refl _ _).grown J (fun k o e ho=>(Y7 ah k o e ho).2);have E:=X.trans Y;have D:=(W.trans (Fr.of_below w)).trans E;have Q:Fr (fun k o=>∃ j,o=.cells j 63) wr r:=(Fr.of_below x).trans D;have A:∀(k:Nat) (j:Array Value),¬(∃ F,Obj.cells j 9=.cells F 63):=fun k j ⟨F,e⟩=>by injection e with _ e;exact absurd e (by decide)
 have Z:=Xe t D A;have ab:=Xe u E A;refine⟨⟨?_,fun p hp=>?_,?_,fun e=>absurd (List.append_eq_nil_iff.1 e).2 (by simp)⟩,?_⟩
 ·rw[Ze,H4];exact ag
 ·rcases List.mem_append.1 hp with hp|hp
  ·exact(m.ok p hp).fr Q A
  ·rw[XH hp];exact⟨SlT.of_owns Z rfl,SlT.of_owns ab rfl,hi.1,hi.2.1,hi.2.2.1,hi.2.2.2.1,hi.2.2.2.2.1,hi.2.2.2.2.2⟩
 ·refine m.ap.append (L:=wr.heap.size+1) (fun k l=>by have:=m.ltL k l;omega) ?_ (by omega);obtain⟨aa,ac,U⟩:=QQ t;obtain⟨ba,bc,V⟩:=QQ u;subst U V;exact Apt.two (L2:=c.heap.size) (fun k l=>t.lt k l) (fun k l=>(u.lt k l).1) ai (Dr t) (Dr u)
 ·have R:Below B wr (c.setCell ⟨wr.heap.size,4,none⟩ d):=(x.mono y).setCell y d;have S:Below B wr g:=R.trans (H.mono (by omega));have T:Below B wr ((g.setCell ⟨wr.heap.size,5,none⟩ f).alloc (.cells (ZH [(i,d,f)]).toArray 63)):=(S.setCell y f).alloc (by simp;omega) _;exact NJ T J (by simp;omega) (fun k l=>(m.row.lt k l).1)
theorem Pe{wr b:World}(h:Below (wr.heap.size+1) (wr.alloc o) b)(c:g<wr.heap.size)(j:Nat):b.cell? ⟨g,j,none⟩=wr.cell? ⟨g,j,none⟩:=by
 rw[h.cell (p:=⟨g,j,none⟩) (by show g<_;omega)];exact ZA (a:=⟨g,j,none⟩) (Below.heap_alloc _ _ _ c)
theorem Jd.get{e:List Ins}(h:Jd w B f e)(b:k<e.length):∃ g c av bv,f=.slice (some ⟨g,0,none⟩) e.length c/\B<=g/\g<w.heap.size/\Ui w g (k*7) e[k] av bv/\ZT w e[k] av bv/\Vo av/\Vo bv:=by
 obtain⟨d,rfl,q,r,v,i⟩:=h;rw[List.length_map]at b;obtain⟨g,c,t,m,p,l⟩:=Xo q (by omega);have a:∀ j,j<7->∀ u,(Js d[k])[j]?=some u->w.cell? ⟨g,k*7+j,none⟩=some u:=fun j o u s=>l _ _ (by rw[GU d k b j o];exact s)
 have n:(d.map Prod.fst)[k]'(by rw[List.length_map];exact b)=d[k].1:=by simp
 rw[n];exact⟨g,c,d[k].2.1,d[k].2.2,by rw[List.length_map];exact t,m,p,⟨a 0 (by omega) _ rfl,a 1 (by omega) _ rfl,a 2 (by omega) _ rfl,a 3 (by omega) _ rfl,a 4 (by omega) _ rfl,a 5 (by omega) _ rfl,a 6 (by omega) _ rfl⟩,r _ (List.getElem_mem b),(i.rm _ (List.getElem_mem b)).1,(i.rm _ (List.getElem_mem b)).2⟩
theorem SlT.toO{zs:Qa}(h:SlT w v zs):TxO w v zs:=by
 rcases h with⟨rfl,rfl⟩ | ⟨g,c,rfl,e,b,d⟩
 ·exact⟨none,0,rfl,fun j a=>absurd a (Nat.not_lt_zero _)⟩
 ·refine⟨_,c,rfl,fun j a=>⟨g,0,rfl,?_⟩⟩;rw[Nat.zero_add,Qi b,d j a];simp[List.getD_eq_getElem?_getD,List.getElem?_eq_getElem a]
theorem SlT.roomZ{w:World}{v:Value}{zs:Qa}(h:SlT w v zs):roomZ v:=by
 rcases h with⟨rfl,rfl⟩ | ⟨g,c,rfl,_⟩
 ·intro c e;injection e with _ _ e;exact e.symm
 ·intro c e;cases e
structure Fc (i:Ins):Prop where
 al:∀ z∈i.a,z.length<=100000
 bl:∀ z∈i.b,z.length<=100000
 an:i.a.length<=1000000
 bn:i.b.length<=1000000
 n1:-9223372036854775808<=i.n
 n2:i.n<=9223372036854775807
def Vv(w:World)(v:Value)(ops:List Ins):Prop:=∃ a c,v=.slice a ops.length c/\∀ j (hj:j<ops.length),∃ g off av bv,a=some ⟨g,off,none⟩/\Ui w g (off+j*7) ops[j] av bv/\(TxO w av ops[j].a/\roomZ av)/\(TxO w bv ops[j].b/\roomZ bv)/\Fc ops[j]
theorem LA(c:List Ins)(S:Value)(w:World)(C:Vv w S c)(aA:c.length<=1000000) :
 Calls prog 26 #[S] w fun e w'=>∃ ov,e=.returned ov/\Jd w' w.heap.size ov c/\Below w.heap.size w w':=by
 obtain⟨ca,cc,rfl,C⟩:=C;have Y:=I C;obtain⟨i0,ao,au,aw,ax⟩:=info_parts Tryz.infoIns;clear C;go_enter func26,ntmps26;go_wp2
 go_loopw [3,4] (fun lv i wr=>∃(k:Nat) (r:List IV),k<=c.length/\i=.int .i64 (k:Int)/\r.map Prod.fst=c.take k/\Yl wr w.heap.size lv r/\Below w.heap.size w wr) (fun _ i _=>c.length - (intOf i).toNat)
 case atStart=>exact⟨0,[],QE,by go_num,rfl,⟨Zj,(fun p hp=>nomatch hp),Apt.nil _,fun _=>rfl⟩,Below.refl _ _⟩
 case round=>
  obtain⟨k,r,hk,rfl,x,v,s⟩:=hrel;have af:=s.size
  have E:r.length=k:=by
   have:=congrArg List.length x;rw[List.length_map,List.length_take]at this;omega
  by_cases hlt:k<c.length
  ·obtain⟨g,off,av,bv,ak,⟨G,P,Q,R,a4,f,H⟩,y,z,l⟩:=Y.o k hlt;subst ak;have aj:g<w.heap.size:=Qq G;have q:∀ j,wr.cell? ⟨g,j,none⟩=w.cell? ⟨g,j,none⟩:=fun j=>s.cell (p:=⟨g,j,none⟩) aj
   have e0:=(q _).trans G;have e1:=(q _).trans P;have e2:=(q _).trans Q;have e3:=(q _).trans R;have e4:=(q _).trans a4;have e5:=(q _).trans f;have e6:=(q _).trans H;have ay:=I q
   have N:Hid (c.take (k+1)=c.take k++[c[k]]):=by
    show _=_
    rw[List.take_add_one,List.getElem?_eq_getElem hlt];rfl
   obtain⟨i,V⟩:=Qe (c[k]);rw[V]at e0 e1 e2 e3 e6 l N y z;obtain⟨aa,ac,ag,_⟩:=id y.1;obtain⟨ba,bc,ai,_⟩:=id z.1;subst ag ai;have Z:=I (And.intro l.al (And.intro l.bl (And.intro l.an (And.intro l.bn (And.intro l.n1 l.n2)))));have han:=l.an;have ah:=l.bn;have T:∀ o,Below wr.heap.size wr (wr.alloc o):=fun o=>Qp o
   have HSA:Hid (∀ o,TxO (wr.alloc o) (.slice aa i.a.length ac) i.a/\roomZ (.slice aa i.a.length ac)):=fun o=>⟨(y.1.below s).below (T o),y.2⟩
   have HSB:Hid (TxO wr (.slice ba i.b.length bc) i.b/\roomZ (.slice ba i.b.length bc)):=⟨z.1.below s,z.2⟩;have HBX:Hid ((wr.alloc (.cells #[.int .i64 i.op,.int .i64 i.n,.int .i64 i.tag,.bool i.oct,.slice aa i.a.length ac,.slice ba i.b.length bc,.int .i64 i.at_] 63)).heap[wr.heap.size]?=some (.cells #[.int .i64 i.op,.int .i64 i.n,.int .i64 i.tag,.bool i.oct,.slice aa i.a.length ac,.slice ba i.b.length bc,.int .i64 i.at_] 63)):=QC _ _;have A:=I v;have ab:=I x;have F:=I s;obtain⟨la,X,D⟩:=QQ v.row;subst D;have aC:r.length<=1000000:=by omega
   have az:=I E;have hgw:g<wr.heap.size:=by omega
   have aq:(k:Int)<(c.length:Int):=by omega
   clear E;clear q l y z v x s T G P Q R a4 f H V
   go_wp2_with (first
    |(have gg:=M;at_builtin;refine wpList_append_own _ rfl _ _ 45 rfl w.heap.size 63 i0 _ 7 88 underlying45 ao au aw ax rfl (by decide) _ _ _ rfl (ad.o _) ⟨d.heap.size,0,none⟩ 1 1 (ZH [(i,.slice a4 i.a.length k4,.slice f i.b.length t)]) rfl rfl HN.o (Cq _ _ _ _ _ _ _) (by unfold maxLen;omega) (by omega) (by simp;omega) ?_;intro v6 w6 J U _;obtain⟨H,k6,ar⟩:=QQ J;subst ar;have L:=I (Cc (la:=0) rfl af A.o HB2.o HX2.o HOA.o K.o M.o ae.o Z.o J U);clear J U;skip)
    |(have gg:=HOA;at_builtin;refine Gy rfl _ _ rfl i.b (.slice ba i.b.length bc) rfl rfl HSB2.o ah ?_;intro f t d W B;have K:=I (show Below w2.heap.size (w2.setCell ⟨wr.heap.size,4,none⟩ (.slice a4 i.a.length k4)) d from(by simpa using B));have M:=I (show d.ownsRow w2.heap.size 9 1 (.slice f i.b.length t) i.b.length (Qv i.b)from(by simpa using W));have m:=QP (Qt _ _ 4 (.slice a4 i.a.length k4) _ _ HX2.o) B;have ae:=I m;have aD:w2.heap.size<=d.heap.size:=(by have:=B.size;simpa using this);have d0:=Qk m;have d1:=Qr m;have d2:=QJ m;have d3:=QR m;have d4:=QV m;have d5:=Q9 m;have d6:=Zz m;have aB:=Qu m;have ad:Hid (∀ o,((d.setCell ⟨wr.heap.size,5,none⟩ (.slice f i.b.length t)).alloc o).ownsRow w.heap.size 63 7 (.slice la r.length X) r.length (ZH r)):=C2 A.o.row rfl HB2.o HX2.o K.o;have HN:Hid (∀ j u,(ZH [(i,.slice a4 i.a.length k4,.slice f i.b.length t)])[j]?=some u->((d.setCell ⟨wr.heap.size,5,none⟩ (.slice f i.b.length t)).alloc (.cells #[.int .i64 i.op,.int .i64 i.n,.int .i64 i.tag,.bool i.oct,.slice a4 i.a.length k4,.slice f i.b.length t,.int .i64 i.at_] 63)).cell? ((⟨d.heap.size,0,none⟩:Addr).add j)=some u):=Ds _ _;clear W B m;skip)
    | (at_builtin;refine Gy rfl _ _ rfl i.a (.slice aa i.a.length ac) rfl rfl (HSA.o _) han ?_;intro a4 k4 w2 ho2 hb2;have HB2:=I (show Below (wr.heap.size+1) (wr.alloc (.cells #[.int .i64 i.op,.int .i64 i.n,.int .i64 i.tag,.bool i.oct,.slice aa i.a.length ac,.slice ba i.b.length bc,.int .i64 i.at_] 63)) w2 from (by simpa using hb2));have HOA:=I (show w2.ownsRow (wr.heap.size+1) 9 1 (.slice a4 i.a.length k4) i.a.length (Qv i.a) from (by simpa using ho2));have hx2:=QP HBX.o hb2;have HX2:=I hx2;have hzw2:wr.heap.size+1<=w2.heap.size:=(by have:=hb2.size;simpa using this);have c0:=Qk hx2;have c1:=Qr hx2;have c2:=QJ hx2;have c3:=QR hx2;have c4:=QV hx2;have c5:=Q9 hx2;have c6:=Zz hx2;have hf2:=Qu hx2;have hw2g:∀ j,w2.cell? ⟨g,j,none⟩=wr.cell? ⟨g,j,none⟩:=(fun j=>Pe HB2.o hgw j);have s5:w2.cell? ⟨g,off+k*7+5,none⟩=some (.slice ba i.b.length bc):=(hw2g _).trans e5;have hgne:g≠wr.heap.size:=(by omega);have HSB2:Hid (TxO (w2.setCell ⟨wr.heap.size,4,none⟩ (.slice a4 i.a.length k4)) (.slice ba i.b.length bc) i.b∧roomZ (.slice ba i.b.length bc)):=⟨HSB.o.1.below (((Qp _).trans (hb2.mono (by simp))).setCell Ql _),HSB.o.2⟩;clear ho2 hb2 hx2;skip))
   go_roundw
   case rel=>exact⟨k+1,r++[(i,.slice a4 i.a.length k4,.slice f i.b.length t)],by omega,by go_num,by rw[List.map_append,ab.o,N.o];rfl,L.o.1,F.o.trans L.o.2⟩
   case measure=>simp[intOf];omega
  ·have ap:k=c.length:=by omega
   subst ap;have aq:¬(c.length:Int)<(c.length:Int):=by omega
   rw[List.take_length]at x;have A:Hid (Jd wr w.heap.size u3 c):=by rw[<-x];exact v.codeP
   have F:=I s;obtain⟨la,X,D⟩:=QQ v.row;rw[E]at D;subst D;clear v x s E;go_wp2;go_ret;exact⟨_,rfl,A.o,F.o⟩
theorem BH(xs:Qa)(j l:Value)(w:World)(b:TxO w j xs)(c:TxO w l xs)(F:xs.length<=1000000) :
 Calls prog 52 #[j,l] w fun e w'=>e=.returned (.bool true)/\Below w.heap.size w w':=by
 obtain⟨G,C,rfl,b⟩:=b;obtain⟨H,D,rfl,c⟩:=c;have s:=I b;have t:=I c;clear b c;go_enter func52,ntmps52;go_wp2
 go_loopw [5] (fun i wr=>∃ k:Nat,k<=xs.length/\i=.int .i64 k/\Hid (Below w.heap.size w wr)) (fun i _=>xs.length - (intOf i).toNat)
 case atStart=>exact⟨0,QE,rfl,Below.refl _ _⟩
 case round=>
  obtain⟨k,E,rfl,a⟩:=hrel;by_cases hlt:k<xs.length
  ·have z:(k:Int)<(xs.length:Int):=by omega
   obtain⟨g,q,A,d⟩:=s.o k hlt;obtain⟨m,r,B,f⟩:=t.o k hlt;subst A B;have u:wr.cell? ⟨g,q+k,none⟩=some (.string (sA xs[k])):=by rw[a.o.cell (p:=⟨g,q+k,none⟩) (Qq d)];exact d
   have v:wr.cell? ⟨m,r+k,none⟩=some (.string (sA xs[k])):=by rw[a.o.cell (p:=⟨m,r+k,none⟩) (Qq f)];exact f
   obtain⟨x,n⟩:=Qe (sA xs[k]);rw[n]at u v;clear d f n;go_wp2;go_region;go_wp2;go_roundw
   case rel=>exact⟨k+1,by omega,by go_num,a.o.drew⟩
   case measure=>simp[intOf];omega
  ·have y:k=xs.length:=by omega
   subst y;have z:¬(xs.length:Int)<(xs.length:Int):=by omega
   go_wp2;go_ret;exact⟨rfl,a.o⟩
theorem D8(h:w.ownsRow base e size v n xs):n<=9223372036854775807:=by
 rcases h.2 with⟨_,h⟩ | ⟨g,b,c,_,_,_,d,a,_⟩
 ·omega
 ·unfold maxLen at a;omega
def JA(w:World)(v:Value)(l:List (Int×L8)):Prop:=∃ a c,v=.slice a l.length c/\∀ j (hj:j<l.length),∃ g off,a=some ⟨g,off,none⟩/\w.cell? ⟨g,off+j*2,none⟩=some (.int .i64 l[j].1)/\w.cell? ⟨g,off+j*2+1,none⟩=some (.string (sA l[j].2))
theorem JA.of_owns(h:w.ownsRow B 52 2 v l.length (QZ l)):JA w v l:=by
 obtain⟨a,c,f⟩:=QQ h;refine⟨a,c,f,fun j d=>?_⟩;obtain⟨g,n,i,_,_,b⟩:=Xo h (by omega);rw[f]at i;injection i with e
 have k:=b (j*2) _ (K0 l j d).1;have m:=b (j*2+1) _ (K0 l j d).2;exact⟨g,0,e,by rw[Nat.zero_add];exact k,by rw[Nat.zero_add];exact m⟩
theorem JA.below(h:JA w v l)(i:Below w.heap.size w w'):JA w' v l:=by
 obtain⟨a,c,m,h⟩:=h;refine⟨a,c,m,fun j k=>?_⟩;obtain⟨g,b,e,d,f⟩:=h j k;exact⟨g,b,e,by rw[i.cell (p:=⟨g,b+j*2,none⟩) (Qq d)];exact d,by rw[i.cell (p:=⟨g,b+j*2+1,none⟩) (Qq f)];exact f⟩
theorem Wu(a:Int×L8)(W:World):(binOp .neq 52 (.agg #[.int .i64 a.1,.string (sA a.2)]) (.agg #[.int .i64 a.1,.string (sA a.2)])).run prog W=.ok (.bool false) W:=by
 have h:=EN a a W;rw[Qw (rfl:a=a)]at h;have c:prog.underlying 52=some (.struct (prog.fieldsOf 52)):=by kernel_rfl
 have e:prog.stoodInHeld 52=false:=by kernel_rfl
 have d:(prog.fieldsOf 52).toList=[⟨ "Kind",3,0,false, "", "",0⟩,⟨ "Arg",9,1,false, "", "",8⟩]:=by kernel_rfl
 have b:((sA a.2).toList==(sA a.2).toList)=true:=by simp
 rw[run_neq_struct,run_equalIn_struct W _ _ _ _ c e,d];simp[Op.eqFields,go_sem,Result.andThen,b]
theorem BD(l:List (Int×L8))(s t:Value)(w:World)(c:JA w s l)(d:JA w t l)(N:l.length<=9223372036854775807) :
 Calls prog 35 #[s,t] w fun e w'=>e=.returned (.bool true)/\Below w.heap.size w w':=by
 obtain⟨P,K,rfl,c⟩:=c;obtain⟨Q,L,rfl,d⟩:=d;have v:=I c;have y:=I d;have z:=I Wu;clear c d;go_enter func35,ntmps35;go_wp2
 go_loopw [5] (fun r wr=>∃ k:Nat,k<=l.length/\r=.int .i64 k/\Hid (Below w.heap.size w wr)) (fun r _=>l.length - (intOf r).toNat)
 case atStart=>exact⟨0,QE,rfl,Below.refl _ _⟩
 case round=>
  obtain⟨k,M,rfl,a⟩:=hrel;by_cases hlt:k<l.length
  ·have F:(k:Int)<(l.length:Int):=by omega
   obtain⟨g,f,G,j,n⟩:=v.o k hlt;obtain⟨b,i,H,m,q⟩:=y.o k hlt;subst G H;have A:wr.cell? ⟨g,f+k*2,none⟩=some (.int .i64 l[k].1):=by rw[a.o.cell (p:=⟨g,f+k*2,none⟩) (Qq j)];exact j
   have C:wr.cell? ⟨g,f+k*2+1,none⟩=some (.string (sA l[k].2)):=by rw[a.o.cell (p:=⟨g,f+k*2+1,none⟩) (Qq n)];exact n
   have B:wr.cell? ⟨b,i+k*2,none⟩=some (.int .i64 l[k].1):=by rw[a.o.cell (p:=⟨b,i+k*2,none⟩) (Qq m)];exact m
   have D:wr.cell? ⟨b,i+k*2+1,none⟩=some (.string (sA l[k].2)):=by rw[a.o.cell (p:=⟨b,i+k*2+1,none⟩) (Qq q)];exact q
   have J:=z.o l[k];obtain⟨x,u⟩:=Qe (l[k]);rw[u]at A B C D J;clear j m n q u;go_wp2;go_region;go_wp2;go_roundw
   case rel=>exact⟨k+1,by omega,by go_num,a.o.drew⟩
   case measure=>simp[intOf];omega
  ·have E:k=l.length:=by omega
   subst E;have F:¬(l.length:Int)<(l.length:Int):=by omega
   go_wp2;go_ret;exact⟨rfl,a.o⟩
structure Ye (X:Nat->Prop) (w:World) (v:Value) (l:List (Int×L8)):Prop where
 row:w.ownsRow 0 52 2 v l.length (QZ l)
 xr:∀ k,v.ownBlock=some k->X k
theorem Ye.keep(h:Ye X w v l)(hk:∀ k,X k->k<w.heap.size->w'.heap[k]?=w.heap[k]?):Ye X w' v l:=⟨JW h.row fun k hk'=>hk k (h.xr k hk') (h.row.lt k hk').2,h.xr⟩
theorem Ye.into{Y:Nat->Prop}(h:Ye X w v l)(hX:∀ k,X k->k<w.heap.size->Y k):Ye Y w v l:=⟨h.row,fun k hk=>hX k (h.xr k hk) (h.row.lt k hk).2⟩
structure YM where
 r:Value
 t:Value
 l:List (Int×L8)
def J6(cs:List YM):List Value:=cs.flatMap fun c=>[c.r,c.t]
theorem DN:∀(a:List YM) (j:Nat) (b:j<a.length),(J6 a)[j*2]?=some a[j].r/\(J6 a)[j*2+1]?=some a[j].t
 | [],j,b=>absurd b (Nat.not_lt_zero _)
 |c::r,0,_=>⟨rfl,rfl⟩
 |c::r,j+1,b=>by
  have:=DN r j (by simpa using b);have d:(j+1)*2=j*2+1+1:=by omega
  rw[d];exact this
theorem IK(a:List YM)(c:YM):J6 a++[c.r,c.t]=J6 (a++[c]):=by unfold J6;simp
theorem MV(a:List YM)(j:Nat)(b:j<a.length)(l:List (Int×L8)):J6 (a.set j ⟨a[j].r,a[j].t,l⟩)=J6 a:=by
 induction a generalizing j with
 |nil=>exact absurd b (Nat.not_lt_zero _)
 |cons c r ih=>
  cases j with
  |zero=>rfl
  |succ j=>
   have:=ih j (by simpa using b);unfold J6 at this ⊢;rw[List.set_cons_succ,List.flatMap_cons,List.flatMap_cons];exact congrArg (_++·) this
structure UU (col:Nat->Nat) (w:World) (j:Nat) (c:YM):Prop where
 r:Ye (fun k=>col k=2+2*j) w c.r c.l
 t:Ye (fun k=>col k=3+2*j) w c.t c.l
 b:c.l.length<=1000000
structure WldA (wb:Nat) (u w:World) (col:Nat->Nat) (xv mv cv:Value) (ys1 ys2:List J8) (vs1 vs2:List Value) (cs:List YM):Prop where
 nd:w.heap[wb]?=some (.cells #[xv,mv,cv,.slice none 0 0] 44)
 o1:w.ownsRow (wb+1) 53 1 xv vs1.length vs1
 o2:w.ownsRow (wb+1) 76 1 mv vs2.length vs2
 o4:w.ownsRow (wb+1) 80 2 cv cs.length (J6 cs)
 r1:Q3 (fun a u=>UR (fun k=>col k=0) a w u) ys1 vs1
 r2:Q3 (fun a u=>JV (fun k=>col k=0) a w u) ys2 vs2
 k1:∀ k,xv.ownBlock=some k->col k=1
 k2:∀ k,mv.ownBlock=some k->col k=1
 k4:∀ k,cv.ownBlock=some k->col k=1
 cu:∀ k,w.heap.size<=k∨k<=wb->col k=1
 kc:∀ j (hj:j < cs.length),UU col w j cs[j]
 b:Below wb u w
section
variable {wb:Nat} {u w w' w5:World} {col:Nat->Nat} {xv mv cv v' x:Value} {ys1 ys2:List J8} {y:J8} {vs1 vs2:List Value} {cs:List YM} {o:Obj}
theorem UU.keep{j:Nat}{c:YM}(h:UU col w j c)(hk:∀ k,col k≠1->k<w.heap.size->w'.heap[k]?=w.heap[k]?):UU col w' j c:=
 ⟨h.r.keep (fun k hc hz=>hk k (by have hc':col k=_:=hc;omega) hz),h.t.keep (fun k hc hz=>hk k (by have hc':col k=_:=hc;omega) hz),h.b⟩
theorem WldA.below(h:WldA wb u w col xv mv cv ys1 ys2 vs1 vs2 cs)(c:Below w.heap.size w w'):WldA wb u w' col xv mv cv ys1 ys2 vs1 vs2 cs:=by
 have f:=Qg h.nd;refine⟨QP h.nd c,Xt h.o1 c,Xt h.o2 c,Xt h.o4 c,h.r1.imp fun a u d=>K2.keep _ _ _ _ _ d (fun k _ hk=>c.block k hk),h.r2.imp fun a u d=>KW.keep _ _ _ _ _ d (fun k _ hk=>c.block k hk),h.k1,h.k2,h.k4,fun k hk=>h.cu k ?_,fun j e=>(h.kc j e).keep (fun k _ hk=>c.block k hk),h.b.trans (c.mono (Nat.le_of_lt f))⟩;rcases hk with hk|hk
 ·exact Qd (Qs c.size hk)
 ·exact Qc hk
theorem WldA.paint(h:WldA wb u w col xv mv cv ys1 ys2 vs1 vs2 cs){s0:Nat}(c:Nat->Nat)(i:∀ k,s0<=k->col k=1)(s:wb<s0)(q:∀ k,xv.ownBlock=some k->k<s0)(p:∀ k,mv.ownBlock=some k->k<s0)(m:∀ k,cv.ownBlock=some k->k<s0):WldA wb u w (fun k=>if s0<=k/\k<w.heap.size then c k else col k) xv mv cv ys1 ys2 vs1 vs2 cs:=by
 have e:∀ {k:Nat} {n:Nat},n≠1->col k=n->(if s0<=k/\k<w.heap.size then c k else col k)=n:=fun {k n} hn d=>by
  rw[if_neg]
  ·exact d
  ·rintro⟨l,_⟩;rw[i k l]at d;exact hn d.symm
 have lo:∀ {k:Nat},k<s0->(if s0<=k/\k<w.heap.size then c k else col k)=col k:=fun {k} d=>if_neg (by omega)
 refine⟨h.nd,h.o1,h.o2,h.o4,h.r1.imp fun a u g=>K2.weak _ _ _ _ _ g (fun k d _=>e (by decide) d),h.r2.imp fun a u g=>KW.weak _ _ _ _ _ g (fun k d _=>e (by decide) d),fun k d=>?_,fun k d=>?_,fun k d=>?_,fun k d=>?_,fun j o=>?_,h.b⟩
 ·rw[lo (q k d)];exact h.k1 k d
 ·rw[lo (p k d)];exact h.k2 k d
 ·rw[lo (m k d)];exact h.k4 k d
 ·show(if _ then _ else _)=1
  rw[if_neg (by omega)];exact h.cu k d
 ·have f:=h.kc j o;exact⟨f.r.into (fun k d _=>e (by omega) d),f.t.into (fun k d _=>e (by omega) d),f.b⟩
theorem GJ(h:WldA wb u w col xv mv cv ys1 ys2 vs1 vs2 cs)(c:∀ k,v.ownBlock=some k->col k=1)(b:(w.alloc o).grownBy w5 v.ownBlock)(p:Nat)(z:Value):∀ k,col k≠1->k<w.heap.size->(w5.setCell ⟨wb,p,none⟩ z).heap[k]?=w.heap[k]?:=fun k hk hz=>by
 rw[QK (fun e=>hk (by have a:k=wb:=e;rw[a];exact h.cu wb (Qc Ql))),b.block k (by simp;omega) (fun e=>hk (c k e.symm))];exact Below.heap_alloc _ _ _ hz
theorem WldA.app1(h:WldA wb u w col xv mv cv ys1 ys2 vs1 vs2 cs)(d:UR (fun k=>col k=0) y w x)(hg:(w.alloc o).grownBy w5 xv.ownBlock)(l:w5.ownsRow (wb+1) 53 1 v' (vs1.length+1) (vs1++[x]))(hat:v'.ownBlock=xv.ownBlock\/v'.ownBlock=some (w.heap.size+1)):WldA wb u (w5.setCell ⟨wb,0,none⟩ v') col v' mv cv (ys1++[y]) ys2 (vs1++[x]) vs2 cs:=by
 have c:=Qg h.nd;have i:=Kn h.o1 c hg;have f:=GJ h h.k1 hg 0 v';have m:w.heap.size<=w5.heap.size:=by have:=hg.size;simp at this;omega
 have hoth:∀ {v:Value} {e:TypeId} {size n:Nat} {xs:List Value},w.ownsRow (wb+1) e size v n xs->e≠53->(w5.setCell ⟨wb,0,none⟩ v').ownsRow (wb+1) e size v n xs:=fun {v e size n xs} hv he=>YR ((hv.alloc o).kept hg (by
  cases hb:v.ownBlock with
  |none=>exact Qd rfl
  | some k=>exact Qc (fun e2=>Ku hv h.o1 he k hb e2.symm))) (Nat.lt_succ_self _)
 refine⟨Qt _ _ _ _ _ _ ((i wb (Nat.lt_succ_self _)).trans h.nd),YR (by simpa using l) (Nat.lt_succ_self _),hoth h.o2 (by decide),hoth h.o4 (by decide),?_,h.r2.imp fun a u d=>KW.keep _ _ _ _ _ d (fun k hk c=>f k (by omega) c),fun k hk=>?_,h.k2,h.k4,fun k hk=>h.cu k ?_,fun j g=>(h.kc j g).keep f,?_⟩
 ·exact(Q3.snoc (P:=fun a u=>UR (fun k=>col k=0) a w u) d h.r1).imp fun a u d=>K2.keep _ _ _ _ _ d (fun k hk c=>f k (by omega) c)
 ·rcases hat with hat|hat
  ·exact h.k1 k (by rw[<-hat];exact hk)
  ·rw[hat]at hk;have:w.heap.size+1=k:=by simpa using hk
   exact h.cu k (Qd (by omega))
 ·rcases hk with hk|hk
  ·rw[World.size_setCell]at hk;exact Qd (by omega)
  ·exact Qc hk
 ·exact(((h.b.alloc (Nat.le_of_lt c) o).grown hg (by simp;omega) (fun k hk=>by have:=(h.o1.lt k hk).1;omega)).setCell Ql _)
theorem WldA.app2(h:WldA wb u w col xv mv cv ys1 ys2 vs1 vs2 cs)(d:JV (fun k=>col k=0) y w x)(hg:(w.alloc o).grownBy w5 mv.ownBlock)(l:w5.ownsRow (wb+1) 76 1 v' (vs2.length+1) (vs2++[x]))(hat:v'.ownBlock=mv.ownBlock\/v'.ownBlock=some (w.heap.size+1)):WldA wb u (w5.setCell ⟨wb,1,none⟩ v') col xv v' cv ys1 (ys2++[y]) vs1 (vs2++[x]) cs:=by
 have c:=Qg h.nd;have i:=Kn h.o2 c hg;have f:=GJ h h.k2 hg 1 v';have m:w.heap.size<=w5.heap.size:=by have:=hg.size;simp at this;omega
 have hoth:∀ {v:Value} {e:TypeId} {size n:Nat} {xs:List Value},w.ownsRow (wb+1) e size v n xs->e≠76->(w5.setCell ⟨wb,1,none⟩ v').ownsRow (wb+1) e size v n xs:=fun {v e size n xs} hv he=>YR ((hv.alloc o).kept hg (by
  cases hb:v.ownBlock with
  |none=>exact Qd rfl
  | some k=>exact Qc (fun e2=>Ku hv h.o2 he k hb e2.symm))) (Nat.lt_succ_self _)
 refine⟨Qt _ _ _ _ _ _ ((i wb (Nat.lt_succ_self _)).trans h.nd),hoth h.o1 (by decide),YR (by simpa using l) (Nat.lt_succ_self _),hoth h.o4 (by decide),h.r1.imp fun a u d=>K2.keep _ _ _ _ _ d (fun k hk c=>f k (by omega) c),?_,h.k1,fun k hk=>?_,h.k4,fun k hk=>h.cu k ?_,fun j g=>(h.kc j g).keep f,?_⟩
 ·exact(Q3.snoc (P:=fun a u=>JV (fun k=>col k=0) a w u) d h.r2).imp fun a u d=>KW.keep _ _ _ _ _ d (fun k hk c=>f k (by omega) c)
 ·rcases hat with hat|hat
  ·exact h.k2 k (by rw[<-hat];exact hk)
  ·rw[hat]at hk;have:w.heap.size+1=k:=by simpa using hk
   exact h.cu k (Qd (by omega))
 ·rcases hk with hk|hk
  ·rw[World.size_setCell]at hk;exact Qd (by omega)
  ·exact Qc hk
 ·exact(((h.b.alloc (Nat.le_of_lt c) o).grown hg (by simp;omega) (fun k hk=>by have:=(h.o2.lt k hk).1;omega)).setCell Ql _)
theorem Cz{b:TypeId}(h:w.ownsRow (wb+1) b size cv n xs)(c:wb<w.heap.size)(a:(w.alloc o).grownBy w5 cv.ownBlock):∀ k,k<wb+1->w5.heap[k]?=w.heap[k]?:=fun k hk=>by
 rw[a.block k (by simp;omega) (fun e=>by have:=(h.lt k e.symm).1;omega)];exact Below.heap_alloc _ _ _ (by omega)
theorem WldA.app3(h:WldA wb u w col xv mv cv ys1 ys2 vs1 vs2 cs){c:YM}(f:UU col w cs.length c)(hg:(w.alloc o).grownBy w5 cv.ownBlock)(p:w5.ownsRow (wb+1) 80 2 v' (cs.length+1) (J6 cs++[c.r,c.t]))(hat:v'.ownBlock=cv.ownBlock\/v'.ownBlock=some (w.heap.size+1)):WldA wb u (w5.setCell ⟨wb,2,none⟩ v') col xv mv v' ys1 ys2 vs1 vs2 (cs++[c]):=by
 have d:=Qg h.nd;have m:=Cz h.o4 d hg;have g:=GJ h h.k4 hg 2 v';have q:w.heap.size<=w5.heap.size:=by have:=hg.size;simp at this;omega
 have hoth:∀ {v:Value} {e:TypeId} {size n:Nat} {xs:List Value},w.ownsRow (wb+1) e size v n xs->e≠80->(w5.setCell ⟨wb,2,none⟩ v').ownsRow (wb+1) e size v n xs:=fun {v e size n xs} hv he=>YR ((hv.alloc o).kept hg (by
  cases hb:v.ownBlock with
  |none=>exact Qd rfl
  | some k=>exact Qc (fun e2=>Ku hv h.o4 he k hb e2.symm))) (Nat.lt_succ_self _)
 refine⟨Qt _ _ _ _ _ _ ((m wb (Nat.lt_succ_self _)).trans h.nd),hoth h.o1 (by decide),hoth h.o2 (by decide),YR (by rw[Ze,<-IK];exact p) (Nat.lt_succ_self _),h.r1.imp fun a u f=>K2.keep _ _ _ _ _ f (fun k hk d=>g k (by omega) d),h.r2.imp fun a u f=>KW.keep _ _ _ _ _ f (fun k hk d=>g k (by omega) d),h.k1,h.k2,fun k hk=>?_,fun k hk=>h.cu k ?_,fun j i=>?_,?_⟩
 ·rcases hat with hat|hat
  ·exact h.k4 k (by rw[<-hat];exact hk)
  ·rw[hat]at hk;have:w.heap.size+1=k:=by simpa using hk
   exact h.cu k (Qd (by omega))
 ·rcases hk with hk|hk
  ·rw[World.size_setCell]at hk;exact Qd (by omega)
  ·exact Qc hk
 ·rw[Ze]at i;by_cases hjl:j<cs.length
  ·rw[List.getElem_append_left hjl];exact(h.kc j hjl).keep g
  ·have l:j=cs.length:=by simp at i;omega
   subst l;rw[List.getElem_append_right Ql];simp only[Nat.sub_self,List.getElem_cons_zero];exact f.keep g
 ·exact(((h.b.alloc (Nat.le_of_lt d) o).grown hg (by simp;omega) (fun k hk=>by have:=(h.o4.lt k hk).1;omega)).setCell Ql _)
theorem WldA.wrote(h:WldA wb u w col xv mv cv ys1 ys2 vs1 vs2 cs)(B:j<cs.length)(f:Fr (fun k _=>col k=2+2*j\/col k=3+2*j) w w')(D:Ye (fun k=>col k=2+2*j) w' cs[j].r l)(E:Ye (fun k=>col k=3+2*j) w' cs[j].t l)(C:l.length<=1000000):WldA wb u w' col xv mv cv ys1 ys2 vs1 vs2 (cs.set j ⟨cs[j].r,cs[j].t,l⟩):=by
 have c:=Qg h.nd
 have d:∀ k,col k≠2+2*j->col k≠3+2*j->k<w.heap.size->w'.heap[k]?=w.heap[k]?:=fun k z A hk=>by
  obtain⟨s,y⟩:∃ s,w.heap[k]?=some s:=⟨w.heap[k],Array.getElem?_eq_getElem hk⟩;rw[y];exact f.block k s y (fun e=>e.elim z A)
 have p:∀ {v:Value} {e:TypeId} {size n:Nat} {xs:List Value},w.ownsRow (wb+1) e size v n xs->(∀ k,v.ownBlock=some k->col k=1)->w'.ownsRow (wb+1) e size v n xs:=fun {v e size n xs} hv hc=>JW hv fun k hk=>d k (by rw[hc k hk];omega) (by rw[hc k hk];omega) (hv.lt k hk).2
 refine⟨(d wb (by rw[h.cu wb (Qc Ql)];omega) (by rw[h.cu wb (Qc Ql)];omega) c).trans h.nd,p h.o1 h.k1,p h.o2 h.k2,by rw[List.length_set,MV cs j B];exact p h.o4 h.k4,h.r1.imp fun a u q=>K2.keep _ _ _ _ _ q (fun k hk c=>d k (by omega) (by omega) c),h.r2.imp fun a u q=>KW.keep _ _ _ _ _ q (fun k hk c=>d k (by omega) (by omega) c),h.k1,h.k2,h.k4,fun k hk=>h.cu k ?_,fun i x=>?_,?_⟩
 ·rcases hk with hk|hk
  ·exact Qd (Qs f.size hk)
  ·exact Qc hk
 ·rw[List.length_set]at x;by_cases hij:j=i
  ·subst hij;rw[List.getElem_set_self];exact⟨D,E,C⟩
  ·rw[List.getElem_set_ne hij];have g:=h.kc i x;exact⟨g.r.keep (fun k hk c=>d k (by have m:col k=_:=hk;omega) (by have m:col k=_:=hk;omega) c),g.t.keep (fun k hk c=>d k (by have m:col k=_:=hk;omega) (by have m:col k=_:=hk;omega) c),g.b⟩
 ·refine h.b.trans (f.below (fun k o hk=>?_) (Nat.le_of_lt c));apply Classical.byContradiction;intro F;have:=h.cu k (Qc (by omega));omega
end
theorem WldA.get{z:Nat}{b:Nat->Nat}{j c o:Value}{a:List J8}{x y:List Value}{n:List YM}(h:WldA z u w b j c o a a x y n)(i:Nat)(hi:i<a.length):∃ cx cm bx bm gx gm,j=.slice (some ⟨bx,0,none⟩) a.length cx/\c=.slice (some ⟨bm,0,none⟩) a.length cm/\w.cell? ⟨bx,i,none⟩=some (.pointer (some ⟨gx,0,none⟩))/\w.cell? ⟨bm,i,none⟩=some (.pointer (some ⟨gm,0,none⟩))/\UR (fun k=>b k=0) a[i] w (.pointer (some ⟨gx,0,none⟩))/\JV (fun k=>b k=0) a[i] w (.pointer (some ⟨gm,0,none⟩)):=by
 have t:=JU h.r1;have v:=JU h.r2;obtain⟨u1,q,f⟩:=h.r1.at i hi;obtain⟨u2,r,g⟩:=h.r2.at i hi;obtain⟨gx,_,_,rfl,_⟩:=id f;obtain⟨gm,_,_,rfl,_⟩:=id g;have d:=h.o1;have e:=h.o2;rw[<-t]at d;rw[<-v]at e;obtain⟨bx,cx,s,_,_,l⟩:=Xo d (by omega);obtain⟨bm,cm,p,_,_,m⟩:=Xo e (by omega);exact⟨cx,cm,bx,bm,gx,gm,s,p,l _ _ q,m _ _ r,f,g⟩
def XZ(wb:Nat)(u:World)(N:Nat)(w:World):Prop:=
 ∃ col xv mv cv ys vs1 vs2 cs,WldA wb u w col xv mv cv ys ys vs1 vs2 cs/\(∀ y∈ys,∃ t:L8,t.length<=600/\prL t=.ok y)/\ys.length<=N/\cs.length<=N
theorem XZ.below{a:Nat}{u w w':World}{N:Nat}(h:XZ a u N w)(g:Below w.heap.size w w'):XZ a u N w':=by
 obtain⟨b,l,i,d,m,j,k,c,e,f⟩:=h;exact⟨b,l,i,d,m,j,k,c,e.below g,f⟩
theorem XZ.more{N a:Nat}(h:XZ c u N w)(b:N<=a):XZ c u a w:=by
 obtain⟨d,o,l,f,p,m,n,e,g,i,j,k⟩:=h;exact⟨d,o,l,f,p,m,n,e,g,i,Qs j b,Qs k b⟩
theorem Ig(a:Nat)(u w:World)(N:Nat)(s:L8)(h:XZ a u N w)(he:Env u)(x:u.heap.size=a)(hN:N<=1100000000000)(hs:s.length<=140737488355328) :
 Calls prog 25 #[.pointer (some ⟨a,0,none⟩),.string (sA s)] w fun e w'=>e=.returned (.bool true)/\XZ a u (N+1) w':=by
 obtain⟨Z,V,T,cv,ys,ay,az,cs,D,ax,a4,aY⟩:=h;have G:=QN s;have l1:=JU D.r1;have l2:=JU D.r2;have A:=I D;have X:=I ax;have HE:Hid (∀ W,Below a u W->Env W):=fun W hW=>he.below (by rw[x];exact hW)
 have hE:=HE.o w D.b;obtain⟨i0,hi,aS,aT,aU⟩:=info_parts Tryz.infoPtrS;obtain⟨j0,d,aO,aP,aQ⟩:=info_parts Tryz.infoPtrR;have av:=hE.m1;have ar:=hE.et;have aB:=I av;have aA:=I ar;have aN:=Qg D.nd;clear D ax he hE av ar;go_enter func25,ntmps25;go_wp2_with fail;refine(Ok (sA s) w aB.o aA.o).mono ?_;rintro e K ⟨M,hP⟩;have aW:=I M;have L:=I (A.o.below M);have aJ:=M.size;clear M;rcases hP with⟨aI,rfl⟩ | ⟨ag,y,g,rv,lv,hy,rfl,aV,hc,hr,hb⟩ | ⟨ag,f,hf,rfl⟩
 ·have C:600<s.length:=aI;go_wp2_with fail;refine(N6 s K hs).mono ?_;rintro e l ⟨i,p⟩;rw[if_pos C]at p;subst p;have m:=I (L.o.below i);clear i;go_wp2;go_ret;exact⟨rfl,Z,V,T,cv,ys,ay,az,cs,m.o,X.o,by omega,by omega⟩
 ·have C:¬ 600<s.length:=by have:s.length<=600:=ag;omega
  have ai:prL s=.ok y:=hy;have aq:Hid (UR (fromB w.heap.size) y K (.pointer (some ⟨g,0,none⟩))):=⟨g,rv,lv,rfl,aV,hc,hr,hb⟩;have aC:Hid (∃ t:L8,t.length<=600/\prL t=.ok y):=⟨s,by omega,ai⟩;clear hc hr hb hy;go_wp2_with fail;refine(N6 s K hs).mono ?_;rintro e l ⟨i,p⟩;rw[if_neg C,ai]at p;obtain⟨v2,rfl,S⟩:=p;obtain⟨v,aH⟩:∃ v,v2=.pointer (some ⟨v,0,none⟩):=by obtain⟨v,_,_,h,_⟩:=S;exact⟨v,h⟩
  subst aH;have aK:w.heap.size<=K.heap.size:=aJ;have E:=(L.o.below i).paint (s0:=w.heap.size) (fun _=>0) (fun k c=>A.o.cu k (Qd c)) aN (fun k c=>(A.o.o1.lt k c).2) (fun k c=>(A.o.o2.lt k c).2) (fun k c=>(A.o.o4.lt k c).2);obtain⟨r,ab⟩:=Qe (fun k=>if w.heap.size<=k/\k<l.heap.size then 0 else Z k);rw[ab]at E;have aw:∀ k,w.heap.size<=k->k<l.heap.size->r k=0:=fun k h1 h2=>by rw[<-ab];exact if_pos ⟨h1,h2⟩
  have ap:=I aw;have m:=I E;clear aw ab;have aL:a<l.heap.size:=Qg E.nd;have aj:Hid (UR (fun k=>r k=0) y l (.pointer (some ⟨g,0,none⟩))):=K2.weak _ _ _ _ _ (K2.keep _ _ _ _ _ aq.o (fun k _ c=>i.block k c)) (fun k c G=>ap.o k c G);have ao:Hid (JV (fun k=>r k=0) y l (.pointer (some ⟨v,0,none⟩))):=KW.weak _ _ _ _ _ S (fun k c G=>ap.o k (Qs aK c) G);have aX:=I S;have a2:=i.size;have n0:=Qk E.nd;have ac:=E.o1;clear i S E L A aq ai C;go_wp2_with (at_builtin;refine wpList_append_own_at _ rfl _ _ 39 rfl (a+1) 53 i0 (.pointer none) 1 8 underlying39 hi aS aT aU rfl (by decide) _ _ _ rfl (ac.alloc _) ⟨l.heap.size,0,none⟩ 1 1 [.pointer (some ⟨g,0,none⟩)] rfl rfl ?c1 ?c2 ?c3 ?c4 ?c5 ?_)
  case c1=>
   intro j u d
   match j,d with
   |0,d=>simp at d;subst d;simp[Addr.add]
  case c2=>intro u x;simp at x;subst x;rfl
  case c3=>unfold maxLen;omega
  case c4=>omega
  case c5=>simp;omega
  ·intro v' U ad q _ H;have J:=Kn (gb:=a) ac aL q;have Q:=(J a (Nat.lt_succ_self _)).trans m.o.nd;obtain⟨p5,m5,c5,rfl⟩:=Uz ad;obtain⟨B,P⟩:=QF (U.setCell ⟨a,0,none⟩ (.slice p5 m5 c5));have aD:=I P;have F:=m.o.app1 aj.o q ad H;have a3:l.heap.size+1<=U.heap.size:=by have:=q.size;simp at this;omega
   have ak:Hid (JV (fun k=>r k=0) y B (.pointer (some ⟨v,0,none⟩))):=by
    show JV _ _ _ _
    rw[P];exact KW.keep _ _ _ _ _ ao.o (fun k c G=>GJ m.o m.o.k1 q 0 (.slice p5 m5 c5) k (by have aZ:r k=0:=c;omega) G)
   rw[<-P]at F;have Y:=I F;have f5:=fun o=>Qu Q o
   have t5:=Qk Q;have a0:a<U.heap.size:=Qg Q;have aM:a<B.heap.size:=Qg F.nd;have n1:=Qr F.nd;have ae:=F.o2;clear ad q ac H J Q P F m aj ao n0;go_wp2_with (first|(at_builtin;refine wpList_append_own_at _ rfl _ _ 40 rfl (a+1) 76 j0 (.pointer none) 1 8 underlying40 d aO aP aQ rfl (by decide) _ _ _ rfl (ae.alloc _) ⟨B.heap.size,0,none⟩ 1 1 [.pointer (some ⟨v,0,none⟩)] rfl rfl ?c1 ?c2 ?c3 ?c4 ?c5 ?_)|(rw[<-aD.o]))
   case c1=>
    intro j u d
    match j,d with
    |0,d=>simp at d;subst d;simp[Addr.add]
   case c2=>intro u x;simp at x;subst x;rfl
   case c3=>unfold maxLen;omega
   case c4=>omega
   case c5=>simp;omega
   ·intro a5 w8 af q _ H;have J:=Kn (gb:=a) ae aM q;have R:=(J a (Nat.lt_succ_self _)).trans Y.o.nd;obtain⟨p8,m8,c8,rfl⟩:=Uz af;obtain⟨W9,aa⟩:=QF (w8.setCell ⟨a,1,none⟩ (.slice p8 m8 c8));have aE:=I aa;have ah:=Y.o.app2 ak.o q af H;rw[<-aa]at ah;have aF:=I ah;have f8:=fun o=>Qu R o
    have t8:=Qr R;have a1:a<w8.heap.size:=Qg R;clear af q ae H J R aa ah Y ak n1;go_wp2_with (rw[<-aE.o]);go_wp2;go_ret;refine⟨rfl,r,_,_,cv,ys++[y],_,_,cs,aF.o,fun z aR=>?_,by simp;omega,by omega⟩;rcases List.mem_append.1 aR with h|h
    ·exact X.o z h
    ·rw[XH h];exact aC.o
 ·have C:¬ 600<s.length:=by have:s.length<=600:=ag;omega
  have au:prL s=.error f:=hf;clear hf;go_wp2_with fail;refine(N6 s K hs).mono ?_;rintro e l ⟨i,p⟩;rw[if_neg C,au]at p;have aG:e=.returned (.tuple #[.pointer none,.int .i64 f.err,.int .i64 f.pos]):=p;subst aG;have m:=I (L.o.below i);clear i au p;cases h0:((f.err:Int) != 0)<;>cases h1:((f.err:Int) != 1)
  all_goals
   go_wp2;go_ret;exact⟨rfl,Z,V,T,cv,ys,ay,az,cs,m.o,X.o,by omega,by omega⟩
theorem WldA.code{e:Nat}{f:Nat->Nat}{p:Value}{x y:List J8}{q s:List Value}{a:List YM}(h:WldA e u w f v p b x y q s a)(m:j<a.length):∃ g c,b=.slice (some ⟨g,0,none⟩) a.length c/\g<w.heap.size/\e<g/\w.cell? ⟨g,j*2,none⟩=some a[j].r/\w.cell? ⟨g,j*2+1,none⟩=some a[j].t:=by
 obtain⟨g,c,o,l,n,d⟩:=Xo h.o4 (by omega);obtain⟨i,k⟩:=DN a j m;exact⟨g,c,o,n,l,d _ _ i,d _ _ k⟩
theorem G7(h:Ye X w v l):∃ a c,v=.slice a l.length c:=QQ h.row
theorem LL(b:Nat)(u w:World)(N:Nat)(h:XZ b u N w)(hN:N<=1100000000000) :
 Calls prog 17 #[.pointer (some ⟨b,0,none⟩)] w fun e w'=>e=.returned (.bool true)/\Below w.heap.size w w':=by
 obtain⟨ac,xv,mv,T,ys,ae,af,a,f,_,_,ad⟩:=h;have E:=I f;obtain⟨pc,y,z⟩:=QQ f.o4;have S:=QR f.nd;have x:=QJ f.nd;rw[z]at x;have R:=I z;have A:=Qg f.nd;clear f z;go_enter func17,ntmps17;go_wp2
 go_loopw [3] (fun B wr=>∃ k:Nat,k<=a.length/\B=.int .i64 k/\Hid (Below w.heap.size w wr)) (fun B _=>a.length - (intOf B).toNat)
 case atStart=>exact⟨0,QE,rfl,Below.refl _ _⟩
 case round=>
  obtain⟨k,hk,rfl,c⟩:=hrel;have d2:wr.cell? ⟨b,2,none⟩=some (.slice pc a.length y):=by rw[c.o.cell (p:=⟨b,2,none⟩) A];exact x
  have d3:wr.cell? ⟨b,3,none⟩=some (.slice none 0 0):=by rw[c.o.cell (p:=⟨b,3,none⟩) A];exact S
  by_cases hlt:k<a.length
  ·have ab:(k:Int)<(a.length:Int):=by omega
   obtain⟨g,c',v,n,_,j,m⟩:=E.o.code hlt;rw[R.o]at v;injection v with v _ hcc
   subst v;have U:wr.cell? ⟨g,k*2,none⟩=some a[k].r:=by rw[c.o.cell (p:=⟨g,k*2,none⟩) n];exact j
   have V:wr.cell? ⟨g,k*2+1,none⟩=some a[k].t:=by rw[c.o.cell (p:=⟨g,k*2+1,none⟩) n];exact m
   have d:=E.o.kc k hlt;obtain⟨F,K,q⟩:=G7 d.r;obtain⟨G,L,s⟩:=G7 d.t
   have D:Hid (∀ W,Below w.heap.size w W->Calls prog 35 #[a[k].r,a[k].t] W fun e w'=>e=.returned (.bool true)/\Below W.heap.size W w'):=fun W H=>by
    exact BD a[k].l _ _ W ((JA.of_owns d.r.row).below H) ((JA.of_owns d.t.row).below H) (D8 d.r.row)
   rw[q,s]at D;rw[q]at U;rw[s]at V;rw[q]at j;rw[s]at m;have M:=I j;have P:=I m;clear j m d q s hcc;go_wp2;go_region_held3 (fun w'=>w'.cell? ⟨b,2,none⟩=some (.slice (some ⟨g,0,none⟩) a.length y)/\w'.cell? ⟨g,k*2,none⟩=some (.slice F a[k].l.length K)/\w'.cell? ⟨g,k*2+1,none⟩=some (.slice G a[k].l.length L)) (first|go_keep|exact⟨X,Y,Z⟩) (first|(go_at_call 35;refine(D.o wr.drew c.o.drew).mono ?_;rintro e C ⟨rfl,J⟩;have i:=c.o.drew.trans (J.mono c.o.size);have X:C.cell? ⟨b,2,none⟩=some (.slice (some ⟨g,0,none⟩) a.length y):=(by rw[i.cell (p:=⟨b,2,none⟩) A];exact x);have Y:C.cell? ⟨g,k*2,none⟩=some (.slice F a[k].l.length K):=(by rw[i.cell (p:=⟨g,k*2,none⟩) n];exact M.o);have Z:C.cell? ⟨g,k*2+1,none⟩=some (.slice G a[k].l.length L):=(by rw[i.cell (p:=⟨g,k*2+1,none⟩) n];exact P.o);have Q:=I i;clear J i;skip))
   all_goals go_wp2
   all_goals go_roundw
   all_goals first
    |exact⟨k+1,by omega,by go_num,Q⟩
    |(simp[intOf];omega)
  ·have aa:k=a.length:=by omega
   subst aa;have ab:¬(a.length:Int)<(a.length:Int):=by omega
   go_wp2;refine wp_loop_rounds 1 ?_;rw[rounds_succ];go_wp2;go_ret;exact⟨rfl,c.o⟩
def Nv(wb:Nat)(u:World)(col:Nat->Nat)(xv mv cv:Value)(ys:List J8)(vs1 vs2:List Value)(n:Nat)(w w':World):Prop:=(∃ cs,WldA wb u w' col xv mv cv ys ys vs1 vs2 cs/\cs.length=n)/\w.heap.size<=w'.heap.size/\∀ k,col k=1->k<w.heap.size->w'.heap[k]?=w.heap[k]?
theorem Cf:∀(l:List (Int×L8)) (i:Nat) (a:Int) (s:L8),((QZ l).set (i*2) (.int .i64 a)).set (i*2+1) (.string (sA s))=QZ (l.set i (a,s))
 | [],i,a,s=>rfl
 |x::r,0,a,s=>rfl
 |x::r,i+1,a,s=>by
  have b:(i+1)*2=i*2+1+1:=by omega
  rw[b];exact congrArg (fun t=>Value.int .i64 x.1 :: .string (sA x.2)::t) (Cf r i a s)
theorem Ye.wr(h:Ye X w (.slice (some ⟨g,0,none⟩) l.length c) l)(i:Nat)(a:Int)(s:L8):Ye X ((w.setCell ⟨g,i*2,none⟩ (.int .i64 a)).setCell ⟨g,i*2+1,none⟩ (.string (sA s))) (.slice (some ⟨g,0,none⟩) l.length c) (l.set i (a,s)):=by
 obtain⟨b,_⟩:=h.row.stored (i*2) (.int .i64 a);obtain⟨d,_⟩:=b.stored (i*2+1) (.string (sA s));refine⟨?_,h.xr⟩;rw[List.length_set,<-Cf];exact d
theorem EG{cs:Array Value}{t:TypeId}(h:w.heap[g]?=some (.cells cs t))(hp:∀ o,P g o)(i j:Nat)(x y:Value):Fr P w ((w.setCell ⟨g,i,none⟩ x).setCell ⟨g,j,none⟩ y):=((Fr.refl P w).set h (hp _) i x).set (Qt _ _ _ _ _ _ h) (hp _) j y
theorem GW(c:Fr P w w')(d:k<w.heap.size)(e:∀ o:Obj,¬ P k o):w'.heap[k]?=w.heap[k]?:=by
 obtain⟨a,b⟩:∃ a,w.heap[k]?=some a:=⟨w.heap[k],Array.getElem?_eq_getElem d⟩;rw[b];exact c.block k a b (e a)
theorem LY(z:Nat)(u w:World)(N:Nat)(x:OpD)(v:Nat->Nat)(xv mv cv:Value)(ys:List J8)(aw ax:List Value)(d:List YM)(hw:WldA z u w v xv mv cv ys ys aw ax d)(bN:d.length<=N)(hN:N<=1100000000000)(hx:UV x)(hs:x.s.length<=65536)(hh:∃ a n c,x.hv=.slice a n c)(S:∃ a n c,x.cv=.slice a n c) :
 Calls prog 24 #[.pointer (some ⟨z,0,none⟩),opV x] w fun e w'=>e=.returned (.tuple #[])/\Nv z u v xv mv cv ys aw ax d.length w w':=by
 have HH:=I hh;have bI:=I S;have HX:=I hx;obtain⟨a1,Y,c1,aU⟩:=hh;obtain⟨a2,Z,ah,aT⟩:=S;obtain⟨bk,bl⟩:=hx.a;obtain⟨bm,bn⟩:=hx.b;have ba:Hid (opV x=.agg #[.int .i64 x.kind,.int .i64 x.a,.int .i64 x.b,.string (sA x.s),.string (sA x.fr),.string (sA x.tt),.int .i64 x.sz,.slice a1 Y c1,.slice a2 Z ah]):=by show _=_;unfold opV;rw[aU,aT]
 rw[ba.o];obtain⟨i,ak⟩:=QF (w.alloc (.cells #[.int .i64 x.kind,.int .i64 x.a,.int .i64 x.b,.string (sA x.s),.string (sA x.fr),.string (sA x.tt),.int .i64 x.sz,.slice a1 Y c1,.slice a2 Z ah] 47));have aA:=I ak;have R:Below w.heap.size w i:=by rw[ak];exact Qp _
 have B:i.heap[w.heap.size]?=some (.cells #[.int .i64 x.kind,.int .i64 x.a,.int .i64 x.b,.string (sA x.s),.string (sA x.fr),.string (sA x.tt),.int .i64 x.sz,.slice a1 Y c1,.slice a2 Z ah] 47):=by rw[ak];exact QC _ _
 have P:=hw.below R;have aB:=I P;obtain⟨f,aL⟩:=Qe (w.heap.size);rw[aL]at B;have az:=I aL;have a8:=I B;have aY:v f=1:=hw.cu f (Qd (by omega));have a9:=I aY;obtain⟨pc,cc,aE⟩:=QQ P.o4;have e3:=QR P.nd;have e2:i.cell? ⟨z,2,none⟩=some (.slice pc d.length cc):=by rw[<-aE];exact Qi P.nd 2
 have aQ:=I aE;have bD:=Qg P.nd;have bV:f<i.heap.size:=Qg B;have q0:=Qk B;have q1:=Qr B;have q2:=QJ B;have q3:=QR B;have q4:=QV B;have q5:=Q9 B;have q6:=Zz B;have q7:=Yf B;have q8:=JG B;have ay:Hid (∀ W,Below i.heap.size i W->Nv z u v xv mv cv ys aw ax d.length w W):=fun W hW=>⟨⟨d,P.below hW,rfl⟩,Qs R.size hW.size,fun k _ y=>(R.trans (hW.mono R.size)).block k y⟩
 have ac:=I R;clear hw P aU aT ak R B aL aY aE hx;go_enter func24,ntmps24;by_cases M:x.kind=6/\0<d.length;rotate_left
 ·by_cases y:x.kind=6
  ·have ar:d=[]:=Xz (by omega);subst ar;have k6:(x.kind==6)=true:=by rw[y];rfl
   have k7:(x.kind==7)=false:=by rw[y];rfl
   clear y M;go_wp2_with (first|(rw[<-aA.o,az.o];skip))
   all_goals go_end0
   all_goals exact⟨rfl,ay.o _ (Below.refl _ _)⟩
  ·have k6:(x.kind==6)=false:=by simpa using y
   clear y M;cases k7:(x.kind==7)
   all_goals go_wp2_with (first|(rw[<-aA.o,az.o];skip))
   all_goals go_end0
   all_goals exact⟨rfl,ay.o _ (Below.refl _ _)⟩
 ·obtain⟨M,ar⟩:=M;have k6:(x.kind==6)=true:=by rw[M];rfl
  have k7:(x.kind==7)=false:=by rw[M];rfl
  have bM:(0:Int)<(d.length:Int):=by omega
  have bO:¬ d.length=0:=by omega
  obtain⟨j,hj⟩:=Qe (pickL x.a d.length);have av:j<d.length:=by rw[<-hj];exact AE _ ar
  have bc:Hid (∀ W,Calls prog 31 #[.int .i64 x.a,.int .i64 d.length] W fun e w'=>e=.returned (.int .i64 j)/\w'=W):=fun W=>by rw[<-hj];exact Ao x.a d.length W bk bl ar (by omega)
  clear M hj;obtain⟨g,c',hv,hg,bW,L,h2⟩:=aB.o.code av;rw[aQ.o]at hv;injection hv with hv _ hcc
  subst hv;have ab:=aB.o.kc j av;obtain⟨r1,r2,hr⟩:=G7 ab.r;obtain⟨t1,t2,ht⟩:=G7 ab.t;have bJ:=I ab;have HR:=I hr;have HT:=I ht;rw[hr]at L;rw[ht]at h2;have aZ:=ab.b;obtain⟨D,aK⟩:=Qe (d[j].l.length);rw[aK]at L h2 aZ;have ae:=I aK;clear ab hr ht hcc aK;go_wp2_with (first|(rw[<-aA.o,az.o];skip));go_quiet (first|(go_at_call 31;refine Calls.quiet_of_same (bc.o _)));generalize hWW:i.drewN _=V;have H:∀ a:Addr,V.cell? a=i.cell? a:=fun a=>by rw[<-hWW];rfl
  have K:Hid (Below i.heap.size i V):=by rw[<-hWW];exact⟨rfl,rfl,rfl,Nat.le_refl _,fun _ _=>rfl⟩
  have d2:=(H _).trans e2;have d3:=(H _).trans e3;have d0:=(H _).trans L;have d1:=(H _).trans h2;have p0:=(H _).trans q0;have p1:=(H _).trans q1;have p2:=(H _).trans q2;have p3:=(H _).trans q3;have ag:=I (aB.o.below K.o);have bK:=I (QP a8.o K.o);clear hWW H e3 L h2 q0 q1 q2 q3 q4 q5 q6 q7 q8 e2;by_cases hnp0:0<D;rotate_left
  ·have bv:¬(0:Int)<(D:Int):=by omega
   have bT:D=0:=by omega
   go_wp2;go_end0;exact⟨rfl,ay.o _ K.o⟩
  ·have bv:(0:Int)<(D:Int):=by omega
   have bS:¬ D=0:=by omega
   obtain⟨q,aJ⟩:=Qe (pickL x.b D);have bs:q<D:=by rw[<-aJ];exact AE _ hnp0
   have bb:Hid (∀ W,Calls prog 31 #[.int .i64 x.b,.int .i64 D] W fun e w'=>e=.returned (.int .i64 q)/\w'=W):=fun W=>by rw[<-aJ];exact Ao x.b D W bm bn hnp0 (by omega)
   clear aJ;go_wp2_with fail;refine(bb.o _).mono ?_;rintro e A ⟨rfl,bj⟩;subst bj;have J:=ag.o.kc j av;have a3:z<A.heap.size:=Zs bD K.o.size;obtain⟨p,cr,U,_,bQ,aG⟩:=Xo J.r.row (by rw[ae.o];exact hnp0);obtain⟨m,F,X,_,aI,aH⟩:=Xo J.t.row (by rw[ae.o];exact hnp0);have T:v p=2+2*j:=J.r.xr p (by rw[U];rfl);have aa:v m=3+2*j:=J.t.xr m (by rw[X];rfl);have bt:q<d[j].l.length:=by rw[ae.o];exact bs
   obtain⟨aC,aD⟩:=K0 d[j].l q bt;have y0:=aG _ _ aC;have y1:=aG _ _ aD;have z0:=aH _ _ aC;have z1:=aH _ _ aD;have e1:r1=some ⟨p,0,none⟩/\r2=cr:=by rw[HR.o]at U;injection U with a _ b;exact⟨a,b⟩
   have e2:t1=some ⟨m,0,none⟩/\t2=F:=by rw[HT.o]at X;injection X with a _ b;exact⟨a,b⟩
   obtain⟨rfl,rfl⟩:=e1;obtain⟨rfl,rfl⟩:=e2;have bo:∀ o,A.frozen? ⟨p,o,none⟩=false:=World.ownsRow.frozenAt (n:=d[j].l.length) (by rw[<-U];exact J.r.row);have bp:∀ o,A.frozen? ⟨m,o,none⟩=false:=World.ownsRow.frozenAt (n:=d[j].l.length) (by rw[<-X];exact J.t.row);have bC:v z=1:=ag.o.cu z (Qc Ql);have bq:v g=1:=ag.o.k4 g (by rw[aQ.o];rfl);have bw:=a9.o;have Y:p≠z:=fun e=>by rw[e]at T;omega
   have Z:p≠g:=fun e=>by rw[e]at T;omega
   have n3:p≠f:=fun e=>by rw[e]at T;omega
   have n4:p≠m:=fun e=>by rw[e]at T;omega
   have n5:m≠z:=fun e=>by rw[e]at aa;omega
   have n6:m≠g:=fun e=>by rw[e]at aa;omega
   have n7:m≠f:=fun e=>by rw[e]at aa;omega
   have m1:z≠p:=Y.symm;have m2:g≠p:=Z.symm;have m3:f≠p:=n3.symm;have m4:m≠p:=n4.symm;have ad:=I J;have af:=I U;have aS:=I X;have aO:=I T;have aP:=I aa;obtain⟨o0,aW⟩:=Qe (Value.int .i64 d[j].l[q].1);obtain⟨o1,aX⟩:=Qe (Value.string (sA d[j].l[q].2));rw[aW]at y0 z0;rw[aX]at y1 z1;clear J U X T aa bC bq bw aC aD aG aH aW aX;go_wp2_with fail;go_region;have hd:=af.o
   have ao:∃ F ty,A.heap[p]?=some (.cells F ty):=by
    obtain⟨F,S⟩:=U7 ad.o.r.row (k:=p) (by rw[af.o];rfl);exact⟨F,_,S⟩
   have ap:∃ F ty,A.heap[m]?=some (.cells F ty):=by
    obtain⟨F,S⟩:=U7 ad.o.t.row (k:=m) (by rw[aS.o];rfl);exact⟨F,_,S⟩
   obtain⟨C,ai⟩:=QF ((A.setCell ⟨p,q*2,none⟩ (.int .i64 x.a)).setCell ⟨p,q*2+1,none⟩ (.string (sA x.s)));rw[<-ai];obtain⟨bL,bY,ao⟩:=ao;obtain⟨bi,bE,ap⟩:=ap;have aF:Fr (fun k _=>k=p) A C:=by rw[ai];exact EG ao (fun _=>rfl) _ _ _ _
   have a5:Ye (fun k=>v k=2+2*j) C d[j].r (d[j].l.set q (x.a,x.s)):=by
    rw[ai,af.o];have:=ad.o.r;rw[af.o]at this;exact this.wr q x.a x.s
   have aq:∀ k,k≠p->k<A.heap.size->C.heap[k]?=A.heap[k]?:=fun k y Q=>GW aF Q (fun _=>y)
   have G:∀ k,k≠p->k<A.heap.size->∀ o,C.cell? ⟨k,o,none⟩=A.cell? ⟨k,o,none⟩:=fun k y Q o=>ZA (a:=⟨k,o,none⟩) (aq k y Q)
   have w2:=(G z m1 a3 _).trans d2;have w3:=(G z m1 a3 _).trans d3;have br:g<A.heap.size:=Qq d1;have aM:f<A.heap.size:=Qq p1;have w1:=(G g m2 br _).trans d1;have x0:=(G f m3 aM _).trans p0;have x1:=(G f m3 aM _).trans p1;have x3:=(G f m3 aM _).trans p3;have bG:=(G m m4 aI _).trans z0;have bH:=(G m m4 aI _).trans z1;have aN:C.heap[m]?=some (.cells bi bE):=(aq m m4 aI).trans ap;have bP:∀ o,C.frozen? ⟨m,o,none⟩=false:=fun o=>Qu aN o
   have aR:=I aF;have bg:=I a5;have bf:=I aN;have a7:=I aq;clear d0 d1 d2 d3 p0 p1 p2 p3 y0 y1 z0 z1 bo bp ai ao ap aF a5 aq G aN hd;go_wp2_with fail;go_region;obtain⟨E,aj⟩:=QF ((C.setCell ⟨m,q*2,none⟩ (.int .i64 x.a)).setCell ⟨m,q*2+1,none⟩ (.string (sA x.s)));rw[<-aj];have au:Fr (fun k _=>k=m) C E:=by rw[aj];exact EG bf.o (fun _=>rfl) _ _ _ _
   have bX:=aR.o.size;have hf:Fr (fun k _=>v k=2+2*j\/v k=3+2*j) A E:=(aR.o.mono (fun k _ e=>Qd (by rw[e];exact aO.o))).trans (au.mono (fun k _ e=>Qc (by rw[e];exact aP.o)));have a6:Ye (fun k=>v k=2+2*j) E d[j].r (d[j].l.set q (x.a,x.s)):=bg.o.keep (fun k y Q=>GW au Q (fun _ e=>by have bu:v k=2+2*j:=y;have e':k=m:=e;have:=aP.o;rw[<-e']at this;omega))
   have a0:Ye (fun k=>v k=3+2*j) E d[j].t (d[j].l.set q (x.a,x.s)):=by
    have L:=ad.o.t.keep (w':=C) (fun k y Q=>a7.o k (fun e=>by have bu:v k=3+2*j:=y;have:=aO.o;rw[<-e]at this;omega) Q);rw[aS.o]at L ⊢;rw[aj];exact L.wr q x.a x.s
   have a4:=ag.o.wrote av hf a6 a0 (by rw[List.length_set,ae.o];exact aZ);have bd:Hid (Nv z u v xv mv cv ys aw ax d.length w E):=⟨⟨_,a4,by rw[List.length_set]⟩,Qs (Qs ac.o.size K.o.size) hf.size,fun k bR aV=>by rw[GW hf (Zs (Zs aV ac.o.size) K.o.size) (fun _ h=>by rcases h with h|h<;>omega)];exact(ac.o.trans (K.o.mono ac.o.size)).block k aV⟩;have bF:E.cell? ⟨f,0,none⟩=some (.int .i64 x.kind):=(ZA (a:=⟨f,0,none⟩) (GW au (Qq x0) (fun _ e=>n7 (by have e':f=m:=e;exact e'.symm)))).trans x0;have bU:f<E.heap.size:=Qq bF;clear aj au hf a6 a0 a4 w1 w2 w3 x0 x1 x3 bG bH;go_wp2;go_end0;obtain⟨⟨bh,bx,bz⟩,bA,bB⟩:=bd.o;exact⟨rfl,⟨bh,bx.below ⟨rfl,rfl,rfl,Nat.le_refl _,fun _ _=>rfl⟩,bz⟩,bA,bB⟩
end Go.Proofs.YtgnkjijocdmniaaGreatDoor
