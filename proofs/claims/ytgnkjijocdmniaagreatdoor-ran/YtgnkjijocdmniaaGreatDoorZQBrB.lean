import Derived.Test.YtgnkjijocdmniaaGreatDoorZQCmdL
namespace Go.Proofs.YtgnkjijocdmniaaGreatDoor
set_option linter.all false
set_option maxRecDepth 100000
set_option maxHeartbeats 4000000
open Go.Proofs.Tryz
open Go.RowKit
variable{α:Type}{F n pos:Nat}{l:L8}{st:Qq PS}{sub:PS->Qq (α×PS)}{w:World}{xs:List Value}
section
attribute [local go_sem ↓] Zt Zu
theorem Tryz.infoPtrTest:(prog.info? 158).map (fun i=>(i.zero,i.size,i.bytes))=some (some (.pointer none),1,8):=Qm
theorem Qwd:stOf (bindS st (tBd l F sub 3 pos))=stOf (bindS st (groupL l F sub))/\∀y,bindS st (tBd l F sub 3 pos)=.ok y->∃z,bindS st (groupL l F sub)=.ok z/\y.1=(⟨3,pos,0,false,[],[],0⟩,z.1):=by
 cases st with
 |error g=>exact⟨rfl,fun y e=>by cases e⟩
 |ok s=>
  simp only[bindS,tBd]
  cases groupL l F sub s with
  |error g=>exact⟨rfl,fun y e=>by cases e⟩
  |ok z=>exact⟨rfl,fun y e=>⟨z,rfl,by cases e;rfl⟩⟩
theorem Qv1:stOf (bindS st (tBd l F sub 4 pos))=stOf (bindS st (groupL l F sub))/\∀y,bindS st (tBd l F sub 4 pos)=.ok y->∃z,bindS st (groupL l F sub)=.ok z/\y.1=(⟨4,pos,0,false,[],[],0⟩,z.1):=by
 cases st with
 |error g=>exact⟨rfl,fun y e=>by cases e⟩
 |ok s=>
  simp only[bindS,tBd]
  cases groupL l F sub s with
  |error g=>exact⟨rfl,fun y e=>by cases e⟩
  |ok z=>exact⟨rfl,fun y e=>⟨z,rfl,by cases e;rfl⟩⟩
theorem KG{base T o:Nat}{x:Value}{e:TypeId}{size:Nat}{v:Value}(h:w.ownsRow base e size v n xs)(k:T<base):(w.setCell ⟨T,o,none⟩ x).ownsRow base e size v n xs:=by
 obtain⟨d,a⟩:=h;refine⟨d,?_⟩;rcases a with a | ⟨g,b,c,j,f,i,r⟩
 .exact Qt a
 .exact Qr ⟨g,b,c,j,f,by rw[Q' (show g≠T by omega)];exact i,r⟩
def Cx(w:World)(gb:Nat)(nm:L8)(tv:Value):Prop:=w.heap[gb]?=some (Qe #[Qf nm,tv,Qp,Qp,Qa 0,.bool false,Qa 0] 200)
theorem Hd{rb tb:Nat}{nv:Value}{rq:Qn}(ao:Nat)(G:RdI w rb tb nv rq)(h:TSt w tb l st)(S:l.length<=600)(hF:2*l.length+2<=F)(hd:ao+n=6)(hI:TOk rb tb nv rq l F n (ao+1))(d:(Qk l st).1=119)(hw:(Qk l st).2.1=JV\/(Qk l st).2.1=JU):Calls prog 214 #[Qc rb,Qa ao] w (Zq (bindS st (QP l rq F (n+1))) tb l w (RTest (n+1) (fromB w.heap.size)) YW):=by
 rcases hw with hw|hw
 all_goals
  first|(have HX:Hid (bindS st (QP l rq F (n+1))=bindS (nextS l st) (tBd l F (QP l rq F n) 3 (Qk l st).2.2.2)):=(by show _=_;rw[U9 h d (by rw[hw];decide),hw,GW Qb Qb];rfl);have HP:=O (Qwd (l:=l) (F:=F) (pos:=(Qk l st).2.2.2) (sub:=QP l rq F n) (st:=nextS l st)))|(have HX:Hid (bindS st (QP l rq F (n+1))=bindS (nextS l st) (tBd l F (QP l rq F n) 4 (Qk l st).2.2.2)):=(by show _=_;rw[U9 h d (by rw[hw];decide),hw,GW Qb Qb];rfl);have HP:=O (Qv1 (l:=l) (F:=F) (pos:=(Qk l st).2.2.2) (sub:=QP l rq F n) (st:=nextS l st)))
  have r0:=Qj G.r 0;obtain⟨c2,c4,c5,c6,c7⟩:=h.cells;have HR:=O G;have ba:=QI G.r;have bb:=h.lt;have Q:w.heap.size≠tb:=I
  obtain⟨s0,aR,_,_⟩:=XS h d;have he:errS st=0:=by rw[aR];rfl
  have aK:((errS st:Int) != 0)=false:=by simp;omega
  have aL:(((Qk l st).1:Int) != 119)=false:=by simp;omega
  have a9:=QB I;obtain⟨i,aP⟩:=Qw ((Qk l st).2.1);rw[aP]at c5 hw;have x:=hw;have e0:=QG [116,114,117,101] x rfl
  have e1:=QG [102,97,108,115,101] x rfl
  have e2:=QG [110,111,116] x rfl
  first|(have e3:((sA i).toList==[97,108,108,111,102])=true:=(by rw[Z3,x];decide))|(have e3:((sA i).toList==[97,108,108,111,102])=false:=(by rw[Z3,x];decide))
  first|(have e4:((sA i).toList==[97,110,121,111,102])=true:=(by rw[Z3,x];decide))|(have e4:((sA i).toList==[97,110,121,111,102])=false:=(by rw[Z3,x];decide))
  obtain⟨J,Z⟩:=Q3 (w.alloc (Qe #[Qf i,Qp,Qp,Qp,Qa 0,.bool false,Qa 0] 200));have bo:=O Z;have aB:Hid (Mod tb w J):=by show Mod _ _ _;rw[Z];exact(Mod.refl _ _).alloc _
  have aC:Hid (YD J w.heap.size i 0 false):=by show J.heap[w.heap.size]?=_;rw[Z];exact Q0
  have aH:Hid (TSt J tb l st):=by show TSt _ _ _ _;rw[Z];exact h.below (QH _)
  clear h G Z aR he d aP;have bn:=O hw;clear hw x;have HI:=O hI;clear hI;have aU:=O (fun s hs=>NQ (l:=l) (req:=rq) (F:=F) n s hs);obtain⟨i0,hi,a6,a7,a8⟩:=ZU Tryz.infoPtrTest;go_enter func214,ntmps214;go_wp2_with fail;rw[<-bo.o];refine Qv (X0 aH S) ?_;rintro w1 ⟨aq,ay⟩;have ag:=O (aB.o.trans aq);have aD:=O (QY aC aq Q);have bi:=O ay;clear aq ay;go_wp2_with fail;refine Qv (KJ 40 (HR.o.mod ag).r bi S) ?_;rintro w2 ⟨ar,U⟩;have ah:=O (ag.o.trans ar);have aj:=O (QY aD ar Q);have bg:=O U;have af:=O (QvB (F:=F) (sub:=QP l rq F n) bi U S hF);have aO:=AV U S;clear ar U ag aD aC aB aH;generalize bindS (nextS l st) (groupL l F (QP l rq F n))=R at *;go_upto_block 1 with fail
  go_cut [] (fun wx=>∃(c:Qq PS) (m:List Value) (q:Value),Cx wx w.heap.size i q/\wx.ownsRow (w.heap.size+1) 158 1 q m.length m/\TSt wx tb l c/\Mod tb w wx/\stOf R=signS l 41 c/\∀y,R=.ok y->y.1≠[]/\Zz (fun a u=>ZD (RTest n) (w.heap.size+1) wx q a u) y.1 m)
  case first=>
   go_wp2_with fail
   go_loopg [7] (muS l (signS l 40 (nextS l st))) (fun k _ wr=>∃(c:Qq PS) (W:List (Zn n)) (m:List Value) (q:Value),k=muS l c/\Cx wr w.heap.size i q/\wr.ownsRow (w.heap.size+1) 158 1 q m.length m/\TSt wr tb l c/\Mod tb w wr/\A5 R l (QP l rq F n) c W/\m.length+muS l c<=1300/\∀s,c=.ok s->Zz (fun a u=>ZD (RTest n) (w.heap.size+1) wr q a u) W m)
   case atStart=>exact⟨_,[],[],_,rfl,aj,Z5,bg,ah,af,by simp;omega,fun _ _=>trivial⟩
   case round=>
    obtain⟨c,W,m,q,rfl,L,E,M,D,K,aM,aQ⟩:=hrel;have bf:=O L;have bd:=O E;have bj:=O M;have bh:=O D;have aA:=O K;have bl:=O aQ;have a4:=QI L;have az:=O (HI c wr (HR.o.mod D) M);clear E M D K aQ L af bg aj ah aO;go_wp2_with fail;refine az.mono ?_;rintro e w3 h3;obtain⟨t,V,v,rfl,⟨N,rfl⟩,aT⟩:=h3.st;have X:=O (Qxk aU aA bj V);have Y:=O (bh.o.trans t);have ab:=O V;have au:=XP (b:=tb) bd t I;have T:=QY bf t Q;have aW:=O T;have bc:=QI T;have t1:=Qj T 1;have a2:=O (fun k d=>(bd.o.lt k d).2)
    have a1:Hid (∀z,bindS c (QP l rq F n)=.ok z->Zz (fun a u=>ZD (RTest n) (w.heap.size+1) w3 q a u) (W++[z.1]) (m++[Qc N])):=by
     intro z g
     obtain⟨s,hs⟩:∃s,c=.ok s:=by
      cases c with
      |ok s=>exact⟨s,rfl⟩
      |error f=>cases g
     exact Zz.snoc (P:=fun a u=>ZD (RTest n) (w.heap.size+1) w3 q a u) (GathQ.new (XX n) (aT z g) a4 a2) ((bl s hs).imp (fun a u A=>GathQ.mod (XX n) (b:=tb) A t I))
    obtain⟨p,ax⟩:=Qw (stOf (bindS c (QP l rq F n)));rw[ax]at X ab;clear h3 t V aT T bd bf bj bh aA az;go_wp2_with (at_builtin;refine Kf _ rfl _ _ 152 rfl (w.heap.size+1) 158 i0 (.pointer none) 1 8 underlying152 hi a6 a7 a8 rfl Qb _ _ _ rfl (au.alloc _) ⟨w3.heap.size,0,none⟩ 1 1 [Qc N] rfl rfl ?c1 ?c2 ?c3 ?c4 ?c5 ?_)
    case c1=>
     intro j u K
     match j,K with
     |0,K=>simp at K;subst K;simp[Addr.add]
    case c2=>intro u A;simp at A;subst A;rfl
    case c3=>unfold maxLen;omega
    case c4=>omega
    case c5=>simp;omega
    .intro v' w5 av ad _ aJ;have aw:∀k,q.ownBlock=some k->w.heap.size+1<=k:=fun k d=>(au.lt k d).1
     have aN:=(Y.o.alloc (Obj.cells #[Qc N] 158)).grown ad (fun k d=>by have:=aw k d;omega)
     have ap:∀k,k<w.heap.size+1->w5.heap[k]?=w3.heap[k]?:=fun k d=>by
      rw[ad.block k (by simp;omega) (fun e=>by have:=aw k e.symm;omega)];exact ZL _ _ _ I
     have ae:=(ap w.heap.size I).trans aW;obtain⟨p5,m5,ac,rfl⟩:=G2 av;obtain⟨B,C⟩:=Q3 (w5.setCell ⟨w.heap.size,1,none⟩ (.slice p5 m5 ac));have bk:=O C;have ai:Hid (Mod tb w B):=by show Mod _ _ _;rw[C];exact aN.setNew QF _ _
     have aE:Hid (Cx B w.heap.size i (.slice p5 m5 ac)):=by show B.heap[w.heap.size]?=_;rw[C];exact QM ae
     have aF:Hid (B.ownsRow (w.heap.size+1) 158 1 (.slice p5 m5 ac) (m++[Value.pointer (some ⟨N,0,none⟩)]).length (m++[Qc N])):=by
      show World.ownsRow _ _ _ _ _ _ _
      rw[C];exact KG (by simpa using av) I
     have ak:Hid (TSt B tb l p):=by
      show TSt _ _ _ _
      rw[C];exact(ab.o.block (ap tb I)).block (Q' (Ne.symm Q))
     have aG:Hid (∀z,bindS c (QP l rq F n)=.ok z->Zz (fun a u=>ZD (RTest n) (w.heap.size+1) B (.slice p5 m5 ac) a u) (W++[z.1]) (m++[Qc N])):=by
      intro z g;rw[C];exact(a1 z g).imp (fun a u A=>GathQ.set (XX n) (GathQ.grown (XX n) A ad aJ) I _ _)
     have f5:=fun o=>QQ ae o
     have t5:=Qj ae 1;obtain⟨q2,q4,_,_,_⟩:=ak.o.cells;have qr:=Qj (HR.o.mod ai).r 0;clear av ad au aw aJ aN ap ae C;by_cases d:(Qk l p).1=44
     .obtain⟨he,a3,z,g,x⟩:=X.1 d;have aL:(((Qk l p).1:Int) != 44)=false:=by simp;omega
      have aK:((errS p:Int) != 0)=false:=by simp;omega
      have bp:=O x;have HZ:=O g;clear x g X ax ab aW Y;go_wp2_with (rw[<-bk.o]);go_wp2_with fail;refine Qv (X0 (ak.o.block rfl) S) ?_;rintro w7 ⟨aa,aS⟩;have aV:=O (ai.o.trans aa);have bm:=O aS;have aZ:=O (XP (b:=tb) aF aa I);have aX:=O (QY aE aa Q);have a0:=O ((aG z HZ).imp (fun a u A=>GathQ.mod (XX n) (b:=tb) A aa I));clear aa aS;go_wp2;go_roundg (muS l (nextS l p))
      case measure=>exact a3
      case rel=>exact⟨nextS l p,W++[z.1],_,_,rfl,aX,aZ,bm,aV,bp,by simp;omega,fun _ _=>a0⟩
     .obtain⟨hR,H⟩:=X.2 d;have aL:(((Qk l p).1:Int) != 44)=true:=by simp;omega
      have HY:=O H;clear H X ax ab aW Y;cases aK:((errS p:Int) != 0)
      all_goals go_wp2_with (rw[<-bk.o])
      all_goals go_wp2
      all_goals go_meet
      all_goals
       refine⟨p,_,_,aE,aF,ak,ai,hR,fun y e=>?_⟩;obtain⟨z,g,h⟩:=HY y e;rw[h];exact⟨Qh,aG z g⟩
  case rest=>
   obtain⟨c,m,q,L,E,M,D,hR,H⟩:=hcut;have HS:=O (KJ 41 (HR.o.mod D).r M S);have bd:=O E;have HM:=O D;have HY:=O H;have bf:=O L;clear M D E H L af bg aj ah aO;go_wp2_with fail;refine HS.mono ?_;rintro e w3 ⟨rfl,t,V⟩;have Y:=O (HM.o.trans t);have ab:=O V;have aY:=O (XP (b:=tb) bd t I);have aW:=O (QY bf t Q);have aI:=O (fun y e=>(HY y e).2.imp (fun a u A=>GathQ.mod (XX n) (b:=tb) A t I));clear t V;go_wp2;go_ret;refine Zq.mk Y (by rw[(ZI stOf HX).trans HP.1,hR];exact ab) ⟨_,rfl⟩ (fun y e=>?_);obtain⟨z,g,a5⟩:=HP.2 y (HX.symm.trans e);rw[a5];refine Vz QF aW bn.symm (Qr ⟨(HY z g).1,?_⟩) (Qt ⟨rfl,rfl⟩) (Qt ⟨rfl,rfl⟩);have aM:=U8 (aI z g);have ho:=aY.o;rw[<-aM]at ho;exact trX.weakQ (XX n) (HY z g).1 (trX.of_ownsQ (XX n) ho rfl (HY z g).1 (aI z g)) (fun k d _=>QE (Nat.le_succ _) d)
end
def Zo{α:Type}(P:(Nat->Prop)->α->World->Value->Prop)(base:Nat)(w:World)(v1 v2:Value)(a:α)(u:Value):Prop:=
 ∃X,P X a w u/\(∀k,X k->base<=k/\k<w.heap.size)/\∀g,v1.ownBlock=some g\/v2.ownBlock=some g->¬X g
section
variable {α:Type} {P:(Nat->Prop)->α->World->Value->Prop} {base:Nat} {w w':World} {v1 v2:Value} {a:α} {u:Value}
theorem Zo.swap(h:Zo P base w v1 v2 a u):Zo P base w v2 v1 a u:=by
 obtain⟨X,b,c,d⟩:=h;exact⟨X,b,c,fun g e=>d g e.symm⟩
theorem Zo.left(h:Zo P base w v1 v2 a u):ZD P base w v1 a u:=by
 obtain⟨X,b,c,d⟩:=h;exact⟨X,b,c,fun g e=>d g (Qt e)⟩
theorem Zo.mod(j:TreeQ P){b:Nat}(h:Zo P base w v1 v2 a u)(f:Mod b w w')(l:b<base):Zo P base w' v1 v2 a u:=by
 obtain⟨X,g,c,i⟩:=h;exact⟨X,j.keep _ _ _ _ _ g (f.abvX (fun e=>by have:=(c b e).1;omega)),fun k d=>⟨(c k d).1,Yq (c k d).2 f.size⟩,i⟩
theorem Zo.grown(m:TreeQ P){v':Value}{o:Obj}(h:Zo P base w v1 v2 a u)(i:(w.alloc o).grownBy w' v1.ownBlock)(hv:v'.ownBlock=v1.ownBlock\/v'.ownBlock=some (w.heap.size+1)):Zo P base w' v' v2 a u:=by
 obtain⟨X,j,c,d⟩:=h
 have l:AbvX X w w':=fun k b n=>by
  rw[i.block k (by simp;omega) (fun e=>d k (Qt e.symm) b)];exact ZL _ _ _ n
 refine⟨X,m.keep _ _ _ _ _ j l,fun k b=>⟨(c k b).1,?_⟩,fun g hgb f=>?_⟩
 .have:=(c k b).2;have:=i.size;simp at this;omega
 .rcases hgb with hgb|hgb
  .rcases hv with hv|hv
   .exact d g (Qt (hv ▸ hgb)) f
   .rw[hv]at hgb;have:=(c g f).2;simp at hgb;omega
  .exact d g (Qr hgb) f
theorem Zo.set(i:TreeQ P){g:Nat}(h:Zo P base w v1 v2 a u)(j:g<base)(o:Nat)(x:Value):Zo P base (w.setCell ⟨g,o,none⟩ x) v1 v2 a u:=by
 obtain⟨X,d,b,f⟩:=h;exact⟨X,i.keep _ _ _ _ _ d (AbvX.set (fun e=>by have:=(b g e).1;omega) o x),fun k c=>⟨(b k c).1,by rw[Vo];exact(b k c).2⟩,f⟩
theorem Zo.new(c:TreeQ P){B:Nat}(h:P (fromB B) a w u)(b:base<=B)(d:∀g,v1.ownBlock=some g->g<B)(e:∀g,v2.ownBlock=some g->g<B):Zo P base w v1 v2 a u:=
 ⟨fun k=>B<=k/\k<w.heap.size,c.weak _ _ _ _ _ h (fun k hk hz=>⟨hk,hz⟩),fun k hk=>⟨QE b hk.1,hk.2⟩,fun g hg hX=>by rcases hg with hg|hg;have:=d g hg;omega;have:=e g hg;omega⟩
end
structure BrI (u:World) (tb gb:Nat) (nm:L8) (pos:Nat) (w:World) (tv bv:Value) (vs1 vs2:List Value):Prop where
 nd:CNode w gb nm Qp 0 tv bv pos
 o1:w.ownsRow (gb+1) 158 1 tv vs1.length vs1
 o2:w.ownsRow (gb+1) 113 1 bv vs2.length vs2
 od:∀g,tv.ownBlock=some g->¬bv.ownBlock=some g
 m:Mod tb u w
section
variable {u:World} {tb gb:Nat} {nm:L8} {pos:Nat} {w w' w5:World} {tv bv v' x:Value} {vs1 vs2:List Value} {o:Obj}
theorem BrI.mod(h:BrI u tb gb nm pos w tv bv vs1 vs2)(hm:Mod tb w w')(hb:tb<gb):BrI u tb gb nm pos w' tv bv vs1 vs2:=
 ⟨QY h.nd hm I,XP (b:=tb) h.o1 hm I,XP (b:=tb) h.o2 hm I,h.od,h.m.trans hm⟩
theorem VB{b:TypeId}(h:w.ownsRow (gb+1) b 1 tv n xs)(c:gb<w.heap.size)(a:(w.alloc o).grownBy w5 tv.ownBlock):∀k,k<gb+1->w5.heap[k]?=w.heap[k]?:=fun k hk=>by
 rw[a.block k (by simp;omega) (fun e=>by have:=(h.lt k e.symm).1;omega)];exact ZL _ _ _ I
theorem BrI.app1(h:BrI u tb gb nm pos w tv bv vs1 vs2)(d:u.heap.size<=gb)(b:(w.alloc o).grownBy w5 tv.ownBlock)(j:w5.ownsRow (gb+1) 158 1 v' (vs1.length+1) (vs1++[x]))(hat:v'.ownBlock=tv.ownBlock\/v'.ownBlock=some (w.heap.size+1)):BrI u tb gb nm pos (w5.setCell ⟨gb,3,none⟩ v') v' bv (vs1++[x]) vs2:=by
 have i:=VB h.o1 (QI h.nd) b;refine⟨QM ((i gb (Xp _)).trans h.nd),KG (by simpa using j) (Xp _),KG ((h.o2.alloc o).kept b ?_) (Xp _),fun g c a=>?_,((h.m.alloc o).grown b (fun k f=>by have:=(h.o1.lt k f).1;omega)).setNew d _ _⟩
 .cases a:bv.ownBlock with
  |none=>exact Qt rfl
  |some g=>exact Qr (fun e=>h.od g e.symm a)
 .rcases hat with hat|hat
  .exact h.od g (hat ▸ c) a
  .rw[hat]at c;have:=(h.o2.lt g a).2;simp at c;omega
theorem BrI.app2(h:BrI u tb gb nm pos w tv bv vs1 vs2)(d:u.heap.size<=gb)(b:(w.alloc o).grownBy w5 bv.ownBlock)(j:w5.ownsRow (gb+1) 113 1 v' (vs2.length+1) (vs2++[x]))(hat:v'.ownBlock=bv.ownBlock\/v'.ownBlock=some (w.heap.size+1)):BrI u tb gb nm pos (w5.setCell ⟨gb,4,none⟩ v') tv v' vs1 (vs2++[x]):=by
 have i:=VB h.o2 (QI h.nd) b;refine⟨QM ((i gb (Xp _)).trans h.nd),KG ((h.o1.alloc o).kept b ?_) (Xp _),KG (by simpa using j) (Xp _),fun g c a=>?_,((h.m.alloc o).grown b (fun k f=>by have:=(h.o2.lt k f).1;omega)).setNew d _ _⟩
 .cases a:tv.ownBlock with
  |none=>exact Qt rfl
  |some g=>exact Qr (fun e=>h.od g a e.symm)
 .rcases hat with hat|hat
  .exact h.od g c (hat ▸ a)
  .rw[hat]at a;have:=(h.o1.lt g c).2;simp at a;omega
end
structure BrR (n gb:Nat) (w:World) (tv bv:Value) (arms:List (Zn n×List (Q5 n))) (els:List (List (Q5 n))) (vs1 vs2:List Value):Prop where
 r1:Zz (fun a u=>Zo (RTest n) (gb+1) w tv bv a u) (arms.map Prod.fst) vs1
 r2:Zz (fun a u=>Zo (trY (RCmd n)) (gb+1) w tv bv a u) (arms.map Prod.snd++els) vs2
end Go.Proofs.YtgnkjijocdmniaaGreatDoor
