import Derived.Test.YtgnkjijocdmniaaGreatDoorZQCmdL
namespace Go.Proofs.YtgnkjijocdmniaaGreatDoor
set_option linter.unusedVariables false
set_option linter.unusedSimpArgs false
set_option maxRecDepth 100000
set_option maxHeartbeats 4000000
open Go.Proofs.Tryz
open Go.RowKit
attribute [local go_sem ↓] Go.wp_at_zero Go.wp_at_succ
variable{α:Type}{F n pos:Nat}{l:L8}{st:Qb PS}{sub:PS->Qb (α×PS)}{xs:List Value}
theorem Tryz.infoPtrTest:(prog.info? 158).map (fun i=>(i.zero,i.size,i.bytes))=some (some (.pointer none),1,8):=by kernel_rfl
theorem PF:stOf (bindS st (Zl l F sub 3 pos))=stOf (bindS st (groupL l F sub))/\∀ y,bindS st (Zl l F sub 3 pos)=.ok y->∃ z,bindS st (groupL l F sub)=.ok z/\y.1=(⟨3,pos,0,false,[],[],0⟩,z.1):=by
 cases st with
 |error g=>exact⟨rfl,fun y e=>by cases e⟩
 |ok s=>
  simp only[bindS,Zl]
  cases groupL l F sub s with
  |error g=>exact⟨rfl,fun y e=>by cases e⟩
  |ok z=>exact⟨rfl,fun y e=>⟨z,rfl,by cases e;rfl⟩⟩
theorem M8:stOf (bindS st (Zl l F sub 4 pos))=stOf (bindS st (groupL l F sub))/\∀ y,bindS st (Zl l F sub 4 pos)=.ok y->∃ z,bindS st (groupL l F sub)=.ok z/\y.1=(⟨4,pos,0,false,[],[],0⟩,z.1):=by
 cases st with
 |error g=>exact⟨rfl,fun y e=>by cases e⟩
 |ok s=>
  simp only[bindS,Zl]
  cases groupL l F sub s with
  |error g=>exact⟨rfl,fun y e=>by cases e⟩
  |ok z=>exact⟨rfl,fun y e=>⟨z,rfl,by cases e;rfl⟩⟩
theorem YR{w:World}{base T o:Nat}{x:Value}{e:TypeId}{size:Nat}{v:Value}(h:w.ownsRow base e size v n xs)(k:T<base):(w.setCell ⟨T,o,none⟩ x).ownsRow base e size v n xs:=by
 obtain⟨d,a⟩:=h;refine⟨d,?_⟩;rcases a with a | ⟨g,b,c,j,f,i,r⟩
 ·exact Qd a
 ·exact Qc ⟨g,b,c,j,f,by rw[QK (show g≠T by omega)];exact i,r⟩
def Nt(w:World)(gb:Nat)(nm:L8)(tv:Value):Prop:=w.heap[gb]?=some (.cells #[.string (sA nm),tv,.slice none 0 0,.slice none 0 0,.int .i64 0,.bool false,.int .i64 0] 200)
theorem Cd(rb tb:Nat)(nv:Value)(rq:Qa)(l:L8)(F n aa:Nat)(st:Qb PS)(w:World)(hr:RdI w rb tb nv rq)(h:TSt w tb l st)(Q:l.length<=600)(hF:2*l.length+2<=F)(hd:aa+n=6)(hI:TOk rb tb nv rq l F n (aa+1))(d:(O l st).1=119)(hw:(O l st).2.1=Kx\/(O l st).2.1=Kz) :
 Calls prog 214 #[.pointer (some ⟨rb,0,none⟩),.int .i64 aa] w (QY (bindS st (Qy l rq F (n+1))) tb l w (ZG (n+1) (fromB w.heap.size)) XL):=by
 rcases hw with hw|hw
 all_goals
  first|(have HX:Hid (bindS st (Qy l rq F (n+1))=bindS (nextS l st) (Zl l F (Qy l rq F n) 3 (O l st).2.2.2)):=(by show _=_;rw[JX h d (by rw[hw];decide),hw,UE (by decide) (by decide)];rfl);have HP:=I (PF (l:=l) (F:=F) (pos:=(O l st).2.2.2) (sub:=Qy l rq F n) (st:=nextS l st)))|(have HX:Hid (bindS st (Qy l rq F (n+1))=bindS (nextS l st) (Zl l F (Qy l rq F n) 4 (O l st).2.2.2)):=(by show _=_;rw[JX h d (by rw[hw];decide),hw,UE (by decide) (by decide)];rfl);have HP:=I (M8 (l:=l) (F:=F) (pos:=(O l st).2.2.2) (sub:=Qy l rq F n) (st:=nextS l st)))
  have r0:=Qk hr.r;obtain⟨c2,c4,c5,c6,c7⟩:=h.cells;have H:=I h;have HR:=I hr;have bq:=Qg hr.r;have br:=h.lt;have N:w.heap.size≠tb:=by omega
  obtain⟨s0,aZ,_,_⟩:=ZR h d;have he:errS st=0:=by rw[aZ];rfl
  have aS:((errS st:Int) != 0)=false:=by simp;omega
  have aT:(((O l st).1:Int) != 119)=false:=by simp;omega
  have bo:decide ((6:Int)<(aa:Int))=false:=Qh (by omega);obtain⟨i,aX⟩:=Qe ((O l st).2.1);rw[aX]at c5 hw;have x:=hw;have e0:=QO [116,114,117,101] x rfl
  have e1:=QO [102,97,108,115,101] x rfl
  have e2:=QO [110,111,116] x rfl
  first|(have e3:((sA i).toList==[97,108,108,111,102])=true:=(by rw[Zg,x];decide))|(have e3:((sA i).toList==[97,108,108,111,102])=false:=(by rw[Zg,x];decide))
  first|(have e4:((sA i).toList==[97,110,121,111,102])=true:=(by rw[Zg,x];decide))|(have e4:((sA i).toList==[97,110,121,111,102])=false:=(by rw[Zg,x];decide))
  obtain⟨D,ab⟩:=QF (w.alloc (.cells #[.string (sA i),.slice none 0 0,.slice none 0 0,.slice none 0 0,.int .i64 0,.bool false,.int .i64 0] 200));have bd:=I ab;have aF:Hid (Mod tb w D):=by show Mod _ _ _;rw[ab];exact(Mod.refl _ _).alloc _
  have aH:Hid (Xw D w.heap.size i 0 false):=by show D.heap[w.heap.size]?=_;rw[ab];exact QC _ _
  have aM:Hid (TSt D tb l st):=by show TSt _ _ _ _;rw[ab];exact h.below (Qp _)
  clear h hr ab aZ he d aX;have bc:=I hw;clear hw x;have HI:=I hI;clear hI;have bn:aa<=6:=by omega
  have a3:=I (fun s hs=>Va (l:=l) (req:=rq) (F:=F) n s hs);obtain⟨i0,hi,bk,bl,bm⟩:=info_parts Tryz.infoPtrTest;go_enter func214,ntmps214;go_wp2_with fail;rw[<-bd.o];refine(Z2 tb l st D aM.o Q).mono ?_;rintro e w1 ⟨rfl,ax,a0⟩;have ap:=I (aF.o.trans ax);have aI:=I (QA aH.o ax N);have aN:=I a0;clear ax a0;go_wp2_with fail;refine(YQ rb tb nv l 40 _ _ (HR.o.mod ap.o).r aN.o Q).mono ?_;rintro e w2 ⟨rfl,ay,ak⟩;have aq:=I (ap.o.trans ay);have af:Hid (Nt w2 w.heap.size i (.slice none 0 0)):=QA aI.o ay N;have au:=I ak;have ao:=I (PO (F:=F) (sub:=Qy l rq F n) aN.o ak Q hF);have aW:=Gb ak Q;have bs:w.heap.size+1<=w2.heap.size:=Qg af.o;clear ay ak ap aI aH aF aM;generalize bindS (nextS l st) (groupL l F (Qy l rq F n))=R at *;go_upto_block 1 with fail
  go_cut [] (fun wx=>∃(c:Qb PS) (p:List Value) (m:Value),Nt wx w.heap.size i m/\wx.ownsRow (w.heap.size+1) 158 1 m p.length p/\TSt wx tb l c/\Mod tb w wx/\stOf R=signS l 41 c/\∀ y,R=.ok y->y.1≠[]/\Q3 (fun a u=>Q8 (ZG n) (w.heap.size+1) wx m a u) y.1 p)
  case first=>
   go_wp2_with fail
   go_loopg [7] (muS l (signS l 40 (nextS l st))) (fun k _ wr=>∃(c:Qb PS) (V:List (Yn n)) (p:List Value) (m:Value),k=muS l c/\Nt wr w.heap.size i m/\wr.ownsRow (w.heap.size+1) 158 1 m p.length p/\TSt wr tb l c/\Mod tb w wr/\Nx R l (Qy l rq F n) c V/\p.length+muS l c<=1300/\∀ s,c=.ok s->Q3 (fun a u=>Q8 (ZG n) (w.heap.size+1) wr m a u) V p)
   case atStart=>exact⟨_,[],[],_,rfl,af.o,Zj,au.o,aq.o,ao.o,by simp;omega,fun _ _=>trivial⟩
   case round=>
    obtain⟨c,V,p,m,rfl,S,ae,T,C,G,aU,aY⟩:=hrel;have ag:=I S;have Z:=I ae;have aO:=I T;have aG:=I C;have aE:=I G;have a9:=I aY;have bi:w.heap.size+1<=wr.heap.size:=Qg S;have bu:wr.cell? ⟨rb,0,none⟩=some (.pointer (some ⟨tb,0,none⟩)):=Qi (HR.o.mod C).r 0;have aD:=I (HI.o c wr (HR.o.mod C) T);clear ae T C G aY S ao au af aq aW;go_wp2_with fail;refine aD.o.mono ?_;rintro e J h3;obtain⟨t,U,v,rfl,⟨M,rfl⟩,a2⟩:=h3.st;have W:=I (RF a3.o aE.o aO.o U);have X:=I (aG.o.trans t);have K:=I U;have az:=ZP (b:=tb) Z.o t (by omega);have aj:=QA ag.o t N;have Y:=I aj;have bt:w.heap.size+1<=J.heap.size:=Qg aj;have t1:=Qr aj;have bg:=I (fun k d=>(Z.o.lt k d).2)
    have ba:Hid (∀ z,bindS c (Qy l rq F n)=.ok z->Q3 (fun a u=>Q8 (ZG n) (w.heap.size+1) J m a u) (V++[z.1]) (p++[.pointer (some ⟨M,0,none⟩)])):=by
     intro z g
     obtain⟨s,hs⟩:∃ s,c=.ok s:=by
      cases c with
      |ok s=>exact⟨s,rfl⟩
      |error f=>cases g
     exact Q3.snoc (P:=fun a u=>Q8 (ZG n) (w.heap.size+1) J m a u) (GathQ.new (Z0 n) (a2 z g) bi bg.o) ((a9.o s hs).imp (fun a u A=>GathQ.mod (Z0 n) (b:=tb) A t (by omega)))
    obtain⟨q,aC⟩:=Qe (stOf (bindS c (Qy l rq F n)));rw[aC]at W K;clear h3 t U a2 aj Z ag aO aG aE aD;go_wp2_with (at_builtin;refine wpList_append_own_at _ rfl _ _ 152 rfl (w.heap.size+1) 158 i0 (.pointer none) 1 8 underlying152 hi bk bl bm rfl (by decide) _ _ _ rfl (az.alloc _) ⟨J.heap.size,0,none⟩ 1 1 [.pointer (some ⟨M,0,none⟩)] rfl rfl ?c1 ?c2 ?c3 ?c4 ?c5 ?_)
    case c1=>
     intro j u G
     match j,G with
     |0,G=>simp at G;subst G;simp[Addr.add]
    case c2=>intro u A;simp at A;subst A;rfl
    case c3=>unfold maxLen;omega
    case c4=>omega
    case c5=>simp;omega
    ·intro v' w5 aA ai _ aR;have aB:∀ k,m.ownBlock=some k->w.heap.size+1<=k:=fun k d=>(az.lt k d).1
     have aV:=(X.o.alloc (Obj.cells #[.pointer (some ⟨M,0,none⟩)] 158)).grown ai (fun k d=>by have:=aB k d;omega)
     have aw:∀ k,k<w.heap.size+1->w5.heap[k]?=J.heap[k]?:=fun k d=>by
      rw[ai.block k (by simp;omega) (fun e=>by have:=aB k e.symm;omega)];exact Below.heap_alloc _ _ _ (by omega)
     have ad:=(aw w.heap.size (by omega)).trans Y.o;obtain⟨p5,m5,ah,rfl⟩:=Uz aA;obtain⟨B,E⟩:=QF (w5.setCell ⟨w.heap.size,1,none⟩ (.slice p5 m5 ah));have aP:=I E;have ar:Hid (Mod tb w B):=by show Mod _ _ _;rw[E];exact aV.setNew Ql _ _
     have aJ:Hid (Nt B w.heap.size i (.slice p5 m5 ah)):=by show B.heap[w.heap.size]?=_;rw[E];exact Qt _ _ _ _ _ _ ad
     have aK:Hid (B.ownsRow (w.heap.size+1) 158 1 (.slice p5 m5 ah) (p++[Value.pointer (some ⟨M,0,none⟩)]).length (p++[.pointer (some ⟨M,0,none⟩)])):=by
      show World.ownsRow _ _ _ _ _ _ _
      rw[E];exact YR (by simpa using aA) (by omega)
     have av:Hid (TSt B tb l q):=by
      show TSt _ _ _ _
      rw[E];exact(K.o.block (aw tb (by omega))).block (QK (Ne.symm N))
     have aL:Hid (∀ z,bindS c (Qy l rq F n)=.ok z->Q3 (fun a u=>Q8 (ZG n) (w.heap.size+1) B (.slice p5 m5 ah) a u) (V++[z.1]) (p++[.pointer (some ⟨M,0,none⟩)])):=by
      intro z g;rw[E];exact(ba.o z g).imp (fun a u A=>GathQ.set (Z0 n) (GathQ.grown (Z0 n) A ai aR) (by omega) _ _)
     have f5:=fun o=>Qu ad o
     have t5:=Qr ad;have bp:w.heap.size<w5.heap.size:=Qg ad;obtain⟨q2,q4,_,_,_⟩:=av.o.cells;have qr:B.cell? ⟨rb,0,none⟩=some (.pointer (some ⟨tb,0,none⟩)):=Qi (HR.o.mod ar.o).r 0;clear aA ai az aB aR aV aw ad E;by_cases d:(O l q).1=44
     ·obtain⟨he,bh,z,g,x⟩:=W.o.1 d;have aT:(((O l q).1:Int) != 44)=false:=by simp;omega
      have aS:((errS q:Int) != 0)=false:=by simp;omega
      have bf:=I x;have HZ:=I g;clear x g W aC K Y X;go_wp2_with (rw[<-aP.o]);go_wp2_with fail;refine(Z2 tb l q _ (av.o.block rfl) Q).mono ?_;rintro e w7 ⟨rfl,ac,a1⟩;have a4:=I (ar.o.trans ac);have bb:=I a1;have a7:=I (ZP (b:=tb) aK.o ac (by omega));have a5:=I (QA aJ.o ac N);have a8:=I ((aL.o z HZ.o).imp (fun a u A=>GathQ.mod (Z0 n) (b:=tb) A ac (by omega)));clear ac a1;go_wp2;go_roundg (muS l (nextS l q))
      case measure=>exact bh
      case rel=>exact⟨nextS l q,V++[z.1],_,_,rfl,a5.o,a7.o,bb.o,a4.o,bf.o,by simp;omega,fun _ _=>a8.o⟩
     ·obtain⟨hR,hy⟩:=W.o.2 d;have aT:(((O l q).1:Int) != 44)=true:=by simp;omega
      have L:=I hy;clear hy W aC K Y X;cases aS:((errS q:Int) != 0)
      all_goals go_wp2_with (rw[<-aP.o])
      all_goals go_wp2
      all_goals go_meet
      all_goals
       refine⟨q,_,_,aJ.o,aK.o,av.o,ar.o,hR,fun y e=>?_⟩;obtain⟨z,g,h⟩:=L.o y e;rw[h];exact⟨by simp,aL.o z g⟩
  case rest=>
   obtain⟨c,p,m,S,ae,T,C,hR,hy⟩:=hcut;have HS:=I (YQ rb tb nv l 41 c wc (HR.o.mod C).r T Q);have Z:=I ae;have HM:=I C;have L:=I hy;have ag:=I S;clear T C ae hy S ao au af aq aW;go_wp2_with fail;refine HS.o.mono ?_;rintro e J ⟨rfl,t,U⟩;have X:=I (HM.o.trans t);have K:=I U;have a6:=I (ZP (b:=tb) Z.o t (by omega));have Y:=I (QA ag.o t N);have aQ:=I (fun y e=>(L.o y e).2.imp (fun a u A=>GathQ.mod (Z0 n) (b:=tb) A t (by omega)));clear t U;go_wp2;go_ret;refine QY.mk X.o (by rw[(congrArg stOf HX.o).trans HP.o.1,hR];exact K.o) ⟨_,rfl⟩ (fun y e=>?_);obtain⟨z,g,bj⟩:=HP.o.2 y (HX.o.symm.trans e);rw[bj];refine Kr Ql Y.o bc.o.symm (Qc ⟨(L.o z g).1,?_⟩) (Qd ⟨rfl,rfl⟩) (Qd ⟨rfl,rfl⟩);have aU:=JU (aQ.o z g);have ho:=a6.o;rw[<-aU]at ho;exact trX.weakQ (Z0 n) (L.o z g).1 (trX.of_ownsQ (Z0 n) ho rfl (L.o z g).1 (aQ.o z g)) (fun k d _=>Qs (Nat.le_succ _) d)
def QU{α:Type}(P:(Nat->Prop)->α->World->Value->Prop)(base:Nat)(w:World)(v1 v2:Value)(a:α)(u:Value):Prop:=
 ∃ X,P X a w u/\(∀ k,X k->base<=k/\k<w.heap.size)/\∀ g,v1.ownBlock=some g\/v2.ownBlock=some g->¬ X g
section
variable {α:Type} {P:(Nat->Prop)->α->World->Value->Prop} {base:Nat} {w w':World} {v1 v2:Value} {a:α} {u:Value}
theorem QU.swap(h:QU P base w v1 v2 a u):QU P base w v2 v1 a u:=by
 obtain⟨X,b,c,d⟩:=h;exact⟨X,b,c,fun g e=>d g e.symm⟩
theorem QU.left(h:QU P base w v1 v2 a u):Q8 P base w v1 a u:=by
 obtain⟨X,b,c,d⟩:=h;exact⟨X,b,c,fun g e=>d g (Qd e)⟩
theorem QU.mod(j:TreeQ P){b:Nat}(h:QU P base w v1 v2 a u)(f:Mod b w w')(l:b<base):QU P base w' v1 v2 a u:=by
 obtain⟨X,g,c,i⟩:=h;exact⟨X,j.keep _ _ _ _ _ g (f.abvX (fun e=>by have:=(c b e).1;omega)),fun k d=>⟨(c k d).1,Zs (c k d).2 f.size⟩,i⟩
theorem QU.grown(m:TreeQ P){v':Value}{o:Obj}(h:QU P base w v1 v2 a u)(i:(w.alloc o).grownBy w' v1.ownBlock)(hv:v'.ownBlock=v1.ownBlock\/v'.ownBlock=some (w.heap.size+1)):QU P base w' v' v2 a u:=by
 obtain⟨X,j,c,d⟩:=h
 have l:AbvX X w w':=fun k b n=>by
  rw[i.block k (by simp;omega) (fun e=>d k (Qd e.symm) b)];exact Below.heap_alloc _ _ _ n
 refine⟨X,m.keep _ _ _ _ _ j l,fun k b=>⟨(c k b).1,?_⟩,fun g hgb f=>?_⟩
 ·have:=(c k b).2;have:=i.size;simp at this;omega
 ·rcases hgb with hgb|hgb
  ·rcases hv with hv|hv
   ·exact d g (Qd (hv ▸ hgb)) f
   ·rw[hv]at hgb;have:=(c g f).2;simp at hgb;omega
  ·exact d g (Qc hgb) f
theorem QU.set(i:TreeQ P){g:Nat}(h:QU P base w v1 v2 a u)(j:g<base)(o:Nat)(x:Value):QU P base (w.setCell ⟨g,o,none⟩ x) v1 v2 a u:=by
 obtain⟨X,d,b,f⟩:=h;exact⟨X,i.keep _ _ _ _ _ d (AbvX.set (fun e=>by have:=(b g e).1;omega) o x),fun k c=>⟨(b k c).1,by rw[World.size_setCell];exact(b k c).2⟩,f⟩
theorem QU.new(c:TreeQ P){B:Nat}(h:P (fromB B) a w u)(b:base<=B)(d:∀ g,v1.ownBlock=some g->g<B)(e:∀ g,v2.ownBlock=some g->g<B):QU P base w v1 v2 a u:=
 ⟨fun k=>B<=k/\k<w.heap.size,c.weak _ _ _ _ _ h (fun k hk hz=>⟨hk,hz⟩),fun k hk=>⟨Qs b hk.1,hk.2⟩,fun g hg hX=>by rcases hg with hg|hg;have:=d g hg;omega;have:=e g hg;omega⟩
end
structure BrI (u:World) (tb gb:Nat) (nm:L8) (pos:Nat) (w:World) (tv bv:Value) (vs1 vs2:List Value):Prop where
 nd:CNode w gb nm (.slice none 0 0) 0 tv bv pos
 o1:w.ownsRow (gb+1) 158 1 tv vs1.length vs1
 o2:w.ownsRow (gb+1) 113 1 bv vs2.length vs2
 od:∀ g,tv.ownBlock=some g->¬ bv.ownBlock=some g
 m:Mod tb u w
section
variable {u:World} {tb gb:Nat} {nm:L8} {pos:Nat} {w w' w5:World} {tv bv v' x:Value} {vs1 vs2:List Value} {o:Obj}
theorem BrI.mod(h:BrI u tb gb nm pos w tv bv vs1 vs2)(hm:Mod tb w w')(hb:tb<gb):BrI u tb gb nm pos w' tv bv vs1 vs2:=
 ⟨QA h.nd hm (by omega),ZP (b:=tb) h.o1 hm (by omega),ZP (b:=tb) h.o2 hm (by omega),h.od,h.m.trans hm⟩
theorem Kn{b:TypeId}(h:w.ownsRow (gb+1) b 1 tv n xs)(c:gb<w.heap.size)(a:(w.alloc o).grownBy w5 tv.ownBlock):∀ k,k<gb+1->w5.heap[k]?=w.heap[k]?:=fun k hk=>by
 rw[a.block k (by simp;omega) (fun e=>by have:=(h.lt k e.symm).1;omega)];exact Below.heap_alloc _ _ _ (by omega)
theorem BrI.app1(h:BrI u tb gb nm pos w tv bv vs1 vs2)(d:u.heap.size<=gb)(b:(w.alloc o).grownBy w5 tv.ownBlock)(j:w5.ownsRow (gb+1) 158 1 v' (vs1.length+1) (vs1++[x]))(hat:v'.ownBlock=tv.ownBlock\/v'.ownBlock=some (w.heap.size+1)):BrI u tb gb nm pos (w5.setCell ⟨gb,3,none⟩ v') v' bv (vs1++[x]) vs2:=by
 have i:=Kn h.o1 (Qg h.nd) b;refine⟨Qt _ _ _ _ _ _ ((i gb (Nat.lt_succ_self _)).trans h.nd),YR (by simpa using j) (Nat.lt_succ_self _),YR ((h.o2.alloc o).kept b ?_) (Nat.lt_succ_self _),fun g c a=>?_,((h.m.alloc o).grown b (fun k f=>by have:=(h.o1.lt k f).1;omega)).setNew d _ _⟩
 ·cases a:bv.ownBlock with
  |none=>exact Qd rfl
  |some g=>exact Qc (fun e=>h.od g e.symm a)
 ·rcases hat with hat|hat
  ·exact h.od g (hat ▸ c) a
  ·rw[hat]at c;have:=(h.o2.lt g a).2;simp at c;omega
theorem BrI.app2(h:BrI u tb gb nm pos w tv bv vs1 vs2)(d:u.heap.size<=gb)(b:(w.alloc o).grownBy w5 bv.ownBlock)(j:w5.ownsRow (gb+1) 113 1 v' (vs2.length+1) (vs2++[x]))(hat:v'.ownBlock=bv.ownBlock\/v'.ownBlock=some (w.heap.size+1)):BrI u tb gb nm pos (w5.setCell ⟨gb,4,none⟩ v') tv v' vs1 (vs2++[x]):=by
 have i:=Kn h.o2 (Qg h.nd) b;refine⟨Qt _ _ _ _ _ _ ((i gb (Nat.lt_succ_self _)).trans h.nd),YR ((h.o1.alloc o).kept b ?_) (Nat.lt_succ_self _),YR (by simpa using j) (Nat.lt_succ_self _),fun g c a=>?_,((h.m.alloc o).grown b (fun k f=>by have:=(h.o2.lt k f).1;omega)).setNew d _ _⟩
 ·cases a:tv.ownBlock with
  |none=>exact Qd rfl
  |some g=>exact Qc (fun e=>h.od g a e.symm)
 ·rcases hat with hat|hat
  ·exact h.od g c (hat ▸ a)
  ·rw[hat]at a;have:=(h.o1.lt g c).2;simp at a;omega
end
structure BrR (n gb:Nat) (w:World) (tv bv:Value) (arms:List (Yn n×List (Zt n))) (els:List (List (Zt n))) (vs1 vs2:List Value):Prop where
 r1:Q3 (fun a u=>QU (ZG n) (gb+1) w tv bv a u) (arms.map Prod.fst) vs1
 r2:Q3 (fun a u=>QU (trY (ZU n)) (gb+1) w tv bv a u) (arms.map Prod.snd++els) vs2
end Go.Proofs.YtgnkjijocdmniaaGreatDoor
