import Derived.Deep.AppendLies
import Derived.Test.YtgnkjijocdmniaaGreatDoorZQParseP
namespace Go.Proofs.YtgnkjijocdmniaaGreatDoor
set_option linter.all false
set_option maxRecDepth 100000
set_option maxHeartbeats 4000000
open Go.Proofs.Tryz
open Go.RowKit
attribute [local go_sem ↓] Zt Zu
def KL(X:Nat->Prop)(y:Qn×List (Q5 7))(w:World)(v:Value):Prop:=
 ∃g nv bv,v=(Qc g)/\X g/\w.heap[g]?=some (Qe #[nv,bv] 115)/\slY X y.1 w nv/\trY (RCmd 7) X y.2 w bv
def Cu(l:L8)(w:World)(e:Ending)(w':World):Prop:=
 Qo w w'/\
 if 600<l.length then e=.returned (.tuple #[.pointer none,Qa 1,Qa 0])else
 match prL l with
 | .ok y=>∃v,e=.returned (.tuple #[v,Qa 0,Qa 0])/\KL (fromB w.heap.size) y w' v
 | .error f=>e=.returned (.tuple #[.pointer none,Qa f.err,Qa f.pos])
variable{l:L8}{w:World}
theorem Qyi(V:World)(x:L8){b:TypeId}:∀j u,[Value.string (sA x)][j]?=some u->(V.alloc (Qe #[Qf x] b)).cell? ((⟨V.heap.size,0,none⟩:Addr).add j)=some u:=by
 intro j u a
 match j,a with
 |0,a=>simp at a;subst a;simp[Addr.add]
theorem Ro(x:L8):∀u∈[Value.string (sA x)],u.oneCell'=true:=by intro u a;simp at a;subst a;rfl
theorem Eg{base:Nat}{e:TypeId}{size:Nat}{v:Value}{n:Nat}{xs:List Value}(h:w.ownsRow base e size v n xs):∃a c,v=.slice a n c:=by
 rcases h.2 with⟨h,b⟩ | ⟨g,d,f,h,_⟩
 .exact⟨none,0,by rw[h,b]⟩
 .exact⟨_,_,h⟩
theorem Qyp{V d:World}{tb c b f:Nat}{rq xs:Qn}{x:L8}{st:Qq PS}{i:Value}{o:Obj}(s:RdQ V (tb+1) tb i)(F:V.ownsRow (tb+2) 9 1 i rq.length (QW rq))(G:TSt V tb l st)(z:Below tb w V)(t:ZQ V c xs)(r:∀k,i.ownBlock=some k->k≠c)(A:xs≠[])(J:tb+1<c)(q:((V.alloc o).drew).grownBy d i.ownBlock)(v:d.ownsRow (tb+2) 9 1 (Qs b (rq.length+1) f) (rq.length+1) (QW rq++[Qf x]))(y:i.ownBlock=some b\/b=(V.alloc o).drew.heap.size) :
 RdQ (d.setCell ⟨tb+1,1,none⟩ (Qs b (rq.length+1) f)) (tb+1) tb (Qs b (rq.length+1) f)/\(d.setCell ⟨tb+1,1,none⟩ (Qs b (rq.length+1) f)).ownsRow (tb+2) 9 1 (Qs b (rq.length+1) f) (rq++[x]).length (QW (rq++[x]))/\TSt (d.setCell ⟨tb+1,1,none⟩ (Qs b (rq.length+1) f)) tb l st/\Below tb w (d.setCell ⟨tb+1,1,none⟩ (Qs b (rq.length+1) f))/\ZQ (d.setCell ⟨tb+1,1,none⟩ (Qs b (rq.length+1) f)) c xs/\(∀k,(Value.slice (some ⟨b,0,none⟩) (rq.length+1) f).ownBlock=some k->k≠c):=by
 have n:=fun k (g:i.ownBlock=some k)=>F.lt k g
 have H:tb+1<V.heap.size:=QI s;have p:(V.alloc o).drew.heap.size=V.heap.size+1:=by show(V.alloc o).heap.size=_;simp
 have m:∀k,k<V.heap.size->i.ownBlock≠some k->d.heap[k]?=V.heap[k]?:=fun k g E=>by
  rw[q.block k (by rw[p];omega) (fun e=>E e.symm)];exact ZL _ _ _ g
 have B:c<V.heap.size:=QX (t 0 (Xz.2 A));have u:d.heap[c]?=V.heap[c]?:=m c B (fun e=>r c e rfl);refine⟨QM ((m (tb+1) H (fun e=>by have:=(n _ e).1;omega)).trans s),KG (by rw[Qz,<-Jw];exact v) I,(G.block (m tb I (fun e=>by have:=(n _ e).1;omega))).block (Q' (by show tb≠tb+1;omega)),((((z.alloc I o).drew).grown q (by rw[p];omega) (fun k g=>by have:=(n k g).1;omega)).setCell (by show tb<=tb+1;omega) _),fun j C=>?_,fun k g e=>?_⟩
 .have:=t j C;rw[Xo (w:=d) (a:=⟨c,j,none⟩) (Q' (by show c≠tb+1;omega)),Xo (w:=V) (a:=⟨c,j,none⟩) u];exact this
 .have D:b=k:=by simpa[Value.ownBlock]using g
  rcases y with h|h
  .exact r b h (D.trans e)
  .rw[p]at h;omega
theorem Di(w:World)(bK:l.length<=140737488355328):Calls prog 44 #[.string (sA l)] w (Cu l w):=by
 have hz:=Zc l;by_cases ah:600<l.length
 .have aM:decide ((600:Int)<(l.length:Int))=true:=QU (by omega)
  have HX:Hid (∀e E,Below w.heap.size w E->e=.returned (.tuple #[.pointer none,.int .i64 1,.int .i64 0])->Cu l w e E):=by
   intro e E h1 h2;exact⟨h1,by rw[Qi ah];exact h2⟩
  go_enter func44,ntmps44;go_wp2;refine Q_ (v:=.tuple #[.pointer none,.int .i64 1,.int .i64 0]) (by simp[results,results44,go_sem]) rfl ?_;exact HX.o _ _ (QO _ _) rfl
 .have M:l.length<=600:=by omega
  have aM:decide ((600:Int)<(l.length:Int))=false:=QB (by omega)
  have a1:Hid (∀e E f,prL l=.error f->Below w.heap.size w E->e=.returned (.tuple #[.pointer none,.int .i64 f.err,.int .i64 f.pos])->Cu l w e E):=by
   intro e E f hp h1 h2;exact⟨h1,by rw[Qg ah,hp];exact h2⟩
  have a2:Hid (∀e E y v,prL l=.ok y->Below w.heap.size w E->e=.returned (.tuple #[v,.int .i64 0,.int .i64 0])->KL (fromB w.heap.size) y E v->Cu l w e E):=by
   intro e E y v hp h1 h2 Z;exact⟨h1,by rw[Qg ah,hp];exact⟨v,h2,Z⟩⟩
  clear ah;obtain⟨L,ag⟩:=Q3 ((w.alloc (.cells (Ca l 0 0 0 0 [] 0 0) 138)).alloc (.cells #[.pointer (some ⟨w.heap.size,0,none⟩),.slice none 0 0] 140));have b3:=O ag;have aR:Hid (Below w.heap.size w L):=by show Below _ _ _;rw[ag];exact(QH _).alloc (by simp) _
  have aW:Hid (QT L w.heap.size l 0 0 0 0 [] 0 0):=by show L.heap[w.heap.size]?=_;rw[ag,ZL _ _ _ (by simp)];exact Q0
  have aX:Hid (RdQ L (w.heap.size+1) w.heap.size (.slice none 0 0)):=by show L.heap[w.heap.size+1]?=_;rw[ag];have:=Q0 (w:=w.alloc (.cells (Ca l 0 0 0 0 [] 0 0) 138)) (o:=.cells #[.pointer (some ⟨w.heap.size,0,none⟩),.slice none 0 0] 140);simpa using this
  have bt:L.heap.size=w.heap.size+2:=by rw[ag];simp
  clear ag;obtain⟨i0,hi,bz,bA,bB⟩:=ZU Tryz.infoStr;go_enter func44,ntmps44;go_wp2_with fail;have hW:(w.alloc (.cells #[.string (sA l),.int .i64 0,.int .i64 0,.int .i64 0,.int .u8 0,.string ⟨#[]⟩,.int .i64 0,.int .i64 0] 138)).alloc (.cells #[.pointer (some ⟨w.heap.size,0,none⟩),.slice none 0 0] 140)=L:=b3.o.symm;rw[hW];clear hW;refine(Lr (tb:=w.heap.size) (l:=l) (a:=0) (k:=0) (s:=[]) (n:=0) (p:=0) (w:=L) aW.o M QR).mono ?_;rintro e w1 ⟨rfl,au,av⟩;have bi:=O (aR.o.trans (au.below QF (by omega)));have ax:=O (aX.o.mod au (by omega));have af:=O av;have br:=AV av M;obtain⟨aj,aN⟩:=Qw (nL l 0);rw[aN]at af br;obtain⟨F,hF⟩:=Q3 (2*l.length+10);obtain⟨R,hR⟩:=Qw (bindS aj (reqMore l F F []))
  have aG:Hid (∀d st,R=(bindS st fun s=>.ok (d,s))->prL l=match bindS st (cMr (cmdL l d F 7) F [])with | .ok cs=>.ok (d,cs) | .error f=>.error f):=by
   intro d st h;subst hF;exact Qxu (by rw[aN,hR];exact h)
  have aI:Hid (Ag R l F aj []):=⟨F,fun s S=>by have:=af.o;rw[S]at this;have:=G3 this M;omega,hR.symm⟩;have a3:2*l.length+2<=F:=by omega
  clear au av hR aN hF aR aX aW;obtain⟨tb,aa⟩:=Q3 (w.heap.size);go_upto_block 0 with fail
  rw[<-aa];rw[<-aa]at ax af;have bP:=O aa;clear aa bt;go_cut [] (fun J=>∃(m:Qq PS) (d:Qn) (t:Value),RdQ J (tb+1) tb t/\J.ownsRow (tb+2) 9 1 t d.length (QW d)/\(d=[]->t=.slice none 0 0)/\TSt J tb l m/\Below tb w J/\d.length<=2000000/\R=bindS m fun s=>.ok (d,s))
  case first=>
   go_wp2_with fail
   go_loopg [6,7,8] (muS l aj) (fun k _ _ _ wr=>∃(m:Qq PS) (d:Qn) (t:Value),k=muS l m/\RdQ wr (tb+1) tb t/\wr.ownsRow (tb+2) 9 1 t d.length (QW d)/\(d=[]->t=.slice none 0 0)/\TSt wr tb l m/\Below tb w wr/\Ag R l F m d/\d.length+1400*muS l m<=1684200)
   case atStart=>exact⟨aj,[],_,rfl,ax.o,Z5,fun _=>rfl,af.o,by rw[bP.o];exact bi.o,aI.o,by simp;omega⟩
   case round=>
    obtain⟨m,d,t,rfl,bO,u,G,A,p,N,ah⟩:=hrel;have aV:=O G;clear G;have HRD:=O bO;have aF:=O u;have ac:=O A;have aD:=O p;have bS:=O N;have bx:tb+1<wr.heap.size:=QI bO;have r0:=Zs bO;obtain⟨c2,c4,c5,_,_⟩:=A.cells;have e5:((sA (Qk l m).2.1).toList==[114,101,113,117,105,114,101])=decide ((Qk l m).2.1=Kn):=Z3;clear bO u A p N ax af aI aG a1 a2;by_cases D:(Qk l m).1=119/\(Qk l m).2.1=Kn
    .have aB:(((Qk l m).1:Int)==119)=true:=by simp;omega
     have ar:((errS m:Int)==0)=true:=by obtain⟨s,S,_,_⟩:=XS ac.o D.1;rw[S];rfl
     rw[QU D.2]at e5;have HK:=O D;clear D;go_wp2_with fail;refine(X0 (tb:=tb) (l:=l) (st:=m) ac.o M).mono ?_;rintro e w2 ⟨rfl,Q,T⟩;have X:=O (HRD.o.mod Q (by omega));have ap:=O (XP (b:=tb) aF.o Q (by omega));have bR:=O T;have aS:=O (aD.o.trans (Q.below QF (by omega)));have bv:tb+1<w2.heap.size:=QI X.o;clear Q T;go_wp2_with fail;refine(Ak (J:=tb+1) (tb:=tb) (Y:=t) (l:=l) 1 (F:=F) X.o (by omega) bR.o M (by decide) a3).mono ?_;rintro e w3 Z;obtain⟨K,U,v,rfl,⟨B,hv⟩,bh⟩:=Z.st;obtain⟨⟨Y,k3,rfl,bI,aw,hne3⟩,bM⟩:=hv
     have HZ:Hid (∀z,bindS (nextS l m) (sLs l (QV 1) F)=.ok z->z.1=B):=by
      intro z hz;obtain⟨g,c,h1,_,h2,_⟩:=bh z hz;have e1:=Value.slice.inj h1;have e2:Y=g:=by have:=e1.1;simp at this;exact this
      subst e2;refine(List.ext_getElem (by have:=e1.2.1;omega) (fun j a8 a9=>?_)).symm;have q1:=aw j a8;have q2:=h2 j a9;rw[q1]at q2;rw[Zv,Zi a8,Zv,Zi a9]at q2;exact NM (Value.string.inj (ZK q2))
     have ab:=O (X.o.mod K (by omega));have ae:=O (XP (b:=tb) ap.o K (by omega));have aq:=O U;have ao:=O (aS.o.trans (K.below QF (by omega)));have bT:=O aw;have bQ:∀k,t.ownBlock=some k->k≠Y:=fun k D e=>by have:=(ap.o.lt k D).2;omega
     have aE:=O bQ;obtain⟨ad,bf⟩:=Qw (stOf (bindS (nextS l m) (sLs l (QV 1) F)));have ay:=O (fun rq' hq=>QyX (rq':=rq') bS.o ac.o HK.o U hq);rw[bf]at ay aq;have hgt3:tb+1<Y:=by omega
     clear Z K U bh aw bQ bf X ap bR aS HRD aF ac aD bS HK r0 c2 c4 c5 e5;go_upto_block 2 with fail
     go_cut [] (fun J=>∃(rq':Qn) (C:Value),rq'=B.foldl Xf d/\RdQ J (tb+1) tb C/\J.ownsRow (tb+2) 9 1 C rq'.length (QW rq')/\(rq'=[]->C=.slice none 0 0)/\TSt J tb l ad/\Below tb w J/\rq'.length<=d.length+B.length)
     case first=>
      go_wp2_with fail
      go_loopg [7,8] B.length (fun k i _ wy=>∃(j:Nat) (rq':Qn) (C:Value),k=B.length-j/\j<=B.length/\i=.int .i64 j/\rq'=(B.take j).foldl Xf d/\RdQ wy (tb+1) tb C/\wy.ownsRow (tb+2) 9 1 C rq'.length (QW rq')/\(rq'=[]->C=.slice none 0 0)/\TSt wy tb l ad/\Below tb w wy/\ZQ wy Y B/\(∀k,C.ownBlock=some k->k≠Y)/\rq'.length<=d.length+j)
      case atStart=>exact⟨0,d,t,by omega,QR,rfl,rfl,ab.o,ae.o,aV.o,aq.o,ao.o,bT.o,aE.o,by omega⟩
      case round=>
       obtain⟨j,rq',C,rfl,hj,rfl,ai,bO,u,G,A,p,aP,bQ,ba⟩:=hrel;have bU:=O G;clear G;have bW:=O ai;have HRD:=O bO;have aF:=O u;have ac:=O A;have aD:=O p;have aK:=O aP;have HGOR:=O bQ;have bx:tb+1<wr.heap.size:=QI bO;have r1:=Q9 bO;clear ai bO u A p bQ ab ae aq ao bT aE ay HZ;by_cases hlt:j<B.length
       .have aM:decide ((j:Int)<(B.length:Int))=true:=QU (by omega);have ck:wr.cell? ⟨Y,j,none⟩=some (.string (sA (B.getD j []))):=aP j hlt;have HFT:=O (QsI d (xs:=B) (k:=j) hlt);rw[<-bW.o]at HFT;obtain⟨x,hx⟩:=Qw (B.getD j []);rw[hx]at ck HFT
        have ak:Hid (∀W:World,W.heap=wr.heap->Calls prog 55 #[C,.string (sA x)] W fun e E=>e=.returned (.bool (decide (0<wL rq' x)))/\E=W):=by
         intro W hW;refine Bi C (zs:=rq') x (w:=W) ?_ (by omega)
         rcases (RdI.of_owns (w:=W) (by unfold RdQ;rw [hW];exact HRD.o) (by omega) (base:=tb+2) (by
          have:=aF.o;obtain⟨h1,h2⟩:=this;refine⟨h1,?_⟩;rw[hW]
          exact h2) (by omega) (by omega)).q with h | ⟨g,c,h1,h2,_⟩
         .exact Qt h
         .exact Qr ⟨g,c,h1,h2⟩
        clear hx aP;by_cases hin:0<wL rq' x
        .have HAD:Hid (Xf rq' x=rq'):=Qi hin;rw[QU hin]at ak;clear hin;go_wp2_with fail;go_quiet (first|(go_at_call 55;refine Kg (ak.o _ rfl)));go_wp2;go_roundg (B.length-(j+1))
         case measure=>omega
         case rel=>exact⟨j+1,rq',C,rfl,by omega,by go_num,by rw[HFT.o,HAD.o],HRD.o,aF.o,bU.o,ac.o.block rfl,⟨aD.o.os,aD.o.tape,aD.o.output,aD.o.size,aD.o.block⟩,aK.o,HGOR.o,by omega⟩
        .have HAD:Hid (Xf rq' x=rq'++[x]):=Qg hin;rw[QB hin]at ak;clear hin;go_wp2_with fail;go_quiet (first|(go_at_call 55;refine Kg (ak.o _ rfl)));obtain⟨la,H,rfl⟩:=Eg aF.o;generalize hW:wr.drewN _=V;have HVR:Hid (RdQ V (tb+1) tb (.slice la rq'.length H)):=by rw[<-hW];exact HRD.o
         have HVO:Hid (V.ownsRow (tb+2) 9 1 (.slice la rq'.length H) rq'.length (QW rq')):=by rw[<-hW];exact aF.o
         have HVT:Hid (TSt V tb l ad):=by rw[<-hW];exact ac.o.block rfl
         have HVB:Hid (Below tb w V):=by rw[<-hW];exact⟨aD.o.os,aD.o.tape,aD.o.output,aD.o.size,aD.o.block⟩
         have HVX:Hid (ZQ V Y B):=by rw[<-hW];exact aK.o
         have v1:V.cell? ⟨tb+1,1,none⟩=some (.slice la rq'.length H):=by rw[<-hW];exact r1
         have vk:V.cell? ⟨Y,j,none⟩=some (.string (sA x)):=by rw[<-hW];exact ck
         have bd:tb+1<V.heap.size:=QI HVR.o;have aY:Hid (Value.ownBlock (.slice la rq'.length H)≠some (tb+1)):=fun e=>by have:=(HVO.o.lt _ e).1;omega
         clear hW r1 ck HRD aF ac aD aK ak;go_wp2_with fail;go_region_law (refine step_append_lies _ rfl (.tmp 81) (.tmp 86) 61 rfl (tb+2) 9 i0 (.string ⟨#[]⟩) 1 16 underlying61 hi bz bA bB rfl (by decide) (.slice la rq'.length H) rq'.length (QW rq') (by simp[Act.eval,Act.put]) (HVO.o.alloc _) ⟨V.heap.size,0,none⟩ 1 1 [.string (sA x)] (by simp[Act.eval,Act.put]) rfl (Qyi V x) (Ro x) (by decide) (by unfold maxLen;omega) (by omega) (by simp;omega) _ rfl ?_;intro g' bF w5 bb aA a6 bL;have HO5:=O bb;have HG5:=O aA;have HAT:=O a6;have t2:w5.cell? ⟨tb+1,1,none⟩=some (.slice la rq'.length H):=aA.cell (a:=⟨tb+1,1,none⟩) ((Xo (a:=⟨tb+1,1,none⟩) (w:=V) (ZL _ _ _ bd)).trans v1) (fun e=>aY.o e.symm);have bH:∀j,w5.frozen? ⟨tb+1,j,none⟩=false:=fun j=>(World.frozen?_of_block (a:=⟨tb+1,j,none⟩) (w:=V) ((aA.block (tb+1) (by simp;omega) (fun e=>aY.o e.symm)).trans (ZL _ _ _ bd))).trans (QQ HVR.o j);clear bb aA a6;skip)
         all_goals go_wp2
         all_goals go_roundg (B.length-(j+1))
         all_goals first
          | (have hfin:=Qyp HVR.o HVO.o HVT.o HVB.o HVX.o HGOR.o hne3 hgt3 HG5.o HO5.o HAT.o
             exact ⟨j+1,rq'++[x],_,rfl,by omega,by go_num,by rw [HFT.o,HAD.o],hfin.1,hfin.2.1,(fun e=>by simp at e),hfin.2.2.1,hfin.2.2.2.1,hfin.2.2.2.2.1,hfin.2.2.2.2.2,by simp;omega⟩)
          |omega
       .have aM:decide ((j:Int)<(B.length:Int))=false:=QB (by omega);have bq:j=B.length:=by omega
        subst bq;go_wp2;go_meet;exact⟨rq',C,by rw[bW.o,Z7 QF],HRD.o,aF.o,bU.o,ac.o,aD.o,ba⟩
     case rest=>
      obtain⟨rq',C,ai,bO,u,G,A,p,ba⟩:=hcut;have bX:=O G;clear G;have bm:=O (KJ (k:=tb+1) (tb:=tb) (s:=C) (l:=l) 59 (st:=ad) (w:=wc) bO A M);have HRD:=O bO;have aF:=O u;have aD:=O p;have bw:tb+1<wc.heap.size:=QI bO;have aZ:=O (ay.o rq' (fun z hz=>by rw[HZ.o z hz];exact ai));clear ai bO u A p ay HZ ab ae aq ao bT aE;go_wp2_with fail;refine bm.o.mono ?_;rintro e w4 ⟨rfl,aC,bg⟩;have bl:=O (HRD.o.mod aC (by omega));have bk:=O (XP (b:=tb) aF.o aC (by omega));have b1:=O bg;have P:=O (aD.o.trans (aC.below QF (by omega)));have bs:=aZ.o.1;clear aC bg;go_wp2;go_roundg (muS l (signS l 59 ad))
      case measure=>exact bs
      case rel=>exact⟨_,rq',C,rfl,bl.o,bk.o,bX.o,b1.o,P.o,aZ.o.2,by omega⟩
    .have aU:Hid (∃(m:Qq PS) (d:Qn) (t:Value),RdQ wr (tb+1) tb t/\wr.ownsRow (tb+2) 9 1 t d.length (QW d)/\(d=[]->t=.slice none 0 0)/\TSt wr tb l m/\Below tb w wr/\d.length<=2000000/\R=bindS m fun s=>.ok (d,s)):=⟨m,d,t,HRD.o,aF.o,aV.o,ac.o,aD.o,by omega,QzL bS.o ac.o D⟩;by_cases hk1:(Qk l m).1=119
     .have aB:(((Qk l m).1:Int)==119)=true:=by simp;omega
      have ar:((errS m:Int)==0)=true:=by obtain⟨s,S,_,_⟩:=XS ac.o hk1;rw[S];rfl
      rw[QB (fun e=>D ⟨hk1,e⟩)]at e5;clear D hk1;go_wp2;go_meet;exact aU.o
     .have aB:(((Qk l m).1:Int)==119)=false:=by simp;omega
      clear D hk1 e5;cases ar:((errS m:Int)==0)
      all_goals go_wp2
      all_goals go_meet
      all_goals exact aU.o
  case rest=>
   obtain⟨m,d,t,bO,u,G,A,p,ah,hR⟩:=hcut;have aV:=O G;clear G;have hP:=aG.o d m hR;have N:RdI wc (tb+1) tb t d:=RdI.of_owns bO (by omega) u (by omega) (by omega);have bw:tb+1<wc.heap.size:=QI bO;obtain⟨R2,aL⟩:=Qw (bindS m (cMr (cmdL l d F 7) F []));rw[aL]at hP;have a0:Hid (Aa R2 l (cmdL l d F 7) m []):=⟨F,fun s S=>by rw[S]at A;have:=G3 A M;omega,aL.symm⟩;have bj:=O (fun s S=>Na (l:=l) (req:=d) (F:=F) 7 s S);have aT:=O (FA (n:=7) (Aa R2 l (cmdL l d F 7)) (V:=tb+1) (tb:=tb) (nv:=t) (rq:=d) (l:=l) (F:=F) (ad:=0) (st:=m) (w:=wc) N A M (TJ (tb+1) tb t d (l:=l) (F:=F) M a3 7 0 rfl) a0.o (fun w1 m bD bE h1 h2 Z h4=>Qx4 bj.o h1 h2 Z h4));have bV:=O N;have aS:=O p;have HP:=O hP;have aF:=O u;clear bO u A p hR hP N aL ax af aI aG a0;go_wp2_with fail;refine aT.o.mono ?_;rintro e w2 ⟨v,n,cs,rfl,Q,T,hj,D,⟨p2,m2,az,rfl⟩,hv⟩;have aJ:=O (QzR (fun s h1 h2=>Ix h1 h2) hj T D);have X:=O (bV.o.mod Q);have ap:=O (XP (b:=tb) aF.o Q (by omega));have ao:=O (aS.o.trans (Q.below QF (by omega)));have bR:=O T;have b2:=O hv;have bv:tb+1<w2.heap.size:=QI X.o.r;have r0:=Zs X.o.r;obtain⟨q2,q4,q5,q6,q7⟩:=T.cells;have HF:=O (Ka (tb:=tb) (l:=l) (st:=n) ⟨4,(Qk l n).2.2.2⟩ (w:=w2.drew) (T.block rfl) M (Yh 3));clear Q T hj D hv bV aF aS aT;go_upto_if 102 with fail
   go_cut [] (fun J=>Mod tb w2 J/\TSt J tb l (if(Qk l n).1=0 then n else failS n ⟨4,(Qk l n).2.2.2⟩))
   case first=>
    by_cases h0:(Qk l n).1=0
    .have aB:(((Qk l n).1:Int) != 0)=false:=by simp;omega
     have HI:Hid ((if(Qk l n).1=0 then n else failS n ⟨4,(Qk l n).2.2.2⟩)=n):=Qi h0;clear h0;go_wp2;go_meet;exact⟨Mod.refl _ _,by rw[HI.o];exact bR.o⟩
    .have aB:(((Qk l n).1:Int) != 0)=true:=by simp;omega
     have HI:Hid ((if(Qk l n).1=0 then n else failS n ⟨4,(Qk l n).2.2.2⟩)=failS n ⟨4,(Qk l n).2.2.2⟩):=Qg h0;clear h0;go_wp2_with fail;go_region_with (first|(go_at_call 70;refine HF.o.mono ?_;rintro e w3 h1;obtain⟨rfl,au,av⟩:=h1;have bN:=O au;have aq:=O av;clear au av;skip))
     all_goals go_wp2
     all_goals go_meet
     all_goals exact⟨Uc bN.o,by rw[HI.o];exact aq.o⟩
   case rest=>
    obtain⟨K,U⟩:=hcut;obtain⟨aQ,aO⟩:=Qw (if(Qk l n).1=0 then n else failS n ⟨4,(Qk l n).2.2.2⟩);rw[aO]at aJ U;have ab:=O (X.o.mod K);have ae:=O (XP (b:=tb) ap.o K (by omega));have P:=O (ao.o.trans (K.below QF (by omega)));have bN:=O K;have aq:=O U;have r3:=Zs ab.o.r;have r4:=Q9 ab.o.r;obtain⟨y2,_,_,_,_⟩:=U.cells;have b0:=O aO;clear K U aO r0 q2 q4 q5 q6 q7
    cases aQ with
    |error f=>
     have y3:=XU aq.o.1;have ar:((errS (.error f):Int) != 0)=true:=by have:=aq.o.2;show((f.err:Int) != 0)=true;simp;omega
     have bC:wc.cell? ⟨tb,2,none⟩=some (.int .i64 f.err):=y2;have bG:((f.err:Int) != 0)=true:=ar;have a4:prL l=.error f:=by rw[HP.o,aJ.o];rfl
     have bY:=O a4;clear y2 ar a4;go_wp2_with fail;go_quiet (fail);go_wp2;refine Q_ (v:=.tuple #[.pointer none,.int .i64 f.err,.int .i64 f.pos]) (by simp[results,results44,go_sem]) rfl ?_;exact a1.o _ _ f bY.o (by rw[<-bP.o];exact⟨P.o.os,P.o.tape,P.o.output,P.o.size,P.o.block⟩) rfl
    |ok s=>
     have bC:wc.cell? ⟨tb,2,none⟩=some (.int .i64 0):=y2;have a5:prL l=.ok (d,cs):=by rw[HP.o,aJ.o];rfl
     have bZ:=O a5
     have bu:∃s,n=.ok s:=by
      cases n with
      |ok s=>exact⟨s,rfl⟩
      |error g=>have:=b0.o;rw[Qi (show(Qk l (.error g)).1=0 from rfl)]at this;cases this
     obtain⟨s2,bc⟩:=bu;have bo:=O (b2.o s2 bc);obtain⟨la,H,rfl⟩:=Eg ae.o;have bp:=O ((Xk (XD 7)).weak _ (fromB w.heap.size) _ _ _ ((Xk (XD 7)).keep _ _ _ _ _ bo.o ((bN.o.alloc (.cells #[.slice la d.length H,.slice p2 m2 az] 115)).abvX (fun e=>by have e':_<=tb:=e;omega))) (fun k D _=>by have bJ:_<=k:=D;show w.heap.size<=k;rw[<-bP.o];omega))
     have bn:Hid (slY (fromB w.heap.size) d (wc.alloc (.cells #[.slice la d.length H,.slice p2 m2 az] 115)) (.slice la d.length H)):=by
      by_cases hq:d=[]
      .exact Qt ⟨hq,aV.o hq⟩
      .refine Qr ?_;obtain⟨g,c,h1,h2,Z,h4⟩:=slB.of_owns (ae.o.alloc (.cells #[.slice la d.length H,.slice p2 m2 az] 115)) rfl hq;exact⟨g,c,h1,by show w.heap.size<=g;rw[<-bP.o];omega,Z,h4⟩
     clear y2 a5 bc;go_wp2;refine Q_ (v:=.tuple #[.pointer (some ⟨wc.heap.size,0,none⟩),.int .i64 0,.int .i64 0]) (by simp[results,results44,go_sem]) rfl ?_;have a7:=P.o.alloc (by have:=QI ab.o.r;omega) (.cells #[.slice la d.length H,.slice p2 m2 az] 115);rw[bP.o]at a7;exact a2.o _ _ (d,cs) _ bZ.o a7 rfl ⟨wc.heap.size,_,_,rfl,P.o.size,Q0,bn.o,bp.o⟩
end Go.Proofs.YtgnkjijocdmniaaGreatDoor
