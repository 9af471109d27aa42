import Derived.Test.YtgnkjijocdmniaaGreatDoorZQParseP
namespace Go.Proofs.YtgnkjijocdmniaaGreatDoor
set_option linter.unusedVariables false
set_option linter.unusedSimpArgs false
set_option maxRecDepth 100000
set_option maxHeartbeats 4000000
open Go.Proofs.Tryz
open Go.RowKit
attribute [local go_sem ↓] Go.wp_at_zero Go.wp_at_succ
def JV(X:Nat->Prop)(y:Qa×List (Zt 7))(w:World)(v:Value):Prop:=
 ∃ g nv bv,v=.pointer (some ⟨g,0,none⟩)/\X g/\w.heap[g]?=some (.cells #[nv,bv] 115)/\slY X y.1 w nv/\trY (ZU 7) X y.2 w bv
def Nu(l:L8)(w:World)(e:Ending)(w':World):Prop:=
 Below w.heap.size w w'/\
 if 600<l.length then e=.returned (.tuple #[.pointer none,.int .i64 1,.int .i64 0])else
 match prL l with
 | .ok y=>∃ v,e=.returned (.tuple #[v,.int .i64 0,.int .i64 0])/\JV (fromB w.heap.size) y w' v
 | .error f=>e=.returned (.tuple #[.pointer none,.int .i64 f.err,.int .i64 f.pos])
variable{w:World}
theorem Rl(V:World)(x:L8)(b:TypeId):∀ j u,[Value.string (sA x)][j]?=some u->(V.alloc (.cells #[.string (sA x)] b)).cell? ((⟨V.heap.size,0,none⟩:Addr).add j)=some u:=by
 intro j u a
 match j,a with
 |0,a=>simp at a;subst a;simp[Addr.add]
theorem Wo(x:L8):∀ u∈[Value.string (sA x)],u.oneCell'=true:=by intro u a;simp at a;subst a;rfl
theorem AO{base:Nat}{e:TypeId}{size:Nat}{v:Value}{n:Nat}{xs:List Value}(h:w.ownsRow base e size v n xs):∃ a c,v=.slice a n c:=by
 rcases h.2 with⟨h,b⟩ | ⟨g,d,f,h,_⟩
 ·exact⟨none,0,by rw[h,b]⟩
 ·exact⟨_,_,h⟩
theorem SR{V d:World}{tb c b f:Nat}{rq xs:Qa}{x l:L8}{st:Qb PS}{nv:Value}{o:Obj}(r:RdQ V (tb+1) tb nv)(E:V.ownsRow (tb+2) 9 1 nv rq.length (Qv rq))(F:TSt V tb l st)(y:Below tb w V)(s:Zx V c xs)(q:∀ k,nv.ownBlock=some k->k≠c)(z:xs≠[])(H:tb+1<c)(p:((V.alloc o).drew).grownBy d nv.ownBlock)(u:d.ownsRow (tb+2) 9 1 (.slice (some ⟨b,0,none⟩) (rq.length+1) f) (rq.length+1) (Qv rq++[.string (sA x)]))(v:nv.ownBlock=some b\/b=(V.alloc o).drew.heap.size) :
 RdQ (d.setCell ⟨tb+1,1,none⟩ (.slice (some ⟨b,0,none⟩) (rq.length+1) f)) (tb+1) tb (.slice (some ⟨b,0,none⟩) (rq.length+1) f)/\(d.setCell ⟨tb+1,1,none⟩ (.slice (some ⟨b,0,none⟩) (rq.length+1) f)).ownsRow (tb+2) 9 1 (.slice (some ⟨b,0,none⟩) (rq.length+1) f) (rq++[x]).length (Qv (rq++[x]))/\TSt (d.setCell ⟨tb+1,1,none⟩ (.slice (some ⟨b,0,none⟩) (rq.length+1) f)) tb l st/\Below tb w (d.setCell ⟨tb+1,1,none⟩ (.slice (some ⟨b,0,none⟩) (rq.length+1) f))/\Zx (d.setCell ⟨tb+1,1,none⟩ (.slice (some ⟨b,0,none⟩) (rq.length+1) f)) c xs/\(∀ k,(Value.slice (some ⟨b,0,none⟩) (rq.length+1) f).ownBlock=some k->k≠c):=by
 have m:=fun k (g:nv.ownBlock=some k)=>E.lt k g
 have G:tb+1<V.heap.size:=Qg r;have n:(V.alloc o).drew.heap.size=V.heap.size+1:=by show(V.alloc o).heap.size=_;simp
 have i:∀ k,k<V.heap.size->nv.ownBlock≠some k->d.heap[k]?=V.heap[k]?:=fun k g D=>by
  rw[p.block k (by rw[n];omega) (fun e=>D e.symm)];exact Below.heap_alloc _ _ _ g
 have A:c<V.heap.size:=Qq (s 0 (List.length_pos_iff.2 z));have t:d.heap[c]?=V.heap[c]?:=i c A (fun e=>q c e rfl);refine⟨Qt _ _ _ _ _ _ ((i (tb+1) G (fun e=>by have:=(m _ e).1;omega)).trans r),YR (by rw[Ze,<-X0];exact u) (by omega),(F.block (i tb (by omega) (fun e=>by have:=(m _ e).1;omega))).block (QK (by show tb≠tb+1;omega)),((((y.alloc (by omega) o).drew).grown p (by rw[n];omega) (fun k g=>by have:=(m k g).1;omega)).setCell (by show tb<=tb+1;omega) _),fun j B=>?_,fun k g e=>?_⟩
 ·have:=s j B;rw[ZA (w:=d) (a:=⟨c,j,none⟩) (QK (by show c≠tb+1;omega)),ZA (w:=V) (a:=⟨c,j,none⟩) t];exact this
 ·have C:b=k:=by simpa[Value.ownBlock]using g
  rcases v with h|h
  ·exact q b h (C.trans e)
  ·rw[n]at h;omega
theorem N6(l:L8)(w:World)(b2:l.length<=140737488355328) :
 Calls prog 44 #[.string (sA l)] w (Nu l w):=by
 have hz:=QN l;by_cases ai:600<l.length
 ·have aT:decide ((600:Int)<(l.length:Int))=true:=Qw (by omega)
  have HX:Hid (∀ e G,Below w.heap.size w G->e=.returned (.tuple #[.pointer none,.int .i64 1,.int .i64 0])->Nu l w e G):=by
   intro e G h1 h2;exact⟨h1,by rw[if_pos ai];exact h2⟩
  go_enter func44,ntmps44;go_wp2;refine bodyPost_ret (v:=.tuple #[.pointer none,.int .i64 1,.int .i64 0]) (by simp[results,results44,go_sem]) rfl ?_;exact HX.o _ _ (Below.refl _ _) rfl
 ·have S:l.length<=600:=by omega
  have aT:decide ((600:Int)<(l.length:Int))=false:=Qh (by omega)
  have a9:Hid (∀ e G f,prL l=.error f->Below w.heap.size w G->e=.returned (.tuple #[.pointer none,.int .i64 f.err,.int .i64 f.pos])->Nu l w e G):=by
   intro e G f hp h1 h2;exact⟨h1,by rw[if_neg ai,hp];exact h2⟩
  have ba:Hid (∀ e G y v,prL l=.ok y->Below w.heap.size w G->e=.returned (.tuple #[v,.int .i64 0,.int .i64 0])->JV (fromB w.heap.size) y G v->Nu l w e G):=by
   intro e G y v hp h1 h2 h3;exact⟨h1,by rw[if_neg ai,hp];exact⟨v,h2,h3⟩⟩
  clear ai;obtain⟨P,ah⟩:=QF ((w.alloc (.cells (Ng l 0 0 0 0 [] 0 0) 138)).alloc (.cells #[.pointer (some ⟨w.heap.size,0,none⟩),.slice none 0 0] 140));have bF:=I ah;have aY:Hid (Below w.heap.size w P):=by show Below _ _ _;rw[ah];exact(Qp _).alloc (by simp) _
  have a2:Hid (QT P w.heap.size l 0 0 0 0 [] 0 0):=by show P.heap[w.heap.size]?=_;rw[ah,Below.heap_alloc _ _ _ (by simp)];exact QC _ _
  have a3:Hid (RdQ P (w.heap.size+1) w.heap.size (.slice none 0 0)):=by show P.heap[w.heap.size+1]?=_;rw[ah];have:=QC (w.alloc (.cells (Ng l 0 0 0 0 [] 0 0) 138)) (.cells #[.pointer (some ⟨w.heap.size,0,none⟩),.slice none 0 0] 140);simpa using this
  have bJ:P.heap.size=w.heap.size+2:=by rw[ah];simp
  clear ah;obtain⟨i0,hi,bO,bP,bQ⟩:=info_parts Tryz.infoStr;go_enter func44,ntmps44;go_wp2_with fail;have hW:(w.alloc (.cells #[.string (sA l),.int .i64 0,.int .i64 0,.int .i64 0,.int .u8 0,.string ⟨#[]⟩,.int .i64 0,.int .i64 0] 138)).alloc (.cells #[.pointer (some ⟨w.heap.size,0,none⟩),.slice none 0 0] 140)=P:=bF.o.symm;rw[hW];clear hW;refine(Dl w.heap.size l 0 0 [] 0 0 P a2.o S QE).mono ?_;rintro e w1 ⟨rfl,aj,ao⟩;have bq:=I (aY.o.trans (aj.below Ql (by omega)));have aB:=I (a3.o.mod aj (by omega));have ag:=I ao;have bH:=Gb ao S;obtain⟨ap,aU⟩:=Qe (nL l 0);rw[aU]at ag bH;obtain⟨F,hF⟩:=QF (2*l.length+10);obtain⟨R,hR⟩:=Qe (bindS ap (X2 l F F []))
  have aM:Hid (∀ d st,R=(bindS st fun s=>.ok (d,s))->prL l=match bindS st (cMr (QG l d F 7) F [])with | .ok cs=>.ok (d,cs) | .error f=>.error f):=by
   intro d st h;subst hF;exact R6 (by rw[aU,hR];exact h)
  have aN:Hid (Gn R l F ap []):=⟨F,fun s Z=>by have:=ag.o;rw[Z]at this;have:=UB this S;omega,hR.symm⟩;have bb:2*l.length+2<=F:=by omega
  clear aj ao hR aU hF aY a3 a2;obtain⟨tb,aI⟩:=QF (w.heap.size);go_upto_block 0 with fail
  rw[<-aI];rw[<-aI]at aB ag;have aw:=I aI;clear aI bJ;go_cut [] (fun L=>∃(m:Qb PS) (d:Qa) (p:Value),RdQ L (tb+1) tb p/\L.ownsRow (tb+2) 9 1 p d.length (Qv d)/\(d=[]->p=.slice none 0 0)/\TSt L tb l m/\Below tb w L/\d.length<=2000000/\R=bindS m fun s=>.ok (d,s))
  case first=>
   go_wp2_with fail
   go_loopg [6,7,8] (muS l ap) (fun k _ _ _ wr=>∃(m:Qb PS) (d:Qa) (p:Value),k=muS l m/\RdQ wr (tb+1) tb p/\wr.ownsRow (tb+2) 9 1 p d.length (Qv d)/\(d=[]->p=.slice none 0 0)/\TSt wr tb l m/\Below tb w wr/\Gn R l F m d/\d.length+1400*muS l m<=1684200)
   case atStart=>exact⟨ap,[],_,rfl,aB.o,Zj,fun _=>rfl,ag.o,by rw[aw.o];exact bq.o,aN.o,by simp;omega⟩
   case round=>
    obtain⟨m,d,p,rfl,u,J,N,E,M,ak,ai⟩:=hrel;have aA:=I N;clear N;have HRD:=I u;have C:=I J;have H:=I E;have t:=I M;have aO:=I ak;have bN:tb+1<wr.heap.size:=Qg u;have r0:=Qk u;obtain⟨c2,c4,c5,_,_⟩:=E.cells;have e5:((sA (O l m).2.1).toList==[114,101,113,117,105,114,101])=decide ((O l m).2.1=JN):=Zg _ _;clear u J E M ak aB ag aN aM a9 ba;by_cases D:(O l m).1=119/\(O l m).2.1=JN
    ·have aG:(((O l m).1:Int)==119)=true:=by simp;omega
     have ax:((errS m:Int)==0)=true:=by obtain⟨s,Z,_,_⟩:=ZR H.o D.1;rw[Z];rfl
     rw[Qw D.2]at e5;have HK:=I D;clear D;go_wp2_with fail;refine(Z2 tb l m _ H.o S).mono ?_;rintro e w2 ⟨rfl,T,ac⟩;have aa:=I (HRD.o.mod T (by omega));have av:=I (ZP (b:=tb) C.o T (by omega));have aD:=I ac;have ar:=I (t.o.trans (T.below Ql (by omega)));have bL:tb+1<w2.heap.size:=Qg aa.o;clear T ac;go_wp2_with fail;refine(VG (tb+1) tb p l 1 F _ _ aa.o (by omega) aD.o S (by decide) bb).mono ?_;rintro e w3 h3;obtain⟨U,ad,v,rfl,⟨A,hv⟩,bp⟩:=h3.st;obtain⟨⟨Q,k3,rfl,bY,aJ,hne3⟩,b6⟩:=hv
     have HZ:Hid (∀ z,bindS (nextS l m) (sLs l (Qz 1) F)=.ok z->z.1=A):=by
      intro z hz;obtain⟨g,c,h1,_,h2,_⟩:=bp z hz;have e1:=Value.slice.inj h1;have e2:Q=g:=by have:=e1.1;simp at this;exact this
      subst e2;refine(List.ext_getElem (by have:=e1.2.1;omega) (fun j bh bi=>?_)).symm;have q1:=aJ j bh;have q2:=h2 j bi;rw[q1]at q2;rw[List.getD_eq_getElem?_getD,List.getElem?_eq_getElem bh,List.getD_eq_getElem?_getD,List.getElem?_eq_getElem bi]at q2;exact U9 (Value.string.inj (Option.some.inj q2))
     have ab:=I (aa.o.mod U (by omega));have af:=I (ZP (b:=tb) av.o U (by omega));have Y:=I ad;have au:=I (ar.o.trans (U.below Ql (by omega)));have aQ:=I aJ;have ay:∀ k,p.ownBlock=some k->k≠Q:=fun k D e=>by have:=(av.o.lt k D).2;omega
     have aK:=I ay;have b5:tb+1<w3.heap.size:=Qg ab.o;have b0:Q<w3.heap.size:=Qq (aJ 0 (List.length_pos_iff.2 hne3));obtain⟨ae,bn⟩:=Qe (stOf (bindS (nextS l m) (sLs l (Qz 1) F)));have aC:=I (fun rq' hq=>So (rq':=rq') aO.o H.o HK.o ad hq);rw[bn]at aC Y;have hgt3:tb+1<Q:=by omega
     clear h3 U ad bp aJ ay bn aa av aD ar HRD C H t aO HK r0 c2 c4 c5 e5;go_upto_block 2 with fail
     go_cut [] (fun L=>∃(rq':Qa) (B:Value),rq'=A.foldl ZQ d/\RdQ L (tb+1) tb B/\L.ownsRow (tb+2) 9 1 B rq'.length (Qv rq')/\(rq'=[]->B=.slice none 0 0)/\TSt L tb l ae/\Below tb w L/\rq'.length<=d.length+A.length)
     case first=>
      go_wp2_with fail
      go_loopg [7,8] A.length (fun k i _ wy=>∃(j:Nat) (rq':Qa) (B:Value),k=A.length - j/\j<=A.length/\i=.int .i64 j/\rq'=(A.take j).foldl ZQ d/\RdQ wy (tb+1) tb B/\wy.ownsRow (tb+2) 9 1 B rq'.length (Qv rq')/\(rq'=[]->B=.slice none 0 0)/\TSt wy tb l ae/\Below tb w wy/\Zx wy Q A/\(∀ k,B.ownBlock=some k->k≠Q)/\rq'.length<=d.length+j)
      case atStart=>exact⟨0,d,p,by omega,QE,rfl,rfl,ab.o,af.o,aA.o,Y.o,au.o,aQ.o,aK.o,by omega⟩
      case round=>
       obtain⟨j,rq',B,rfl,hj,rfl,az,u,J,N,E,M,aW,ay,bj⟩:=hrel;have a1:=I N;clear N;have a6:=I az;have HRD:=I u;have C:=I J;have H:=I E;have t:=I M;have aR:=I aW;have HGOR:=I ay;have bN:tb+1<wr.heap.size:=Qg u;have r1:=Qr u;clear az u J E M ay ab af Y au aQ aK aC HZ;by_cases hlt:j<A.length
       ·have aT:decide ((j:Int)<(A.length:Int))=true:=Qw (by omega);have ck:wr.cell? ⟨Q,j,none⟩=some (.string (sA (A.getD j []))):=aW j hlt;have HFT:=I (M0 d A j hlt);rw[<-a6.o]at HFT;obtain⟨x,hx⟩:=Qe (A.getD j []);rw[hx]at ck HFT
        have aq:Hid (∀ W:World,W.heap=wr.heap->Calls prog 55 #[B,.string (sA x)] W fun e G=>e=.returned (.bool (decide (0<wL rq' x)))/\G=W):=by
         intro W hW;refine Aa B rq' x W ?_ (by omega)
         rcases (RdI.of_owns (w:=W) (by unfold RdQ;rw [hW];exact HRD.o) (by omega) (base:=tb+2) (by
          have:=C.o;obtain⟨h1,h2⟩:=this;refine⟨h1,?_⟩;rw[hW]
          exact h2) (by omega) (by omega)).q with h | ⟨g,c,h1,h2,_⟩
         ·exact Qd h
         ·exact Qc ⟨g,c,h1,h2⟩
        clear hx aW;by_cases hin:0<wL rq' x
        ·have HAD:Hid (ZQ rq' x=rq'):=if_pos hin;rw[Qw hin]at aq;clear hin;go_wp2_with fail;go_quiet (first|(go_at_call 55;refine Calls.quiet_of_same (aq.o _ rfl)));go_wp2;go_roundg (A.length - (j+1))
         case measure=>omega
         case rel=>exact⟨j+1,rq',B,rfl,by omega,by go_num,by rw[HFT.o,HAD.o],HRD.o,C.o,a1.o,H.o.block rfl,⟨t.o.os,t.o.tape,t.o.output,t.o.size,t.o.block⟩,aR.o,HGOR.o,by omega⟩
        ·have HAD:Hid (ZQ rq' x=rq'++[x]):=if_neg hin;rw[Qh hin]at aq;clear hin;go_wp2_with fail;go_quiet (first|(go_at_call 55;refine Calls.quiet_of_same (aq.o _ rfl)));obtain⟨la,K,rfl⟩:=AO C.o;generalize hW:wr.drewN _=V;have HVR:Hid (RdQ V (tb+1) tb (.slice la rq'.length K)):=by rw[<-hW];exact HRD.o
         have HVO:Hid (V.ownsRow (tb+2) 9 1 (.slice la rq'.length K) rq'.length (Qv rq')):=by rw[<-hW];exact C.o
         have HVT:Hid (TSt V tb l ae):=by rw[<-hW];exact H.o.block rfl
         have HVB:Hid (Below tb w V):=by rw[<-hW];exact⟨t.o.os,t.o.tape,t.o.output,t.o.size,t.o.block⟩
         have HVX:Hid (Zx V Q A):=by rw[<-hW];exact aR.o
         have v1:V.cell? ⟨tb+1,1,none⟩=some (.slice la rq'.length K):=by rw[<-hW];exact r1
         have vk:V.cell? ⟨Q,j,none⟩=some (.string (sA x)):=by rw[<-hW];exact ck
         have bm:tb+1<V.heap.size:=Qg HVR.o;have bZ:Q<V.heap.size:=Qq vk;have bV:tb+2<=V.heap.size:=by omega
         have a5:Hid (Value.ownBlock (.slice la rq'.length K)≠some (tb+1)):=fun e=>by have:=(HVO.o.lt _ e).1;omega
         clear hW r1 ck HRD C H t aR aq;go_wp2_with fail;go_region_law (refine step_append_lies _ rfl (.tmp 81) (.tmp 86) 61 rfl (tb+2) 9 i0 (.string ⟨#[]⟩) 1 16 underlying61 hi bO bP bQ rfl (by decide) (.slice la rq'.length K) rq'.length (Qv rq') (by simp[Act.eval,Act.put]) (HVO.o.alloc _) ⟨V.heap.size,0,none⟩ 1 1 [.string (sA x)] (by simp[Act.eval,Act.put]) rfl (Rl V x _) (Wo x) (by decide) (by unfold maxLen;omega) (by omega) (by simp;omega) _ rfl ?_;intro g' bU w5 bk aF bf b3;have HO5:=I bk;have HG5:=I aF;have HAT:=I bf;have t2:w5.cell? ⟨tb+1,1,none⟩=some (.slice la rq'.length K):=aF.cell (a:=⟨tb+1,1,none⟩) ((ZA (a:=⟨tb+1,1,none⟩) (w:=V) (Below.heap_alloc _ _ _ bm)).trans v1) (fun e=>a5.o e.symm);have bX:∀ j,w5.frozen? ⟨tb+1,j,none⟩=false:=fun j=>(World.frozen?_of_block (a:=⟨tb+1,j,none⟩) (w:=V) ((aF.block (tb+1) (by simp;omega) (fun e=>a5.o e.symm)).trans (Below.heap_alloc _ _ _ bm))).trans (Qu HVR.o j);clear bk aF bf;skip)
         all_goals go_wp2
         all_goals go_roundg (A.length - (j+1))
         all_goals first
          | (have hfin:=SR HVR.o HVO.o HVT.o HVB.o HVX.o HGOR.o hne3 hgt3 HG5.o HO5.o HAT.o
             exact ⟨j+1,rq'++[x],_,rfl,by omega,by go_num,by rw [HFT.o,HAD.o],hfin.1,hfin.2.1,(fun e=>by simp at e),hfin.2.2.1,hfin.2.2.2.1,hfin.2.2.2.2.1,hfin.2.2.2.2.2,by simp;omega⟩)
          |omega
       ·have aT:decide ((j:Int)<(A.length:Int))=false:=Qh (by omega);have bG:j=A.length:=by omega
        subst bG;go_wp2;go_meet;exact⟨rq',B,by rw[a6.o,List.take_of_length_le Ql],HRD.o,C.o,a1.o,H.o,t.o,bj⟩
     case rest=>
      obtain⟨rq',B,az,u,J,N,E,M,bj⟩:=hcut;have bs:=I N;clear N;have bz:=I (YQ (tb+1) tb B l 59 ae wc u E S);have HRD:=I u;have C:=I J;have t:=I M;have bM:tb+1<wc.heap.size:=Qg u;have a7:=I (aC.o rq' (fun z hz=>by rw[HZ.o z hz];exact az));clear az u J E M aC HZ ab af Y au aQ aK;go_wp2_with fail;refine bz.o.mono ?_;rintro e w4 ⟨rfl,aH,bo⟩;have bw:=I (HRD.o.mod aH (by omega));have bt:=I (ZP (b:=tb) C.o aH (by omega));have bB:=I bo;have X:=I (t.o.trans (aH.below Ql (by omega)));have bI:=a7.o.1;clear aH bo;go_wp2;go_roundg (muS l (signS l 59 ae))
      case measure=>exact bI
      case rel=>exact⟨_,rq',B,rfl,bw.o,bt.o,bs.o,bB.o,X.o,a7.o.2,by omega⟩
    ·have a0:Hid (∃(m:Qb PS) (d:Qa) (p:Value),RdQ wr (tb+1) tb p/\wr.ownsRow (tb+2) 9 1 p d.length (Qv d)/\(d=[]->p=.slice none 0 0)/\TSt wr tb l m/\Below tb w wr/\d.length<=2000000/\R=bindS m fun s=>.ok (d,s)):=⟨m,d,p,HRD.o,C.o,aA.o,H.o,t.o,by omega,T5 aO.o H.o D⟩;by_cases hk1:(O l m).1=119
     ·have aG:(((O l m).1:Int)==119)=true:=by simp;omega
      have ax:((errS m:Int)==0)=true:=by obtain⟨s,Z,_,_⟩:=ZR H.o hk1;rw[Z];rfl
      rw[Qh (fun e=>D ⟨hk1,e⟩)]at e5;clear D hk1;go_wp2;go_meet;exact a0.o
     ·have aG:(((O l m).1:Int)==119)=false:=by simp;omega
      clear D hk1 e5;cases ax:((errS m:Int)==0)
      all_goals go_wp2
      all_goals go_meet
      all_goals exact a0.o
  case rest=>
   obtain⟨m,d,p,u,J,N,E,M,ai,hR⟩:=hcut;have aA:=I N;clear N;have hP:=aM.o d m hR;have ak:RdI wc (tb+1) tb p d:=RdI.of_owns u (by omega) J (by omega) (by omega);have bM:tb+1<wc.heap.size:=Qg u;obtain⟨R2,aS⟩:=Qe (bindS m (cMr (QG l d F 7) F []));rw[aS]at hP;have a8:Hid (Gs R2 l (QG l d F 7) m []):=⟨F,fun s Z=>by rw[Z]at E;have:=UB E S;omega,aS.symm⟩;have br:=I (fun s Z=>UJ (l:=l) (req:=d) (F:=F) 7 s Z);have aZ:=I (Bx 7 (Gs R2 l (QG l d F 7)) (tb+1) tb p d l F 0 m wc ak E S (Ie (tb+1) tb p d l F S bb 7 0 rfl) a8.o (fun w1 m bS bT h1 h2 h3 h4=>Rs br.o h1 h2 h3 h4));have a4:=I ak;have ar:=I M;have HP:=I hP;have C:=I J;clear u J E M hR hP ak aS aB ag aN aM a8;go_wp2_with fail;refine aZ.o.mono ?_;rintro e w2 ⟨v,n,cs,rfl,T,ac,hj,D,⟨p2,m2,aE,rfl⟩,hv⟩;have aP:=I (TV (fun s h1 h2=>CA h1 h2) hj ac D);have aa:=I (a4.o.mod T);have av:=I (ZP (b:=tb) C.o T (by omega));have au:=I (ar.o.trans (T.below Ql (by omega)));have aD:=I ac;have bE:=I hv;have bL:tb+1<w2.heap.size:=Qg aa.o.r;have b4:=T.size;have r0:=Qk aa.o.r;obtain⟨q2,q4,q5,q6,q7⟩:=ac.cells;have HF:=I (Yu tb l n ⟨4,(O l n).2.2.2⟩ w2.drew (ac.block rfl) S (Nat.succ_ne_zero 3));clear T ac hj D hv a4 C ar aZ;go_upto_if 102 with fail
   go_cut [] (fun L=>Mod tb w2 L/\TSt L tb l (if(O l n).1=0 then n else failS n ⟨4,(O l n).2.2.2⟩))
   case first=>
    by_cases h0:(O l n).1=0
    ·have aG:(((O l n).1:Int) != 0)=false:=by simp;omega
     have HI:Hid ((if(O l n).1=0 then n else failS n ⟨4,(O l n).2.2.2⟩)=n):=if_pos h0;clear h0;go_wp2;go_meet;exact⟨Mod.refl _ _,by rw[HI.o];exact aD.o⟩
    ·have aG:(((O l n).1:Int) != 0)=true:=by simp;omega
     have HI:Hid ((if(O l n).1=0 then n else failS n ⟨4,(O l n).2.2.2⟩)=failS n ⟨4,(O l n).2.2.2⟩):=if_neg h0;clear h0;go_wp2_with fail;go_region_with (first|(go_at_call 70;refine HF.o.mono ?_;rintro e w3 h1;obtain⟨rfl,aj,ao⟩:=h1;have aL:=I aj;have Y:=I ao;clear aj ao;skip))
     all_goals go_wp2
     all_goals go_meet
     all_goals exact⟨Y8 aL.o,by rw[HI.o];exact Y.o⟩
   case rest=>
    obtain⟨U,ad⟩:=hcut;obtain⟨aX,aV⟩:=Qe (if(O l n).1=0 then n else failS n ⟨4,(O l n).2.2.2⟩);rw[aV]at aP ad;have ab:=I (aa.o.mod U);have af:=I (ZP (b:=tb) av.o U (by omega));have X:=I (au.o.trans (U.below Ql (by omega)));have aL:=I U;have Y:=I ad;have r3:=Qk ab.o.r;have r4:=Qr ab.o.r;obtain⟨y2,_,_,_,_⟩:=ad.cells;have bx:=I aV;clear U ad aV r0 q2 q4 q5 q6 q7
    cases aX with
    |error f=>
     have y3:=QR Y.o.1;have ax:((errS (.error f):Int) != 0)=true:=by have:=Y.o.2;show((f.err:Int) != 0)=true;simp;omega
     have bR:wc.cell? ⟨tb,2,none⟩=some (.int .i64 f.err):=y2;have bW:((f.err:Int) != 0)=true:=ax;have bc:prL l=.error f:=by rw[HP.o,aP.o];rfl
     have bu:=I bc;clear y2 ax bc;go_wp2_with fail;go_quiet (fail);go_wp2;refine bodyPost_ret (v:=.tuple #[.pointer none,.int .i64 f.err,.int .i64 f.pos]) (by simp[results,results44,go_sem]) rfl ?_;exact a9.o _ _ f bu.o (by rw[<-aw.o];exact⟨X.o.os,X.o.tape,X.o.output,X.o.size,X.o.block⟩) rfl
    |ok s=>
     have bR:wc.cell? ⟨tb,2,none⟩=some (.int .i64 0):=y2;have bd:prL l=.ok (d,cs):=by rw[HP.o,aP.o];rfl
     have bv:=I bd
     have bK:∃ s,n=.ok s:=by
      cases n with
      |ok s=>exact⟨s,rfl⟩
      |error g=>have:=bx.o;rw[if_pos (show(O l (.error g)).1=0 from rfl)]at this;cases this
     obtain⟨s2,bl⟩:=bK;have bC:=I (bE.o s2 bl);obtain⟨la,K,rfl⟩:=AO af.o;have bD:=I ((ZL (ZZ 7)).weak _ (fromB w.heap.size) _ _ _ ((ZL (ZZ 7)).keep _ _ _ _ _ bC.o ((aL.o.alloc (.cells #[.slice la d.length K,.slice p2 m2 aE] 115)).abvX (fun e=>by have e':_<=tb:=e;omega))) (fun k D _=>by have b1:_<=k:=D;show w.heap.size<=k;rw[<-aw.o];omega))
     have bA:Hid (slY (fromB w.heap.size) d (wc.alloc (.cells #[.slice la d.length K,.slice p2 m2 aE] 115)) (.slice la d.length K)):=by
      by_cases hq:d=[]
      ·exact Qd ⟨hq,aA.o hq⟩
      ·refine Qc ?_;obtain⟨g,c,h1,h2,h3,h4⟩:=slB.of_owns (af.o.alloc (.cells #[.slice la d.length K,.slice p2 m2 aE] 115)) rfl hq;exact⟨g,c,h1,by show w.heap.size<=g;rw[<-aw.o];omega,h3,h4⟩
     clear y2 bd bl;go_wp2;refine bodyPost_ret (v:=.tuple #[.pointer (some ⟨wc.heap.size,0,none⟩),.int .i64 0,.int .i64 0]) (by simp[results,results44,go_sem]) rfl ?_;have bg:=X.o.alloc (by have:=Qg ab.o.r;omega) (.cells #[.slice la d.length K,.slice p2 m2 aE] 115);rw[aw.o]at bg;exact ba.o _ _ (d,cs) _ bv.o bg rfl ⟨wc.heap.size,_,_,rfl,X.o.size,QC _ _,bA.o,bD.o⟩
end Go.Proofs.YtgnkjijocdmniaaGreatDoor
