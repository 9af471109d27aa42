import Derived.Deep.OwnRows
import Derived.Test.YtgnkjijocdmniaaGreatDoorZVCapQ
import Derived.Test.YtgnkjijocdmniaaGreatDoorZVExists
namespace Go.Proofs.YtgnkjijocdmniaaGreatDoor
set_option linter.unusedVariables false
set_option linter.unusedSimpArgs false
set_option maxRecDepth 100000
set_option maxHeartbeats 4000000
open Go.Proofs.Tryz
open Go.RowKit
attribute [local go_sem ↓] Go.wp_at_zero Go.wp_at_succ
variable{B k m n:Nat}{rs:List Nat}{w:World}
theorem Tryz.infoBoolQ:(prog.info? 4).map (fun i=>(i.zero,i.size,i.bytes))=some (some (.bool false),1,1):=by kernel_rfl
theorem Tryz.infoBools:(prog.info? 106).map (fun i=>(i.zero,i.size,i.bytes))=some (some (.slice none 0 0),1,24):=by kernel_rfl
def Jj(m r:Nat):Value:=.slice (some ⟨r,0,none⟩) (m+1) (m+1)
structure YN (w:World) (B g:Nat) (R:Nat->Nat) (n m:Nat) (F:Nat->Nat->Bool):Prop where
 hg:B<=g
 o:∀ j,j<=n->w.cell? ⟨g,j,none⟩=some (Jj m (R j))
 row:∀ j,j<=n->w.rowIs (R j) 4 (m+1) (fun k=>.bool (F j k))
 bel:∀ j,j<=n->B<=R j∧R j≠g
 inj:∀ i j,i<=n->j<=n->R i=R j->i=j
def upd(F:Nat->Nat->Bool)(i k:Nat)(x:Bool):Nat->Nat->Bool:=fun j l=>if j=i/\l=k then x else F j l
theorem TE(F:Nat->Nat->Bool)(i k:Nat)(x:Bool):upd F i k x i k=x:=if_pos ⟨rfl,rfl⟩
theorem ES(F:Nat->Nat->Bool){i j l:Nat}(x:Bool)(h:¬(j=i/\l=k)):upd F i k x j l=F j l:=if_neg h
theorem YN.set{w:World}{B g:Nat}{R:Nat->Nat}{n m:Nat}{F:Nat->Nat->Bool}(h:YN w B g R n m F){i k:Nat}(hi:i<=n)(x:Bool):YN (w.setCell ⟨R i,k,none⟩ (.bool x)) B g R n m (upd F i k x):=by
 refine⟨h.hg,fun j b=>?_,fun j b=>?_,h.bel,h.inj⟩
 ·rw[<-h.o j b];exact ZA (QK (fun e=>(h.bel i hi).2 e.symm))
 ·by_cases e:j=i
  ·subst e;refine((h.row j b).set k (.bool x)).congr fun l _=>?_
   show(if l=k then Value.bool x else .bool (F j l))=.bool (upd F j k x j l)
   unfold upd;by_cases hl:l=k
   ·rw[if_pos hl,if_pos ⟨rfl,hl⟩]
   ·rw[if_neg hl,if_neg (fun e=>hl e.2)]
  ·refine((h.row j b).setOther (a:=⟨R i,k,none⟩) (fun c=>e (h.inj j i b hi c)) _).congr fun l _=>?_
   show Value.bool (F j l)=.bool (upd F i k x j l)
   rw[ES F x (fun c=>e c.1)]
theorem YN.drew{w:World}{B g:Nat}{R:Nat->Nat}{n m:Nat}{F:Nat->Nat->Bool}(h:YN w B g R n m F):YN w.drew B g R n m F:=⟨h.hg,h.o,h.row,h.bel,h.inj⟩
structure Vr (w:World) (B m:Nat) (rs:List Nat):Prop where
 row:∀ r∈rs,w.rowIs r 4 (m+1) (fun _=>.bool false)
 lo:∀ r∈rs,B<=r
 pw:rs.Pairwise (· < ·)
theorem Vr.tab{g c:Nat}(h:Vr w B m rs)(y:rs.length=n+1)(k:w.ownsRow B 106 1 (.slice (some ⟨g,0,none⟩) (n+1) c) (n+1) (rs.map (Jj m))):YN w B g (fun j=>rs.getD j 0) n m (fun _ _=>false):=by
 have f:∀ j,j<=n->rs.getD j 0∈rs:=fun j a=>by
  rw[List.getD_eq_getElem?_getD,List.getElem?_eq_getElem (by omega)];exact List.getElem_mem (by omega)
 have p:=k.lt g rfl;refine⟨p.1,fun j a=>?_,fun j a=>h.row _ (f j a),fun j a=>⟨h.lo _ (f j a),?_⟩,fun i j x a e=>?_⟩
 ·have:=k.cells (g:=g) rfl j (Jj m (rs.getD j 0)) (by rw[List.getElem?_map,List.getD_eq_getElem?_getD,List.getElem?_eq_getElem (by omega)];rfl);rw[Ys]at this;exact this
 ·intro e;obtain⟨t,b,_⟩:=h.row _ (f j a);rcases k.2 with⟨d,_⟩ | ⟨l,s,u,r,_,q,_⟩
  ·cases d
  ·have o:g=l:=by injection r with d;injection d with d;injection d
   rw[e,o,q]at b;injection b with b
   injection b with _ b _
   exact absurd b (by decide)
 ·rw[List.getD_eq_getElem?_getD,List.getD_eq_getElem?_getD,List.getElem?_eq_getElem (by omega),List.getElem?_eq_getElem (by omega)]at e;have v:rs[i]'(by omega)=rs[j]'(by omega):=e;rcases Nat.lt_trichotomy i j with hlt|hlt|hlt
  ·have:=List.pairwise_iff_getElem.1 h.pw i j (by omega) (by omega) hlt;omega
  ·exact hlt
  ·have:=List.pairwise_iff_getElem.1 h.pw j i (by omega) (by omega) hlt;omega
theorem Vr.snoc{w':World}{o:Obj}{v:Value}{xs:List Value}(h:Vr w B m rs)(z:B<=w.heap.size)(t:w.ownsRow B 106 1 v n xs)
 (p:((w.alloc (.cells (madeCells #[.bool false] (m+1)) 4)).alloc o).grownBy w' v.ownBlock):Vr w' B m (rs++[w.heap.size]):=by
 have j:∀ r,r<w.heap.size+1->w.heap[r]?=none\/(∀ i f,w.heap[r]?≠some (.cells i 106 f))->w'.heap[r]?=((w.alloc (.cells (madeCells #[.bool false] (m+1)) 4)).alloc o).heap[r]?:=by
  intro r hr hn;refine p.block r (by simp;omega) ?_;intro e;rcases t.2 with⟨c,_⟩ | ⟨k,u,y,c,_,g,_⟩
  ·rw[c]at e;cases e
  ·rw[c]at e;have:r=k:=by injection e
   subst this;rcases hn with hn|hn
   ·rw[hn]at g;cases g
   ·exact hn _ _ g
 have q:∀ r∈rs,w'.heap[r]?=w.heap[r]?:=by
  intro r hr;have s:=(h.row r hr).lt;rw[j r (by omega) ?_,Below.heap_alloc _ _ _ (by simp;omega),Below.heap_alloc _ _ _ s];right;intro i f e;obtain⟨x,d,_⟩:=h.row r hr;rw[d]at e;injection e with e
  injection e with _ e _
  exact absurd e (by decide)
 refine⟨fun r hr=>?_,fun r hr=>?_,?_⟩
 ·rcases List.mem_append.1 hr with hr|hr
  ·exact(h.row r hr).of_block (q r hr)
  ·have:r=w.heap.size:=by simpa using hr
   subst this;have c:=World.rowIs_made w (.bool false) (m+1) 4;refine(c.alloc o).of_block (j _ (by omega) (Qd (Array.getElem?_eq_none Ql)))
 ·rcases List.mem_append.1 hr with hr|hr
  ·exact h.lo r hr
  ·have:r=w.heap.size:=by simpa using hr
   omega
 ·rw[List.pairwise_append];refine⟨h.pw,by simp,fun a l b d=>?_⟩;have:b=w.heap.size:=by simpa using d
  rw[this];exact(h.row a l).lt
theorem Dj{i:Nat}{F G:Nat->Nat->Bool}(h:∀ j l,(i+1<=j\/(j=i/\k+1<=l))->j<=n->l<=m->F j l=G j l){V:Bool}(g:G i k=V):∀ j l,(i+1<=j\/(j=i/\k<=l))->j<=n->l<=m->upd F i k V j l=G j l:=by
 intro j l d c f;by_cases e:j=i/\l=k
 ·obtain⟨rfl,rfl⟩:=e;rw[TE,g]
 ·rw[ES F V e];refine h j l ?_ c f;rcases d with h | ⟨a,b⟩
  ·exact Qd h
  ·right;refine⟨a,?_⟩;rcases Nat.lt_or_ge k l with h3|h3
   ·exact h3
   ·exact absurd ⟨a,Nat.le_antisymm h3 b⟩ e
theorem U8{b:L8}(a:k<(sA b).size):b.drop k=(sA b)[k]::b.drop (k+1):=by
 have c:k<b.length:=a;rw[List.drop_eq_getElem_cons c];congr 1
theorem YC(x y:UInt8):((x.toNat:Int)==(y.toNat:Int))=decide (x=y):=by
 rw[Zo];simp only[beq_iff_eq,decide_eq_true_iff];exact⟨fun h=>UInt8.toNat_inj.1 (by omega),fun h=>by rw[h]⟩
theorem Pa(a b:L8)(w:World)(ha:a.length<=100000)(hb:b.length<=100000) :
 Calls prog 174 #[.string (sA a),.string (sA b)] w fun e w'=>∃ g c R,e=.returned (.slice (some ⟨g,0,none⟩) (a.length+1) c)/\YN w' w.heap.size g R a.length b.length (fun j k=>globL (b.drop k) (a.drop j))/\Below w.heap.size w w':=by
 have aK:=QN a;have aL:=QN b;obtain⟨n,hn⟩:=Qe (a.length);obtain⟨m,hm⟩:=Qe (b.length);rw[hn]at aK ha;rw[hm]at aL hb;have HN:=I hn;have HM:=I hm;rw[hn,hm];clear hn hm;obtain⟨i0,hi,aH,aI,aJ⟩:=info_parts Tryz.infoBools;have aP:∀ W:World,(Instr.makeSlice 106 (.int .i64 ((m:Int)+1)) (.int .i64 ((m:Int)+1))).run prog W=.ok (.slice (some ⟨W.heap.size,0,none⟩) (m+1) (m+1)) (W.alloc (.cells (madeCells #[.bool false] (m+1)) 4)):=fun W=>run_make_row' (P:=prog) 106 4 (.bool false) 1 underlying106 Tryz.infoBoolQ rfl .i64 .i64 (m+1) (by omega) (by omega) W
 go_enter func174,ntmps174;go_wp2
 go_loopw [5,6] (fun ov iv wr=>∃(k:Nat) (L:List Nat),k<=n+1/\iv=.int .i64 k/\Hid (L.length=k)/\wr.ownsRow w.heap.size 106 1 ov k (L.map (Jj m))/\Vr wr w.heap.size m L/\Below w.heap.size w wr) (fun _ iv _=>n+1 - (intOf iv).toNat)
 case atStart=>exact⟨0,[],by omega,rfl,rfl,Zj,⟨by simp,by simp,by simp⟩,Below.refl _ _⟩
 case round=>
  obtain⟨k,L,hk,rfl,HL,aa,hR,hB⟩:=hrel;have HR:=I hR;have E:=I hB;have aG:=hB.size;clear hR hB;by_cases hlt:k<=n
  ·have aF:(k:Int)<=(n:Int):=by omega
   go_wp2_with (at_builtin;refine wpList_append_own _ rfl _ _ 288 rfl w.heap.size 106 i0 (.slice none 0 0) 1 24 underlying288 hi aH aI aJ rfl (by decide) _ _ _ rfl ((aa.alloc _).alloc _) ⟨wr.heap.size+1,0,none⟩ 1 1 [Jj m wr.heap.size] rfl rfl ?c1 ?c2 ?c3 ?c4 ?c5 ?_)
   case c1=>
    intro j u Q
    match j,Q with
    |0,Q=>simp at Q;subst Q;simp[Addr.add,Jj]
   case c2=>intro u hu;simp at hu;subst hu;rfl
   case c3=>unfold maxLen;omega
   case c4=>omega
   case c5=>simp;omega
   ·intro v' w5 ak ah _;have ar:=I (JI (II E.o Ql _) (by simp;omega) ah (fun k hk=>(aa.lt k hk).1));have aw:=I (HR.o.snoc aG aa ah);rw[show List.map (Jj m) L++[Jj m wr.heap.size]=List.map (Jj m) (L++[wr.heap.size]) by simp]at ak;have av:=I ak;have au:Hid ((L++[wr.heap.size]).length=k+1):=by show _=_;rw[Ze,HL.o];rfl
    clear ak ah aa E HR HL;go_wp2;go_roundw
    case rel=>exact⟨k+1,L++[wr.heap.size],by omega,by go_num,au,av.o,aw.o,ar.o⟩
    case measure=>simp[intOf];omega
  ·have aE:k=n+1:=by omega
   subst aE;have aF:¬((n+1:Nat):Int)<=(n:Int):=by omega
   obtain⟨g,c,rfl⟩:∃ g c,u5=.slice (some ⟨g,0,none⟩) (n+1) c:=by
    rcases aa.2 with⟨_,h⟩ | ⟨g,c,_,h,_⟩
    ·cases h
    ·exact⟨g,c,h⟩
   have q:=I (HR.o.tab HL.o aa);obtain⟨R,hR⟩:∃ R:Nat->Nat,R=fun j=>L.getD j 0:=⟨_,rfl⟩
   rw[<-hR]at q;clear aa HR HL hR L;go_wp2
   go_loopw [8,9,10,11] (fun iv _ _ _ wr=>∃(ii:Nat) (z:Int) (F:Nat->Nat->Bool),ii<=n+1/\iv=.int .i64 z/\Hid (z=(ii:Int) - 1)/\Hid (YN wr w.heap.size g R n m F)/\Hid (∀ j k,ii<=j->j<=n->k<=m->F j k=globL (b.drop k) (a.drop j))/\Hid (Below w.heap.size w wr)) (fun iv _ _ _ _=>(intOf iv+1).toNat)
   case atStart=>exact⟨n+1,n,_,Nat.le_refl _,rfl,by show(n:Int)=((n+1:Nat):Int) - 1;omega,q,fun j k h1 h2=>absurd h1 (by omega),E⟩
   case round=>
    clear q E;obtain⟨ii,z,F,ai,rfl,J,q,B,E⟩:=hrel
    match ii,ai,J,B with
    |0,ai,J,B=>
     have hz:z = -1:=by have:=J.o;omega
     subst hz;go_wp2;go_ret;refine⟨g,c,R,rfl,?_,E.o⟩;exact⟨q.o.hg,q.o.o,fun j Q=>(q.o.row j Q).congr fun k hk=>by show Value.bool _=.bool _;rw[B.o j k QE Q (by omega)],q.o.bel,q.o.inj⟩
    |i+1,ai,J,B=>
     have hz:z=(i:Int):=by have:=J.o;omega
     subst hz;have D:i<=n:=by omega
     have d1:=q.o.o i D;have T:∀ o,o<m+1->wr.cell? ⟨R i,o,none⟩=some (.bool (F i o)):=fun o Z=>(q.o.row i D).cell Z
     have d3:=(q.o.row i D).frozen;unfold Jj at d1;have af:=I (q.o.set (k:=m) D (decide (i=n)));have ay:((i:Int)==(n:Int))=decide (i=n):=by rw[Zo];simp;omega
     obtain⟨r,hr⟩:=Qe (R i);rw[hr]at d1 T d3;have d4:=T m (by omega);go_wp2
     go_loopw [9,10,11] (fun kv _ _ wi=>∃(kk:Nat) (z:Int) (F:Nat->Nat->Bool),kk<=m/\kv=.int .i64 z/\Hid (z=(kk:Int) - 1)/\Hid (YN wi w.heap.size g R n m F)/\Hid (∀ j k,(i+1<=j\/(j=i/\kk<=k))->j<=n->k<=m->F j k=globL (b.drop k) (a.drop j))/\Hid (Below w.heap.size w wi)) (fun kv _ _ _=>(intOf kv+1).toNat)
     case atStart=>
      have af:=q.o.set (k:=m) D (decide (i=n));rw[hr]at af;refine⟨m,_,_,Nat.le_refl _,rfl,rfl,af,?_,E.o.setCell (by rw[<-hr];exact(q.o.bel i D).1) _⟩;refine Dj (G:=fun j k=>globL (b.drop k) (a.drop j)) (fun j l h Q hl=>?_) ?_
      ·rcases h with h | ⟨h1,h2⟩
       ·exact B.o j l h Q hl
       ·omega
      ·show globL (b.drop m) (a.drop i)=_
       rw[Zb (by rw[HM.o];exact Ql),Sz,Zo,List.isEmpty_iff,decide_eq_true_iff,List.drop_eq_nil_iff,HN.o];omega
     case round=>
      clear q E B d1 T d3 d4 ay;obtain⟨kk,z,F,ae,rfl,J,q,B,E⟩:=hrel
      match kk,ae,J,B with
      |0,ae,J,B=>
       have hz:z = -1:=by have:=J.o;omega
       subst hz;go_wp2;go_roundw
       case rel=>exact⟨i,(i:Int) - 1,F,by omega,by go_num,rfl,q,fun j k h1 h2 N=>B.o j k (by rcases Nat.lt_or_ge i j with h|h;exact Qd h;exact Qc ⟨by omega,by omega⟩) h2 N,E⟩
       case measure=>simp[intOf]
      |k+1,ae,J,B=>
       have hz:z=(k:Int):=by have:=J.o;omega
       subst hz;have aO:(k:Int)<(m:Int):=by omega
       have d1:=q.o.o i D;have T:∀ o,o<m+1->wr.cell? ⟨R i,o,none⟩=some (.bool (F i o)):=fun o Z=>(q.o.row i D).cell Z
       have d3:=(q.o.row i D).frozen k;unfold Jj at d1;rw[hr]at d1 T d3;have d4:=T k (by omega);have d5:=T (k+1) (by omega);have ac:=I (B.o i (k+1) (Qc ⟨rfl,Nat.le_refl _⟩) D ae);obtain⟨f0,ao⟩:=Qe (F i k);obtain⟨f1,ap⟩:=Qe (F i (k+1));rw[ao]at d4;rw[ap]at d5 ac;clear T ao ap
       have C:Hid (∀ V,globL (b.drop k) (a.drop i)=V->YN (wr.setCell ⟨r,k,none⟩ (.bool V)).drew w.heap.size g R n m (upd F i k V)/\(∀ j l,(i+1<=j\/(j=i/\k<=l))->j<=n->l<=m->upd F i k V j l=globL (b.drop l) (a.drop j))/\Below w.heap.size w (wr.setCell ⟨r,k,none⟩ (.bool V)).drew):=by
        intro V hV;have h1:=q.o.set (k:=k) D V;rw[hr]at h1;exact⟨h1.drew,Dj (G:=fun j k=>globL (b.drop k) (a.drop j)) B.o hV,(E.o.setCell (by rw[<-hr];exact(q.o.bel i D).1) _).drew⟩
       have aD:k<(sA b).size:=by omega
       have p:=I (U8 aD);obtain⟨d,ag⟩:=Qe ((sA b)[k]);rw[ag]at p;have aN:∀ h:k<(sA b).size,(sA b)[k]'h=d:=fun h=>ag
       clear ag;by_cases hia:i<n
       ·have aA:(i:Int)<(n:Int):=by omega
        have az:i<(sA a).size:=by omega
        have f:=I (U8 az);obtain⟨x,hx⟩:=Qe ((sA a)[i]);rw[hx]at f;have aM:∀ h:i<(sA a).size,(sA a)[i]'h=x:=fun h=>hx
        clear hx;have e1:=q.o.o (i+1) hia;have M:∀ o,o<m+1->wr.cell? ⟨R (i+1),o,none⟩=some (.bool (F (i+1) o)):=fun o Z=>(q.o.row (i+1) hia).cell Z
        have S:=I (fun o (Z:o<=m)=>B.o (i+1) o (Qd Ql) hia Z);unfold Jj at e1;obtain⟨r2,aq⟩:=Qe (R (i+1));rw[aq]at e1 M;clear aq;by_cases he:d=92/\k+1<m
        ·obtain⟨rfl,aB⟩:=he;have aC:(k:Int)+1<(m:Int):=by omega
         have aj:k+1<(sA b).size:=by omega
         have ab:=I (U8 aj);obtain⟨c1,Y⟩:=Qe ((sA b)[k+1]);rw[Y]at ab;have ax:∀ h:k+1<(sA b).size,(sA b)[k+1]'h=c1:=fun h=>Y
         clear Y;have X:(((92:UInt8).toNat:Int)==92)=true:=rfl;have U:=M (k+2) (by omega);have H:=I (S.o (k+2) (by omega));obtain⟨A,K⟩:=Qe (F (i+1) (k+2));rw[K]at U H;clear M S K;have ad:=YC x c1;by_cases hxe:x=c1
         ·subst hxe;rw[Qw rfl]at ad;have e4:wr.cell? ⟨r2,k+2,none⟩=some (.bool A):=U;have s:Hid (globL (b.drop k) (a.drop i)=A):=by show _=_;rw[f.o,p.o,ab.o,Ap,Qw rfl,Bool.true_and,H.o]
          clear f p;go_wp2;go_region;go_wp2;go_roundw
          case rel=>obtain⟨t,v,y⟩:=C.o _ s.o;exact⟨k,(k:Int) - 1,upd F i k _,by omega,by go_num,rfl,t,v,y⟩
          case measure=>simp[intOf]
         ·rw[Qh hxe]at ad;have s:Hid (globL (b.drop k) (a.drop i)=false):=by show _=_;rw[f.o,p.o,ab.o,Ap,Qh hxe,Bool.false_and]
          clear f p;go_wp2;go_region;go_wp2;go_roundw
          case rel=>obtain⟨t,v,y⟩:=C.o _ s.o;exact⟨k,(k:Int) - 1,upd F i k _,by omega,by go_num,rfl,t,v,y⟩
          case measure=>simp[intOf]
        ·by_cases h42:d=42
         ·subst h42;have X:(((42:UInt8).toNat:Int)==92)=false:=rfl;have b2:(((42:UInt8).toNat:Int)==42)=true:=rfl;have U:=M k (by omega);have H:=I (S.o k (by omega));obtain⟨A,K⟩:=Qe (F (i+1) k);rw[K]at U H;clear M S K;cases f1
          ·have s:Hid (globL (b.drop k) (a.drop i)=A):=by show _=_;rw[f.o,p.o,CK,<-f.o,<-p.o,<-ac.o,Bool.false_or,H.o]
           clear f p;go_wp2;go_region;go_wp2;go_roundw
           case rel=>obtain⟨t,v,y⟩:=C.o _ s.o;exact⟨k,(k:Int) - 1,upd F i k _,by omega,by go_num,rfl,t,v,y⟩
           case measure=>simp[intOf]
          ·have s:Hid (globL (b.drop k) (a.drop i)=true):=by show _=_;rw[f.o,p.o,CK,<-f.o,<-p.o,<-ac.o,Bool.true_or]
           clear f p;go_wp2;go_region;go_wp2;go_roundw
           case rel=>obtain⟨t,v,y⟩:=C.o _ s.o;exact⟨k,(k:Int) - 1,upd F i k _,by omega,by go_num,rfl,t,v,y⟩
           case measure=>simp[intOf]
         ·have b2:((d.toNat:Int)==42)=false:=(YC d 42).trans (Qh h42);by_cases h63:d=63
          ·subst h63;have X:(((63:UInt8).toNat:Int)==92)=false:=rfl;have b3:(((63:UInt8).toNat:Int)==63)=true:=rfl;have U:=M (k+1) (by omega);have H:=I (S.o (k+1) (by omega));obtain⟨A,K⟩:=Qe (F (i+1) (k+1));rw[K]at U H;clear M S K;have s:Hid (globL (b.drop k) (a.drop i)=A):=by show _=_;rw[f.o,p.o,DO,<-H.o]
           clear f p;go_wp2;go_region;go_wp2;go_roundw
           case rel=>obtain⟨t,v,y⟩:=C.o _ s.o;exact⟨k,(k:Int) - 1,upd F i k _,by omega,by go_num,rfl,t,v,y⟩
           case measure=>simp[intOf]
          ·have b3:((d.toNat:Int)==63)=false:=(YC d 63).trans (Qh h63);have N:d=92->b.drop (k+1)=[]:=fun e=>Zb (by rw[HM.o];exact Nat.le_of_not_lt (fun h=>he ⟨e,h⟩))
           have U:=M (k+1) (by omega);have H:=I (S.o (k+1) (by omega));obtain⟨A,K⟩:=Qe (F (i+1) (k+1));rw[K]at U H;clear M S K;have ad:=YC x d;by_cases h92:d=92
           all_goals first
            |(have b0:((d.toNat:Int)==92)=true:=(YC d 92).trans (Qw h92);have X:¬(k:Int)+1<(m:Int):=fun h=>he ⟨h92,by omega⟩)
            |(have b0:((d.toNat:Int)==92)=false:=(YC d 92).trans (Qh h92))
           all_goals
            clear he;by_cases hxe:x=d
            ·rw[Qw hxe]at ad;have s:Hid (globL (b.drop k) (a.drop i)=A):=by show _=_;rw[f.o,p.o,As h42 h63 N,Qw hxe,Bool.true_and,H.o]
             clear f p N h92 hxe;go_wp2;go_region;go_wp2;go_roundw
             case rel=>obtain⟨t,v,y⟩:=C.o _ s.o;exact⟨k,(k:Int) - 1,upd F i k _,by omega,by go_num,rfl,t,v,y⟩
             case measure=>simp[intOf]
            ·rw[Qh hxe]at ad;have s:Hid (globL (b.drop k) (a.drop i)=false):=by show _=_;rw[f.o,p.o,As h42 h63 N,Qh hxe,Bool.false_and]
             clear f p N h92 hxe;go_wp2;go_region;go_wp2;go_roundw
             case rel=>obtain⟨t,v,y⟩:=C.o _ s.o;exact⟨k,(k:Int) - 1,upd F i k _,by omega,by go_num,rfl,t,v,y⟩
             case measure=>simp[intOf]
       ·have aA:¬(i:Int)<(n:Int):=by omega
        have f:Hid (a.drop i=[]):=by show _=_;exact Zb (by rw[HN.o];omega)
        by_cases he:d=92/\k+1<m
        ·obtain⟨rfl,aB⟩:=he;have aC:(k:Int)+1<(m:Int):=by omega
         have aj:k+1<(sA b).size:=by omega
         have ab:=I (U8 aj);obtain⟨c1,Y⟩:=Qe ((sA b)[k+1]);rw[Y]at ab;have ax:∀ h:k+1<(sA b).size,(sA b)[k+1]'h=c1:=fun h=>Y
         clear Y;have X:(((92:UInt8).toNat:Int)==92)=true:=rfl;have s:Hid (globL (b.drop k) (a.drop i)=false):=by show _=_;rw[f.o,p.o,ab.o,C7]
         clear f p;go_wp2;go_region;go_wp2;go_roundw
         case rel=>obtain⟨t,v,y⟩:=C.o _ s.o;exact⟨k,(k:Int) - 1,upd F i k _,by omega,by go_num,rfl,t,v,y⟩
         case measure=>simp[intOf]
        ·by_cases h42:d=42
         ·subst h42;have X:(((42:UInt8).toNat:Int)==92)=false:=rfl;have b2:(((42:UInt8).toNat:Int)==42)=true:=rfl;cases f1
          ·have s:Hid (globL (b.drop k) (a.drop i)=false):=by show _=_;rw[f.o,p.o,CT,<-f.o,<-ac.o]
           clear f p;go_wp2;go_region;go_wp2;go_roundw
           case rel=>obtain⟨t,v,y⟩:=C.o _ s.o;exact⟨k,(k:Int) - 1,upd F i k _,by omega,by go_num,rfl,t,v,y⟩
           case measure=>simp[intOf]
          ·have s:Hid (globL (b.drop k) (a.drop i)=true):=by show _=_;rw[f.o,p.o,CT,<-f.o,<-ac.o]
           clear f p;go_wp2;go_region;go_wp2;go_roundw
           case rel=>obtain⟨t,v,y⟩:=C.o _ s.o;exact⟨k,(k:Int) - 1,upd F i k _,by omega,by go_num,rfl,t,v,y⟩
           case measure=>simp[intOf]
         ·have b2:((d.toNat:Int)==42)=false:=(YC d 42).trans (Qh h42);by_cases h63:d=63
          ·subst h63;have X:(((63:UInt8).toNat:Int)==92)=false:=rfl;have b3:(((63:UInt8).toNat:Int)==63)=true:=rfl;have s:Hid (globL (b.drop k) (a.drop i)=false):=by show _=_;rw[f.o,p.o,Dh]
           clear f p;go_wp2;go_region;go_wp2;go_roundw
           case rel=>obtain⟨t,v,y⟩:=C.o _ s.o;exact⟨k,(k:Int) - 1,upd F i k _,by omega,by go_num,rfl,t,v,y⟩
           case measure=>simp[intOf]
          ·have b3:((d.toNat:Int)==63)=false:=(YC d 63).trans (Qh h63);have N:d=92->b.drop (k+1)=[]:=fun e=>Zb (by rw[HM.o];exact Nat.le_of_not_lt (fun h=>he ⟨e,h⟩))
           by_cases h92:d=92
           all_goals first
            |(have b0:((d.toNat:Int)==92)=true:=(YC d 92).trans (Qw h92);have X:¬(k:Int)+1<(m:Int):=fun h=>he ⟨h92,by omega⟩)
            |(have b0:((d.toNat:Int)==92)=false:=(YC d 92).trans (Qh h92))
           all_goals
            clear he;have s:Hid (globL (b.drop k) (a.drop i)=false):=by show _=_;rw[f.o,p.o,DD h42 h63 N]
            clear f p N h92;go_wp2;go_region;go_wp2;go_roundw
            case rel=>obtain⟨t,v,y⟩:=C.o _ s.o;exact⟨k,(k:Int) - 1,upd F i k _,by omega,by go_num,rfl,t,v,y⟩
            case measure=>simp[intOf]
end Go.Proofs.YtgnkjijocdmniaaGreatDoor
