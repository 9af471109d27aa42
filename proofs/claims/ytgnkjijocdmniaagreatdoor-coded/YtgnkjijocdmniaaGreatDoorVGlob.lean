import Derived.Deep.OwnRows
import Derived.Test.YtgnkjijocdmniaaGreatDoorZVCapQ
import Derived.Test.YtgnkjijocdmniaaGreatDoorZVExists
namespace Go.Proofs.YtgnkjijocdmniaaGreatDoor
set_option linter.unusedVariables false
set_option linter.unusedSimpArgs false
set_option maxRecDepth 100000
set_option maxHeartbeats 4000000
open Go.Proofs.Tryz
open Go.RowKit
attribute [local go_sem ↓] Go.wp_at_zero Go.wp_at_succ
variable{B k m n:Nat}{w:World}
theorem Tryz.infoBool:(prog.info? 4).map (fun i=>(i.zero,i.size,i.bytes))=some (some (.bool false),1,1):=by kernel_rfl
theorem Tryz.infoBools:(prog.info? 106).map (fun i=>(i.zero,i.size,i.bytes))=some (some (.slice none 0 0),1,24):=by kernel_rfl
def J8(m r:Nat):Value:=.slice (some ⟨r,0,none⟩) (m+1) (m+1)
structure Jr (w:World) (B g:Nat) (R:Nat->Nat) (n m:Nat) (F:Nat->Nat->Bool):Prop where
 hg:B<=g
 o:∀ j,j<=n->w.cell? ⟨g,j,none⟩=some (J8 m (R j))
 row:∀ j,j<=n->w.rowIs (R j) 4 (m+1) (fun k=>.bool (F j k))
 bel:∀ j,j<=n->B<=R j∧R j≠g
 inj:∀ i j,i<=n->j<=n->R i=R j->i=j
def upd(F:Nat->Nat->Bool)(i k:Nat)(x:Bool):Nat->Nat->Bool:=fun j l=>if j=i/\l=k then x else F j l
theorem QzF(F:Nat->Nat->Bool)(i k:Nat)(x:Bool):upd F i k x i k=x:=if_pos ⟨rfl,rfl⟩
theorem Ib(F:Nat->Nat->Bool){i j l:Nat}(x:Bool)(h:¬(j=i/\l=k)):upd F i k x j l=F j l:=if_neg h
theorem Jr.set{w:World}{B g:Nat}{R:Nat->Nat}{n m:Nat}{F:Nat->Nat->Bool}(h:Jr w B g R n m F){i k:Nat}(d:i<=n)(x:Bool):Jr (w.setCell ⟨R i,k,none⟩ (.bool x)) B g R n m (upd F i k x):=by
 refine⟨h.hg,fun j b=>?_,fun j b=>?_,h.bel,h.inj⟩
 ·rw[<-h.o j b];exact World.cell?_of_block (Below.heap_setCell _ _ _ _ (fun e=>(h.bel i d).2 e.symm))
 ·by_cases e:j=i
  ·subst e;refine((h.row j b).set k (.bool x)).congr fun l _=>?_
   show(if l=k then Value.bool x else .bool (F j l))=.bool (upd F j k x j l)
   unfold upd;by_cases hl:l=k
   ·rw[if_pos hl,if_pos ⟨rfl,hl⟩]
   ·rw[if_neg hl,if_neg (fun e=>hl e.2)]
  ·refine((h.row j b).setOther (a:=⟨R i,k,none⟩) (fun c=>e (h.inj j i b d c)) _).congr fun l _=>?_
   show Value.bool (F j l)=.bool (upd F i k x j l)
   rw[Ib F x (fun c=>e c.1)]
theorem Jr.drew{w:World}{B g:Nat}{R:Nat->Nat}{n m:Nat}{F:Nat->Nat->Bool}(h:Jr w B g R n m F):Jr w.drew B g R n m F:=⟨h.hg,h.o,h.row,h.bel,h.inj⟩
structure Gn (w:World) (B m:Nat) (rs:List Nat):Prop where
 row:∀ r∈rs,w.rowIs r 4 (m+1) (fun _=>.bool false)
 lo:∀ r∈rs,B<=r
 pw:rs.Pairwise (· < ·)
theorem Gn.tab{g c:Nat}{a:List Nat}(h:Gn w B m a)(z:a.length=n+1)(l:w.ownsRow B 106 1 (.slice (some ⟨g,0,none⟩) (n+1) c) (n+1) (a.map (J8 m))):Jr w B g (fun j=>a.getD j 0) n m (fun _ _=>false):=by
 have k:∀ j,j<=n->a.getD j 0∈a:=fun j b=>by
  rw[List.getD_eq_getElem?_getD,List.getElem?_eq_getElem (by omega)];exact List.getElem_mem (by omega)
 have q:=l.lt g rfl;refine⟨q.1,fun j b=>?_,fun j b=>h.row _ (k j b),fun j b=>⟨h.lo _ (k j b),?_⟩,fun i j y b e=>?_⟩
 ·have:=l.cells (g:=g) rfl j (J8 m (a.getD j 0)) (by rw[List.getElem?_map,List.getD_eq_getElem?_getD,List.getElem?_eq_getElem (by omega)];rfl);rw[Jx]at this;exact this
 ·intro e;obtain⟨u,d,_⟩:=h.row _ (k j b);rcases l.2 with⟨f,_⟩ | ⟨o,t,v,s,_,r,_⟩
  ·cases f
  ·have p:g=o:=by injection s with f;injection f with f;injection f
   rw[e,p,r]at d;injection d with d
   injection d with _ d _
   exact absurd d (by decide)
 ·rw[List.getD_eq_getElem?_getD,List.getD_eq_getElem?_getD,List.getElem?_eq_getElem (by omega),List.getElem?_eq_getElem (by omega)]at e;have x:a[i]'(by omega)=a[j]'(by omega):=e;rcases Nat.lt_trichotomy i j with hlt|hlt|hlt
  ·have:=List.pairwise_iff_getElem.1 h.pw i j (by omega) (by omega) hlt;omega
  ·exact hlt
  ·have:=List.pairwise_iff_getElem.1 h.pw j i (by omega) (by omega) hlt;omega
theorem Gn.snoc{w':World}{i:List Nat}{o:Obj}{v:Value}{xs:List Value}(h:Gn w B m i)(A:B<=w.heap.size)(u:w.ownsRow B 106 1 v n xs)
 (q:((w.alloc (.cells (madeCells #[.bool false] (m+1)) 4)).alloc o).grownBy w' v.ownBlock):Gn w' B m (i++[w.heap.size]):=by
 have k:∀ r,r<w.heap.size+1->w.heap[r]?=none\/(∀ j f,w.heap[r]?≠some (.cells j 106 f))->w'.heap[r]?=((w.alloc (.cells (madeCells #[.bool false] (m+1)) 4)).alloc o).heap[r]?:=by
  intro r hr hn;refine q.block r (by simp;omega) ?_;intro e;rcases u.2 with⟨c,_⟩ | ⟨l,x,z,c,_,g,_⟩
  ·rw[c]at e;cases e
  ·rw[c]at e;have:r=l:=by injection e
   subst this;rcases hn with hn|hn
   ·rw[hn]at g;cases g
   ·exact hn _ _ g
 have s:∀ r∈i,w'.heap[r]?=w.heap[r]?:=by
  intro r hr;have t:=(h.row r hr).lt;rw[k r (by omega) ?_,Below.heap_alloc _ _ _ (by simp;omega),Below.heap_alloc _ _ _ t];right;intro j f e;obtain⟨y,d,_⟩:=h.row r hr;rw[d]at e;injection e with e
  injection e with _ e _
  exact absurd e (by decide)
 refine⟨fun r hr=>?_,fun r hr=>?_,?_⟩
 ·rcases List.mem_append.1 hr with hr|hr
  ·exact(h.row r hr).of_block (s r hr)
  ·have:r=w.heap.size:=by simpa using hr
   subst this;have c:=World.rowIs_made w (.bool false) (m+1) 4;refine(c.alloc o).of_block (k _ (by omega) (Qd (Array.getElem?_eq_none Qt)))
 ·rcases List.mem_append.1 hr with hr|hr
  ·exact h.lo r hr
  ·have:r=w.heap.size:=by simpa using hr
   omega
 ·rw[List.pairwise_append];refine⟨h.pw,by simp,fun a p b d=>?_⟩;have:b=w.heap.size:=by simpa using d
  rw[this];exact(h.row a p).lt
theorem Ic{i:Nat}{F G:Nat->Nat->Bool}(h:∀ j l,(i+1<=j\/(j=i/\k+1<=l))->j<=n->l<=m->F j l=G j l){V:Bool}(g:G i k=V):∀ j l,(i+1<=j\/(j=i/\k<=l))->j<=n->l<=m->upd F i k V j l=G j l:=by
 intro j l d c f;by_cases e:j=i/\l=k
 ·obtain⟨rfl,rfl⟩:=e;rw[QzF,g]
 ·rw[Ib F V e];refine h j l ?_ c f;rcases d with h | ⟨a,b⟩
  ·exact Qd h
  ·right;refine⟨a,?_⟩;rcases Nat.lt_or_ge k l with h3|h3
   ·exact h3
   ·exact absurd ⟨a,Nat.le_antisymm h3 b⟩ e
theorem Gi{b:L8}(a:k<(sA b).size):b.drop k=(sA b)[k]::b.drop (k+1):=by
 have c:k<b.length:=a;rw[List.drop_eq_getElem_cons c];congr 1
theorem Js(x y:UInt8):((x.toNat:Int)==(y.toNat:Int))=decide (x=y):=by
 rw[Zh];simp only[beq_iff_eq,decide_eq_true_iff];exact⟨fun h=>UInt8.toNat_inj.1 (by omega),fun h=>by rw[h]⟩
theorem Wp(a b:L8)(w:World)(ha:a.length<=100000)(hb:b.length<=100000) :
 Calls prog 174 #[.string (sA a),.string (sA b)] w fun e w'=>∃ g c R,e=.returned (.slice (some ⟨g,0,none⟩) (a.length+1) c)/\Jr w' w.heap.size g R a.length b.length (fun j k=>globL (b.drop k) (a.drop j))/\Below w.heap.size w w':=by
 have aK:=Zr a;have aL:=Zr b;obtain⟨n,hn⟩:=Qf (a.length);obtain⟨m,hm⟩:=Qf (b.length);rw[hn]at aK ha;rw[hm]at aL hb;have HN:=I hn;have HM:=I hm;rw[hn,hm];clear hn hm;obtain⟨i0,hi,aH,aI,aJ⟩:=info_parts Tryz.infoBools;have aP:∀ W:World,(Instr.makeSlice 106 (.int .i64 ((m:Int)+1)) (.int .i64 ((m:Int)+1))).run prog W=.ok (.slice (some ⟨W.heap.size,0,none⟩) (m+1) (m+1)) (W.alloc (.cells (madeCells #[.bool false] (m+1)) 4)):=fun W=>run_make_row' (P:=prog) 106 4 (.bool false) 1 underlying106 Tryz.infoBool rfl .i64 .i64 (m+1) (by omega) (by omega) W
 go_enter func174,ntmps174;go_wp2
 go_loopw [5,6] (fun ov iv wr=>∃(k:Nat) (M:List Nat),k<=n+1/\iv=.int .i64 k/\Hid (M.length=k)/\wr.ownsRow w.heap.size 106 1 ov k (M.map (J8 m))/\Gn wr w.heap.size m M/\Below w.heap.size w wr) (fun _ iv _=>n+1 - (intOf iv).toNat)
 case atStart=>exact⟨0,[],by omega,rfl,rfl,World.ownsRow_nil _ _ _ _,⟨by simp,by simp,by simp⟩,Below.refl _ _⟩
 case round=>
  obtain⟨k,M,hk,rfl,HL,aa,hR,hB⟩:=hrel;have HR:=I hR;have J:=I hB;have aG:=hB.size;clear hR hB;by_cases hlt:k<=n
  ·have aF:(k:Int)<=(n:Int):=by omega
   go_wp2_with (at_builtin;refine wpList_append_own _ rfl _ _ 288 rfl w.heap.size 106 i0 (.slice none 0 0) 1 24 underlying288 hi aH aI aJ rfl (by decide) _ _ _ rfl ((aa.alloc _).alloc _) ⟨wr.heap.size+1,0,none⟩ 1 1 [J8 m wr.heap.size] rfl rfl ?c1 ?c2 ?c3 ?c4 ?c5 ?_)
   case c1=>
    intro j u Q
    match j,Q with
    |0,Q=>simp at Q;subst Q;simp[Addr.add,J8]
   case c2=>intro u hu;simp at hu;subst hu;rfl
   case c3=>unfold maxLen;omega
   case c4=>omega
   case c5=>simp;omega
   ·intro v' w5 ak ah _;have ar:=I (Ke (Me J.o Qt _) (by simp;omega) ah (fun k hk=>(aa.lt k hk).1));have aw:=I (HR.o.snoc aG aa ah);rw[show List.map (J8 m) M++[J8 m wr.heap.size]=List.map (J8 m) (M++[wr.heap.size]) by simp]at ak;have av:=I ak;have au:Hid ((M++[wr.heap.size]).length=k+1):=by show _=_;rw[Qk,HL.o];rfl
    clear ak ah aa J HR HL;go_wp2;go_roundw
    case rel=>exact⟨k+1,M++[wr.heap.size],by omega,by go_num,au,av.o,aw.o,ar.o⟩
    case measure=>simp[intOf];omega
  ·have aE:k=n+1:=by omega
   subst aE;have aF:¬((n+1:Nat):Int)<=(n:Int):=by omega
   obtain⟨g,c,rfl⟩:∃ g c,u5=.slice (some ⟨g,0,none⟩) (n+1) c:=by
    rcases aa.2 with⟨_,h⟩ | ⟨g,c,_,h,_⟩
    ·cases h
    ·exact⟨g,c,h⟩
   have y:=I (HR.o.tab HL.o aa);obtain⟨R,hR⟩:∃ R:Nat->Nat,R=fun j=>M.getD j 0:=⟨_,rfl⟩
   rw[<-hR]at y;clear aa HR HL hR M;go_wp2
   go_loopw [8,9,10,11] (fun iv _ _ _ wr=>∃(ii:Nat) (z:Int) (F:Nat->Nat->Bool),ii<=n+1/\iv=.int .i64 z/\Hid (z=(ii:Int) - 1)/\Hid (Jr wr w.heap.size g R n m F)/\Hid (∀ j k,ii<=j->j<=n->k<=m->F j k=globL (b.drop k) (a.drop j))/\Hid (Below w.heap.size w wr)) (fun iv _ _ _ _=>(intOf iv+1).toNat)
   case atStart=>exact⟨n+1,n,_,Nat.le_refl _,rfl,by show(n:Int)=((n+1:Nat):Int) - 1;omega,y,fun j k h1 h2=>absurd h1 (by omega),J⟩
   case round=>
    clear y J;obtain⟨ii,z,F,ai,rfl,K,y,D,J⟩:=hrel
    match ii,ai,K,D with
    |0,ai,K,D=>
     have hz:z = -1:=by have:=K.o;omega
     subst hz;go_wp2;go_ret;refine⟨g,c,R,rfl,?_,J.o⟩;exact⟨y.o.hg,y.o.o,fun j Q=>(y.o.row j Q).congr fun k hk=>by show Value.bool _=.bool _;rw[D.o j k QC Q (by omega)],y.o.bel,y.o.inj⟩
    |i+1,ai,K,D=>
     have hz:z=(i:Int):=by have:=K.o;omega
     subst hz;have H:i<=n:=by omega
     have d1:=y.o.o i H;have T:∀ o,o<m+1->wr.cell? ⟨R i,o,none⟩=some (.bool (F i o)):=fun o Z=>(y.o.row i H).cell Z
     have d3:=(y.o.row i H).frozen;unfold J8 at d1;have af:=I (y.o.set (k:=m) H (decide (i=n)));have ay:((i:Int)==(n:Int))=decide (i=n):=by rw[Zh];simp;omega
     obtain⟨r,hr⟩:=Qf (R i);rw[hr]at d1 T d3;have d4:=T m (by omega);go_wp2
     go_loopw [9,10,11] (fun kv _ _ wi=>∃(kk:Nat) (z:Int) (F:Nat->Nat->Bool),kk<=m/\kv=.int .i64 z/\Hid (z=(kk:Int) - 1)/\Hid (Jr wi w.heap.size g R n m F)/\Hid (∀ j k,(i+1<=j\/(j=i/\kk<=k))->j<=n->k<=m->F j k=globL (b.drop k) (a.drop j))/\Hid (Below w.heap.size w wi)) (fun kv _ _ _=>(intOf kv+1).toNat)
     case atStart=>
      have af:=y.o.set (k:=m) H (decide (i=n));rw[hr]at af;refine⟨m,_,_,Nat.le_refl _,rfl,rfl,af,?_,J.o.setCell (by rw[<-hr];exact(y.o.bel i H).1) _⟩;refine Ic (G:=fun j k=>globL (b.drop k) (a.drop j)) (fun j l h Q hl=>?_) ?_
      ·rcases h with h | ⟨h1,h2⟩
       ·exact D.o j l h Q hl
       ·omega
      ·show globL (b.drop m) (a.drop i)=_
       rw[Zi (by rw[HM.o];exact Qt),QwJ,Zh,List.isEmpty_iff,decide_eq_true_iff,List.drop_eq_nil_iff,HN.o];omega
     case round=>
      clear y J D d1 T d3 d4 ay;obtain⟨kk,z,F,ae,rfl,K,y,D,J⟩:=hrel
      match kk,ae,K,D with
      |0,ae,K,D=>
       have hz:z = -1:=by have:=K.o;omega
       subst hz;go_wp2;go_roundw
       case rel=>exact⟨i,(i:Int) - 1,F,by omega,by go_num,rfl,y,fun j k h1 h2 C=>D.o j k (by rcases Nat.lt_or_ge i j with h|h;exact Qd h;exact Qc ⟨by omega,by omega⟩) h2 C,J⟩
       case measure=>simp[intOf]
      |k+1,ae,K,D=>
       have hz:z=(k:Int):=by have:=K.o;omega
       subst hz;have aO:(k:Int)<(m:Int):=by omega
       have d1:=y.o.o i H;have T:∀ o,o<m+1->wr.cell? ⟨R i,o,none⟩=some (.bool (F i o)):=fun o Z=>(y.o.row i H).cell Z
       have d3:=(y.o.row i H).frozen k;unfold J8 at d1;rw[hr]at d1 T d3;have d4:=T k (by omega);have d5:=T (k+1) (by omega);have ad:=I (D.o i (k+1) (Qc ⟨rfl,Nat.le_refl _⟩) H ae);obtain⟨f0,ao⟩:=Qf (F i k);obtain⟨f1,ap⟩:=Qf (F i (k+1));rw[ao]at d4;rw[ap]at d5 ad;clear T ao ap
       have B:Hid (∀ V,globL (b.drop k) (a.drop i)=V->Jr (wr.setCell ⟨r,k,none⟩ (.bool V)).drew w.heap.size g R n m (upd F i k V)/\(∀ j l,(i+1<=j\/(j=i/\k<=l))->j<=n->l<=m->upd F i k V j l=globL (b.drop l) (a.drop j))/\Below w.heap.size w (wr.setCell ⟨r,k,none⟩ (.bool V)).drew):=by
        intro V hV;have h1:=y.o.set (k:=k) H V;rw[hr]at h1;exact⟨h1.drew,Ic (G:=fun j k=>globL (b.drop k) (a.drop j)) D.o hV,(J.o.setCell (by rw[<-hr];exact(y.o.bel i H).1) _).drew⟩
       have aD:k<(sA b).size:=by omega
       have f:=I (Gi aD);obtain⟨p,ag⟩:=Qf ((sA b)[k]);rw[ag]at f;have aN:∀ h:k<(sA b).size,(sA b)[k]'h=p:=fun h=>ag
       clear ag;by_cases hia:i<n
       ·have aA:(i:Int)<(n:Int):=by omega
        have az:i<(sA a).size:=by omega
        have d:=I (Gi az);obtain⟨x,hx⟩:=Qf ((sA a)[i]);rw[hx]at d;have aM:∀ h:i<(sA a).size,(sA a)[i]'h=x:=fun h=>hx
        clear hx;have e1:=y.o.o (i+1) hia;have N:∀ o,o<m+1->wr.cell? ⟨R (i+1),o,none⟩=some (.bool (F (i+1) o)):=fun o Z=>(y.o.row (i+1) hia).cell Z
        have S:=I (fun o (Z:o<=m)=>D.o (i+1) o (Qd Qt) hia Z);unfold J8 at e1;obtain⟨r2,aq⟩:=Qf (R (i+1));rw[aq]at e1 N;clear aq;by_cases he:p=92/\k+1<m
        ·obtain⟨rfl,aB⟩:=he;have aC:(k:Int)+1<(m:Int):=by omega
         have aj:k+1<(sA b).size:=by omega
         have ac:=I (Gi aj);obtain⟨c1,Y⟩:=Qf ((sA b)[k+1]);rw[Y]at ac;have ax:∀ h:k+1<(sA b).size,(sA b)[k+1]'h=c1:=fun h=>Y
         clear Y;have X:(((92:UInt8).toNat:Int)==92)=true:=rfl;have U:=N (k+2) (by omega);have E:=I (S.o (k+2) (by omega));obtain⟨A,L⟩:=Qf (F (i+1) (k+2));rw[L]at U E;clear N S L;have ab:=Js x c1;by_cases hxe:x=c1
         ·subst hxe;rw[QO rfl]at ab;have e4:wr.cell? ⟨r2,k+2,none⟩=some (.bool A):=U;have q:Hid (globL (b.drop k) (a.drop i)=A):=by show _=_;rw[d.o,f.o,ac.o,Cs,QO rfl,Bool.true_and,E.o]
          clear d f;go_wp2;go_region;go_wp2;go_roundw
          case rel=>obtain⟨s,t,v⟩:=B.o _ q.o;exact⟨k,(k:Int) - 1,upd F i k _,by omega,by go_num,rfl,s,t,v⟩
          case measure=>simp[intOf]
         ·rw[Qr hxe]at ab;have q:Hid (globL (b.drop k) (a.drop i)=false):=by show _=_;rw[d.o,f.o,ac.o,Cs,Qr hxe,Bool.false_and]
          clear d f;go_wp2;go_region;go_wp2;go_roundw
          case rel=>obtain⟨s,t,v⟩:=B.o _ q.o;exact⟨k,(k:Int) - 1,upd F i k _,by omega,by go_num,rfl,s,t,v⟩
          case measure=>simp[intOf]
        ·by_cases h42:p=42
         ·subst h42;have X:(((42:UInt8).toNat:Int)==92)=false:=rfl;have b2:(((42:UInt8).toNat:Int)==42)=true:=rfl;have U:=N k (by omega);have E:=I (S.o k (by omega));obtain⟨A,L⟩:=Qf (F (i+1) k);rw[L]at U E;clear N S L;cases f1
          ·have q:Hid (globL (b.drop k) (a.drop i)=A):=by show _=_;rw[d.o,f.o,Ie,<-d.o,<-f.o,<-ad.o,Bool.false_or,E.o]
           clear d f;go_wp2;go_region;go_wp2;go_roundw
           case rel=>obtain⟨s,t,v⟩:=B.o _ q.o;exact⟨k,(k:Int) - 1,upd F i k _,by omega,by go_num,rfl,s,t,v⟩
           case measure=>simp[intOf]
          ·have q:Hid (globL (b.drop k) (a.drop i)=true):=by show _=_;rw[d.o,f.o,Ie,<-d.o,<-f.o,<-ad.o,Bool.true_or]
           clear d f;go_wp2;go_region;go_wp2;go_roundw
           case rel=>obtain⟨s,t,v⟩:=B.o _ q.o;exact⟨k,(k:Int) - 1,upd F i k _,by omega,by go_num,rfl,s,t,v⟩
           case measure=>simp[intOf]
         ·have b2:((p.toNat:Int)==42)=false:=(Js p 42).trans (Qr h42);by_cases h63:p=63
          ·subst h63;have X:(((63:UInt8).toNat:Int)==92)=false:=rfl;have b3:(((63:UInt8).toNat:Int)==63)=true:=rfl;have U:=N (k+1) (by omega);have E:=I (S.o (k+1) (by omega));obtain⟨A,L⟩:=Qf (F (i+1) (k+1));rw[L]at U E;clear N S L;have q:Hid (globL (b.drop k) (a.drop i)=A):=by show _=_;rw[d.o,f.o,If,<-E.o]
           clear d f;go_wp2;go_region;go_wp2;go_roundw
           case rel=>obtain⟨s,t,v⟩:=B.o _ q.o;exact⟨k,(k:Int) - 1,upd F i k _,by omega,by go_num,rfl,s,t,v⟩
           case measure=>simp[intOf]
          ·have b3:((p.toNat:Int)==63)=false:=(Js p 63).trans (Qr h63);have C:p=92->b.drop (k+1)=[]:=fun e=>Zi (by rw[HM.o];exact Nat.le_of_not_lt (fun h=>he ⟨e,h⟩))
           have U:=N (k+1) (by omega);have E:=I (S.o (k+1) (by omega));obtain⟨A,L⟩:=Qf (F (i+1) (k+1));rw[L]at U E;clear N S L;have ab:=Js x p;by_cases h92:p=92
           ·have b0:((p.toNat:Int)==92)=true:=(Js p 92).trans (QO h92);have X:¬(k:Int)+1<(m:Int):=fun h=>he ⟨h92,by omega⟩
            clear he;by_cases hxe:x=p
            ·rw[QO hxe]at ab;have q:Hid (globL (b.drop k) (a.drop i)=A):=by show _=_;rw[d.o,f.o,Nj h42 h63 C,QO hxe,Bool.true_and,E.o]
             clear d f C h92 hxe;go_wp2;go_region;go_wp2;go_roundw
             case rel=>obtain⟨s,t,v⟩:=B.o _ q.o;exact⟨k,(k:Int) - 1,upd F i k _,by omega,by go_num,rfl,s,t,v⟩
             case measure=>simp[intOf]
            ·rw[Qr hxe]at ab;have q:Hid (globL (b.drop k) (a.drop i)=false):=by show _=_;rw[d.o,f.o,Nj h42 h63 C,Qr hxe,Bool.false_and]
             clear d f C h92 hxe;go_wp2;go_region;go_wp2;go_roundw
             case rel=>obtain⟨s,t,v⟩:=B.o _ q.o;exact⟨k,(k:Int) - 1,upd F i k _,by omega,by go_num,rfl,s,t,v⟩
             case measure=>simp[intOf]
           ·have b0:((p.toNat:Int)==92)=false:=(Js p 92).trans (Qr h92);clear he;by_cases hxe:x=p
            ·rw[QO hxe]at ab;have q:Hid (globL (b.drop k) (a.drop i)=A):=by show _=_;rw[d.o,f.o,Nj h42 h63 C,QO hxe,Bool.true_and,E.o]
             clear d f C h92 hxe;go_wp2;go_region;go_wp2;go_roundw
             case rel=>obtain⟨s,t,v⟩:=B.o _ q.o;exact⟨k,(k:Int) - 1,upd F i k _,by omega,by go_num,rfl,s,t,v⟩
             case measure=>simp[intOf]
            ·rw[Qr hxe]at ab;have q:Hid (globL (b.drop k) (a.drop i)=false):=by show _=_;rw[d.o,f.o,Nj h42 h63 C,Qr hxe,Bool.false_and]
             clear d f C h92 hxe;go_wp2;go_region;go_wp2;go_roundw
             case rel=>obtain⟨s,t,v⟩:=B.o _ q.o;exact⟨k,(k:Int) - 1,upd F i k _,by omega,by go_num,rfl,s,t,v⟩
             case measure=>simp[intOf]
       ·have aA:¬(i:Int)<(n:Int):=by omega
        have d:Hid (a.drop i=[]):=by show _=_;exact Zi (by rw[HN.o];omega)
        by_cases he:p=92/\k+1<m
        ·obtain⟨rfl,aB⟩:=he;have aC:(k:Int)+1<(m:Int):=by omega
         have aj:k+1<(sA b).size:=by omega
         have ac:=I (Gi aj);obtain⟨c1,Y⟩:=Qf ((sA b)[k+1]);rw[Y]at ac;have ax:∀ h:k+1<(sA b).size,(sA b)[k+1]'h=c1:=fun h=>Y
         clear Y;have X:(((92:UInt8).toNat:Int)==92)=true:=rfl;have q:Hid (globL (b.drop k) (a.drop i)=false):=by show _=_;rw[d.o,f.o,ac.o,Ig]
         clear d f;go_wp2;go_region;go_wp2;go_roundw
         case rel=>obtain⟨s,t,v⟩:=B.o _ q.o;exact⟨k,(k:Int) - 1,upd F i k _,by omega,by go_num,rfl,s,t,v⟩
         case measure=>simp[intOf]
        ·by_cases h42:p=42
         ·subst h42;have X:(((42:UInt8).toNat:Int)==92)=false:=rfl;have b2:(((42:UInt8).toNat:Int)==42)=true:=rfl;cases f1
          ·have q:Hid (globL (b.drop k) (a.drop i)=false):=by show _=_;rw[d.o,f.o,Ih,<-d.o,<-ad.o]
           clear d f;go_wp2;go_region;go_wp2;go_roundw
           case rel=>obtain⟨s,t,v⟩:=B.o _ q.o;exact⟨k,(k:Int) - 1,upd F i k _,by omega,by go_num,rfl,s,t,v⟩
           case measure=>simp[intOf]
          ·have q:Hid (globL (b.drop k) (a.drop i)=true):=by show _=_;rw[d.o,f.o,Ih,<-d.o,<-ad.o]
           clear d f;go_wp2;go_region;go_wp2;go_roundw
           case rel=>obtain⟨s,t,v⟩:=B.o _ q.o;exact⟨k,(k:Int) - 1,upd F i k _,by omega,by go_num,rfl,s,t,v⟩
           case measure=>simp[intOf]
         ·have b2:((p.toNat:Int)==42)=false:=(Js p 42).trans (Qr h42);by_cases h63:p=63
          ·subst h63;have X:(((63:UInt8).toNat:Int)==92)=false:=rfl;have b3:(((63:UInt8).toNat:Int)==63)=true:=rfl;have q:Hid (globL (b.drop k) (a.drop i)=false):=by show _=_;rw[d.o,f.o,Ii]
           clear d f;go_wp2;go_region;go_wp2;go_roundw
           case rel=>obtain⟨s,t,v⟩:=B.o _ q.o;exact⟨k,(k:Int) - 1,upd F i k _,by omega,by go_num,rfl,s,t,v⟩
           case measure=>simp[intOf]
          ·have b3:((p.toNat:Int)==63)=false:=(Js p 63).trans (Qr h63);have C:p=92->b.drop (k+1)=[]:=fun e=>Zi (by rw[HM.o];exact Nat.le_of_not_lt (fun h=>he ⟨e,h⟩))
           by_cases h92:p=92
           ·have b0:((p.toNat:Int)==92)=true:=(Js p 92).trans (QO h92);have X:¬(k:Int)+1<(m:Int):=fun h=>he ⟨h92,by omega⟩
            clear he;have q:Hid (globL (b.drop k) (a.drop i)=false):=by show _=_;rw[d.o,f.o,Cu h42 h63 C]
            clear d f C h92;go_wp2;go_region;go_wp2;go_roundw
            case rel=>obtain⟨s,t,v⟩:=B.o _ q.o;exact⟨k,(k:Int) - 1,upd F i k _,by omega,by go_num,rfl,s,t,v⟩
            case measure=>simp[intOf]
           ·have b0:((p.toNat:Int)==92)=false:=(Js p 92).trans (Qr h92);clear he;have q:Hid (globL (b.drop k) (a.drop i)=false):=by show _=_;rw[d.o,f.o,Cu h42 h63 C]
            clear d f C h92;go_wp2;go_region;go_wp2;go_roundw
            case rel=>obtain⟨s,t,v⟩:=B.o _ q.o;exact⟨k,(k:Int) - 1,upd F i k _,by omega,by go_num,rfl,s,t,v⟩
            case measure=>simp[intOf]
end Go.Proofs.YtgnkjijocdmniaaGreatDoor
