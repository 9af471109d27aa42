import Derived.Deep.OwnRows
import Derived.Test.YtgnkjijocdmniaaGreatDoorZVCapQ
import Derived.Test.YtgnkjijocdmniaaGreatDoorZVExists
namespace Go.Proofs.YtgnkjijocdmniaaGreatDoor
set_option linter.all false
set_option maxRecDepth 100000
set_option maxHeartbeats 4000000
open Go.Proofs.Tryz
open Go.RowKit
attribute [local go_sem ↓] Zt Zu
variable{B i k m n:Nat}{F:Nat->Nat->Bool}{rs:List Nat}{w:World}
theorem Tryz.infoBoolQ:(prog.info? 4).map (fun i=>(i.zero,i.size,i.bytes))=some (some (.bool false),1,1):=Qm
theorem Tryz.infoBools:(prog.info? 106).map (fun i=>(i.zero,i.size,i.bytes))=some (some Qp,1,24):=Qm
def Us(m r:Nat):Value:=Qs r (m+1) (m+1)
structure Kw (w:World) (B g:Nat) (R:Nat->Nat) (n m:Nat) (F:Nat->Nat->Bool):Prop where
 hg:B<=g
 o:∀j,j<=n->w.cell? ⟨g,j,none⟩=some (Us m (R j))
 row:∀j,j<=n->w.rowIs (R j) 4 (m+1) (fun k=>.bool (F j k))
 bel:∀j,j<=n->B<=R j∧R j≠g
 inj:∀i j,i<=n->j<=n->R i=R j->i=j
def upd(F:Nat->Nat->Bool)(i k:Nat)(x:Bool):Nat->Nat->Bool:=fun j l=>if j=i/\l=k then x else F j l
theorem Rb{x:Bool}:upd F i k x i k=x:=Qi ⟨rfl,rfl⟩
theorem Oj(F:Nat->Nat->Bool){j l:Nat}(x:Bool)(h:¬(j=i/\l=k)):upd F i k x j l=F j l:=Qg h
theorem Kw.set{w:World}{B g:Nat}{R:Nat->Nat}{n m:Nat}{F:Nat->Nat->Bool}(h:Kw w B g R n m F){i k:Nat}(hi:i<=n)(x:Bool):Kw (w.setCell ⟨R i,k,none⟩ (.bool x)) B g R n m (upd F i k x):=by
 refine⟨h.hg,fun j b=>?_,fun j b=>?_,h.bel,h.inj⟩
 .rw[<-h.o j b];exact Xo (Q' (fun e=>(h.bel i hi).2 e.symm))
 .by_cases e:j=i
  .subst e;refine((h.row j b).set k (.bool x)).congr fun l _=>?_
   show(if l=k then Value.bool x else .bool (F j l))=.bool (upd F j k x j l)
   unfold upd;by_cases hl:l=k
   .rw[Qi hl,Qi ⟨rfl,hl⟩]
   .rw[Qg hl,Qg (fun e=>hl e.2)]
  .refine((h.row j b).setOther (a:=⟨R i,k,none⟩) (fun c=>e (h.inj j i b hi c)) _).congr fun l _=>?_
   show Value.bool (F j l)=.bool (upd F i k x j l)
   rw[Oj F x (fun c=>e c.1)]
theorem Kw.drew{w:World}{B g:Nat}{R:Nat->Nat}{n m:Nat}{F:Nat->Nat->Bool}(h:Kw w B g R n m F):Kw w.drew B g R n m F:=⟨h.hg,h.o,h.row,h.bel,h.inj⟩
structure N4 (w:World) (B m:Nat) (rs:List Nat):Prop where
 row:∀r∈rs,w.rowIs r 4 (m+1) (fun _=>.bool false)
 lo:∀r∈rs,B<=r
 pw:rs.Pairwise (· < ·)
theorem Ns:type_of%@List.getElem?_map:=@List.getElem?_map
theorem N4.tab{g c:Nat}(h:N4 w B m rs)(y:rs.length=n+1)(k:w.ownsRow B 106 1 (Qs g (n+1) c) (n+1) (rs.map (Us m))):Kw w B g (fun j=>rs.getD j 0) n m (fun _ _=>false):=by
 have f:∀j,j<=n->rs.getD j 0∈rs:=fun j a=>by
  rw[Zv,Zi I];exact ZT I
 have p:=k.lt g rfl;refine⟨p.1,fun j a=>?_,fun j a=>h.row _ (f j a),fun j a=>⟨h.lo _ (f j a),?_⟩,fun i j x a e=>?_⟩
 .have:=k.cells (g:=g) rfl j (Us m (rs.getD j 0)) (by rw[Ns,Zv,Zi I];rfl);rw[J8]at this;exact this
 .intro e;obtain⟨t,b,_⟩:=h.row _ (f j a);rcases k.2 with⟨d,_⟩ | ⟨l,s,u,r,_,q,_⟩
  .cases d
  .have o:g=l:=by injection r with d;injection d with d;injection d
   rw[e,o,q]at b;injection b with b
   injection b with _ b _
   exact absurd b Qb
 .rw[Zv,Zv,Zi I,Zi I]at e;have v:rs[i]' I=rs[j]' I:=e;rcases Nat.lt_trichotomy i j with hlt|hlt|hlt
  .have:=List.pairwise_iff_getElem.1 h.pw i j I I hlt;omega
  .exact hlt
  .have:=List.pairwise_iff_getElem.1 h.pw j i I I hlt;omega
theorem N4.snoc{w':World}{o:Obj}{v:Value}{xs:List Value}(h:N4 w B m rs)(z:B<=w.heap.size)(t:w.ownsRow B 106 1 v n xs)
 (p:((w.alloc (Qe (madeCells #[.bool false] (m+1)) 4)).alloc o).grownBy w' v.ownBlock):N4 w' B m (rs++[w.heap.size]):=by
 have j:∀r,r<w.heap.size+1->w.heap[r]?=none\/(∀i f,w.heap[r]?≠some (.cells i 106 f))->w'.heap[r]?=((w.alloc (Qe (madeCells #[.bool false] (m+1)) 4)).alloc o).heap[r]?:=by
  intro r hr hn;refine p.block r (by simp;omega) ?_;intro e;rcases t.2 with⟨c,_⟩ | ⟨k,u,y,c,_,g,_⟩
  .rw[c]at e;cases e
  .rw[c]at e;have:r=k:=by injection e
   subst this;rcases hn with hn|hn
   .rw[hn]at g;cases g
   .exact hn _ _ g
 have q:∀r∈rs,w'.heap[r]?=w.heap[r]?:=by
  intro r hr;have s:=(h.row r hr).lt;rw[j r I ?_,ZL _ _ _ (by simp;omega),ZL _ _ _ s];right;intro i f e;obtain⟨x,d,_⟩:=h.row r hr;rw[d]at e;injection e with e
  injection e with _ e _
  exact absurd e Qb
 refine⟨fun r hr=>?_,fun r hr=>?_,?_⟩
 .rcases Z6.1 hr with hr|hr
  .exact(h.row r hr).of_block (q r hr)
  .have:r=w.heap.size:=by simpa using hr
   subst this;have c:=World.rowIs_made w (.bool false) (m+1) 4;refine(c.alloc o).of_block (j _ I (Qt (GH QF)))
 .rcases Z6.1 hr with hr|hr
  .exact h.lo r hr
  .have:r=w.heap.size:=by simpa using hr
   omega
 .rw[List.pairwise_append];refine⟨h.pw,Qh,fun a l b d=>?_⟩;have:b=w.heap.size:=by simpa using d
  rw[this];exact(h.row a l).lt
theorem Lb{G:Nat->Nat->Bool}(h:∀j l,(i+1<=j\/(j=i/\k+1<=l))->j<=n->l<=m->F j l=G j l){V:Bool}(g:G i k=V):∀j l,(i+1<=j\/(j=i/\k<=l))->j<=n->l<=m->upd F i k V j l=G j l:=by
 intro j l d c f;by_cases e:j=i/\l=k
 .obtain⟨rfl,rfl⟩:=e;rw[Rb,g]
 .rw[Oj F V e];refine h j l ?_ c f;rcases d with h | ⟨a,b⟩
  .exact Qt h
  .right;refine⟨a,?_⟩;rcases Ki k l with h3|h3
   .exact h3
   .exact absurd ⟨a,Nat.le_antisymm h3 b⟩ e
theorem NN{b:L8}(a:k<(sA b).size):b.drop k=(sA b)[k]::b.drop (k+1):=by
 have c:=a;rw[Xt c];congr 1
theorem Kp(x y:UInt8):((x.toNat:Int)==(y.toNat:Int))=decide (x=y):=by
 rw[Xb];simp only[beq_iff_eq,decide_eq_true_iff];exact⟨fun h=>Xi.1 I,fun h=>by rw[h]⟩
theorem QwB(a b:L8)(w:World)(ha:a.length<=100000)(hb:b.length<=100000):Calls prog 174 #[Qf a,Qf b] w fun e w'=>∃g c R,e=.returned (Qs g (a.length+1) c)/\Kw w' w.heap.size g R a.length b.length (fun j k=>globL (b.drop k) (a.drop j))/\Qo w w':=by
 have aJ:=Zc a;have aK:=Zc b;obtain⟨n,hn⟩:=Qw (a.length);obtain⟨m,hm⟩:=Qw (b.length);rw[hn]at aJ ha;rw[hm]at aK hb;rw[hn,hm];change Qd _ at hn hm;obtain⟨i0,hi,aG,aH,aI⟩:=ZU Tryz.infoBools;have aO:∀W:World,(Instr.makeSlice 106 (Qa ((m:Int)+1)) (Qa ((m:Int)+1))).run prog W=.ok (Qs W.heap.size (m+1) (m+1)) (W.alloc (Qe (madeCells #[.bool false] (m+1)) 4)):=fun W=>run_make_row' (P:=prog) 106 4 (.bool false) 1 underlying106 Tryz.infoBoolQ rfl .i64 .i64 (m+1) I I W
 go_enter func174,ntmps174;go_wp2
 go_loopw [5,6] (fun ov iv wr=>∃(k:Nat) (L:List Nat),k<=n+1/\iv=Qa k/\Hid (L.length=k)/\wr.ownsRow w.heap.size 106 1 ov k (L.map (Us m))/\N4 wr w.heap.size m L/\Qo w wr) (fun _ iv _=>n+1-(intOf iv).toNat)
 case atStart=>exact⟨0,[],I,rfl,rfl,Z5,⟨Qh,Qh,Qh⟩,QO _ _⟩
 case round=>
  obtain⟨k,L,hk,rfl,HL,aa,hR,C⟩:=hrel;have HR:=O hR;have aF:=C.size;clear hR;change Qd _ at C;by_cases hlt:k<=n
  .have aE:(k:Int)<=(n:Int):=I
   go_wp2_with (at_builtin;refine XM _ rfl _ _ 288 rfl w.heap.size 106 i0 Qp 1 24 underlying288 hi aG aH aI rfl Qb _ _ _ rfl ((aa.alloc _).alloc _) ⟨wr.heap.size+1,0,none⟩ 1 1 [Us m wr.heap.size] rfl rfl ?c1 ?c2 ?c3 ?c4 ?c5 ?_)
   case c1=>
    intro j u Q
    match j,Q with
    |0,Q=>simp at Q;subst Q;simp[Addr.add,Us]
   case c2=>intro u hu;simp at hu;subst hu;rfl
   case c3=>unfold maxLen;omega
   case c4=>omega
   case c5=>simp;omega
   .intro v' w5 ak ah _;have ar:=O (Vv (T9 C QF) (by simp;omega) ah (fun k hk=>(aa.lt k hk).1));have av:=O (HR.o.snoc aF aa ah);rw[show List.map (Us m) L++[Us m wr.heap.size]=List.map (Us m) (L++[wr.heap.size]) by simp]at ak;have au:Hid ((L++[wr.heap.size]).length=k+1):=by show _=_;rw[Qz,HL.o];rfl
    clear ah aa C HR HL;change Qd _ at ak;go_wp2;go_roundw
    case rel=>exact⟨k+1,L++[wr.heap.size],I,by go_num,au,ak,av,ar⟩
    case measure=>simp[intOf];omega
  .have aD:k=n+1:=I
   subst aD;have aE:¬((n+1:Nat):Int)<=(n:Int):=I
   obtain⟨g,c,rfl⟩:∃g c,u5=Qs g (n+1) c:=by
    rcases aa.2 with⟨_,h⟩ | ⟨g,c,_,h,_⟩
    .cases h
    .exact⟨g,c,h⟩
   have q:=O (HR.tab HL aa);obtain⟨R,hR⟩:∃R:Nat->Nat,R=fun j=>L.getD j 0:=⟨_,rfl⟩
   rw[<-hR]at q;clear aa HR HL hR L;go_wp2
   go_loopw [8,9,10,11] (fun iv _ _ _ wr=>∃(ii:Nat) (z:Int) (F:Nat->Nat->Bool),ii<=n+1/\iv=Qa z/\Hid (z=(ii:Int)-1)/\Hid (Kw wr w.heap.size g R n m F)/\Hid (∀j k,ii<=j->j<=n->k<=m->F j k=globL (b.drop k) (a.drop j))/\Hid (Qo w wr)) (fun iv _ _ _ _=>(intOf iv+1).toNat)
   case atStart=>exact⟨n+1,n,_,Q4 _,rfl,by show(n:Int)=((n+1:Nat):Int)-1;omega,q,fun j k h1 h2=>absurd h1 I,C⟩
   case round=>
    clear q C;obtain⟨ii,z,F,ai,rfl,J,q,B,C⟩:=hrel
    match ii,ai,J,B with
    |0,ai,J,B=>
     have hz:z = -1:=by have:=J.o;omega
     subst hz;go_wp2;go_ret;refine⟨g,c,R,rfl,?_,C⟩;exact⟨q.hg,q.o.o,fun j Q=>(q.row j Q).congr fun k hk=>by show Value.bool _=.bool _;rw[B j k QR Q I],q.bel,q.inj⟩
    |i+1,ai,J,B=>
     have hz:z=(i:Int):=by have:=J.o;omega
     subst hz;have E:i<=n:=I
     have d1:=q.o.o i E;have T:∀o,o<m+1->wr.cell? ⟨R i,o,none⟩=some (.bool (F i o)):=fun o Z=>(q.row i E).cell Z
     have d3:=(q.row i E).frozen;unfold Us at d1;have af:=O (q.o.set (k:=m) E (decide (i=n)));have ax:((i:Int)==(n:Int))=decide (i=n):=by rw[Xb];simp;omega
     obtain⟨r,hr⟩:=Qw (R i);rw[hr]at d1 T d3;have d4:=T m I;go_wp2
     go_loopw [9,10,11] (fun kv _ _ wi=>∃(kk:Nat) (z:Int) (F:Nat->Nat->Bool),kk<=m/\kv=Qa z/\Hid (z=(kk:Int)-1)/\Hid (Kw wi w.heap.size g R n m F)/\Hid (∀j k,(i+1<=j\/(j=i/\kk<=k))->j<=n->k<=m->F j k=globL (b.drop k) (a.drop j))/\Hid (Qo w wi)) (fun kv _ _ _=>(intOf kv+1).toNat)
     case atStart=>
      have af:=q.o.set (k:=m) E (decide (i=n));rw[hr]at af;refine⟨m,_,_,Q4 _,rfl,rfl,af,?_,C.setCell (by rw[<-hr];exact(q.bel i E).1) _⟩;refine Lb (G:=fun j k=>globL (b.drop k) (a.drop j)) (fun j l h Q hl=>?_) ?_
      .rcases h with h | ⟨h1,h2⟩
       .exact B j l h Q hl
       .omega
      .show globL (b.drop m) (a.drop i)=_
       rw[ZE (by rw[hm.o];exact QF),Qym,Xb,List.isEmpty_iff,decide_eq_true_iff,List.drop_eq_nil_iff,hn.o];omega
     case round=>
      clear q C B d1 T d3 d4 ax;obtain⟨kk,z,F,ae,rfl,J,q,B,C⟩:=hrel
      match kk,ae,J,B with
      |0,ae,J,B=>
       have hz:z = -1:=by have:=J.o;omega
       subst hz;go_wp2;go_roundw
       case rel=>exact⟨i,(i:Int)-1,F,I,by go_num,rfl,q,fun j k h1 h2 N=>B j k (by rcases Ki i j with h|h;exact Qt h;exact Qr ⟨I,I⟩) h2 N,C⟩
       case measure=>simp[intOf]
      |k+1,ae,J,B=>
       have hz:z=(k:Int):=by have:=J.o;omega
       subst hz;have aN:(k:Int)<(m:Int):=I
       have d1:=q.o.o i E;have T:∀o,o<m+1->wr.cell? ⟨R i,o,none⟩=some (.bool (F i o)):=fun o Z=>(q.row i E).cell Z
       have d3:=(q.row i E).frozen k;unfold Us at d1;rw[hr]at d1 T d3;have d4:=T k I;have d5:=T (k+1) I;have ac:=O (B i (k+1) (Qr ⟨rfl,Q4 _⟩) E ae);obtain⟨f0,ao⟩:=Qw (F i k);obtain⟨f1,ap⟩:=Qw (F i (k+1));rw[ao]at d4;rw[ap]at d5 ac;clear T ao ap
       have D:Hid (∀V,globL (b.drop k) (a.drop i)=V->Kw (wr.setCell ⟨r,k,none⟩ (.bool V)).drew w.heap.size g R n m (upd F i k V)/\(∀j l,(i+1<=j\/(j=i/\k<=l))->j<=n->l<=m->upd F i k V j l=globL (b.drop l) (a.drop j))/\Qo w (wr.setCell ⟨r,k,none⟩ (.bool V)).drew):=by
        intro V hV;have h1:=q.o.set (k:=k) E V;rw[hr]at h1;exact⟨h1.drew,Lb (G:=fun j k=>globL (b.drop k) (a.drop j)) B hV,(C.setCell (by rw[<-hr];exact(q.bel i E).1) _).drew⟩
       have aC:k<(sA b).size:=I
       have p:=O (NN aC);obtain⟨d,ag⟩:=Qw ((sA b)[k]);rw[ag]at p;have aM:∀h:k<(sA b).size,(sA b)[k]'h=d:=fun h=>ag
       clear ag;by_cases hia:i<n
       .have az:(i:Int)<(n:Int):=I
        have ay:i<(sA a).size:=I
        have f:=O (NN ay);obtain⟨x,hx⟩:=Qw ((sA a)[i]);rw[hx]at f;have aL:∀h:i<(sA a).size,(sA a)[i]'h=x:=fun h=>hx
        clear hx;have e1:=q.o.o (i+1) hia;have M:∀o,o<m+1->wr.cell? ⟨R (i+1),o,none⟩=some (.bool (F (i+1) o)):=fun o Z=>(q.row (i+1) hia).cell Z
        have S:=O (fun o (Z:o<=m)=>B (i+1) o (Qt QF) hia Z);unfold Us at e1;obtain⟨r2,aq⟩:=Qw (R (i+1));rw[aq]at e1 M;clear aq;by_cases he:d=92/\k+1<m
        .obtain⟨rfl,aA⟩:=he;have aB:(k:Int)+1<(m:Int):=I
         have aj:k+1<(sA b).size:=I
         have ab:=O (NN aj);obtain⟨c1,Y⟩:=Qw ((sA b)[k+1]);rw[Y]at ab;have aw:∀h:k+1<(sA b).size,(sA b)[k+1]'h=c1:=fun h=>Y
         clear Y;have U:(((92:UInt8).toNat:Int)==92)=true:=rfl;have X:=M (k+2) I;have H:=O (S (k+2) I);obtain⟨A,K⟩:=Qw (F (i+1) (k+2));rw[K]at X H;clear M S K;have ad:=Kp x c1;by_cases hxe:x=c1
         .subst hxe;rw[QU rfl]at ad;have s:Hid (globL (b.drop k) (a.drop i)=A):=by show _=_;rw[f.o,p.o,ab.o,DF,QU rfl,KE,H.o]
          clear f p;go_wp2;go_region;go_wp2;go_roundw
          case rel=>obtain⟨t,v,y⟩:=D _ s;exact⟨k,(k:Int)-1,upd F i k _,I,by go_num,rfl,t,v,y⟩
          case measure=>simp[intOf]
         .rw[QB hxe]at ad;have s:Hid (globL (b.drop k) (a.drop i)=false):=by show _=_;rw[f.o,p.o,ab.o,DF,QB hxe,Bool.false_and]
          clear f p;go_wp2;go_region;go_wp2;go_roundw
          case rel=>obtain⟨t,v,y⟩:=D _ s;exact⟨k,(k:Int)-1,upd F i k _,I,by go_num,rfl,t,v,y⟩
          case measure=>simp[intOf]
        .by_cases h42:d=42
         .subst h42;have U:(((42:UInt8).toNat:Int)==92)=false:=rfl;have b2:(((42:UInt8).toNat:Int)==42)=true:=rfl;have X:=M k I;have H:=O (S k I);obtain⟨A,K⟩:=Qw (F (i+1) k);rw[K]at X H;clear M S K;cases f1
          .have s:Hid (globL (b.drop k) (a.drop i)=A):=by show _=_;rw[f.o,p.o,Ie,<-f.o,<-p.o,<-ac.o,Bool.false_or,H.o]
           clear f p;go_wp2;go_region;go_wp2;go_roundw
           case rel=>obtain⟨t,v,y⟩:=D _ s;exact⟨k,(k:Int)-1,upd F i k _,I,by go_num,rfl,t,v,y⟩
           case measure=>simp[intOf]
          .have s:Hid (globL (b.drop k) (a.drop i)=true):=by show _=_;rw[f.o,p.o,Ie,<-f.o,<-p.o,<-ac.o,Bool.true_or]
           clear f p;go_wp2;go_region;go_wp2;go_roundw
           case rel=>obtain⟨t,v,y⟩:=D _ s;exact⟨k,(k:Int)-1,upd F i k _,I,by go_num,rfl,t,v,y⟩
           case measure=>simp[intOf]
         .have b2:((d.toNat:Int)==42)=false:=(Kp d 42).trans (QB h42);by_cases h63:d=63
          .subst h63;have U:(((63:UInt8).toNat:Int)==92)=false:=rfl;have b3:(((63:UInt8).toNat:Int)==63)=true:=rfl;have X:=M (k+1) I;have H:=O (S (k+1) I);obtain⟨A,K⟩:=Qw (F (i+1) (k+1));rw[K]at X H;clear M S K;have s:Hid (globL (b.drop k) (a.drop i)=A):=by show _=_;rw[f.o,p.o,I0,<-H.o]
           clear f p;go_wp2;go_region;go_wp2;go_roundw
           case rel=>obtain⟨t,v,y⟩:=D _ s;exact⟨k,(k:Int)-1,upd F i k _,I,by go_num,rfl,t,v,y⟩
           case measure=>simp[intOf]
          .have b3:((d.toNat:Int)==63)=false:=(Kp d 63).trans (QB h63);have N:d=92->b.drop (k+1)=[]:=fun e=>ZE (by rw[hm.o];exact Nat.le_of_not_lt (fun h=>he ⟨e,h⟩))
           have X:=M (k+1) I;have H:=O (S (k+1) I);obtain⟨A,K⟩:=Qw (F (i+1) (k+1));rw[K]at X H;clear M S K;have ad:=Kp x d;by_cases h92:d=92
           all_goals first
            |(have b0:((d.toNat:Int)==92)=true:=(Kp d 92).trans (QU h92);have U:¬(k:Int)+1<(m:Int):=fun h=>he ⟨h92,I⟩)
            |(have b0:((d.toNat:Int)==92)=false:=(Kp d 92).trans (QB h92))
           all_goals
            clear he;by_cases hxe:x=d
            .rw[QU hxe]at ad;have s:Hid (globL (b.drop k) (a.drop i)=A):=by show _=_;rw[f.o,p.o,DR h42 h63 N,QU hxe,KE,H.o]
             clear f p N h92 hxe;go_wp2;go_region;go_wp2;go_roundw
             case rel=>obtain⟨t,v,y⟩:=D _ s;exact⟨k,(k:Int)-1,upd F i k _,I,by go_num,rfl,t,v,y⟩
             case measure=>simp[intOf]
            .rw[QB hxe]at ad;have s:Hid (globL (b.drop k) (a.drop i)=false):=by show _=_;rw[f.o,p.o,DR h42 h63 N,QB hxe,Bool.false_and]
             clear f p N h92 hxe;go_wp2;go_region;go_wp2;go_roundw
             case rel=>obtain⟨t,v,y⟩:=D _ s;exact⟨k,(k:Int)-1,upd F i k _,I,by go_num,rfl,t,v,y⟩
             case measure=>simp[intOf]
       .have az:¬(i:Int)<(n:Int):=I
        have f:Hid (a.drop i=[]):=by show _=_;exact ZE (by rw[hn.o];omega)
        by_cases he:d=92/\k+1<m
        .obtain⟨rfl,aA⟩:=he;have aB:(k:Int)+1<(m:Int):=I
         have aj:k+1<(sA b).size:=I
         have ab:=O (NN aj);obtain⟨c1,Y⟩:=Qw ((sA b)[k+1]);rw[Y]at ab;have aw:∀h:k+1<(sA b).size,(sA b)[k+1]'h=c1:=fun h=>Y
         clear Y;have U:(((92:UInt8).toNat:Int)==92)=true:=rfl;have s:Hid (globL (b.drop k) (a.drop i)=false):=by show _=_;rw[f.o,p.o,ab.o,Ln]
         clear f p;go_wp2;go_region;go_wp2;go_roundw
         case rel=>obtain⟨t,v,y⟩:=D _ s;exact⟨k,(k:Int)-1,upd F i k _,I,by go_num,rfl,t,v,y⟩
         case measure=>simp[intOf]
        .by_cases h42:d=42
         .subst h42;have U:(((42:UInt8).toNat:Int)==92)=false:=rfl;have b2:(((42:UInt8).toNat:Int)==42)=true:=rfl;cases f1
          .have s:Hid (globL (b.drop k) (a.drop i)=false):=by show _=_;rw[f.o,p.o,HN,<-f.o,<-ac.o]
           clear f p;go_wp2;go_region;go_wp2;go_roundw
           case rel=>obtain⟨t,v,y⟩:=D _ s;exact⟨k,(k:Int)-1,upd F i k _,I,by go_num,rfl,t,v,y⟩
           case measure=>simp[intOf]
          .have s:Hid (globL (b.drop k) (a.drop i)=true):=by show _=_;rw[f.o,p.o,HN,<-f.o,<-ac.o]
           clear f p;go_wp2;go_region;go_wp2;go_roundw
           case rel=>obtain⟨t,v,y⟩:=D _ s;exact⟨k,(k:Int)-1,upd F i k _,I,by go_num,rfl,t,v,y⟩
           case measure=>simp[intOf]
         .have b2:((d.toNat:Int)==42)=false:=(Kp d 42).trans (QB h42);by_cases h63:d=63
          .subst h63;have U:(((63:UInt8).toNat:Int)==92)=false:=rfl;have b3:(((63:UInt8).toNat:Int)==63)=true:=rfl;have s:Hid (globL (b.drop k) (a.drop i)=false):=by show _=_;rw[f.o,p.o,Le]
           clear f p;go_wp2;go_region;go_wp2;go_roundw
           case rel=>obtain⟨t,v,y⟩:=D _ s;exact⟨k,(k:Int)-1,upd F i k _,I,by go_num,rfl,t,v,y⟩
           case measure=>simp[intOf]
          .have b3:((d.toNat:Int)==63)=false:=(Kp d 63).trans (QB h63);have N:d=92->b.drop (k+1)=[]:=fun e=>ZE (by rw[hm.o];exact Nat.le_of_not_lt (fun h=>he ⟨e,h⟩))
           by_cases h92:d=92
           all_goals first
            |(have b0:((d.toNat:Int)==92)=true:=(Kp d 92).trans (QU h92);have U:¬(k:Int)+1<(m:Int):=fun h=>he ⟨h92,I⟩)
            |(have b0:((d.toNat:Int)==92)=false:=(Kp d 92).trans (QB h92))
           all_goals
            clear he;have s:Hid (globL (b.drop k) (a.drop i)=false):=by show _=_;rw[f.o,p.o,Lu h42 h63 N]
            clear f p N h92;go_wp2;go_region;go_wp2;go_roundw
            case rel=>obtain⟨t,v,y⟩:=D _ s;exact⟨k,(k:Int)-1,upd F i k _,I,by go_num,rfl,t,v,y⟩
            case measure=>simp[intOf]
end Go.Proofs.YtgnkjijocdmniaaGreatDoor
