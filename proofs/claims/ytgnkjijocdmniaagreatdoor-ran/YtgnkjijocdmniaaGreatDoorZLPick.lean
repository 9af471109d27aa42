import Derived.Lib.SmallJoins
import Derived.Test.YtgnkjijocdmniaaGreatDoorQParse
namespace Go.Proofs.YtgnkjijocdmniaaGreatDoor
set_option linter.all false
set_option maxRecDepth 100000
set_option maxHeartbeats 4000000
open Go.Proofs.Tryz
open Go.RowKit
variable{H:Type}{W w w':World}{c:Int}{enc:TypeId×Value->H}{n:Nat}{v:Value}{xs:Qn}{y:DataW H×List MemPlace}
section
attribute [local go_sem ↓] Zt Zu
def KX(w:World)(v:Value)(xs:Qn):Prop:=∃a c,v=.slice a xs.length c/\(xs≠[]->∃g off,a=some ⟨g,off,none⟩/\∀j (hj:j<xs.length),w.cell? ⟨g,off+j,none⟩=some (.string (sA xs[j])))
def VX(w:World)(v:Value)(hs:List (L8×L8)):Prop:=∃a c,v=.slice a hs.length c/\(hs≠[]->∃g off,a=some ⟨g,off,none⟩/\∀j (hj:j<hs.length),w.cell? ⟨g,off+j*2,none⟩=some (.string (sA hs[j].1))/\w.cell? ⟨g,off+j*2+1,none⟩=some (.string (sA hs[j].2)))
structure Nq where
 op:Int
 n:Int
 tag:Int
 oct:Bool
 av:Value
 bv:Value
 as':Qn
 bs:Qn
 pos:Int
def N3(v:Value):Prop:=(∀p n c,v=.slice p n c->n<=c)/\∀c,v=.slice none 0 c->c=0
def Cm(w:World)(g o:Nat)(x:Nq):Prop:=
 w.cell? ⟨g,o,none⟩=some (Qa x.op)/\w.cell? ⟨g,o+1,none⟩=some (Qa x.n)/\w.cell? ⟨g,o+2,none⟩=some (Qa x.tag)/\w.cell? ⟨g,o+3,none⟩=some (.bool x.oct)/\w.cell? ⟨g,o+4,none⟩=some x.av/\w.cell? ⟨g,o+5,none⟩=some x.bv/\w.cell? ⟨g,o+6,none⟩=some (Qa x.pos)/\KX w x.av x.as'/\KX w x.bv x.bs/\N3 x.av/\N3 x.bv
def GN(w:World)(v:Value)(l:List Nq):Prop:=∃a c,v=.slice a l.length c/\(l≠[]->∃g off,a=some ⟨g,off,none⟩/\∀j (hj:j<l.length),Cm w g (off+j*7) l[j])
structure OpD where
 kind:Int
 a:Int
 b:Int
 s:L8
 fr:L8
 tt:L8
 sz:Int
 hv:Value
 hs:List (L8×L8)
 cv:Value
 code:List Nq
def A3(w:World)(g o:Nat)(x:OpD):Prop:=
 w.cell? ⟨g,o,none⟩=some (Qa x.kind)/\w.cell? ⟨g,o+1,none⟩=some (Qa x.a)/\w.cell? ⟨g,o+2,none⟩=some (Qa x.b)/\w.cell? ⟨g,o+3,none⟩=some (Qf x.s)/\w.cell? ⟨g,o+4,none⟩=some (Qf x.fr)/\w.cell? ⟨g,o+5,none⟩=some (Qf x.tt)/\w.cell? ⟨g,o+6,none⟩=some (Qa x.sz)/\w.cell? ⟨g,o+7,none⟩=some x.hv/\w.cell? ⟨g,o+8,none⟩=some x.cv/\VX w x.hv x.hs/\GN w x.cv x.code
def Gw(w:World)(v:Value)(l:List OpD):Prop:=∃a c,v=.slice a l.length c/\(l≠[]->∃g off,a=some ⟨g,off,none⟩/\∀j (hj:j<l.length),A3 w g (off+j*9) l[j])
structure GL (x:OpD):Prop where
 a:-9223372036854775808<=x.a∧x.a<=9223372036854775807
 b:-9223372036854775808<=x.b∧x.b<=9223372036854775807
 s:x.s.length<=140737488355328
 fr:x.fr.length<=140737488355328
 tt:x.tt.length<=140737488355328
 hl:x.hs.length<=140737488355328
 hd:∀h∈x.hs,h.1.length<=140737488355328∧h.2.length<=140737488355328
 cl:x.code.length<=140737488355328
 cd:∀i∈x.code,(i.as'.length<=140737488355328∧∀t∈i.as',t.length<=140737488355328)∧(i.bs.length<=140737488355328∧∀t∈i.bs,t.length<=140737488355328)
 cn:∀i∈x.code,-9223372036854775808<=i.n∧i.n<=9223372036854775807
theorem KX.below(h:KX w v xs)(f:Qo w w'):KX w' v xs:=by
 obtain⟨a,c,k,h⟩:=h;refine⟨a,c,k,fun i=>?_⟩;obtain⟨g,d,e,h⟩:=h i;exact⟨g,d,e,fun j b=>by rw[f.cell (p:=⟨g,d+j,none⟩) (QX (h j b))];exact h j b⟩
theorem KX.len(h:KX w v xs):∃a c,v=.slice a xs.length c:=by
 obtain⟨a,c,b,_⟩:=h;exact⟨a,c,b⟩
def VY(n:Nat)(xs:Qn):Prop:=xs.length<=n/\∀t∈xs,t.length<=n
def Ff(n:Nat)(hs:List (L8×L8)):Prop:=hs.length<=n/\∀h∈hs,h.1.length<=n/\h.2.length<=n
structure SmD (x:OpD):Prop where
 s:x.s.length<=65536
 fr:x.fr.length<=65536
 tt:x.tt.length<=65536
 hs:Ff 65536 x.hs
 cl:x.code.length<=65536
 cd:∀i∈x.code,VY 65536 i.as'∧VY 65536 i.bs
theorem Nr:type_of%@List.ne_nil_of_length_pos:=@List.ne_nil_of_length_pos
theorem Im(h:KX w v xs)(K:xs.length<=140737488355328)(d:∀t∈xs,t.length<=140737488355328):Calls prog 23 #[v] w fun e w'=>(∃n:Nat,e=.returned (Qa n)/\n<=300000000000000/\(n<=65536->VY n xs))/\Qo w w':=by
 have H:=O h;have z:=O d;obtain⟨a,c,rfl⟩:=h.len;clear h d;go_enter func23,ntmps23;go_wp2
 go_loopw [3,4] (fun G i wr=>∃(k n:Nat),k<=xs.length/\i=Qa k/\G=Qa n/\n<=300000000000000/\Qo w wr/\Hid (xs.length<=n/\∀t∈xs.take k,t.length<=n)) (fun _ i _=>xs.length-(intOf i).toNat)
 case atStart=>exact⟨0,xs.length,I,rfl,rfl,I,QO _ _,Q4 _,fun t ht=>nomatch ht⟩
 case round=>
  obtain⟨k,n,J,rfl,rfl,r,b,f⟩:=hrel;have M:=O b;clear b;by_cases hlt:k<xs.length
  .by_cases hnl:n<=65536
   .obtain⟨A,N,s,l⟩:=H.o;obtain⟨g,u,D,m⟩:=l (Nr I);have C:a=A:=by injection s
    subst C;subst D;have j:=m k hlt;have B:=QN M j (QX j)
    have F:=z xs[k] (ZT hlt);obtain⟨x,d⟩:=Qw (xs[k]);rw[d]at B F;have L:=Zc x
    have y:Hid (xs.length<=n+x.length/\∀t∈xs.take (k+1),t.length<=n+x.length):=by
     refine⟨by have:=f.1;omega,fun t ht=>?_⟩;rw[Y4 hlt]at ht;rcases Z6.1 ht with ht|ht
     .have:=f.2 t ht;omega
     .rw[ZV ht,d];omega
    have q:(k:Int)<(xs.length:Int):=I
    have E:(n:Int)<=65536:=I
    clear j m l s d;go_wp2;exact⟨⟨k+1,n+x.length,I,by go_num,by go_num,I,M,y⟩,by simp[intOf];omega⟩
   .have q:(k:Int)<(xs.length:Int):=I
    have E:¬(n:Int)<=65536:=I
    go_wp2;go_ret;exact⟨⟨n,rfl,r,fun e=>absurd e hnl⟩,M⟩
  .have q:¬(k:Int)<(xs.length:Int):=I
   go_wp2;go_ret;exact⟨⟨n,rfl,r,fun _=>⟨f.1,fun t ht=>f.2 t (by rw[Z7 I];exact ht)⟩⟩,M⟩
def Fh(fr tt:L8)(sz:Int)(hv:Value):Value:=.agg #[Qf fr,Qf tt,Qa sz,hv]
theorem Qu7{f j:L8}{sz:Int}{r:Value}{b:List (L8×L8)}(h:VX w r b)(V:f.length<=140737488355328)(W:j.length<=140737488355328)(X:b.length<=140737488355328)(y:∀h∈b,h.1.length<=140737488355328/\h.2.length<=140737488355328):Calls prog 22 #[Fh f j sz r] w fun e w'=>(∃n:Nat,e=.returned (Qa n)/\n<=300000000000000/\(n<=65536->f.length<=n/\j.length<=n/\Ff n b))/\Qo w w':=by
 have H:=O h;have H4:=O y;obtain⟨a,c,Q,_⟩:=h;subst Q;have z1:=Zc f;have z2:=Zc j;clear y;unfold Fh;obtain⟨m,q⟩:=Q3 (w.alloc (Qe #[Qf f,Qf j,Qa sz,.slice a b.length c] 28));have F:Hid (Qo w m):=by show Below _ _ _;rw[q];exact QH _
 have G:Hid (m.heap[w.heap.size]?=some (Qe #[Qf f,Qf j,Qa sz,.slice a b.length c] 28)):=by show _=_;rw[q];exact Q0
 have af:=O q;clear q;go_enter func22,ntmps22;go_wp2_with fail;rw[<-af.o]
 go_loopw [3,4] (fun R i wr=>∃(k n:Nat),k<=b.length/\i=Qa (k:Int)/\R=Qa (n:Int)/\n<=300000000000000/\Qo w wr/\wr.heap[w.heap.size]?=some (Qe #[Qf f,Qf j,Qa sz,.slice a b.length c] 28)/\Hid (f.length+j.length+k<=n/\∀h∈b.take k,h.1.length<=n/\h.2.length<=n)) (fun _ i _=>b.length-(intOf i).toNat)
 case atStart=>exact⟨0,f.length+j.length,QR,by go_num,(by first|rfl|congr 1),I,F,G,I,fun h hh=>nomatch hh⟩
 case round=>
  obtain⟨k,n,Y,rfl,rfl,E,d,t,l⟩:=hrel;have ad:=O d;have ae:=O t;have U:=Qj t 3;clear d t;by_cases hlt:k<b.length
  .have P:(k:Int)<(b.length:Int):=I
   by_cases hle:n<=65536
   .have N:(n:Int)<=65536:=I
    obtain⟨S,T,r,C⟩:=H.o;injection r with hv1 hv2 hv3
    subst hv1;obtain⟨g,s,M,B⟩:=C (Nr I);subst M;obtain⟨u,A⟩:=B k hlt;have D:=QX u;have K:=QN ad u D
    have L:=QN ad A D
    have z:=H4 _ (ZT hlt);obtain⟨x,v⟩:=Qw (b[k]);rw[v]at K L z;have ab:=Zc x.1;have ac:=Zc x.2;obtain⟨Z,aa⟩:=z
    have J:Hid (f.length+j.length+(k+1)<=n+1+x.1.length+x.2.length/\∀h∈b.take (k+1),h.1.length<=n+1+x.1.length+x.2.length/\h.2.length<=n+1+x.1.length+x.2.length):=by
     refine⟨by have:=l.1;omega,fun h hh=>?_⟩;rw[Y4 hlt]at hh;rcases Z6.1 hh with hh|hh
     .have:=l.2 h hh;omega
     .rw[ZV hh,v];omega
    clear u A v hv3 C B;go_wp2_with fail;go_quiet (fail)
    all_goals go_wp2
    go_roundw
    case rel=>exact⟨k+1,n+1+x.1.length+x.2.length,I,by go_num,by go_num,I,⟨ad.os,ad.tape,ad.output,ad.size,ad.o.block⟩,ae,J⟩
    case measure=>simp[intOf];omega
   .have N:¬(n:Int)<=65536:=I
    go_wp2;go_ret;exact⟨⟨n,rfl,E,fun e=>absurd e hle⟩,ad⟩
  .have P:¬(k:Int)<(b.length:Int):=I
   go_wp2;go_ret;exact⟨⟨n,rfl,E,fun _=>by have:=l.1;exact⟨I,I,I,fun h hh=>l.2 h (by rw[Z7 I];exact hh)⟩⟩,ad⟩
theorem VX.below{f:List (L8×L8)}(h:VX w v f)(e:Qo w w'):VX w' v f:=by
 obtain⟨a,c,l,h⟩:=h;refine⟨a,c,l,fun k=>?_⟩;obtain⟨g,d,i,h⟩:=h k;exact⟨g,d,i,fun j b=>⟨by rw[e.cell (p:=⟨g,d+j*2,none⟩) (QX (h j b).1)];exact(h j b).1,by rw[e.cell (p:=⟨g,d+j*2+1,none⟩) (QX (h j b).2)];exact(h j b).2⟩⟩
theorem Cm.below{w w':World}{g o:Nat}{x:Nq}(h:Cm w g o x)(b:Qo w w'):Cm w' g o x:=by
 obtain⟨c,d,e,f,i,k,l,m,n,q⟩:=h;have r:=QX c;have a:∀j,w'.cell? ⟨g,j,none⟩=w.cell? ⟨g,j,none⟩:=fun j=>b.cell (p:=⟨g,j,none⟩) r
 exact⟨by rw[a];exact c,by rw[a];exact d,by rw[a];exact e,by rw[a];exact f,by rw[a];exact i,by rw[a];exact k,by rw[a];exact l,m.below b,n.below b,q⟩
theorem GN.below{w w':World}{v:Value}{l:List Nq}(h:GN w v l)(d:Qo w w'):GN w' v l:=by
 obtain⟨a,c,i,h⟩:=h;refine⟨a,c,i,fun f=>?_⟩;obtain⟨g,k,b,h⟩:=h f;exact⟨g,k,b,fun j e=>(h j e).below d⟩
theorem A3.below{w w':World}{g o:Nat}{x:OpD}(h:A3 w g o x)(b:Qo w w'):A3 w' g o x:=by
 obtain⟨c,d,f,i,k,l,m,n,q,r,e⟩:=h;have s:=QX c;have a:∀j,w'.cell? ⟨g,j,none⟩=w.cell? ⟨g,j,none⟩:=fun j=>b.cell (p:=⟨g,j,none⟩) s
 exact⟨by rw[a];exact c,by rw[a];exact d,by rw[a];exact f,by rw[a];exact i,by rw[a];exact k,by rw[a];exact l,by rw[a];exact m,by rw[a];exact n,by rw[a];exact q,r.below b,e.below b⟩
theorem QsL{l:List OpD}(h:Gw w v l)(hs:∀x∈l,GL x)(hl:l.length<=140737488355328):Calls prog 15 #[v] w fun e w'=>(∃b:Bool,e=.returned (.bool b)/\(b=true->∀x∈l,SmD x))/\Qo w w':=by
 have H:=O h;have HS:=O hs;obtain⟨a,c,B,_⟩:=h;subst B;clear hs;go_enter func15,ntmps15;go_upto_block 0 with fail
 go_cut [3] (fun P wx=>∃n:Nat,P=Qa n/\n<=1000000000000000/\Qo w wx/\(n<=65536->∀x∈l,SmD x))
 case first=>
  go_wp2_with fail
  go_loopg [3,4,5,6,7,8,9] l.length (fun m P iv _ _ _ _ _ wr=>∃k n:Nat,m=l.length-k/\k<=l.length/\iv=Qa k/\P=Qa n/\n<=1000000000000000/\Qo w wr/\Hid (n<=65536->∀x∈l.take k,SmD x))
  case atStart=>exact⟨0,l.length,I,I,rfl,rfl,I,QO _ _,fun _ x C=>nomatch C⟩
  case round=>
   obtain⟨k,n,rfl,hk,rfl,rfl,hn,u,HT⟩:=hrel;have E:=O u;clear u;by_cases hlt:k<l.length
   .by_cases hnl:n<=65536
    .obtain⟨a',c',B,f⟩:=H.o;obtain⟨g,aM,ha,M⟩:=f (Nr I);have ea:a=a':=by injection B
     subst ea;subst ha;have D:=M k hlt;have r:=HS l[k] (ZT hlt);obtain⟨x,C⟩:=Qw (l[k]);rw[C]at D r
     have aE:Hid (∀d:Nat,n<=d->(d<=65536->SmD x)->d<=65536->∀z∈l.take (k+1),SmD z):=fun d U f h3 z hz=>by
      rw[Y4 hlt]at hz;rcases Z6.1 hz with hz|hz
      .exact HT I z hz
      .rw[ZV hz,C];exact f h3
     have ai:=O D;obtain⟨p0,p1,p2,p3,p4,p5,p6,p7,p8,hh,aF⟩:=D;have aG:=QX p0;have A:∀j,wr.cell? ⟨g,j,none⟩=w.cell? ⟨g,j,none⟩:=fun j=>E.o.cell (p:=⟨g,j,none⟩) aG
     have q0:=(A _).trans p0;have q1:=(A _).trans p1;have q2:=(A _).trans p2;have q3:=(A _).trans p3;have q4:=(A _).trans p4;have q5:=(A _).trans p5;have q6:=(A _).trans p6;have q7:=(A _).trans p7;have q8:=(A _).trans p8;have N:(k:Int)<(l.length:Int):=I
     have af:(n:Int)<=65536:=I
     have hz:=Zc x.s;have F:=O r;have aK:=r.s;have aJ:=r.cl;obtain⟨K,T,ad,_⟩:=aF;obtain⟨W,X,ae,_⟩:=hh;rw[ad]at q8;rw[ae]at q7;clear p0 p1 p2 p3 p4 p5 p6 p7 p8 A M f B C r;obtain⟨J,V⟩:=Q3 (wr.alloc (Qe #[Qa x.kind,Qa x.a,Qa x.b,Qf x.s,Qf x.fr,Qf x.tt,Qa x.sz,.slice W x.hs.length X,.slice K x.code.length T] 47));have aU:=O V;have Z:Hid (Qo w J):=by show Below _ _ _;rw[V];exact E.o.alloc E.size _
     have az:Hid (J.heap[wr.heap.size]?=some (Qe #[Qa x.kind,Qa x.a,Qa x.b,Qf x.s,Qf x.fr,Qf x.tt,Qa x.sz,.slice W x.hs.length X,.slice K x.code.length T] 47)):=by show _=_;rw[V];exact Q0
     have ay:Hid (VX w (.slice W x.hs.length X) x.hs):=by rw[<-ae];exact ai.2.2.2.2.2.2.2.2.2.1
     have ax:Hid (GN w (.slice K x.code.length T) x.code):=by rw[<-ad];exact ai.2.2.2.2.2.2.2.2.2.2
     clear V ae ad;go_wp2_with fail;rw[<-aU.o];refine(Qu7 (ay.o.below Z) F.o.fr F.tt F.hl F.hd).mono ?_;rintro e w2 ⟨⟨sn,rfl,aL,au⟩,aa⟩;have aT:=O au;clear au;have av:=O (Z.o.trans (aa.mono Z.size));have S:=O (Ze az aa);have r3:=Qj S 3;have r8:=Qj S 8;clear aa q0 q1 q2 q3 q4 q5 q6 q7 q8;obtain⟨ob,ar⟩:=Qw (wr.heap.size);rw[ar]at S r3 r8;go_upto_block 2 with fail
     clear ar;go_wp2_with fail
     go_loopg [3,7,8,9] x.code.length (fun m P jv _ _ wy=>∃j n_:Nat,m=x.code.length-j/\j<=x.code.length/\jv=Qa j/\P=Qa n_/\n_<=1000000000000000/\Qo w wy/\wy.heap[ob]?=some (Qe #[Qa x.kind,Qa x.a,Qa x.b,Qf x.s,Qf x.fr,Qf x.tt,Qa x.sz,.slice W x.hs.length X,.slice K x.code.length T] 47)/\Hid (n+x.s.length+x.code.length+sn<=n_/\(n_<=65536->∀i∈x.code.take j,VY 65536 i.as'/\VY 65536 i.bs)))
     case atStart=>exact⟨0,n+x.s.length+x.code.length+sn,I,I,rfl,by go_num,I,av,S,Q4 _,fun _ i hi=>nomatch hi⟩
     case round=>
      obtain⟨j,d,rfl,hj,rfl,rfl,aq,u,hN,G⟩:=hrel;have aO:=O u;have aS:=O hN;have s8:=Qj hN 8;clear u hN;by_cases hjl:j<x.code.length
      .by_cases hnl':d<=65536
       .obtain⟨a',c',B,f⟩:=ax.o;obtain⟨L,Q,ha,M⟩:=f (Nr I);have ea:K=a':=by injection B
        subst ea;subst ha;have D:=M j hjl;have r:=F.cd x.code[j] (ZT hjl);obtain⟨y,hy⟩:=Qw (x.code[j]);rw[hy]at D r
        have aD:Hid (∀Y:Nat,d<=Y->(Y<=65536->VY 65536 y.as'/\VY 65536 y.bs)->Y<=65536->∀i∈x.code.take (j+1),VY 65536 i.as'/\VY 65536 i.bs):=fun Y U f h3 z hz=>by
         rw[Y4 hjl]at hz;rcases Z6.1 hz with hz|hz
         .exact G.2 I z hz
         .rw[ZV hz,hy];exact f h3
        obtain⟨t0,t1,t2,t3,t4,t5,t6,t7,t8,_⟩:=D;have ap:=QX t0;obtain⟨va,vc,ag⟩:=t7.len;obtain⟨vb,vd,ah⟩:=t8.len;have m4:wr.cell? ⟨L,Q+j*7+4,none⟩=some (.slice va y.as'.length vc):=by rw[aO.o.cell (p:=⟨L,Q+j*7+4,none⟩) ap,<-ag];exact t4
        have aB:Hid (KX w (.slice va y.as'.length vc) y.as'):=by rw[<-ag];exact t7
        have aC:Hid (KX w (.slice vb y.bs.length vd) y.bs):=by rw[<-ah];exact t8
        have w5:w.cell? ⟨L,Q+j*7+5,none⟩=some (.slice vb y.bs.length vd):=by rw[<-ah];exact t5
        have aP:=O r;have N:(j:Int)<(x.code.length:Int):=I
        have af:(d:Int)<=65536:=I
        clear t0 t1 t2 t3 t4 t5 t6 t7 t8 ag ah M f B hy r;go_wp2_with fail;refine(Im (aB.o.below aO) aP.1.1 aP.1.2).mono ?_;rintro e w4 ⟨⟨an,rfl,aH,ak⟩,ab⟩;have aQ:=O ak;clear ak;have R:=O (aO.o.trans (ab.mono aO.size));have aj:=O (Ze aS ab);have aN:=Qj aj 8;have m5:=QN R w5 ap
        clear ab;go_wp2_with fail;refine(Im (aC.o.below R) aP.2.1 aP.2.2).mono ?_;rintro e w6 ⟨⟨bn,rfl,aI,ao⟩,ac⟩;have aR:=O ao;clear ao;have aw:=O (R.o.trans (ac.mono R.size));have aA:=O (Ze aj ac);clear ac;go_wp2;go_roundg (x.code.length-(j+1))
        case measure=>omega
        case rel=>exact⟨j+1,d+an+bn,rfl,I,by go_num,by go_num,I,aw,aA,by have:=G.1;omega,aD (d+an+bn) I (fun h=>by have U:=aQ I;have f:=aR I;exact⟨⟨by have:=U.1;omega,fun t ht=>by have:=U.2 t ht;omega⟩,⟨by have:=f.1;omega,fun t ht=>by have:=f.2 t ht;omega⟩⟩)⟩
       .have N:(j:Int)<(x.code.length:Int):=I
        have af:¬(d:Int)<=65536:=I
        go_wp2;go_roundg (l.length-(k+1))
        case measure=>omega
        case rel=>exact⟨k+1,d,rfl,I,by go_num,rfl,aq,aO,fun e=>absurd e hnl'⟩
      .have N:¬(j:Int)<(x.code.length:Int):=I
       go_wp2;go_roundg (l.length-(k+1))
       case measure=>omega
       case rel=>exact⟨k+1,d,rfl,I,by go_num,rfl,aq,aO,aE d (by have:=G.1;omega) (fun h=>by have h0:=G.1;obtain⟨s1,s2,s3⟩:=aT I;exact⟨I,I,I,⟨by have:=s3.1;omega,fun q hq=>by have:=s3.2 q hq;omega⟩,I,fun i hi=>G.2 h i (by rw[Z7 I];exact hi)⟩)⟩
    .have N:(k:Int)<(l.length:Int):=I
     have af:¬(n:Int)<=65536:=I
     go_wp2;go_meet;exact⟨n,rfl,hn,E,fun e=>absurd e hnl⟩
   .have N:¬(k:Int)<(l.length:Int):=I
    go_wp2;go_meet;exact⟨n,rfl,hn,E,fun e x C=>HT e x (by rw[Z7 I];exact C)⟩
 case rest=>
  obtain⟨n,rfl,hn,hb,hT⟩:=hcut;have HT:=O hT;clear hT;go_wp2;go_ret;exact⟨⟨_,rfl,fun e=>HT (by simp at e;omega)⟩,hb⟩
def pickL(c:Int)(n:Nat):Nat:=(if c<0 then(-(c+1)).toNat else c.toNat) % n
theorem Er(h:0<n):pickL c n<n:=Nat.mod_lt _ h
theorem DD(d:-9223372036854775808<=c)(f:c<=9223372036854775807)(g:0<n)(i:n<=4611686018427387904):Calls prog 31 #[Qa c,Qa n] w fun e w'=>e=.returned (Qa (pickL c n))/\w'=w:=by
 by_cases hc:c<0
 .obtain⟨m,b⟩:∃m:Nat,-(c+1)=(m:Int):=⟨(-(c+1)).toNat,I⟩;have a:pickL c n=m % n:=by unfold pickL;rw[Qi hc,b];rfl
  rw[a];clear a;go_enter func31,ntmps31;go_wp2;go_ret;exact⟨Qh,rfl⟩
 .obtain⟨m,rfl⟩:∃m:Nat,c=(m:Int):=⟨c.toNat,I⟩;have a:pickL (m:Int) n=m % n:=by unfold pickL;rw[Qg hc];rfl
  rw[a];clear a;go_enter func31,ntmps31;go_wp2;go_ret;exact⟨Qh,rfl⟩
def opV(x:OpD):Value:=.agg #[Qa x.kind,Qa x.a,Qa x.b,Qf x.s,Qf x.fr,Qf x.tt,Qa x.sz,x.hv,x.cv]
end
section
open Go.ChangeShapes Go.WideShapes Go.ChangeAt Go.WideMaps Go.WideElems Go.RowKit Go.Joins Go.Deep
theorem Tryz.cellsStrL:prog.cellsOf 9=1:=Qm
theorem Tryz.bytesStrL:prog.bytesOf 9=16:=Qm
theorem Tryz.cellsIntL:prog.cellsOf 3=1:=Qm
theorem Tryz.cellsBoolL:prog.cellsOf 4=1:=Qm
theorem Tryz.cellsStrsL:prog.cellsOf 61=1:=Qm
theorem Tryz.cellsHdrL:prog.cellsOf 50=2:=Qm
theorem Tryz.bytesHdrL:prog.bytesOf 50=32:=Qm
theorem Tryz.cellsHdrsL:prog.cellsOf 26=1:=Qm
theorem Tryz.cellsMsgL:prog.cellsOf 28=4:=Qm
theorem Tryz.cellsInsL:prog.cellsOf 63=7:=Qm
theorem Tryz.bytesInsL:prog.bytesOf 63=88:=Qm
theorem Tryz.cellsInssL:prog.cellsOf 45=1:=Qm
theorem Tryz.cellsOpL:prog.cellsOf 47=9:=Qm
theorem Tryz.bytesOpL:prog.bytesOf 47=128:=Qm
theorem BE:reachBytes=140737488351232:=rfl
theorem Fm{H:Type}{P:Program}{e:TypeId}:∀ {l:List (DataW H)} {d:DataW H},d∈l->∀n∈d.weights P e,n∈DataW.weightsAll P e l
 |d'::r,d,hd,n,hn=>by
  simp only[DataW.weightsAll,Z6];rcases XW.1 hd with rfl|h
  .exact Qt hn
  .exact Qr (Fm h n hn)
theorem NH{s:ByteArray}:sA s.data.toList=s:=by
 cases s;rfl
theorem BT{E:Bool}{α:Type}{t e:TypeId}{sz s:Nat}(w:prog.underlying t=some (.slice e))(Y:prog.cellsOf e=sz)(L:prog.bytesOf e=s)(V:0<sz)(Q:α->List Value->Prop)(q:α->Prop)
 (hel0:∀n' cs y',DataW.trod enc prog W 0 (fun _=>true) E n' e cs=some y'->(∀k∈y'.1.weights prog e,k<=reachBytes)->∃x:α,Q x cs/\q x)
 (h:DataW.trod enc prog W 0 (fun _=>true) E n t [v]=some y) (hw:∀k∈y.1.weights prog t,k<=reachBytes) :
 ∃l:List α,N3 v/\(∃a c,v=.slice a l.length c/\(l≠[]->∃g off,a=some ⟨g,off,none⟩/\∀j (A:j<l.length),∃cs,Q l[j] cs/\∀i,i<sz->W.cell? ⟨g,off+j*sz+i,none⟩=cs[i]?))/\(∀x∈l,q x)/\l.length*s<=reachBytes:=by
 rcases open_slice w h with⟨d,o⟩ | ⟨a,len0,G,m,nn,D,Pl,d,_,P,hm,U,o,C⟩
 .injection d with d
  subst d;exact⟨[],⟨fun p n c e=>(by injection e with _ e1 e2;rw[<-e1,<-e2];exact QF),fun c e=>(by injection e with _ _ e;exact e.symm)⟩,⟨none,0,rfl,fun h=>absurd rfl h⟩,fun x o=>(nomatch o),Qh⟩
 .injection d with d
  subst d;have T:m=G:=by rw[U];rfl
  subst T;rw[Y]at C;have hwy:∀k∈DataW.weights prog t (.slice ((List.range len0).map D) ((List.range (m-len0)).map fun j=>D (len0+j))),k<=reachBytes:=fun k hk=>hw k (by rw[o];exact hk)
  have R:(len0+(m-len0))*s<=reachBytes:=hwy _ (by simp[DataW.weights,w,L]);have S:len0*s<=reachBytes:=QE (Nat.mul_le_mul_right _ I) R
  have hex:∀i,i<len0->∃x:α,q x/\∃cs,Q x cs/\∀j,j<sz->W.cell? ((a.add (i*sz)).add j)=cs[j]?/\∃u,cs[j]?=some u:=fun i hi=>by
   obtain⟨J,r,ht⟩:=C i I;have hmem:D i∈(List.range len0).map D:=List.mem_map.2 ⟨i,List.mem_range.2 hi,rfl⟩
   obtain ⟨x,hq,hsm⟩:=hel0 _ _ _ ht (fun k hk=>hwy k (by
    simp only[DataW.weights,w,XW,Z6]
    exact Qr (Qt (Fm hmem k hk))))
   obtain⟨ab,_,M⟩:=World.cells?_some r;refine⟨x,hsm,J,hq,fun j A=>⟨M j I,?_⟩⟩;exact⟨_,Zi I⟩
  by_cases h0:len0=0
  .subst h0;exact⟨[],⟨fun p n c e=>(by injection e with _ e1 e2;rw[<-e1];exact QR),fun c e=>(by cases e)⟩,⟨some a,m,rfl,fun h=>absurd rfl h⟩,fun x o=>(nomatch o),Qh⟩
  have F:0<len0:=Nat.pos_of_ne_zero h0;have⟨x0,_⟩:=hex 0 F
  obtain⟨f,z⟩:∃f:Nat->α,∀i,i<len0->q (f i)/\∃cs,Q (f i) cs/\∀j,j<sz->W.cell? ((a.add (i*sz)).add j)=cs[j]?/\∃u,cs[j]?=some u:=
   ⟨fun i=>if hi:i < len0 then (hex i hi).choose else x0,fun i hi=>by
    show q (dite _ _ _)/\∃cs,Q (dite _ _ _) cs/\_
    rw[dif_pos hi]
    exact (hex i hi).choose_spec⟩
  obtain⟨b,off,aa⟩:=a
  have X:aa=none:=by
   obtain⟨_,cs,_,r⟩:=z 0 F;obtain⟨B,u,K⟩:=r 0 V;rw[K]at B;have:=World.cell?_spot B;simpa[Addr.add]using this
  subst X;refine⟨(List.range len0).map f,⟨fun p n c e=>(by injection e with _ e1 e2;rw[<-e1,<-e2];exact P),fun c e=>(by cases e)⟩,⟨some ⟨b,off,none⟩,m,Qh,fun _=>⟨b,off,rfl,fun j A=>?_⟩⟩,fun x Z=>?_,by simpa using S⟩
  .have N:j<len0:=by simpa using A
   obtain⟨_,cs,hq,r⟩:=z j N;refine⟨cs,by simpa using hq,fun i hi=>?_⟩;have:=(r i hi).1;rw[Addr.add_lit,Addr.add_lit]at this;exact this
  .obtain⟨i,hi,rfl⟩:=List.mem_map.1 Z;exact(z i (List.mem_range.1 hi)).1
theorem LJ{o:Bool}(h:DataW.trod enc prog W 0 (fun _=>true) o n 61 [v]=some y)(hw:∀k∈y.1.weights prog 61,k<=reachBytes) :
 ∃xs:Qn,N3 v/\KX W v xs/\xs.length<=140737488355328/\∀t∈xs,t.length<=140737488355328:=by
 have u:=BE
 obtain ⟨l,hrm,⟨a,c,hv,hc⟩,hs,hl⟩:=BT (α:=L8) (t:=61) (e:=9) (sz:=1) (s:=16) underlying61 Tryz.cellsStrL Tryz.bytesStrL (by decide) (fun x cs=>cs=[.string (sA x)]) (fun x=>x.length<=140737488355328) (fun n' cs y' ht hwt=>by
  obtain⟨b,e,f,_⟩:=DataW.trod_string Z2 ht;have r:y'.1.weights prog 9=[b.data.toList.length]:=by rw[f];simp[DataW.weights]
  rw[r]at hwt;have:=hwt _ (List.mem_singleton.2 rfl)
  exact ⟨b.data.toList,by rw [NH];exact e,by omega⟩) h hw
 refine⟨l,hrm,⟨a,c,hv,fun q=>?_⟩,by omega,hs⟩;obtain⟨g,s,i,m⟩:=hc q;refine⟨g,s,i,fun j p=>?_⟩;obtain⟨cs,rfl,d⟩:=m j p;have:=d 0 (by decide);rw[Nat.mul_one,Nat.add_zero]at this;exact this
theorem W0{z:Bool}(h:DataW.trod enc prog W 0 (fun _=>true) z n 26 [v]=some y)(hw:∀k∈y.1.weights prog 26,k<=reachBytes) :
 ∃hs:List (L8×L8),VX W v hs/\hs.length<=140737488355328/\∀t∈hs,t.1.length<=140737488355328/\t.2.length<=140737488355328:=by
 have F:=BE
 obtain ⟨l,_,⟨a,c,hv,hc⟩,hs,hl⟩:=BT (α:=L8×L8) (t:=26) (e:=50) (sz:=2) (s:=32) underlying26 Tryz.cellsHdrL Tryz.bytesHdrL (by decide) (fun x cs=>cs=[.string (sA x.1),.string (sA x.2)]) (fun x=>x.1.length<=140737488355328∧x.2.length<=140737488355328) (fun n' cs y' ht hwt=>by
  obtain⟨K,L,m,D,hl,s,e⟩:=trod_struct2 underlying50 ht;rw[Tryz.cellsHdrL]at hl
  obtain⟨b,d,rfl⟩:∃b d,cs=[b,d]:=by
   match cs,hl with
   | [b,d],_=>exact⟨b,d,rfl⟩
  obtain⟨b0,o,q,_⟩:=DataW.trod_string Z2 s;obtain⟨b1,p,r,_⟩:=DataW.trod_string Z2 e;rw[Tryz.cellsStrL]at o p;have f:=o;have i:=p;injection f with f
  injection i with i
  subst f i q r;have C:y'.1.weights prog 50=[b0.data.toList.length,b1.data.toList.length]:=by rw[D];simp[DataW.weights,DataW.weightsEach,underlying50]
  rw[C]at hwt;have G:=hwt b0.data.toList.length (by simp);have J:=hwt b1.data.toList.length (by simp)
  exact ⟨(b0.data.toList,b1.data.toList),by dsimp only;rw [NH,NH],by dsimp only;omega,by dsimp only;omega⟩) h hw
 refine⟨l,⟨a,c,hv,fun B=>?_⟩,by omega,hs⟩;obtain⟨g,E,u,w⟩:=hc B;refine⟨g,E,u,fun j A=>?_⟩;obtain⟨cs,rfl,e⟩:=w j A;exact⟨e 0 (by decide),e 1 (by decide)⟩
def E'(i:Nq):Prop:=(i.as'.length<=140737488355328/\∀t∈i.as',t.length<=140737488355328)/\(i.bs.length<=140737488355328/\∀t∈i.bs,t.length<=140737488355328)/\-9223372036854775808<=i.n/\i.n<=9223372036854775807
theorem K8:type_of%@Go.Proofs.Tryz.underlying3:=@Go.Proofs.Tryz.underlying3
theorem QsX{Z:Bool}(h:DataW.trod enc prog W 0 (fun _=>true) Z n 45 [v]=some y)(hw:∀k∈y.1.weights prog 45,k<=reachBytes) :
 ∃l:List Nq,GN W v l/\l.length<=140737488355328/\∀i∈l,E' i:=by
 have hr:=BE
 obtain ⟨l,_,⟨a,c,hv,hc⟩,hs,hl⟩:=BT (α:=Nq) underlying45 Tryz.cellsInsL Tryz.bytesInsL Qb (fun x cs=>cs=[Qa x.op,Qa x.n,Qa x.tag,.bool x.oct,x.av,x.bv,Qa x.pos]∧KX W x.av x.as'∧KX W x.bv x.bs∧N3 x.av∧N3 x.bv) E' (fun n' cs y' ht hwt=>by
  obtain⟨Q,m,_,hx,hl,aa,d⟩:=DataW.trod_struct underlying63 ht;rw[Tryz.cellsInsL]at hl
  obtain⟨o,p,q,r,c4,c5,s,rfl⟩:∃o p q r c4 c5 s,cs=[o,p,q,r,c4,c5,s]:=by
   match cs,hl with
   | [o,p,q,r,c4,c5,s],_=>exact⟨o,p,q,r,c4,c5,s,rfl⟩
  obtain⟨w,z,A,B,e,f,C,rfl⟩:∃w z A B e f C,Q=[w,z,A,B,e,f,C]:=by
   match Q,aa with
   | [w,z,A,B,e,f,C],_=>exact⟨w,z,A,B,e,f,C,rfl⟩
  have L:=d 0 _ rfl;have t:=d 1 _ rfl;have u:=d 2 _ rfl;have b:=d 3 _ rfl;have M:=d 4 _ rfl;have N:=d 5 _ rfl;have P:=d 6 _ rfl;simp only[Tryz.cellsStrsL,Tryz.cellsIntL,Tryz.cellsBoolL,List.drop,List.take,List.getElem?_cons_zero,Y5]at L t u b M N P;obtain⟨i0,D,R,_⟩:=DataW.trod_int K8 L;obtain⟨i1,E,S,ae⟩:=DataW.trod_int K8 t;obtain⟨i2,F,T,af⟩:=DataW.trod_int K8 u;obtain⟨b3,G,U⟩:=DataW.trod_bool underlying4 b;obtain⟨i6,J,V,_⟩:=DataW.trod_int K8 P;injection D with D
  injection E with E
  injection F with F
  injection G with G
  injection J with J
  subst D E F G J R S T U V
  have ac:y'.1.weights prog 63=e.1.weights prog 61++f.1.weights prog 61:=by
   rw[hx];simp[DataW.weights,DataW.weightsEach,underlying63]
  rw[ac]at hwt;obtain⟨as',hrm,ha,ha1,ha2⟩:=LJ M (fun k K=>hwt k (List.mem_append_left _ K));simp only[Lit.wf,Jl,N9]at ae;have m1:IntKind.i64.min = -9223372036854775808:=rfl;have m2:IntKind.i64.max=9223372036854775807:=rfl;obtain⟨bs,hrm2,hb,hb1,hb2⟩:=LJ N (fun k K=>hwt k (List.mem_append_right _ K))
  exact ⟨⟨i0,i1,i2,b3,c4,c5,as',bs,i6⟩,⟨rfl,ha,hb,hrm,hrm2⟩,⟨ha1,ha2⟩,⟨hb1,hb2⟩,by show _<=i1;omega,by show i1<=_;omega⟩) h hw
 refine⟨l,⟨a,c,hv,fun ab=>?_⟩,I,hs⟩;obtain⟨g,ad,ha,Y⟩:=hc ab;refine⟨g,ad,ha,fun j hj=>?_⟩;obtain⟨cs,⟨rfl,t,u,X⟩,b⟩:=Y j hj;exact⟨b 0 Qb,b 1 Qb,b 2 Qb,b 3 Qb,b 4 Qb,b 5 Qb,b 6 Qb,t,u,X⟩
theorem Qvy{r:Reach}{b0:Nat}{d:DataW H}{p:List MemPlace}(hv:Value.okWide prog W r b0 22 v)(h:DataW.Trod enc prog W 0 (fun _=>true) true 22 v d p)(hw:∀k∈d.weights prog 22,k<=reachBytes) :
 ∃l:List OpD,Gw W v l/\(∀x∈l,GL x)/\l.length*128<=140737488351232:=by
 have hr:=BE;obtain⟨aq,ac⟩:=h;obtain⟨a0,au,ap,ag⟩:∃a n c,v=.slice a n c:=okWide_slice underlying22 hv;subst ag;have hf':=ac
 obtain ⟨l,_,⟨a,c,hv1,hc⟩,hs,hl⟩:=BT (α:=OpD) (t:=22) (e:=47) (sz:=9) (s:=128) underlying22 Tryz.cellsOpL Tryz.bytesOpL (by decide) (fun x cs=>cs=[.int .i64 x.kind,.int .i64 x.a,.int .i64 x.b,.string (sA x.s),.string (sA x.fr),.string (sA x.tt),.int .i64 x.sz,x.hv,x.cv]∧VX W x.hv x.hs∧GN W x.cv x.code) GL (fun n' cs y' ht hwt=>by
  obtain⟨xs,m,_,hx,hl,ad,f⟩:=DataW.trod_struct underlying47 ht;rw[Tryz.cellsOpL]at hl
  obtain⟨y,z,A,B,C,D,E,q,t,rfl⟩:∃y z A B C D E q t,cs=[y,z,A,B,C,D,E,q,t]:=by
   match cs,hl with
   | [y,z,A,B,C,D,E,q,t],_=>exact⟨y,z,A,B,C,D,E,q,t,rfl⟩
  obtain⟨K,L,M,N,u,w,rfl⟩:∃K L M N u w,xs=[K,L,M,N,u,w]:=by
   match xs,ad with
   | [K,L,M,N,u,w],_=>exact⟨K,L,M,N,u,w,rfl⟩
  have h0:=f 0 _ rfl;have F:=f 1 _ rfl;have G:=f 2 _ rfl;have e:=f 3 _ rfl;have h4:=f 4 _ rfl;have h5:=f 5 _ rfl;simp only[Tryz.cellsStrL,Tryz.cellsIntL,Tryz.cellsMsgL,Tryz.cellsInssL,List.drop,List.take,List.getElem?_cons_zero,Y5]at h0 F G e h4 h5;obtain⟨i0,S,f0,_⟩:=DataW.trod_int K8 h0;obtain⟨i1,T,f1,w1⟩:=DataW.trod_int K8 F;obtain⟨i2,U,f2,ao⟩:=DataW.trod_int K8 G;obtain⟨b3,V,f3,_⟩:=DataW.trod_string Z2 e;obtain⟨zs,m4,_,aj,ar,ae,J⟩:=DataW.trod_struct underlying28 h4
  obtain⟨P,Q,R,o,rfl⟩:∃P Q R o,zs=[P,Q,R,o]:=by
   match zs,ae with
   | [P,Q,R,o],_=>exact⟨P,Q,R,o,rfl⟩
  have g0:=J 0 _ rfl;have g1:=J 1 _ rfl;have g2:=J 2 _ rfl;have g3:=J 3 _ rfl;simp only[Tryz.cellsStrL,Tryz.cellsIntL,Tryz.cellsHdrsL,List.drop,List.take,List.getElem?_cons_zero,Y5]at g0 g1 g2 g3;obtain⟨b4,X,f4,_⟩:=DataW.trod_string Z2 g0;obtain⟨b5,Y,f5,_⟩:=DataW.trod_string Z2 g1;obtain⟨i6,Z,f6,_⟩:=DataW.trod_int K8 g2;injection S with S
  injection T with T
  injection U with U
  injection V with V
  injection X with X
  injection Y with Y
  injection Z with Z
  subst S T U V X Y Z f0 f1 f2 f3 f4 f5 f6
  have ai:u.1.weights prog 28=[b4.data.toList.length,b5.data.toList.length]++o.1.weights prog 26:=by
   rw[aj];simp[DataW.weights,DataW.weightsEach,underlying28]
  have ah:y'.1.weights prog 47=[b3.data.toList.length]++(([b4.data.toList.length,b5.data.toList.length]++o.1.weights prog 26)++w.1.weights prog 45):=by
   rw[hx,<-ai];simp[DataW.weights,DataW.weightsEach,underlying47]
  rw[ah]at hwt;have k3:=hwt b3.data.toList.length (by simp);have k4:=hwt b4.data.toList.length (by simp);have k5:=hwt b5.data.toList.length (by simp);obtain⟨hs,hh,hh1,hh2⟩:=W0 g3 (fun k hk=>hwt k (by simp only[Z6];exact Qr (Qt (Qr hk))));obtain⟨cd,aa,hcd1,hcd2⟩:=QsX h5 (fun k hk=>hwt k (by simp only[Z6];exact Qr (Qr hk)));simp only[Lit.wf,Jl,N9]at w1 ao;have m1:IntKind.i64.min = -9223372036854775808:=rfl;have m2:IntKind.i64.max=9223372036854775807:=rfl;refine⟨⟨i0,i1,i2,b3.data.toList,b4.data.toList,b5.data.toList,i6,q,hs,t,cd⟩,⟨?_,hh,aa⟩,?_⟩
  .dsimp only;rw[NH,NH,NH]
  .exact ⟨by show _<=i1∧i1<=_;omega,by show _<=i2∧i2<=_;omega,by show b3.data.toList.length<=_;omega,by show b4.data.toList.length<=_;omega,by show b5.data.toList.length<=_;omega,hh1,hh2,hcd1,(fun i hi=>⟨(hcd2 i hi).1,(hcd2 i hi).2.1⟩),fun i hi=>(hcd2 i hi).2.2⟩) hf' hw
 refine⟨l,⟨a,c,hv1,fun af=>?_⟩,hs,by omega⟩;obtain⟨g,ak,ha,ab⟩:=hc af;refine⟨g,ak,ha,fun j hj=>?_⟩;obtain⟨cs,⟨rfl,F,G⟩,e⟩:=ab j hj;exact⟨e 0 (by decide),e 1 (by decide),e 2 (by decide),e 3 (by decide),e 4 (by decide),e 5 (by decide),e 6 (by decide),e 7 (by decide),e 8 (by decide),F,G⟩
end
end Go.Proofs.YtgnkjijocdmniaaGreatDoor
