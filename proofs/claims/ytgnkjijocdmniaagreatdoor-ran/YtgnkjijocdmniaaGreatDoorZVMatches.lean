import Derived.Test.YtgnkjijocdmniaaGreatDoorZSTexts
import Derived.Test.YtgnkjijocdmniaaGreatDoorVGlob
namespace Go.Proofs.YtgnkjijocdmniaaGreatDoor
set_option linter.all false
set_option maxRecDepth 100000
set_option maxHeartbeats 4000000
open Go.Proofs.Tryz
open Go.RowKit
variable{A en g kp:Bool}{B b base f i n o q sb size:Nat}{M:Msg}{X Y k y:L8}{e t:TypeId}{er pz tag:Int}{s:SS}{v x:Value}{w w':World}{xs:List Value}{zs:Qn}
theorem B6{v:L8}:k.isPrefixOf v=decide (v.take k.length=k):=by
 rw[Xb,N_,decide_eq_true_iff,List.prefix_iff_eq_take];exact⟨fun h=>h.symm,fun h=>h.symm⟩
theorem I2(k:L8):∀v:L8,v.length<k.length->X5 k v=false
 | [],h=>by
  rw[X5,B6,QB];intro e;have:=ZI List.length e;simp at this;simp[this]at h
 |c::v,h=>by
  have a:v.length<k.length:=by simp at h;omega
  rw[X5,I2 k v a,Bool.or_false,B6,QB];intro e;have:=ZI List.length e;rw[YT]at this;omega
theorem Mf{v:L8}(h:i+k.length<=v.length):X5 k (v.drop i)=(decide ((v.drop i).take k.length=k) || (decide (i<v.length)&&X5 k (v.drop (i+1)))):=by
 by_cases hi:i<v.length
 .rw[QU hi,KE,<-B6,Xt hi,X5]
 .rw[QB hi,Bool.false_and,Bool.or_false,<-B6,ZE I,X5]
section
attribute [local go_sem ↓] Zt Zu
theorem T5{x:L8}(oct:Bool)(w:World)(l:x.length<=100000)(m:y.length<=100000):Calls prog 116 #[Qf x,Qf y,Qa 1,.bool oct] w fun e w'=>e=.returned (.tuple #[Qp,.bool (wayB 1 oct x y)])/\Qo w w':=by
 have g:=O (fun u=>J6 (x:=x) u I);have i:=O (fun u=>J6 (x:=y) u I);have c:Hid (wayB 1 oct x y=decide (lookL oct x=lookL oct y)):=by show _=_;unfold wayB;rw[Qi rfl]
 cases oct with
 |true=>
  have j:((sA x).toList==(sA y).toList)=decide (x=y):=U3;have a:Hid (wayB 1 true x y=decide (x=y)):=c.o;go_enter func116,ntmps116;go_wp2;refine Q_ (v:=.tuple #[Qp,.bool (decide (x=y))]) (by simp[results,results116,go_sem]) rfl ?_;exact⟨by rw[a.o],QO _ _⟩
 |false=>
  have j:((sA (zL x)).toList==(sA (zL y)).toList)=decide (zL x=zL y):=U3;have a:Hid (wayB 1 false x y=decide (zL x=zL y)):=c.o;go_enter func116,ntmps116;go_wp2_with fail;refine Qv (g _) ?_;rintro n b;have k:=b.size;change Qd _ at b;go_wp2_with fail;refine Qv (i _) ?_;rintro p d;have f:=O (b.o.trans (d.mono k));clear d;go_wp2;refine Q_ (v:=.tuple #[Qp,.bool (decide (zL x=zL y))]) (by simp[results,results116,go_sem]) rfl ?_;exact⟨by rw[a.o],f⟩
theorem OC(h:i+Y.length<=X.length)(a:¬(X.drop i).take Y.length=Y)(he:X5 Y X=(decide (i<=X.length)&&X5 Y (X.drop i))):X5 Y X=(decide (i+1<=X.length)&&X5 Y (X.drop (i+1))):=by
 rw[he,QU I,KE,Mf h,QB a,Bool.false_or];rfl
theorem MU(h:i+Y.length<=X.length)(a:(X.drop i).take Y.length=Y)(he:X5 Y X=(decide (i<=X.length)&&X5 Y (X.drop i))):X5 Y X=true:=by
 rw[he,QU I,KE,Mf h,QU a,Bool.true_or]
theorem ML(h:¬i+Y.length<=X.length)(he:X5 Y X=(decide (i<=X.length)&&X5 Y (X.drop i))):X5 Y X=false:=by
 rw[he];by_cases hi:i<=X.length
 .rw[I2 Y _ (by rw[Xq];omega),Bool.and_false]
 .rw[QB hi,Bool.false_and]
theorem Tw{x:L8}(oct:Bool)(w:World)(D:x.length<=100000)(E:y.length<=100000):Calls prog 116 #[Qf x,Qf y,Qa 2,.bool oct] w fun e w'=>e=.returned (.tuple #[Qp,.bool (wayB 2 oct x y)])/\Qo w w':=by
 have p:=O (fun u=>J6 (x:=x) u I);have q:=O (fun u=>J6 (x:=y) u I);have g:Hid (wayB 2 oct x y=X5 (lookL oct y) (lookL oct x)):=by show _=_;unfold wayB;rw[Qg Qb,Qi rfl]
 have A:(lookL oct x).length<=100000:=by unfold lookL;cases oct<;>simp[zL]<;>omega
 have B:(lookL oct y).length<=100000:=by unfold lookL;cases oct<;>simp[zL]<;>omega
 have c:∃X,lookL oct x=X:=⟨_,rfl⟩;have d:∃Y,lookL oct y=Y:=⟨_,rfl⟩;obtain⟨X,c⟩:=c;obtain⟨Y,d⟩:=d;rw[c]at g A;rw[d]at g B;have F:=Zc X;have G:=Zc Y;cases oct
 .have k:zL x=X:=c;have l:zL y=Y:=d;rw[k]at p;rw[l]at q;clear c d k l;go_enter func116,ntmps116;go_wp2_with fail;refine Qv (p _) ?_;rintro H m;have C:=m.size;change Qd _ at m;go_wp2_with fail;refine Qv (q _) ?_;rintro J r;have s:=O (m.o.trans (r.mono C));clear r;go_wp2
  go_loopw [12] (fun f wr=>∃(i:Nat),i<=200000/\f=Qa i/\X5 Y X=(decide (i<=X.length)&&X5 Y (X.drop i))/\Qo w wr) (fun f _=>X.length+1-(intOf f).toNat)
  case atStart=>exact⟨0,QR,rfl,by rw[QU QR,KE,Jm],s⟩
  case round=>
   obtain⟨i,z,rfl,he,b⟩:=hrel;change Qd _ at he b;by_cases hle:i+Y.length<=X.length
   .have n:(i:Int)+(Y.length:Int)<=(X.length:Int):=I
    have t:(sA X).extract i (i+Y.length)=sA ((X.drop i).take Y.length):=by rw[UC,Nat.add_sub_cancel_left]
    have j:((sA ((X.drop i).take Y.length)).toList==(sA Y).toList)=decide ((X.drop i).take Y.length=Y):=U3;by_cases hc:(X.drop i).take Y.length=Y
    .rw[QU hc]at j;have a:=O (MU hle hc he);clear hc;generalize (X.drop i).take Y.length=Z at *;go_wp2;refine Q_ (v:=.tuple #[Qp,.bool true]) (by simp[results,results116,go_sem]) rfl ?_;exact⟨by rw[g.o,a.o],b⟩
    .rw[QB hc]at j;have a:=O (OC hle hc he);clear hc;generalize (X.drop i).take Y.length=Z at *;go_wp2;exact⟨⟨i+1,I,by go_num,a,b⟩,by simp[intOf];omega⟩
   .have n:¬(i:Int)+(Y.length:Int)<=(X.length:Int):=I
    have a:=O (ML hle he);go_wp2;refine Q_ (v:=.tuple #[Qp,.bool false]) (by simp[results,results116,go_sem]) rfl ?_;exact⟨by rw[g.o,a.o],b⟩
 .have k:x=X:=c;have l:y=Y:=d;subst k;subst l;clear c d;go_enter func116,ntmps116;go_wp2
  go_loopw [12] (fun f wr=>∃(i:Nat),i<=200000/\f=Qa i/\X5 y x=(decide (i<=x.length)&&X5 y (x.drop i))/\Qo w wr) (fun f _=>x.length+1-(intOf f).toNat)
  case atStart=>exact⟨0,QR,rfl,by rw[QU QR,KE,Jm],QO _ _⟩
  case round=>
   obtain⟨i,z,rfl,he,b⟩:=hrel;change Qd _ at he b;by_cases hle:i+y.length<=x.length
   .have n:(i:Int)+(y.length:Int)<=(x.length:Int):=I
    have t:(sA x).extract i (i+y.length)=sA ((x.drop i).take y.length):=by rw[UC,Nat.add_sub_cancel_left]
    have j:((sA ((x.drop i).take y.length)).toList==(sA y).toList)=decide ((x.drop i).take y.length=y):=U3;by_cases hc:(x.drop i).take y.length=y
    .rw[QU hc]at j;have a:=O (MU hle hc he);clear hc;generalize (x.drop i).take y.length=Z at *;go_wp2;refine Q_ (v:=.tuple #[Qp,.bool true]) (by simp[results,results116,go_sem]) rfl ?_;exact⟨by rw[g.o,a.o],b⟩
    .rw[QB hc]at j;have a:=O (OC hle hc he);clear hc;generalize (x.drop i).take y.length=Z at *;go_wp2;exact⟨⟨i+1,I,by go_num,a,b⟩,by simp[intOf];omega⟩
   .have n:¬(i:Int)+(y.length:Int)<=(x.length:Int):=I
    have a:=O (ML hle he);go_wp2;refine Q_ (v:=.tuple #[Qp,.bool false]) (by simp[results,results116,go_sem]) rfl ?_;exact⟨by rw[g.o,a.o],b⟩
def GM(w:World)(B:Nat)(cv:Value)(zs:Qn):Prop:=∃g c,cv=Qs g zs.length c/\B<=g/\(∃cs,w.heap[g]?=some (Qe cs 9))/\∀j (hj:j<zs.length),w.cell? ⟨g,j,none⟩=some (.string (sA zs[j]))
def Gr(zs:Qn):Qn:=zs.take 10
theorem Kw.below{g:Nat}{R:Nat->Nat}{m:Nat}{F:Nat->Nat->Bool}(h:Kw w B g R n m F)(a:Qo w w'):Kw w' B g R n m F:=
 ⟨h.hg,fun j hj=>by rw[a.cell (p:=⟨g,j,none⟩) (QX (h.o j hj))];exact h.o j hj,fun j hj=>(h.row j hj).of_block (a.block _ (h.row j hj).lt),h.bel,h.inj⟩
theorem GM.of_owns{acc:Qn}(h:w.ownsRow B 9 1 v acc.length (QW acc))(m:0<acc.length):∃g c,v=Qs g acc.length c/\acc.length<=c/\B<=g/\(∃cs,w.heap[g]?=some (Qe cs 9))/\∀j (a:j<acc.length),w.cell? ⟨g,j,none⟩=some (.string (sA acc[j])):=by
 have d:=h;rcases h.2 with⟨_,l⟩ | ⟨g,c,b,k,f,i,e,_⟩
 .omega
 .subst k;refine⟨g,c,rfl,e,f,⟨b,i⟩,fun j a=>?_⟩;have:=d.cells (g:=g) rfl j (.string (sA acc[j])) (by simp[QW,Zi a]);rw[J8]at this;exact this
theorem Wo{x:L8}(oct:Bool)(w:World)(hx:x.length<=100000)(hy:y.length<=100000):Calls prog 116 #[.string (sA x),.string (sA y),.int .i64 3,.bool oct] w fun e w'=>∃cv,e=.returned (.tuple #[cv,.bool (wayB 3 oct x y)])/\Below w.heap.size w w'/\(wayB 3 oct x y=true->GM w' w.heap.size cv (Gr (x::Xh (lookL oct y) x (lookL oct x)))):=by
 have aj:=O (fun u=>J6 (x:=x) u (by omega));have ak:=O (fun u=>J6 (x:=y) u (by omega));have L:Hid (wayB 3 oct x y=globL (lookL oct y) (lookL oct x)):=by show _=_;unfold wayB;rw[Qg (by decide),Qg (by decide)];rfl
 have C:(lookL oct x).length=x.length:=by unfold lookL;cases oct<;>simp[zL]
 have G:(lookL oct y).length=y.length:=by unfold lookL;cases oct<;>simp[zL]
 have J:∃X,lookL oct x=X:=⟨_,rfl⟩;have K:∃Y,lookL oct y=Y:=⟨_,rfl⟩;obtain⟨X,J⟩:=J;obtain⟨Y,K⟩:=K;rw[J]at L C;rw[K]at L G;rw[J,K];have a5:=O J;have a6:=O K;clear J K;obtain⟨n,hn⟩:=Qw (x.length);obtain⟨m,hm⟩:=Qw (y.length);rw[hn]at hx C;rw[hm]at hy G;have a2:(sA x).size=n:=hn;have a0:(sA X).size=n:=C;have a1:(sA Y).size=m:=G;have HN:=O C;have HM:=O G;clear hn hm C G;obtain⟨i0,hi,aH,aI,aJ⟩:=ZU Tryz.infoStr;go_enter func116,ntmps116;go_upto_if 21 with fail
 go_cut [10,11] (fun av bv wx=>av=.string (sA X)/\bv=.string (sA Y)/\Below w.heap.size w wx)
 case first=>
  cases oct with
  |true=>
   have e1:x=X:=a5.o;have e2:y=Y:=a6.o;subst e1;subst e2;go_wp2;go_meet;exact⟨rfl,rfl,QO _ _⟩
  |false=>
   have e1:zL x=X:=a5.o;have e2:zL y=Y:=a6.o;rw[e1]at aj;rw[e2]at ak;clear e1 e2;go_wp2_with fail;refine(aj.o _).mono ?_;rintro e H ⟨rfl,N⟩;have ab:=O N;have aG:=N.size;clear N;go_wp2_with fail;refine(ak.o _).mono ?_;rintro e w2 ⟨rfl,aA⟩;have ac:=O (ab.o.trans (aA.mono aG));clear aA;go_wp2;go_meet;exact⟨rfl,rfl,ac.o⟩
 case rest=>
  obtain⟨rfl,rfl,ao⟩:=hcut;have a8:=O ao;have aT:=ao.size;clear ao aj ak a5 a6;have HG:=O (QwB X Y wc (by rw[HN.o];omega) (by rw[HM.o];omega));go_wp2_with fail;refine HG.o.mono ?_;rintro e H ⟨g,c,R,he,T,N⟩;rw[HN.o]at he;subst he;rw[HN.o,HM.o]at T;have HT:=O T;have ab:=O (a8.o.trans (N.mono aT));have aG:=N.size;have ah:w.heap.size<=H.heap.size:=ab.o.size;have Q:H.cell? ⟨g,0,none⟩=some (.slice (some ⟨R 0,0,none⟩) (m+1) (m+1)):=T.o 0 QR;have M:H.cell? ⟨R 0,0,none⟩=some (.bool (globL Y X)):=(T.row 0 QR).cell (i:=0) (Nat.succ_pos _);clear T N HG;obtain⟨r0,aC⟩:=Qw (R 0);rw[aC]at Q M;obtain⟨t,A⟩:=Qw (globL Y X);rw[A]at M L;have a3:=O A;clear A aC
  cases t with
  |false=>
   go_wp2;refine Q_ (v:=.tuple #[.slice none 0 0,.bool false]) (by simp[results,results116,go_sem]) rfl ?_;exact⟨_,by rw[L.o],ab.o,fun h=>by rw[L.o]at h;cases h⟩
  |true=>
   go_wp2
   go_loopw [14,15,16] (fun cv iv kv wr=>∃(k i:Nat) (b:Qn),k<=m/\i<=n/\kv=.int .i64 k/\iv=.int .i64 i/\wr.ownsRow H.heap.size 9 1 cv b.length (QW b)/\b.length<=k+1/\0<b.length/\Hid (globL (Y.drop k) (X.drop i)=true)/\Hid (x::Xh Y x X=b++Xh (Y.drop k) (x.drop i) (X.drop i))/\Hid (Below H.heap.size H wr)) (fun _ _ kv _=>m-(intOf kv).toNat)
   case atStart=>exact⟨0,0,[x],QR,QR,rfl,rfl,⟨rfl,Qr ⟨_,1,_,rfl,Q4 _,Q0,Q4 _,by unfold maxLen;omega,rfl,rfl⟩⟩,Q4 _,Nat.succ_pos _,a3.o,rfl,QH _⟩
   case round=>
    clear a3 Q M;obtain⟨k,i,b,hk,aX,rfl,rfl,d,aU,af,a3,D,B⟩:=hrel;have aa:=B.o.size;by_cases hkm:k<m
    .have aR:(k:Int)<(m:Int):=by omega
     have aO:k<(sA Y).size:=by omega
     have l:=O (NN aO);obtain⟨s,aq⟩:=Qw ((sA Y)[k]);rw[aq]at l;have aV:∀h:k<(sA Y).size,(sA Y)[k]'h=s:=fun h=>aq
     clear aq;by_cases h42:s=42
     .subst h42;have b2:(((42:UInt8).toNat:Int)==42)=true:=rfl;have aF:=Sq (r:=Y.drop (k+1)) (a:=X.drop i) (by rw[<-l.o];exact a3.o)
      have ae:Hid (x::Xh Y x X=(b++[(x.drop i).take (starQ (Y.drop (k+1)) (X.drop i))])++Xh (Y.drop (k+1)) (x.drop (i+starQ (Y.drop (k+1)) (X.drop i))) (X.drop (i+starQ (Y.drop (k+1)) (X.drop i)))):=by
       show _=_
       rw[D.o,l.o,QuK,XN,XN,YG];rfl
      obtain⟨S,hS⟩:=Qw (starQ (Y.drop (k+1)) (X.drop i));rw[hS]at aF ae;obtain⟨Z,f,aE⟩:=aF;rw[Xq,HN.o]at Z;rw[XN]at f;have ak:=O f;have aK:Hid (∀j,j<S->globL (Y.drop (k+1)) (X.drop (i+j))=false):=fun j z=>by have:=aE j z;rw[XN]at this;exact this
      have ag:(sA x).extract i (i+S)=sA ((x.drop i).take S):=by rw[UC,Nat.add_sub_cancel_left]
      clear f aE hS D;obtain⟨F,V⟩:=Qw ((x.drop i).take S);rw[V]at ag ae;have az:=O d;clear V d;go_wp2
      go_loopw [15] (fun iv wi=>∃(j:Nat),j<=S/\iv=.int .i64 ((i+j:Nat):Int)/\Hid (Below wr.heap.size wr wi)) (fun iv _=>i+S-(intOf iv).toNat)
      case atStart=>exact⟨0,QR,rfl,QO _ _⟩
      case round=>
       obtain⟨j,z,rfl,ad⟩:=hrel;have ay:=O (YA az.o ad.o);have ac:=O (B.o.trans (ad.o.mono aa));have ap:=HT.o.below ac.o;have Q:wr.cell? ⟨g,i+j,none⟩=some (.slice (some ⟨R (i+j),0,none⟩) (m+1) (m+1)):=ap.o (i+j) (by omega);have M:wr.cell? ⟨R (i+j),k+1,none⟩=some (.bool (globL (Y.drop (k+1)) (X.drop (i+j)))):=(ap.row (i+j) (by omega)).cell (i:=k+1) (by omega);obtain⟨r1,aD⟩:=Qw (R (i+j));rw[aD]at Q M;clear ap aD;by_cases hjs:j<S
       .rw[aK.o j hjs]at M;obtain⟨p,U⟩:=Qw (i+j);rw[U]at Q;rw[U];have aS:p<n:=by omega
        go_wp2;exact⟨⟨j+1,by omega,by rw[<-U];go_num,ad⟩,by simp[intOf];omega⟩
       .have aM:j=S:=by omega
        subst aM;rw[ak.o]at M;have d:=ay.o;have ax:=ak;have q:=ae;clear B ae az ay ad aa;have B:=ac;have aa:=B.o.size;obtain⟨p,U⟩:=Qw (i+j);rw[U]at Q ag ax q;rw[U];have aS:p<=n:=by omega
        have aZ:i<=p:=by omega
        go_wp2_with (at_builtin;refine XM _ rfl _ _ 61 rfl H.heap.size 9 i0 (.string ⟨#[]⟩) 1 16 Uw hi aH aI aJ rfl (by decide) _ _ _ rfl (d.alloc _) ⟨wr.heap.size,0,none⟩ 1 1 [.string (sA F)] rfl rfl ?c1 ?c2 ?c3 ?c4 ?c5 ?_)
        case c1=>
         intro j u z
         match j,z with
         |0,z=>simp at z;subst z;simp[Addr.add]
        case c2=>intro u hu;simp at hu;subst hu;rfl
        case c3=>unfold maxLen;omega
        case c4=>omega
        case c5=>simp;omega
        .intro v' w5 P W _;have ai:=O (Vv B.o aa W (fun k hk=>(d.lt k hk).1));rw[Jw]at P;have a4:=O P;clear P W d;go_wp2;go_roundw
         case rel=>exact⟨k+1,p,b++[F],by omega,by omega,by go_num,by go_num,by simpa using a4.o,by simp;omega,by simp,ax,q,ai⟩
         case measure=>simp[intOf];omega
     .have b2:((s.toNat:Int)==42)=false:=(Kp s 42).trans (QB h42);by_cases h63:s=63
      .subst h63;have b3:(((63:UInt8).toNat:Int)==63)=true:=rfl;have E:=SK (r:=Y.drop (k+1)) (a:=X.drop i) (by rw[<-l.o];exact a3.o);rw[Xq,HN.o,XN]at E;obtain⟨Z,f⟩:=E;have ax:=O f;have ag:(sA x).extract i (i+1)=sA ((x.drop i).take 1):=by rw[UC,Nat.add_sub_cancel_left]
       have q:Hid (x::Xh Y x X=(b++[(x.drop i).take 1])++Xh (Y.drop (k+1)) (x.drop (i+1)) (X.drop (i+1))):=by
        show _=_
        rw[D.o,l.o,QxG,XN,XN,YG];rfl
       obtain⟨F,V⟩:=Qw ((x.drop i).take 1);rw[V]at ag q;have aY:(i:Int)<(n:Int):=by omega
       clear V f D a3;go_wp2_with (at_builtin;refine XM _ rfl _ _ 61 rfl H.heap.size 9 i0 (.string ⟨#[]⟩) 1 16 Uw hi aH aI aJ rfl (by decide) _ _ _ rfl (d.alloc _) ⟨wr.heap.size,0,none⟩ 1 1 [.string (sA F)] rfl rfl ?c1 ?c2 ?c3 ?c4 ?c5 ?_)
       case c1=>
        intro j u z
        match j,z with
        |0,z=>simp at z;subst z;simp[Addr.add]
       case c2=>intro u hu;simp at hu;subst hu;rfl
       case c3=>unfold maxLen;omega
       case c4=>omega
       case c5=>simp;omega
       .intro v' w5 P W _;have ai:=O (Vv B.o aa W (fun k hk=>(d.lt k hk).1));rw[Jw]at P;have a4:=O P;clear P W d;go_wp2;go_roundw
        case rel=>exact⟨k+1,i+1,b++[F],by omega,by omega,by go_num,by go_num,by simpa using a4.o,by simp;omega,by simp,ax,q,ai⟩
        case measure=>simp[intOf];omega
      .have b3:((s.toNat:Int)==63)=false:=(Kp s 63).trans (QB h63);by_cases h92:s=92
       .by_cases hk1:k+1<m
        .subst h92;have b4:(((92:UInt8).toNat:Int)==92)=true:=rfl;have aN:(k:Int)+1<(m:Int):=by omega
         have aP:k+1<(sA Y).size:=by omega
         have aw:=NN aP;have E:=RW (r:=Y.drop (k+2)) (a:=X.drop i) (by rw[<-aw,<-l.o];exact a3.o);rw[Xq,HN.o,XN]at E;obtain⟨Z,f⟩:=E;have ax:=O f
         have q:Hid (x::Xh Y x X=b++Xh (Y.drop (k+2)) (x.drop (i+1)) (X.drop (i+1))):=by
          show _=_
          rw[D.o,l.o,aw,Qy2,XN,XN]
         clear aw f D a3 l;have az:=O d;clear d;go_wp2;go_roundw
         case rel=>exact⟨k+2,i+1,b,by omega,by omega,by go_num,by go_num,az.o,by omega,af,ax,q,B⟩
         case measure=>simp[intOf];omega
        .have b4:((s.toNat:Int)==92)=true:=(Kp s 92).trans (QU h92);have aN:¬(k:Int)+1<(m:Int):=by omega
         have E:=FH (r:=Y.drop (k+1)) (a:=X.drop i) h42 h63 (fun _=>ZE (by rw[HM.o];omega)) (by rw[<-l.o];exact a3.o);rw[Xq,HN.o,XN]at E;obtain⟨Z,f⟩:=E;have ax:=O f
         have q:Hid (x::Xh Y x X=b++Xh (Y.drop (k+1)) (x.drop (i+1)) (X.drop (i+1))):=by
          show _=_
          rw[D.o,l.o,L6 h42 h63 (fun _=>ZE (by rw[HM.o];omega)),XN,XN]
         clear f D a3 l h92;have az:=O d;clear d;go_wp2;go_roundw
         case rel=>exact⟨k+1,i+1,b,by omega,by omega,by go_num,by go_num,az.o,by omega,af,ax,q,B⟩
         case measure=>simp[intOf];omega
       .have b4:((s.toNat:Int)==92)=false:=(Kp s 92).trans (QB h92);have E:=FH (r:=Y.drop (k+1)) (a:=X.drop i) h42 h63 (fun e=>absurd e h92) (by rw[<-l.o];exact a3.o);rw[Xq,HN.o,XN]at E;obtain⟨Z,f⟩:=E;have ax:=O f
        have q:Hid (x::Xh Y x X=b++Xh (Y.drop (k+1)) (x.drop (i+1)) (X.drop (i+1))):=by
         show _=_
         rw[D.o,l.o,L6 h42 h63 (fun e=>absurd e h92),XN,XN]
        clear f D a3 l;have az:=O d;clear d;go_wp2;go_roundw
        case rel=>exact⟨k+1,i+1,b,by omega,by omega,by go_num,by go_num,az.o,by omega,af,ax,q,B⟩
        case measure=>simp[intOf];omega
    .have aQ:k=m:=by omega
     subst aQ;have aR:¬(k:Int)<(k:Int):=by omega
     have q:Hid (x::Xh Y x X=b):=by show _=_;rw[D.o,ZE (by rw[HM.o];exact QF),QyS,J3]
     obtain⟨g2,c2,rfl,aW,aB,au,ar⟩:=GM.of_owns d af;have HC:=O ar;have a7:=O au;clear ar d au;by_cases h10:10<b.length
     .have aL:(10:Int)<(b.length:Int):=by omega
      go_wp2;refine Q_ (v:=.tuple #[.slice (some ⟨g2,0,none⟩) 10 c2,.bool true]) (by simp[results,results116,go_sem]) rfl ?_;refine⟨_,by rw[L.o],ab.o.trans (B.o.mono ah),fun _=>?_⟩;rw[q.o];unfold Gr;have hl:(b.take 10).length=10:=by rw[YT];omega
      refine⟨g2,c2,by rw[hl],QE ah aB,a7.o,fun j z=>?_⟩;rw[hl]at z;rw[HC.o j (by omega),List.getElem_take]
     .have aL:¬(10:Int)<(b.length:Int):=by omega
      go_wp2;refine Q_ (v:=.tuple #[.slice (some ⟨g2,0,none⟩) b.length c2,.bool true]) (by simp[results,results116,go_sem]) rfl ?_;refine⟨_,by rw[L.o],ab.o.trans (B.o.mono ah),fun _=>?_⟩;rw[q.o];unfold Gr;rw[Z7 (by omega)];exact⟨g2,c2,rfl,QE ah aB,a7.o,HC.o⟩
theorem TxL.of_ownsV(h:w.ownsRow B 9 1 v zs.length (QW zs)):TxL w v zs:=by
 rcases h.2 with⟨a,b⟩ | ⟨g,c,e,d,_⟩
 .exact Qt ⟨XV b,a⟩
 .subst d;exact Qr ⟨g,c,rfl,ZQ.of_owns h⟩
def HdB(w:World)(B:Nat)(M:Msg)(hv:Value):Prop:=∃ha hq,hv=.slice ha M.hdrs.length hq/\∀j (hj:j<M.hdrs.length),∃g off,ha=some ⟨g,off,none⟩/\g<B/\w.cell? ⟨g,off+j*2,none⟩=some (.string (sA M.hdrs[j].1))/\w.cell? ⟨g,off+j*2+1,none⟩=some (.string (sA M.hdrs[j].2))
structure GK (M:Msg):Prop where
 fr:M.fr.length<=100000
 tu:M.to.length<=100000
 hl:M.hdrs.length<=100000
 hs:∀h∈M.hdrs,h.1.length<=100000∧h.2.length<=100000
structure StV where
 hv:Value
 nv:Value
 vv:Value
 cv:Value
 av:Value
 ns:Qn
 vl:Qn
structure StI (w:World) (B sb:Nat) (M:Msg) (s:SS) (z:StV) (q:Nat) (kp en:Bool) (er pz:Int):Prop where
 hB:B<=sb
 blk:SB w sb M.fr M.to M.size z.hv s.vs z.nv z.vv z.cv z.av kp en er pz
 n:w.ownsRow B 9 1 z.nv z.ns.length (QW z.ns)
 v:w.ownsRow B 9 1 z.vv z.vl.length (QW z.vl)
 a:w.ownsRow B 52 2 z.av s.met.length (ZG s.met)
 c:s.vs=true->TxL w z.cv (s.told.take 10)
 c0:s.vs=false->z.cv=.slice none 0 0
 cap:∀k,z.cv.ownBlock=some k->z.nv.ownBlock≠some k∧z.vv.ownBlock≠some k∧z.av.ownBlock≠some k∧k≠sb
 capt:∀k,z.cv.ownBlock=some k->∃cs,w.heap[k]?=some (Qe cs 9)
 nvv:∀k,z.nv.ownBlock=some k->z.vv.ownBlock≠some k
 l:z.ns.length=z.vl.length
 nl:z.ns.length<=q
 vals:∀x,s.vals x=lookQ z.ns z.vl x
 h:HdB w B M z.hv
 mb:GK M
 vb:∀t∈z.vl,t.length<=100000
 tb:∀t∈s.told,t.length<=100000
 alone:∀x∈s.met,x.1=4->s.met.length=1
 six:s.met.length<=6
theorem HdB.below{d:Value}(h:HdB w B M d)(c:Below B w w'):HdB w' B M d:=by
 obtain⟨m,o,e,f⟩:=h;refine⟨m,o,e,fun j n=>?_⟩;obtain⟨g,b,i,a,k,l⟩:=f j n;exact⟨g,b,i,a,by rw[c.cell (p:=⟨g,b+j*2,none⟩) a];exact k,by rw[c.cell (p:=⟨g,b+j*2+1,none⟩) a];exact l⟩
theorem StI.capl{z:StV}{d a:Bool}{b e:Int}(h:StI w B f M s z q d a b e):∀k,z.cv.ownBlock=some k->k<w.heap.size:=fun k hk=>by
 obtain⟨g,c⟩:=h.capt k hk;exact QI c
theorem UH{k:Nat}(h:∃cs,w.heap[k]?=some (Qe cs 9))(a:w'.heap[k]?=w.heap[k]?):∃cs,w'.heap[k]?=some (Qe cs 9):=by
 obtain⟨cs,b⟩:=h;exact⟨cs,a.trans b⟩
theorem StI.lt{z:StV}(h:StI w B sb M s z q kp en er pz):sb<w.heap.size:=QI h.blk
theorem StI.below{w w':World}{B sb:Nat}{M:Msg}{s:SS}{z:StV}{q:Nat}{kp en:Bool}{er pz:Int}(h:StI w B sb M s z q kp en er pz)(hb:Qo w w'):StI w' B sb M s z q kp en er pz:=
 ⟨h.hB,Ze h.blk hb,YA h.n hb,YA h.v hb,YA h.a hb,fun e=>(h.c e).belowV hb,h.c0,h.cap,fun k hk=>UH (h.capt k hk) (hb.block k (h.capl k hk)),h.nvv,h.l,h.nl,h.vals,h.h.below (hb.mono (QE h.hB (Xj h.lt))),h.mb,h.vb,h.tb,h.alone,h.six⟩
theorem StI.more{z:StV}{q':Nat}(h:StI w B sb M s z q kp en er pz)(hq:q<=q'):StI w B sb M s z q' kp en er pz:=⟨h.hB,h.blk,h.n,h.v,h.a,h.c,h.c0,h.cap,h.capt,h.nvv,h.l,QE h.nl hq,h.vals,h.h,h.mb,h.vb,h.tb,h.alone,h.six⟩
def Ks(s:SS):SS:=if s.vs then s else VS s []
theorem MD(s:SS)(l:L8):expL (Ks s) l=expL s l:=by
 cases h:s.vs with
 |true=>unfold Ks;rw[Qi h]
 |false=>
  have e:(Ks s).vs=false:=by unfold Ks;rw[Qg (by rw[h];decide)];exact h
  unfold expL;rw[Qg (by rw[e];decide),Qg (by rw[h];decide)]
theorem StI.var{a:Nat}{z:StV}{i b:Bool}{d j:Int}(h:StI w B a M s z q i b d j)(k:q<=1000000):Gu w a (Ks s) z.nv z.vv z.cv z.ns z.vl:=by
 have g:(Ks s).vs=s.vs:=by unfold Ks;cases e:s.vs with
  |true=>rw[Qi rfl];exact e
  |false=>exact e
 have f:(Ks s).vals=s.vals:=by unfold Ks;cases e:s.vs<;>rfl
 refine⟨by rw[g];exact Qj h.blk 4,Qj h.blk 5,Qj h.blk 6,Qj h.blk 7,TxL.of_ownsV h.n,TxL.of_ownsV h.v,?_,h.l,by have:=h.nl;omega,fun x=>by rw[f];exact h.vals x⟩
 cases e:s.vs with
 |true=>unfold Ks;rw[Qi e];exact h.c e
 |false=>
  unfold Ks;rw[Qg (by rw[e];decide)];exact Qt ⟨rfl,h.c0 e⟩
theorem DO(h:∀t∈s.told,t.length<=100000):∀t∈(Ks s).told,t.length<=100000:=by
 unfold Ks
 cases e:s.vs with
 |true=>rw[Qi rfl];exact h
 |false=>intro t a;cases a
theorem StI.expand{a:Nat}{z:StV}{b:Bool}{c i:Int}(h:StI w B a M s z q g b c i)(f:q<=1000000)(l:L8)(d:l.length<=100000):Calls prog 76 #[Qc a,Qf l] w fun e w'=>e=.returned (Qf (expL s l))/\Qo w w':=by
 have:=He (h.var f) d h.vb (DO h.tb);rw[MD]at this;exact this
theorem MA{xs:Qn}:xs.map (expL (Ks s))=xs.map (expL s):=List.map_congr_left fun x _=>MD s x
theorem StI.fields{z:StV}{k:Bool}{l D:Int}(h:StI w B b M s z q A k l D)(r:q<=1000000)(v:Value)(xs:Qn)(a:TxO w v xs)(u:xs.length<=100000)(y:∀x∈xs,x.length<=100000):Calls prog 71 #[Qc b,v] w fun e w'=>∃rv,e=.returned rv/\w'.ownsRow w.heap.size 9 1 rv (fieldsL M (xs.map (expL s))).length (QW (fieldsL M (xs.map (expL s))))/\Qo w w':=by
 obtain⟨o,t,m,n⟩:=h.h;have c:=h.mb;have:=F8 M o t (h.var r) h.vb (DO h.tb) (by rw[<-m];exact Qj h.blk 3) (fun j p=>by obtain⟨g,C,d,_,f,i⟩:=n j p;exact⟨g,C,d,f,i⟩) a u y (by have:=c.hl;omega) (fun x a=>by have:=(c.hs x a).1;omega);rw[MA]at this;exact this
theorem TxO.below{xs:Qn}(h:TxO w v xs)(k:Qo w w'):TxO w' v xs:=by
 obtain⟨a,c,e,f⟩:=h;refine⟨a,c,e,fun j l=>?_⟩;obtain⟨g,d,i,b⟩:=f j l;exact⟨g,d,i,by rw[k.cell (p:=⟨g,d+j,none⟩) (QX b)];exact b⟩
theorem EG:∀(k:List (Nat×UInt8)) (v a:L8) (t:L8),t∈KY k v a->t.length<=v.length
 | [],_,_,t,h=>by cases h
 |p::k,v,a,t,h=>by
  rw[KY]at h;by_cases hp:p.1=2
  .rw[Qi hp]at h;rcases XW.1 h with h|h
   .rw[h,YT];omega
   .have:=EG k _ _ t h;rw[Xq]at this;omega
  .rw[Qg hp]at h;rcases Z6.1 h with h|h
   .by_cases h0:p.1=0
    .rw[Qi h0]at h;cases h
    .rw[Qg h0]at h;rw[ZV h,YT];omega
   .have:=EG k _ _ t h;rw[Xq]at this;omega
theorem Yk(h:w.ownsRow base e size v n xs)(l:v.ownBlock≠some b):(w.setCell ⟨b,o,none⟩ x).ownsRow base e size v n xs:=by
 refine⟨h.1,?_⟩;rcases h.2 with i | ⟨g,c,d,a,j,k,r⟩
 .exact Qt i
 .exact Qr ⟨g,c,d,a,j,by rw[Q' (fun f=>l (by rw[a,f];rfl))];exact k,r⟩
theorem XG{a:Array Value}(h:w.ownsRow base e size v n xs)(c:w.heap[b]?=some (Qe a t))(he:e≠t):v.ownBlock≠some b:=fun hk=>by
 obtain⟨_,f,d⟩:=JS h hk c;injection d with e1 e2
 exact he e2.symm
theorem TxL.setV(h:TxL w v zs)(l:v.ownBlock≠some b):TxL (w.setCell ⟨b,o,none⟩ x) v zs:=by
 rcases h with h | ⟨g,c,d,i⟩
 .exact Qt h
 .exact Qr ⟨g,c,d,fun j k=>by rw[Xo (a:=⟨g,j,none⟩) (Q' (fun e=>l (by have f:g=b:=e;rw[d,f];rfl)))];exact i j k⟩
theorem StI.put{s':SS}{z:StV}{F r:Bool}{C G i t:Int}(h:StI w B b M s z q F A C G)(o:Nat)(x:Value)
 (D:SB (w.setCell ⟨b,o,none⟩ x) b M.fr M.to M.size z.hv s'.vs z.nv z.vv z.cv z.av r g i t) (m:s'.vs=s.vs) (E:s'.vals=s.vals) (p:s'.told=s.told) (f:s'.met=s.met):StI (w.setCell ⟨b,o,none⟩ x) B b M s' z q r g i t:=by
 have j:Mod b w (w.setCell ⟨b,o,none⟩ x):=(Mod.refl b w).setCell _ _;refine⟨h.hB,D,Yk h.n (XG h.n h.blk Qb),Yk h.v (XG h.v h.blk Qb),by rw[f];exact Yk h.a (XG h.a h.blk Qb),fun e=>?_,fun e=>h.c0 (by rw[<-m];exact e),h.cap,fun k d=>UH (h.capt k d) (j.block k (h.capl k d) (h.cap k d).2.2.2),h.nvv,h.l,h.nl,fun y=>by rw[E];exact h.vals y,h.h.below (j.below h.hB h.lt),h.mb,h.vb,by rw[p];exact h.tb,by rw[f];exact h.alone,by rw[f];exact h.six⟩;rw[p];exact(h.c (by rw[<-m];exact e)).setV (fun u=>(h.cap b u).2.2.2 rfl)
theorem StI.keep0{z:StV}(h:StI w B sb M s z q kp en er pz)(b:Bool):StI (w.setCell ⟨sb,9,none⟩ (.bool b)) B sb M s z q b en er pz:=h.put 9 _ (QM h.blk) rfl rfl rfl rfl
theorem StI.disc{z:StV}(h:StI w B sb M s z q kp en er pz):StI (w.setCell ⟨sb,9,none⟩ (.bool false)) B sb M (Gl s) z q false en er pz:=h.put 9 _ (QM h.blk) rfl rfl rfl rfl
theorem StI.ends{z:StV}(h:StI w B sb M s z q kp en er pz):StI (w.setCell ⟨sb,10,none⟩ (.bool true)) B sb M s z q kp true er pz:=h.put 10 _ (QM h.blk) rfl rfl rfl rfl
theorem StI.told0{z:StV}(h:StI w B sb M s z q kp en er pz){t:Qn}(hv:s.vs=false)(ht:∀x∈t,x.length<=100000):StI w B sb M (VS s t) z q kp en er pz:=
 ⟨h.hB,h.blk,h.n,h.v,h.a,fun e=>absurd (show s.vs=true from e) (by rw[hv];decide),h.c0,h.cap,h.capt,h.nvv,h.l,h.nl,h.vals,h.h,h.mb,h.vb,ht,h.alone,h.six⟩
theorem Qt9{x:L8}(oct:Bool)(w:World)(g:tag=1\/tag=2\/tag=3)(a:x.length<=100000)(b:y.length<=100000):Calls prog 116 #[Qf x,Qf y,Qa tag,.bool oct] w fun e w'=>∃cv,e=.returned (.tuple #[cv,.bool (wayB tag oct x y)])/\Qo w w'/\(tag=3->wayB tag oct x y=true->GM w' w.heap.size cv (Gr (x::Xh (lookL oct y) x (lookL oct x)))):=by
 rcases g with rfl|rfl|rfl
 .exact(T5 oct w a b).mono fun e w' h=>⟨_,h.1,h.2,fun e=>absurd e Qb⟩
 .exact(Tw oct w a b).mono fun e w' h=>⟨_,h.1,h.2,fun e=>absurd e Qb⟩
 .refine(Wo oct w a b).mono fun e w' h=>?_
  obtain⟨cv,c,d,f⟩:=h;exact⟨cv,c,d,fun _=>f⟩
theorem GM.txl{a:Value}(h:GM w B a zs):TxL w a zs:=by
 obtain⟨g,c,d,_,_,e⟩:=h;exact Qr ⟨g,c,d,fun j b=>by rw[e j b];simp[Zv,Zi b]⟩
theorem StI.told{z:StV}{u o:Bool}{p y:Int}(h:StI w B b M s z q u o p y){f:Value}{t:Qn}{B':Nat}(F:s.vs=true)(r:GM w B' f (Gr t))(i:∀k,z.nv.ownBlock=some k\/z.vv.ownBlock=some k\/z.av.ownBlock=some k\/k=b->k<B')(H:0<(Gr t).length)(D:∀x∈t,x.length<=100000):StI (w.setCell ⟨b,7,none⟩ f) B b M (VS s t) ⟨z.hv,z.nv,z.vv,f,z.av,z.ns,z.vl⟩ q u o p y:=by
 have C:Mod b w (w.setCell ⟨b,7,none⟩ f):=(Mod.refl b w).setCell _ _;have G:=r.txl;obtain⟨g,c,E,K,A,J⟩:=r;have j:g≠b:=by intro e;have:=i b (Qr (Qr (Qr rfl)));omega
 have d:∀k,f.ownBlock=some k->k=g:=fun k d=>by rw[E]at d;simpa[Value.ownBlock,eq_comm]using d
 refine⟨h.hB,QM h.blk,Yk h.n (XG h.n h.blk Qb),Yk h.v (XG h.v h.blk Qb),Yk h.a (XG h.a h.blk Qb),fun _=>G.setV (fun e=>j (d b e).symm),fun e=>?_,fun k e=>?_,fun k e=>?_,h.nvv,h.l,h.nl,h.vals,h.h.below (C.below h.hB h.lt),h.mb,h.vb,D,h.alone,h.six⟩
 .have m:s.vs=false:=e;rw[F]at m;cases m
 .have:=d k e;subst this;exact⟨fun e=>by have:=i _ (Qt e);omega,fun e=>by have:=i _ (Qr (Qt e));omega,fun e=>by have:=i _ (Qr (Qr (Qt e)));omega,j⟩
 .have:=d k e;subst this;exact UH A (Q' j)
theorem Qxv(tag:Int)(oct:Bool)(v:L8)(f:L8->L8){a:Qn}{k:Nat}(h:k<a.length):Jh tag oct v ((a.map f).drop k)=if wayB tag oct v (f a[k])=true then some (f a[k])else Jh tag oct v ((a.map f).drop (k+1)):=by
 rw[Xt (by simpa using h),List.getElem_map];rfl
theorem Qxe(tag:Int)(oct:Bool)(b:Qn){a:Qn}(h:i<a.length):Yz tag oct b (a.drop i)=match Jh tag oct a[i] b with
 |some k=>some (a[i],k)
 |none=>Yz tag oct b (a.drop (i+1)):=by
 rw[Xt h];rfl
theorem Qyq{oct:Bool}{v:L8}:wayT 3 oct v k=some (v::Xh (lookL oct k) v (lookL oct v)):=by
 unfold wayT;rw[Qi rfl,QyC];rfl
theorem QyY(oct:Bool)(v k:L8)(h:¬tag=3):wayT tag oct v k=none:=by unfold wayT;rw[Qg h]
theorem CU{z:StV}{Y:Bool}{Z:Int}{U W:Value}{vals keys:Qn}(oct:Bool)(h:StI w B f M s z q kp Y Z pz)(hq:q<=1000000)(hv:TxO w U vals)(hk:TxO w W keys)(D:tag=1\/tag=2\/tag=3)(az:vals.length<=10000000000)(ay:keys.length<=10000000000)(af:∀x∈vals,x.length<=100000)(L:∀x∈keys,x.length<=100000):Calls prog 72 #[Qc f,U,W,Qa tag,.bool oct] w fun e w'=>e=.returned (.bool (askL s tag oct vals keys).1)/\Mod f w w'/\∃z',StI w' B f M (askL s tag oct vals keys).2 z' q kp Y Z pz:=by
 obtain⟨va,vc,rfl,ag⟩:=hv;obtain⟨ka,kc,rfl,ad⟩:=hk;have au:=h.lt
 have aj:∀k,z.nv.ownBlock=some k\/z.vv.ownBlock=some k\/z.av.ownBlock=some k\/k=f->k<w.heap.size:=fun k e=>by
  rcases e with e|e|e|e
  .exact(h.n.lt k e).2
  .exact(h.v.lt k e).2
  .exact(h.a.lt k e).2
  .rw[e];exact au
 have HASK:Hid (askL s tag oct vals keys=match Yz tag oct (keys.map (expL s)) vals with
  |none=>(false,s)
  | some (v,k)=>(true,match wayT tag oct v k with
   |some t=>VS s t
   | none=>s)):=rfl
 have HT:=O D;clear D;change Qd _ at ag ad af L aj;replace h:=O h;go_enter func72,ntmps72;go_wp2
 go_loopw [11,12] (fun Q _ wr=>∃(i:Nat),i<=vals.length/\Q=Qa i/\Hid (Qo w wr)/\Hid (Yz tag oct (keys.map (expL s)) vals=Yz tag oct (keys.map (expL s)) (vals.drop i))) (fun Q _ _=>vals.length-(intOf Q).toNat)
 case atStart=>exact⟨0,QR,rfl,QO _ _,rfl⟩
 case round=>
  obtain⟨i,hi,rfl,c,H⟩:=hrel;by_cases hil:i<vals.length
  .have aq:(i:Int)<(vals.length:Int):=I
   have J:=O (Qxe tag oct (keys.map (expL s)) hil);go_wp2
   go_loopw [12] (fun R wi=>∃(k:Nat),k<=keys.length/\R=Qa k/\Hid (Qo w wi)/\Hid (Jh tag oct vals[i] (keys.map (expL s))=Jh tag oct vals[i] ((keys.map (expL s)).drop k))) (fun R _=>keys.length-(intOf R).toNat)
   case atStart=>exact⟨0,QR,rfl,c,rfl⟩
   case round=>
    clear c;obtain⟨k,ax,rfl,c,r⟩:=hrel;by_cases hkl2:k<keys.length
    .have ar:(k:Int)<(keys.length:Int):=I
     have j:=O (Qxv tag oct vals[i] (expL s) hkl2);obtain⟨gk,ok,rfl,K⟩:=ad k hkl2;obtain⟨gv,ov,rfl,C⟩:=ag i hil;have V:=QN c K (QX K)
     have u:=O ((h.o.below c).expand hq keys[k] (L _ (ZT hkl2)));have ac:=AO s (L _ (ZT hkl2));obtain⟨y,hy⟩:=Qw (expL s keys[k]);rw[hy]at u ac j;have E:=af _ (ZT hil);obtain⟨x,P⟩:=Qw (vals[i]);rw[P]at C j r J E;obtain⟨yk,ai⟩:=Qw (keys[k]);rw[ai]at V u;have aw:=c.size;clear hy ai K;change Qd _ at P C;go_wp2_with fail;refine u.mono ?_;rintro e w2 ⟨rfl,aa⟩;have F:=O (c.o.trans (aa.mono aw));have ah:=F.size;have b2:=QN F C (QX C)
     have S:=O (Qt9 oct w2 HT E ac);clear aa u V;go_wp2_with fail;refine S.mono ?_;rintro e w3 ⟨cv,rfl,ab,l⟩;have g:=O (F.o.trans (ab.mono ah));have d:=h.o.below g;have X:=Qj d.blk 4;have d7:=Qj d.blk 7;have df:=QQ d.blk;clear ab S b2;change Qd _ at l d;obtain⟨t,N⟩:=Qw (wayB tag oct x y);rw[N]at j l;rw[N];clear N
     cases t with
     |false=>
      have ak:Hid (Jh tag oct x (keys.map (expL s))=Jh tag oct x ((keys.map (expL s)).drop (k+1))):=by show _=_;rw[r.o,j.o,Qg Qb]
      go_wp2;exact⟨⟨k+1,I,by go_num,g,by rw[P.o];exact ak⟩,by simp[intOf];omega⟩
     |true=>
      have m:Hid (Yz tag oct (keys.map (expL s)) vals=some (x,y)):=by show _=_;rw[H.o,J.o,r.o,j.o,Qi rfl]
      by_cases ht3:tag=3
      .have b3:(tag==3)=true:=by simpa using ht3
       have b:Hid (askL s tag oct vals keys=(true,VS s (x::Xh (lookL oct y) x (lookL oct x)))):=by
        show _=_
        rw[HASK.o,m.o,ht3];simp only[Qyq]
       have A:=l ht3 rfl
       have T:Hid (∀t∈x::Xh (lookL oct y) x (lookL oct x),t.length<=100000):=by
        intro t D;rcases XW.1 D with e|e
        .rw[e];exact E
        .exact QE (EG _ _ _ _ e) E
       clear ht3 l m;change Qd _ at A
       cases hvs:s.vs with
       |true=>
        rw[hvs]at X;have G:=O (d.told hvs A (fun k e=>Yq (aj k e) ah) (by unfold Gr;simp) T);obtain⟨g9,c9,h9,_⟩:=A.o;obtain⟨n9,ae⟩:=Qw ((Gr (x::Xh (lookL oct y) x (lookL oct x))).length);rw[ae]at h9;clear hvs ae A;subst h9;go_wp2;go_ret;exact⟨Zf (by rw[b.o]),(Mod.of_below g).trans ((Mod.refl f w3).setCell _ _),_,by rw[b.o];exact G⟩
       |false=>
        rw[hvs]at X;have G:=O (d.told0 hvs T);clear hvs;go_wp2;go_ret;exact⟨Zf (by rw[b.o]),Mod.of_below g,_,by rw[b.o];exact G⟩
      .have b3:(tag==3)=false:=by simpa using ht3
       have b:Hid (askL s tag oct vals keys=(true,s)):=by
        show _=_
        rw[HASK.o,m.o];simp only[QyY oct x y ht3]
       clear ht3 l m;go_wp2;go_ret;exact⟨Zf (by rw[b.o]),Mod.of_below g,_,by rw[b.o];exact d⟩
    .have ap:k=keys.length:=I
     subst ap;have ar:¬(keys.length:Int)<(keys.length:Int):=I
     have b:Hid (Yz tag oct (keys.map (expL s)) vals=Yz tag oct (keys.map (expL s)) (vals.drop (i+1))):=by
      show _=_
      rw[H.o,J.o,r.o,ZE Qh];rfl
     go_wp2;go_roundw
     case rel=>exact⟨i+1,I,by go_num,c,b⟩
     case measure=>simp[intOf];omega
  .have aq:¬(i:Int)<(vals.length:Int):=I
   have ao:i=vals.length:=I
   subst ao;have b:Hid (askL s tag oct vals keys=(false,s)):=by show _=_;rw[HASK.o,H.o,ZE QF];rfl
   go_wp2;go_ret;exact⟨Zf (by rw[b.o]),Mod.of_below c,z,by rw[b.o];exact h.o.below c⟩
end
def Cr(t:TypeId):Bool:=t != 104&&t != 9&&t != 52
def KB(w w':World):Prop:=∀(k:Nat) (cs:Array Value) (t:TypeId),w.heap[k]?=some (Qe cs t)->Cr t=true->w'.heap[k]?=some (Qe cs t)
theorem KB.trans{a b c:World}(h:KB a b)(h':KB b c):KB a c:=fun k cs t hk ht=>h' k cs t (h k cs t hk ht) ht
theorem Js(h:Qo w w'):KB w w':=fun k cs t hk _=>by rw[h.block k (QI hk)];exact hk
theorem NW(h:Mod b w w'){c:Array Value}(a:w.heap[b]?=some (Qe c t))(d:Cr t=false):KB w w':=fun k cs' t' hk ht'=>by
 rw[h.block k (QI hk) (fun e=>by subst e;rw[hk]at a;injection a with a;injection a with _ a;rw[a,d]at ht';cases ht')];exact hk
theorem Ch{cs:Array Value}(hb:w.heap[b]?=some (Qe cs t))(ht:Cr t=false):KB w (w.setCell ⟨b,o,none⟩ v):=NW ((Mod.refl b w).setCell o v) hb ht
theorem Ci{a:World}(h:w.ownsRow base e size v n xs)(he:Cr e=false)(d:∀k,k<w.heap.size->some k≠v.ownBlock->a.heap[k]?=w.heap[k]?):KB w a:=fun k cs t hk ht=>by
 rw[d k (QI hk) (fun b=>XG h hk (fun c=>by rw[<-c,he]at ht;cases ht) b.symm)];exact hk
end Go.Proofs.YtgnkjijocdmniaaGreatDoor
