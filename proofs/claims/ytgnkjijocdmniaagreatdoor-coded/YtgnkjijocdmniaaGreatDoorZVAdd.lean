import Derived.Deep.CutRange
import Derived.Laws.StructEq
import Derived.Deep.AppendLies
import Derived.Test.YtgnkjijocdmniaaGreatDoorZCBlock
import Derived.Test.YtgnkjijocdmniaaGreatDoorVGlob
namespace Go.Proofs.YtgnkjijocdmniaaGreatDoor
set_option linter.unusedVariables false
set_option linter.unusedSimpArgs false
set_option maxRecDepth 100000
set_option maxHeartbeats 4000000
open Go.Proofs.Tryz
variable{B b base g i k n o q sb size:Nat}{M:Msg}{X Y:L8}{a en f kp p u:Bool}{cv v v' x:Value}{e t:TypeId}{er pz:Int}{r:Int×List (Int×L8)}{s s':SS}{w w':World}{xs:List Value}{zs:Qa}
theorem Ar(k v:L8):k.isPrefixOf v=decide (v.take k.length=k):=by
 rw[Zh,List.isPrefixOf_iff_prefix,decide_eq_true_iff,List.prefix_iff_eq_take];exact⟨fun h=>h.symm,fun h=>h.symm⟩
theorem F0(k:L8):∀ v:L8,v.length<k.length->Xw k v=false
 | [],h=>by
  rw[Xw,Ar,Qr];intro e;have:=congrArg List.length e;simp at this;simp[this]at h
 |c::v,h=>by
  have a:v.length<k.length:=by simp at h;omega
  rw[Xw,F0 k v a,Bool.or_false,Ar,Qr];intro e;have:=congrArg List.length e;rw[List.length_take]at this;omega
theorem F1(k:L8){v:L8}(h:i+k.length<=v.length):Xw k (v.drop i)=(decide ((v.drop i).take k.length=k) || (decide (i<v.length)&&Xw k (v.drop (i+1)))):=by
 by_cases hi:i<v.length
 ·rw[QO hi,Bool.true_and,<-Ar,List.drop_eq_getElem_cons hi,Xw]
 ·rw[Qr hi,Bool.false_and,Bool.or_false,<-Ar,Zi (by omega),Xw]
section
open Go.RowKit
attribute [local go_sem ↓] Go.wp_at_zero Go.wp_at_succ
theorem Wm(x y:L8)(a:Bool)(w:World)(n:x.length<=100000)(p:y.length<=100000) :
 Calls prog 116 #[.string (sA x),.string (sA y),.int .i64 1,.bool a] w fun e w'=>e=.returned (.tuple #[.slice none 0 0,.bool (wayB 1 a x y)])/\Below w.heap.size w w':=by
 have j:=I (fun u=>Y6 x u (by omega));have k:=I (fun u=>Y6 y u (by omega));have d:Hid (wayB 1 a x y=decide (lookL a x=lookL a y)):=by show _=_;unfold wayB;rw[if_pos rfl]
 cases a with
 |true=>
  have l:((sA x).toList==(sA y).toList)=decide (x=y):=Ky _ _;have b:Hid (wayB 1 true x y=decide (x=y)):=d.o;go_enter func116,ntmps116;go_wp2;refine bodyPost_ret (v:=.tuple #[.slice none 0 0,.bool (decide (x=y))]) (by simp[results,results116,go_sem]) rfl ?_;exact⟨by rw[b.o],Below.refl _ _⟩
 |false=>
  have l:((sA (zL x)).toList==(sA (zL y)).toList)=decide (zL x=zL y):=Ky _ _;have b:Hid (wayB 1 false x y=decide (zL x=zL y)):=d.o;go_enter func116,ntmps116;go_wp2_with fail;refine(j.o _).mono ?_;rintro e q ⟨rfl,c⟩;have g:=I c;have m:=c.size;clear c;go_wp2_with fail;refine(k.o _).mono ?_;rintro e r ⟨rfl,f⟩;have i:=I (g.o.trans (f.mono m));clear f;go_wp2;refine bodyPost_ret (v:=.tuple #[.slice none 0 0,.bool (decide (zL x=zL y))]) (by simp[results,results116,go_sem]) rfl ?_;exact⟨by rw[b.o],i.o⟩
theorem F2(h:i+Y.length<=X.length)(a:¬(X.drop i).take Y.length=Y)(he:Xw Y X=(decide (i<=X.length)&&Xw Y (X.drop i))):Xw Y X=(decide (i+1<=X.length)&&Xw Y (X.drop (i+1))):=by
 rw[he,QO (by omega),Bool.true_and,F1 Y h,Qr a,Bool.false_or];rfl
theorem F3(h:i+Y.length<=X.length)(a:(X.drop i).take Y.length=Y)(he:Xw Y X=(decide (i<=X.length)&&Xw Y (X.drop i))):Xw Y X=true:=by
 rw[he,QO (by omega),Bool.true_and,F1 Y h,QO a,Bool.true_or]
theorem F4(h:¬ i+Y.length<=X.length)(he:Xw Y X=(decide (i<=X.length)&&Xw Y (X.drop i))):Xw Y X=false:=by
 rw[he];by_cases hi:i<=X.length
 ·rw[F0 Y _ (by rw[List.length_drop];omega),Bool.and_false]
 ·rw[Qr hi,Bool.false_and]
theorem Wn(x y:L8)(a:Bool)(w:World)(H:x.length<=100000)(J:y.length<=100000) :
 Calls prog 116 #[.string (sA x),.string (sA y),.int .i64 2,.bool a] w fun e w'=>e=.returned (.tuple #[.slice none 0 0,.bool (wayB 2 a x y)])/\Below w.heap.size w w':=by
 have s:=I (fun u=>Y6 x u (by omega));have t:=I (fun u=>Y6 y u (by omega));have k:Hid (wayB 2 a x y=Xw (lookL a y) (lookL a x)):=by show _=_;unfold wayB;rw[if_neg (by decide),if_pos rfl]
 have E:(lookL a x).length<=100000:=by unfold lookL;cases a<;>simp[zL]<;>omega
 have F:(lookL a y).length<=100000:=by unfold lookL;cases a<;>simp[zL]<;>omega
 have f:∃ X,lookL a x=X:=⟨_,rfl⟩;have g:∃ Y,lookL a y=Y:=⟨_,rfl⟩;obtain⟨X,f⟩:=f;obtain⟨Y,g⟩:=g;rw[f]at k E;rw[g]at k F;have K:=Zr X;have L:=Zr Y;cases a
 ·have n:zL x=X:=f;have p:zL y=Y:=g;rw[n]at s;rw[p]at t;clear f g n p;go_enter func116,ntmps116;go_wp2_with fail;refine(s.o _).mono ?_;rintro e M ⟨rfl,q⟩;have A:=I q;have G:=q.size;clear q;go_wp2_with fail;refine(t.o _).mono ?_;rintro e N ⟨rfl,z⟩;have B:=I (A.o.trans (z.mono G));clear z;go_wp2
  go_loopw [12] (fun j wr=>∃(i:Nat),i<=200000/\j=.int .i64 i/\Xw Y X=(decide (i<=X.length)&&Xw Y (X.drop i))/\Below w.heap.size w wr) (fun j _=>X.length+1 - (intOf j).toNat)
  case atStart=>exact⟨0,QC,rfl,by rw[QO QC,Bool.true_and,List.drop_zero],B.o⟩
  case round=>
   obtain⟨i,D,rfl,he,l⟩:=hrel;have d:=I he;have c:=I l;clear he l;by_cases hle:i+Y.length<=X.length
   ·have r:(i:Int)+(Y.length:Int)<=(X.length:Int):=by omega
    have C:(sA X).extract i (i+Y.length)=sA ((X.drop i).take Y.length):=by rw[Kg,Nat.add_sub_cancel_left]
    have m:((sA ((X.drop i).take Y.length)).toList==(sA Y).toList)=decide ((X.drop i).take Y.length=Y):=Ky _ _;by_cases hc:(X.drop i).take Y.length=Y
    ·rw[QO hc]at m;have b:=I (F3 hle hc d.o);clear hc;generalize (X.drop i).take Y.length=Z at *;go_wp2;refine bodyPost_ret (v:=.tuple #[.slice none 0 0,.bool true]) (by simp[results,results116,go_sem]) rfl ?_;exact⟨by rw[k.o,b.o],c.o⟩
    ·rw[Qr hc]at m;have b:=I (F2 hle hc d.o);clear hc;generalize (X.drop i).take Y.length=Z at *;go_wp2;exact⟨⟨i+1,by omega,by go_num,b.o,c.o⟩,by simp[intOf];omega⟩
   ·have r:¬(i:Int)+(Y.length:Int)<=(X.length:Int):=by omega
    have b:=I (F4 hle d.o);go_wp2;refine bodyPost_ret (v:=.tuple #[.slice none 0 0,.bool false]) (by simp[results,results116,go_sem]) rfl ?_;exact⟨by rw[k.o,b.o],c.o⟩
 ·have n:x=X:=f;have p:y=Y:=g;subst n;subst p;clear f g;go_enter func116,ntmps116;go_wp2
  go_loopw [12] (fun j wr=>∃(i:Nat),i<=200000/\j=.int .i64 i/\Xw y x=(decide (i<=x.length)&&Xw y (x.drop i))/\Below w.heap.size w wr) (fun j _=>x.length+1 - (intOf j).toNat)
  case atStart=>exact⟨0,QC,rfl,by rw[QO QC,Bool.true_and,List.drop_zero],Below.refl _ _⟩
  case round=>
   obtain⟨i,D,rfl,he,l⟩:=hrel;have d:=I he;have c:=I l;clear he l;by_cases hle:i+y.length<=x.length
   ·have r:(i:Int)+(y.length:Int)<=(x.length:Int):=by omega
    have C:(sA x).extract i (i+y.length)=sA ((x.drop i).take y.length):=by rw[Kg,Nat.add_sub_cancel_left]
    have m:((sA ((x.drop i).take y.length)).toList==(sA y).toList)=decide ((x.drop i).take y.length=y):=Ky _ _;by_cases hc:(x.drop i).take y.length=y
    ·rw[QO hc]at m;have b:=I (F3 hle hc d.o);clear hc;generalize (x.drop i).take y.length=Z at *;go_wp2;refine bodyPost_ret (v:=.tuple #[.slice none 0 0,.bool true]) (by simp[results,results116,go_sem]) rfl ?_;exact⟨by rw[k.o,b.o],c.o⟩
    ·rw[Qr hc]at m;have b:=I (F2 hle hc d.o);clear hc;generalize (x.drop i).take y.length=Z at *;go_wp2;exact⟨⟨i+1,by omega,by go_num,b.o,c.o⟩,by simp[intOf];omega⟩
   ·have r:¬(i:Int)+(y.length:Int)<=(x.length:Int):=by omega
    have b:=I (F4 hle d.o);go_wp2;refine bodyPost_ret (v:=.tuple #[.slice none 0 0,.bool false]) (by simp[results,results116,go_sem]) rfl ?_;exact⟨by rw[k.o,b.o],c.o⟩
def Vo(w:World)(B:Nat)(cv:Value)(zs:Qa):Prop:=∃ g c,cv=.slice (some ⟨g,0,none⟩) zs.length c/\B<=g/\(∃ cs,w.heap[g]?=some (.cells cs 9))/\∀ j (hj:j<zs.length),w.cell? ⟨g,j,none⟩=some (.string (sA zs[j]))
def UN(zs:Qa):Qa:=zs.take 10
theorem Jr.below{R:Nat->Nat}{m:Nat}{F:Nat->Nat->Bool}(h:Jr w B g R n m F)(a:Below w.heap.size w w'):Jr w' B g R n m F:=
 ⟨h.hg,fun j hj=>by rw[a.cell (p:=⟨g,j,none⟩) (QI (h.o j hj))];exact h.o j hj,fun j hj=>(h.row j hj).of_block (a.block _ (h.row j hj).lt),h.bel,h.inj⟩
theorem Vo.of_owns{acc:Qa}(h:w.ownsRow B 9 1 v acc.length (Qw acc))(m:0<acc.length):∃ g c,v=.slice (some ⟨g,0,none⟩) acc.length c/\acc.length<=c/\B<=g/\(∃ cs,w.heap[g]?=some (.cells cs 9))/\∀ j (a:j<acc.length),w.cell? ⟨g,j,none⟩=some (.string (sA acc[j])):=by
 have d:=h;rcases h.2 with⟨_,l⟩ | ⟨g,c,b,k,f,i,e,_⟩
 ·omega
 ·subst k;refine⟨g,c,rfl,e,f,⟨b,i⟩,fun j a=>?_⟩;have:=d.cells (g:=g) rfl j (.string (sA acc[j])) (by simp[Qw,List.getElem?_eq_getElem a]);rw[Jx]at this;exact this
theorem Wo(x y:L8)(l:Bool)(w:World)(hx:x.length<=100000)(hy:y.length<=100000) :
 Calls prog 116 #[.string (sA x),.string (sA y),.int .i64 3,.bool l] w fun e w'=>∃ cv,e=.returned (.tuple #[cv,.bool (wayB 3 l x y)])/\Below w.heap.size w w'/\(wayB 3 l x y=true->Vo w' w.heap.size cv (UN (x::ZM (lookL l y) x (lookL l x)))):=by
 have ar:=I (fun u=>Y6 x u (by omega));have T:=I (fun u=>Y6 y u (by omega));have L:Hid (wayB 3 l x y=globL (lookL l y) (lookL l x)):=by show _=_;unfold wayB;rw[if_neg (by decide),if_neg (by decide)];rfl
 have ac:(lookL l x).length=x.length:=by unfold lookL;cases l<;>simp[zL]
 have ad:(lookL l y).length=y.length:=by unfold lookL;cases l<;>simp[zL]
 have V:∃ X,lookL l x=X:=⟨_,rfl⟩;have W:∃ Y,lookL l y=Y:=⟨_,rfl⟩;obtain⟨X,V⟩:=V;obtain⟨Y,W⟩:=W;rw[V]at L ac;rw[W]at L ad;rw[V,W];have au:=I V;have aw:=I W;clear V W;obtain⟨n,hn⟩:=Qf (x.length);obtain⟨m,hm⟩:=Qf (y.length);rw[hn]at hx ac;rw[hm]at hy ad;have a9:(sA x).size=n:=hn;have a7:(sA X).size=n:=ac;have a8:(sA Y).size=m:=ad;have a0:=I hn;have J:=I ac;have HM:=I ad;clear hn hm ac ad;obtain⟨i0,hi,aM,aN,aO⟩:=info_parts Tryz.infoStr;go_enter func116,ntmps116;go_upto_if 21 with fail
 go_cut [10,11] (fun av bv wx=>av=.string (sA X)/\bv=.string (sA Y)/\Below w.heap.size w wx)
 case first=>
  cases l with
  |true=>
   have e1:x=X:=au.o;have e2:y=Y:=aw.o;subst e1;subst e2;go_wp2;go_meet;exact⟨rfl,rfl,Below.refl _ _⟩
  |false=>
   have e1:zL x=X:=au.o;have e2:zL y=Y:=aw.o;rw[e1]at ar;rw[e2]at T;clear e1 e2;go_wp2_with fail;refine(ar.o _).mono ?_;rintro e H ⟨rfl,N⟩;have Q:=I N;have aL:=N.size;clear N;go_wp2_with fail;refine(T.o _).mono ?_;rintro e w2 ⟨rfl,aD⟩;have ag:=I (Q.o.trans (aD.mono aL));clear aD;go_wp2;go_meet;exact⟨rfl,rfl,ag.o⟩
 case rest=>
  obtain⟨rfl,rfl,ax⟩:=hcut;have aP:=I ax;have aZ:=ax.size;clear ax ar T au aw;have HG:=I (Wp X Y wc (by rw[J.o];omega) (by rw[HM.o];omega));go_wp2_with fail;refine HG.o.mono ?_;rintro e H ⟨g,c,R,he,hT,N⟩;rw[J.o]at he;subst he;rw[J.o,HM.o]at hT;have HT:=I hT;have Q:=I (aP.o.trans (N.mono aZ));have aL:=N.size;have ao:w.heap.size<=H.heap.size:=Q.o.size;have U:H.cell? ⟨g,0,none⟩=some (.slice (some ⟨R 0,0,none⟩) (m+1) (m+1)):=hT.o 0 QC;have M:H.cell? ⟨R 0,0,none⟩=some (.bool (globL Y X)):=(hT.row 0 QC).cell (i:=0) (Nat.succ_pos _);clear hT N HG;obtain⟨r0,aH⟩:=Qf (R 0);rw[aH]at U M;obtain⟨t,ht⟩:=Qf (globL Y X);rw[ht]at M L;have C:=I ht;clear ht aH
  cases t with
  |false=>
   go_wp2;refine bodyPost_ret (v:=.tuple #[.slice none 0 0,.bool false]) (by simp[results,results116,go_sem]) rfl ?_;exact⟨_,by rw[L.o],Q.o,fun h=>by rw[L.o]at h;cases h⟩
  |true=>
   go_wp2
   go_loopw [14,15,16] (fun cv iv kv wr=>∃(k i:Nat) (b:Qa),k<=m/\i<=n/\kv=.int .i64 k/\iv=.int .i64 i/\wr.ownsRow H.heap.size 9 1 cv b.length (Qw b)/\b.length<=k+1/\0<b.length/\Hid (globL (Y.drop k) (X.drop i)=true)/\Hid (x::ZM Y x X=b++ZM (Y.drop k) (x.drop i) (X.drop i))/\Hid (Below H.heap.size H wr)) (fun _ _ kv _=>m - (intOf kv).toNat)
   case atStart=>exact⟨0,0,[x],QC,QC,rfl,rfl,⟨rfl,Qc ⟨_,1,_,rfl,Nat.le_refl _,QA _ _,Nat.le_refl _,by unfold maxLen;omega,rfl,rfl⟩⟩,Nat.le_refl _,Nat.succ_pos _,C.o,rfl,Qs _⟩
   case round=>
    clear C U M;obtain⟨k,i,b,hk,a4,rfl,rfl,d,a1,aj,C,D,B⟩:=hrel;have af:=B.o.size;by_cases hkm:k<m
    ·have aX:(k:Int)<(m:Int):=by omega
     have aU:k<(sA Y).size:=by omega
     have q:=I (Gi aU);obtain⟨z,az⟩:=Qf ((sA Y)[k]);rw[az]at q;have a2:∀ h:k<(sA Y).size,(sA Y)[k]'h=z:=fun h=>az
     clear az;by_cases h42:z=42
     ·subst h42;have b2:(((42:UInt8).toNat:Int)==42)=true:=rfl;have aK:=Wq (r:=Y.drop (k+1)) (a:=X.drop i) (by rw[<-q.o];exact C.o)
      have ai:Hid (x::ZM Y x X=(b++[(x.drop i).take (starQ (Y.drop (k+1)) (X.drop i))])++ZM (Y.drop (k+1)) (x.drop (i+starQ (Y.drop (k+1)) (X.drop i))) (X.drop (i+starQ (Y.drop (k+1)) (X.drop i)))):=by
       show _=_
       rw[D.o,q.o,Wr,List.drop_drop,List.drop_drop,List.append_assoc];rfl
      obtain⟨S,hS⟩:=Qf (starQ (Y.drop (k+1)) (X.drop i));rw[hS]at aK ai;obtain⟨ae,f,aJ⟩:=aK;rw[List.length_drop,J.o]at ae;rw[List.drop_drop]at f;have T:=I f;have aQ:Hid (∀ j,j<S->globL (Y.drop (k+1)) (X.drop (i+j))=false):=fun j A=>by have:=aJ j A;rw[List.drop_drop]at this;exact this
      have ak:(sA x).extract i (i+S)=sA ((x.drop i).take S):=by rw[Kg,Nat.add_sub_cancel_left]
      clear f aJ hS D;obtain⟨G,aa⟩:=Qf ((x.drop i).take S);rw[aa]at ak ai;have K:=I d;clear aa d;go_wp2
      go_loopw [15] (fun iv wi=>∃(j:Nat),j<=S/\iv=.int .i64 ((i+j:Nat):Int)/\Hid (Below wr.heap.size wr wi)) (fun iv _=>i+S - (intOf iv).toNat)
      case atStart=>exact⟨0,QC,rfl,Below.refl _ _⟩
      case round=>
       obtain⟨j,A,rfl,ah⟩:=hrel;have aC:=I (YV K.o ah.o);have ag:=I (B.o.trans (ah.o.mono af));have ay:=HT.o.below ag.o;have U:wr.cell? ⟨g,i+j,none⟩=some (.slice (some ⟨R (i+j),0,none⟩) (m+1) (m+1)):=ay.o (i+j) (by omega);have M:wr.cell? ⟨R (i+j),k+1,none⟩=some (.bool (globL (Y.drop (k+1)) (X.drop (i+j)))):=(ay.row (i+j) (by omega)).cell (i:=k+1) (by omega);obtain⟨r1,aI⟩:=Qf (R (i+j));rw[aI]at U M;clear ay aI;by_cases hjs:j<S
       ·rw[aQ.o j hjs]at M;obtain⟨p,Z⟩:=Qf (i+j);rw[Z]at U;rw[Z];have aY:p<n:=by omega
        go_wp2;exact⟨⟨j+1,by omega,by rw[<-Z];go_num,ah⟩,by simp[intOf];omega⟩
       ·have aS:j=S:=by omega
        subst aS;rw[T.o]at M;have d:=aC.o;have F:=T;have s:=ai;clear B ai K aC ah af;have B:=ag;have af:=B.o.size;obtain⟨p,Z⟩:=Qf (i+j);rw[Z]at U ak F s;rw[Z];have aY:p<=n:=by omega
        have a6:i<=p:=by omega
        go_wp2_with (at_builtin;refine wpList_append_own _ rfl _ _ 61 rfl H.heap.size 9 i0 (.string ⟨#[]⟩) 1 16 underlying61 hi aM aN aO rfl (by decide) _ _ _ rfl (d.alloc _) ⟨wr.heap.size,0,none⟩ 1 1 [.string (sA G)] rfl rfl ?c1 ?c2 ?c3 ?c4 ?c5 ?_)
        case c1=>
         intro j u A
         match j,A with
         |0,A=>simp at A;subst A;simp[Addr.add]
        case c2=>intro u hu;simp at hu;subst hu;rfl
        case c3=>unfold maxLen;omega
        case c4=>omega
        case c5=>simp;omega
        ·intro v' w5 P ab _;have ap:=I (Ke B.o af ab (fun k hk=>(d.lt k hk).1));rw[Jz]at P;have aq:=I P;clear P ab d;go_wp2;go_roundw
         case rel=>exact⟨k+1,p,b++[G],by omega,by omega,by go_num,by go_num,by simpa using aq.o,by simp;omega,by simp,F,s,ap⟩
         case measure=>simp[intOf];omega
     ·have b2:((z.toNat:Int)==42)=false:=(Js z 42).trans (Qr h42);by_cases h63:z=63
      ·subst h63;have b3:(((63:UInt8).toNat:Int)==63)=true:=rfl;have E:=Ws (r:=Y.drop (k+1)) (a:=X.drop i) (by rw[<-q.o];exact C.o);rw[List.length_drop,J.o,List.drop_drop]at E;obtain⟨ae,f⟩:=E;have F:=I f;have ak:(sA x).extract i (i+1)=sA ((x.drop i).take 1):=by rw[Kg,Nat.add_sub_cancel_left]
       have s:Hid (x::ZM Y x X=(b++[(x.drop i).take 1])++ZM (Y.drop (k+1)) (x.drop (i+1)) (X.drop (i+1))):=by
        show _=_
        rw[D.o,q.o,Wt,List.drop_drop,List.drop_drop,List.append_assoc];rfl
       obtain⟨G,aa⟩:=Qf ((x.drop i).take 1);rw[aa]at ak s;have a5:(i:Int)<(n:Int):=by omega
       clear aa f D C;go_wp2_with (at_builtin;refine wpList_append_own _ rfl _ _ 61 rfl H.heap.size 9 i0 (.string ⟨#[]⟩) 1 16 underlying61 hi aM aN aO rfl (by decide) _ _ _ rfl (d.alloc _) ⟨wr.heap.size,0,none⟩ 1 1 [.string (sA G)] rfl rfl ?c1 ?c2 ?c3 ?c4 ?c5 ?_)
       case c1=>
        intro j u A
        match j,A with
        |0,A=>simp at A;subst A;simp[Addr.add]
       case c2=>intro u hu;simp at hu;subst hu;rfl
       case c3=>unfold maxLen;omega
       case c4=>omega
       case c5=>simp;omega
       ·intro v' w5 P ab _;have ap:=I (Ke B.o af ab (fun k hk=>(d.lt k hk).1));rw[Jz]at P;have aq:=I P;clear P ab d;go_wp2;go_roundw
        case rel=>exact⟨k+1,i+1,b++[G],by omega,by omega,by go_num,by go_num,by simpa using aq.o,by simp;omega,by simp,F,s,ap⟩
        case measure=>simp[intOf];omega
      ·have b3:((z.toNat:Int)==63)=false:=(Js z 63).trans (Qr h63);by_cases h92:z=92
       ·by_cases hk1:k+1<m
        ·subst h92;have b4:(((92:UInt8).toNat:Int)==92)=true:=rfl;have aT:(k:Int)+1<(m:Int):=by omega
         have aV:k+1<(sA Y).size:=by omega
         have aA:=Gi aV;have E:=Wu (r:=Y.drop (k+2)) (a:=X.drop i) (by rw[<-aA,<-q.o];exact C.o);rw[List.length_drop,J.o,List.drop_drop]at E;obtain⟨ae,f⟩:=E;have F:=I f
         have s:Hid (x::ZM Y x X=b++ZM (Y.drop (k+2)) (x.drop (i+1)) (X.drop (i+1))):=by
          show _=_
          rw[D.o,q.o,aA,Wv,List.drop_drop,List.drop_drop]
         clear aA f D C q;have K:=I d;clear d;go_wp2;go_roundw
         case rel=>exact⟨k+2,i+1,b,by omega,by omega,by go_num,by go_num,K.o,by omega,aj,F,s,B⟩
         case measure=>simp[intOf];omega
        ·have b4:((z.toNat:Int)==92)=true:=(Js z 92).trans (QO h92);have aT:¬(k:Int)+1<(m:Int):=by omega
         have E:=F5 (r:=Y.drop (k+1)) (a:=X.drop i) h42 h63 (fun _=>Zi (by rw[HM.o];omega)) (by rw[<-q.o];exact C.o);rw[List.length_drop,J.o,List.drop_drop]at E;obtain⟨ae,f⟩:=E;have F:=I f
         have s:Hid (x::ZM Y x X=b++ZM (Y.drop (k+1)) (x.drop (i+1)) (X.drop (i+1))):=by
          show _=_
          rw[D.o,q.o,F6 h42 h63 (fun _=>Zi (by rw[HM.o];omega)),List.drop_drop,List.drop_drop]
         clear f D C q h92;have K:=I d;clear d;go_wp2;go_roundw
         case rel=>exact⟨k+1,i+1,b,by omega,by omega,by go_num,by go_num,K.o,by omega,aj,F,s,B⟩
         case measure=>simp[intOf];omega
       ·have b4:((z.toNat:Int)==92)=false:=(Js z 92).trans (Qr h92);have E:=F5 (r:=Y.drop (k+1)) (a:=X.drop i) h42 h63 (fun e=>absurd e h92) (by rw[<-q.o];exact C.o);rw[List.length_drop,J.o,List.drop_drop]at E;obtain⟨ae,f⟩:=E;have F:=I f
        have s:Hid (x::ZM Y x X=b++ZM (Y.drop (k+1)) (x.drop (i+1)) (X.drop (i+1))):=by
         show _=_
         rw[D.o,q.o,F6 h42 h63 (fun e=>absurd e h92),List.drop_drop,List.drop_drop]
        clear f D C q;have K:=I d;clear d;go_wp2;go_roundw
        case rel=>exact⟨k+1,i+1,b,by omega,by omega,by go_num,by go_num,K.o,by omega,aj,F,s,B⟩
        case measure=>simp[intOf];omega
    ·have aW:k=m:=by omega
     subst aW;have aX:¬(k:Int)<(k:Int):=by omega
     have s:Hid (x::ZM Y x X=b):=by show _=_;rw[D.o,Zi (by rw[HM.o];exact Qt),Ww,List.append_nil]
     obtain⟨g2,c2,rfl,a3,aG,aF,aE⟩:=Vo.of_owns d aj;have HC:=I aE;have aB:=I aF;clear aE d aF;by_cases h10:10<b.length
     ·have aR:(10:Int)<(b.length:Int):=by omega
      go_wp2;refine bodyPost_ret (v:=.tuple #[.slice (some ⟨g2,0,none⟩) 10 c2,.bool true]) (by simp[results,results116,go_sem]) rfl ?_;refine⟨_,by rw[L.o],Q.o.trans (B.o.mono ao),fun _=>?_⟩;rw[s.o];unfold UN;have hl:(b.take 10).length=10:=by rw[List.length_take];omega
      refine⟨g2,c2,by rw[hl],Qm ao aG,aB.o,fun j A=>?_⟩;rw[hl]at A;rw[HC.o j (by omega),List.getElem_take]
     ·have aR:¬(10:Int)<(b.length:Int):=by omega
      go_wp2;refine bodyPost_ret (v:=.tuple #[.slice (some ⟨g2,0,none⟩) b.length c2,.bool true]) (by simp[results,results116,go_sem]) rfl ?_;refine⟨_,by rw[L.o],Q.o.trans (B.o.mono ao),fun _=>?_⟩;rw[s.o];unfold UN;rw[List.take_of_length_le (by omega)];exact⟨g2,c2,rfl,Qm ao aG,aB.o,HC.o⟩
theorem TxL.of_ownsV(h:w.ownsRow B 9 1 v zs.length (Qw zs)):TxL w v zs:=by
 rcases h.2 with⟨a,b⟩ | ⟨g,c,e,d,_⟩
 ·exact Qd ⟨XB b,a⟩
 ·subst d;exact Qc ⟨g,c,rfl,Zm.of_owns h⟩
def HdB(w:World)(B:Nat)(M:Msg)(hv:Value):Prop:=∃ ha hq,hv=.slice ha M.hdrs.length hq/\∀ j (hj:j<M.hdrs.length),∃ g off,ha=some ⟨g,off,none⟩/\g<B/\w.cell? ⟨g,off+j*2,none⟩=some (.string (sA M.hdrs[j].1))/\w.cell? ⟨g,off+j*2+1,none⟩=some (.string (sA M.hdrs[j].2))
structure KU (M:Msg):Prop where
 fr:M.fr.length<=100000
 tu:M.to.length<=100000
 hl:M.hdrs.length<=100000
 hs:∀ h∈M.hdrs,h.1.length<=100000∧h.2.length<=100000
structure StV where
 hv:Value
 nv:Value
 vv:Value
 cv:Value
 av:Value
 ns:Qa
 vl:Qa
structure StI (w:World) (B sb:Nat) (M:Msg) (s:SS) (z:StV) (q:Nat) (kp en:Bool) (er pz:Int):Prop where
 hB:B<=sb
 blk:SB w sb M.fr M.to M.size z.hv s.vs z.nv z.vv z.cv z.av kp en er pz
 n:w.ownsRow B 9 1 z.nv z.ns.length (Qw z.ns)
 v:w.ownsRow B 9 1 z.vv z.vl.length (Qw z.vl)
 a:w.ownsRow B 52 2 z.av s.met.length (XZ s.met)
 c:s.vs=true->TxL w z.cv (s.told.take 10)
 c0:s.vs=false->z.cv=.slice none 0 0
 cap:∀ k,z.cv.ownBlock=some k->z.nv.ownBlock≠some k∧z.vv.ownBlock≠some k∧z.av.ownBlock≠some k∧k≠sb
 capt:∀ k,z.cv.ownBlock=some k->∃ cs,w.heap[k]?=some (.cells cs 9)
 nvv:∀ k,z.nv.ownBlock=some k->z.vv.ownBlock≠some k
 l:z.ns.length=z.vl.length
 nl:z.ns.length<=q
 vals:∀ x,s.vals x=lookV z.ns z.vl x
 h:HdB w B M z.hv
 mb:KU M
 vb:∀ t∈z.vl,t.length<=100000
 tb:∀ t∈s.told,t.length<=100000
 alone:∀ x∈s.met,x.1=4->s.met.length=1
 six:s.met.length<=6
theorem HdB.below{d:Value}(h:HdB w B M d)(c:Below B w w'):HdB w' B M d:=by
 obtain⟨m,o,e,f⟩:=h;refine⟨m,o,e,fun j n=>?_⟩;obtain⟨g,b,i,a,k,l⟩:=f j n;exact⟨g,b,i,a,by rw[c.cell (p:=⟨g,b+j*2,none⟩) a];exact k,by rw[c.cell (p:=⟨g,b+j*2+1,none⟩) a];exact l⟩
theorem StI.capl{z:StV}{d:Bool}{b e:Int}(h:StI w B sb M s z q d a b e):∀ k,z.cv.ownBlock=some k->k<w.heap.size:=fun k hk=>by
 obtain⟨f,c⟩:=h.capt k hk;exact Qh c
theorem JZ(h:∃ cs,w.heap[k]?=some (.cells cs 9))(a:w'.heap[k]?=w.heap[k]?):∃ cs,w'.heap[k]?=some (.cells cs 9):=by
 obtain⟨cs,b⟩:=h;exact⟨cs,a.trans b⟩
theorem StI.lt{z:StV}(h:StI w B sb M s z q kp en er pz):sb<w.heap.size:=Qh h.blk
theorem StI.below{w w':World}{B sb:Nat}{M:Msg}{s:SS}{z:StV}{q:Nat}{kp en:Bool}{er pz:Int}(h:StI w B sb M s z q kp en er pz)(hb:Below w.heap.size w w'):StI w' B sb M s z q kp en er pz:=
 ⟨h.hB,Zk h.blk hb,YV h.n hb,YV h.v hb,YV h.a hb,fun e=>(h.c e).belowV hb,h.c0,h.cap,fun k hk=>JZ (h.capt k hk) (hb.block k (h.capl k hk)),h.nvv,h.l,h.nl,h.vals,h.h.below (hb.mono (Qm h.hB (Nat.le_of_lt h.lt))),h.mb,h.vb,h.tb,h.alone,h.six⟩
theorem StI.more{z:StV}{q':Nat}(h:StI w B sb M s z q kp en er pz)(hq:q<=q'):StI w B sb M s z q' kp en er pz:=⟨h.hB,h.blk,h.n,h.v,h.a,h.c,h.c0,h.cap,h.capt,h.nvv,h.l,Qm h.nl hq,h.vals,h.h,h.mb,h.vb,h.tb,h.alone,h.six⟩
def YC(s:SS):SS:=if s.vs then s else VU s []
theorem F7(s:SS)(l:L8):expL (YC s) l=expL s l:=by
 cases h:s.vs with
 |true=>unfold YC;rw[if_pos h]
 |false=>
  have e:(YC s).vs=false:=by unfold YC;rw[if_neg (by rw[h];decide)];exact h
  unfold expL;rw[if_neg (by rw[e];decide),if_neg (by rw[h];decide)]
theorem StI.var{z:StV}{g:Bool}{b i:Int}(h:StI w B sb M s z q g a b i)(j:q<=1000000):UE w sb (YC s) z.nv z.vv z.cv z.ns z.vl:=by
 have f:(YC s).vs=s.vs:=by unfold YC;cases e:s.vs with
  |true=>rw[if_pos rfl];exact e
  |false=>exact e
 have d:(YC s).vals=s.vals:=by unfold YC;cases e:s.vs<;>rfl
 refine⟨by rw[f];exact Qn h.blk 4,Qn h.blk 5,Qn h.blk 6,Qn h.blk 7,TxL.of_ownsV h.n,TxL.of_ownsV h.v,?_,h.l,by have:=h.nl;omega,fun x=>by rw[d];exact h.vals x⟩
 cases e:s.vs with
 |true=>unfold YC;rw[if_pos e];exact h.c e
 |false=>
  unfold YC;rw[if_neg (by rw[e];decide)];exact Qd ⟨rfl,h.c0 e⟩
theorem AI(h:∀ t∈s.told,t.length<=100000):∀ t∈(YC s).told,t.length<=100000:=by
 unfold YC
 cases e:s.vs with
 |true=>rw[if_pos rfl];exact h
 |false=>intro t a;cases a
theorem StI.expand{z:StV}{b g:Int}(h:StI w B sb M s z q f a b g)(d:q<=1000000)(l:L8)(c:l.length<=100000) :
 Calls prog 76 #[.pointer (some ⟨sb,0,none⟩),.string (sA l)] w fun e w'=>e=.returned (.string (sA (expL s l)))/\Below w.heap.size w w':=by
 have:=F8 sb (YC s) z.nv z.vv z.cv z.ns z.vl l w (h.var d) c h.vb (AI h.tb);rw[F7]at this;exact this
theorem CQ(s:SS)(xs:Qa):xs.map (expL (YC s))=xs.map (expL s):=List.map_congr_left fun x _=>F7 s x
theorem StI.fields{z:StV}{y i:Bool}{k C:Int}(h:StI w B sb M s z q y i k C)(p:q<=1000000)(v:Value)(xs:Qa)(a:TxO w v xs)(t:xs.length<=100000)(u:∀ x∈xs,x.length<=100000) :
 Calls prog 71 #[.pointer (some ⟨sb,0,none⟩),v] w fun e w'=>∃ rv,e=.returned rv/\w'.ownsRow w.heap.size 9 1 rv (fieldsL M (xs.map (expL s))).length (Qw (fieldsL M (xs.map (expL s))))/\Below w.heap.size w w':=by
 obtain⟨n,r,l,m⟩:=h.h;have b:=h.mb;have:=F9 sb (YC s) z.nv z.vv z.cv z.ns z.vl M n r v xs w (h.var p) h.vb (AI h.tb) (by rw[<-l];exact Qn h.blk 3) (fun j o=>by obtain⟨g,A,c,_,d,f⟩:=m j o;exact⟨g,A,c,d,f⟩) a t u (by have:=b.hl;omega) (fun x a=>by have:=(b.hs x a).1;omega);rw[CQ]at this;exact this
theorem TxO.below{xs:Qa}(h:TxO w v xs)(k:Below w.heap.size w w'):TxO w' v xs:=by
 obtain⟨a,c,e,f⟩:=h;refine⟨a,c,e,fun j l=>?_⟩;obtain⟨g,d,i,b⟩:=f j l;exact⟨g,d,i,by rw[k.cell (p:=⟨g,d+j,none⟩) (QI b)];exact b⟩
theorem Cd:∀(k:List (Nat×UInt8)) (v a:L8) (t:L8),t∈JQ k v a->t.length<=v.length
 | [],_,_,t,h=>by cases h
 |p::k,v,a,t,h=>by
  rw[JQ]at h;by_cases hp:p.1=2
  ·rw[if_pos hp]at h;rcases List.mem_cons.1 h with h|h
   ·rw[h,List.length_take];omega
   ·have:=Cd k _ _ t h;rw[List.length_drop]at this;omega
  ·rw[if_neg hp]at h;rcases List.mem_append.1 h with h|h
   ·by_cases h0:p.1=0
    ·rw[if_pos h0]at h;cases h
    ·rw[if_neg h0]at h;rw[QY h,List.length_take];omega
   ·have:=Cd k _ _ t h;rw[List.length_drop]at this;omega
theorem Xd(h:w.ownsRow base e size v n xs)(l:v.ownBlock≠some b):(w.setCell ⟨b,o,none⟩ x).ownsRow base e size v n xs:=by
 refine⟨h.1,?_⟩;rcases h.2 with i | ⟨g,c,d,a,j,k,r⟩
 ·exact Qd i
 ·exact Qc ⟨g,c,d,a,j,by rw[Below.heap_setCell _ _ _ _ (fun f=>l (by rw[a,f];rfl))];exact k,r⟩
theorem ZI{a:Array Value}(h:w.ownsRow base e size v n xs)(c:w.heap[b]?=some (.cells a t))(he:e≠t):v.ownBlock≠some b:=fun hk=>by
 obtain⟨_,f,d⟩:=Ug h b _ hk c;injection d with e1 e2
 exact he e2.symm
theorem TxL.setV(h:TxL w v zs)(l:v.ownBlock≠some b):TxL (w.setCell ⟨b,o,none⟩ x) v zs:=by
 rcases h with h | ⟨g,c,d,i⟩
 ·exact Qd h
 ·exact Qc ⟨g,c,d,fun j k=>by rw[World.cell?_of_block (a:=⟨g,j,none⟩) (Below.heap_setCell _ _ _ _ (fun e=>l (by have f:g=b:=e;rw[d,f];rfl)))];exact i j k⟩
theorem StI.put{z:StV}{E:Bool}{A F g r:Int}(h:StI w B sb M s z q E u A F)(o:Nat)(x:Value)
 (C:SB (w.setCell ⟨sb,o,none⟩ x) sb M.fr M.to M.size z.hv s'.vs z.nv z.vv z.cv z.av p f g r) (j:s'.vs=s.vs) (D:s'.vals=s.vals) (m:s'.told=s.told) (d:s'.met=s.met):StI (w.setCell ⟨sb,o,none⟩ x) B sb M s' z q p f g r:=by
 have i:Mod sb w (w.setCell ⟨sb,o,none⟩ x):=(Mod.refl sb w).setCell _ _;refine⟨h.hB,C,Xd h.n (ZI h.n h.blk (by decide)),Xd h.v (ZI h.v h.blk (by decide)),by rw[d];exact Xd h.a (ZI h.a h.blk (by decide)),fun e=>?_,fun e=>h.c0 (by rw[<-j];exact e),h.cap,fun k b=>JZ (h.capt k b) (i.block k (h.capl k b) (h.cap k b).2.2.2),h.nvv,h.l,h.nl,fun y=>by rw[D];exact h.vals y,h.h.below (i.below h.hB h.lt),h.mb,h.vb,by rw[m];exact h.tb,by rw[d];exact h.alone,by rw[d];exact h.six⟩;rw[m];exact(h.c (by rw[<-j];exact e)).setV (fun t=>(h.cap sb t).2.2.2 rfl)
theorem StI.keep0{z:StV}(h:StI w B sb M s z q kp en er pz)(b:Bool):StI (w.setCell ⟨sb,9,none⟩ (.bool b)) B sb M s z q b en er pz:=h.put 9 _ (Qv _ _ _ _ _ _ h.blk) rfl rfl rfl rfl
theorem StI.disc{z:StV}(h:StI w B sb M s z q kp en er pz):StI (w.setCell ⟨sb,9,none⟩ (.bool false)) B sb M (KE s) z q false en er pz:=h.put 9 _ (Qv _ _ _ _ _ _ h.blk) rfl rfl rfl rfl
theorem StI.ends{z:StV}(h:StI w B sb M s z q kp en er pz):StI (w.setCell ⟨sb,10,none⟩ (.bool true)) B sb M s z q kp true er pz:=h.put 10 _ (Qv _ _ _ _ _ _ h.blk) rfl rfl rfl rfl
theorem StI.told0{z:StV}(h:StI w B sb M s z q kp en er pz){t:Qa}(hv:s.vs=false)(ht:∀ x∈t,x.length<=100000):StI w B sb M (VU s t) z q kp en er pz:=
 ⟨h.hB,h.blk,h.n,h.v,h.a,fun e=>absurd (show s.vs=true from e) (by rw[hv];decide),h.c0,h.cap,h.capt,h.nvv,h.l,h.nl,h.vals,h.h,h.mb,h.vb,ht,h.alone,h.six⟩
theorem Wx(x y:L8)(b:Int)(a:Bool)(w:World)(j:b=1\/b=2\/b=3)(c:x.length<=100000)(d:y.length<=100000) :
 Calls prog 116 #[.string (sA x),.string (sA y),.int .i64 b,.bool a] w fun e w'=>∃ cv,e=.returned (.tuple #[cv,.bool (wayB b a x y)])/\Below w.heap.size w w'/\(b=3->wayB b a x y=true->Vo w' w.heap.size cv (UN (x::ZM (lookL a y) x (lookL a x)))):=by
 rcases j with rfl|rfl|rfl
 ·exact(Wm x y a w c d).mono fun e w' h=>⟨_,h.1,h.2,fun e=>absurd e (by decide)⟩
 ·exact(Wn x y a w c d).mono fun e w' h=>⟨_,h.1,h.2,fun e=>absurd e (by decide)⟩
 ·refine(Wo x y a w c d).mono fun e w' h=>?_
  obtain⟨cv,f,g,i⟩:=h;exact⟨cv,f,g,fun _=>i⟩
theorem Vo.txl(h:Vo w B cv zs):TxL w cv zs:=by
 obtain⟨g,c,b,_,_,d⟩:=h;exact Qc ⟨g,c,b,fun j a=>by rw[d j a];simp[List.getD_eq_getElem?_getD,List.getElem?_eq_getElem a]⟩
theorem StI.told{z:StV}{j:Bool}{m r:Int}(h:StI w B sb M s z q p j m r){t:Qa}{B':Nat}(D:s.vs=true)(o:Vo w B' cv (UN t))(d:∀ k,z.nv.ownBlock=some k\/z.vv.ownBlock=some k\/z.av.ownBlock=some k\/k=sb->k<B')(F:0<(UN t).length)(A:∀ x∈t,x.length<=100000):StI (w.setCell ⟨sb,7,none⟩ cv) B sb M (VU s t) ⟨z.hv,z.nv,z.vv,cv,z.av,z.ns,z.vl⟩ q p j m r:=by
 have y:Mod sb w (w.setCell ⟨sb,7,none⟩ cv):=(Mod.refl sb w).setCell _ _;have E:=o.txl;obtain⟨g,c,C,H,u,G⟩:=o;have f:g≠sb:=by intro e;have:=d sb (Qc (Qc (Qc rfl)));omega
 have b:∀ k,cv.ownBlock=some k->k=g:=fun k b=>by rw[C]at b;simpa[Value.ownBlock,eq_comm]using b
 refine⟨h.hB,Qv _ _ _ _ _ _ h.blk,Xd h.n (ZI h.n h.blk (by decide)),Xd h.v (ZI h.v h.blk (by decide)),Xd h.a (ZI h.a h.blk (by decide)),fun _=>E.setV (fun e=>f (b sb e).symm),fun e=>?_,fun k e=>?_,fun k e=>?_,h.nvv,h.l,h.nl,h.vals,h.h.below (y.below h.hB h.lt),h.mb,h.vb,A,h.alone,h.six⟩
 ·have i:s.vs=false:=e;rw[D]at i;cases i
 ·have:=b k e;subst this;exact⟨fun e=>by have:=d _ (Qd e);omega,fun e=>by have:=d _ (Qc (Qd e));omega,fun e=>by have:=d _ (Qc (Qc (Qd e)));omega,f⟩
 ·have:=b k e;subst this;exact JZ u (Below.heap_setCell _ _ _ _ f)
theorem Wy(c:Int)(b:Bool)(v:L8)(f:L8->L8){a:Qa}(h:k<a.length):K7 c b v ((a.map f).drop k)=if wayB c b v (f a[k])=true then some (f a[k])else K7 c b v ((a.map f).drop (k+1)):=by
 rw[List.drop_eq_getElem_cons (by simpa using h),List.getElem_map];rfl
theorem Wz(d:Int)(c:Bool)(b:Qa){a:Qa}(h:i<a.length):KF d c b (a.drop i)=match K7 d c a[i] b with
 |some k=>some (a[i],k)
 |none=>KF d c b (a.drop (i+1)):=by
 rw[List.drop_eq_getElem_cons h];rfl
theorem WA(a:Bool)(v k:L8):VV 3 a v k=some (v::ZM (lookL a k) v (lookL a v)):=by
 unfold VV;rw[if_pos rfl,WB];rfl
theorem WC{a:Int}(b:Bool)(v k:L8)(h:¬ a=3):VV a b v k=none:=by unfold VV;rw[if_neg h]
theorem VB(B sb:Nat)(M:Msg)(s:SS)(z:StV)(q:Nat)(kp en:Bool)(er pz:Int)(X Z:Value)(vals keys:Qa)(tag:Int)(oct:Bool)(w:World)(h:StI w B sb M s z q kp en er pz)(hq:q<=1000000)(hv:TxO w X vals)(hk:TxO w Z keys)(u:tag=1\/tag=2\/tag=3)(aF:vals.length<=10000000000)(aE:keys.length<=10000000000)(ai:∀ x∈vals,x.length<=100000)(af:∀ x∈keys,x.length<=100000) :
 Calls prog 72 #[.pointer (some ⟨sb,0,none⟩),X,Z,.int .i64 tag,.bool oct] w fun e w'=>e=.returned (.bool (Z9 s tag oct vals keys).1)/\Mod sb w w'/\∃ z',StI w' B sb M (Z9 s tag oct vals keys).2 z' q kp en er pz:=by
 obtain⟨va,vc,rfl,aj⟩:=hv;obtain⟨ka,kc,rfl,ag⟩:=hk;have HV:=I aj;have HK:=I ag;have H:=I h;have ar:=I ai;have U:=I af;have aB:=h.lt;have c4:=QJ h.blk
 have ap:∀ k,z.nv.ownBlock=some k\/z.vv.ownBlock=some k\/z.av.ownBlock=some k\/k=sb->k<w.heap.size:=fun k e=>by
  rcases e with e|e|e|e
  ·exact(h.n.lt k e).2
  ·exact(h.v.lt k e).2
  ·exact(h.a.lt k e).2
  ·rw[e];exact aB
 have aw:=I ap
 have HASK:Hid (Z9 s tag oct vals keys=match KF tag oct (keys.map (expL s)) vals with
  |none=>(false,s)
  | some (v,k)=>(true,match VV tag oct v k with
   |some t=>VU s t
   | none=>s)):=rfl
 have HT:=I u;clear aj ag h ai af ap u;go_enter func72,ntmps72;go_wp2
 go_loopw [11,12] (fun Q _ wr=>∃(i:Nat),i<=vals.length/\Q=.int .i64 i/\Hid (Below w.heap.size w wr)/\Hid (KF tag oct (keys.map (expL s)) vals=KF tag oct (keys.map (expL s)) (vals.drop i))) (fun Q _ _=>vals.length - (intOf Q).toNat)
 case atStart=>exact⟨0,QC,rfl,Below.refl _ _,rfl⟩
 case round=>
  obtain⟨i,hi,rfl,c,F⟩:=hrel;by_cases hil:i<vals.length
  ·have az:(i:Int)<(vals.length:Int):=by omega
   have J:=I (Wz tag oct (keys.map (expL s)) hil);go_wp2
   go_loopw [12] (fun R wi=>∃(k:Nat),k<=keys.length/\R=.int .i64 k/\Hid (Below w.heap.size w wi)/\Hid (K7 tag oct vals[i] (keys.map (expL s))=K7 tag oct vals[i] ((keys.map (expL s)).drop k))) (fun R _=>keys.length - (intOf R).toNat)
   case atStart=>exact⟨0,QC,rfl,c,rfl⟩
   case round=>
    clear c;obtain⟨k,aD,rfl,c,m⟩:=hrel;by_cases hkl2:k<keys.length
    ·have aA:(k:Int)<(keys.length:Int):=by omega
     have f:=I (Wy tag oct vals[i] (expL s) hkl2);obtain⟨gk,ok,rfl,K⟩:=HK.o k hkl2;obtain⟨gv,ov,rfl,L⟩:=HV.o i hil;have Y:wr.cell? ⟨gk,ok+k,none⟩=some (.string (sA keys[k])):=by rw[c.o.cell (p:=⟨gk,ok+k,none⟩) (QI K)];exact K
     have r:=I ((H.o.below c.o).expand hq keys[k] (U.o _ (List.getElem_mem hkl2)));have ae:=VI s (U.o _ (List.getElem_mem hkl2));obtain⟨y,hy⟩:=Qf (expL s keys[k]);rw[hy]at r ae f;have A:=ar.o _ (List.getElem_mem hil);obtain⟨x,P⟩:=Qf (vals[i]);rw[P]at L f m J A;obtain⟨yk,ao⟩:=Qf (keys[k]);rw[ao]at Y r;have T:=I L;have aC:=c.o.size;have au:=I P;clear hy P ao K L;go_wp2_with fail;refine r.o.mono ?_;rintro e w2 ⟨rfl,aa⟩;have C:=I (c.o.trans (aa.mono aC));have ak:=C.o.size;have b2:w2.cell? ⟨gv,ov+i,none⟩=some (.string (sA x)):=by rw[C.o.cell (p:=⟨gv,ov+i,none⟩) (QI T.o)];exact T.o
     have V:=I (Wx x y tag oct w2 HT.o A ae);clear aa r Y;go_wp2_with fail;refine V.o.mono ?_;rintro e S ⟨cv,rfl,ab,ac⟩;have d:=I (C.o.trans (ab.mono ak));have j:=I ac;have g:=H.o.below d.o;have G:=I g;have d4:=QJ g.blk;have d7:=YT g.blk;have df:=Qz g.blk;clear ab ac V b2 g;obtain⟨t,N⟩:=Qf (wayB tag oct x y);rw[N]at f j;rw[N];clear N
     cases t with
     |false=>
      have aq:Hid (K7 tag oct x (keys.map (expL s))=K7 tag oct x ((keys.map (expL s)).drop (k+1))):=by show _=_;rw[m.o,f.o,if_neg (by decide)]
      go_wp2;exact⟨⟨k+1,by omega,by go_num,d,by rw[au.o];exact aq⟩,by simp[intOf];omega⟩
     |true=>
      have l:Hid (KF tag oct (keys.map (expL s)) vals=some (x,y)):=by show _=_;rw[F.o,J.o,m.o,f.o,if_pos rfl]
      by_cases ht3:tag=3
      ·have b3:(tag==3)=true:=by simpa using ht3
       have b:Hid (Z9 s tag oct vals keys=(true,VU s (x::ZM (lookL oct y) x (lookL oct x)))):=by
        show _=_
        rw[HASK.o,l.o,ht3];simp only[WA]
       have ad:=j.o ht3 rfl
       have W:Hid (∀ t∈x::ZM (lookL oct y) x (lookL oct x),t.length<=100000):=by
        intro t u;rcases List.mem_cons.1 u with e|e
        ·rw[e];exact A
        ·exact Qm (Cd _ _ _ _ e) A
       have D:=I ad;clear ht3 ad j l
       cases hvs:s.vs with
       |true=>
        rw[hvs]at d4;have E:=I (G.o.told hvs D.o (fun k e=>Nat.lt_of_lt_of_le (aw.o k e) ak) (by unfold UN;simp) W.o);obtain⟨g9,c9,h9,_⟩:=D.o;obtain⟨n9,ah⟩:=Qf ((UN (x::ZM (lookL oct y) x (lookL oct x))).length);rw[ah]at h9;clear hvs ah D;subst h9;go_wp2;go_ret;exact⟨Zs (by rw[b.o]),(Mod.of_below d.o).trans ((Mod.refl sb S).setCell _ _),_,by rw[b.o];exact E.o⟩
       |false=>
        rw[hvs]at d4;have E:=I (G.o.told0 hvs W.o);clear hvs;go_wp2;go_ret;exact⟨Zs (by rw[b.o]),Mod.of_below d.o,_,by rw[b.o];exact E.o⟩
      ·have b3:(tag==3)=false:=by simpa using ht3
       have b:Hid (Z9 s tag oct vals keys=(true,s)):=by
        show _=_
        rw[HASK.o,l.o];simp only[WC oct x y ht3]
       clear ht3 j l;go_wp2;go_ret;exact⟨Zs (by rw[b.o]),Mod.of_below d.o,_,by rw[b.o];exact G.o⟩
    ·have ay:k=keys.length:=by omega
     subst ay;have aA:¬(keys.length:Int)<(keys.length:Int):=by omega
     have b:Hid (KF tag oct (keys.map (expL s)) vals=KF tag oct (keys.map (expL s)) (vals.drop (i+1))):=by
      show _=_
      rw[F.o,J.o,m.o,Zi (by simp)];rfl
     go_wp2;go_roundw
     case rel=>exact⟨i+1,by omega,by go_num,c,b⟩
     case measure=>simp[intOf];omega
  ·have az:¬(i:Int)<(vals.length:Int):=by omega
   have ax:i=vals.length:=by omega
   subst ax;have b:Hid (Z9 s tag oct vals keys=(false,s)):=by show _=_;rw[HASK.o,F.o,Zi Qt];rfl
   go_wp2;go_ret;exact⟨Zs (by rw[b.o]),Mod.of_below c.o,z,by rw[b.o];exact H.o.below c.o⟩
end
section
open Go.RowKit
def As(t:TypeId):Bool:=t != 104&&t != 9&&t != 52
def KB(w w':World):Prop:=∀(k:Nat) (cs:Array Value) (t:TypeId),w.heap[k]?=some (.cells cs t)->As t=true->w'.heap[k]?=some (.cells cs t)
theorem KB.trans{a b c:World}(h:KB a b)(h':KB b c):KB a c:=fun k cs t hk ht=>h' k cs t (h k cs t hk ht) ht
theorem Ym(h:Below w.heap.size w w'):KB w w':=fun k cs t hk _=>by rw[h.block k (Qh hk)];exact hk
theorem JY(h:Mod b w w'){c:Array Value}(a:w.heap[b]?=some (.cells c t))(d:As t=false):KB w w':=fun k cs' t' hk ht'=>by
 rw[h.block k (Qh hk) (fun e=>by subst e;rw[hk]at a;injection a with a;injection a with _ a;rw[a,d]at ht';cases ht')];exact hk
theorem VJ{cs:Array Value}(hb:w.heap[b]?=some (.cells cs t))(ht:As t=false)(o:Nat)(v:Value):KB w (w.setCell ⟨b,o,none⟩ v):=JY ((Mod.refl b w).setCell o v) hb ht
theorem NE{a:World}(h:w.ownsRow base e size v n xs)(he:As e=false)(d:∀ k,k<w.heap.size->some k≠v.ownBlock->a.heap[k]?=w.heap[k]?):KB w a:=fun k cs t hk ht=>by
 rw[d k (Qh hk) (fun b=>ZI h hk (fun c=>by rw[<-c,he]at ht;cases ht) b.symm)];exact hk
end
section
open Go.RowKit
attribute [local go_sem ↓] Go.wp_at_zero Go.wp_at_succ
theorem Tryz.infoActionV:(prog.info? 52).map (fun i=>(i.zero,i.size,i.bytes))=some (some (.agg #[.int .i64 0,.string ⟨#[]⟩]),2,24):=by kernel_rfl
theorem Ha(a b:Int×L8)(W:World):(binOp .eql 52 (.agg #[.int .i64 a.1,.string (sA a.2)]) (.agg #[.int .i64 b.1,.string (sA b.2)])).run prog W=.ok (.bool (decide (a=b))) W:=by
 have c:((sA a.2).toList==(sA b.2).toList)=decide (a.2=b.2):=Ky a.2 b.2;have d:prog.underlying 52=some (.struct (prog.fieldsOf 52)):=by kernel_rfl
 have f:prog.stoodInHeld 52=false:=by kernel_rfl
 have e:(prog.fieldsOf 52).toList=[⟨ "Kind",3,0,false, "", "",0⟩,⟨ "Arg",9,1,false, "", "",8⟩]:=by kernel_rfl
 rw[run_eql_struct,run_equalIn_struct W _ _ _ _ d f,e];simp[Op.eqFields,go_sem,Result.andThen,c];obtain⟨x,y⟩:=a;obtain⟨z,u⟩:=b;by_cases h1:x=z<;>by_cases h2:y=u<;>simp[h1,h2]
theorem WD(w:World)(x:Int×L8)(t:TypeId):∀ j u,[Value.int .i64 x.1,.string (sA x.2)][j]?=some u->(w.alloc (.cells #[.int .i64 x.1,.string (sA x.2)] t)).cell? ((⟨w.heap.size,0,none⟩:Addr).add j)=some u:=by
 intro j u a
 match j,a with
 |0,a=>simp at a;subst a;simp[Addr.add]
 |1,a=>simp at a;subst a;simp[Addr.add]
theorem WE(x:Int×L8):∀ u∈[Value.int .i64 x.1,Value.string (sA x.2)],u.oneCell'=true:=by
 intro u a;simp at a;rcases a with rfl|rfl<;>rfl
theorem Kw(h:w.ownsRow base e size v n xs)(g:∀ k,v.ownBlock=some k->w'.heap[k]?=w.heap[k]?):w'.ownsRow base e size v n xs:=by
 refine⟨h.1,?_⟩;rcases h.2 with f | ⟨a,c,d,b,i,j,r⟩
 ·exact Qd f
 ·exact Qc ⟨a,c,d,b,i,by rw[g a (by rw[b];rfl)];exact j,r⟩
theorem TxL.of(h:TxL w v zs)(e:∀ k,v.ownBlock=some k->w'.heap[k]?=w.heap[k]?):TxL w' v zs:=by
 rcases h with h | ⟨g,c,b,d⟩
 ·exact Qd h
 ·exact Qc ⟨g,c,b,fun j f=>by rw[World.cell?_of_block (a:=⟨g,j,none⟩) (w:=w) (e g (by rw[b];rfl))];exact d j f⟩
theorem Un{j:List Value}(h:w.ownsRow base e size v n xs)(d:w.ownsRow b t i v' g j)(he:e≠t):∀ k,v.ownBlock=some k->v'.ownBlock≠some k:=fun k hk hk'=>by
 rcases d.2 with⟨a,_⟩ | ⟨c,l,m,a,_,f,_⟩
 ·rw[a]at hk';cases hk'
 ·have:c=k:=by rw[a]at hk';simpa[Value.ownBlock]using hk'
  subst this;exact ZI h f he hk
theorem StI.modS{z:StV}{C t i:Bool}{u D j r:Int}(h:StI w B sb M s z q C t u D)(d:Mod sb w w')
 (x:SB w' sb M.fr M.to M.size z.hv s'.vs z.nv z.vv z.cv z.av p i j r) (m:s'.vs=s.vs) (A:s'.vals=s.vals) (o:s'.told=s.told) (f:s'.met=s.met):StI w' B sb M s' z q p i j r:=by
 have b:∀ {e:TypeId} {size:Nat} {v:Value} {n:Nat} {xs:List Value},w.ownsRow B e size v n xs->e≠104->w'.ownsRow B e size v n xs:=fun g he=>Kw g fun k b=>d.block k (g.lt k b).2 (fun e=>ZI g h.blk he (by rw[<-e];exact b))
 refine⟨h.hB,x,b h.n (by decide),b h.v (by decide),by rw[f];exact b h.a (by decide),fun e=>?_,fun e=>h.c0 (by rw[<-m];exact e),h.cap,fun k b=>JZ (h.capt k b) (d.block k (h.capl k b) (h.cap k b).2.2.2),h.nvv,h.l,h.nl,fun y=>by rw[A];exact h.vals y,h.h.below (d.below h.hB h.lt),h.mb,h.vb,by rw[o];exact h.tb,by rw[f];exact h.alone,by rw[f];exact h.six⟩;rw[o];exact(h.c (by rw[<-m];exact e)).of fun k b=>d.block k (h.capl k b) (h.cap k b).2.2.2
theorem StI.fail{z:StV}{b:Bool}{f:Int}(h:StI w B sb M s z q a b 0 f)(e p:Int) :
 Calls prog 46 #[.pointer (some ⟨sb,0,none⟩),.int .i64 e,.int .i64 p] w fun x w'=>x=.returned (.tuple #[])/\Mod sb w w'/\StI w' B sb M s z q a true e p:=by
 refine(WF sb M.fr M.to M.size z.hv s.vs z.nv z.vv z.cv z.av a b 0 f e p w h.blk).mono ?_;rintro x w' ⟨g,c,d⟩;rw[if_pos rfl,if_pos rfl,if_pos rfl]at d;exact⟨g,c,h.modS c d rfl rfl rfl rfl⟩
theorem StI.metS{z:StV}(h:StI w B sb M s z q kp en er pz):StI w B sb M (YW s s.met) z q kp en er pz:=h
theorem StI.growA{f:World}{z:StV}{m:Bool}{o y:Int}(h:StI w B sb M s z q u m o y)(j:∀ k,k<w.heap.size->some k≠z.av.ownBlock->f.heap[k]?=w.heap[k]?)(H:Below B w f){met':List (Int×L8)}(r:f.ownsRow B 52 2 v' met'.length (XZ met'))(hv:v'.ownBlock=z.av.ownBlock\/∀ k,v'.ownBlock=some k->w.heap.size<=k)(G:∀ x∈met',x.1=4->met'.length=1)(F:met'.length<=6) :
 StI (f.setCell ⟨sb,8,none⟩ v') B sb M (YW s met') ⟨z.hv,z.nv,z.vv,z.cv,v',z.ns,z.vl⟩ q u m o y:=by
 have L:f.heap[sb]?=w.heap[sb]?:=j sb h.lt (fun e=>ZI h.a h.blk (by decide) e.symm);have i:=h.blk;unfold SB at i;rw[<-L]at i;have K:Mod sb f (f.setCell ⟨sb,8,none⟩ v'):=(Mod.refl sb f).setCell _ _;have p:f.ownsRow B 9 1 z.nv z.ns.length (Qw z.ns):=Kw h.n fun k d=>j k (h.n.lt k d).2 (fun e=>Un h.n h.a (by decide) k d e.symm)
 have t:f.ownsRow B 9 1 z.vv z.vl.length (Qw z.vl):=Kw h.v fun k d=>j k (h.v.lt k d).2 (fun e=>Un h.v h.a (by decide) k d e.symm)
 refine⟨h.hB,Qv _ _ _ _ _ _ i,Xd p (ZI p i (by decide)),Xd t (ZI t i (by decide)),Xd r (ZI r i (by decide)),fun e=>?_,h.c0,fun k d=>?_,fun k d=>JZ (JZ (h.capt k d) (j k (h.capl k d) (fun g=>(h.cap k d).2.2.1 g.symm))) (Below.heap_setCell _ _ _ _ (h.cap k d).2.2.2),h.nvv,h.l,h.nl,h.vals,(h.h.below H).below (K.below h.hB (Qh i)),h.mb,h.vb,h.tb,G,F⟩
 ·have J:=h.c e;refine TxL.setV (b:=sb) ?_ (fun g=>(h.cap sb g).2.2.2 rfl);exact J.of fun k d=>j k (h.capl k d) (fun g=>(h.cap k d).2.2.1 g.symm)
 ·obtain⟨A,C,D,E⟩:=h.cap k d;refine⟨A,C,fun g=>?_,E⟩;rcases hv with hv|hv
  ·exact D (by rw[<-hv];exact g)
  ·have:=hv k g;have:=h.capl k d;omega
theorem StI.appA{wr c:World}{z:StV}{v:Bool}{r w:Int}(h:StI wr B sb M s z q v p r w){la:Option Addr}{f:Nat}{a:Int×L8}{g:Obj}(l:z.av=.slice la s.met.length o)(u:(wr.alloc g).drew.grownBy c (Value.slice la s.met.length o).ownBlock)
 (F:c.ownsRow B 52 2 (.slice (some ⟨b,0,none⟩) (s.met.length+1) f) (s.met.length+1) (XZ s.met++[.int .i64 a.1,.string (sA a.2)])) (E:(Value.slice la s.met.length o).ownBlock=some b\/b=(wr.alloc g).drew.heap.size) (D:∀ x∈s.met++[a],x.1=4->(s.met++[a]).length=1) (H:s.met.length<=5) :
 ∃ z',StI (c.setCell ⟨sb,8,none⟩ (.slice (some ⟨b,0,none⟩) (s.met.length+1) f)) B sb M (YW s (s.met++[a])) z' q v p r w/\Below B wr (c.setCell ⟨sb,8,none⟩ (.slice (some ⟨b,0,none⟩) (s.met.length+1) f))/\KB wr (c.setCell ⟨sb,8,none⟩ (.slice (some ⟨b,0,none⟩) (s.met.length+1) f)):=by
 have n:(wr.alloc g).drew.heap.size=wr.heap.size+1:=by show(wr.heap.push g).size=_;simp
 have A:B<=wr.heap.size:=Qm h.hB (Nat.le_of_lt h.lt)
 have t:Below B wr c:=by
  have y:Below B wr (wr.alloc g).drew:=((Below.refl _ _).alloc A g).drew;exact y.grown u (by rw[n];omega) (fun k d=>(h.a.lt k (by rw[l];exact d)).1)
 have j:∀ k,k<wr.heap.size->some k≠z.av.ownBlock->c.heap[k]?=wr.heap[k]?:=fun k d m=>by
  rw[u.block k (by rw[n];omega) (by rw[<-l];exact m)];exact Below.heap_alloc _ _ _ d
 have G:c.heap[sb]?=wr.heap[sb]?:=j sb h.lt (fun e=>ZI h.a h.blk (by decide) e.symm);have i:=h.blk;unfold SB at i;rw[<-G]at i;have C:KB wr (c.setCell ⟨sb,8,none⟩ (.slice (some ⟨b,0,none⟩) (s.met.length+1) f)):=(NE h.a (by decide) j).trans (VJ i (by decide) _ _);refine⟨_,h.growA (v':=.slice (some ⟨b,0,none⟩) (s.met.length+1) f) (met':=s.met++[a]) (fun k d m=>?_) t ?_ ?_ D (by rw[Qk];simp;omega),t.setCell (by exact h.hB) _,C⟩
 ·exact j k d m
 ·rw[Qk,<-WG];exact F
 ·rw[l];rcases E with e|e
  ·exact Qd e.symm
  ·right;intro k d;have:b=k:=by simpa[Value.ownBlock]using d
   rw[n]at e;omega
def Jl(met:List (Int×L8))(a:Int×L8):Int×List (Int×L8):=
 if a∈met then(0,met)
 else if met≠[]/\(a.1=4\/(met.headD (0,[])).1=4)then(10,met)
 else if met.length=6 then(11,met)
 else(0,met++[a])
def UO(a:Int×L8)(l:List (Int×L8)):Bool:=l.any fun x=>decide (x=a)
theorem Hb(a:Int×L8)(l:List (Int×L8)):UO a l=true↔a∈l:=by
 unfold UO;simp
theorem WH(a:Int×L8)(l:List (Int×L8))(k:Nat)(h:k<l.length):UO a (l.drop k)=(decide (l[k]=a) || UO a (l.drop (k+1))):=by
 rw[List.drop_eq_getElem_cons h];rfl
def JX(B sb:Nat)(M:Msg)(s:SS)(q:Nat)(kp en:Bool)(pz p:Int)(r:Int×List (Int×L8))(w':World):Prop:=
 ∃ z',StI w' B sb M (YW s r.2) z' q kp (if r.1=0 then en else true) r.1 (if r.1=0 then pz else p)
theorem JX.err{z:StV}{b:Bool}{c p e:Int}(d:r=(e,s.met))(he:¬ e=0)(h:StI w' B sb M s z q a true e p):JX B sb M s q a b c p r w':=by
 subst d;refine⟨z,?_⟩;show StI w' B sb M s z q a (if e=0 then b else true) e (if e=0 then c else p)
 rw[if_neg he,if_neg he];exact h
theorem JX.ok{z:StV}{b:Bool}{c p:Int}{m:List (Int×L8)}(d:r=(0,m))(h:StI w' B sb M (YW s m) z q b a 0 c):JX B sb M s q b a c p r w':=by
 subst d;exact⟨z,h⟩
theorem Dh(B sb:Nat)(M:Msg)(s:SS)(z:StV)(q:Nat)(kp en:Bool)(pz:Int)(a:Int×L8)(p:Int)(w:World)(h:StI w B sb M s z q kp en 0 pz) :
 Calls prog 79 #[.pointer (some ⟨sb,0,none⟩),.agg #[.int .i64 a.1,.string (sA a.2)],.int .i64 p] w fun e w'=>e=.returned (.tuple #[])/\(Below B w w'/\KB w w')/\JX B sb M s q kp en pz p (Jl s.met a) w':=by
 obtain⟨la,G,ab⟩:=ZC h.a;have c8:w.cell? ⟨sb,8,none⟩=some (.slice la s.met.length G):=by rw[<-ab];exact Qn h.blk 8
 have R:=h.lt;have h6:=h.six;have H:=I h;have HE:=I Ha;have J:B<=w.heap.size:=Qm h.hB (Nat.le_of_lt h.lt);have K:=I ab;clear h ab;go_enter func79,ntmps79;go_wp2
 go_loopw [6] (fun F wr=>∃(k:Nat),k<=s.met.length/\F=.int .i64 k/\Hid (Below w.heap.size w wr)/\Hid (wr.heap[w.heap.size]?=some (.cells #[.int .i64 a.1,.string (sA a.2)] 52))/\Hid (UO a s.met=UO a (s.met.drop k))) (fun F _=>s.met.length - (intOf F).toNat)
 case atStart=>exact⟨0,QC,rfl,Qs _,QA _ _,rfl⟩
 case round=>
  obtain⟨k,hk,rfl,b,n,f⟩:=hrel;have Z:wr.cell? ⟨sb,8,none⟩=some (.slice la s.met.length G):=by rw[b.o.cell (p:=⟨sb,8,none⟩) R];exact c8
  have p0:=Qj n.o;have p1:=Qo n.o;by_cases hkl:k<s.met.length
  ·have ac:(k:Int)<(s.met.length:Int):=by omega
   have N:=I (WH a s.met k hkl);have E:=YV H.o.a b.o;rw[K.o]at E;obtain⟨g,c,hv,aB,aC,D⟩:=Y7 E (by omega);injection hv with hv1 hv2 hv3
   subst hv1;have q0:=D (k*2) _ (Gj s.met k hkl).1;have q1:=D (k*2+1) _ (Gj s.met k hkl).2;have hq:=HE.o s.met[k] a;obtain⟨d,Q⟩:=Qf (s.met[k]);rw[Q]at q0 q1 hq N;clear D E hv2 hv3 Q;by_cases he:d=a
   ·rw[QO he]at hq N
    have m:Hid (Jl s.met a=(0,s.met)):=by
     show _=_
     unfold Jl;rw[if_pos ((Hb a s.met).1 (by rw[f.o,N.o,Bool.true_or]))]
    clear he;go_wp2;go_region;go_wp2;refine bodyPost_ret (v:=.tuple #[]) (by simp[results,results79,go_sem]) rfl ?_;exact⟨rfl,⟨(b.o.mono J).drew,Ym b.o.drew⟩,z,by rw[m.o];exact(H.o.below b.o.drew).metS⟩
   ·rw[Qr he]at hq N;have i:Hid (UO a s.met=UO a (s.met.drop (k+1))):=by show _=_;rw[f.o,N.o,Bool.false_or]
    clear he;go_wp2;go_region;go_wp2;exact⟨⟨k+1,by omega,by go_num,b.o.drew,n,i⟩,by simp[intOf];omega⟩
  ·have aa:k=s.met.length:=by omega
   subst aa;have ac:¬(s.met.length:Int)<(s.met.length:Int):=by omega
   have ad:Hid (¬ a∈s.met):=by
    intro e;have:=(Hb a s.met).2 e;rw[f.o,Zi Qt]at this;cases this
   have X:Hid (Jl s.met a=if s.met≠[]/\(a.1=4\/(s.met.headD (0,[])).1=4)then(10,s.met)else if s.met.length=6 then(11,s.met)else(0,s.met++[a])):=by
    show _=_
    unfold Jl;rw[if_neg ad.o]
   clear f p0 p1;have ag:=b;have ah:=n;clear b n;go_wp2
   go_loopw [7] (fun F wr=>∃(k:Nat),k<=s.met.length/\F=.int .i64 k/\Hid (Below w.heap.size w wr)/\Hid (wr.heap[w.heap.size]?=some (.cells #[.int .i64 a.1,.string (sA a.2)] 52))/\Hid (0<k->¬(a.1=4\/(s.met.headD (0,[])).1=4))) (fun F _=>s.met.length - (intOf F).toNat)
   case atStart=>exact⟨0,QC,rfl,ag,ah,fun e=>absurd e (by omega)⟩
   case round=>
    clear ag ah Z;obtain⟨k,hk,rfl,b,n,f⟩:=hrel;have Z:wr.cell? ⟨sb,8,none⟩=some (.slice la s.met.length G):=by rw[b.o.cell (p:=⟨sb,8,none⟩) R];exact c8
    have p0:=Qj n.o;have p1:=Qo n.o;by_cases hkl:k<s.met.length
    ·have ac:(k:Int)<(s.met.length:Int):=by omega
     have E:=YV H.o.a b.o;rw[K.o]at E;obtain⟨g,c,hv,aB,aC,D⟩:=Y7 E (by omega);injection hv with hv1 hv2 hv3
     subst hv1;have q0:=D (k*2) _ (Gj s.met k hkl).1;have q1:=D (k*2+1) _ (Gj s.met k hkl).2
     have Y:Hid (k=0->(s.met.headD (0,[])).1=s.met[k].1):=by
      intro e
      have U:∀(l:List (Int×L8)) (h:k<l.length),k=0->(l.headD (0,[])).1=(l[k]'h).1:=fun l h e=>by subst e;cases l with
       |nil=>exact absurd h (Nat.not_lt_zero _)
       |cons x r=>rfl
      exact U s.met hkl e
     have S:Hid (0<k->¬ s.met[k].1=4):=fun P e=>by
      have:=H.o.alone _ (List.getElem_mem hkl) e;omega
     have ax:Hid (s.met≠[]):=fun e=>by rw[e]at hkl;exact absurd hkl (Nat.not_lt_zero _)
     have aI:=I (H.o.below b.o);obtain⟨d,Q⟩:=Qf (s.met[k]);rw[Q]at q0 q1 Y S;clear D E hv2 hv3 Q;have T:=I ((H.o.below b.o).fail 10 p);have aJ:=I ((H.o.below b.o.drew).fail 10 p)
     have ak:(d.1=4\/a.1=4)->Jl s.met a=(10,s.met):=fun e=>by
      by_cases P:0<k
      ·exfalso;rcases e with e|e
       ·exact S.o P e
       ·exact f.o P (Qd e)
      ·rw[X.o,if_pos ⟨ax.o,by rw[Y.o (by omega)];exact e.symm⟩]
     have aj:¬(d.1=4\/a.1=4)->¬(a.1=4\/(s.met.headD (0,[])).1=4):=fun e=>by
      by_cases P:0<k
      ·exact f.o P
      ·rw[Y.o (by omega)];exact fun t=>e t.symm
     have ae:=I ak;have ay:=I aj;clear ak aj;by_cases e1:d.1=4
     ·have b1:(d.1==4)=true:=by simpa using e1
      have m:=I (ae.o (Qd e1));clear e1;go_wp2_with fail;refine T.o.mono ?_;rintro e w2 ⟨rfl,A,u⟩;have i:=I A;have L:=I u;clear A u;go_wp2;refine bodyPost_ret (v:=.tuple #[]) (by simp[results,results79,go_sem]) rfl ?_;exact⟨rfl,⟨(b.o.mono J).trans (i.o.below H.o.hB (Nat.lt_of_lt_of_le R b.o.size)),(Ym b.o).trans (JY i.o (H.o.below b.o).blk (by decide))⟩,JX.err m.o (by decide) L.o⟩
     ·have b1:(d.1==4)=false:=by simpa using e1
      by_cases t:a.1=4
      ·have b2:(a.1==4)=true:=by simpa using t
       have m:=I (ae.o (Qc t));clear e1 t;go_wp2_with fail;refine T.o.mono ?_;rintro e w2 ⟨rfl,A,u⟩;have i:=I A;have L:=I u;clear A u;go_wp2;refine bodyPost_ret (v:=.tuple #[]) (by simp[results,results79,go_sem]) rfl ?_;exact⟨rfl,⟨(b.o.mono J).trans (i.o.below H.o.hB (Nat.lt_of_lt_of_le R b.o.size)),(Ym b.o).trans (JY i.o (H.o.below b.o).blk (by decide))⟩,JX.err m.o (by decide) L.o⟩
      ·have b2:(a.1==4)=false:=by simpa using t
       have aw:=I (ay.o (fun e=>e.elim e1 t));clear e1 t;go_wp2;exact⟨⟨k+1,by omega,by go_num,b,n,fun _=>aw.o⟩,by simp[intOf];omega⟩
    ·have aa:k=s.met.length:=by omega
     subst aa;have ac:¬(s.met.length:Int)<(s.met.length:Int):=by omega
     have W:Hid (Jl s.met a=if s.met.length=6 then(11,s.met)else(0,s.met++[a])):=by
      show _=_
      rw[X.o,if_neg];rintro⟨h1,h2⟩;exact f.o (List.length_pos_iff.2 h1) h2
     by_cases h66:s.met.length=6
     ·have b6:((s.met.length:Int)==6)=true:=by simp;omega
      have m:Hid (Jl s.met a=(11,s.met)):=by show _=_;rw[W.o,if_pos h66]
      have T:=I ((H.o.below b.o).fail 11 p);clear h66;go_wp2_with fail;refine T.o.mono ?_;rintro e w2 ⟨rfl,A,u⟩;have i:=I A;have L:=I u;clear A u;go_wp2;refine bodyPost_ret (v:=.tuple #[]) (by simp[results,results79,go_sem]) rfl ?_;exact⟨rfl,⟨(b.o.mono J).trans (i.o.below H.o.hB (Nat.lt_of_lt_of_le R b.o.size)),(Ym b.o).trans (JY i.o (H.o.below b.o).blk (by decide))⟩,JX.err m.o (by decide) L.o⟩
     ·have b6:((s.met.length:Int)==6)=false:=by simp;omega
      have m:Hid (Jl s.met a=(0,s.met++[a])):=by show _=_;rw[W.o,if_neg h66]
      have C:=I (H.o.below b.o);have ar:Hid (wr.ownsRow B 52 2 (.slice la s.met.length G) s.met.length (XZ s.met)):=by rw[<-K.o];exact C.o.a
      have af:Hid (¬(Value.slice la s.met.length G).ownBlock=some sb):=by rw[<-K.o];exact ZI C.o.a C.o.blk (by decide)
      have ap:sb<wr.heap.size:=C.o.lt;have aL:B<=wr.heap.size:=Qm J b.o.size;have au:=I (Qz C.o.blk);have h5:s.met.length<=5:=by omega
      have S:Hid (∀ x∈s.met++[a],x.1=4->(s.met++[a]).length=1):=by
       intro x hx e;by_cases U:s.met=[]
       ·rw[U];rfl
       ·exfalso;have hc:=f.o (List.length_pos_iff.2 U);rcases List.mem_append.1 hx with hx|hx
        ·have h1:=C.o.alone x hx e;obtain⟨y,hy⟩:=List.length_eq_one_iff.1 h1;rw[hy]at hx hc;rw[QY hx]at e;exact hc (Qc e)
        ·rw[QY hx]at e;exact hc (Qd e)
      obtain⟨i0,hi,aF,aG,aH⟩:=info_parts Tryz.infoActionV;clear h66 W X f HE ad;go_wp2;go_region_law (refine step_append_lies _ rfl (.tmp 65) (.tmp 67) 32 rfl B 52 i0 (.agg #[.int .i64 0,.string ⟨#[]⟩]) 2 24 underlying32 hi aF aG aH rfl (by decide) (.slice la s.met.length G) s.met.length (XZ s.met) (by simp[Act.eval,Act.put]) (ar.o.alloc _) ⟨wr.heap.size,0,none⟩ 1 1 [.int .i64 a.1,.string (sA a.2)] (by simp[Act.eval,Act.put]) rfl (WD _ a _) (WE a) (by decide) (by unfold maxLen;omega) (by omega) (by simp;omega) _ rfl ?_;intro g' aK w5 ao V ai aN;have az:=I ao;have av:=I V;have aq:=I ai;have t8:w5.cell? ⟨sb,8,none⟩=some (.slice la s.met.length G):=V.cell (a:=⟨sb,8,none⟩) ((World.cell?_of_block (a:=⟨sb,8,none⟩) (w:=wr) (Below.heap_alloc _ _ _ ap)).trans Z) (fun e=>af.o e.symm);have aM:∀ j,w5.frozen? ⟨sb,j,none⟩=false:=fun j=>(World.frozen?_of_block (a:=⟨sb,j,none⟩) (w:=wr) ((V.block sb (by simp;omega) (fun e=>af.o e.symm)).trans (Below.heap_alloc _ _ _ ap))).trans (au.o j);clear ao V ai;skip)
      all_goals go_wp2
      all_goals go_end0
      all_goals obtain⟨z',aE,aA,aD⟩:=C.o.appA K.o av.o az.o aq.o S.o h5
      all_goals exact⟨rfl,⟨(b.o.mono J).trans aA,(Ym b.o).trans aD⟩,JX.ok m.o aE⟩
end
end Go.Proofs.YtgnkjijocdmniaaGreatDoor
