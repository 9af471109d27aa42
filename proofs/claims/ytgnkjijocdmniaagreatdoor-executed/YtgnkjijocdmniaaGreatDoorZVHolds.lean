import Derived.Test.YtgnkjijocdmniaaGreatDoorVGlob
namespace Go.Proofs.YtgnkjijocdmniaaGreatDoor
set_option linter.unusedVariables false
set_option linter.unusedSimpArgs false
set_option maxRecDepth 100000
set_option maxHeartbeats 4000000
open Go.Proofs.Tryz
open Go.RowKit
attribute [local go_sem ↓] Go.wp_at_zero Go.wp_at_succ
variable{B b base i k n o q sb size:Nat}{M:Msg}{X Y:L8}{a en f kp m:Bool}{d v x:Value}{e t:TypeId}{er g pz:Int}{s:SS}{w w':World}{xs:List Value}{zs:Qa}
theorem Na(k v:L8):k.isPrefixOf v=decide (v.take k.length=k):=by
 rw[Zo,List.isPrefixOf_iff_prefix,decide_eq_true_iff,List.prefix_iff_eq_take];exact⟨fun h=>h.symm,fun h=>h.symm⟩
theorem C4(k:L8):∀ v:L8,v.length<k.length->Z7 k v=false
 | [],h=>by
  rw[Z7,Na,Qh];intro e;have:=congrArg List.length e;simp at this;simp[this]at h
 |c::v,h=>by
  have a:v.length<k.length:=by simp at h;omega
  rw[Z7,C4 k v a,Bool.or_false,Na,Qh];intro e;have:=congrArg List.length e;rw[List.length_take]at this;omega
theorem Ej(k:L8){v:L8}(h:i+k.length<=v.length):Z7 k (v.drop i)=(decide ((v.drop i).take k.length=k) || (decide (i<v.length)&&Z7 k (v.drop (i+1)))):=by
 by_cases hi:i<v.length
 ·rw[Qw hi,Bool.true_and,<-Na,List.drop_eq_getElem_cons hi,Z7]
 ·rw[Qh hi,Bool.false_and,Bool.or_false,<-Na,Zb (by omega),Z7]
theorem Lt(x y:L8)(oct:Bool)(w:World)(m:x.length<=100000)(n:y.length<=100000) :
 Calls prog 116 #[.string (sA x),.string (sA y),.int .i64 1,.bool oct] w fun e w'=>e=.returned (.tuple #[.slice none 0 0,.bool (wayB 1 oct x y)])/\Below w.heap.size w w':=by
 have i:=I (fun u=>Yv x u (by omega));have j:=I (fun u=>Yv y u (by omega));have c:Hid (wayB 1 oct x y=decide (lookL oct x=lookL oct y)):=by show _=_;unfold wayB;rw[if_pos rfl]
 cases oct with
 |true=>
  have k:((sA x).toList==(sA y).toList)=decide (x=y):=JL _ _;have a:Hid (wayB 1 true x y=decide (x=y)):=c.o;go_enter func116,ntmps116;go_wp2;refine bodyPost_ret (v:=.tuple #[.slice none 0 0,.bool (decide (x=y))]) (by simp[results,results116,go_sem]) rfl ?_;exact⟨by rw[a.o],Below.refl _ _⟩
 |false=>
  have k:((sA (zL x)).toList==(sA (zL y)).toList)=decide (zL x=zL y):=JL _ _;have a:Hid (wayB 1 false x y=decide (zL x=zL y)):=c.o;go_enter func116,ntmps116;go_wp2_with fail;refine(i.o _).mono ?_;rintro e p ⟨rfl,b⟩;have f:=I b;have l:=b.size;clear b;go_wp2_with fail;refine(j.o _).mono ?_;rintro e q ⟨rfl,d⟩;have g:=I (f.o.trans (d.mono l));clear d;go_wp2;refine bodyPost_ret (v:=.tuple #[.slice none 0 0,.bool (decide (zL x=zL y))]) (by simp[results,results116,go_sem]) rfl ?_;exact⟨by rw[a.o],g.o⟩
theorem EV(h:i+Y.length<=X.length)(a:¬(X.drop i).take Y.length=Y)(he:Z7 Y X=(decide (i<=X.length)&&Z7 Y (X.drop i))):Z7 Y X=(decide (i+1<=X.length)&&Z7 Y (X.drop (i+1))):=by
 rw[he,Qw (by omega),Bool.true_and,Ej Y h,Qh a,Bool.false_or];rfl
theorem Ez(h:i+Y.length<=X.length)(a:(X.drop i).take Y.length=Y)(he:Z7 Y X=(decide (i<=X.length)&&Z7 Y (X.drop i))):Z7 Y X=true:=by
 rw[he,Qw (by omega),Bool.true_and,Ej Y h,Qw a,Bool.true_or]
theorem ED(h:¬ i+Y.length<=X.length)(he:Z7 Y X=(decide (i<=X.length)&&Z7 Y (X.drop i))):Z7 Y X=false:=by
 rw[he];by_cases hi:i<=X.length
 ·rw[C4 Y _ (by rw[List.length_drop];omega),Bool.and_false]
 ·rw[Qh hi,Bool.false_and]
theorem Le(x y:L8)(oct:Bool)(w:World)(G:x.length<=100000)(H:y.length<=100000) :
 Calls prog 116 #[.string (sA x),.string (sA y),.int .i64 2,.bool oct] w fun e w'=>e=.returned (.tuple #[.slice none 0 0,.bool (wayB 2 oct x y)])/\Below w.heap.size w w':=by
 have r:=I (fun u=>Yv x u (by omega));have s:=I (fun u=>Yv y u (by omega));have j:Hid (wayB 2 oct x y=Z7 (lookL oct y) (lookL oct x)):=by show _=_;unfold wayB;rw[if_neg (by decide),if_pos rfl]
 have D:(lookL oct x).length<=100000:=by unfold lookL;cases oct<;>simp[zL]<;>omega
 have E:(lookL oct y).length<=100000:=by unfold lookL;cases oct<;>simp[zL]<;>omega
 have d:∃ X,lookL oct x=X:=⟨_,rfl⟩;have f:∃ Y,lookL oct y=Y:=⟨_,rfl⟩;obtain⟨X,d⟩:=d;obtain⟨Y,f⟩:=f;rw[d]at j D;rw[f]at j E;have J:=QN X;have K:=QN Y;cases oct
 ·have m:zL x=X:=d;have n:zL y=Y:=f;rw[m]at r;rw[n]at s;clear d f m n;go_enter func116,ntmps116;go_wp2_with fail;refine(r.o _).mono ?_;rintro e L ⟨rfl,p⟩;have z:=I p;have F:=p.size;clear p;go_wp2_with fail;refine(s.o _).mono ?_;rintro e M ⟨rfl,t⟩;have A:=I (z.o.trans (t.mono F));clear t;go_wp2
  go_loopw [12] (fun g wr=>∃(i:Nat),i<=200000/\g=.int .i64 i/\Z7 Y X=(decide (i<=X.length)&&Z7 Y (X.drop i))/\Below w.heap.size w wr) (fun g _=>X.length+1 - (intOf g).toNat)
  case atStart=>exact⟨0,QE,rfl,by rw[Qw QE,Bool.true_and,List.drop_zero],A.o⟩
  case round=>
   obtain⟨i,C,rfl,he,k⟩:=hrel;have c:=I he;have b:=I k;clear he k;by_cases hle:i+Y.length<=X.length
   ·have q:(i:Int)+(Y.length:Int)<=(X.length:Int):=by omega
    have B:(sA X).extract i (i+Y.length)=sA ((X.drop i).take Y.length):=by rw[Jn,Nat.add_sub_cancel_left]
    have l:((sA ((X.drop i).take Y.length)).toList==(sA Y).toList)=decide ((X.drop i).take Y.length=Y):=JL _ _;by_cases hc:(X.drop i).take Y.length=Y
    ·rw[Qw hc]at l;have a:=I (Ez hle hc c.o);clear hc;generalize (X.drop i).take Y.length=Z at *;go_wp2;refine bodyPost_ret (v:=.tuple #[.slice none 0 0,.bool true]) (by simp[results,results116,go_sem]) rfl ?_;exact⟨by rw[j.o,a.o],b.o⟩
    ·rw[Qh hc]at l;have a:=I (EV hle hc c.o);clear hc;generalize (X.drop i).take Y.length=Z at *;go_wp2;exact⟨⟨i+1,by omega,by go_num,a.o,b.o⟩,by simp[intOf];omega⟩
   ·have q:¬(i:Int)+(Y.length:Int)<=(X.length:Int):=by omega
    have a:=I (ED hle c.o);go_wp2;refine bodyPost_ret (v:=.tuple #[.slice none 0 0,.bool false]) (by simp[results,results116,go_sem]) rfl ?_;exact⟨by rw[j.o,a.o],b.o⟩
 ·have m:x=X:=d;have n:y=Y:=f;subst m;subst n;clear d f;go_enter func116,ntmps116;go_wp2
  go_loopw [12] (fun g wr=>∃(i:Nat),i<=200000/\g=.int .i64 i/\Z7 y x=(decide (i<=x.length)&&Z7 y (x.drop i))/\Below w.heap.size w wr) (fun g _=>x.length+1 - (intOf g).toNat)
  case atStart=>exact⟨0,QE,rfl,by rw[Qw QE,Bool.true_and,List.drop_zero],Below.refl _ _⟩
  case round=>
   obtain⟨i,C,rfl,he,k⟩:=hrel;have c:=I he;have b:=I k;clear he k;by_cases hle:i+y.length<=x.length
   ·have q:(i:Int)+(y.length:Int)<=(x.length:Int):=by omega
    have B:(sA x).extract i (i+y.length)=sA ((x.drop i).take y.length):=by rw[Jn,Nat.add_sub_cancel_left]
    have l:((sA ((x.drop i).take y.length)).toList==(sA y).toList)=decide ((x.drop i).take y.length=y):=JL _ _;by_cases hc:(x.drop i).take y.length=y
    ·rw[Qw hc]at l;have a:=I (Ez hle hc c.o);clear hc;generalize (x.drop i).take y.length=Z at *;go_wp2;refine bodyPost_ret (v:=.tuple #[.slice none 0 0,.bool true]) (by simp[results,results116,go_sem]) rfl ?_;exact⟨by rw[j.o,a.o],b.o⟩
    ·rw[Qh hc]at l;have a:=I (EV hle hc c.o);clear hc;generalize (x.drop i).take y.length=Z at *;go_wp2;exact⟨⟨i+1,by omega,by go_num,a.o,b.o⟩,by simp[intOf];omega⟩
   ·have q:¬(i:Int)+(y.length:Int)<=(x.length:Int):=by omega
    have a:=I (ED hle c.o);go_wp2;refine bodyPost_ret (v:=.tuple #[.slice none 0 0,.bool false]) (by simp[results,results116,go_sem]) rfl ?_;exact⟨by rw[j.o,a.o],b.o⟩
def UW(w:World)(B:Nat)(cv:Value)(zs:Qa):Prop:=∃ g c,cv=.slice (some ⟨g,0,none⟩) zs.length c/\B<=g/\(∃ cs,w.heap[g]?=some (.cells cs 9))/\∀ j (hj:j<zs.length),w.cell? ⟨g,j,none⟩=some (.string (sA zs[j]))
def Uh(zs:Qa):Qa:=zs.take 10
theorem YN.below{g:Nat}{R:Nat->Nat}{m:Nat}{F:Nat->Nat->Bool}(h:YN w B g R n m F)(a:Below w.heap.size w w'):YN w' B g R n m F:=
 ⟨h.hg,fun j hj=>by rw[a.cell (p:=⟨g,j,none⟩) (Qq (h.o j hj))];exact h.o j hj,fun j hj=>(h.row j hj).of_block (a.block _ (h.row j hj).lt),h.bel,h.inj⟩
theorem UW.of_owns{acc:Qa}(h:w.ownsRow B 9 1 v acc.length (Qv acc))(m:0<acc.length):∃ g c,v=.slice (some ⟨g,0,none⟩) acc.length c/\acc.length<=c/\B<=g/\(∃ cs,w.heap[g]?=some (.cells cs 9))/\∀ j (a:j<acc.length),w.cell? ⟨g,j,none⟩=some (.string (sA acc[j])):=by
 have d:=h;rcases h.2 with⟨_,l⟩ | ⟨g,c,b,k,f,i,e,_⟩
 ·omega
 ·subst k;refine⟨g,c,rfl,e,f,⟨b,i⟩,fun j a=>?_⟩;have:=d.cells (g:=g) rfl j (.string (sA acc[j])) (by simp[Qv,List.getElem?_eq_getElem a]);rw[Ys]at this;exact this
theorem LE(x y:L8)(oct:Bool)(w:World)(hx:x.length<=100000)(hy:y.length<=100000) :
 Calls prog 116 #[.string (sA x),.string (sA y),.int .i64 3,.bool oct] w fun e w'=>∃ cv,e=.returned (.tuple #[cv,.bool (wayB 3 oct x y)])/\Below w.heap.size w w'/\(wayB 3 oct x y=true->UW w' w.heap.size cv (Uh (x::Zy (lookL oct y) x (lookL oct x)))):=by
 have ar:=I (fun u=>Yv x u (by omega));have Q:=I (fun u=>Yv y u (by omega));have K:Hid (wayB 3 oct x y=globL (lookL oct y) (lookL oct x)):=by show _=_;unfold wayB;rw[if_neg (by decide),if_neg (by decide)];rfl
 have ac:(lookL oct x).length=x.length:=by unfold lookL;cases oct<;>simp[zL]
 have ad:(lookL oct y).length=y.length:=by unfold lookL;cases oct<;>simp[zL]
 have U:∃ X,lookL oct x=X:=⟨_,rfl⟩;have V:∃ Y,lookL oct y=Y:=⟨_,rfl⟩;obtain⟨X,U⟩:=U;obtain⟨Y,V⟩:=V;rw[U]at K ac;rw[V]at K ad;rw[U,V];have au:=I U;have aw:=I V;clear U V;obtain⟨n,hn⟩:=Qe (x.length);obtain⟨m,hm⟩:=Qe (y.length);rw[hn]at hx ac;rw[hm]at hy ad;have a9:(sA x).size=n:=hn;have a7:(sA X).size=n:=ac;have a8:(sA Y).size=m:=ad;have a0:=I hn;have H:=I ac;have Z:=I ad;clear hn hm ac ad;obtain⟨i0,hi,aM,aN,aO⟩:=info_parts Tryz.infoStr;go_enter func116,ntmps116;go_upto_if 21 with fail
 go_cut [10,11] (fun av bv wx=>av=.string (sA X)/\bv=.string (sA Y)/\Below w.heap.size w wx)
 case first=>
  cases oct with
  |true=>
   have e1:x=X:=au.o;have e2:y=Y:=aw.o;subst e1;subst e2;go_wp2;go_meet;exact⟨rfl,rfl,Below.refl _ _⟩
  |false=>
   have e1:zL x=X:=au.o;have e2:zL y=Y:=aw.o;rw[e1]at ar;rw[e2]at Q;clear e1 e2;go_wp2_with fail;refine(ar.o _).mono ?_;rintro e G ⟨rfl,M⟩;have P:=I M;have aL:=M.size;clear M;go_wp2_with fail;refine(Q.o _).mono ?_;rintro e w2 ⟨rfl,aD⟩;have ag:=I (P.o.trans (aD.mono aL));clear aD;go_wp2;go_meet;exact⟨rfl,rfl,ag.o⟩
 case rest=>
  obtain⟨rfl,rfl,ax⟩:=hcut;have aP:=I ax;have aZ:=ax.size;clear ax ar Q au aw;have HG:=I (Pa X Y wc (by rw[H.o];omega) (by rw[Z.o];omega));go_wp2_with fail;refine HG.o.mono ?_;rintro e G ⟨g,c,R,he,hT,M⟩;rw[H.o]at he;subst he;rw[H.o,Z.o]at hT;have HT:=I hT;have P:=I (aP.o.trans (M.mono aZ));have aL:=M.size;have ao:w.heap.size<=G.heap.size:=P.o.size;have T:G.cell? ⟨g,0,none⟩=some (.slice (some ⟨R 0,0,none⟩) (m+1) (m+1)):=hT.o 0 QE;have L:G.cell? ⟨R 0,0,none⟩=some (.bool (globL Y X)):=(hT.row 0 QE).cell (i:=0) (Nat.succ_pos _);clear hT M HG;obtain⟨r0,aH⟩:=Qe (R 0);rw[aH]at T L;obtain⟨t,ht⟩:=Qe (globL Y X);rw[ht]at L K;have B:=I ht;clear ht aH
  cases t with
  |false=>
   go_wp2;refine bodyPost_ret (v:=.tuple #[.slice none 0 0,.bool false]) (by simp[results,results116,go_sem]) rfl ?_;exact⟨_,by rw[K.o],P.o,fun h=>by rw[K.o]at h;cases h⟩
  |true=>
   go_wp2
   go_loopw [14,15,16] (fun cv iv kv wr=>∃(k i:Nat) (b:Qa),k<=m/\i<=n/\kv=.int .i64 k/\iv=.int .i64 i/\wr.ownsRow G.heap.size 9 1 cv b.length (Qv b)/\b.length<=k+1/\0<b.length/\Hid (globL (Y.drop k) (X.drop i)=true)/\Hid (x::Zy Y x X=b++Zy (Y.drop k) (x.drop i) (X.drop i))/\Hid (Below G.heap.size G wr)) (fun _ _ kv _=>m - (intOf kv).toNat)
   case atStart=>exact⟨0,0,[x],QE,QE,rfl,rfl,⟨rfl,Qc ⟨_,1,_,rfl,Nat.le_refl _,QC _ _,Nat.le_refl _,by unfold maxLen;omega,rfl,rfl⟩⟩,Nat.le_refl _,Nat.succ_pos _,B.o,rfl,Qp _⟩
   case round=>
    clear B T L;obtain⟨k,i,b,hk,a4,rfl,rfl,d,a1,aj,B,C,A⟩:=hrel;have af:=A.o.size;by_cases hkm:k<m
    ·have aX:(k:Int)<(m:Int):=by omega
     have aU:k<(sA Y).size:=by omega
     have l:=I (U8 aU);obtain⟨s,az⟩:=Qe ((sA Y)[k]);rw[az]at l;have a2:∀ h:k<(sA Y).size,(sA Y)[k]'h=s:=fun h=>az
     clear az;by_cases h42:s=42
     ·subst h42;have b2:(((42:UInt8).toNat:Int)==42)=true:=rfl;have aK:=Hb (r:=Y.drop (k+1)) (a:=X.drop i) (by rw[<-l.o];exact B.o)
      have ai:Hid (x::Zy Y x X=(b++[(x.drop i).take (starQ (Y.drop (k+1)) (X.drop i))])++Zy (Y.drop (k+1)) (x.drop (i+starQ (Y.drop (k+1)) (X.drop i))) (X.drop (i+starQ (Y.drop (k+1)) (X.drop i)))):=by
       show _=_
       rw[C.o,l.o,PA,List.drop_drop,List.drop_drop,List.append_assoc];rfl
      obtain⟨S,hS⟩:=Qe (starQ (Y.drop (k+1)) (X.drop i));rw[hS]at aK ai;obtain⟨ae,f,aJ⟩:=aK;rw[List.length_drop,H.o]at ae;rw[List.drop_drop]at f;have Q:=I f;have aQ:Hid (∀ j,j<S->globL (Y.drop (k+1)) (X.drop (i+j))=false):=fun j z=>by have:=aJ j z;rw[List.drop_drop]at this;exact this
      have ak:(sA x).extract i (i+S)=sA ((x.drop i).take S):=by rw[Jn,Nat.add_sub_cancel_left]
      clear f aJ hS C;obtain⟨F,aa⟩:=Qe ((x.drop i).take S);rw[aa]at ak ai;have J:=I d;clear aa d;go_wp2
      go_loopw [15] (fun iv wi=>∃(j:Nat),j<=S/\iv=.int .i64 ((i+j:Nat):Int)/\Hid (Below wr.heap.size wr wi)) (fun iv _=>i+S - (intOf iv).toNat)
      case atStart=>exact⟨0,QE,rfl,Below.refl _ _⟩
      case round=>
       obtain⟨j,z,rfl,ah⟩:=hrel;have aC:=I (Xt J.o ah.o);have ag:=I (A.o.trans (ah.o.mono af));have ay:=HT.o.below ag.o;have T:wr.cell? ⟨g,i+j,none⟩=some (.slice (some ⟨R (i+j),0,none⟩) (m+1) (m+1)):=ay.o (i+j) (by omega);have L:wr.cell? ⟨R (i+j),k+1,none⟩=some (.bool (globL (Y.drop (k+1)) (X.drop (i+j)))):=(ay.row (i+j) (by omega)).cell (i:=k+1) (by omega);obtain⟨r1,aI⟩:=Qe (R (i+j));rw[aI]at T L;clear ay aI;by_cases hjs:j<S
       ·rw[aQ.o j hjs]at L;obtain⟨p,W⟩:=Qe (i+j);rw[W]at T;rw[W];have aY:p<n:=by omega
        go_wp2;exact⟨⟨j+1,by omega,by rw[<-W];go_num,ah⟩,by simp[intOf];omega⟩
       ·have aS:j=S:=by omega
        subst aS;rw[Q.o]at L;have d:=aC.o;have E:=Q;have q:=ai;clear A ai J aC ah af;have A:=ag;have af:=A.o.size;obtain⟨p,W⟩:=Qe (i+j);rw[W]at T ak E q;rw[W];have aY:p<=n:=by omega
        have a6:i<=p:=by omega
        go_wp2_with (at_builtin;refine wpList_append_own _ rfl _ _ 61 rfl G.heap.size 9 i0 (.string ⟨#[]⟩) 1 16 underlying61 hi aM aN aO rfl (by decide) _ _ _ rfl (d.alloc _) ⟨wr.heap.size,0,none⟩ 1 1 [.string (sA F)] rfl rfl ?c1 ?c2 ?c3 ?c4 ?c5 ?_)
        case c1=>
         intro j u z
         match j,z with
         |0,z=>simp at z;subst z;simp[Addr.add]
        case c2=>intro u hu;simp at hu;subst hu;rfl
        case c3=>unfold maxLen;omega
        case c4=>omega
        case c5=>simp;omega
        ·intro v' w5 N ab _;have ap:=I (JI A.o af ab (fun k hk=>(d.lt k hk).1));rw[X0]at N;have aq:=I N;clear N ab d;go_wp2;go_roundw
         case rel=>exact⟨k+1,p,b++[F],by omega,by omega,by go_num,by go_num,by simpa using aq.o,by simp;omega,by simp,E,q,ap⟩
         case measure=>simp[intOf];omega
     ·have b2:((s.toNat:Int)==42)=false:=(YC s 42).trans (Qh h42);by_cases h63:s=63
      ·subst h63;have b3:(((63:UInt8).toNat:Int)==63)=true:=rfl;have D:=Hy (r:=Y.drop (k+1)) (a:=X.drop i) (by rw[<-l.o];exact B.o);rw[List.length_drop,H.o,List.drop_drop]at D;obtain⟨ae,f⟩:=D;have E:=I f;have ak:(sA x).extract i (i+1)=sA ((x.drop i).take 1):=by rw[Jn,Nat.add_sub_cancel_left]
       have q:Hid (x::Zy Y x X=(b++[(x.drop i).take 1])++Zy (Y.drop (k+1)) (x.drop (i+1)) (X.drop (i+1))):=by
        show _=_
        rw[C.o,l.o,RD,List.drop_drop,List.drop_drop,List.append_assoc];rfl
       obtain⟨F,aa⟩:=Qe ((x.drop i).take 1);rw[aa]at ak q;have a5:(i:Int)<(n:Int):=by omega
       clear aa f C B;go_wp2_with (at_builtin;refine wpList_append_own _ rfl _ _ 61 rfl G.heap.size 9 i0 (.string ⟨#[]⟩) 1 16 underlying61 hi aM aN aO rfl (by decide) _ _ _ rfl (d.alloc _) ⟨wr.heap.size,0,none⟩ 1 1 [.string (sA F)] rfl rfl ?c1 ?c2 ?c3 ?c4 ?c5 ?_)
       case c1=>
        intro j u z
        match j,z with
        |0,z=>simp at z;subst z;simp[Addr.add]
       case c2=>intro u hu;simp at hu;subst hu;rfl
       case c3=>unfold maxLen;omega
       case c4=>omega
       case c5=>simp;omega
       ·intro v' w5 N ab _;have ap:=I (JI A.o af ab (fun k hk=>(d.lt k hk).1));rw[X0]at N;have aq:=I N;clear N ab d;go_wp2;go_roundw
        case rel=>exact⟨k+1,i+1,b++[F],by omega,by omega,by go_num,by go_num,by simpa using aq.o,by simp;omega,by simp,E,q,ap⟩
        case measure=>simp[intOf];omega
      ·have b3:((s.toNat:Int)==63)=false:=(YC s 63).trans (Qh h63);by_cases h92:s=92
       ·by_cases hk1:k+1<m
        ·subst h92;have b4:(((92:UInt8).toNat:Int)==92)=true:=rfl;have aT:(k:Int)+1<(m:Int):=by omega
         have aV:k+1<(sA Y).size:=by omega
         have aA:=U8 aV;have D:=F1 (r:=Y.drop (k+2)) (a:=X.drop i) (by rw[<-aA,<-l.o];exact B.o);rw[List.length_drop,H.o,List.drop_drop]at D;obtain⟨ae,f⟩:=D;have E:=I f
         have q:Hid (x::Zy Y x X=b++Zy (Y.drop (k+2)) (x.drop (i+1)) (X.drop (i+1))):=by
          show _=_
          rw[C.o,l.o,aA,SF,List.drop_drop,List.drop_drop]
         clear aA f C B l;have J:=I d;clear d;go_wp2;go_roundw
         case rel=>exact⟨k+2,i+1,b,by omega,by omega,by go_num,by go_num,J.o,by omega,aj,E,q,A⟩
         case measure=>simp[intOf];omega
        ·have b4:((s.toNat:Int)==92)=true:=(YC s 92).trans (Qw h92);have aT:¬(k:Int)+1<(m:Int):=by omega
         have D:=Bv (r:=Y.drop (k+1)) (a:=X.drop i) h42 h63 (fun _=>Zb (by rw[Z.o];omega)) (by rw[<-l.o];exact B.o);rw[List.length_drop,H.o,List.drop_drop]at D;obtain⟨ae,f⟩:=D;have E:=I f
         have q:Hid (x::Zy Y x X=b++Zy (Y.drop (k+1)) (x.drop (i+1)) (X.drop (i+1))):=by
          show _=_
          rw[C.o,l.o,Ea h42 h63 (fun _=>Zb (by rw[Z.o];omega)),List.drop_drop,List.drop_drop]
         clear f C B l h92;have J:=I d;clear d;go_wp2;go_roundw
         case rel=>exact⟨k+1,i+1,b,by omega,by omega,by go_num,by go_num,J.o,by omega,aj,E,q,A⟩
         case measure=>simp[intOf];omega
       ·have b4:((s.toNat:Int)==92)=false:=(YC s 92).trans (Qh h92);have D:=Bv (r:=Y.drop (k+1)) (a:=X.drop i) h42 h63 (fun e=>absurd e h92) (by rw[<-l.o];exact B.o);rw[List.length_drop,H.o,List.drop_drop]at D;obtain⟨ae,f⟩:=D;have E:=I f
        have q:Hid (x::Zy Y x X=b++Zy (Y.drop (k+1)) (x.drop (i+1)) (X.drop (i+1))):=by
         show _=_
         rw[C.o,l.o,Ea h42 h63 (fun e=>absurd e h92),List.drop_drop,List.drop_drop]
        clear f C B l;have J:=I d;clear d;go_wp2;go_roundw
        case rel=>exact⟨k+1,i+1,b,by omega,by omega,by go_num,by go_num,J.o,by omega,aj,E,q,A⟩
        case measure=>simp[intOf];omega
    ·have aW:k=m:=by omega
     subst aW;have aX:¬(k:Int)<(k:Int):=by omega
     have q:Hid (x::Zy Y x X=b):=by show _=_;rw[C.o,Zb (by rw[Z.o];exact Ql),RV,List.append_nil]
     obtain⟨g2,c2,rfl,a3,aG,aF,aE⟩:=UW.of_owns d aj;have HC:=I aE;have aB:=I aF;clear aE d aF;by_cases h10:10<b.length
     ·have aR:(10:Int)<(b.length:Int):=by omega
      go_wp2;refine bodyPost_ret (v:=.tuple #[.slice (some ⟨g2,0,none⟩) 10 c2,.bool true]) (by simp[results,results116,go_sem]) rfl ?_;refine⟨_,by rw[K.o],P.o.trans (A.o.mono ao),fun _=>?_⟩;rw[q.o];unfold Uh;have hl:(b.take 10).length=10:=by rw[List.length_take];omega
      refine⟨g2,c2,by rw[hl],Qs ao aG,aB.o,fun j z=>?_⟩;rw[hl]at z;rw[HC.o j (by omega),List.getElem_take]
     ·have aR:¬(10:Int)<(b.length:Int):=by omega
      go_wp2;refine bodyPost_ret (v:=.tuple #[.slice (some ⟨g2,0,none⟩) b.length c2,.bool true]) (by simp[results,results116,go_sem]) rfl ?_;refine⟨_,by rw[K.o],P.o.trans (A.o.mono ao),fun _=>?_⟩;rw[q.o];unfold Uh;rw[List.take_of_length_le (by omega)];exact⟨g2,c2,rfl,Qs ao aG,aB.o,HC.o⟩
theorem TxL.of_ownsV(h:w.ownsRow B 9 1 v zs.length (Qv zs)):TxL w v zs:=by
 rcases h.2 with⟨a,b⟩ | ⟨g,c,e,d,_⟩
 ·exact Qd ⟨Xz b,a⟩
 ·subst d;exact Qc ⟨g,c,rfl,Zx.of_owns h⟩
def HdB(w:World)(B:Nat)(M:Msg)(hv:Value):Prop:=∃ ha hq,hv=.slice ha M.hdrs.length hq/\∀ j (hj:j<M.hdrs.length),∃ g off,ha=some ⟨g,off,none⟩/\g<B/\w.cell? ⟨g,off+j*2,none⟩=some (.string (sA M.hdrs[j].1))/\w.cell? ⟨g,off+j*2+1,none⟩=some (.string (sA M.hdrs[j].2))
structure KR (M:Msg):Prop where
 fr:M.fr.length<=100000
 tu:M.to.length<=100000
 hl:M.hdrs.length<=100000
 hs:∀ h∈M.hdrs,h.1.length<=100000∧h.2.length<=100000
structure StV where
 hv:Value
 nv:Value
 vv:Value
 cv:Value
 av:Value
 ns:Qa
 vl:Qa
structure StI (w:World) (B sb:Nat) (M:Msg) (s:SS) (z:StV) (q:Nat) (kp en:Bool) (er pz:Int):Prop where
 hB:B<=sb
 blk:SB w sb M.fr M.to M.size z.hv s.vs z.nv z.vv z.cv z.av kp en er pz
 n:w.ownsRow B 9 1 z.nv z.ns.length (Qv z.ns)
 v:w.ownsRow B 9 1 z.vv z.vl.length (Qv z.vl)
 a:w.ownsRow B 52 2 z.av s.met.length (QZ s.met)
 c:s.vs=true->TxL w z.cv (s.told.take 10)
 c0:s.vs=false->z.cv=.slice none 0 0
 cap:∀ k,z.cv.ownBlock=some k->z.nv.ownBlock≠some k∧z.vv.ownBlock≠some k∧z.av.ownBlock≠some k∧k≠sb
 capt:∀ k,z.cv.ownBlock=some k->∃ cs,w.heap[k]?=some (.cells cs 9)
 nvv:∀ k,z.nv.ownBlock=some k->z.vv.ownBlock≠some k
 l:z.ns.length=z.vl.length
 nl:z.ns.length<=q
 vals:∀ x,s.vals x=lookQ z.ns z.vl x
 h:HdB w B M z.hv
 mb:KR M
 vb:∀ t∈z.vl,t.length<=100000
 tb:∀ t∈s.told,t.length<=100000
 alone:∀ x∈s.met,x.1=4->s.met.length=1
 six:s.met.length<=6
theorem HdB.below(h:HdB w B M d)(c:Below B w w'):HdB w' B M d:=by
 obtain⟨m,o,e,f⟩:=h;refine⟨m,o,e,fun j n=>?_⟩;obtain⟨g,b,i,a,k,l⟩:=f j n;exact⟨g,b,i,a,by rw[c.cell (p:=⟨g,b+j*2,none⟩) a];exact k,by rw[c.cell (p:=⟨g,b+j*2+1,none⟩) a];exact l⟩
theorem StI.capl{z:StV}{d:Bool}{b e:Int}(h:StI w B sb M s z q d a b e):∀ k,z.cv.ownBlock=some k->k<w.heap.size:=fun k hk=>by
 obtain⟨f,c⟩:=h.capt k hk;exact Qg c
theorem Y5(h:∃ cs,w.heap[k]?=some (.cells cs 9))(a:w'.heap[k]?=w.heap[k]?):∃ cs,w'.heap[k]?=some (.cells cs 9):=by
 obtain⟨cs,b⟩:=h;exact⟨cs,a.trans b⟩
theorem StI.lt{z:StV}(h:StI w B sb M s z q kp en er pz):sb<w.heap.size:=Qg h.blk
theorem StI.below{w w':World}{B sb:Nat}{M:Msg}{s:SS}{z:StV}{q:Nat}{kp en:Bool}{er pz:Int}(h:StI w B sb M s z q kp en er pz)(hb:Below w.heap.size w w'):StI w' B sb M s z q kp en er pz:=
 ⟨h.hB,QP h.blk hb,Xt h.n hb,Xt h.v hb,Xt h.a hb,fun e=>(h.c e).belowV hb,h.c0,h.cap,fun k hk=>Y5 (h.capt k hk) (hb.block k (h.capl k hk)),h.nvv,h.l,h.nl,h.vals,h.h.below (hb.mono (Qs h.hB (Nat.le_of_lt h.lt))),h.mb,h.vb,h.tb,h.alone,h.six⟩
theorem StI.more{z:StV}{q':Nat}(h:StI w B sb M s z q kp en er pz)(hq:q<=q'):StI w B sb M s z q' kp en er pz:=⟨h.hB,h.blk,h.n,h.v,h.a,h.c,h.c0,h.cap,h.capt,h.nvv,h.l,Qs h.nl hq,h.vals,h.h,h.mb,h.vb,h.tb,h.alone,h.six⟩
def Yb(s:SS):SS:=if s.vs then s else KK s []
theorem El(s:SS)(l:L8):expL (Yb s) l=expL s l:=by
 cases h:s.vs with
 |true=>unfold Yb;rw[if_pos h]
 |false=>
  have e:(Yb s).vs=false:=by unfold Yb;rw[if_neg (by rw[h];decide)];exact h
  unfold expL;rw[if_neg (by rw[e];decide),if_neg (by rw[h];decide)]
theorem StI.var{z:StV}{g:Bool}{b i:Int}(h:StI w B sb M s z q g a b i)(j:q<=1000000):Uj w sb (Yb s) z.nv z.vv z.cv z.ns z.vl:=by
 have f:(Yb s).vs=s.vs:=by unfold Yb;cases e:s.vs with
  |true=>rw[if_pos rfl];exact e
  |false=>exact e
 have d:(Yb s).vals=s.vals:=by unfold Yb;cases e:s.vs<;>rfl
 refine⟨by rw[f];exact Qi h.blk 4,Qi h.blk 5,Qi h.blk 6,Qi h.blk 7,TxL.of_ownsV h.n,TxL.of_ownsV h.v,?_,h.l,by have:=h.nl;omega,fun x=>by rw[d];exact h.vals x⟩
 cases e:s.vs with
 |true=>unfold Yb;rw[if_pos e];exact h.c e
 |false=>
  unfold Yb;rw[if_neg (by rw[e];decide)];exact Qd ⟨rfl,h.c0 e⟩
theorem Az(h:∀ t∈s.told,t.length<=100000):∀ t∈(Yb s).told,t.length<=100000:=by
 unfold Yb
 cases e:s.vs with
 |true=>rw[if_pos rfl];exact h
 |false=>intro t a;cases a
theorem StI.expand{z:StV}{b:Int}(h:StI w B sb M s z q f a b g)(d:q<=1000000)(l:L8)(c:l.length<=100000) :
 Calls prog 76 #[.pointer (some ⟨sb,0,none⟩),.string (sA l)] w fun e w'=>e=.returned (.string (sA (expL s l)))/\Below w.heap.size w w':=by
 have:=B9 sb (Yb s) z.nv z.vv z.cv z.ns z.vl l w (h.var d) c h.vb (Az h.tb);rw[El]at this;exact this
theorem En(s:SS)(xs:Qa):xs.map (expL (Yb s))=xs.map (expL s):=List.map_congr_left fun x _=>El s x
theorem StI.fields{z:StV}{y i:Bool}{k C:Int}(h:StI w B sb M s z q y i k C)(p:q<=1000000)(v:Value)(xs:Qa)(a:TxO w v xs)(t:xs.length<=100000)(u:∀ x∈xs,x.length<=100000) :
 Calls prog 71 #[.pointer (some ⟨sb,0,none⟩),v] w fun e w'=>∃ rv,e=.returned rv/\w'.ownsRow w.heap.size 9 1 rv (fieldsL M (xs.map (expL s))).length (Qv (fieldsL M (xs.map (expL s))))/\Below w.heap.size w w':=by
 obtain⟨n,r,l,m⟩:=h.h;have b:=h.mb;have:=B7 sb (Yb s) z.nv z.vv z.cv z.ns z.vl M n r v xs w (h.var p) h.vb (Az h.tb) (by rw[<-l];exact Qi h.blk 3) (fun j o=>by obtain⟨g,A,c,_,d,f⟩:=m j o;exact⟨g,A,c,d,f⟩) a t u (by have:=b.hl;omega) (fun x a=>by have:=(b.hs x a).1;omega);rw[En]at this;exact this
theorem TxO.below{xs:Qa}(h:TxO w v xs)(k:Below w.heap.size w w'):TxO w' v xs:=by
 obtain⟨a,c,e,f⟩:=h;refine⟨a,c,e,fun j l=>?_⟩;obtain⟨g,d,i,b⟩:=f j l;exact⟨g,d,i,by rw[k.cell (p:=⟨g,d+j,none⟩) (Qq b)];exact b⟩
theorem A4:∀(k:List (Nat×UInt8)) (v a:L8) (t:L8),t∈Y0 k v a->t.length<=v.length
 | [],_,_,t,h=>by cases h
 |p::k,v,a,t,h=>by
  rw[Y0]at h;by_cases hp:p.1=2
  ·rw[if_pos hp]at h;rcases List.mem_cons.1 h with h|h
   ·rw[h,List.length_take];omega
   ·have:=A4 k _ _ t h;rw[List.length_drop]at this;omega
  ·rw[if_neg hp]at h;rcases List.mem_append.1 h with h|h
   ·by_cases h0:p.1=0
    ·rw[if_pos h0]at h;cases h
    ·rw[if_neg h0]at h;rw[XH h,List.length_take];omega
   ·have:=A4 k _ _ t h;rw[List.length_drop]at this;omega
theorem ZY(h:w.ownsRow base e size v n xs)(l:v.ownBlock≠some b):(w.setCell ⟨b,o,none⟩ x).ownsRow base e size v n xs:=by
 refine⟨h.1,?_⟩;rcases h.2 with i | ⟨g,c,d,a,j,k,r⟩
 ·exact Qd i
 ·exact Qc ⟨g,c,d,a,j,by rw[QK (fun f=>l (by rw[a,f];rfl))];exact k,r⟩
theorem ZF{a:Array Value}(h:w.ownsRow base e size v n xs)(c:w.heap[b]?=some (.cells a t))(he:e≠t):v.ownBlock≠some b:=fun hk=>by
 obtain⟨_,f,d⟩:=Y7 h b _ hk c;injection d with e1 e2
 exact he e2.symm
theorem TxL.setV(h:TxL w v zs)(l:v.ownBlock≠some b):TxL (w.setCell ⟨b,o,none⟩ x) v zs:=by
 rcases h with h | ⟨g,c,d,i⟩
 ·exact Qd h
 ·exact Qc ⟨g,c,d,fun j k=>by rw[ZA (a:=⟨g,j,none⟩) (QK (fun e=>l (by have f:g=b:=e;rw[d,f];rfl)))];exact i j k⟩
theorem StI.put{s':SS}{z:StV}{E u p:Bool}{A F r:Int}(h:StI w B sb M s z q E u A F)(o:Nat)(x:Value)
 (C:SB (w.setCell ⟨sb,o,none⟩ x) sb M.fr M.to M.size z.hv s'.vs z.nv z.vv z.cv z.av p f g r) (j:s'.vs=s.vs) (D:s'.vals=s.vals) (m:s'.told=s.told) (d:s'.met=s.met):StI (w.setCell ⟨sb,o,none⟩ x) B sb M s' z q p f g r:=by
 have i:Mod sb w (w.setCell ⟨sb,o,none⟩ x):=(Mod.refl sb w).setCell _ _;refine⟨h.hB,C,ZY h.n (ZF h.n h.blk (by decide)),ZY h.v (ZF h.v h.blk (by decide)),by rw[d];exact ZY h.a (ZF h.a h.blk (by decide)),fun e=>?_,fun e=>h.c0 (by rw[<-j];exact e),h.cap,fun k b=>Y5 (h.capt k b) (i.block k (h.capl k b) (h.cap k b).2.2.2),h.nvv,h.l,h.nl,fun y=>by rw[D];exact h.vals y,h.h.below (i.below h.hB h.lt),h.mb,h.vb,by rw[m];exact h.tb,by rw[d];exact h.alone,by rw[d];exact h.six⟩;rw[m];exact(h.c (by rw[<-j];exact e)).setV (fun t=>(h.cap sb t).2.2.2 rfl)
theorem StI.keep0{z:StV}(h:StI w B sb M s z q kp en er pz)(b:Bool):StI (w.setCell ⟨sb,9,none⟩ (.bool b)) B sb M s z q b en er pz:=h.put 9 _ (Qt _ _ _ _ _ _ h.blk) rfl rfl rfl rfl
theorem StI.disc{z:StV}(h:StI w B sb M s z q kp en er pz):StI (w.setCell ⟨sb,9,none⟩ (.bool false)) B sb M (KJ s) z q false en er pz:=h.put 9 _ (Qt _ _ _ _ _ _ h.blk) rfl rfl rfl rfl
theorem StI.ends{z:StV}(h:StI w B sb M s z q kp en er pz):StI (w.setCell ⟨sb,10,none⟩ (.bool true)) B sb M s z q kp true er pz:=h.put 10 _ (Qt _ _ _ _ _ _ h.blk) rfl rfl rfl rfl
theorem StI.told0{z:StV}(h:StI w B sb M s z q kp en er pz){t:Qa}(hv:s.vs=false)(ht:∀ x∈t,x.length<=100000):StI w B sb M (KK s t) z q kp en er pz:=
 ⟨h.hB,h.blk,h.n,h.v,h.a,fun e=>absurd (show s.vs=true from e) (by rw[hv];decide),h.c0,h.cap,h.capt,h.nvv,h.l,h.nl,h.vals,h.h,h.mb,h.vb,ht,h.alone,h.six⟩
theorem MY(x y:L8)(tag:Int)(oct:Bool)(w:World)(g:tag=1\/tag=2\/tag=3)(a:x.length<=100000)(b:y.length<=100000) :
 Calls prog 116 #[.string (sA x),.string (sA y),.int .i64 tag,.bool oct] w fun e w'=>∃ cv,e=.returned (.tuple #[cv,.bool (wayB tag oct x y)])/\Below w.heap.size w w'/\(tag=3->wayB tag oct x y=true->UW w' w.heap.size cv (Uh (x::Zy (lookL oct y) x (lookL oct x)))):=by
 rcases g with rfl|rfl|rfl
 ·exact(Lt x y oct w a b).mono fun e w' h=>⟨_,h.1,h.2,fun e=>absurd e (by decide)⟩
 ·exact(Le x y oct w a b).mono fun e w' h=>⟨_,h.1,h.2,fun e=>absurd e (by decide)⟩
 ·refine(LE x y oct w a b).mono fun e w' h=>?_
  obtain⟨cv,c,d,f⟩:=h;exact⟨cv,c,d,fun _=>f⟩
theorem UW.txl{a:Value}(h:UW w B a zs):TxL w a zs:=by
 obtain⟨g,c,d,_,_,e⟩:=h;exact Qc ⟨g,c,d,fun j b=>by rw[e j b];simp[List.getD_eq_getElem?_getD,List.getElem?_eq_getElem b]⟩
theorem StI.told{z:StV}{r:Bool}{o u:Int}(h:StI w B sb M s z q r m o u){t:Qa}{B':Nat}(E:s.vs=true)(p:UW w B' d (Uh t))(f:∀ k,z.nv.ownBlock=some k\/z.vv.ownBlock=some k\/z.av.ownBlock=some k\/k=sb->k<B')(G:0<(Uh t).length)(C:∀ x∈t,x.length<=100000):StI (w.setCell ⟨sb,7,none⟩ d) B sb M (KK s t) ⟨z.hv,z.nv,z.vv,d,z.av,z.ns,z.vl⟩ q r m o u:=by
 have A:Mod sb w (w.setCell ⟨sb,7,none⟩ d):=(Mod.refl sb w).setCell _ _;have F:=p.txl;obtain⟨g,c,D,J,y,H⟩:=p;have i:g≠sb:=by intro e;have:=f sb (Qc (Qc (Qc rfl)));omega
 have b:∀ k,d.ownBlock=some k->k=g:=fun k b=>by rw[D]at b;simpa[Value.ownBlock,eq_comm]using b
 refine⟨h.hB,Qt _ _ _ _ _ _ h.blk,ZY h.n (ZF h.n h.blk (by decide)),ZY h.v (ZF h.v h.blk (by decide)),ZY h.a (ZF h.a h.blk (by decide)),fun _=>F.setV (fun e=>i (b sb e).symm),fun e=>?_,fun k e=>?_,fun k e=>?_,h.nvv,h.l,h.nl,h.vals,h.h.below (A.below h.hB h.lt),h.mb,h.vb,C,h.alone,h.six⟩
 ·have j:s.vs=false:=e;rw[E]at j;cases j
 ·have:=b k e;subst this;exact⟨fun e=>by have:=f _ (Qd e);omega,fun e=>by have:=f _ (Qc (Qd e));omega,fun e=>by have:=f _ (Qc (Qc (Qd e)));omega,i⟩
 ·have:=b k e;subst this;exact Y5 y (QK i)
theorem Sg(tag:Int)(oct:Bool)(v:L8)(f:L8->L8){a:Qa}(h:k<a.length):XX tag oct v ((a.map f).drop k)=if wayB tag oct v (f a[k])=true then some (f a[k])else XX tag oct v ((a.map f).drop (k+1)):=by
 rw[List.drop_eq_getElem_cons (by simpa using h),List.getElem_map];rfl
theorem Rz(tag:Int)(oct:Bool)(b:Qa){a:Qa}(h:i<a.length):Xs tag oct b (a.drop i)=match XX tag oct a[i] b with
 |some k=>some (a[i],k)
 |none=>Xs tag oct b (a.drop (i+1)):=by
 rw[List.drop_eq_getElem_cons h];rfl
theorem R9(oct:Bool)(v k:L8):wayT 3 oct v k=some (v::Zy (lookL oct k) v (lookL oct v)):=by
 unfold wayT;rw[if_pos rfl,Ro];rfl
theorem R7{tag:Int}(oct:Bool)(v k:L8)(h:¬ tag=3):wayT tag oct v k=none:=by unfold wayT;rw[if_neg h]
theorem NK(B sb:Nat)(M:Msg)(s:SS)(z:StV)(q:Nat)(kp en:Bool)(er pz:Int)(X Z:Value)(vals keys:Qa)(tag:Int)(oct:Bool)(w:World)(h:StI w B sb M s z q kp en er pz)(hq:q<=1000000)(hv:TxO w X vals)(hk:TxO w Z keys)(u:tag=1\/tag=2\/tag=3)(aF:vals.length<=10000000000)(aE:keys.length<=10000000000)(ai:∀ x∈vals,x.length<=100000)(af:∀ x∈keys,x.length<=100000) :
 Calls prog 72 #[.pointer (some ⟨sb,0,none⟩),X,Z,.int .i64 tag,.bool oct] w fun e w'=>e=.returned (.bool (askL s tag oct vals keys).1)/\Mod sb w w'/\∃ z',StI w' B sb M (askL s tag oct vals keys).2 z' q kp en er pz:=by
 obtain⟨va,vc,rfl,aj⟩:=hv;obtain⟨ka,kc,rfl,ag⟩:=hk;have HV:=I aj;have HK:=I ag;have H:=I h;have ar:=I ai;have U:=I af;have aB:=h.lt;have c4:=QV h.blk
 have ap:∀ k,z.nv.ownBlock=some k\/z.vv.ownBlock=some k\/z.av.ownBlock=some k\/k=sb->k<w.heap.size:=fun k e=>by
  rcases e with e|e|e|e
  ·exact(h.n.lt k e).2
  ·exact(h.v.lt k e).2
  ·exact(h.a.lt k e).2
  ·rw[e];exact aB
 have aw:=I ap
 have HASK:Hid (askL s tag oct vals keys=match Xs tag oct (keys.map (expL s)) vals with
  |none=>(false,s)
  | some (v,k)=>(true,match wayT tag oct v k with
   |some t=>KK s t
   | none=>s)):=rfl
 have HT:=I u;clear aj ag h ai af ap u;go_enter func72,ntmps72;go_wp2
 go_loopw [11,12] (fun Q _ wr=>∃(i:Nat),i<=vals.length/\Q=.int .i64 i/\Hid (Below w.heap.size w wr)/\Hid (Xs tag oct (keys.map (expL s)) vals=Xs tag oct (keys.map (expL s)) (vals.drop i))) (fun Q _ _=>vals.length - (intOf Q).toNat)
 case atStart=>exact⟨0,QE,rfl,Below.refl _ _,rfl⟩
 case round=>
  obtain⟨i,hi,rfl,c,F⟩:=hrel;by_cases hil:i<vals.length
  ·have az:(i:Int)<(vals.length:Int):=by omega
   have J:=I (Rz tag oct (keys.map (expL s)) hil);go_wp2
   go_loopw [12] (fun R wi=>∃(k:Nat),k<=keys.length/\R=.int .i64 k/\Hid (Below w.heap.size w wi)/\Hid (XX tag oct vals[i] (keys.map (expL s))=XX tag oct vals[i] ((keys.map (expL s)).drop k))) (fun R _=>keys.length - (intOf R).toNat)
   case atStart=>exact⟨0,QE,rfl,c,rfl⟩
   case round=>
    clear c;obtain⟨k,aD,rfl,c,m⟩:=hrel;by_cases hkl2:k<keys.length
    ·have aA:(k:Int)<(keys.length:Int):=by omega
     have f:=I (Sg tag oct vals[i] (expL s) hkl2);obtain⟨gk,ok,rfl,K⟩:=HK.o k hkl2;obtain⟨gv,ov,rfl,L⟩:=HV.o i hil;have Y:wr.cell? ⟨gk,ok+k,none⟩=some (.string (sA keys[k])):=by rw[c.o.cell (p:=⟨gk,ok+k,none⟩) (Qq K)];exact K
     have r:=I ((H.o.below c.o).expand hq keys[k] (U.o _ (List.getElem_mem hkl2)));have ae:=V4 s (U.o _ (List.getElem_mem hkl2));obtain⟨y,hy⟩:=Qe (expL s keys[k]);rw[hy]at r ae f;have A:=ar.o _ (List.getElem_mem hil);obtain⟨x,P⟩:=Qe (vals[i]);rw[P]at L f m J A;obtain⟨yk,ao⟩:=Qe (keys[k]);rw[ao]at Y r;have T:=I L;have aC:=c.o.size;have au:=I P;clear hy P ao K L;go_wp2_with fail;refine r.o.mono ?_;rintro e w2 ⟨rfl,aa⟩;have C:=I (c.o.trans (aa.mono aC));have ak:=C.o.size;have b2:w2.cell? ⟨gv,ov+i,none⟩=some (.string (sA x)):=by rw[C.o.cell (p:=⟨gv,ov+i,none⟩) (Qq T.o)];exact T.o
     have V:=I (MY x y tag oct w2 HT.o A ae);clear aa r Y;go_wp2_with fail;refine V.o.mono ?_;rintro e S ⟨cv,rfl,ab,ac⟩;have d:=I (C.o.trans (ab.mono ak));have j:=I ac;have g:=H.o.below d.o;have G:=I g;have d4:=QV g.blk;have d7:=Yf g.blk;have df:=Qu g.blk;clear ab ac V b2 g;obtain⟨t,N⟩:=Qe (wayB tag oct x y);rw[N]at f j;rw[N];clear N
     cases t with
     |false=>
      have aq:Hid (XX tag oct x (keys.map (expL s))=XX tag oct x ((keys.map (expL s)).drop (k+1))):=by show _=_;rw[m.o,f.o,if_neg (by decide)]
      go_wp2;exact⟨⟨k+1,by omega,by go_num,d,by rw[au.o];exact aq⟩,by simp[intOf];omega⟩
     |true=>
      have l:Hid (Xs tag oct (keys.map (expL s)) vals=some (x,y)):=by show _=_;rw[F.o,J.o,m.o,f.o,if_pos rfl]
      by_cases ht3:tag=3
      ·have b3:(tag==3)=true:=by simpa using ht3
       have b:Hid (askL s tag oct vals keys=(true,KK s (x::Zy (lookL oct y) x (lookL oct x)))):=by
        show _=_
        rw[HASK.o,l.o,ht3];simp only[R9]
       have ad:=j.o ht3 rfl
       have W:Hid (∀ t∈x::Zy (lookL oct y) x (lookL oct x),t.length<=100000):=by
        intro t u;rcases List.mem_cons.1 u with e|e
        ·rw[e];exact A
        ·exact Qs (A4 _ _ _ _ e) A
       have D:=I ad;clear ht3 ad j l
       cases hvs:s.vs with
       |true=>
        rw[hvs]at d4;have E:=I (G.o.told hvs D.o (fun k e=>Zs (aw.o k e) ak) (by unfold Uh;simp) W.o);obtain⟨g9,c9,h9,_⟩:=D.o;obtain⟨n9,ah⟩:=Qe ((Uh (x::Zy (lookL oct y) x (lookL oct x))).length);rw[ah]at h9;clear hvs ah D;subst h9;go_wp2;go_ret;exact⟨QS (by rw[b.o]),(Mod.of_below d.o).trans ((Mod.refl sb S).setCell _ _),_,by rw[b.o];exact E.o⟩
       |false=>
        rw[hvs]at d4;have E:=I (G.o.told0 hvs W.o);clear hvs;go_wp2;go_ret;exact⟨QS (by rw[b.o]),Mod.of_below d.o,_,by rw[b.o];exact E.o⟩
      ·have b3:(tag==3)=false:=by simpa using ht3
       have b:Hid (askL s tag oct vals keys=(true,s)):=by
        show _=_
        rw[HASK.o,l.o];simp only[R7 oct x y ht3]
       clear ht3 j l;go_wp2;go_ret;exact⟨QS (by rw[b.o]),Mod.of_below d.o,_,by rw[b.o];exact G.o⟩
    ·have ay:k=keys.length:=by omega
     subst ay;have aA:¬(keys.length:Int)<(keys.length:Int):=by omega
     have b:Hid (Xs tag oct (keys.map (expL s)) vals=Xs tag oct (keys.map (expL s)) (vals.drop (i+1))):=by
      show _=_
      rw[F.o,J.o,m.o,Zb (by simp)];rfl
     go_wp2;go_roundw
     case rel=>exact⟨i+1,by omega,by go_num,c,b⟩
     case measure=>simp[intOf];omega
  ·have az:¬(i:Int)<(vals.length:Int):=by omega
   have ax:i=vals.length:=by omega
   subst ax;have b:Hid (askL s tag oct vals keys=(false,s)):=by show _=_;rw[HASK.o,F.o,Zb Ql];rfl
   go_wp2;go_ret;exact⟨QS (by rw[b.o]),Mod.of_below c.o,z,by rw[b.o];exact H.o.below c.o⟩
def HP(B sb:Nat)(M:Msg)(q:Nat)(kp en:Bool)(er pz:Int)(w:World)(r:Bool×SS)(e:Ending)(w':World):Prop:=e=.returned (.bool r.1)/\Mod sb w w'/\∃ z',StI w' B sb M r.2 z' q kp en er pz
theorem StI.existsV{z:StV}{C:Bool}{n D:Int}(h:StI w B sb M s z q C m n D)(t:q<=1000000)(a:Option Addr)(c:Nat)(xs:Qa)(b:∀ j (d:j<xs.length),∃ g off,a=some ⟨g,off,none⟩/\w.cell? ⟨g,off+j,none⟩=some (.string (sA xs[j])))(v:xs.length<=c)(y:xs.length<=100000)(A:∀ x∈xs,x.length<=100000) :
 Calls prog 74 #[.pointer (some ⟨sb,0,none⟩),.slice a xs.length c] w fun e w'=>e=.returned (.bool (existsL M (xs.map (expL s))))/\Below w.heap.size w w':=by
 obtain⟨r,u,o,p⟩:=h.h;have f:=h.mb;have:=Lw sb (Yb s) z.nv z.vv z.cv z.ns z.vl M r u a c xs w (h.var t) h.vb (Az h.tb) (by rw[<-o];exact Qi h.blk 3) (fun j d=>by obtain⟨g,off,i,_,k,l⟩:=p j d;exact⟨g,off,i,k,l⟩) b v y A (by have:=f.hl;omega) (fun x b=>by have:=(f.hs x b).1;omega);rw[En]at this;exact this
theorem AX{α:Type}(f:α->Qa)(m:Nat):∀(l:List α),(∀ x∈l,(f x).length<=m)->(l.flatMap f).length<=l.length*m
 | [],_=>QE
 |x::l,h=>by
  rw[List.flatMap_cons,Ze,ZN,Nat.succ_mul];have b:=h x List.mem_cons_self;have c:=AX f m l (fun y a=>h y (List.mem_cons_of_mem _ a));omega
theorem Og(d:KR M){b:Qa}(h:b.length<=100000):(fieldsL M b).length<=10000000000/\∀ x∈fieldsL M b,x.length<=100000:=by
 constructor
 ·have e:=AX (fun n=>(M.hdrs.filter (Z1 · n)).map (·.2)) 100000 b (fun n _=>by rw[List.length_map];exact Qs (List.length_filter_le _ _) d.hl);have c:b.length*100000<=100000*100000:=Nat.mul_le_mul_right _ h;exact Qs e (by omega)
 ·intro x g;obtain⟨n,_,c⟩:=List.mem_flatMap.1 g;obtain⟨a,f,rfl⟩:=List.mem_map.1 c;exact(d.hs a (List.mem_filter.1 f).1).2
theorem S3(c:KR M){b:Qa}(h:b.length<=100000):(envL M b).length<=10000000000/\∀ x∈envL M b,x.length<=100000:=by
 constructor
 ·have d:=AX (fun p=>if zL p=[102,114,111,109]then [M.fr]else if zL p=[116,111]then [M.to]else []) 1 b (fun n _=>by split;exact Nat.le_refl _;split;exact Nat.le_refl _;exact QE);exact Qs d (by omega)
 ·intro x e;obtain⟨n,_,a⟩:=List.mem_flatMap.1 e
  split at a
  ·rw[XH a];exact c.fr
  ·split at a
   ·rw[XH a];exact c.tu
   ·cases a
def Ns(t:TypeId):Bool:=t != 104&&t != 9&&t != 52
def KB(w w':World):Prop:=∀(k:Nat) (cs:Array Value) (t:TypeId),w.heap[k]?=some (.cells cs t)->Ns t=true->w'.heap[k]?=some (.cells cs t)
theorem KB.trans{a b c:World}(h:KB a b)(h':KB b c):KB a c:=fun k cs t hk ht=>h' k cs t (h k cs t hk ht) ht
theorem X5(h:Below w.heap.size w w'):KB w w':=fun k cs t hk _=>by rw[h.block k (Qg hk)];exact hk
theorem K8(h:Mod b w w'){c:Array Value}(a:w.heap[b]?=some (.cells c t))(d:Ns t=false):KB w w':=fun k cs' t' hk ht'=>by
 rw[h.block k (Qg hk) (fun e=>by subst e;rw[hk]at a;injection a with a;injection a with _ a;rw[a,d]at ht';cases ht')];exact hk
theorem Vm{cs:Array Value}(hb:w.heap[b]?=some (.cells cs t))(ht:Ns t=false)(o:Nat)(v:Value):KB w (w.setCell ⟨b,o,none⟩ v):=K8 ((Mod.refl b w).setCell o v) hb ht
theorem Nl{a:World}(h:w.ownsRow base e size v n xs)(he:Ns e=false)(d:∀ k,k<w.heap.size->some k≠v.ownBlock->a.heap[k]?=w.heap[k]?):KB w a:=fun k cs t hk ht=>by
 rw[d k (Qg hk) (fun b=>ZF h hk (fun c=>by rw[<-c,he]at ht;cases ht) b.symm)];exact hk
end Go.Proofs.YtgnkjijocdmniaaGreatDoor
