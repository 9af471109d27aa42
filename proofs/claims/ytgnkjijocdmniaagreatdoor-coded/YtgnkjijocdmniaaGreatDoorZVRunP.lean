import Derived.Test.YtgnkjijocdmniaaGreatDoorVHolds
namespace Go.Proofs.YtgnkjijocdmniaaGreatDoor
set_option linter.unusedVariables false
set_option linter.unusedSimpArgs false
set_option maxRecDepth 100000
set_option maxHeartbeats 4000000
open Go.Proofs.Tryz
variable{α:Type}{B base k n q sb:Nat}{M:Msg}{X:Nat->Prop}{a:List α}{b er g p pz:Int}{c v v':Value}{e:TypeId}{en kp:Bool}{f w w':World}{l:Qa}{o:Obj}{r:Int×List (Int×L8)}{s s':SS}{x:L8}{xs:List Value}{z:StV}
section
open Go.RowKit
attribute [local go_sem ↓] Go.wp_at_zero Go.wp_at_succ
def Y5(s:SS)(xs:Qa)(k:Nat):Qa:=(xs.take k).map (expL s)
theorem Da(s:SS){xs:Qa}(h:k<xs.length):Y5 s xs (k+1)=Y5 s xs k++[expL s xs[k]]:=by
 unfold Y5;rw[List.take_succ_eq_append_getElem h,List.map_append];rfl
theorem Db(s:SS){xs:Qa}(h:k<=xs.length):(Y5 s xs k).length=k:=by
 unfold Y5;rw[List.length_map,List.length_take];omega
theorem Dc(s:SS)(xs:Qa):Y5 s xs xs.length=xs.map (expL s):=by
 unfold Y5;rw[List.take_length]
theorem Dd(b:α->SS->Bool×SS)(c:Bool)(h:k<a.length)(s:SS):Xb b c (a.drop k) s=if(b a[k] s).1=c then(c,(b a[k] s).2)else Xb b c (a.drop (k+1)) (b a[k] s).2:=by
 rw[List.drop_eq_getElem_cons h];rfl
theorem Mz(B sb:Nat)(M:Msg)(s:SS)(z:StV)(q:Nat)(x u:Bool)(v y:Int)(l:L8)(g:Nat)(tv P W:Value)(Z X:Nat)(Y:Bool)(w:World)(h:StI w B sb M s z q x u v y)(hq:q<=1000000)(ai:g<B)(d:w.heap[g]?=some (.cells #[.string (sA l),tv,P,W,.int .i64 Z,.bool Y,.int .i64 X] 200))(t:l=YF)(b:α->SS->Bool×SS)(a:List α)(f c:Nat)(ag:tv=.slice (some ⟨f,0,none⟩) a.length c)(ah:f<B)(Q:∀ j (hj:j<a.length),∃ g2,w.cell? ⟨f,j,none⟩=some (.pointer (some ⟨g2,0,none⟩))/\Uj B M w (.pointer (some ⟨g2,0,none⟩)) (b a[j]))(aj:a.length<=4294967280) :
 Calls prog 85 #[.pointer (some ⟨sb,0,none⟩),.pointer (some ⟨g,0,none⟩)] w (HP B sb M q x u v y w (Xb b false a s)):=by
 subst ag;have c0:=Qj d;have c1:=Qo d;have c2:=QG d;have c3:=QH d;have c4:=QJ d;have c5:=QM d;have c6:=Zg d;have HD:=I Q;have H:=I h;have ab:=h.hB;have af:=h.lt;have ac:=Qh d;have e0:=Ql [116,114,117,101] t rfl
 have e1:=Ql [102,97,108,115,101] t rfl
 have e2:=Ql [110,111,116] t rfl
 have e3:=Zz [97,108,108,111,102] t rfl
 clear d t h Q;go_enter func85,ntmps85;go_wp2
 go_loopw [6] (fun F wr=>∃(k:Nat) (m:SS) (A:StV),k<=a.length/\F=.int .i64 k/\Hid (Mod sb w wr)/\Hid (StI wr B sb M m A q x u v y)/\Hid (Xb b false a s=Xb b false (a.drop k) m)) (fun F _=>a.length - (intOf F).toNat)
 case atStart=>exact⟨0,s,z,QC,rfl,Mod.refl sb w,H.o,rfl⟩
 case round=>
  obtain⟨k,m,A,hk,rfl,n,L,C⟩:=hrel;have b1:wr.cell? ⟨g,1,none⟩=some (.slice (some ⟨f,0,none⟩) a.length c):=by rw[n.o.cell (p:=⟨g,1,none⟩) ac (by show g≠sb;omega)];exact c1
  by_cases hkl:k<a.length
  ·have ae:(k:Int)<(a.length:Int):=by omega
   obtain⟨g2,E,S⟩:=HD.o k hkl;have b2:wr.cell? ⟨f,k,none⟩=some (.pointer (some ⟨g2,0,none⟩)):=by rw[n.o.cell (p:=⟨f,k,none⟩) (QI E) (by show f≠sb;omega)];exact E
   have K:=I (S wr sb m A q x u v y (n.o.below ab af) L.o hq);have D:=I (Dd b false hkl m);obtain⟨r,T⟩:=Qf (b a[k] m);rw[T]at K D;obtain⟨rb,G⟩:=r;clear S E T;go_wp2_with fail;refine K.o.mono ?_;rintro e w1 ⟨rfl,R,U⟩;have J:=I (n.o.trans R);have N:=I U;clear R U
   cases rb with
   |false=>
    have i:Hid (Xb b false a s=(false,G)):=by show _=_;rw[C.o,D.o,if_pos rfl]
    go_wp2;go_ret;exact⟨Zs (by rw[i.o]),J.o,by rw[i.o];exact N.o⟩
   |true=>
    have i:Hid (Xb b false a s=Xb b false (a.drop (k+1)) G):=by show _=_;rw[C.o,D.o,if_neg (by decide)]
    obtain⟨z2,V⟩:=N.o;have aa:=I V;clear V;go_wp2;exact⟨⟨k+1,G,z2,by omega,by go_num,J,aa,i⟩,by simp[intOf];omega⟩
  ·have ad:k=a.length:=by omega
   subst ad;have ae:¬(a.length:Int)<(a.length:Int):=by omega
   have i:Hid (Xb b false a s=(true,m)):=by show _=_;rw[C.o,Zi Qt];rfl
   go_wp2;go_ret;exact⟨Zs (by rw[i.o]),n.o,A,by rw[i.o];exact L.o⟩
theorem MA(B sb:Nat)(M:Msg)(s:SS)(z:StV)(q:Nat)(x u:Bool)(v y:Int)(i:L8)(g:Nat)(tv P W:Value)(Z X:Nat)(Y:Bool)(w:World)(h:StI w B sb M s z q x u v y)(hq:q<=1000000)(ai:g<B)(d:w.heap[g]?=some (.cells #[.string (sA i),tv,P,W,.int .i64 Z,.bool Y,.int .i64 X] 200))(n:i=YG)(b:α->SS->Bool×SS)(a:List α)(f c:Nat)(ag:tv=.slice (some ⟨f,0,none⟩) a.length c)(ah:f<B)(Q:∀ j (hj:j<a.length),∃ g2,w.cell? ⟨f,j,none⟩=some (.pointer (some ⟨g2,0,none⟩))/\Uj B M w (.pointer (some ⟨g2,0,none⟩)) (b a[j]))(aj:a.length<=4294967280) :
 Calls prog 85 #[.pointer (some ⟨sb,0,none⟩),.pointer (some ⟨g,0,none⟩)] w (HP B sb M q x u v y w (Xb b true a s)):=by
 subst ag;have c0:=Qj d;have c1:=Qo d;have c2:=QG d;have c3:=QH d;have c4:=QJ d;have c5:=QM d;have c6:=Zg d;have HD:=I Q;have H:=I h;have ab:=h.hB;have af:=h.lt;have ac:=Qh d;have e0:=Ql [116,114,117,101] n rfl
 have e1:=Ql [102,97,108,115,101] n rfl
 have e2:=Ql [110,111,116] n rfl
 have e3:=Ql [97,108,108,111,102] n rfl
 have e4:=Zz [97,110,121,111,102] n rfl
 clear d n h Q;go_enter func85,ntmps85;go_wp2
 go_loopw [8] (fun F wr=>∃(k:Nat) (m:SS) (A:StV),k<=a.length/\F=.int .i64 k/\Hid (Mod sb w wr)/\Hid (StI wr B sb M m A q x u v y)/\Hid (Xb b true a s=Xb b true (a.drop k) m)) (fun F _=>a.length - (intOf F).toNat)
 case atStart=>exact⟨0,s,z,QC,rfl,Mod.refl sb w,H.o,rfl⟩
 case round=>
  obtain⟨k,m,A,hk,rfl,t,L,C⟩:=hrel;have b1:wr.cell? ⟨g,1,none⟩=some (.slice (some ⟨f,0,none⟩) a.length c):=by rw[t.o.cell (p:=⟨g,1,none⟩) ac (by show g≠sb;omega)];exact c1
  by_cases hkl:k<a.length
  ·have ae:(k:Int)<(a.length:Int):=by omega
   obtain⟨g2,E,S⟩:=HD.o k hkl;have b2:wr.cell? ⟨f,k,none⟩=some (.pointer (some ⟨g2,0,none⟩)):=by rw[t.o.cell (p:=⟨f,k,none⟩) (QI E) (by show f≠sb;omega)];exact E
   have K:=I (S wr sb m A q x u v y (t.o.below ab af) L.o hq);have D:=I (Dd b true hkl m);obtain⟨r,T⟩:=Qf (b a[k] m);rw[T]at K D;obtain⟨rb,G⟩:=r;clear S E T;go_wp2_with fail;refine K.o.mono ?_;rintro e w1 ⟨rfl,R,U⟩;have J:=I (t.o.trans R);have N:=I U;clear R U
   cases rb with
   |true=>
    have l:Hid (Xb b true a s=(true,G)):=by show _=_;rw[C.o,D.o,if_pos rfl]
    go_wp2;go_ret;exact⟨Zs (by rw[l.o]),J.o,by rw[l.o];exact N.o⟩
   |false=>
    have l:Hid (Xb b true a s=Xb b true (a.drop (k+1)) G):=by show _=_;rw[C.o,D.o,if_neg (by decide)]
    obtain⟨z2,V⟩:=N.o;have aa:=I V;clear V;go_wp2;exact⟨⟨k+1,G,z2,by omega,by go_num,J,aa,l⟩,by simp[intOf];omega⟩
  ·have ad:k=a.length:=by omega
   subst ad;have ae:¬(a.length:Int)<(a.length:Int):=by omega
   have l:Hid (Xb b true a s=(false,m)):=by show _=_;rw[C.o,Zi Qt];rfl
   go_wp2;go_ret;exact⟨Zs (by rw[l.o]),t.o,A,by rw[l.o];exact L.o⟩
theorem MB(B sb:Nat)(M:Msg)(s:SS)(z:StV)(q:Nat)(U K:Bool)(L X:Int)(b:L8)(g:Nat)(Y fv kv:Value)(d W:Nat)(A:Bool)(w:World)(h:StI w B sb M s z q U K L X)(hq:q<=1000000)(aM:g<B)(f:w.heap[g]?=some (.cells #[.string (sA b),Y,fv,kv,.int .i64 d,.bool A,.int .i64 W] 200))(a:b=ZA)(xs c:Qa)(n V r v:Nat)(aD:fv=.slice (some ⟨n,0,none⟩) xs.length V)(aF:kv=.slice (some ⟨r,0,none⟩) c.length v)(aj:Zm w n xs)(ai:Zm w r c)(aJ:xs.length<=100000)(aO:c.length<=100000)(ap:∀ x∈xs,x.length<=100000)(af:∀ x∈c,x.length<=100000)(ht:d=1\/d=2\/d=3) :
 Calls prog 85 #[.pointer (some ⟨sb,0,none⟩),.pointer (some ⟨g,0,none⟩)] w (HP B sb M q U K L X w (Z9 s d A (xs.map (expL s)) c)):=by
 subst aD;subst aF;have c0:=Qj f;have c1:=Qo f;have c2:=QG f;have c3:=QH f;have c4:=QJ f;have c5:=QM f;have c6:=Zg f;have ae:TxO w (.slice (some ⟨r,0,none⟩) c.length v) c:=Gt ai;have au:=I ae;have aB:=I aj;have H:=I h;have aN:=Qh f;have HC:=I f;have av:=I af;have ac:=I ap;have HT:Hid ((d:Int)=1\/(d:Int)=2\/(d:Int)=3):=by show _\/_;omega
 have e0:=Ql [116,114,117,101] a rfl
 have e1:=Ql [102,97,108,115,101] a rfl
 have e2:=Ql [110,111,116] a rfl
 have e3:=Ql [97,108,108,111,102] a rfl
 have e4:=Ql [97,110,121,111,102] a rfl
 have e5:=Ql [101,120,105,115,116,115] a rfl
 have e6:=Ql [115,105,122,101] a rfl
 have e7:=Ql [104,101,97,100,101,114] a rfl
 have e8:=Ql [101,110,118,101,108,111,112,101] a rfl
 clear f a h aj ai ae af ap;obtain⟨i0,hi,aK,aL,J⟩:=info_parts Tryz.infoStr;go_enter func85,ntmps85;go_wp2
 go_loopw [12,13] (fun lv T wr=>∃(k:Nat),k<=xs.length/\T=.int .i64 k/\wr.ownsRow w.heap.size 9 1 lv (Y5 s xs k).length (Qw (Y5 s xs k))/\Hid (Below w.heap.size w wr)) (fun _ T _=>xs.length - (intOf T).toNat)
 case atStart=>exact⟨0,QC,rfl,World.ownsRow_nil _ _ _ _,Below.refl _ _⟩
 case round=>
  obtain⟨k,P,rfl,m,l⟩:=hrel;have aI:=l.o.size;have i:=Zk HC.o l.o;have d0:=Qj i;have d1:=Qo i;have d2:=QG i;have d3:=QH i;have d4:=QJ i;have d5:=QM i;have d6:=Zg i;by_cases hkx:k<xs.length
  ·have aG:(k:Int)<(xs.length:Int):=by omega
   have E:=aB.o k hkx;rw[List.getD_eq_getElem?_getD,List.getElem?_eq_getElem hkx]at E;have b1:wr.cell? ⟨n,k,none⟩=some (.string (sA xs[k])):=by rw[l.o.cell (p:=⟨n,k,none⟩) (QI E)];exact E
   have D:=I ((H.o.below l.o).expand hq xs[k] (ac.o _ (List.getElem_mem hkx)));have ah:=Da s hkx;have aa:=I ah;have Q:=Db s P;have aw:=I Q;obtain⟨y,G⟩:=Qf (expL s xs[k]);rw[G]at D aa;obtain⟨xk,ao⟩:=Qf (xs[k]);rw[ao]at D b1;rw[Q]at m;have aA:=I m;clear G ao ah Q E m i;go_wp2_with fail;refine D.o.mono ?_;rintro e w2 ⟨rfl,N⟩;have R:=YV aA.o N;have Z:=I (l.o.trans (N.mono aI));have aH:=Z.o.size;clear N D;go_wp2_with (at_builtin;refine wpList_append_own _ rfl _ _ 61 rfl w.heap.size 9 i0 (.string ⟨#[]⟩) 1 16 underlying61 hi aK aL J rfl (by decide) _ _ _ rfl (R.alloc _) ⟨w2.heap.size,0,none⟩ 1 1 [.string (sA y)] rfl rfl ?c1 ?c2 ?c3 ?c4 ?c5 ?_)
   case c1=>
    intro j u F
    match j,F with
    |0,F=>simp at F;subst F;simp[Addr.add]
   case c2=>intro u hu;simp at hu;subst hu;rfl
   case c3=>unfold maxLen;omega
   case c4=>omega
   case c5=>simp;omega
   ·intro v5 w5 S ad _;have ar:=I (Ke Z.o aH ad (fun k P=>(R.lt k P).1));rw[Jz]at S
    have az:Hid (w5.ownsRow w.heap.size 9 1 v5 (Y5 s xs (k+1)).length (Qw (Y5 s xs (k+1)))):=by
     show World.ownsRow _ _ _ _ _ _ _
     rw[aa.o,Qk,aw.o];exact S
    clear S ad R;go_wp2;go_roundw
    case rel=>exact⟨k+1,by omega,by go_num,az.o,ar⟩
    case measure=>simp[intOf];omega
  ·have aE:k=xs.length:=by omega
   subst aE;have aG:¬(xs.length:Int)<(xs.length:Int):=by omega
   rw[Dc]at m;obtain⟨C,t⟩:=Qf (xs.map (expL s));have aP:C.length<=100000:=by rw[<-t,List.length_map];exact aJ
   have ak:∀ x∈C,x.length<=100000:=fun x a=>by
    rw[<-t]at a;obtain⟨y,G,rfl⟩:=List.mem_map.1 a;exact VI s (ac.o y G)
   rw[t]at m;have ab:=I t;have ay:=I (VB B sb M s z q U K L X u12 (.slice (some ⟨r,0,none⟩) c.length v) C c d A wr.drew (H.o.below l.o.drew) hq ((TxL.of_ownsV m).toO.below (Below.refl _ _).drew) (au.o.below l.o.drew) HT.o (by omega) (by omega) ak av.o);have aq:=I l.o.drew;clear m ak t i;go_wp2;go_region_with (first|(go_at_call 72;refine ay.o.mono ?_;rintro e w2 ⟨rfl,ag,J⟩;have ax:=I ((Mod.of_below aq.o).trans ag);have aC:=I J;clear ag J;skip))
   all_goals go_wp2
   all_goals go_ret
   all_goals exact⟨Zs (by rw[ab.o]),ax.o,by rw[ab.o];exact aC.o⟩
end
section
open Go.RowKit
structure LbT (x:QX) (m:Nat):Prop where
 f:x.fr.length<=100000
 fs:∀ t∈x.fr,t.length<=100000
 k:x.keys.length<=100000
 ks:∀ t∈x.keys,t.length<=100000
 m:m<=100000
theorem De{x:QQ n}(h:RTest n X x w v):∃ g,v=.pointer (some ⟨g,0,none⟩):=by
 match n,x,h with
 |n+1,x,⟨g,_,_,_,h,_⟩=>exact⟨g,h⟩
theorem slY.getV{xs:Qa}(h:slY X xs w v)(d:xs≠[]):∃ g c,v=.slice (some ⟨g,0,none⟩) xs.length c/\Zm w g xs:=by
 rcases h with h | ⟨g,c,a,_,b,_⟩
 ·exact absurd h.1 d
 ·exact⟨g,c,a,b⟩
theorem Df{req:Qa}(B:Nat)(M:Msg):∀(n:Nat) (x:QQ n) (w:World) (v:Value),RTest n (fun k=>k<B) x w v->Yl (WfT req) n x->Yl LbT n x->Uj B M w v (Xl M n x)
 |0,x,w,v,h,ha,_=>ha.elim
 |n+1,x,w,v,h,ha,hb=>by
  intro W o s z q y p t A hW E J;obtain⟨l,ak⟩:=ha;obtain⟨i,ai⟩:=hb;have h':=(ZB (n+1)).keep _ _ _ _ _ h (fun k V _=>hW.block k V);obtain⟨g,C,D,K,rfl,hg,F,R,Z,V,ag⟩:=h'
  have ae:∀ a∈x.2,∀ u,RTest n (fun k=>k<B) a W u->∃ d,u=.pointer (some ⟨d,0,none⟩)/\Uj B M W (.pointer (some ⟨d,0,none⟩)) (Xl M n a):=fun a ha u hu=>by
   obtain⟨d,rfl⟩:=De hu;exact⟨d,rfl,Df B M n a W _ hu (ak a ha) (ai a ha)⟩
  have h9:=l.kind;have ah:x.1.kind=0\/x.1.kind=1\/x.1.kind=2\/x.1.kind=3\/x.1.kind=4\/x.1.kind=5\/x.1.kind=6\/x.1.kind=7\/x.1.kind=8\/x.1.kind=9:=by omega
  have ad:x.2≠[]->∃ b c,C=.slice (some ⟨b,0,none⟩) x.2.length c/\b<B/\∀ j (hj:j<x.2.length),∃ d,W.cell? ⟨b,j,none⟩=some (.pointer (some ⟨d,0,none⟩))/\Uj B M W (.pointer (some ⟨d,0,none⟩)) (Xl M n x.2[j]):=by
   intro aj;rcases R with R | ⟨_,b,c,P,U,L⟩
   ·exact absurd R.1 aj
   ·refine⟨b,c,P,U,fun j hj=>?_⟩;obtain⟨u,aa,ab⟩:=L j hj;obtain⟨d,rfl,ho⟩:=ae _ (List.getElem_mem hj) u ab;exact⟨d,aa,ho⟩
  have G:∀ r,evalTN M (Xl M n) x.1 x.2 s=r->Calls prog 85 #[.pointer (some ⟨o,0,none⟩),.pointer (some ⟨g,0,none⟩)] W (HP B o M q y p t A W r)->Calls prog 85 #[.pointer (some ⟨o,0,none⟩),.pointer (some ⟨g,0,none⟩)] W (HP B o M q y p t A W (Xl M (n+1) x s)):=fun r hr af=>by
   show Calls _ _ _ _ (HP B o M q y p t A W (evalTN M (Xl M n) x.1 x.2 s))
   rw[hr];exact af
  have H:g<B:=hg;rcases ah with e|e|e|e|e|e|e|e|e|e
  ·exact G (true,s) (by unfold evalTN;rw[e];rfl) (Li B o M s z q y p t A _ g C D K _ _ _ W E J H F (by rw[e];rfl))
  ·exact G (false,s) (by unfold evalTN;rw[e];rfl) (Lj B o M s z q y p t A _ g C D K _ _ _ W E J H F (by rw[e];rfl))
  ·have h1:=l.one e
   obtain⟨a,ha⟩:∃ a,x.2=[a]:=by
    match L:x.2,h1 with
    | [a],_=>exact⟨a,rfl⟩
   rcases R with R | ⟨_,b,c,P,_,L⟩
   ·rw[ha]at R;exact absurd R.1 (by simp)
   ·rw[ha]at P L;obtain⟨u,aa,ab⟩:=L 0 (by simp);obtain⟨d,rfl,ho⟩:=ae a (by rw[ha];simp) u ab;exact G (!(Xl M n a s).1,(Xl M n a s).2) (by unfold evalTN;rw[e,ha];rfl) (Lk B o M s z q y p t A _ g C D K _ _ _ W E J H F (by rw[e];rfl) b d c (Xl M n a) P aa ho)
  ·obtain⟨b,c,P,U,L⟩:=ad (List.length_pos_iff.1 (l.many (Qd e)));exact G (Xb (Xl M n) false x.2 s) (by unfold evalTN;rw[e];rfl) (Mz B o M s z q y p t A _ g C D K _ _ _ W E J H F (by rw[e];rfl) (Xl M n) x.2 b c P U L (by have:=i.m;omega))
  ·obtain⟨b,c,P,U,L⟩:=ad (List.length_pos_iff.1 (l.many (Qc e)));exact G (Xb (Xl M n) true x.2 s) (by unfold evalTN;rw[e];rfl) (MA B o M s z q y p t A _ g C D K _ _ _ W E J H F (by rw[e];rfl) (Xl M n) x.2 b c P U L (by have:=i.m;omega))
  ·obtain⟨b,Q,N,S⟩:=Z.getV (l.frm (by omega) (by omega));obtain⟨d,T,X,Y⟩:=V.getV (l.keys (by omega) (by omega));exact G (Z9 s x.1.tag x.1.octet (fieldsL M (x.1.fr.map (expL s))) x.1.keys) (by unfold evalTN;rw[e];rfl) (Ln B o M s z q y p t A _ g C D K _ _ _ W E J H F (by rw[e];rfl) x.1.fr x.1.keys b Q d T N X S Y i.f i.k i.fs i.ks (by have:=l.tag (by omega) (by omega);omega))
  ·obtain⟨b,Q,N,S⟩:=Z.getV (l.frm (by omega) (by omega));obtain⟨d,T,X,Y⟩:=V.getV (l.keys (by omega) (by omega));exact G (Z9 s x.1.tag x.1.octet (envL M x.1.fr) x.1.keys) (by unfold evalTN;rw[e];rfl) (Lo B o M s z q y p t A _ g C D K _ _ _ W E J H F (by rw[e];rfl) x.1.fr x.1.keys b Q d T N X S Y i.f i.k i.fs i.ks (by have:=l.tag (by omega) (by omega);omega))
  ·obtain⟨b,Q,N,S⟩:=Z.getV (l.frm (by omega) (by omega));obtain⟨d,T,X,Y⟩:=V.getV (l.keys (by omega) (by omega));exact G (Z9 s x.1.tag x.1.octet (x.1.fr.map (expL s)) x.1.keys) (by unfold evalTN;rw[e];rfl) (MB B o M s z q y p t A _ g C D K _ _ _ W E J H F (by rw[e];rfl) x.1.fr x.1.keys b Q d T N X S Y i.f i.k i.fs i.ks (by have:=l.tag (by omega) (by omega);omega))
  ·obtain⟨b,Q,N,S⟩:=Z.getV (l.frm (by omega) (by omega));have ac:=ag e;rw[N]at ac;exact G (YB M (x.1.fr.map (expL s)),s) (by unfold evalTN;rw[e];rfl) (Lm B o M s z q y p t A _ g C D K _ _ _ W E J H F (by rw[e];rfl) x.1.fr b Q N S ac i.f i.fs)
  ·exact G (UW M x.1.tag x.1.num,s) (by unfold evalTN;rw[e];rfl) (Ll B o M s z q y p t A _ g C D K _ _ _ W E J H F (by rw[e];rfl) (by have:=l.size e;omega))
end
section
open Go.RowKit
attribute [local go_sem ↓] Go.wp_at_zero Go.wp_at_succ
theorem MC(s:SS):expL s []=[]:=by
 unfold expL;split
 ·rw[Gy,if_neg (fun h=>h.1 rfl)]
 ·rfl
theorem Dg(met:List (Int×L8))(kind:Int)(arg:L8):Xc met kind arg=if kind=2/\isBoxL arg=false then(8,met)else if kind=3/\isAddrL arg=false then(9,met)else Jl met (kind,NC kind arg):=rfl
def Kf(B sb:Nat)(M:Msg)(s:SS)(q:Nat)(en:Bool)(pz p:Int)(r:Int×List (Int×L8))(w':World):Prop:=
 ∃ z' kp',StI w' B sb M (YW s r.2) z' q kp' (if r.1=0 then en else true) r.1 (if r.1=0 then pz else p)/\(r.1=0->kp'=false)
theorem Kf.err{a b:Bool}{c e:Int}(f:r=(e,s.met))(he:¬ e=0)(h:StI w' B sb M s z q a true e p):Kf B sb M s q b c p r w':=by
 subst f;refine⟨z,a,?_,fun d=>absurd d he⟩;show StI w' B sb M s z q a (if e=0 then b else true) e (if e=0 then c else p)
 rw[if_neg he,if_neg he];exact h
theorem JX.act{a:Bool}(h:JX B sb M s q false a b p r w'):Kf B sb M s q a b p r w':=by
 obtain⟨c,h⟩:=h;exact⟨c,false,h,fun _=>rfl⟩
theorem A3(B sb:Nat)(M:Msg)(s:SS)(z:StV)(q:Nat)(r L:Bool)(R:Int)(g:Int)(x:L8)(p:Int)(w:World)(h:StI w B sb M s z q r L 0 R)(hq:q<=1000000)(T:x.length<=100000)(hk:(g=1/\x=[])\/g=2\/g=3\/g=4) :
 Calls prog 49 #[.pointer (some ⟨sb,0,none⟩),.int .i64 g,.string (sA x),.int .i64 p] w fun e w'=>e=.returned (.tuple #[])/\(Below B w w'/\KB w w')/\Kf B sb M s q L R p (Xc s.met g (expL s x)) w':=by
 have H:=I h;have E:B<=w.heap.size:=Qm h.hB (Nat.le_of_lt h.lt);have C:=I (h.expand hq x T);have ae:=VI s T;have ag:=h.lt;have m:=I (Dg s.met g (expL s x))
 have Y:Hid (g=1->expL s x=[]):=fun e=>by
  rcases hk with⟨_,T⟩|hk|hk|hk
  ·rw[T,MC]
  all_goals omega
 have ad:g=1\/g=2\/g=3\/g=4:=by
  rcases hk with⟨h,_⟩|h|h|h
  ·exact Qd h
  ·exact Qc (Qd h)
  ·exact Qc (Qc (Qd h))
  ·exact Qc (Qc (Qc h))
 clear hk;obtain⟨y,W⟩:=Qf (expL s x);rw[W]at C ae m Y;rw[W];have ah:=Zr y
 have aa:∀(u:World) (a:Int×L8),StI u B sb M s z q r L 0 R->Xc s.met g y=Jl s.met a->Calls prog 79 #[.pointer (some ⟨sb,0,none⟩),.agg #[.int .i64 a.1,.string (sA a.2)],.int .i64 p] (u.setCell ⟨sb,9,none⟩ (.bool false)) fun e w'=>e=.returned (.tuple #[])/\(Below B u w'/\KB u w')/\Kf B sb M s q L R p (Xc s.met g y) w':=fun u a S he=>by
  refine(Dh B sb M s z q false L R a p _ (S.keep0 false)).mono ?_;rintro e w' ⟨h1,Z,h3⟩;refine⟨h1,⟨(((Mod.refl sb u).setCell 9 (.bool false)).below S.hB S.lt).trans Z.1,(VJ S.blk (by decide) _ _).trans Z.2⟩,?_⟩;rw[he];exact h3.act
 have J:=I aa;clear W h aa;rcases ad with rfl|rfl|rfl|rfl
 ·have e0:=Y.o rfl;subst e0;have D:=JU H.o.blk;have F:=Qz H.o.blk;go_enter func49,ntmps49;go_wp2_with fail;refine(J.o w (1,[]) H.o (by rw[m.o,if_neg (fun e=>absurd e.1 (by decide)),if_neg (fun e=>absurd e.1 (by decide))];rfl)).mono ?_;rintro e G ⟨rfl,d,f⟩;have i:=I d;have n:=I f;clear d f;go_wp2;go_end0;exact⟨rfl,i.o,n.o⟩
 ·have A:Hid (∀ u,Calls prog 77 #[.string (sA y)] u fun e w'=>e=.returned (.bool (isBoxL y))/\w'=u):=fun u=>MD (sA y) u (by omega)
  obtain⟨t,V⟩:=Qf (isBoxL y);rw[V]at A m
  cases t with
  |true=>
   go_enter func49,ntmps49;go_wp2_with fail;refine C.o.mono ?_;rintro e l ⟨rfl,b⟩;have j:=I (b.mono E);have k:=I (Ym b);have c:=I (H.o.below b);have Q:=b.size;have D:=JU c.o.blk;have F:=Qz c.o.blk;clear b;go_wp2_with fail;refine(A.o _).mono ?_;rintro e X ⟨rfl,rfl⟩;go_wp2_with fail;refine(J.o _ (2,y) c.o (by rw[m.o,if_neg (fun e=>absurd e.2 (by decide)),if_neg (fun e=>absurd e.1 (by decide))];rfl)).mono ?_;rintro e G ⟨rfl,d,f⟩;have i:=I d;have n:=I f;clear d f;go_wp2;go_end0;exact⟨rfl,⟨j.o.trans i.o.1,k.o.trans i.o.2⟩,n.o⟩
  |false=>
   go_enter func49,ntmps49;go_wp2_with fail;refine C.o.mono ?_;rintro e l ⟨rfl,b⟩;have j:=I (b.mono E);have k:=I (Ym b);have c:=I (H.o.below b);have Q:=b.size;have D:=JU c.o.blk;have F:=Qz c.o.blk;clear b;go_wp2_with fail;refine(A.o _).mono ?_;rintro e X ⟨rfl,rfl⟩;go_wp2_with fail;refine(c.o.fail 8 p).mono ?_;rintro e G ⟨rfl,N,P⟩;have K:=I N;have U:=I P;clear N P;go_wp2;refine bodyPost_ret (v:=.tuple #[]) (by simp[results,results49,go_sem]) rfl ?_;exact⟨rfl,⟨j.o.trans (K.o.below c.o.hB c.o.lt),k.o.trans (JY K.o c.o.blk (by decide))⟩,Kf.err (by rw[m.o];simp) (by decide) U.o⟩
 ·have A:Hid (∀ u,Calls prog 78 #[.string (sA y)] u fun e w'=>e=.returned (.bool (isAddrL y))/\w'=u):=fun u=>ME y u (by omega)
  obtain⟨t,V⟩:=Qf (isAddrL y);rw[V]at A m
  cases t with
  |true=>
   go_enter func49,ntmps49;go_wp2_with fail;refine C.o.mono ?_;rintro e l ⟨rfl,b⟩;have j:=I (b.mono E);have k:=I (Ym b);have c:=I (H.o.below b);have Q:=b.size;have D:=JU c.o.blk;have F:=Qz c.o.blk;clear b;go_wp2_with fail;refine(A.o _).mono ?_;rintro e X ⟨rfl,rfl⟩;go_wp2_with fail;refine(J.o _ (3,y) c.o (by rw[m.o,if_neg (fun e=>absurd e.1 (by decide)),if_neg (fun e=>absurd e.2 (by decide))];rfl)).mono ?_;rintro e G ⟨rfl,d,f⟩;have i:=I d;have n:=I f;clear d f;go_wp2;go_end0;exact⟨rfl,⟨j.o.trans i.o.1,k.o.trans i.o.2⟩,n.o⟩
  |false=>
   go_enter func49,ntmps49;go_wp2_with fail;refine C.o.mono ?_;rintro e l ⟨rfl,b⟩;have j:=I (b.mono E);have k:=I (Ym b);have c:=I (H.o.below b);have Q:=b.size;have D:=JU c.o.blk;have F:=Qz c.o.blk;clear b;go_wp2_with fail;refine(A.o _).mono ?_;rintro e X ⟨rfl,rfl⟩;go_wp2_with fail;refine(c.o.fail 9 p).mono ?_;rintro e G ⟨rfl,N,P⟩;have K:=I N;have U:=I P;clear N P;go_wp2;refine bodyPost_ret (v:=.tuple #[]) (by simp[results,results49,go_sem]) rfl ?_;exact⟨rfl,⟨j.o.trans (K.o.below c.o.hB c.o.lt),k.o.trans (JY K.o c.o.blk (by decide))⟩,Kf.err (by rw[m.o];rw[if_neg (fun e=>absurd e.1 (by decide))];simp) (by decide) U.o⟩
 ·by_cases h48:48<y.length
  ·have ac:(48:Int)<(y.length:Int):=by omega
   have af:(sA y).extract 0 48=sA (y.take 48):=by rw[Kg];simp
   go_enter func49,ntmps49;go_wp2_with fail;refine C.o.mono ?_;rintro e l ⟨rfl,b⟩;have j:=I (b.mono E);have k:=I (Ym b);have c:=I (H.o.below b);have Q:=b.size;have D:=JU c.o.blk;have F:=Qz c.o.blk;clear b;go_wp2_with fail;refine(J.o _ (4,y.take 48) c.o (by rw[m.o,if_neg (fun e=>absurd e.1 (by decide)),if_neg (fun e=>absurd e.1 (by decide))];rfl)).mono ?_;rintro e G ⟨rfl,d,f⟩;have i:=I d;have n:=I f;clear d f;go_wp2;go_end0;exact⟨rfl,⟨j.o.trans i.o.1,k.o.trans i.o.2⟩,n.o⟩
  ·have ac:¬(48:Int)<(y.length:Int):=by omega
   have ab:Hid (y.take 48=y):=List.take_of_length_le (by omega);go_enter func49,ntmps49;go_wp2_with fail;refine C.o.mono ?_;rintro e l ⟨rfl,b⟩;have j:=I (b.mono E);have k:=I (Ym b);have c:=I (H.o.below b);have Q:=b.size;have D:=JU c.o.blk;have F:=Qz c.o.blk;clear b;go_wp2_with fail;refine(J.o _ (4,y) c.o (by rw[m.o,if_neg (fun e=>absurd e.1 (by decide)),if_neg (fun e=>absurd e.1 (by decide))];show Jl s.met (4,y.take 48)=_;rw[ab.o])).mono ?_;rintro e G ⟨rfl,d,f⟩;have i:=I d;have n:=I f;clear d f;go_wp2;go_end0;exact⟨rfl,⟨j.o.trans i.o.1,k.o.trans i.o.2⟩,n.o⟩
theorem ND(B sb:Nat)(M:Msg)(s:SS)(z:StV)(q:Nat)(kp en:Bool)(pz:Int)(kind:Int)(x:L8)(p:Int)(w:World)(h:StI w B sb M s z q kp en 0 pz)(hq:q<=1000000)(hx:x.length<=100000)(hk:(kind=1/\x=[])\/kind=2\/kind=3\/kind=4) :
 Calls prog 49 #[.pointer (some ⟨sb,0,none⟩),.int .i64 kind,.string (sA x),.int .i64 p] w fun e w'=>e=.returned (.tuple #[])/\Below B w w'/\Kf B sb M s q en pz p (Xc s.met kind (expL s x)) w':=
 (A3 B sb M s z q kp en pz kind x p w h hq hx hk).mono fun e w' hh=>⟨hh.1,hh.2.1.1,hh.2.2⟩
end
section
open Go.RowKit
structure StK (w:World) (B sb:Nat) (M:Msg) (s:SS) (z:StV) (kp en:Bool) (er pz:Int):Prop where
 hB:B<=sb
 blk:SB w sb M.fr M.to M.size z.hv s.vs z.nv z.vv z.cv z.av kp en er pz
 n:w.ownsRow B 9 1 z.nv z.ns.length (Qw z.ns)
 v:w.ownsRow B 9 1 z.vv z.vl.length (Qw z.vl)
 a:w.ownsRow B 52 2 z.av s.met.length (XZ s.met)
 c:s.vs=true->TxL w z.cv (s.told.take 10)
 c0:s.vs=false->z.cv=.slice none 0 0
 cap:∀ k,z.cv.ownBlock=some k->z.nv.ownBlock≠some k∧z.vv.ownBlock≠some k∧z.av.ownBlock≠some k∧k≠sb
 capt:∀ k,z.cv.ownBlock=some k->∃ cs,w.heap[k]?=some (.cells cs 9)
 nvv:∀ k,z.nv.ownBlock=some k->z.vv.ownBlock≠some k
 h:HdB w B M z.hv
 mb:KU M
 vb:∀ t∈z.vl,t.length<=100000
 tb:∀ t∈s.told,t.length<=100000
 alone:∀ x∈s.met,x.1=4->s.met.length=1
 six:s.met.length<=6
theorem StK.capl{d a:Bool}{e:Int}(h:StK w B sb M s z d a b e):∀ k,z.cv.ownBlock=some k->k<w.heap.size:=fun k hk=>by
 obtain⟨f,c⟩:=h.capt k hk;exact Qh c
theorem StI.toK(h:StI w B sb M s z q kp en er pz):StK w B sb M s z kp en er pz:=⟨h.hB,h.blk,h.n,h.v,h.a,h.c,h.c0,h.cap,h.capt,h.nvv,h.h,h.mb,h.vb,h.tb,h.alone,h.six⟩
theorem StK.toI(h:StK w B sb M s z kp en er pz)(e1:s'.vs=s.vs)(e2:s'.told=s.told)(e3:s'.met=s.met)(hl:z.ns.length=z.vl.length)(hn:z.ns.length<=q)(hv:∀ x,s'.vals x=lookV z.ns z.vl x):StI w B sb M s' z q kp en er pz:=⟨h.hB,by rw[e1];exact h.blk,h.n,h.v,by rw[e3];exact h.a,by rw[e1,e2];exact h.c,by rw[e1];exact h.c0,h.cap,h.capt,h.nvv,hl,hn,hv,h.h,h.mb,h.vb,by rw[e2];exact h.tb,by rw[e3];exact h.alone,by rw[e3];exact h.six⟩
theorem StK.growNV{u m:Bool}{o x:Int}(h:StK w B sb M s z u m o x)(j:∀ k,k<w.heap.size->some k≠z.nv.ownBlock->f.heap[k]?=w.heap[k]?)(E:Below B w f)(r:f.ownsRow B 9 1 v' l.length (Qw l))(hv:v'.ownBlock=z.nv.ownBlock\/∀ k,v'.ownBlock=some k->w.heap.size<=k) :
 StK (f.setCell ⟨sb,5,none⟩ v') B sb M s ⟨z.hv,v',z.vv,z.cv,z.av,l,z.vl⟩ u m o x:=by
 have H:f.heap[sb]?=w.heap[sb]?:=j sb (Qh h.blk) (fun e=>ZI h.n h.blk (by decide) e.symm);have i:=h.blk;unfold SB at i;rw[<-H]at i;have F:Mod sb f (f.setCell ⟨sb,5,none⟩ v'):=(Mod.refl sb f).setCell _ _;have t:=Kw (w':=f) h.v fun k d=>j k (h.v.lt k d).2 (fun e=>h.nvv k e.symm d)
 have p:=Kw (w':=f) h.a fun k d=>j k (h.a.lt k d).2 (fun e=>Un h.a h.n (by decide) k d e.symm)
 have q:∀ k,k<w.heap.size->z.nv.ownBlock≠some k->v'.ownBlock≠some k:=fun k d G e=>by
  rcases hv with hv|hv
  ·exact G (by rw[<-hv];exact e)
  ·have:=hv k e;omega
 refine⟨h.hB,Qv _ _ _ _ _ _ i,Xd r (ZI r i (by decide)),Xd t (ZI t i (by decide)),Xd p (ZI p i (by decide)),fun e=>?_,h.c0,fun k d=>?_,fun k d=>JZ (JZ (h.capt k d) (j k (h.capl k d) (fun g=>(h.cap k d).1 g.symm))) (Below.heap_setCell _ _ _ _ (h.cap k d).2.2.2),fun k d=>?_,(h.h.below E).below (F.below h.hB (Qh i)),h.mb,h.vb,h.tb,h.alone,h.six⟩
 ·exact TxL.setV (b:=sb) ((h.c e).of fun k d=>j k (h.capl k d) (fun g=>(h.cap k d).1 g.symm)) (fun g=>(h.cap sb g).2.2.2 rfl)
 ·obtain⟨y,A,C,D⟩:=h.cap k d;exact⟨q k (h.capl k d) y,A,C,D⟩
 ·exact fun e=>q k (h.v.lt k e).2 (fun g=>h.nvv k g e) d
theorem StK.growVV{x m:Bool}{o y:Int}(h:StK w B sb M s z x m o y)(j:∀ k,k<w.heap.size->some k≠z.vv.ownBlock->f.heap[k]?=w.heap[k]?)(F:Below B w f)(r:f.ownsRow B 9 1 v' l.length (Qw l))(hv:v'.ownBlock=z.vv.ownBlock\/∀ k,v'.ownBlock=some k->w.heap.size<=k)(K:∀ t∈l,t.length<=100000) :
 StK (f.setCell ⟨sb,6,none⟩ v') B sb M s ⟨z.hv,z.nv,v',z.cv,z.av,z.ns,l⟩ x m o y:=by
 have J:f.heap[sb]?=w.heap[sb]?:=j sb (Qh h.blk) (fun e=>ZI h.v h.blk (by decide) e.symm);have g:=h.blk;unfold SB at g;rw[<-J]at g;have G:Mod sb f (f.setCell ⟨sb,6,none⟩ v'):=(Mod.refl sb f).setCell _ _;have u:=Kw (w':=f) h.n fun k d=>j k (h.n.lt k d).2 (fun e=>h.nvv k d e.symm)
 have p:=Kw (w':=f) h.a fun k d=>j k (h.a.lt k d).2 (fun e=>Un h.a h.v (by decide) k d e.symm)
 have q:∀ k,k<w.heap.size->z.vv.ownBlock≠some k->v'.ownBlock≠some k:=fun k d H e=>by
  rcases hv with hv|hv
  ·exact H (by rw[<-hv];exact e)
  ·have:=hv k e;omega
 refine⟨h.hB,Qv _ _ _ _ _ _ g,Xd u (ZI u g (by decide)),Xd r (ZI r g (by decide)),Xd p (ZI p g (by decide)),fun e=>?_,h.c0,fun k d=>?_,fun k d=>JZ (JZ (h.capt k d) (j k (h.capl k d) (fun i=>(h.cap k d).2.1 i.symm))) (Below.heap_setCell _ _ _ _ (h.cap k d).2.2.2),fun k d=>?_,(h.h.below F).below (G.below h.hB (Qh g)),h.mb,K,h.tb,h.alone,h.six⟩
 ·exact TxL.setV (b:=sb) ((h.c e).of fun k d=>j k (h.capl k d) (fun i=>(h.cap k d).2.1 i.symm)) (fun i=>(h.cap sb i).2.2.2 rfl)
 ·obtain⟨A,C,D,E⟩:=h.cap k d;exact⟨A,q k (h.capl k d) C,D,E⟩
 ·exact q k (h.n.lt k d).2 (h.nvv k d)
theorem Di{g c:Nat}(h:w.ownsRow base e 1 (.slice (some ⟨g,0,none⟩) n c) n xs)(k:Nat)(x:Value):(w.setCell ⟨g,k,none⟩ x).ownsRow base e 1 (.slice (some ⟨g,0,none⟩) n c) n (xs.set k x):=by
 refine⟨by rw[List.length_set];exact h.1,?_⟩;rcases h.2 with⟨a,_⟩ | ⟨p,b,d,o,l,m,a,f,i,j⟩
 ·cases a
 ·injection o with e1 e2 e3
  injection e1 with e1
  injection e1 with e1
  subst e1;refine Qc ⟨g,b,d.setIfInBounds k x,by rw[e3],l,Qv _ _ _ _ _ _ m,a,f,by rw[Array.size_setIfInBounds];exact i,?_⟩;rw[Array.toList_setIfInBounds,List.take_set,j]
theorem Dj:∀(a b:Qa) (k:Nat) (x z:L8) (c:k<a.length),a.length=b.length->a[k]=x->(∀ j (d:j<k),a[j]'(by omega)≠x)->∀ y,lookV a (b.set k z) y=if y=x then some z else lookV a b y
 | [],_,k,_,_,c,_,_,_,_=>absurd c (Nat.not_lt_zero _)
 |n::a,[],_,_,_,_,hl,_,_,_=>by cases hl
 |n::a,v::b,0,x,z,c,hl,hx,d,y=>by
  have g:n=x:=hx;subst g;show(if n=y then some z else lookV a b y)=if y=n then some z else(if n=y then some v else lookV a b y)
  by_cases e:y=n
  ·rw[if_pos e,if_pos e.symm]
  ·rw[if_neg e,if_neg (fun h=>e h.symm),if_neg (fun h=>e h.symm)]
 |n::a,v::b,k+1,x,z,c,hl,hx,d,y=>by
  have f:n≠x:=d 0 (Nat.succ_pos _);have i:=Dj a b k x z (Nat.lt_of_succ_lt_succ c) (by simpa using hl) hx (fun j h=>d (j+1) (Nat.succ_lt_succ h)) y;show(if n=y then some v else lookV a (b.set k z) y)=if y=x then some z else(if n=y then some v else lookV a b y)
  rw[i];by_cases e:y=x
  ·rw[if_pos e,if_neg (fun h=>f (h.trans e)),if_pos e]
  ·rw[if_neg e,if_neg e]
theorem Dk:∀(a b:Qa) (x z:L8),a.length=b.length->(∀ n∈a,n≠x)->∀ y,lookV (a++[x]) (b++[z]) y=if y=x then some z else lookV a b y
 | [],[],x,z,_,_,y=>by
  show(if x=y then some z else none)=if y=x then some z else none
  by_cases e:y=x
  ·rw[if_pos e,if_pos e.symm]
  ·rw[if_neg e,if_neg (fun h=>e h.symm)]
 | [],_::_,_,_,hl,_,_=>by cases hl
 |_::_,[],_,_,hl,_,_=>by cases hl
 |n::a,v::b,x,z,hl,hn,y=>by
  have f:=Dk a b x z (by simpa using hl) (fun m d=>hn m (List.mem_cons_of_mem _ d)) y;have c:n≠x:=hn n List.mem_cons_self;show(if n=y then some v else lookV (a++[x]) (b++[z]) y)=if y=x then some z else(if n=y then some v else lookV a b y)
  rw[f];by_cases e:y=x
  ·rw[if_pos e,if_neg (fun h=>c (h.trans e)),if_pos e]
  ·rw[if_neg e,if_neg e]
theorem StI.setVal{D r:Bool}{u E:Int}(h:StI w B sb M s z q D r u E){g c:Nat}(o:z.vv=.slice (some ⟨g,0,none⟩) z.vl.length c)(k:Nat)(x:L8)(P:x.length<=100000)(f:s'.vs=s.vs)(d:s'.told=s.told)(i:s'.met=s.met)(N:∀ y,s'.vals y=lookV z.ns (z.vl.set k x) y) :
 StI (w.setCell ⟨g,k,none⟩ (.string (sA x))) B sb M s' ⟨z.hv,z.nv,z.vv,z.cv,z.av,z.ns,z.vl.set k x⟩ q D r u E/\Below B w (w.setCell ⟨g,k,none⟩ (.string (sA x)))/\KB w (w.setCell ⟨g,k,none⟩ (.string (sA x))):=by
 have b:z.vv.ownBlock=some g:=by rw[o];rfl
 have J:g≠sb:=fun e=>ZI h.v h.blk (by decide) (by rw[b,e])
 have H:=h.v.lt g b;have A:Below B w (w.setCell ⟨g,k,none⟩ (.string (sA x))):=(Below.refl _ _).setCell H.1 _;have F:KB w (w.setCell ⟨g,k,none⟩ (.string (sA x))):=NE h.v (by decide) (fun p m K=>Below.heap_setCell _ _ _ _ (fun e=>K (by rw[b,e])));have G:(w.setCell ⟨g,k,none⟩ (.string (sA x))).heap[sb]?=w.heap[sb]?:=Below.heap_setCell _ _ _ _ (fun e=>J e.symm);have j:=h.blk;unfold SB at j;rw[<-G]at j;refine⟨⟨h.hB,by rw[f];exact j,Xd h.n (fun e=>h.nvv g e b),?_,by rw[i];exact Xd h.a (fun e=>Un h.a h.v (by decide) g e b),fun e=>?_,by rw[f];exact h.c0,h.cap,fun p m=>JZ (h.capt p m) (Below.heap_setCell _ _ _ _ (fun e=>(h.cap p m).2.1 (by rw[b];exact congrArg some e.symm))),h.nvv,by rw[List.length_set];exact h.l,h.nl,N,h.h.below A,h.mb,fun t L=>?_,by rw[d];exact h.tb,by rw[i];exact h.alone,by rw[i];exact h.six⟩,A,F⟩
 ·have C:=h.v;rw[o]at C;have:=Di C k (.string (sA x));show World.ownsRow _ B 9 1 z.vv (z.vl.set k x).length (Qw (z.vl.set k x))
  rw[List.length_set,show Qw (z.vl.set k x)=(Qw z.vl).set k (.string (sA x)) by unfold Qw;rw[List.map_set],o];exact this
 ·rw[d];exact(h.c (by rw[<-f];exact e)).setV (fun d=>(h.cap g d).2.1 b)
 ·rcases List.mem_or_eq_of_mem_set L with h1|h1
  ·exact h.vb t h1
  ·rw[h1];exact P
end
section
open Go.RowKit
attribute [local go_sem ↓] Go.wp_at_zero Go.wp_at_succ
theorem StK.appNV{b:World}{p f:Bool}{q:Int}(h:StK w B sb M s z p f g q)(j:(w.alloc o).grownBy b z.nv.ownBlock)(v:b.ownsRow B 9 1 c (z.ns.length+1) (Qw z.ns++[.string (sA x)]))(t:c.ownBlock=z.nv.ownBlock\/c.ownBlock=some (w.heap.size+1)) :
 StK (b.setCell ⟨sb,5,none⟩ c) B sb M s ⟨z.hv,c,z.vv,z.cv,z.av,z.ns++[x],z.vl⟩ p f g q/\(Below B w (b.setCell ⟨sb,5,none⟩ c)/\KB w (b.setCell ⟨sb,5,none⟩ c))/\b.heap[sb]?=w.heap[sb]?:=by
 have y:(w.alloc o).heap.size=w.heap.size+1:=by simp
 have l:=Qh h.blk;have r:B<=w.heap.size:=Qm h.hB (Nat.le_of_lt l);have i:Below B w b:=Ke (Below.refl B w) r j (fun k a=>(h.n.lt k a).1)
 have a:∀ k,k<w.heap.size->some k≠z.nv.ownBlock->b.heap[k]?=w.heap[k]?:=fun k a u=>by
  rw[j.block k (by rw[y];omega) u];exact Below.heap_alloc _ _ _ a
 have m:=a sb l (fun e=>ZI h.n h.blk (by decide) e.symm);have d:=h.blk;unfold SB at d;rw[<-m]at d;refine⟨h.growNV a i ?_ ?_,⟨i.setCell h.hB _,(NE h.n (by decide) a).trans (VJ d (by decide) _ _)⟩,m⟩
 ·rw[Qk,<-Jz];exact v
 ·rcases t with e|e
  ·exact Qd e
  ·refine Qc (fun k a=>?_);rw[e]at a;have:w.heap.size+1=k:=by simpa using a
   omega
theorem StK.appVV{b:World}{n f:Bool}(h:StK w B sb M s z n f g p)(j:(w.alloc o).grownBy b z.vv.ownBlock)(y:b.ownsRow B 9 1 c (z.vl.length+1) (Qw z.vl++[.string (sA x)]))(r:c.ownBlock=z.vv.ownBlock\/c.ownBlock=some (w.heap.size+1))(D:x.length<=100000) :
 StK (b.setCell ⟨sb,6,none⟩ c) B sb M s ⟨z.hv,z.nv,c,z.cv,z.av,z.ns,z.vl++[x]⟩ n f g p/\(Below B w (b.setCell ⟨sb,6,none⟩ c)/\KB w (b.setCell ⟨sb,6,none⟩ c))/\b.heap[sb]?=w.heap[sb]?:=by
 have A:(w.alloc o).heap.size=w.heap.size+1:=by simp
 have l:=Qh h.blk;have q:B<=w.heap.size:=Qm h.hB (Nat.le_of_lt l);have i:Below B w b:=Ke (Below.refl B w) q j (fun k a=>(h.v.lt k a).1)
 have a:∀ k,k<w.heap.size->some k≠z.vv.ownBlock->b.heap[k]?=w.heap[k]?:=fun k a u=>by
  rw[j.block k (by rw[A];omega) u];exact Below.heap_alloc _ _ _ a
 have m:=a sb l (fun e=>ZI h.v h.blk (by decide) e.symm);have d:=h.blk;unfold SB at d;rw[<-m]at d;refine⟨h.growVV a i ?_ ?_ ?_,⟨i.setCell h.hB _,(NE h.v (by decide) a).trans (VJ d (by decide) _ _)⟩,m⟩
 ·rw[Qk,<-Jz];exact y
 ·rcases r with e|e
  ·exact Qd e
  ·refine Qc (fun k a=>?_);rw[e]at a;have:w.heap.size+1=k:=by simpa using a
   omega
 ·intro t C;rcases List.mem_append.1 C with h1|h1
  ·exact h.vb t h1
  ·rw[QY h1];exact D
theorem A4{size:Nat}(h:w.ownsRow base e size v n xs):∃ p m c,v=.slice p m c:=by
 rcases h.2 with⟨a,_⟩ | ⟨g,c,_,a,_⟩
 ·exact⟨_,_,_,a⟩
 ·exact⟨_,_,_,a⟩
theorem MF(a:Int){y:L8}(h:y.length<=100000):(turnL a y).length<=100000:=by
 unfold turnL;split
 ·unfold zL;rw[List.length_map];exact h
 ·split
  ·unfold capL;rw[List.length_map];exact h
  ·split
   ·rw[Lib.decDigits_length];have:=Lib.nDigits_le20 y.length (by omega);omega
   ·exact h
theorem Dl(B sb:Nat)(M:Msg)(s:SS)(z:StV)(q:Nat)(kp en:Bool)(er pz:Int)(nm x:L8)(tag:Int)(w:World)(h:StI w B sb M s z q kp en er pz)(hq:q<=1000000)(hx:x.length<=100000)(ht:tag=0\/tag=1\/tag=2\/tag=3) :
 Calls prog 50 #[.pointer (some ⟨sb,0,none⟩),.string (sA nm),.string (sA x),.int .i64 tag] w fun e w'=>e=.returned (.tuple #[])/\(Below B w w'/\KB w w')/\∃ z',StI w' B sb M (Kx s nm tag x) z' (q+1) kp en er pz:=by
 have H:=I h;have S:B<=w.heap.size:=Qm h.hB (Nat.le_of_lt h.lt);have HX:=I (h.expand hq x hx);have aB:=VI s hx;have aW:=h.lt;have HSET:Hid (Kx s nm tag x=⟨s.vs,fun y=>if y=nm then some ((turnL tag (expL s x)).take 48)else s.vals y,s.told,s.met,s.disc⟩):=rfl;obtain⟨y,hy⟩:=Qf (expL s x);rw[hy]at HX aB HSET;have a0:=Zr y;clear hy h;go_enter func50,ntmps50;go_wp2_with fail;refine HX.o.mono ?_;rintro e w1 ⟨rfl,Q⟩;have G:=I Q;have ae:=Q.size;clear Q;go_upto_block 0 with fail
 go_cut [8] (fun vv wx=>vv=.string (sA (turnL tag y))/\Below w.heap.size w wx)
 case first=>
  rcases ht with rfl|rfl|rfl|rfl
  ·go_wp2;go_meet;exact⟨rfl,G.o⟩
  ·go_wp2_with fail;refine(Y6 y _ (by omega)).mono ?_;rintro e w2 ⟨rfl,c⟩;have i:=I (G.o.trans (c.mono ae));clear c;go_wp2;go_meet;exact⟨rfl,i.o⟩
  ·go_wp2_with fail;refine(MG y _ (by omega)).mono ?_;rintro e w2 ⟨rfl,c⟩;have i:=I (G.o.trans (c.mono ae));clear c;go_wp2;go_meet;exact⟨rfl,i.o⟩
  ·go_wp2_with fail;refine(MH y.length y.length Qt (by omega) _).mono ?_;rintro e w2 ⟨rfl,c⟩;have i:=I (G.o.trans (c.mono ae));clear c;go_wp2;go_meet;exact⟨rfl,i.o⟩
 case rest=>
  obtain⟨rfl,R⟩:=hcut;have ah:=I R;have aZ:=R.size;have ax:=MF tag aB;obtain⟨t,ad⟩:=Qf (turnL tag y);rw[ad]at ax HSET;rw[ad];have aN:=Zr t;clear R ad;go_upto_if 29 with fail
  go_cut [8] (fun vv wx=>vv=.string (sA (t.take 48))/\wx=wc)
  case first=>
   by_cases h48:48<t.length
   ·have aI:(48:Int)<(t.length:Int):=by omega
    have aR:(sA t).extract 0 48=sA (t.take 48):=by rw[Kg];simp
    go_wp2;go_meet;exact⟨rfl,rfl⟩
   ·have aI:¬(48:Int)<(t.length:Int):=by omega
    have p:Hid (t.take 48=t):=List.take_of_length_le (by omega);go_wp2;go_meet;exact⟨by rw[p.o],rfl⟩
  case rest=>
   obtain⟨rfl,aA⟩:=hcut;rw[aA];clear aA;have hZl:(t.take 48).length<=100000:=by rw[List.length_take];omega
   obtain⟨Z,U⟩:=Qf (t.take 48);rw[U]at hZl HSET;rw[U];clear U ax aN t;obtain⟨na,nc,aq⟩:=ZC H.o.n;obtain⟨va,vc,ay⟩:=ZC H.o.v;have m:=I aq;have HVA:=I ay;have ap:=H.o.l;have aV:=H.o.nl;have HLL:=I ap;clear ap aq ay;have aY:z.vl.length<=1000000:=by have:=HLL.o;omega
   go_wp2
   go_loopw [9] (fun iv wr=>∃(k:Nat),k<=z.ns.length/\iv=.int .i64 k/\Hid (Below w.heap.size w wr)/\Hid (∀ n∈z.ns.take k,n≠nm)) (fun iv _=>z.ns.length - (intOf iv).toNat)
   case atStart=>exact⟨0,QC,rfl,ah,fun n d=>by cases d⟩
   case round=>
    clear ah;obtain⟨k,hk,rfl,f,J⟩:=hrel;have HS:=I (H.o.below f.o);have aM:=f.o.size;have aQ:B<=wr.heap.size:=Qm S aM;have d5:wr.cell? ⟨sb,5,none⟩=some (.slice na z.ns.length nc):=by rw[<-m.o];exact Qn HS.o.blk 5
    have d6:wr.cell? ⟨sb,6,none⟩=some (.slice va z.vl.length vc):=by rw[<-HVA.o];exact Qn HS.o.blk 6
    have aH:=Qz HS.o.blk;by_cases hkl:k<z.ns.length
    ·have aK:k<z.vl.length:=by have:=HLL.o;omega
     have aL:(k:Int)<(z.ns.length:Int):=by omega
     have aU:(k:Int)<(z.vl.length:Int):=by omega
     obtain⟨gn,cn,L,_,_,ak⟩:=Y7 HS.o.n (by omega);obtain⟨gv,cv,N,_,aT,ao⟩:=Y7 HS.o.v (by omega);rw[m.o]at L;rw[HVA.o]at N;injection L with L _ hgn3
     injection N with N _ hgv3
     subst L;subst N;have b1:=ak k (.string (sA z.ns[k])) (by simp[Qw,List.getElem?_eq_getElem hkl]);have b2:=ao k (.string (sA z.vl[k])) (by simp[Qw,List.getElem?_eq_getElem aK])
     have aS:wr.frozen? ⟨gv,k,none⟩=false:=by
      rcases HS.o.v.2 with⟨b,h2⟩ | ⟨g',aO,aP,b,_,hh,_⟩
      ·omega
      ·rw[HVA.o]at b;injection b with b
       injection b with b
       injection b with b
       subst b;exact Qz hh k
     have P:((sA z.ns[k]).toList==(sA nm).toList)=decide (z.ns[k]=nm):=Ky _ _
     have p:Hid (∀ n∈z.ns.take (k+1),n∈z.ns.take k\/n=z.ns[k]):=fun n d=>by
      rw[List.take_succ_eq_append_getElem hkl]at d;rcases List.mem_append.1 d with h|h
      ·exact Qd h
      ·exact Qc (QY h)
     clear ak ao;by_cases he:z.ns[k]=nm
     ·rw[QO he]at P
      have HFIN:=I (HS.o.setVal (s':=Kx s nm tag x) (z:=z) HVA.o k Z hZl (by rw [HSET.o]) (by rw [HSET.o]) (by rw [HSET.o]) (fun y=>by
       rw[HSET.o,Dj z.ns z.vl k nm Z hkl HLL.o he (fun j a=>J.o _ (by rw[List.mem_take_iff_getElem];exact⟨j,by omega,rfl⟩)) y];show(if y=nm then some Z else s.vals y)=_
       rw [HS.o.vals y]))
      obtain⟨F,D⟩:=Qf (z.ns[k]);obtain⟨vk,az⟩:=Qf (z.vl[k]);rw[D]at b1 P;rw[az]at b2;clear he p D az;go_wp2;refine bodyPost_ret (v:=.tuple #[]) (by simp[results,results50,go_sem]) rfl ?_;exact⟨rfl,⟨(f.o.mono S).trans HFIN.o.2.1,(Ym f.o).trans HFIN.o.2.2⟩,_,HFIN.o.1.more (Nat.le_succ _)⟩
     ·rw[Qr he]at P
      have aF:Hid (∀ n∈z.ns.take (k+1),n≠nm):=fun n d=>by
       rcases p.o n d with h|h
       ·exact J.o n h
       ·rw[h];exact he
      obtain⟨F,D⟩:=Qf (z.ns[k]);rw[D]at b1 P;clear he p D b2;go_wp2;exact⟨⟨k+1,by omega,by go_num,f,aF⟩,by simp[intOf];omega⟩
    ·have aJ:k=z.ns.length:=by omega
     subst aJ;have aL:¬(z.ns.length:Int)<(z.ns.length:Int):=by omega
     have HNA2:Hid (∀ n∈z.ns,n≠nm):=fun n d=>J.o n (by rw[List.take_length];exact d)
     have HK:=I HS.o.toK;have ac:=HS.o.n;rw[m.o]at ac;obtain⟨i0,hi,aC,aD,aE⟩:=info_parts Tryz.infoStr;clear J;go_wp2_with (at_builtin;refine wpList_append_own_at _ rfl _ _ 61 rfl B 9 i0 (.string ⟨#[]⟩) 1 16 underlying61 hi aC aD aE rfl (by decide) _ _ _ rfl (ac.alloc _) ⟨wr.heap.size,0,none⟩ 1 1 [.string (sA nm)] rfl rfl ?c1 ?c2 ?c3 ?c4 ?c5 ?_)
     all_goals first|rfl|omega|(unfold maxLen;omega)|(simp;omega)|(intro j u a;match j,a with|0,a=>simp at a;subst a;simp[Addr.add])|(intro u E;simp at E;subst E;rfl)|skip
     ·intro v5 w5 aa X _ V;rw[<-m.o]at X V;obtain⟨r,K,au⟩:=HK.o.appNV (x:=nm) X aa V;have A:=HK.o.blk;unfold SB at A;rw[<-au]at A;have t5:=QM A;rw[m.o]at t5;have f5:=Qz A;obtain⟨p5,m5,c5,rfl⟩:=A4 aa;obtain⟨g,T⟩:=QE (w5.setCell ⟨sb,5,none⟩ (.slice p5 m5 c5));have aG:=I T;rw[<-T]at r K;have ai:=I r;have af:=I K;have n6:=Zg r.blk;rw[HVA.o]at n6
      have ar:g.ownsRow B 9 1 (.slice va z.vl.length vc) z.vl.length (Qw z.vl):=by
       have h:=r.v;rw[<-HVA.o];exact h
      have aX:wr.heap.size<=g.heap.size:=K.1.size;clear aa X V ac r K au A T d5 d6 aH;go_wp2_with (first|(at_builtin;refine wpList_append_own_at _ rfl _ _ 61 rfl B 9 i0 (.string ⟨#[]⟩) 1 16 underlying61 hi aC aD aE rfl (by decide) _ _ _ rfl (ar.alloc _) ⟨g.heap.size,0,none⟩ 1 1 [.string (sA Z)] rfl rfl ?e1 ?e2 ?e3 ?e4 ?e5 ?_)|(rw[<-aG.o]))
      all_goals first|rfl|omega|(unfold maxLen;omega)|(simp;omega)|(intro j u a;match j,a with|0,a=>simp at a;subst a;simp[Addr.add])|(intro u E;simp at E;subst E;rfl)|skip
      ·intro v8 w8 ab Y _ W;rw[<-HVA.o]at Y W;obtain⟨hK9,aj,aw⟩:=ai.o.appVV (x:=Z) Y ab W hZl;have C:=ai.o.blk;unfold SB at C;rw[<-aw]at C;have t8:=Zg C;rw[HVA.o]at t8;have f8:=Qz C;obtain⟨p8,m8,c8,rfl⟩:=A4 ab
       have HFIN:Hid (StI (w8.setCell ⟨sb,6,none⟩ (.slice p8 m8 c8)) B sb M (Kx s nm tag x) ⟨z.hv,.slice p5 m5 c5,.slice p8 m8 c8,z.cv,z.av,z.ns++[nm],z.vl++[Z]⟩ (q+1) kp en er pz):=hK9.toI (by rw [HSET.o]) (by rw [HSET.o]) (by rw [HSET.o]) (by show (z.ns++[nm]).length=(z.vl++[Z]).length;rw [Qk,Qk,HLL.o];rfl) (by show (z.ns++[nm]).length<=_;rw [Qk];simp;omega) (fun y=>by
        rw[HSET.o];show(if y=nm then some Z else s.vals y)=lookV (z.ns++[nm]) (z.vl++[Z]) y
        rw [Dk z.ns z.vl nm Z HLL.o HNA2.o y,HS.o.vals y])
       have ag:=I aj;clear ab Y W ar hK9 aj aw C n6 t5;go_wp2;go_end0;exact⟨rfl,⟨((f.o.mono S).trans af.o.1).trans ag.o.1,((Ym f.o).trans af.o.2).trans ag.o.2⟩,_,HFIN.o⟩
theorem MI(B sb:Nat)(M:Msg)(s:SS)(z:StV)(q:Nat)(kp en:Bool)(er pz:Int)(nm x:L8)(tag:Int)(w:World)(h:StI w B sb M s z q kp en er pz)(hq:q<=1000000)(hx:x.length<=100000)(ht:tag=0\/tag=1\/tag=2\/tag=3) :
 Calls prog 50 #[.pointer (some ⟨sb,0,none⟩),.string (sA nm),.string (sA x),.int .i64 tag] w fun e w'=>e=.returned (.tuple #[])/\Below B w w'/\∃ z',StI w' B sb M (Kx s nm tag x) z' (q+1) kp en er pz:=
 (Dl B sb M s z q kp en er pz nm x tag w h hq hx ht).mono fun e w' hh=>⟨hh.1,hh.2.1.1,hh.2.2⟩
end
section
open Go.RowKit
def keepB(s:SS):Bool:=s.met.isEmpty && !s.disc
def RP(B sb:Nat)(M:Msg)(q:Nat)(pz:Int)(r:CR)(w':World):Prop:=
 match r with
 | .ok (t,b)=>∃ z',StI w' B sb M t z' q (keepB t) b 0 pz
 | .error (c,p)=>¬ c=0/\∃ s' z' kp',StI w' B sb M s' z' q kp' true c p
theorem RP.more{B sb:Nat}{M:Msg}{q e:Nat}{d:Int}{r:CR}{w':World}(h:RP B sb M q d r w')(a:q<=e):RP B sb M e d r w':=by
 match r,h with
 | .ok (t,b),⟨z',h⟩=>exact⟨z',h.more a⟩
 | .error (c,p),⟨hc,s',z',kp',h⟩=>exact⟨hc,s',z',kp',h.more a⟩
theorem RP.below{B sb:Nat}{M:Msg}{q:Nat}{d:Int}{r:CR}{w w':World}(h:RP B sb M q d r w)(a:Below w.heap.size w w'):RP B sb M q d r w':=by
 match r,h with
 | .ok (t,b),⟨z',h⟩=>exact⟨z',h.below a⟩
 | .error (c,p),⟨hc,s',z',kp',h⟩=>exact⟨hc,s',z',kp',h.below a⟩
def endB(r:CR):Bool:=
 match r with
 | .ok (_,b)=>b
 | .error _=>true
theorem RP.ends{a:Int}{r:CR}(h:RP B sb M q a r w'):w'.cell? ⟨sb,10,none⟩=some (.bool (endB r))/\sb<w'.heap.size/\B<=sb:=by
 match r,h with
 | .ok (t,b),⟨z',h⟩=>exact⟨Qn h.blk 10,h.lt,h.hB⟩
 | .error (c,p),⟨hc,s',z',kp',h⟩=>exact⟨Qn h.blk 10,h.lt,h.hB⟩
def U1(B:Nat)(M:Msg)(w0:World)(lv:Value)(cnt:Nat)(ev:SS->CR):Prop:=
 ∀ W sb s z q pz,Below B w0 W->StI W B sb M s z q (keepB s) false 0 pz->q+cnt<=1000000->Calls prog 56 #[.pointer (some ⟨sb,0,none⟩),lv] W fun e w'=>e=.returned (.tuple #[])/\Below B W w'/\RP B sb M (q+cnt) pz (ev s) w'
theorem Dm{c:List (Int×L8)}{a:Int}{b:L8}(h:(Xc c a b).1=0):(Xc c a b).2≠[]:=by
 rw[Dg]at h ⊢
 split at h
 ·cases h
 ·split at h
  ·cases h
  ·rename_i h1 h2;rw[if_neg h1,if_neg h2];unfold Jl at h ⊢;by_cases hm:(a,NC a b)∈c
   ·rw[if_pos hm];exact List.ne_nil_of_mem hm
   ·rw[if_neg hm]at h ⊢
    split at h
    ·cases h
    ·split at h
     ·cases h
     ·rename_i h3 h4;rw[if_neg h3,if_neg h4];simp
theorem Do(s:SS){m:List (Int×L8)}(h:m≠[]):keepB (YW s m)=false:=by
 show(m.isEmpty && !s.disc)=false
 cases m with
 |nil=>exact absurd rfl h
 |cons a r=>rfl
theorem Kf.run{c:Int}{pos:Nat}(h:Kf B sb M s q false c (pos:Int) (Xc s.met b (expL s x)) w'):RP B sb M q c (Kh s b x pos) w':=by
 obtain⟨d,f,a,e⟩:=h;unfold Kh;by_cases h0:(Xc s.met b (expL s x)).1=0
 ·rw[if_pos h0];rw[if_pos h0,if_pos h0,h0,e h0]at a;refine⟨d,?_⟩;rw[Do s (Dm h0)];exact a
 ·rw[if_neg h0];rw[if_neg h0,if_neg h0]at a;exact⟨h0,_,d,f,a⟩
theorem MJ(b:α->SS->CR)(h:k<a.length)(s:SS):bEval b (a.drop k) s=match b a[k] s with
 | .error e=>.error e
 | .ok (s',true)=>.ok (s',true)
 | .ok (s',false)=>bEval b (a.drop (k+1)) s':=by
 rw[List.drop_eq_getElem_cons h];rfl
theorem MK{β:Type}(b:β->SS->Bool×SS)(c:α->SS->CR)(d:List α){a:List (β×List α)}(h:k<a.length)(s:SS):KY b c d (a.drop k) s=if(b a[k].1 s).1=true then bEval c a[k].2 (b a[k].1 s).2 else KY b c d (a.drop (k+1)) (b a[k].1 s).2:=by
 rw[List.drop_eq_getElem_cons h];rfl
end
end Go.Proofs.YtgnkjijocdmniaaGreatDoor
