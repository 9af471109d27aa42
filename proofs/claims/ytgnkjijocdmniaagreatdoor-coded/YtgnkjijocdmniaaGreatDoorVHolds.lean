import Derived.Test.YtgnkjijocdmniaaGreatDoorZVAdd
namespace Go.Proofs.YtgnkjijocdmniaaGreatDoor
set_option linter.unusedVariables false
set_option linter.unusedSimpArgs false
set_option maxRecDepth 100000
set_option maxHeartbeats 4000000
open Go.Proofs.Tryz
open Go.RowKit
attribute [local go_sem ↓] Go.wp_at_zero Go.wp_at_succ
def HP(B sb:Nat)(M:Msg)(q:Nat)(kp en:Bool)(er pz:Int)(w:World)(r:Bool×SS)(e:Ending)(w':World):Prop:=e=.returned (.bool r.1)/\Mod sb w w'/\∃ z',StI w' B sb M r.2 z' q kp en er pz
def Uj(B:Nat)(M:Msg)(w0:World)(v:Value)(ev:SS->Bool×SS):Prop:=∀ W sb s z q kp en er pz,Below B w0 W->StI W B sb M s z q kp en er pz->q<=1000000->Calls prog 85 #[.pointer (some ⟨sb,0,none⟩),v] W (HP B sb M q kp en er pz W (ev s))
variable{M:Msg}{b:Qa}{w:World}
theorem StI.existsV{B sb:Nat}{s:SS}{z:StV}{q:Nat}{C m:Bool}{n D:Int}(h:StI w B sb M s z q C m n D)(t:q<=1000000)(a:Option Addr)(c:Nat)(xs:Qa)(b:∀ j (d:j<xs.length),∃ g off,a=some ⟨g,off,none⟩/\w.cell? ⟨g,off+j,none⟩=some (.string (sA xs[j])))(v:xs.length<=c)(y:xs.length<=100000)(A:∀ x∈xs,x.length<=100000) :
 Calls prog 74 #[.pointer (some ⟨sb,0,none⟩),.slice a xs.length c] w fun e w'=>e=.returned (.bool (YB M (xs.map (expL s))))/\Below w.heap.size w w':=by
 obtain⟨r,u,o,p⟩:=h.h;have f:=h.mb;have:=Lh sb (YC s) z.nv z.vv z.cv z.ns z.vl M r u a c xs w (h.var t) h.vb (AI h.tb) (by rw[<-o];exact Qn h.blk 3) (fun j d=>by obtain⟨g,off,i,_,k,l⟩:=p j d;exact⟨g,off,i,k,l⟩) b v y A (by have:=f.hl;omega) (fun x b=>by have:=(f.hs x b).1;omega);rw[CQ]at this;exact this
theorem Li(B sb:Nat)(M:Msg)(s:SS)(z:StV)(q:Nat)(i c:Bool)(d m:Int)(b:L8)(g:Nat)(p e j:Value)(n k:Nat)(l:Bool)(w:World)(h:StI w B sb M s z q i c d m)(E:q<=1000000)(D:g<B)(a:w.heap[g]?=some (.cells #[.string (sA b),p,e,j,.int .i64 n,.bool l,.int .i64 k] 200))(f:b=Jv) :
 Calls prog 85 #[.pointer (some ⟨sb,0,none⟩),.pointer (some ⟨g,0,none⟩)] w (HP B sb M q i c d m w (true,s)):=by
 have r:=Qj a;have t:=Qo a;have u:=QG a;have v:=QH a;have x:=QJ a;have y:=QM a;have A:=Zg a;have H:=I h;have C:=Zz [116,114,117,101] f rfl
 clear a f h;go_enter func85,ntmps85;go_wp2;go_ret;exact⟨rfl,Mod.refl sb w,z,H.o⟩
theorem Lj(B sb:Nat)(M:Msg)(s:SS)(z:StV)(q:Nat)(i d:Bool)(e m:Int)(b:L8)(g:Nat)(p f j:Value)(n k:Nat)(l:Bool)(w:World)(h:StI w B sb M s z q i d e m)(F:q<=1000000)(E:g<B)(a:w.heap[g]?=some (.cells #[.string (sA b),p,f,j,.int .i64 n,.bool l,.int .i64 k] 200))(c:b=Jw) :
 Calls prog 85 #[.pointer (some ⟨sb,0,none⟩),.pointer (some ⟨g,0,none⟩)] w (HP B sb M q i d e m w (false,s)):=by
 have r:=Qj a;have t:=Qo a;have u:=QG a;have v:=QH a;have x:=QJ a;have y:=QM a;have A:=Zg a;have H:=I h;have C:=Ql [116,114,117,101] c rfl
 have D:=Zz [102,97,108,115,101] c rfl
 clear a c h;go_enter func85,ntmps85;go_wp2;go_ret;exact⟨rfl,Mod.refl sb w,z,H.o⟩
theorem Lk(B sb:Nat)(M:Msg)(s:SS)(z:StV)(q:Nat)(m i:Bool)(j n:Int)(b:L8)(g:Nat)(F t A:Value)(E C:Nat)(D:Bool)(w:World)(h:StI w B sb M s z q m i j n)(J:q<=1000000)(Y:g<B)(a:w.heap[g]?=some (.cells #[.string (sA b),F,t,A,.int .i64 E,.bool D,.int .i64 C] 200))(f:b=kNot)(k u c:Nat)(d:SS->Bool×SS)(K:F=.slice (some ⟨k,0,none⟩) 1 c)(X:w.cell? ⟨k,0,none⟩=some (.pointer (some ⟨u,0,none⟩)))(x:Uj B M w (.pointer (some ⟨u,0,none⟩)) d) :
 Calls prog 85 #[.pointer (some ⟨sb,0,none⟩),.pointer (some ⟨g,0,none⟩)] w (HP B sb M q m i j n w (!(d s).1,(d s).2)):=by
 subst K;have L:=Qj a;have N:=Qo a;have P:=QG a;have Q:=QH a;have R:=QJ a;have S:=QM a;have T:=Zg a;have p:=I (x w sb s z q m i j n (Below.refl _ _) h J);have U:=Ql [116,114,117,101] f rfl
 have V:=Ql [102,97,108,115,101] f rfl
 have W:=Zz [110,111,116] f rfl
 obtain⟨r,l⟩:=Qf (d s);rw[l]at p;rw[l];obtain⟨Z,rs⟩:=r;clear a f h x l;go_enter func85,ntmps85;go_wp2_with fail;refine p.o.mono ?_;rintro e w1 ⟨rfl,v,y⟩;have G:=I v;have H:=I y;clear v y;go_wp2;go_ret;exact⟨rfl,G.o,H.o⟩
theorem Ll(B sb:Nat)(M:Msg)(s:SS)(z:StV)(q:Nat)(k f:Bool)(i n:Int)(a:L8)(g:Nat)(p j l:Value)(d e:Nat)(m:Bool)(w:World)(h:StI w B sb M s z q k f i n)(Q:q<=1000000)(P:g<B)(b:w.heap[g]?=some (.cells #[.string (sA a),p,j,l,.int .i64 d,.bool m,.int .i64 e] 200))(c:a=Yh)(R:d=1\/d=2) :
 Calls prog 85 #[.pointer (some ⟨sb,0,none⟩),.pointer (some ⟨g,0,none⟩)] w (HP B sb M q k f i n w (UW M d e,s)):=by
 have t:=Qj b;have v:=Qo b;have x:=QG b;have y:=QH b;have A:=QJ b;have C:=QM b;have D:=Zg b;have H:=I h;have S:=QG h.blk;have r:=I (fun u=>CS M e d u (by omega));have E:=Ql [116,114,117,101] c rfl
 have F:=Ql [102,97,108,115,101] c rfl
 have G:=Ql [110,111,116] c rfl
 have J:=Ql [97,108,108,111,102] c rfl
 have K:=Ql [97,110,121,111,102] c rfl
 have L:=Ql [101,120,105,115,116,115] c rfl
 have N:=Zz [115,105,122,101] c rfl
 clear b c h;go_enter func85,ntmps85;go_wp2;go_quiet (first|(go_at_call 75;refine Calls.quiet_of_same (r.o _)));go_wp2;go_ret;exact⟨rfl,⟨rfl,rfl,rfl,Nat.le_refl _,fun _ _ _=>rfl⟩,z,H.o.below ⟨rfl,rfl,rfl,Nat.le_refl _,fun _ _=>rfl⟩⟩
theorem Lm(B sb:Nat)(M:Msg)(s:SS)(z:StV)(q:Nat)(t k:Bool)(l A:Int)(a:L8)(g:Nat)(D m u:Value)(C v:Nat)(y:Bool)(w:World)(h:StI w B sb M s z q t k l A)(G:q<=1000000)(aa:g<B)(b:w.heap[g]?=some (.cells #[.string (sA a),D,m,u,.int .i64 C,.bool y,.int .i64 v] 200))(d:a=XO)(xs:Qa)(f c:Nat)(F:m=.slice (some ⟨f,0,none⟩) xs.length c)(r:Zm w f xs)(J:xs.length<=c)(K:xs.length<=100000)(L:∀ x∈xs,x.length<=100000) :
 Calls prog 85 #[.pointer (some ⟨sb,0,none⟩),.pointer (some ⟨g,0,none⟩)] w (HP B sb M q t k l A w (YB M (xs.map (expL s)),s)):=by
 subst F;have N:=Qj b;have P:=Qo b;have Q:=QG b;have R:=QH b;have S:=QJ b;have T:=QM b;have U:=Zg b;have H:=I h;have E:=I (h.existsV G (some ⟨f,0,none⟩) c xs (fun j p=>⟨f,0,rfl,by rw[Nat.zero_add,r j p];simp[List.getD_eq_getElem?_getD,List.getElem?_eq_getElem p]⟩) J K L);have V:=Ql [116,114,117,101] d rfl
 have W:=Ql [102,97,108,115,101] d rfl
 have X:=Ql [110,111,116] d rfl
 have Y:=Ql [97,108,108,111,102] d rfl
 have Z:=Ql [97,110,121,111,102] d rfl
 have e5:=Zz [101,120,105,115,116,115] d rfl
 clear b d h r;go_enter func85,ntmps85;go_wp2_with fail;refine E.o.mono ?_;rintro e w1 ⟨rfl,n⟩;have i:=I n;clear n;go_wp2;go_ret;exact⟨rfl,Mod.of_below i.o,z,H.o.below i.o⟩
theorem Gt{g c:Nat}{xs:Qa}(h:Zm w g xs):TxO w (.slice (some ⟨g,0,none⟩) xs.length c) xs:=⟨_,_,rfl,fun j hj=>⟨g,0,rfl,by rw[Nat.zero_add,h j hj];simp[List.getD_eq_getElem?_getD,List.getElem?_eq_getElem hj]⟩⟩
theorem AJ{α:Type}(f:α->Qa)(m:Nat):∀(l:List α),(∀ x∈l,(f x).length<=m)->(l.flatMap f).length<=l.length*m
 | [],_=>QC
 |x::l,h=>by
  rw[List.flatMap_cons,Qk,QD,Nat.succ_mul];have b:=h x List.mem_cons_self;have c:=AJ f m l (fun y a=>h y (List.mem_cons_of_mem _ a));omega
theorem CT(d:KU M)(h:b.length<=100000):(fieldsL M b).length<=10000000000/\∀ x∈fieldsL M b,x.length<=100000:=by
 constructor
 ·have e:=AJ (fun n=>(M.hdrs.filter (AK · n)).map (·.2)) 100000 b (fun n _=>by rw[List.length_map];exact Qm (List.length_filter_le _ _) d.hl);have c:b.length*100000<=100000*100000:=Nat.mul_le_mul_right _ h;exact Qm e (by omega)
 ·intro x g;obtain⟨n,_,c⟩:=List.mem_flatMap.1 g;obtain⟨a,f,rfl⟩:=List.mem_map.1 c;exact(d.hs a (List.mem_filter.1 f).1).2
theorem CU(c:KU M)(h:b.length<=100000):(envL M b).length<=10000000000/\∀ x∈envL M b,x.length<=100000:=by
 constructor
 ·have d:=AJ (fun p=>if zL p=[102,114,111,109]then [M.fr]else if zL p=[116,111]then [M.to]else []) 1 b (fun n _=>by split;exact Nat.le_refl _;split;exact Nat.le_refl _;exact QC);exact Qm d (by omega)
 ·intro x e;obtain⟨n,_,a⟩:=List.mem_flatMap.1 e
  split at a
  ·rw[QY a];exact c.fr
  ·split at a
   ·rw[QY a];exact c.tu
   ·cases a
theorem Ln(B sb:Nat)(M:Msg)(s:SS)(z:StV)(q:Nat)(A u:Bool)(v D:Int)(a:L8)(g:Nat)(E J W:Value)(c C:Nat)(r:Bool)(w:World)(h:StI w B sb M s z q A u v D)(Q:q<=1000000)(ai:g<B)(d:w.heap[g]?=some (.cells #[.string (sA a),E,J,W,.int .i64 c,.bool r,.int .i64 C] 200))(f:a=X7)(xs b:Qa)(k n l p:Nat)(ae:J=.slice (some ⟨k,0,none⟩) xs.length n)(ag:W=.slice (some ⟨l,0,none⟩) b.length p)(S:Zm w k xs)(R:Zm w l b)(T:xs.length<=100000)(ak:b.length<=100000)(ah:∀ x∈xs,x.length<=100000)(af:∀ x∈b,x.length<=100000)(ht:c=1\/c=2\/c=3) :
 Calls prog 85 #[.pointer (some ⟨sb,0,none⟩),.pointer (some ⟨g,0,none⟩)] w (HP B sb M q A u v D w (Z9 s c r (fieldsL M (xs.map (expL s))) b)):=by
 subst ae;subst ag;have c0:=Qj d;have c1:=Qo d;have c2:=QG d;have c3:=QH d;have c4:=QJ d;have c5:=QM d;have c6:=Zg d;have U:TxO w (.slice (some ⟨k,0,none⟩) xs.length n) xs:=Gt S;have L:TxO w (.slice (some ⟨l,0,none⟩) b.length p) b:=Gt R;have Z:=I L;have G:=I (h.fields Q (.slice (some ⟨k,0,none⟩) xs.length n) xs U T ah);have H:=I h;have aj:=Qh d;have K:(fieldsL M (xs.map (expL s))).length<=10000000000/\∀ x∈fieldsL M (xs.map (expL s)),x.length<=100000:=CT h.mb (by rw[List.length_map];exact T);have t:=I K;have Y:=I d;have aa:=I af;have HT:Hid ((c:Int)=1\/(c:Int)=2\/(c:Int)=3):=by show _\/_;omega
 have e0:=Ql [116,114,117,101] f rfl
 have e1:=Ql [102,97,108,115,101] f rfl
 have e2:=Ql [110,111,116] f rfl
 have e3:=Ql [97,108,108,111,102] f rfl
 have e4:=Ql [97,110,121,111,102] f rfl
 have e5:=Ql [101,120,105,115,116,115] f rfl
 have e6:=Ql [115,105,122,101] f rfl
 have e7:=Zz [104,101,97,100,101,114] f rfl
 obtain⟨F,y⟩:=Qf (fieldsL M (xs.map (expL s)));rw[y]at G t;rw[y];clear d f h S R y U L K;go_enter func85,ntmps85;go_wp2_with fail;refine G.o.mono ?_;rintro e j ⟨rv,rfl,P,m⟩;have i:=Zk Y.o m;have d0:=Qj i;have d1:=Qo i;have d2:=QG i;have d3:=QH i;have d4:=QJ i;have d5:=QM i;have d6:=Zg i;have ac:=I (VB B sb M s z q A u v D rv (.slice (some ⟨l,0,none⟩) b.length p) F b c r j.drew (H.o.below m.drew) Q ((TxL.of_ownsV P).toO.below (Below.refl _ _).drew) (Z.o.below m.drew) HT.o t.o.1 (by omega) t.o.2 aa.o);have X:=I m.drew;clear P m i;go_wp2;go_region_with (first|(go_at_call 72;refine ac.o.mono ?_;rintro e w2 ⟨rfl,N,V⟩;have ab:=I ((Mod.of_below X.o).trans N);have ad:=I V;clear N V;skip))
 all_goals go_wp2
 all_goals go_ret
 all_goals exact⟨rfl,ab.o,ad.o⟩
theorem Lo(B sb:Nat)(M:Msg)(s:SS)(z:StV)(q:Nat)(C u:Bool)(v E:Int)(a:L8)(g:Nat)(F K T:Value)(d D:Nat)(r:Bool)(w:World)(h:StI w B sb M s z q C u v E)(hq:q<=1000000)(ah:g<B)(f:w.heap[g]?=some (.cells #[.string (sA a),F,K,T,.int .i64 d,.bool r,.int .i64 D] 200))(b:a=QN)(xs c:Qa)(k m l p:Nat)(ab:K=.slice (some ⟨k,0,none⟩) xs.length m)(ad:T=.slice (some ⟨l,0,none⟩) c.length p)(y:Zm w k xs)(R:Zm w l c)(ae:xs.length<=100000)(aj:c.length<=100000)(ag:∀ x∈xs,x.length<=100000)(ac:∀ x∈c,x.length<=100000)(ht:d=1\/d=2\/d=3) :
 Calls prog 85 #[.pointer (some ⟨sb,0,none⟩),.pointer (some ⟨g,0,none⟩)] w (HP B sb M q C u v E w (Z9 s d r (envL M xs) c)):=by
 subst ab;subst ad;have c0:=Qj f;have c1:=Qo f;have c2:=QG f;have c3:=QH f;have c4:=QJ f;have c5:=QM f;have c6:=Zg f;have af:TxO w (.slice (some ⟨k,0,none⟩) xs.length m) xs:=Gt y;have N:TxO w (.slice (some ⟨l,0,none⟩) c.length p) c:=Gt R;have W:=I N;have J:=I (Lp sb M (.slice (some ⟨k,0,none⟩) xs.length m) xs w (Qn h.blk 0) (Qn h.blk 1) (Qc ⟨k,m,rfl,y⟩) (by omega) (fun x b=>by have:=ag x b;omega));have H:=I h;have ai:=Qh f;have L:(envL M xs).length<=10000000000/\∀ x∈envL M xs,x.length<=100000:=CU h.mb ae;have t:=I L;have V:=I f;have X:=I ac;have HT:Hid ((d:Int)=1\/(d:Int)=2\/(d:Int)=3):=by show _\/_;omega
 have e0:=Ql [116,114,117,101] b rfl
 have e1:=Ql [102,97,108,115,101] b rfl
 have e2:=Ql [110,111,116] b rfl
 have e3:=Ql [97,108,108,111,102] b rfl
 have e4:=Ql [97,110,121,111,102] b rfl
 have e5:=Ql [101,120,105,115,116,115] b rfl
 have e6:=Ql [115,105,122,101] b rfl
 have e7:=Ql [104,101,97,100,101,114] b rfl
 have e8:=Zz [101,110,118,101,108,111,112,101] b rfl
 obtain⟨G,A⟩:=Qf (envL M xs);rw[A]at J t;rw[A];clear f b h y R A af N L;go_enter func85,ntmps85;go_wp2_with fail;refine J.o.mono ?_;rintro e j ⟨rv,rfl,Q,n⟩;have i:=Zk V.o n;have d0:=Qj i;have d1:=Qo i;have d2:=QG i;have d3:=QH i;have d4:=QJ i;have d5:=QM i;have d6:=Zg i;have Z:=I (VB B sb M s z q C u v E rv (.slice (some ⟨l,0,none⟩) c.length p) G c d r j.drew (H.o.below n.drew) hq ((TxL.of_ownsV Q).toO.below (Below.refl _ _).drew) (W.o.below n.drew) HT.o t.o.1 (by omega) t.o.2 X.o);have U:=I n.drew;clear Q n i;go_wp2;go_region_with (first|(go_at_call 72;refine Z.o.mono ?_;rintro e w2 ⟨rfl,P,S⟩;have Y:=I ((Mod.of_below U.o).trans P);have aa:=I S;clear P S;skip))
 all_goals go_wp2
 all_goals go_ret
 all_goals exact⟨rfl,Y.o,aa.o⟩
end Go.Proofs.YtgnkjijocdmniaaGreatDoor
