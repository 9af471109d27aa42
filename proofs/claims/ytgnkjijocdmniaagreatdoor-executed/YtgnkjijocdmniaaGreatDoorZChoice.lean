import Derived.Deep.AppendLies
import Derived.Test.YtgnkjijocdmniaaGreatDoorZBlock
namespace Go.Proofs.YtgnkjijocdmniaaGreatDoor
set_option linter.unusedVariables false
set_option linter.unusedSimpArgs false
set_option maxRecDepth 100000
set_option maxHeartbeats 4000000
open Go.Proofs.Tryz
open Go.RowKit
attribute [local go_sem ↓] Go.wp_at_zero Go.wp_at_succ
variable{α β:Type}{B F T base k n pf pos pr pt size:Nat}{P b d f:(Nat->Prop)->α->World->Value->Prop}{X Y:Nat->Prop}{a c:(Nat->Prop)->β->World->Value->Prop}{acc:List (β×List α)}{e:TypeId}{l:L8}{o:Obj}{req xs:Qa}{s:PS}{sub:PS->Qb (α×PS)}{t:ByteArray}{tst:PS->Qb (β×PS)}{u v:Value}{w w':World}{x:Xj×List (β×List α)×List α}{y:(β×List α)×PS}
def Wn{α β:Type}(X:Nat->Prop)(P1:(Nat->Prop)->β->World->Value->Prop)(P2:(Nat->Prop)->α->World->Value->Prop)(a:β×List α)(w:World)(v:Value):Prop:=
 ∃ u bv,v=.agg #[u,bv]/\P1 X a.1 w u/\blX X P2 a.2 w bv
theorem DL{b:Nat}(h:b<B):¬ fromB B b:=by unfold fromB;omega
theorem Es(tst:PS->Qb (β×PS))(u:(Nat->Prop)->β->World->Value->Prop)(sub:PS->Qb (α×PS))(p:(Nat->Prop)->α->World->Value->Prop)(d:Int)(b F:Nat)(t:ByteArray)(s:PS)(l:Value)(i j:Nat)(w:World)(h:RC w b t s l i j)(hF:2*t.size+1<F)(aj:0<=d)(ak:d<=100)(P:TreeP u)(Q:TreeP p)(R:SubMu t.size sub)(V:XV 186 w b t l i j (d+1) tst u)(W:XV 143 w b t l i j (d+1) sub p) :
 Calls prog 183 #[.pointer (some ⟨b,0,none⟩),.int .i64 d] w (Qf (armL t.data.toList F tst sub s) b t l i j w (Wn (fromB w.heap.size) u p)):=by
 have H:=I h;have ad:=I V;have ae:=I W;have c:=I P;have n:=I Q;have af:=I R;have U:=h.at_.lt;clear h V W P Q R;go_enter func183,ntmps183;go_wp2_with fail;have q:=I ((Mod.refl b w).alloc (.cells #[.nilIface,.slice none 0 0] 298));refine(ad.o _ s q.o (H.o.alloc _)).mono ?_;intro e w1 M;rcases M.cases with⟨y,v,Z,rfl,D,S,g⟩ | ⟨f,C,⟨A,G,rfl,B⟩,g⟩
 rotate_left
 ·exact⟨rfl,Qf.err (Q6 C) (q.o.trans g) ⟨A,by simp at G;omega,rfl,B⟩⟩
 have HV:=I D;obtain⟨ty,x,rfl⟩:=c.o.form _ _ _ _ D;have L:=I Z;have HC:=I S;have m:=I (q.o.trans g);have J:=I (QA (QC w (.cells #[.nilIface,.slice none 0 0] 298)) g (by omega));have ao:w.heap.size<w1.heap.size:=Qg J.o;clear M Z S g D;go_wp2_with fail;refine(DB sub p (d+1) b F t y.2 l i j _ HC.o hF n.o af.o (ae.o.mod m.o)).mono ?_;intro e w2 N;rcases N.cases with⟨z,v2,aa,rfl,E,T,a⟩ | ⟨f,C,⟨A,G,rfl,B⟩,a⟩
 rotate_left
 ·exact⟨rfl,Qf.err ((QD L.o).trans (Q6 C)) (m.o.trans a) ⟨A,Qs m.o.size G,rfl,B⟩⟩
 have ah:=I E;obtain⟨ba,bn,bc,rfl⟩:=E.form;have ag:=I (c.o.keep _ _ _ _ _ HV.o (a.abvX (DL (by simp;omega))));have ai:=I aa;have ab:=I T;have ac:=I (m.o.trans a);have r:=I (QA J.o a (by omega));have r0:=Qk r.o;have r1:=Qr r.o;have rf:=Qu r.o;clear N aa T a E;go_wp2;have X:¬ fromB (w.heap.size+1) w.heap.size:=by unfold fromB;omega
 have Y:¬ fromB w1.heap.size w.heap.size:=by unfold fromB;omega
 have K:=ag.o;rw[show(w.alloc (.cells #[.nilIface,.slice none 0 0] 298)).heap.size=w.heap.size+1 from by simp]at K;refine bodyPost_ret (v:=.agg #[.iface ty x,.slice ba bn bc]) (by simp[results,results183,go_sem,r0,r1]) rfl (Qf.ok ((QD L.o).trans (QD ai.o)) ((ac.o.setNew Ql _ _).setNew Ql _ _) ⟨_,_,rfl,?_,?_⟩ ((ab.o.setNew U _ _).setNew U _ _))
 ·exact c.o.weak _ _ _ _ _ (c.o.keep _ _ _ _ _ (c.o.keep _ _ _ _ _ K (AbvX.set X _ _)) (AbvX.set X _ _)) (fun k hk _=>by unfold fromB at *;omega)
 ·exact blX.weak n.o ((ah.o.keep n.o (AbvX.set Y _ _)).keep n.o (AbvX.set Y _ _)) (fun k hk _=>by unfold fromB at *;omega)
abbrev EC:Obj:=.cells #[.string ⟨#[]⟩,.int .i64 0,.int .i64 0,.string ⟨#[]⟩,.string ⟨#[]⟩] 264
def Gl(l:L8)(s:PS):Qb ((Nat×L8×L8)×PS):=
 Qo (mayL l [J5,J7,JS] s) fun tag s1=>Qo (sL l (fun x=>if Z3 x then 0 else 7) s1) fun v s2=>
  Qo (sL l (fun _=>0) s2) fun x s3=>ZK l s3 (tag,zL v,x)
theorem Td(r:L8)(q:Nat)(d:Int)(b:Nat)(t:ByteArray)(s:PS)(B:Value)(z A:Nat)(w:World)(h:RC w b t s B z A) :
 Calls prog 125 #[.pointer (some ⟨b,0,none⟩),ZE r q,.int .i64 d] w (Qf (Gl t.data.toList s) b t B z A w (fun x w' v=>v=.iface 264 (.agg #[.string (sA r),.int .i64 q,.int .i64 x.1,.string (sA x.2.1),.string (sA x.2.2)]))):=by
 have H:=I h;have aQ:=h.at_.lt;have aI:¬ w.heap.size=b:=by omega
 have aJ:¬ w.heap.size+1=b:=by omega
 have aK:¬ w.heap.size+1+1=b:=by omega
 clear h;unfold ZE;go_enter func125,ntmps125;go_upto_region 1 with fail
 go_cut [7] (fun v wc=>∃(T:Nat) (y:Nat×PS),v=.pointer (some ⟨T,0,none⟩)/\mayL t.data.toList [J5,J7,JS] s=.ok y/\RC wc b t y.2 B z A/\Mod b w wc/\w.heap.size<=T/\wc.heap[T]?=some (.cells #[.string (sA r),.int .i64 q,.int .i64 y.1,.string ⟨#[]⟩,.string ⟨#[]⟩] 264))
 case first=>
  go_region_with (first|(go_at_call 152;refine(Ib _).mono ?_;rintro e w' ⟨rfl,rfl⟩;skip)|(go_at_call 180;refine(Vd b _ 3 3 [J5,J7,JS] t s B z A _ (by first|exact((H.o.alloc _).alloc _).drew|exact(((H.o.alloc _).alloc _).alloc _).drew) (by first|exact(Y2 _ _ (by simp)).drew|exact((Y2 _ _ (by simp)).alloc _).drew) rfl (by decide)).mono ?_;intro e a m;rcases m.cases with⟨y,v,L,rfl,hv,F,i⟩ | ⟨f,p,⟨k,u,rfl,n⟩,i⟩;rotate_left;exact⟨rfl,Qf.err (Q6 p) (by first|exact(((Mod.refl b w).alloc _).alloc _).trans (Zm i)|exact((((Mod.refl b w).alloc _).alloc _).alloc _).trans (Zm i)) ⟨k,by simp at u;omega,rfl,n⟩⟩;unfold XG at hv;subst hv;have aa:=QA (g:=w.heap.size) (o:=.cells #[.string (sA r),.int .i64 q] 216) (by first|exact Qn (QC _ _)|exact Qn (Qn (QC _ _))) (Zm i) aI;have aG:=Qk aa;have aH:=Qr aa;clear aa;(first|(have c:=QA (g:=w.heap.size+1) (o:=EC) (Qn (Q5 (by simp))) (Zm i) aJ;have t0:=Qk c;have t1:=Qr c;have t2:=QJ c;have t3:=QR c;have t4:=QV c;have tf:=Qu c;have Y:=I c;clear c)|(have c:=QA (g:=w.heap.size+1+1) (o:=EC) (Q5 (by simp)) (Zm i) aK;have t0:=Qk c;have t1:=Qr c;have t2:=QJ c;have t3:=QR c;have t4:=QV c;have tf:=Qu c;have Y:=I c;clear c)|skip);have aL:=i.size;simp at aL;have aq:w.heap.size<a.heap.size:=(by omega);have aO:∀ o,(a.alloc o).cell? ⟨w.heap.size,0,none⟩=some (.string (sA r)):=(fun o=>by rw[World.cell?_alloc_past _ _ _ aq];exact aG);have aP:∀ o,(a.alloc o).cell? ⟨w.heap.size,1,none⟩=some (.int .i64 q):=(fun o=>by rw[World.cell?_alloc_past _ _ _ aq];exact aH);have j:=I L;have C:=I F;have ac:Hid (Mod b w a):=(by first|exact(((Mod.refl b w).alloc _).alloc _).trans (Zm i)|exact((((Mod.refl b w).alloc _).alloc _).alloc _).trans (Zm i));clear m L F i;skip))
  all_goals (go_wp2_with fail;go_meet)
  all_goals first
   |(have aN:=Y;exact⟨_,y,rfl,j.o,((((C.o.setNew (by omega) _ _).setNew (by omega) _ _).setNew (by omega) _ _).setNew (by omega) _ _).setNew (by omega) _ _,((((ac.o.setNew (by omega) _ _).setNew (by omega) _ _).setNew (by omega) _ _).setNew (by omega) _ _).setNew (by omega) _ _,by omega,Qt _ _ _ _ _ _ (Qt _ _ _ _ _ _ (Qt _ _ _ _ _ _ (Qt _ _ _ _ _ _ (Qt _ _ _ _ _ _ Y.o))))⟩)
   |exact⟨a.heap.size,y,rfl,j.o,C.o.alloc _,ac.o.alloc _,by omega,QC _ _⟩
 case rest=>
  obtain⟨T,y,rfl,L,F,i,P,Z⟩:=hcut;have aR:=Qg Z;have ae:b<T:=by omega
  have j:=I L;have C:=I F;have U:=I i;have HB:=I Z;clear L F i Z;go_wp2_with fail;refine(Ir b t y.2 B z A _ C.o).mono ?_;intro e a m;rcases m.cases with⟨E,v1,ab,rfl,ai,af,G⟩ | ⟨f,p,⟨k,u,rfl,n⟩,G⟩
  rotate_left
  ·exact⟨rfl,Qf.err ((QD j.o).trans (Q6 p)) (U.o.trans G) ⟨k,Qs U.o.size u,rfl,n⟩⟩
  unfold Jg at ai;subst ai;have X:=I ab;have ax:=I af;have aC:=I (U.o.trans G);have ar:=I (QA HB.o G (by omega))
  have aS:E.1.length<=600:=by
   have m:=(Ut (l:=t.data.toList) (by simpa using C.o.le) ab).2;have h2:=C.o.sz.1;rw[m];exact h2
  clear m ab af G;go_wp2_with fail;refine(VT (sA E.1) _ (by rw[QN];omega)).mono ?_;rintro e w2 ⟨rfl,S⟩;have Q:=QA ar.o (Mod.of_below (b:=b) S) (by omega);have t3:=QR Q;have tf:=Qu Q;have ay:=I (ax.o.below S);have V:=I (aC.o.trans (Mod.of_below (b:=b) S));have au:=I Q;clear Q S;go_wp2_with fail;refine(NH b t E.2 B z A _ (ay.o.setNew ae _ _)).mono ?_;intro e w3 h3;rcases h3.cases with⟨N,v3,ao,rfl,aj,ag,J⟩ | ⟨f,p,⟨k,u,rfl,n⟩,J⟩
  rotate_left
  ·exact⟨rfl,Qf.err ((QD j.o).trans ((QD X.o).trans (Q6 p))) ((V.o.setNew P _ _).trans J) ⟨k,Qs (V.o.setNew P _ _).size u,rfl,n⟩⟩
  unfold Jg at aj;subst aj;have R:=QA (Qt _ T 3 (.string ⟨(zL E.1).toArray⟩) _ _ au.o) J (by omega);have t4:=QV R;have aM:=Qu R;have ad:=I ao;have az:=I ag;have aD:=I ((V.o.setNew P 3 (.string ⟨(zL E.1).toArray⟩)).trans J);have av:=I R;clear R h3 ao ag J t3 tf;go_wp2_with fail;have aw:=I (Qt _ T 4 (.string (sA N.1)) _ _ av.o);have aA:=I (az.o.setNew ae 4 (.string (sA N.1)));have W:=I (aD.o.setNew P 4 (.string (sA N.1)));have HP:=I (Jo b w3.heap.size 1 1 [[59]] t N.2 B z A _ (aA.o.alloc (.cells (Qv [[59]]).toArray 9)) (Y2 _ _ (by simp[World.setCell])) rfl (by decide));refine HP.o.mono ?_;intro e M h5;rcases h5.cases with⟨y5,v5,ap,rfl,ak,ah,K⟩ | ⟨f,p,⟨k,u,rfl,n⟩,K⟩
  rotate_left
  ·exact⟨rfl,Qf.err ((QD j.o).trans ((QD X.o).trans ((QD ad.o).trans (Q6 p)))) ((W.o.alloc _).trans K) ⟨k,Qs (W.o.alloc _).size u,rfl,n⟩⟩
  unfold XG at ak;subst ak;have D:=QA (Qn aw.o) K (by omega);have q0:=Qk D;have q1:=Qr D;have q2:=QJ D;have q3:=QR D;have q4:=QV D;have aF:=I ap;have aB:=I ah;have aE:=I ((W.o.alloc (.cells (Qv [[59]]).toArray 9)).trans K);clear h5 ap ah K D HP t4 aM;go_wp2;go_ret;exact Qf.ok ((QD j.o).trans ((QD X.o).trans ((QD ad.o).trans (QD aF.o)))) aE.o rfl aB.o
def XO(w:World)(b:Nat)(rv:Value)(req:Qa):Prop:=
 (rv=.slice none 0 0/\req=[])\/∃ g c,rv=.slice (some ⟨g,0,none⟩) req.length c/\g≠b/\Zx w g req/\req≠[]/\req.length<=1000
theorem XO.mod{b:Nat}{d:Value}(h:XO w b d req)(m:Mod b w w'):XO w' b d req:=by
 rcases h with h | ⟨g,c,e,a,f,i,k⟩
 ·exact Qd h
 ·exact Qc ⟨g,c,e,a,fun j l=>X4 (f j l) m a,i,k⟩
theorem BP(w:World)(b:Nat)(a:Value)(req:Qa)(x:L8)(h:XO w b a req) :
 Calls prog 64 #[a,.string (sA x)] w fun e w'=>e=.returned (.bool (decide (0<wL req x)))/\w'=w:=by
 rcases h with⟨rfl,rfl⟩ | ⟨g,c,rfl,i,d,j,f⟩
 ·exact Tryz.slices_Contains_string_empty none 0 (sA x) w
 ·exact BX g _ c req x w d rfl f
theorem Al{a:L8}(h:a=ZB\/a=ZD\/a=QX):ZX req a=decide (0<wL req a):=by unfold ZX;rw[if_pos h]
theorem DA{a:L8}(h:¬(a=ZB\/a=ZD\/a=QX))(b:a=Xy\/a=Z4):ZX req a=decide (0<wL req Xc):=by unfold ZX;rw[if_neg h,if_pos b]
theorem LN{a:L8}(h:¬(a=ZB\/a=ZD\/a=QX))(b:¬(a=Xy\/a=Z4)):ZX req a=true:=by unfold ZX;rw[if_neg h,if_neg b]
theorem U5(d:L8)(req:Qa)(b:Nat)(t:ByteArray)(s:PS)(r:Value)(y z:Nat)(w:World)(h:RC w b t s r y z)(u:XO w b r req) :
 Calls prog 235 #[.pointer (some ⟨b,0,none⟩),.string (sA d)] w fun e w'=>e=.returned (.bool (ZX req d))/\w'=w:=by
 have A:=Yf h.at_;have i:=I (fun x=>BP w b r req x u)
 obtain⟨B,D,C,v⟩:∃ a n c,r=.slice a n c:=by
  rcases u with⟨h,_⟩ | ⟨g,c,h,_⟩
  ·exact⟨_,_,_,h⟩
  ·exact⟨_,_,_,h⟩
 subst v;clear h u;have j:((sA d).toList==[102,105,108,101,105,110,116,111])=decide (d=ZB):=Y6 d ZB;have k:((sA d).toList==[114,101,106,101,99,116])=decide (d=ZD):=Y6 d ZD;have l:((sA d).toList==[101,110,118,101,108,111,112,101])=decide (d=QX):=Y6 d QX;have m:((sA d).toList==[115,101,116])=decide (d=Xy):=Y6 d Xy;have p:((sA d).toList==[115,116,114,105,110,103])=decide (d=Z4):=Y6 d Z4;by_cases a1:d=ZB
 ·have f:=I (Al (req:=req) (Qd a1));rw[Qw a1]at j;clear k l m p;clear a1;go_enter func235,ntmps235;go_wp2_with (go_at_call 64;refine(i.o d).mono ?_;rintro e w' ⟨rfl,rfl⟩);go_ret;exact⟨QS (by rw[f.o]),rfl⟩
 by_cases a2:d=ZD
 ·have f:=I (Al (req:=req) (Qc (Qd a2)));rw[Qh a1]at j;rw[Qw a2]at k;clear l m p;clear a2 a1;go_enter func235,ntmps235;go_wp2_with (go_at_call 64;refine(i.o d).mono ?_;rintro e w' ⟨rfl,rfl⟩);go_ret;exact⟨QS (by rw[f.o]),rfl⟩
 by_cases a3:d=QX
 ·have f:=I (Al (req:=req) (Qc (Qc a3)));rw[Qh a1]at j;rw[Qh a2]at k;rw[Qw a3]at l;clear m p;clear a3 a1 a2;go_enter func235,ntmps235;go_wp2_with (go_at_call 64;refine(i.o d).mono ?_;rintro e w' ⟨rfl,rfl⟩);go_ret;exact⟨QS (by rw[f.o]),rfl⟩
 have q:¬(d=ZB\/d=ZD\/d=QX):=by
  rintro(h|h|h)
  ·exact a1 h
  ·exact a2 h
  ·exact a3 h
 by_cases a4:d=Xy
 ·have f:=I (DA (req:=req) q (Qd a4));clear q;rw[Qh a1]at j;rw[Qh a2]at k;rw[Qh a3]at l;rw[Qw a4]at m;clear p;clear a4 a1 a2 a3;go_enter func235,ntmps235;go_wp2_with (go_at_call 64;refine(i.o Xc).mono ?_;rintro e w' ⟨rfl,rfl⟩);go_ret;exact⟨QS (by rw[f.o]),rfl⟩
 by_cases a5:d=Z4
 ·have f:=I (DA (req:=req) q (Qc a5));clear q;rw[Qh a1]at j;rw[Qh a2]at k;rw[Qh a3]at l;rw[Qh a4]at m;rw[Qw a5]at p;clear a5 a1 a2 a3 a4;go_enter func235,ntmps235;go_wp2_with (go_at_call 64;refine(i.o Xc).mono ?_;rintro e w' ⟨rfl,rfl⟩);go_ret;exact⟨QS (by rw[f.o]),rfl⟩
 have f:=I (LN (req:=req) q (by rintro(h|h)<;>contradiction));clear q;rw[Qh a1]at j;rw[Qh a2]at k;rw[Qh a3]at l;rw[Qh a4]at m;rw[Qh a5]at p;clear a1 a2 a3 a4 a5;go_enter func235,ntmps235;go_wp2_with (go_at_call 64;refine(i.o d).mono ?_;rintro e w' ⟨rfl,rfl⟩);go_ret;exact⟨QS (by rw[f.o]),rfl⟩
def slX(X:Nat->Prop)(xs:Qa)(w:World)(v:Value):Prop:=
 ∃ g c,v=.slice (some ⟨g,0,none⟩) xs.length c/\X g/\Zx w g xs/\xs≠[]
theorem slB.toX(h:slB B xs w v):slX (fromB B) xs w v:=h
theorem slX.keep(h:slX X xs w v)(e:AbvX X w w'):slX X xs w' v:=by
 obtain⟨g,c,i,b,f,k⟩:=h;refine⟨g,c,i,b,fun j d=>?_,k⟩;have:=f j d;rw[ZA (w:=w) (a:=⟨g,j,none⟩) (e g b (Qq this))];exact this
theorem slX.weak(h:slX X xs w v)(d:∀ k,X k->k<w.heap.size->Y k):slX Y xs w v:=by
 obtain⟨g,c,f,e,a,b⟩:=h;exact⟨g,c,f,d g e (Qq (a 0 (List.length_pos_iff.2 b))),a,b⟩
def mtX(X:Nat->Prop)(hw:L8)(x:ZV)(w:World)(v:Value):Prop:=
 ∃ fv kv,v=.agg #[.string (sA hw),.int .i64 x.pos,.int .i64 x.tag,.bool x.octet,fv,kv]/\slX X x.fr w fv/\slX X x.keys w kv
def Yc{α:Type}(X:Nat->Prop)(P:(Nat->Prop)->α->World->Value->Prop)(x:ZV×List α)(w:World)(v:Value):Prop:=
 match x.1.kind with
 |0=>x.2=[]/\v=.iface 302 (.agg #[.string (sA KF),.int .i64 x.1.pos,.bool true])
 |1=>x.2=[]/\v=.iface 302 (.agg #[.string (sA KD),.int .i64 x.1.pos,.bool false])
 |2=>∃ a u,x.2=[a]/\v=.iface 305 (.agg #[.string (sA KS),.int .i64 x.1.pos,u])/\P X a w u
 |3=>∃ u,v=.iface 224 (.agg #[.string (sA Kx),.int .i64 x.1.pos,u])/\trX X P x.2 w u/\x.2≠[]
 |4=>∃ u,v=.iface 225 (.agg #[.string (sA Kz),.int .i64 x.1.pos,u])/\trX X P x.2 w u/\x.2≠[]
 |5=>x.2=[]/\∃ u,v=.iface 231 u/\mtX X JR x.1 w u
 |6=>x.2=[]/\∃ u,v=.iface 234 u/\mtX X QX x.1 w u
 |7=>x.2=[]/\∃ u,v=.iface 235 u/\mtX X Z4 x.1 w u
 |8=>x.2=[]/\∃ u,v=.iface 309 (.agg #[.string (sA Kw),.int .i64 x.1.pos,u])/\slX X x.1.fr w u
 |_=>x.2=[]/\v=.iface 311 (.agg #[.string (sA KI),.int .i64 x.1.pos,.int .i64 x.1.tag,.int .i64 x.1.num])
def Yj:(n:Nat)->(Nat->Prop)->Yn n->World->Value->Prop
 |0,_,_,_,_=>False
 |n+1,X,x,w,v=>Yc X (Yj n) x w v
theorem My{x:ZV×List α}(h:Yc X P x w v):∃ ty y,v=.iface ty y:=by
 unfold Yc at h
 split at h
 ·exact⟨_,_,h.2⟩
 ·exact⟨_,_,h.2⟩
 ·obtain⟨a,u,_,h,_⟩:=h;exact⟨_,_,h⟩
 ·obtain⟨u,h,_⟩:=h;exact⟨_,_,h⟩
 ·obtain⟨u,h,_⟩:=h;exact⟨_,_,h⟩
 ·obtain⟨_,u,h,_⟩:=h;exact⟨_,_,h⟩
 ·obtain⟨_,u,h,_⟩:=h;exact⟨_,_,h⟩
 ·obtain⟨_,u,h,_⟩:=h;exact⟨_,_,h⟩
 ·obtain⟨_,u,h,_⟩:=h;exact⟨_,_,h⟩
 ·exact⟨_,_,h.2⟩
theorem mtX.keep{X:Nat->Prop}{b:L8}{x:ZV}{w w':World}{v:Value}(h:mtX X b x w v)(a:AbvX X w w'):mtX X b x w' v:=by
 obtain⟨c,g,d,e,f⟩:=h;exact⟨c,g,d,e.keep a,f.keep a⟩
theorem mtX.weak{X Y:Nat->Prop}{b:L8}{x:ZV}{w:World}{v:Value}(h:mtX X b x w v)(a:∀ k,X k->k<w.heap.size->Y k):mtX Y b x w v:=by
 obtain⟨c,g,d,e,f⟩:=h;exact⟨c,g,d,e.weak a,f.weak a⟩
theorem M1(g:TreeP P){x:ZV×List α}(h:Yc X P x w v)(e:AbvX X w w'):Yc X P x w' v:=by
 unfold Yc at h ⊢
 split at h
 ·exact h
 ·exact h
 ·obtain⟨a,u,b,c,f⟩:=h;exact⟨a,u,b,c,g.keep _ _ _ _ _ f e⟩
 ·obtain⟨u,b,c,f⟩:=h;exact⟨u,b,c.keep g e,f⟩
 ·obtain⟨u,b,c,f⟩:=h;exact⟨u,b,c.keep g e,f⟩
 ·obtain⟨d,u,b,c⟩:=h;exact⟨d,u,b,c.keep e⟩
 ·obtain⟨d,u,b,c⟩:=h;exact⟨d,u,b,c.keep e⟩
 ·obtain⟨d,u,b,c⟩:=h;exact⟨d,u,b,c.keep e⟩
 ·obtain⟨d,u,b,c⟩:=h;exact⟨d,u,b,c.keep e⟩
 ·exact h
theorem MD(g:TreeP P){x:ZV×List α}(h:Yc X P x w v)(f:∀ k,X k->k<w.heap.size->Y k):Yc Y P x w v:=by
 unfold Yc at h ⊢
 split at h
 ·exact h
 ·exact h
 ·obtain⟨a,u,b,c,e⟩:=h;exact⟨a,u,b,c,g.weak _ _ _ _ _ e f⟩
 ·obtain⟨u,b,c,e⟩:=h;exact⟨u,b,trX.weak g e c f,e⟩
 ·obtain⟨u,b,c,e⟩:=h;exact⟨u,b,trX.weak g e c f,e⟩
 ·obtain⟨d,u,b,c⟩:=h;exact⟨d,u,b,c.weak f⟩
 ·obtain⟨d,u,b,c⟩:=h;exact⟨d,u,b,c.weak f⟩
 ·obtain⟨d,u,b,c⟩:=h;exact⟨d,u,b,c.weak f⟩
 ·obtain⟨d,u,b,c⟩:=h;exact⟨d,u,b,c.weak f⟩
 ·exact h
theorem Y3:∀ n,TreeP (Yj n)
 |0=>⟨fun _ _ _ _ h=>h.elim,fun _ _ _ _ _ h=>h.elim,fun _ _ _ _ _ h=>h.elim⟩
 |n+1=>⟨fun _ _ _ _ h=>My h,fun _ _ _ _ _ h hk=>M1 (Y3 n) h hk,fun _ _ _ _ _ h hB=>MD (Y3 n) h hB⟩
def A9(w:World)(T:TypeId)(m:Nat)(f:L8->Option Value):Prop:=
 ∀(W:World) (x:L8),W.heap[m]?=w.heap[m]?->(Instr.lookup T (.map (some m)) (.string (sA x)) true).run prog W=.ok (.tuple #[(f x).getD .nilFunc,.bool (f x).isSome]) W
def testFn(b pr pt pf:Nat)(x:L8):Option Value:=
 match wL tNs x with
 |1=>some (.func (.func 185) #[] #[.pointer (some ⟨pt,0,none⟩)])
 |2=>some (.func (.func 185) #[] #[.pointer (some ⟨pf,0,none⟩)])
 |3=>some (.func (.func 128) #[.pointer (some ⟨b,0,none⟩)] #[])
 |4=>some (.func (.func 129) #[] #[.pointer (some ⟨pr,0,none⟩)])
 |5=>some (.func (.func 131) #[] #[.pointer (some ⟨pr,0,none⟩)])
 |6=>some (.func (.func 132) #[] #[.pointer (some ⟨pr,0,none⟩)])
 |7=>some (.func (.func 135) #[] #[.pointer (some ⟨pr,0,none⟩)])
 |8=>some (.func (.func 138) #[] #[.pointer (some ⟨pr,0,none⟩)])
 |9=>some (.func (.func 139) #[.pointer (some ⟨b,0,none⟩)] #[])
 |10=>some (.func (.func 140) #[.pointer (some ⟨b,0,none⟩)] #[])
 |_=>none
structure YB (w:World) (b mt pr pt pf:Nat):Prop where
 look:A9 w 208 mt (testFn b pr pt pf)
 hpr:Yd w pr b
 hpt:w.cell? ⟨pt,0,none⟩=some (.bool true)
 hpf:w.cell? ⟨pf,0,none⟩=some (.bool false)
 ptb:pt≠b
 pfb:pf≠b
 mtb:mt≠b
 mtl:mt < w.heap.size
theorem YB.mod{w w':World}{b mt pr pt pf:Nat}(h:YB w b mt pr pt pf)(hm:Mod b w w'):YB w' b mt pr pt pf:=
 ⟨fun W x e=>h.look W x (e.trans (hm.block mt h.mtl h.mtb)),h.hpr.mod hm,X4 h.hpt hm h.ptb,X4 h.hpf hm h.pfb,h.ptb,h.pfb,h.mtb,Zs h.mtl hm.size⟩
theorem B2{b:Nat}{x:L8}(h:wL tNs x=0):testFn b pr pt pf x=none:=by unfold testFn;rw[h];rfl
theorem FD(d:Int)(b:Nat)(t:ByteArray)(s:PS)(l:Value)(k a pr pt pf:Nat)(w:World)(h:RC w b t s l k a)(p:YB w b a pr pt pf)(x:d<=6)(m:wL tNs s.1.spelt=0) :
 Calls prog 222 #[.pointer (some ⟨b,0,none⟩),.map (some a),.int .i64 d] w fun e w'=>ZS ⟨4,s.1.pos⟩ w e w'/\Mod b w w':=by
 have u:=Qr h.at_;have v:w.cell? ⟨b,3,none⟩=some (.string (sA s.1.spelt)):=h.at_.cell 3;have n:=p.look w s.1.spelt rfl;rw[B2 m]at n;have H:=I h;clear h p m;simp only[Option.getD_none,Option.isSome_none]at n;by_cases hk:s.1.kind=1
 ·have q:((s.1.kind:Int) != 1)=false:=by simp;omega
  clear hk;go_enter func222,ntmps222;go_wp2_with fail;refine(Zv b _ _ _ rfl).mono ?_;rintro e w' ⟨rfl,i⟩;subst i;go_wp2_with fail;refine(XB b 4 _ _ t s.1 s.2 l k a _ H.o.at_ rfl rfl).mono ?_;rintro e r ⟨⟨c,j,rfl,f⟩,g⟩;exact⟨rfl,⟨c,j,rfl,f⟩,Mod.of_below g⟩
 ·have q:((s.1.kind:Int) != 1)=true:=by simp;omega
  clear hk;go_enter func222,ntmps222;go_wp2_with fail;refine(Zv b _ _ _ rfl).mono ?_;rintro e w' ⟨rfl,i⟩;subst i;go_wp2_with fail;refine(XB b 4 _ _ t s.1 s.2 l k a _ H.o.at_ rfl rfl).mono ?_;rintro e r ⟨⟨c,j,rfl,f⟩,g⟩;exact⟨rfl,⟨c,j,rfl,f⟩,Mod.of_below g⟩
def Yy{α β:Type}(X:Nat->Prop)(P1:(Nat->Prop)->β->World->Value->Prop)(P2:(Nat->Prop)->α->World->Value->Prop)(xs:List (β×List α))(w:World)(v:Value):Prop:=
 ∃ g c,v=.slice (some ⟨g,0,none⟩) xs.length c/\X g/\∀ j (hj:j<xs.length),∃ u bv,w.cell? ⟨g,2*j,none⟩=some u/\w.cell? ⟨g,2*j+1,none⟩=some bv/\P1 X xs[j].1 w u/\blX X P2 xs[j].2 w bv
theorem Yy.keep{α β:Type}{X:Nat->Prop}{d:(Nat->Prop)->β->World->Value->Prop}{e:(Nat->Prop)->α->World->Value->Prop}(m:TreeP d)(n:TreeP e){xs:List (β×List α)}{w w':World}{v:Value}(h:Yy X d e xs w v)(b:AbvX X w w'):Yy X d e xs w' v:=by
 obtain⟨g,c,r,f,s⟩:=h;refine⟨g,c,r,f,fun j o=>?_⟩;obtain⟨u,l,k,i,p,q⟩:=s j o;refine⟨u,l,?_,?_,m.keep _ _ _ _ _ p b,q.keep n b⟩
 ·rw[ZA (w:=w) (a:=⟨g,2*j,none⟩) (b g f (Qq k))];exact k
 ·rw[ZA (w:=w) (a:=⟨g,2*j+1,none⟩) (b g f (Qq i))];exact i
theorem Yy.weak{α β:Type}{X Y:Nat->Prop}{a:(Nat->Prop)->β->World->Value->Prop}{b:(Nat->Prop)->α->World->Value->Prop}(l:TreeP a)(m:TreeP b){xs:List (β×List α)}{w:World}{v:Value}(q:xs≠[])(h:Yy X a b xs w v)(d:∀ k,X k->k<w.heap.size->Y k):Yy Y a b xs w v:=by
 obtain⟨g,c,t,o,i⟩:=h;refine⟨g,c,t,?_,fun j p=>?_⟩
 ·obtain⟨u,f,e,_⟩:=i 0 (List.length_pos_iff.2 q);exact d g o (Qq e)
 ·obtain⟨u,f,e,n,r,s⟩:=i j p;exact⟨u,f,e,n,l.weak _ _ _ _ _ r d,s.weak m d⟩
def Gq(hw:L8)(p k:Nat)(x:L8):Value:=.iface 269 (.agg #[.string (sA hw),.int .i64 p,.int .i64 k,.string (sA x)])
def KG{α β:Type}(X:Nat->Prop)(P1:(Nat->Prop)->β->World->Value->Prop)(P2:(Nat->Prop)->α->World->Value->Prop)(x:Xj×List (β×List α)×List α)(w:World)(v:Value):Prop:=
 match x.1.kind with
 |0=>v=Gq KM x.1.pos 1 []
 |1=>v=.iface 294 (.agg #[.string (sA Kt),.int .i64 x.1.pos])
 |2=>v=.iface 295 (.agg #[.string (sA KH),.int .i64 x.1.pos])
 |3=>v=Gq ZB x.1.pos 2 x.1.arg
 |4=>v=Gq Kk x.1.pos 3 x.1.arg
 |5=>v=Gq ZD x.1.pos 4 x.1.arg
 |6=>v=.iface 264 (.agg #[.string (sA Xy),.int .i64 x.1.pos,.int .i64 x.1.tag,.string (sA x.1.var),.string (sA x.1.arg)])
 |_=>∃ av ev,v=.iface 261 (.agg #[.string (sA kIf),.int .i64 x.1.pos,av,.bool x.1.els,ev])/\Yy X P1 P2 x.2.1 w av/\x.2.1≠[]/\blX X P2 x.2.2 w ev
def Yo:(n:Nat)->(Nat->Prop)->Zt n->World->Value->Prop
 |0,_,_,_,_=>False
 |n+1,X,x,w,v=>KG X (Yj n) (Yo n) x w v
theorem MW(h:KG X a b x w v):∃ ty y,v=.iface ty y:=by
 unfold KG Gq at h
 split at h
 ·exact⟨_,_,h⟩
 ·exact⟨_,_,h⟩
 ·exact⟨_,_,h⟩
 ·exact⟨_,_,h⟩
 ·exact⟨_,_,h⟩
 ·exact⟨_,_,h⟩
 ·exact⟨_,_,h⟩
 ·obtain⟨c,d,h,_⟩:=h;exact⟨_,_,h⟩
theorem Ou(g:TreeP a)(c:TreeP b)(h:KG X a b x w v)(d:AbvX X w w'):KG X a b x w' v:=by
 unfold KG at h ⊢
 split at h
 ·exact h
 ·exact h
 ·exact h
 ·exact h
 ·exact h
 ·exact h
 ·exact h
 ·obtain⟨e,f,h,i,k,j⟩:=h;exact⟨e,f,h,i.keep g c d,k,j.keep c d⟩
theorem Od(i:TreeP a)(c:TreeP b)(h:KG X a b x w v)(d:∀ k,X k->k<w.heap.size->Y k):KG Y a b x w v:=by
 unfold KG at h ⊢
 split at h
 ·exact h
 ·exact h
 ·exact h
 ·exact h
 ·exact h
 ·exact h
 ·exact h
 ·obtain⟨f,g,h,j,e,l⟩:=h;exact⟨f,g,h,Yy.weak i c e j d,e,l.weak c d⟩
theorem Xm:∀ n,TreeP (Yo n)
 |0=>⟨fun _ _ _ _ h=>h.elim,fun _ _ _ _ _ h=>h.elim,fun _ _ _ _ _ h=>h.elim⟩
 |n+1=>⟨fun _ _ _ _ h=>MW h,fun _ _ _ _ _ h hk=>Ou (Y3 n) (Xm n) h hk,fun _ _ _ _ _ h hB=>Od (Y3 n) (Xm n) h hB⟩
theorem Fq{f:Nat}{e:Flt}(h:mayL l [Yi] s=.error e):Z9 l F tst sub (f+1) acc s=.error e:=by rw[Z9];exact Q6 h
theorem Gz{f:Nat}{y:Nat×PS}(h:mayL l [Yi] s=.ok y)(a:y.1=0):Z9 l F tst sub (f+1) acc s=.ok (acc,y.2):=by rw[Z9,QD h,if_pos a]
theorem Fo{f:Nat}{y:Nat×PS}{e:Flt}(h:mayL l [Yi] s=.ok y)(a:¬ y.1=0)(b:armL l F tst sub y.2=.error e):Z9 l F tst sub (f+1) acc s=.error e:=by rw[Z9,QD h,if_neg a];exact Q6 b
theorem LX{f:Nat}{y:Nat×PS}{z:(β×List α)×PS}(h:mayL l [Yi] s=.ok y)(a:¬ y.1=0)(b:armL l F tst sub y.2=.ok z):Z9 l F tst sub (f+1) acc s=Z9 l F tst sub f (acc++[z.1]) z.2:=by rw[Z9,QD h,if_neg a];exact QD b
def XW{α:Type}(P:α->Value->Value->Prop):List α->List Value->Prop
 | [],[]=>True
 |a::xs,u::v::vs=>P a u v/\XW P xs vs
 |_,_=>False
theorem XW.imp{α:Type}{P Q:α->Value->Value->Prop}(h:∀ a u v,P a u v->Q a u v):∀ {xs:List α} {vs:List Value},XW P xs vs->XW Q xs vs
 | [],[],_=>trivial
 |a::xs,u::v::vs,hr=>⟨h _ _ _ hr.1,XW.imp h hr.2⟩
 | [],_::_,hr=>hr.elim
 |_::_,[],hr=>hr.elim
 |_::_,[_],hr=>hr.elim
theorem XW.snoc{α:Type}{P:α->Value->Value->Prop}{a:α}{u v:Value}(h:P a u v):∀ {xs:List α} {vs:List Value},XW P xs vs->XW P (xs++[a]) (vs++[u,v])
 | [],[],_=>⟨h,trivial⟩
 |a'::xs,u'::v'::vs,hr=>⟨hr.1,XW.snoc h hr.2⟩
 | [],_::_,hr=>hr.elim
 |_::_,[],hr=>hr.elim
 |_::_,[_],hr=>hr.elim
theorem XW.at{α:Type}{P:α->Value->Value->Prop}:∀ {xs:List α} {b:List Value},XW P xs b->∀ j (c:j<xs.length),∃ u v,b[2*j]?=some u/\b[2*j+1]?=some v/\P xs[j] u v
 | [],[],_,j,c=>absurd c (Nat.not_lt_zero _)
 |a::xs,u::v::b,h,0,_=>⟨u,v,rfl,rfl,h.1⟩
 |a::xs,u::v::b,h,j+1,c=>by
  obtain⟨g,i,d,e,f⟩:=XW.at h.2 j (by simpa using c);refine⟨g,i,?_,?_,by simpa using f⟩
  ·rw[show 2*(j+1)=2*j+1+1 from by omega];simpa using d
  ·rw[show 2*(j+1)+1=2*j+1+1+1 from by omega];simpa using e
 | [],_::_,h,_,_=>h.elim
 |_::_,[],h,_,_=>h.elim
 |_::_,[_],h,_,_=>h.elim
def ZW{α β:Type}(P1:(Nat->Prop)->β->World->Value->Prop)(P2:(Nat->Prop)->α->World->Value->Prop)(base T:Nat)(w:World)(v:Value)(a:β×List α)(u bv:Value):Prop:=
 ∃ X,P1 X a.1 w u/\blX X P2 a.2 w bv/\(∀ k,X k->base<=k/\k<w.heap.size)/\(∀ g,v.ownBlock=some g->¬ X g)/\¬ X T
theorem ZW.mod(q:TreeP c)(r:TreeP d){b:Nat}{a:β×List α}{g:Value}(h:ZW c d base T w v a u g)(l:Mod b w w')(s:b<base):ZW c d base T w' v a u g:=by
 obtain⟨X,m,n,f,o,p⟩:=h;have i:AbvX X w w':=l.abvX (fun e=>by have:=(f b e).1;omega);exact⟨X,q.keep _ _ _ _ _ m i,n.keep r i,fun k j=>⟨(f k j).1,Zs (f k j).2 l.size⟩,o,p⟩
theorem ZW.set{α β:Type}{b:(Nat->Prop)->β->World->Value->Prop}{c:(Nat->Prop)->α->World->Value->Prop}(n:TreeP b)(p:TreeP c){base T:Nat}{w:World}{v:Value}{a:β×List α}{u d:Value}(h:ZW b c base T w v a u d)(o:Nat)(x:Value):ZW b c base T (w.setCell ⟨T,o,none⟩ x) v a u d:=by
 obtain⟨X,j,l,e,m,f⟩:=h;have g:AbvX X w (w.setCell ⟨T,o,none⟩ x):=AbvX.set f _ _;exact⟨X,n.keep _ _ _ _ _ j g,l.keep p g,fun k i=>⟨(e k i).1,by simpa[World.setCell]using(e k i).2⟩,m,f⟩
theorem ZW.new{b:(Nat->Prop)->β->World->Value->Prop}{c:(Nat->Prop)->α->World->Value->Prop}(i:TreeP b)(j:TreeP c){a:β×List α}{d:Value}(h:b (fromB B) a.1 w u)(e:blX (fromB B) c a.2 w d)(f:base<=B)(l:∀ g,v.ownBlock=some g->g<B)(m:T<B):ZW b c base T w v a u d:=
 ⟨fun k=>B<=k/\k<w.heap.size,i.weak _ _ _ _ _ h (fun k hk hz=>⟨hk,hz⟩),e.weak j (fun k hk hz=>⟨hk,hz⟩),fun k hk=>⟨Qs f hk.1,hk.2⟩,fun g hg hX=>by have:=l g hg;omega,fun hX=>by omega⟩
theorem ZW.grown(t:TreeP c)(x:TreeP d){v':Value}{a:β×List α}{j:Value}(h:ZW c d base T w v a u j)(p:(w.alloc o).grownBy w' v.ownBlock)(hv:v'.ownBlock=v.ownBlock\/v'.ownBlock=some (w.heap.size+1)):ZW c d base T w' v' a u j:=by
 obtain⟨X,q,r,f,l,s⟩:=h
 have m:AbvX X w w':=fun k b y=>by
  rw[p.block k (by simp;omega) (fun e=>l k e.symm b)];exact Below.heap_alloc _ _ _ y
 refine⟨X,t.keep _ _ _ _ _ q m,r.keep x m,fun k b=>⟨(f k b).1,?_⟩,fun g i n=>?_,s⟩
 ·have:=(f k b).2;have:=p.size;simp at this;omega
 ·rcases hv with hv|hv
  ·exact l g (hv ▸ i) n
  ·rw[hv]at i;have:=(f g n).2;simp at i;omega
theorem Yy.of_owns{d:(Nat->Prop)->β->World->Value->Prop}(x:TreeP d)(y:TreeP f){xs:List (β×List α)}{p:List Value}(h:w.ownsRow base e 2 v n p)(D:n=xs.length)(K:xs≠[])(J:∀ g,v.ownBlock=some g->g≠T)(G:XW (fun a u bv=>ZW d f base T w v a u bv) xs p):Yy (fun k=>base<=k/\k≠T) d f xs w v:=by
 subst D;have l:=fun g (i:v.ownBlock=some g)=>h.cells i
 obtain⟨M,s⟩:=h;rcases s with⟨_,t⟩ | ⟨g,q,L,c,i,r⟩
 ·exact absurd (Xz t) K
 ·refine⟨g,q,c,⟨i,J g (by rw[c];rfl)⟩,fun j C=>?_⟩;obtain⟨u,bv,H,B,X,E,F,z,_,A⟩:=G.at j C;have m:=l g (by rw[c];rfl) _ u H;have o:=l g (by rw[c];rfl) _ bv B;rw[Ys]at m o;have b:∀ k,X k->k<w.heap.size->base<=k/\k≠T:=fun k b _=>⟨(z k b).1,fun e=>A (e ▸ b)⟩
  exact⟨u,bv,m,o,x.weak _ _ _ _ _ E b,F.weak y b⟩
theorem Zk:∀(zs:Qa) (x:L8) (i:Nat),wL zs x=i+1->zs[i]?=some x
 | [],x,i,h=>by simp[wL]at h
 |s::r,x,i,h=>by
  unfold wL at h
  split at h
  ·rename_i e;have:i=0:=by omega
   subst this;subst e;rfl
  ·split at h
   ·omega
   ·rename_i h1 h2;obtain⟨j,b⟩:∃ j,wL r x=j+1:=⟨wL r x - 1,by omega⟩;have a:i=j+1:=by omega
    subst a;have:=Zk r x j b;simpa using this
theorem Qf.lift{r:Qb (α×PS)}{R:Qb (β×PS)}{b:Nat}{k:Value}{i j:Nat}{W:World}{l:α->World->Value->Prop}{m:β->World->Value->Prop}{e:Ending}(g:α->β)(h:Qf r b t k i j W l e w')(a:Mod b w W)(q:∀ y,r=.ok y->R=.ok (g y.1,y.2))(o:∀ f,r=.error f->R=.error f)(x:∀ y v,r=.ok y->l y.1 w' v->m (g y.1) w' v):Qf R b t k i j w m e w':=by
 rcases h.cases with⟨y,v,d,rfl,u,n,c⟩ | ⟨f,p,s,c⟩
 ·exact Qf.ok (q y d) (a.trans c) (x _ _ d u) n
 ·exact Qf.err (o f p) (a.trans c) (s.up a.size)
theorem JK{f:Flt}(hi:wL tNs s.1.spelt=k+1)(b:ZX req s.1.spelt=true)(a:nL l s.2=.error f):Qy l req F (n+1) s=.error f:=by
 rw[Qy,if_neg (by omega),if_pos b];exact VH a
theorem JH{y:PS}(hi:wL tNs s.1.spelt=k+1)(b:ZX req s.1.spelt=true)(a:nL l s.2=.ok y):Qy l req F (n+1) s=Zl l F (Qy l req F n) k s.1.pos y:=by
 rw[Qy,if_neg (by omega),if_pos b];refine(Ux a).trans ?_;show Zl l F (Qy l req F n) (wL tNs s.1.spelt - 1) s.1.pos y=_
 rw[hi];rfl
theorem CX(l:L8)(F:Nat)(sub:PS->Qb (α×PS))(pos:Nat)(s:PS):Zl l F sub 2 pos s=Qo (sub s) fun t s1=>.ok ((⟨2,pos,0,false,[],[],0⟩,[t]),s1):=rfl
theorem Mk(l:L8)(F:Nat)(sub:PS->Qb (α×PS))(pos:Nat)(s:PS):Zl l F sub 0 pos s=.ok ((⟨0,pos,0,false,[],[],0⟩,[]),s):=rfl
theorem Mt(l:L8)(F:Nat)(sub:PS->Qb (α×PS))(pos:Nat)(s:PS):Zl l F sub 1 pos s=.ok ((⟨1,pos,0,false,[],[],0⟩,[]),s):=rfl
theorem Co(l:L8)(F:Nat)(sub:PS->Qb (α×PS))(pos:Nat)(s:PS):Zl l F sub 3 pos s=Qo (groupL l F sub s) fun ts s1=>.ok ((⟨3,pos,0,false,[],[],0⟩,ts),s1):=rfl
theorem CP(l:L8)(F:Nat)(sub:PS->Qb (α×PS))(pos:Nat)(s:PS):Zl l F sub 4 pos s=Qo (groupL l F sub s) fun ts s1=>.ok ((⟨4,pos,0,false,[],[],0⟩,ts),s1):=rfl
theorem Ce(l:L8)(F:Nat)(sub:PS->Qb (α×PS))(pos:Nat)(s:PS):Zl l F sub 5 pos s=Qo (Yw l F (fun _=>0) 5 pos s) fun x s1=>.ok ((x,[]),s1):=rfl
theorem CJ(l:L8)(F:Nat)(sub:PS->Qb (α×PS))(pos:Nat)(s:PS):Zl l F sub 6 pos s=Qo (Yw l F (Ks (Xv 7 [YV,kTo])) 6 pos s) fun x s1=>.ok ((x,[]),s1):=rfl
theorem CC(l:L8)(F:Nat)(sub:PS->Qb (α×PS))(pos:Nat)(s:PS):Zl l F sub 7 pos s=Qo (Yw l F (fun _=>0) 7 pos s) fun x s1=>.ok ((x,[]),s1):=rfl
theorem CQ(l:L8)(F:Nat)(sub:PS->Qb (α×PS))(pos:Nat)(s:PS):Zl l F sub 8 pos s=Qo (sLs l (fun _=>0) F s) fun xs s1=>.ok ((⟨8,pos,0,false,xs,[],0⟩,[]),s1):=rfl
theorem Cl(l:L8)(F:Nat)(sub:PS->Qb (α×PS))(pos:Nat)(s:PS):Zl l F sub 9 pos s=Qo (sizeL l pos s) fun x s1=>.ok ((x,[]),s1):=rfl
theorem N0{chk:L8->Nat}{y:ZV×PS}(h:Yw l F chk k pos s=.ok y):y.1.kind=k/\y.1.pos=pos:=by
 unfold Yw at h
 cases h1:Zi l F 0 false false s with
 |error f=>rw[Q6 h1]at h;cases h
 |ok a=>
  rw[QD h1]at h
  cases h2:sLs l chk F a.2 with
  |error f=>rw[Q6 h2]at h;cases h
  |ok c=>
   rw[QD h2]at h
   cases h3:sLs l (fun _=>0) F c.2 with
   |error f=>rw[Q6 h3]at h;cases h
   |ok e=>rw[QD h3]at h;cases h;exact⟨rfl,rfl⟩
theorem CU{y:ZV×PS}(h:sizeL l pos s=.ok y):y.1.kind=9/\y.1.pos=pos:=by
 unfold sizeL at h
 cases h1:paL l [UO,UL] s with
 |error f=>rw[Q6 h1]at h;cases h
 |ok a=>
  rw[QD h1]at h
  split at h
  ·cases h2:nL l a.2.2 with
   |error f=>rw[VH h2]at h;cases h
   |ok c=>rw[Ux h2]at h;cases h;exact⟨rfl,rfl⟩
  ·cases h
theorem mtV.toX{hw:L8}{x:ZV}(h:mtV B hw x w v):mtX (fromB B) hw x w v:=h
theorem Gv{w2:World}{b:Nat}{sp:L8}{p:Nat}(hm:Mod b (w.alloc (.cells #[.string (sA sp),.int .i64 p] 216)).drew w2)(hb:b<w.heap.size):w2.cell? ⟨w.heap.size,0,none⟩=some (.string (sA sp))/\w2.cell? ⟨w.heap.size,1,none⟩=some (.int .i64 p)/\Mod b w w2:=
 ⟨(GC sp p (Zm hm) hb).1,(GC sp p (Zm hm) hb).2,((Mod.refl b w).alloc _).trans (Zm hm)⟩
theorem UD(f:FuncId)(q:Nat)(n:Nat)(req:Qa)(d:Int)(b F:Nat)(t:ByteArray)(s:PS)(c:Value)(i a pr pt pf:Nat)(w:World)(h:RC w b t s c i a)(K:YB w b a pr pt pf)(J:XO w b c req)(ab:0<=d)(hd:d<=6)(T:s.1.kind=1)(L:ZX req s.1.spelt=true)
 (D:testFn b pr pt pf s.1.spelt=some (.func (.func f) #[] #[.pointer (some ⟨q,0,none⟩)])) (aa:∀ args W,(callFunc f args).run prog W=.ok (.enter f args) W) (E:∀ f2,nL t.data.toList s.2=.error f2->Qy t.data.toList req F (n+1) s=.error f2)
 (C:∀ W y,Mod b w W->RC W b t y c i a->nL t.data.toList s.2=.ok y->Calls prog f #[.agg #[.string (sA s.1.spelt),.int .i64 s.1.pos],.int .i64 d,.pointer (some ⟨q,0,none⟩)] W (Qf (Qy t.data.toList req F (n+1) s) b t c i a w (Yj (n+1) (fromB w.heap.size)))) :
 Calls prog 222 #[.pointer (some ⟨b,0,none⟩),.map (some a),.int .i64 d] w (Qf (Qy t.data.toList req F (n+1) s) b t c i a w (Yj (n+1) (fromB w.heap.size))):=by
 have Z:=Qr h.at_;have h2:=QJ h.at_;have h3:w.cell? ⟨b,3,none⟩=some (.string (sA s.1.spelt)):=h.at_.cell 3;have p:=K.look w s.1.spelt rfl;rw[D]at p;have H:=I h;have k:=I (U5 s.1.spelt req b t s c i a w h J);rw[L]at k;have Q:=I E;have P:=I C;have U:=h.at_.lt;clear h K J D L E C;simp only[Option.getD_some,Option.isSome_some]at p;have ae:((s.1.kind:Int) != 1)=false:=by simp;omega
 clear T;go_enter func222,ntmps222;go_wp2_with fail;refine(Zv b _ _ _ rfl).mono ?_;rintro e g ⟨rfl,u⟩;subst g;go_wp2_with fail;refine(Zv b _ _ _ rfl).mono ?_;rintro e g ⟨rfl,u⟩;subst g;go_wp2_with fail;refine k.o.mono ?_;rintro e g ⟨rfl,u⟩;subst g;go_wp2_with fail;refine(Zv b _ _ _ rfl).mono ?_;rintro e g ⟨rfl,u⟩;subst g;clear k p;go_wp2_with fail;go_region
 all_goals go_wp2_with fail
 all_goals
  refine(YD b t s c i a _ ((H.o.alloc _).drew)).mono ?_;rintro e w2 (⟨y,hy,rfl,hc,hm⟩ | ⟨f2,hf2,⟨l,x,rfl,m⟩,hm⟩)
 all_goals first
  |exact⟨rfl,Qf.err (Q.o _ hf2) (((Mod.refl b w).alloc _).trans (Zm hm)) ⟨l,by simp at x;omega,rfl,m⟩⟩
  |skip
 all_goals
  obtain⟨ac,ad,r⟩:=Gv hm U;have X:=I r;have V:=I hc;have N:=I (P.o _ y r hc hy);clear hm hc hy r;go_wp2_with fail;refine N.o.mono ?_;intro e w3 A;have z:=I A;clear A;rcases z.o.cases with⟨q,v,G,rfl,M,B,j⟩ | ⟨Y,S,⟨l,x,rfl,m⟩,j⟩
 all_goals first
  |exact⟨rfl,Qf.err S j ⟨l,x,rfl,m⟩⟩
  |skip
 all_goals
  have R:=I (Qf.ok G j M B);clear G j M B z;go_wp2;go_ret;exact R.o
theorem AV(f:FuncId)(n:Nat)(req:Qa)(d:Int)(b F:Nat)(t:ByteArray)(s:PS)(c:Value)(i a pr pt pf:Nat)(w:World)(h:RC w b t s c i a)(K:YB w b a pr pt pf)(J:XO w b c req)(ab:0<=d)(hd:d<=6)(T:s.1.kind=1)(L:ZX req s.1.spelt=true)
 (D:testFn b pr pt pf s.1.spelt=some (.func (.func f) #[.pointer (some ⟨b,0,none⟩)] #[])) (aa:∀ args W,(callFunc f args).run prog W=.ok (.enter f args) W) (E:∀ f2,nL t.data.toList s.2=.error f2->Qy t.data.toList req F (n+1) s=.error f2)
 (C:∀ W y,Mod b w W->RC W b t y c i a->nL t.data.toList s.2=.ok y->Calls prog f #[.pointer (some ⟨b,0,none⟩),.agg #[.string (sA s.1.spelt),.int .i64 s.1.pos],.int .i64 d] W (Qf (Qy t.data.toList req F (n+1) s) b t c i a w (Yj (n+1) (fromB w.heap.size)))) :
 Calls prog 222 #[.pointer (some ⟨b,0,none⟩),.map (some a),.int .i64 d] w (Qf (Qy t.data.toList req F (n+1) s) b t c i a w (Yj (n+1) (fromB w.heap.size))):=by
 have Z:=Qr h.at_;have h2:=QJ h.at_;have h3:w.cell? ⟨b,3,none⟩=some (.string (sA s.1.spelt)):=h.at_.cell 3;have p:=K.look w s.1.spelt rfl;rw[D]at p;have H:=I h;have k:=I (U5 s.1.spelt req b t s c i a w h J);rw[L]at k;have Q:=I E;have P:=I C;have U:=h.at_.lt;clear h K J D L E C;simp only[Option.getD_some,Option.isSome_some]at p;have ae:((s.1.kind:Int) != 1)=false:=by simp;omega
 clear T;go_enter func222,ntmps222;go_wp2_with fail;refine(Zv b _ _ _ rfl).mono ?_;rintro e g ⟨rfl,u⟩;subst g;go_wp2_with fail;refine(Zv b _ _ _ rfl).mono ?_;rintro e g ⟨rfl,u⟩;subst g;go_wp2_with fail;refine k.o.mono ?_;rintro e g ⟨rfl,u⟩;subst g;go_wp2_with fail;refine(Zv b _ _ _ rfl).mono ?_;rintro e g ⟨rfl,u⟩;subst g;clear k p;go_wp2_with fail;go_region
 all_goals go_wp2_with fail
 all_goals
  refine(YD b t s c i a _ ((H.o.alloc _).drew)).mono ?_;rintro e w2 (⟨y,hy,rfl,hc,hm⟩ | ⟨f2,hf2,⟨l,x,rfl,m⟩,hm⟩)
 all_goals first
  |exact⟨rfl,Qf.err (Q.o _ hf2) (((Mod.refl b w).alloc _).trans (Zm hm)) ⟨l,by simp at x;omega,rfl,m⟩⟩
  |skip
 all_goals
  obtain⟨ac,ad,r⟩:=Gv hm U;have X:=I r;have V:=I hc;have N:=I (P.o _ y r hc hy);clear hm hc hy r;go_wp2_with fail;refine N.o.mono ?_;intro e w3 A;have z:=I A;clear A;rcases z.o.cases with⟨q,v,G,rfl,M,B,j⟩ | ⟨Y,S,⟨l,x,rfl,m⟩,j⟩
 all_goals first
  |exact⟨rfl,Qf.err S j ⟨l,x,rfl,m⟩⟩
  |skip
 all_goals
  have R:=I (Qf.ok G j M B);clear G j M B z;go_wp2;go_ret;exact R.o
theorem Fx:∀ z∈tNs,∀ c r,z=c::r->QL c.toNat=true:=by
 intro z a c r e;simp[tNs]at a;rcases a with h|h|h|h|h|h|h|h|h|h<;>subst h<;>cases e<;>decide
theorem If:∀ z∈tNs,z≠[]:=by decide
theorem Cy{zs:Qa}{x:L8}(h:¬ wL zs x=0):x∈zs:=by
 obtain⟨i,a⟩:∃ i,wL zs x=i+1:=⟨wL zs x - 1,by omega⟩;exact List.mem_of_getElem? (Zk zs x i a)
theorem Dc(f:¬ s.1.kind=1->Vk s.1.spelt)(h:¬ wL tNs s.1.spelt=0):s.1.kind=1:=by
 apply Classical.byContradiction;intro e;have b:=Cy h;have g:=If _ b
 cases hsp:s.1.spelt with
 |nil=>exact g hsp
 |cons c r=>
  have d:=Fx _ b c r hsp;have a:=f e c r hsp;rw[d]at a;cases a
theorem Il(q:Value)(req:Qa)(d:Int)(b:Nat)(t:ByteArray)(s:PS)(c:Value)(f a pr pt pf:Nat)(w:World)(h:RC w b t s c f a)(l:YB w b a pr pt pf)(k:XO w b c req)(A:d<=6)(u:s.1.kind=1)(i:testFn b pr pt pf s.1.spelt=some q)(m:ZX req s.1.spelt=false) :
 Calls prog 222 #[.pointer (some ⟨b,0,none⟩),.map (some a),.int .i64 d] w fun e w'=>ZS ⟨6,s.1.pos⟩ w e w'/\Mod b w w':=by
 have y:=Qr h.at_;have z:w.cell? ⟨b,3,none⟩=some (.string (sA s.1.spelt)):=h.at_.cell 3;have j:=l.look w s.1.spelt rfl;rw[i]at j;have H:=I h;have g:=I (U5 s.1.spelt req b t s c f a w h k);rw[m]at g;clear h l k i m;simp only[Option.getD_some,Option.isSome_some]at j;have B:((s.1.kind:Int) != 1)=false:=by simp;omega
 clear u;go_enter func222,ntmps222;go_wp2_with fail;refine(Zv b _ _ _ rfl).mono ?_;rintro e w' ⟨rfl,n⟩;subst w';go_wp2_with fail;refine(Zv b _ _ _ rfl).mono ?_;rintro e w' ⟨rfl,n⟩;subst w';go_wp2_with fail;refine g.o.mono ?_;rintro e w' ⟨rfl,n⟩;subst w';go_wp2_with fail;refine(XB b 6 _ _ t s.1 s.2 c f a _ H.o.at_ rfl rfl).mono ?_;rintro e C ⟨⟨p,x,rfl,r⟩,v⟩;exact⟨rfl,⟨p,x,rfl,r⟩,Mod.of_below v⟩
theorem Lp(b:Nat)(t:ByteArray)(s:PS)(m:Value)(l a pr pt pf:Nat)(w:World)(h:RC w b t s m l a)(j:YB w b a pr pt pf) :
 Calls prog 222 #[.pointer (some ⟨b,0,none⟩),.map (some a),.int .i64 7] w fun e w'=>ZS ⟨if s.1.kind=1 then 5 else 4,s.1.pos⟩ w e w'/\Mod b w w':=by
 have q:=Qr h.at_;have r:w.cell? ⟨b,3,none⟩=some (.string (sA s.1.spelt)):=h.at_.cell 3;have g:=j.look w s.1.spelt rfl;have H:=I h;by_cases hk:s.1.kind=1
 ·rw[if_pos hk];have n:((s.1.kind:Int) != 1)=false:=by simp;omega
  clear hk h j g;go_enter func222,ntmps222;go_wp2_with fail;refine(XB b 5 _ _ t s.1 s.2 m l a _ H.o.at_ rfl rfl).mono ?_;rintro e p ⟨⟨d,k,rfl,f⟩,i⟩;exact⟨rfl,⟨d,k,rfl,f⟩,Mod.of_below i⟩
 ·rw[if_neg hk]
  have c:wL tNs s.1.spelt=0:=by
   apply Classical.byContradiction;intro c;exact hk (Dc h.nm c)
  rw[B2 c]at g;have n:((s.1.kind:Int) != 1)=true:=by simp;omega
  clear hk h j c;simp only[Option.getD_none,Option.isSome_none]at g;go_enter func222,ntmps222;go_wp2_with fail;refine(Zv b _ _ _ rfl).mono ?_;rintro e w' ⟨rfl,u⟩;subst w';go_wp2_with fail;refine(XB b 4 _ _ t s.1 s.2 m l a _ H.o.at_ rfl rfl).mono ?_;rintro e p ⟨⟨d,k,rfl,f⟩,i⟩;exact⟨rfl,⟨d,k,rfl,f⟩,Mod.of_below i⟩
theorem Ma{b:Nat}{x:L8}(h:¬ wL tNs x=0):∃ fv,testFn b pr pt pf x=some fv:=by
 have c:=JP tNs x;have a:tNs.length=10:=rfl;unfold testFn;generalize wL tNs x=i at *;rcases(by omega:i=1\/i=2\/i=3\/i=4\/i=5\/i=6\/i=7\/i=8\/i=9\/i=10)with h|h|h|h|h|h|h|h|h|h<;>subst h<;>exact⟨_,rfl⟩
theorem OC(n:Nat)(req:Qa)(d:Int)(b F:Nat)(t:ByteArray)(s:PS)(g:Value)(i c pr pt pf:Nat)(w:World)(h:RC w b t s g i c)(o:YB w b c pr pt pf)(B:XO w b g req)(hF:2*t.size+1<F)(r:0<=d)(z:d<=6)(M:SubMu t.size (Qy t.data.toList req F n))(L:XV 186 w b t g i c (d+1) (Qy t.data.toList req F n) (Yj n)) :
 Calls prog 222 #[.pointer (some ⟨b,0,none⟩),.map (some c),.int .i64 d] w (Qf (Qy t.data.toList req F (n+1) s) b t g i c w (Yj (n+1) (fromB w.heap.size))):=by
 by_cases h0:wL tNs s.1.spelt=0
 ·refine(FD d b t s g i c pr pt pf w h o z h0).mono ?_;rintro e P ⟨J,K⟩;exact Qf.err (by rw[Qy,if_pos h0]) K J
 have A:=Dc h.nm h0;cases hu:ZX req s.1.spelt
 ·obtain⟨N,hf⟩:=Ma (b:=b) (pr:=pr) (pt:=pt) (pf:=pf) h0;refine(Il N req d b t s g i c pr pt pf w h o B z A hf hu).mono ?_;rintro e P ⟨J,K⟩;exact Qf.err (by rw[Qy,if_neg h0,if_neg (by rw[hu];decide)]) K J
 have R:=JP tNs s.1.spelt;have Q:tNs.length=10:=rfl;rcases(by omega:wL tNs s.1.spelt=0+1\/wL tNs s.1.spelt=1+1\/wL tNs s.1.spelt=2+1\/wL tNs s.1.spelt=3+1\/wL tNs s.1.spelt=4+1\/wL tNs s.1.spelt=5+1\/wL tNs s.1.spelt=6+1\/wL tNs s.1.spelt=7+1\/wL tNs s.1.spelt=8+1\/wL tNs s.1.spelt=9+1)with hi|hi|hi|hi|hi|hi|hi|hi|hi|hi
 ·refine UD 185 pt n req d b F t s g i c pr pt pf w h o B r z A hu (by unfold testFn;rw[hi];rfl) (fun _ _=>by kernel_rfl) (fun C l=>JK hi hu l) (fun W y HM j p=>?_);have m:s.1.spelt=KF:=by have:=Zk _ _ _ hi;simpa[tNs]using this.symm
  have HE:=JH (F:=F) (n:=n) hi hu p;refine(Ck s.1.spelt s.1.pos d pt true _ (o.mod HM).hpt).mono ?_;intro e D h3';obtain⟨rfl,E⟩:=h3';exact Qf.ok (HE.trans (Mk _ _ _ _ _)) (HM.trans (Mod.of_below E)) ⟨rfl,by rw[m]⟩ (j.below E)
 ·refine UD 185 pf n req d b F t s g i c pr pt pf w h o B r z A hu (by unfold testFn;rw[hi];rfl) (fun _ _=>by kernel_rfl) (fun C l=>JK hi hu l) (fun W y HM j p=>?_);have m:s.1.spelt=KD:=by have:=Zk _ _ _ hi;simpa[tNs]using this.symm
  have HE:=JH (F:=F) (n:=n) hi hu p;refine(Ck s.1.spelt s.1.pos d pf false _ (o.mod HM).hpf).mono ?_;intro e D h3';obtain⟨rfl,E⟩:=h3';exact Qf.ok (HE.trans (Mt _ _ _ _ _)) (HM.trans (Mod.of_below E)) ⟨rfl,by rw[m]⟩ (j.below E)
 ·refine AV 128 n req d b F t s g i c pr pt pf w h o B r z A hu (by unfold testFn;rw[hi];rfl) (fun _ _=>by kernel_rfl) (fun C l=>JK hi hu l) (fun W y HM j p=>?_);have m:s.1.spelt=KS:=by have:=Zk _ _ _ hi;simpa[tNs]using this.symm
  have HE:=JH (F:=F) (n:=n) hi hu p;refine(Tm (Qy t.data.toList req F n) (Yj n) s.1.spelt s.1.pos d b t y g i c _ j r (by omega) (Y3 n) (L.mod HM)).mono ?_;intro e D h3';exact Qf.lift (fun a=>((⟨2,s.1.pos,0,false,[],[],0⟩:ZV),[a])) h3' HM (fun q hq=>HE.trans ((CX _ _ _ _ _).trans (QD hq))) (fun f hf=>HE.trans ((CX _ _ _ _ _).trans (Q6 hf))) (fun a v _ hv=>by obtain⟨u,rfl,hu⟩:=hv;exact⟨a.1,u,rfl,by rw[m],(Y3 n).weak _ _ _ _ _ hu (fun k hk _=>Qs HM.size hk)⟩)
 ·refine UD 129 pr n req d b F t s g i c pr pt pf w h o B r z A hu (by unfold testFn;rw[hi];rfl) (fun _ _=>by kernel_rfl) (fun C l=>JK hi hu l) (fun W y HM j p=>?_);have m:s.1.spelt=Kx:=by have:=Zk _ _ _ hi;simpa[tNs]using this.symm
  have HE:=JH (F:=F) (n:=n) hi hu p;refine(P5 (Qy t.data.toList req F n) (Yj n) s.1.spelt s.1.pos d pr b F t y g i c _ j (o.mod HM).hpr hF r (by omega) (Y3 n) M (L.mod HM)).mono ?_;intro e D h3';exact Qf.lift (fun H=>((⟨3,s.1.pos,0,false,[],[],0⟩:ZV),H)) h3' HM (fun q hq=>HE.trans ((Co _ _ _ _ _).trans (QD hq))) (fun f hf=>HE.trans ((Co _ _ _ _ _).trans (Q6 hf))) (fun a v _ hv=>by obtain⟨u,rfl,hu,G⟩:=hv;exact⟨u,by rw[m],trX.weak (Y3 n) G hu (fun k hk _=>Qs HM.size hk),G⟩)
 ·refine UD 131 pr n req d b F t s g i c pr pt pf w h o B r z A hu (by unfold testFn;rw[hi];rfl) (fun _ _=>by kernel_rfl) (fun C l=>JK hi hu l) (fun W y HM j p=>?_);have m:s.1.spelt=Kz:=by have:=Zk _ _ _ hi;simpa[tNs]using this.symm
  have HE:=JH (F:=F) (n:=n) hi hu p;refine(Pn (Qy t.data.toList req F n) (Yj n) s.1.spelt s.1.pos d pr b F t y g i c _ j (o.mod HM).hpr hF r (by omega) (Y3 n) M (L.mod HM)).mono ?_;intro e D h3';exact Qf.lift (fun H=>((⟨4,s.1.pos,0,false,[],[],0⟩:ZV),H)) h3' HM (fun q hq=>HE.trans ((CP _ _ _ _ _).trans (QD hq))) (fun f hf=>HE.trans ((CP _ _ _ _ _).trans (Q6 hf))) (fun a v _ hv=>by obtain⟨u,rfl,hu,G⟩:=hv;exact⟨u,by rw[m],trX.weak (Y3 n) G hu (fun k hk _=>Qs HM.size hk),G⟩)
 ·refine UD 132 pr n req d b F t s g i c pr pt pf w h o B r z A hu (by unfold testFn;rw[hi];rfl) (fun _ _=>by kernel_rfl) (fun C l=>JK hi hu l) (fun W y HM j p=>?_);have m:s.1.spelt=JR:=by have:=Zk _ _ _ hi;simpa[tNs]using this.symm
  have HE:=JH (F:=F) (n:=n) hi hu p;refine(Oi s.1.spelt s.1.pos d pr b F t y g i c _ j (o.mod HM).hpr hF).mono ?_;intro e D h3'
  exact Qf.lift (fun x=>(x,[])) h3' HM (fun q hq=>HE.trans ((Ce _ _ _ _ _).trans (QD hq))) (fun f hf=>HE.trans ((Ce _ _ _ _ _).trans (Q6 hf))) (fun a v ha hv=>by
   obtain⟨u,rfl,hu⟩:=hv;rw[m]at hu;show Yc _ _ _ _ _
   unfold Yc;rw[(N0 ha).1]
   exact ⟨rfl,u,rfl,hu.toX.weak (fun k hk _=>Qs HM.size hk)⟩)
 ·refine UD 135 pr n req d b F t s g i c pr pt pf w h o B r z A hu (by unfold testFn;rw[hi];rfl) (fun _ _=>by kernel_rfl) (fun C l=>JK hi hu l) (fun W y HM j p=>?_);have m:s.1.spelt=QX:=by have:=Zk _ _ _ hi;simpa[tNs]using this.symm
  have HE:=JH (F:=F) (n:=n) hi hu p;refine(IZ s.1.spelt s.1.pos d pr b F t y g i c _ j (o.mod HM).hpr hF).mono ?_;intro e D h3'
  exact Qf.lift (fun x=>(x,[])) h3' HM (fun q hq=>HE.trans ((CJ _ _ _ _ _).trans (QD hq))) (fun f hf=>HE.trans ((CJ _ _ _ _ _).trans (Q6 hf))) (fun a v ha hv=>by
   obtain⟨u,rfl,hu⟩:=hv;rw[m]at hu;show Yc _ _ _ _ _
   unfold Yc;rw[(N0 ha).1]
   exact ⟨rfl,u,rfl,hu.toX.weak (fun k hk _=>Qs HM.size hk)⟩)
 ·refine UD 138 pr n req d b F t s g i c pr pt pf w h o B r z A hu (by unfold testFn;rw[hi];rfl) (fun _ _=>by kernel_rfl) (fun C l=>JK hi hu l) (fun W y HM j p=>?_);have m:s.1.spelt=Z4:=by have:=Zk _ _ _ hi;simpa[tNs]using this.symm
  have HE:=JH (F:=F) (n:=n) hi hu p;refine(LG s.1.spelt s.1.pos d pr b F t y g i c _ j (o.mod HM).hpr hF).mono ?_;intro e D h3'
  exact Qf.lift (fun x=>(x,[])) h3' HM (fun q hq=>HE.trans ((CC _ _ _ _ _).trans (QD hq))) (fun f hf=>HE.trans ((CC _ _ _ _ _).trans (Q6 hf))) (fun a v ha hv=>by
   obtain⟨u,rfl,hu⟩:=hv;rw[m]at hu;show Yc _ _ _ _ _
   unfold Yc;rw[(N0 ha).1]
   exact ⟨rfl,u,rfl,hu.toX.weak (fun k hk _=>Qs HM.size hk)⟩)
 ·refine AV 139 n req d b F t s g i c pr pt pf w h o B r z A hu (by unfold testFn;rw[hi];rfl) (fun _ _=>by kernel_rfl) (fun C l=>JK hi hu l) (fun W y HM j p=>?_);have m:s.1.spelt=Kw:=by have:=Zk _ _ _ hi;simpa[tNs]using this.symm
  have HE:=JH (F:=F) (n:=n) hi hu p;refine(MT s.1.spelt s.1.pos d b F t y g i c _ j hF).mono ?_;intro e D h3';exact Qf.lift (fun H=>((⟨8,s.1.pos,0,false,H,[],0⟩:ZV),[])) h3' HM (fun q hq=>HE.trans ((CQ _ _ _ _ _).trans (QD hq))) (fun f hf=>HE.trans ((CQ _ _ _ _ _).trans (Q6 hf))) (fun a v _ hv=>by obtain⟨u,rfl,hu⟩:=hv;exact⟨rfl,u,by rw[m],hu.toX.weak (fun k hk _=>Qs HM.size hk)⟩)
 ·refine AV 140 n req d b F t s g i c pr pt pf w h o B r z A hu (by unfold testFn;rw[hi];rfl) (fun _ _=>by kernel_rfl) (fun C l=>JK hi hu l) (fun W y HM j p=>?_);have m:s.1.spelt=KI:=by have:=Zk _ _ _ hi;simpa[tNs]using this.symm
  have HE:=JH (F:=F) (n:=n) hi hu p;refine(R8 s.1.spelt s.1.pos d b t y g i c _ j).mono ?_;intro e D h3'
  exact Qf.lift (fun x=>(x,[])) h3' HM (fun q hq=>HE.trans ((Cl _ _ _ _ _).trans (QD hq))) (fun f hf=>HE.trans ((Cl _ _ _ _ _).trans (Q6 hf))) (fun a v ha hv=>by
   rw[m]at hv;show Yc _ _ _ _ _
   unfold Yc;rw[(CU ha).1];refine⟨rfl,?_⟩
   rw [hv,(CU ha).2])
theorem C1(r:Qb (α×PS))(n:α->World->Value->Prop)(d:Int)(b:Nat)(t:ByteArray)(s:PS)(g:Value)(f a:Nat)(w:World)(h:RC w b t s g f a)
 (j:Calls prog 222 #[.pointer (some ⟨b,0,none⟩),.map (some a),.int .i64 d] w (Qf r b t g f a w n)) :
 Calls prog 186 #[.pointer (some ⟨b,0,none⟩),.int .i64 d] w (Qf r b t g f a w n):=by
 have C:=Jk h.at_;have p:=I j;clear j h;go_enter func186,ntmps186;go_wp2_with fail;refine p.o.mono ?_;intro e D i;rcases i.cases with⟨q,v,l,rfl,m,k,c⟩ | ⟨B,z,⟨x,A,rfl,y⟩,c⟩
 ·have u:=I (Qf.ok l c m k);clear i l c m k;go_wp2;go_ret;exact u.o
 ·exact⟨rfl,Qf.err z c ⟨x,A,rfl,y⟩⟩
theorem DW(req:Qa)(b F:Nat)(t:ByteArray)(c:Value)(d a pr pt pf:Nat)(hF:2*t.size+1<F)(f:∀ n,SubMu t.size (Qy t.data.toList req F n)) :
 ∀(n:Nat),n<=7->∀(w:World),YB w b a pr pt pf->XO w b c req->XV 186 w b t c d a (7 - (n:Int)) (Qy t.data.toList req F n) (Yj n)
 |0,_,w,ht,hr=>fun W s hm hc=>by
  refine C1 _ _ _ b t s c d a W hc ?_;refine(Lp b t s c d a pr pt pf W hc (ht.mod hm)).mono ?_;rintro e k ⟨g,i⟩;refine Qf.err ?_ i g;rw[Qy];split<;>rfl
 |n+1,hn,w,ht,hr=>fun W s hm hc=>by
  refine C1 _ _ _ b t s c d a W hc ?_;have j:=DW req b F t c d a pr pt pf hF f n (by omega) W (ht.mod hm) (hr.mod hm);have e:(7:Int) - ((n+1:Nat):Int)+1=7 - (n:Int):=by omega
  exact OC n req _ b F t s c d a pr pt pf W hc (ht.mod hm) (hr.mod hm) hF (by omega) (by omega) (f n) (by rw[e];exact j)
theorem T9(t:ByteArray)(req:Qa)(F n:Nat):SubMu t.size (Qy t.data.toList req F n):=fun s y h1 h2 e=>by
 have:=(Va n s ⟨by simpa using h1,h2⟩ y e).2;rw[bal]at this;omega
theorem E0(t:ByteArray)(req:Qa)(F n:Nat):SubMu t.size (QG t.data.toList req F n):=fun s y h1 h2 e=>by
 have:=(UJ n s ⟨by simpa using h1,h2⟩ y e).2;rw[bal]at this;omega
theorem To(req:Qa)(b F:Nat)(t:ByteArray)(rv:Value)(mc mt pr pt pf:Nat)(hF:2*t.size+1<F)(n:Nat)(hn:n<=7)(w:World)(ht:YB w b mt pr pt pf)(hr:XO w b rv req) :
 XV 186 w b t rv mc mt (7 - (n:Int)) (Qy t.data.toList req F n) (Yj n):=
 DW req b F t rv mc mt pr pt pf hF (T9 t req F) n hn w ht hr
def Vb{α β:Type}(l:L8)(F:Nat)(tst:PS->Qb (β×PS))(sub:PS->Qb (α×PS))(s:PS):Qb ((List (β×List α)×Bool×List α)×PS):=
 Qo (armL l F tst sub s) fun a s1=>Qo (Z9 l F tst sub F [a] s1) fun arms s2=>Qo (mayL l [Yk] s2) fun i s3=>
  if i=0 then .ok ((arms,false,[]),s3)else Qo (blockL l F sub s3) fun cs s4=>.ok ((arms,true,cs),s4)
abbrev Bl(hw:L8)(hp:Nat)(av:Value):Obj:=.cells #[.string (sA hw),.int .i64 hp,av,.bool false,.slice none 0 0] 261
abbrev Jb:Obj:=.cells #[.string ⟨#[]⟩,.int .i64 0,.slice none 0 0,.bool false,.slice none 0 0] 261
theorem Tryz.infoArm:(prog.info? 298).map (fun i=>(i.zero,i.size,i.bytes))=some (some (.agg #[.nilIface,.slice none 0 0]),2,40):=by kernel_rfl
theorem Hk(w:World)(x y:Value)(t:TypeId):∀ j u,[x,y][j]?=some u->(w.alloc (.cells #[x,y] t)).cell? ((⟨w.heap.size,0,none⟩:Addr).add j)=some u:=by
 intro j u a
 match j,a with
 |0,a=>simp at a;subst a;simp[Addr.add]
 |1,a=>simp at a;subst a;simp[Addr.add]
theorem Tn{b:(Nat->Prop)->β->World->Value->Prop}(j:TreeP b){a:β×List α}{d:Value}(g:b X a.1 w u)(i:blX Y f a.2 w d):∀ x∈[u,d],x.oneCell'=true:=by
 obtain⟨k,x,rfl⟩:=j.form _ _ _ _ g;obtain⟨a,n,c,rfl⟩:=i.form;intro x e;simp at e;rcases e with rfl|rfl<;>rfl
theorem O1{l:(Nat->Prop)->β->World->Value->Prop}{m:(Nat->Prop)->α->World->Value->Prop}(y:TreeP l)(z:TreeP m){b g p f q:Nat}{F:Value}{D E:Nat}{d i:World}{r:Obj}{a:β×List α}{c:Value}{x:List Value}
 (J:ZW l m base T d (.slice (some ⟨g,0,none⟩) n p) a u c) (L:XW (fun a u c=>ZW l m base T d (.slice (some ⟨g,0,none⟩) n p) a u c) acc x) (A:d.heap[T]?=some o) (G:RC d b t s F D E) (K:Mod b w d) (S:i.ownsRow base e 2 (.slice (some ⟨f,0,none⟩) (n+1) q) (n+1) (x++[u,c])) (j:(d.alloc r).grownBy i (some g)) (B:(Value.slice (some ⟨g,0,none⟩) n p).ownBlock=some f\/f=(d.alloc r).heap.size) (Q:w.heap.size<=T) (N:¬ T=b) (H:g≠T) (R:b<base/\base<=g/\base=w.heap.size) :
 i.heap[T]?=some o/\RC i b t s F D E/\Mod b w i/\f≠T/\XW (fun a u c=>ZW l m base T i (.slice (some ⟨f,0,none⟩) (n+1) q) a u c) (acc++[a]) (x++[u,c]):=by
 have P:=Qg A
 have C:(Value.slice (some ⟨f,0,none⟩) (n+1) q).ownBlock=(Value.slice (some ⟨g,0,none⟩) n p).ownBlock\/(Value.slice (some ⟨f,0,none⟩) (n+1) q).ownBlock=some (d.heap.size+1):=by
  rcases B with h|h
  ·left;rw[h];rfl
  ·right;rw[h];simp[Value.ownBlock]
 refine⟨?_,(G.alloc r).grown j (fun k v=>by cases v;omega),(K.alloc r).grown j (fun k v=>by cases v;omega),?_,?_⟩
 ·rw[j.block T (by simp;omega) (fun h=>H (by cases h;rfl))];exact Qn A
 ·rcases B with h|h
  ·simp[Value.ownBlock]at h;omega
  ·simp at h;omega
 ·exact XW.snoc (J.grown y z j C) (L.imp (fun a u c M=>M.grown y z j C))
def Vn{α β:Type}(l:L8)(F:Nat)(sub:PS->Qb (α×PS))(arms:List (β×List α))(s2:PS):Qb ((List (β×List α)×Bool×List α)×PS):=
 Qo (mayL l [Yk] s2) fun i s3=>if i=0 then .ok ((arms,false,[]),s3)else Qo (blockL l F sub s3) fun cs s4=>.ok ((arms,true,cs),s4)
theorem U4(h:armL l F tst sub s=.ok y):Vb l F tst sub s=Qo (Z9 l F tst sub F [y.1] y.2) (Vn l F sub):=QD h
theorem ZW.first{b:(Nat->Prop)->β->World->Value->Prop}{c:(Nat->Prop)->α->World->Value->Prop}(i:TreeP b)(j:TreeP c){a:β×List α}{d:Value}(h:b (fromB B) a.1 w u)(e:blX (fromB B) c a.2 w d)(f:base<=B)(l:∀ g,v.ownBlock=some g->w.heap.size<=g)(m:T<B\/w.heap.size<=T):ZW b c base T w v a u d:=
 ⟨fun k=>B<=k/\k<w.heap.size,i.weak _ _ _ _ _ h (fun k hk hz=>⟨hk,hz⟩),e.weak j (fun k hk hz=>⟨hk,hz⟩),fun k hk=>⟨Qs f hk.1,hk.2⟩,fun g hg hX=>by have:=l g hg;omega,fun hX=>by omega⟩
theorem I6{g:Nat}{cs:Array Value}(h:w.heap[g]?=some (.cells cs e))(hb:base<=g)(hm:n<=maxLen)(hs:cs.size=n*size):w.ownsRow base e size (.slice (some ⟨g,0,none⟩) n n) n cs.toList:=
 ⟨by simpa using hs,.inr ⟨g,n,cs,rfl,hb,h,Nat.le_refl _,hm,hs,List.take_of_length_le (by rw[Array.length_toList,hs];exact Ql)⟩⟩
theorem Ct{o:Nat}{x:Value}{xs:List Value}(h:w.ownsRow base e size v n xs)(i:∀ g,v.ownBlock=some g->g≠T):(w.setCell ⟨T,o,none⟩ x).ownsRow base e size v n xs:=by
 obtain⟨f,a⟩:=h;refine⟨f,?_⟩;rcases a with a | ⟨g,c,d,b,j,k,r⟩
 ·exact Qd a
 ·exact Qc ⟨g,c,d,b,j,by rw[QK (show g≠T from i g (by rw[b];rfl))];exact k,r⟩
theorem PY:∀ z∈([Yi]:Qa),z≠[]:=by decide
theorem Wq(d:∀ s,Gd t.data.toList s->Dn 1 t.data.toList (tst s) s)(c:∀ s,Gd t.data.toList s->Dn 1 t.data.toList (sub s) s)(a:s.2<=t.size)(b:s.1.kind=0->s.1.spelt=[])(e:armL t.data.toList F tst sub s=.ok y):mu t.size y.2<mu t.size s:=by
 have:=(Ba d c ⟨by simpa using a,b⟩ y e).2;rw[bal]at this;omega
theorem MP(tst:PS->Qb (β×PS))(X:(Nat->Prop)->β->World->Value->Prop)(sub:PS->Qb (α×PS))(P:(Nat->Prop)->α->World->Value->Prop)(L:L8)(K:Nat)(d:Int)(b F:Nat)(t:ByteArray)(s:PS)(J:Value)(D E:Nat)(w:World)(h:RC w b t s J D E)(hF:2*t.size+1<F)(bd:0<=d)(bf:d<=100)(a3:TreeP X)(a4:TreeP P)(hS:SubMu t.size sub)(bh:∀ s,Gd t.data.toList s->Dn 1 t.data.toList (tst s) s)(bg:∀ s,Gd t.data.toList s->Dn 1 t.data.toList (sub s) s)(bl:XV 186 w b t J D E (d+1) tst X)(bm:XV 143 w b t J D E (d+1) sub P) :
 Calls prog 126 #[.pointer (some ⟨b,0,none⟩),ZE L K,.int .i64 d] w (Qf (Vb t.data.toList F tst sub s) b t J D E w (fun x w' v=>∃ av ev,v=.iface 261 (.agg #[.string (sA L),.int .i64 K,av,.bool x.2.1,ev])/\Yy (fromB w.heap.size) X P x.1 w' av/\x.1≠[]/\blX (fromB w.heap.size) P x.2.2 w' ev)):=by
 have H:=I h;have aY:=I bl;have aE:=I bm;have j:=I a3;have i:=I a4;have aH:=I hS;have cc:=h.at_.lt;clear h bl bm a3 a4 hS;unfold ZE;obtain⟨i0,hi,b2,b3,b4⟩:=info_parts Tryz.infoArm;go_enter func126,ntmps126;go_upto_region 1 with fail
 have bZ:¬ w.heap.size=b:=by omega
 have b0:¬ w.heap.size+1=b:=by omega
 go_cut [7] (fun v wc=>∃(T G:Nat) (y:(β×List α)×PS) (u p:Value),v=.pointer (some ⟨T,0,none⟩)/\armL t.data.toList F tst sub s=.ok y/\RC wc b t y.2 J D E/\Mod b w wc/\w.heap.size<=T/\w.heap.size<=G/\T≠G/\wc.heap[T]?=some (Bl L K (.slice (some ⟨G,0,none⟩) 1 1))/\wc.heap[G]?=some (.cells #[u,p] 298)/\ZW X P w.heap.size T wc (.slice (some ⟨G,0,none⟩) 1 1) y.1 u p)
 case first=>
  go_region_with (go_at_call 183;refine(Es tst X sub P d b F t s J D E _ (by first|exact(H.o.alloc _).drew|exact((H.o.alloc _).alloc _).drew) hF bd bf j.o i.o aH.o (aY.o.mod (by first|exact((Mod.refl b w).alloc _).drew|exact(((Mod.refl b w).alloc _).alloc _).drew)) (aE.o.mod (by first|exact((Mod.refl b w).alloc _).drew|exact(((Mod.refl b w).alloc _).alloc _).drew))).mono ?_;intro e c h1;rcases h1.cases with⟨y,v,hy,rfl,hv,hc,C⟩ | ⟨f,hf,⟨S,W,rfl,U⟩,C⟩;rotate_left;exact⟨rfl,Qf.err (Q6 hf) (by first|exact((Mod.refl b w).alloc _).trans (Zm C)|exact(((Mod.refl b w).alloc _).alloc _).trans (Zm C)) ⟨S,by simp at W;omega,rfl,U⟩⟩;obtain⟨u,p,rfl,Q,a7⟩:=hv;have b6:=C.size;simp at b6;have bu:w.heap.size<c.heap.size:=(by omega);have aM:=QA (g:=w.heap.size) (o:=.cells #[.string (sA L),.int .i64 K] 216) (by first|exact QC _ _|exact Qn (QC _ _)) (Zm C) bZ;have bU:=Qk aM;have bW:=Qr aM;clear aM;have bV:∀ o,(c.alloc o).cell? ⟨w.heap.size,0,none⟩=some (.string (sA L)):=(fun o=>by rw[World.cell?_alloc_past _ _ _ bu];exact bU);have bX:∀ o,(c.alloc o).cell? ⟨w.heap.size,1,none⟩=some (.int .i64 K):=(fun o=>by rw[World.cell?_alloc_past _ _ _ bu];exact bW);have ca:∀ o o',((c.alloc o).alloc o').cell? ⟨w.heap.size,0,none⟩=some (.string (sA L)):=(fun o o'=>by rw[World.cell?_alloc_past _ _ _ (by simp;omega)];exact bV o);have cb:∀ o o',((c.alloc o).alloc o').cell? ⟨w.heap.size,1,none⟩=some (.int .i64 K):=(fun o o'=>by rw[World.cell?_alloc_past _ _ _ (by simp;omega)];exact bX o);(first|(have tb:=QA (g:=w.heap.size+1) (o:=Jb) (Q5 (by simp)) (Zm C) b0;have t0:∀ o,(c.alloc o).cell? ⟨w.heap.size+1,0,none⟩=some (.string ⟨#[]⟩):=(fun o=>Qi (Qn tb) 0);have t1:∀ o,(c.alloc o).cell? ⟨w.heap.size+1,1,none⟩=some (.int .i64 0):=(fun o=>Qi (Qn tb) 1);have t2:∀ o,(c.alloc o).cell? ⟨w.heap.size+1,2,none⟩=some (.slice none 0 0):=(fun o=>Qi (Qn tb) 2);have t3:∀ o,(c.alloc o).cell? ⟨w.heap.size+1,3,none⟩=some (.bool false):=(fun o=>Qi (Qn tb) 3);have t4:∀ o,(c.alloc o).cell? ⟨w.heap.size+1,4,none⟩=some (.slice none 0 0):=(fun o=>Qi (Qn tb) 4);have tf:=(fun o=>Qu (Qn (o':=o) tb));have TB:=I tb;clear tb)|(have t0:∀ o,((c.alloc Jb).alloc o).cell? ⟨c.heap.size,0,none⟩=some (.string ⟨#[]⟩):=(fun o=>Qi (Qn (QC c Jb)) 0);have t1:∀ o,((c.alloc Jb).alloc o).cell? ⟨c.heap.size,1,none⟩=some (.int .i64 0):=(fun o=>Qi (Qn (QC c Jb)) 1);have t2:∀ o,((c.alloc Jb).alloc o).cell? ⟨c.heap.size,2,none⟩=some (.slice none 0 0):=(fun o=>Qi (Qn (QC c Jb)) 2);have t3:∀ o,((c.alloc Jb).alloc o).cell? ⟨c.heap.size,3,none⟩=some (.bool false):=(fun o=>Qi (Qn (QC c Jb)) 3);have t4:∀ o,((c.alloc Jb).alloc o).cell? ⟨c.heap.size,4,none⟩=some (.slice none 0 0):=(fun o=>Qi (Qn (QC c Jb)) 4);have tf:=(fun o=>Qu (Qn (o':=o) (QC c Jb)))));have N:=I hy;have HC:=I hc;have HU:=I Q;have aC:=I a7;have aD:Hid (Mod b w c):=(by first|exact((Mod.refl b w).alloc _).trans (Zm C)|exact(((Mod.refl b w).alloc _).alloc _).trans (Zm C));clear h1 hy hc C Q a7;skip)
  all_goals (go_wp2_with fail;go_meet)
  all_goals first
   |(have b7:=TB;exact⟨w.heap.size+1,c.heap.size,y,u,p,rfl,N.o,(((((HC.o.alloc _).setNew (by omega) _ _).setNew (by omega) _ _).setNew (by omega) _ _).setNew (by omega) _ _).setNew (by omega) _ _,(((((aD.o.alloc _).setNew (by omega) _ _).setNew (by omega) _ _).setNew (by omega) _ _).setNew (by omega) _ _).setNew (by omega) _ _,by omega,by omega,by omega,Qt _ _ _ _ _ _ (Qt _ _ _ _ _ _ (Qt _ _ _ _ _ _ (Qt _ _ _ _ _ _ (Qt _ _ _ _ _ _ (Qn TB.o))))),by rw[QK (show c.heap.size≠w.heap.size+1 by omega),QK (show c.heap.size≠w.heap.size+1 by omega),QK (show c.heap.size≠w.heap.size+1 by omega),QK (show c.heap.size≠w.heap.size+1 by omega),QK (show c.heap.size≠w.heap.size+1 by omega)];exact QC _ _,((((((ZW.first j.o i.o HU.o aC.o (by simp;omega) (fun g hg=>by simp[Value.ownBlock]at hg;omega) (by simp)).mod j.o i.o ((Mod.refl b c).alloc _) (by omega)).set j.o i.o _ _).set j.o i.o _ _).set j.o i.o _ _).set j.o i.o _ _).set j.o i.o _ _⟩)
   |exact⟨c.heap.size+1,c.heap.size,y,u,p,rfl,N.o,(HC.o.alloc _).alloc _,(aD.o.alloc _).alloc _,by omega,by omega,by omega,Q5 (by simp),Qn (QC _ _),((ZW.first j.o i.o HU.o aC.o (by simp) (fun g hg=>by simp[Value.ownBlock]at hg;omega) (Qc (by omega))).mod j.o i.o ((Mod.refl b c).alloc _) (by omega)).mod j.o i.o ((Mod.refl b _).alloc _) (by omega)⟩
   |exact⟨c.heap.size,c.heap.size+1,y,u,p,rfl,N.o,(HC.o.alloc _).alloc _,(aD.o.alloc _).alloc _,by omega,by omega,by omega,Qn (QC _ _),Q5 (by simp),((ZW.first j.o i.o HU.o aC.o (by simp) (fun g hg=>by simp[Value.ownBlock]at hg;omega) (Qc (by omega))).mod j.o i.o ((Mod.refl b c).alloc _) (by omega)).mod j.o i.o ((Mod.refl b _).alloc _) (by omega)⟩
 case rest=>
  obtain⟨T,G,y,u,p,rfl,hy,hc,C,hT,hG,bO,ag,a6,bi⟩:=hcut;have N:=I hy;have HC:=I hc;have HM:=I C;have aV:=I ag;have aU:=I a6;have aW:=I bi;have bB:=I bh;have bA:=I bg;have aj:¬ T=b:=by omega
  have bY:=hc.mu_le;have bk:=hc.mu_lt hF;clear hy hc C ag a6 bi bh bg;go_wp2_with fail
  go_loopw [] (fun wr=>∃(M:PS) (m:List (β×List α)) (vs:List Value) (f g q:Nat),wr.ownsRow w.heap.size 298 2 (.slice (some ⟨g,0,none⟩) m.length q) m.length vs/\XW (fun a u p=>ZW X P w.heap.size T wr (.slice (some ⟨g,0,none⟩) m.length q) a u p) m vs/\m≠[]/\g≠T/\wr.heap[T]?=some (Bl L K (.slice (some ⟨g,0,none⟩) m.length q))/\RC wr b t M J D E/\Mod b w wr/\mu t.size M<f/\m.length+mu t.size M<=1300/\Qo (Z9 t.data.toList F tst sub F [y.1] y.2) (Vn t.data.toList F sub)=Qo (Z9 t.data.toList F tst sub f m M) (Vn t.data.toList F sub)) (fun wr=>muW wr b t.size)
  case atStart=>
   exact⟨y.2,[y.1],[u,p],F,G,1,I6 (n:=1) aU.o hG (by unfold maxLen;omega) rfl,⟨aW.o,trivial⟩,by simp,fun e=>bO e.symm,aV.o,HC.o,HM.o,bk,by simp;omega,rfl⟩
  case round=>
   obtain⟨M,m,vs,f,g,q,aP,bp,ap,bS,ag,bo,aN,hf,b9,bq⟩:=hrel;obtain⟨f,rfl⟩:∃ g,f=g+1:=⟨f - 1,by omega⟩;have HR:=I bo;have aX:=I aN;have ab:=I bq;have bT:w.heap.size<=g:=(aP.lt g rfl).1;have bH:=I aP;have bJ:=I bp;have bx:=I ag;have cf:w.heap.size<=wr.heap.size:=aN.size;have b8:=Qg ag;clear bo aN bq aP bp ag HC aV aU aW bY bk;go_wp2_with fail;refine(Vd b wr.heap.size 1 1 [Yi] t M J D E _ (HR.o.alloc _) (X8 wr [Yi] _ _ rfl) rfl (by decide)).mono ?_;intro e w3 h3;rcases h3.cases with⟨y3,v3,aS,rfl,br,a8,az⟩ | ⟨f3,bP,⟨S,W,rfl,U⟩,az⟩
   rotate_left
   ·exact⟨rfl,Qf.err ((U4 N.o).trans (ab.o.trans (Q6 (Fq bP)))) ((aX.o.alloc _).trans az) ⟨S,by simp at W;omega,rfl,U⟩⟩
   have aO:=V2 (l:=t.data.toList) (by simpa using HR.o.le) HR.o.e0 PY aS;rw[bal]at aO;replace aO:=aO.1;have Z:=((Mod.refl b wr).alloc (.cells #[.string (sA Yi)] 9)).trans az;have R:=I (aX.o.trans Z);have ae:=I aS;have aw:=I a8;have aF:=I (ZP (b:=b) bH.o Z (by omega));have aZ:=I (bJ.o.imp (fun a u p Q=>ZW.mod j.o i.o (b:=b) (w':=w3) Q Z (by omega)));have au:=I (QA bx.o Z aj);have b5:=Qg au.o;unfold XG at br;subst br;clear h3 aS a8 az Z;by_cases h1:y3.1=0
   ·have bM:¬(0:Int)<(y3.1:Int):=by omega
    have H1:=I h1;clear h1;go_wp2_with fail;have HP:=I (Vd b w3.heap.size 1 1 [Yk] t y3.2 J D E _ (aw.o.alloc (.cells (Qv [Yk]).toArray 9)) (Y2 _ _ rfl) rfl (by decide));refine HP.o.mono ?_;intro e z h4;rcases h4.cases with⟨y4,v4,aq,rfl,aA,ak,V⟩ | ⟨f4,aL,⟨S,W,rfl,U⟩,V⟩
    rotate_left
    ·exact⟨rfl,Qf.err ((U4 N.o).trans (ab.o.trans ((QD (Gz ae.o H1.o)).trans (Q6 aL)))) ((R.o.alloc _).trans V) ⟨S,Qs (R.o.alloc _).size W,rfl,U⟩⟩
    have aa:=((Mod.refl b w3).alloc (.cells (Qv [Yk]).toArray 9)).trans V;have ai:=I (R.o.trans aa);have af:=I aq;have ax:=I ak;have aG:=I (ZP (b:=b) aF.o aa (by omega));have aI:=I (aZ.o.imp (fun a u p Q=>ZW.mod j.o i.o (b:=b) (w':=z) Q aa (by omega)));have B:=I (QA au.o aa aj);have aT:=I (Yy.of_owns j.o i.o aG.o rfl ap (fun Y bR=>by simp[Value.ownBlock]at bR;omega) aI.o);have q0:=Qk B.o;have q1:=Qr B.o;have q2:=QJ B.o;have q3:=QR B.o;have q4:=QV B.o;have tf:=Qu B.o;have bt:=Qg B.o;unfold XG at aA;subst aA;clear h4 aq ak V aa HP;by_cases h2:y4.1=0
    ·have bN:¬(0:Int)<(y4.1:Int):=by omega
     have H2:=I h2;clear h2;go_wp2;go_ret;exact Qf.ok ((U4 N.o).trans (ab.o.trans ((QD (Gz ae.o H1.o)).trans ((QD af.o).trans (if_pos H2.o))))) ai.o ⟨_,_,rfl,Yy.weak j.o i.o ap aT.o (fun k hk _=>hk.1),ap,Qd ⟨rfl,rfl⟩⟩ ax.o
    have bN:(0:Int)<(y4.1:Int):=by omega
    have H2:=I h2;clear h2;go_wp2_with fail;have ay:=I (ai.o.setNew hT 3 (.bool true));refine(DB sub P (d+1) b F t y4.2 J D E _ (ax.o.setNew (by omega) 3 (.bool true)) hF i.o aH.o (aE.o.mod ay.o)).mono ?_;intro e A h5;rcases h5.cases with⟨y5,v5,bs,rfl,aB,a9,ah⟩ | ⟨f5,bQ,⟨S,W,rfl,U⟩,ah⟩
    rotate_left
    ·exact⟨rfl,Qf.err ((U4 N.o).trans (ab.o.trans ((QD (Gz ae.o H1.o)).trans ((QD af.o).trans ((if_neg H2.o).trans (Q6 bQ)))))) (ay.o.trans ah) ⟨S,Qs ay.o.size W,rfl,U⟩⟩
    have b1:(z.setCell ⟨T,3,none⟩ (.bool true)).heap.size=z.heap.size:=by simp[World.setCell]
    rw[b1]at aB;have bK:=I aB;obtain⟨ba,bn,bc,rfl⟩:=aB.form;have ad:=I (QA (Qt _ T 3 (.bool true) _ _ B.o) ah aj);have bw:=I ((aT.o.keep j.o i.o (AbvX.set (fun h=>h.2 rfl) 3 (.bool true))).keep j.o i.o (ah.abvX (fun h=>by have:=h.1;omega)));have bE:=I (ay.o.trans ah);have bL:=I bs;have bz:=I a9;have r0:=Qk ad.o;have r1:=Qr ad.o;have r2:=QJ ad.o;have r3:=QR ad.o;have r4:=QV ad.o;have rf:=Qu ad.o;clear h5 bs a9 ah aB q0 q1 q2 q3 q4 tf;go_wp2;go_ret;exact Qf.ok ((U4 N.o).trans (ab.o.trans ((QD (Gz ae.o H1.o)).trans ((QD af.o).trans ((if_neg H2.o).trans (QD bL.o)))))) (bE.o.setNew hT _ _) ⟨_,_,rfl,Yy.weak j.o i.o ap (bw.o.keep j.o i.o (AbvX.set (fun h=>h.2 rfl) _ _)) (fun k hk _=>hk.1),ap,blX.weak i.o (bK.o.keep i.o (AbvX.set (DL bt) _ _)) (fun k hk _=>by unfold fromB at *;omega)⟩ (bz.o.setNew (by omega) _ _)
   have bM:(0:Int)<(y3.1:Int):=by omega
   have H1:=I h1;clear h1;have q2:=QJ au.o;go_wp2_with fail;go_region_law (first|(go_simp;go_at_call 183;refine(Es tst X sub P d b F t y3.2 J D E _ aw.o.drew hF bd bf j.o i.o aH.o (aY.o.mod R.o.drew) (aE.o.mod R.o.drew)).mono ?_;intro e z h4;rcases h4.cases with⟨z4,v4,aq,rfl,aA,ak,V⟩ | ⟨f4,aL,⟨S,W,rfl,U⟩,V⟩;rotate_left;exact⟨rfl,Qf.err ((U4 N.o).trans (ab.o.trans (Q6 (Fo ae.o H1.o aL)))) (R.o.trans (Zm V)) ⟨S,Qs R.o.size (by simpa using W),rfl,U⟩⟩;obtain⟨u4,a0,rfl,aR,aK⟩:=aA;have ao:=Zm V;have bD:=I (ZW.new j.o i.o (base:=w.heap.size) (T:=T) (v:=.slice (some ⟨g,0,none⟩) m.length q) aR aK R.o.size (fun k hk=>(aF.o.lt k hk).2) b5);have bG:=I (Tn j.o aR aK);have aG:=I (ZP (b:=b) aF.o ao (by omega));have aI:=I (aZ.o.imp (fun a u p Q=>ZW.mod j.o i.o (b:=b) (w':=z) Q ao (by omega)));have B:=I (QA au.o ao aj);have ai:=I (R.o.trans ao);have ax:=I ak;have af:=I aq;have q4:=QJ B.o;have cg:∀ o,(z.alloc o).cell? ⟨T,2,none⟩=some (.slice (some ⟨g,0,none⟩) m.length q):=(fun o=>Qi (Qn B.o) 2);have bt:w.heap.size<=z.heap.size:=ai.o.size;clear h4 aq ak V ao aR aK;skip)|(refine step_append_lies _ rfl (.tmp 19) (.tmp 23) 259 rfl w.heap.size 298 i0 (.agg #[.nilIface,.slice none 0 0]) 2 40 underlying259 hi b2 b3 b4 rfl (by decide) (.slice (some ⟨g,0,none⟩) m.length q) m.length vs (by simp[Act.eval,Act.put]) (aG.o.alloc _) ⟨z.heap.size,0,none⟩ 1 1 [u4,a0] (by simp[Act.eval,Act.put]) rfl (Hk _ _ _ _) bG.o (by decide) (by unfold maxLen;omega) (by omega) (by first|omega|(simp;omega)|simp) _ rfl ?_;intro Y ac A aQ bj a5 cd;have ar:=(O1 j.o i.o bD.o aI.o B.o ax.o ai.o aQ bj a5 hT aj bS ⟨by omega,bT,rfl⟩);have t2:=QJ ar.1;have tf:=Qu ar.1;have HA:=I ar;have bI:=I aQ;clear ar aQ bj a5;skip))
   all_goals
    obtain⟨a1,aJ,Z,aa,a2⟩:=HA.o;have ce:=Wq bB.o bA.o aw.o.le aw.o.e0 af.o
    have bF:Hid (muW (A.setCell ⟨T,2,none⟩ (.slice (some ⟨Y,0,none⟩) (m.length+1) ac)) b t.size<muW wr b t.size):=by
     show _<_
     rw[(aJ.setNew (by omega) _ _).muEq,HR.o.muEq];omega
    have bC:Hid (∃(M:PS) (acc':List (β×List α)) (vs:List Value) (f g q:Nat),(A.setCell ⟨T,2,none⟩ (.slice (some ⟨Y,0,none⟩) (m.length+1) ac)).ownsRow w.heap.size 298 2 (.slice (some ⟨g,0,none⟩) acc'.length q) acc'.length vs/\XW (fun a u p=>ZW X P w.heap.size T (A.setCell ⟨T,2,none⟩ (.slice (some ⟨Y,0,none⟩) (m.length+1) ac)) (.slice (some ⟨g,0,none⟩) acc'.length q) a u p) acc' vs/\acc'≠[]/\g≠T/\(A.setCell ⟨T,2,none⟩ (.slice (some ⟨Y,0,none⟩) (m.length+1) ac)).heap[T]?=some (Bl L K (.slice (some ⟨g,0,none⟩) acc'.length q))/\RC (A.setCell ⟨T,2,none⟩ (.slice (some ⟨Y,0,none⟩) (m.length+1) ac)) b t M J D E/\Mod b w (A.setCell ⟨T,2,none⟩ (.slice (some ⟨Y,0,none⟩) (m.length+1) ac))/\mu t.size M<f/\acc'.length+mu t.size M<=1300/\Qo (Z9 t.data.toList F tst sub F [y.1] y.2) (Vn t.data.toList F sub)=Qo (Z9 t.data.toList F tst sub f acc' M) (Vn t.data.toList F sub)):=by
     show ∃ _,_
     have hl:(m++[z4.1]).length=m.length+1:=by simp
     refine⟨z4.2,m++[z4.1],vs++[u4,a0],f,Y,ac,?_,?_,by simp,aa,?_,aJ.setNew (by omega) _ _,Z.setNew hT _ _,by omega,by rw[hl];omega,ab.o.trans (congrArg (fun r=>Qo r (Vn t.data.toList F sub)) (LX ae.o H1.o af.o))⟩
     ·rw[hl];exact Ct bI.o (fun k hk=>by simp[Value.ownBlock]at hk;omega)
     ·rw[hl];exact a2.imp (fun a u p Q=>Q.set j.o i.o _ _)
     ·rw[hl];exact Qt _ T 2 _ _ _ a1
    clear a1 aJ Z aa a2;go_wp2;go_roundw
    case rel=>exact bC.o
    case measure=>exact bF.o
end Go.Proofs.YtgnkjijocdmniaaGreatDoor
