import Derived.Lib.AppendIntMem
import Derived.Test.YtgnkjijocdmniaaGreatDoorZCCmdK
import Derived.Test.YtgnkjijocdmniaaGreatDoorZReaderT
namespace Go.Proofs.YtgnkjijocdmniaaGreatDoor
set_option linter.all false
set_option maxRecDepth 100000
set_option maxHeartbeats 4000000
open Go.Proofs.Tryz
open Go.RowKit
variable{α β:Type}{A C d f kv u v vv:Value}{B N base i j k n p size:Nat}{M:Msg}{a:List (L8×L8)}{arg hw x:L8}{b:List Ins}{e t:TypeId}{keys ps vals zs:Qn}{l:List α}{met:List (Int×L8)}{oct:Bool}{s:SS}{tag:Int}{w w':World}{xs:List Value}
section
attribute [local go_sem ↓] Zt Zu
def Tab(w:World):Prop:=Lib.TabIs prog w "internal/strconv.uint64pow10" .u64 Lib.pow10Tab
theorem Tab.below(h:Tab w)(hb:Qo w w'):Tab w':=Lib.tabBelow_of_tabIs h w' hb
theorem Qys(n:Nat)(b:n<=2147483647)(a:Tab w):Calls prog 240 #[Qa n] w fun e w'=>e=.returned (Qf (iL n))/\Qo w w':=by
 refine Qv (Tryz.strconv_Itoa n I I w a) ?_;rintro w' ⟨k,c,rfl⟩;exact⟨by rw[Lib.itoa_nonneg];rfl,Lib.below_grow _ _ QF _ _⟩
theorem LQ(g:Nat)(a b:Option Addr){f c d:Nat}(h:w.heap[g]?=some (Qe #[.slice a f c,.slice b i d] 124)):Calls prog 38 #[Qc g] w fun e w'=>e=.returned (.agg #[.slice a f c,.slice b i d])/\Qo w w':=by
 have j:∀o,(w.alloc o).cell? (Ql g 0)=some (.slice a f c):=fun o=>Qj (QJ h) 0
 have k:∀o,(w.alloc o).cell? (Ql g 1)=some (.slice b i d):=fun o=>Qj (QJ h) 1
 clear h;go_enter func38,ntmps38;go_wp2;refine Q_ (v:=.agg #[.slice a f c,.slice b i d]) (by simp[results,results38,go_sem]) rfl ?_;exact⟨rfl,(QH _)⟩
theorem R1{a:Nat}(h:CC w B a b)(g:b.length+1<=1000000):Calls prog 176 #[.pointer (some ⟨a,0,none⟩),.iface 294 (.agg #[.string (sA hw),.int .i64 p])] w (X_ B a (b++[⟨13,0,0,false,[],[],p⟩]) w):=by
 have l:=Tryz.noAct;have m:=Tryz.noSet;have q:=Tryz.yesDiscard;have s:=O g;have i:Hid (∀o,CC (w.alloc o) B a b):=fun o=>h.alloc o
 have c:∀o,Below w.heap.size w (w.alloc o):=fun o=>QH o
 have r:=O c;clear h g c;go_enter func176,ntmps176;go_wp2_with (first|(go_at_call 216;refine(Ex (B:=B) (b:=a) (a:=b) (i:=⟨13,0,0,false,[],[],p⟩) (by simp) (i.o _) (Ga rfl rfl (by show(-9223372036854775808:Int)<=0;decide) (by show(0:Int)<=9223372036854775807;decide)) s.o).mono ?_;rintro e n ⟨rfl,d,f⟩;have j:=O d;have k:=O ((Fr.of_below (r.o _)).trans f);clear d f;skip));go_end0;exact⟨rfl,j.o,k.o⟩
theorem Qus{a:Nat}(h:CC w B a b)(g:b.length+1<=1000000):Calls prog 176 #[.pointer (some ⟨a,0,none⟩),.iface 295 (.agg #[.string (sA hw),.int .i64 p])] w (X_ B a (b++[⟨14,0,0,false,[],[],p⟩]) w):=by
 have l:=Tryz.noAct;have m:=Tryz.noSet;have n:=Tryz.noDiscard;have r:=Tryz.yesStop;have t:=O g;have i:Hid (∀o,CC (w.alloc o) B a b):=fun o=>h.alloc o
 have c:∀o,Below w.heap.size w (w.alloc o):=fun o=>QH o
 have s:=O c;clear h g c;go_enter func176,ntmps176;go_wp2_with (first|(go_at_call 216;refine(Ex (B:=B) (b:=a) (a:=b) (i:=⟨14,0,0,false,[],[],p⟩) (by simp) (i.o _) (Ga rfl rfl (by show(-9223372036854775808:Int)<=0;decide) (by show(0:Int)<=9223372036854775807;decide)) t.o).mono ?_;rintro e q ⟨rfl,d,f⟩;have j:=O d;have k:=O ((Fr.of_below (s.o _)).trans f);clear d f;skip));go_end0;exact⟨rfl,j.o,k.o⟩
theorem Ob(x:L8):∀j,j<[x].length->(#[Value.string (sA x)]:Array Value)[j]?=some (Qf ([x].getD j [])):=fun j hj=>by
 have:j=0:=by simp at hj;exact hj
 subst this;rfl
theorem QuI(tag:Nat){a:L8}{f:Nat}{g:List Ins}(h:CC w B f g)(q:g.length+1<=1000000)(A:a.length<=100000)(y:arg.length<=100000):Calls prog 176 #[Qc f,.iface 264 (.agg #[Qf hw,Qa p,Qa tag,Qf a,Qf arg])] w (X_ B f (g++[⟨12,0,tag,false,[a],[arg],p⟩]) w):=by
 have C:=Tryz.noAct;have E:=Tryz.yesSet;have H:=O h;have x:B<=w.heap.size:=Xj (JR h.lt.1 h.lt.2);have r:Hid (Apt w.heap.size [((⟨12,0,tag,false,[a],[arg],p⟩:Ins),Value.slice (some ⟨w.heap.size+1,0,none⟩) 1 1,Value.slice (some ⟨w.heap.size+1+1,0,none⟩) 1 1)]):=Apt.two (L2:=w.heap.size+2) (fun k i=>by have e:w.heap.size+1=k:=(by simpa[Value.ownBlock]using i);omega) (fun k i=>by have e:w.heap.size+1+1=k:=(by simpa[Value.ownBlock]using i);omega) I QF QF;have F:=O q;clear h q;have u:Hid (∀b d,SlT (((w.alloc b).alloc (Qe #[Qf a] 9)).alloc d) (.slice (some ⟨w.heap.size+1,0,none⟩) 1 1) [a]):=fun b d=>Qr ⟨_,1,rfl,#[Qf a],QJ (ZB Qh),Ob a⟩
 have v:Hid (∀b c,SlT (((w.alloc b).alloc c).alloc (Qe #[Qf arg] 9)) (.slice (some ⟨w.heap.size+1+1,0,none⟩) 1 1) [arg]):=fun b c=>Qr ⟨_,1,rfl,#[Qf arg],ZB Qh,Ob arg⟩
 have l:Hid (∀b c d,Qo w (((w.alloc b).alloc c).alloc d)):=fun b c d=>((QH _).alloc Qh _).alloc (by simp;omega) _
 go_enter func176,ntmps176;go_wp2_with (first|(go_at_call 216;refine Qv (QyO ⟨12,0,tag,false,[a],[arg],p⟩ Qh (H.o.toL.below (l _ _ _)) ⟨u _ _,v _ _,(fun z j=>(by rw[ZV j];exact A)),(fun z j=>(by rw[ZV j];exact y)),(by show 1<=1000000;decide),(by show 1<=1000000;decide),(by show(-9223372036854775808:Int)<=0;decide),(by show(0:Int)<=9223372036854775807;decide)⟩ r x F) ?_;rintro D ⟨m,n⟩;have s:=O m;have t:=O ((Fr.of_below (l _ _ _)).trans n);clear m n;skip));go_end0;exact⟨rfl,s,t⟩
end
def aTo{α β:Type}(tst:β->List Ins->List Ins)(cmd:α->List Ins->List Ins)(as_:List (β×List α))(cs:List Ins)(k:Nat):List Ins×List Nat:=(as_.take k).foldl (Ji tst cmd) (cs,[])
theorem Eb(tst:β->List Ins->List Ins)(b:α->List Ins->List Ins){a:List (β×List α)}(c:List Ins)(h:k<a.length):aTo tst b a c (k+1)=Ji tst b (aTo tst b a c k) a[k]:=by
 unfold aTo;rw[List.take_add_one,Zi h,GG];rfl
theorem Pb(tst:β->List Ins->List Ins)(b:α->List Ins->List Ins){a:List (β×List α)}{d:List α}{c:List Ins}:U5 tst b a d c=GY b d (aTo tst b a c a.length):=by
 unfold U5 aTo;rw[KA]
theorem M7{α β:Type}(tst:β->List Ins->List Ins)(b:α->List Ins->List Ins)(a:List (β×List α))(c:List Ins):∀k,k<=a.length->(aTo tst b a c k).2.length=k
 |0,_=>rfl
 |k+1,h=>by
  rw[Eb tst b c h];have:=M7 tst b a c k I;unfold Ji;simp[this]
theorem Ox{α β:Type}{tst:β->List Ins->List Ins}{c:α->List Ins->List Ins}(e:∀t a,a.length<=(tst t a).length)(d:∀t a,a.length<=(c t a).length)(b:List (β×List α)){a:List Ins}:∀k,k<=b.length->∀j∈(aTo tst c b a k).2,j<(aTo tst c b a k).1.length
 |0,_,j,hj=>by cases hj
 |k+1,h,j,hj=>by
  have g:=Ox e d b (a:=a) k (by omega);rw[Eb tst c (a:=b) a (k:=k) h]at hj ⊢;have i:=e b[k].1 (aTo tst c b a k).1;have f:=V_ d b[k].2 (tst b[k].1 (aTo tst c b a k).1++[insOp 5]);unfold Ji at hj ⊢;simp only[Z6,List.mem_singleton,KF,Qz,Q1,Zl]at hj f ⊢;rcases hj with hj|hj
  .have:=g j hj;omega
  .omega
theorem QyI{tst:β->List Ins->List Ins}{c:α->List Ins->List Ins}(e:∀t a,a.length<=(tst t a).length)(d:∀t a,a.length<=(c t a).length)(b:List (β×List α)){a:List Ins}(k:Nat):(aTo tst c b a k).1.length<=(aTo tst c b a b.length).1.length:=by
 unfold aTo;rw[KA];have:=Ds e d (b.drop k) ((b.take k).foldl (Ji tst c) (a,[]));rw[<-GG,List.take_append_drop]at this;exact this
theorem TL(tst:β->List Ins->List Ins)(f:α->List Ins->List Ins){b:List (β×List α)}{s:List α}{l g c:Nat}{ad:Bool}(R:Option Addr){T S:Nat}{d:List Ins}(h:CC w B l d)(aP:b≠[])(aw:g<B)(aR:b.length<=1000000)
 (ht:∀t d,d.length<=(tst t d).length) (z:∀t d,d.length<=(f t d).length) (J:(U5 tst f b s d).length<=1000000)
 (hc:∀j (hj:j<b.length),∃ty y a n c',w.cell? ⟨g,2*j,none⟩=some (.iface ty y)/\w.cell? ⟨g,2*j+1,none⟩=some (.slice a n c')/\SubC 255 B l w (.iface ty y) (tst b[j].1)/\SubC 120 B l w (.slice a n c') (blockC f b[j].2))
 (he:SubC 120 B l w (.slice R T S) (blockC f s)):Calls prog 218 #[.pointer (some ⟨l,0,none⟩),.agg #[.string (sA hw),.int .i64 p,.slice (some ⟨g,0,none⟩) b.length c,.bool ad,.slice R T S]] w (X_ B l (U5 tst f b s d) w):=by
 obtain⟨i0,hi,aT,aU,aV⟩:=ZU Tryz.infoIntJ;have ap:=Xj (JR h.lt.1 h.lt.2);rw[Pb]at J ⊢;have aA:=FP z s (r:=aTo tst f b d b.length);have aH:=O (QE aA J);have HL:=O J;have HC:=O hc;have HT:=O ht;have a2:=O z;have HELS:=O he;have H:=O h;clear hc ht z h J he aA;go_enter func218,ntmps218;go_wp2_with fail;obtain⟨q,V⟩:=Q3 (w.alloc (.cells #[.string (sA hw),.int .i64 p,.slice (some ⟨g,0,none⟩) b.length c,.bool ad,.slice R T S] 261));rw[<-V];have Y:Hid (Below w.heap.size w q):=by show Below _ _ _;rw[V];exact QH _
 have aG:Hid (q.heap[w.heap.size]?=some (.cells #[.string (sA hw),.int .i64 p,.slice (some ⟨g,0,none⟩) b.length c,.bool ad,.slice R T S] 261)):=by show _=_;rw[V];exact Q0
 have ai:Hid (CC q B l d):=H.o.below Y.o;clear V
 go_loopw [4,6,7,11] (fun v _ _ i wr=>∃(k:Nat) (r:List Ins×List Nat),k<=b.length/\i=.int .i64 (k:Int)/\r=aTo tst f b d k/\wr.ownsRow q.heap.size 3 1 v r.2.length (U' r.2)/\CC wr B l r.1/\Fr (PCo B) q wr) (fun _ _ _ i _=>b.length-(intOf i).toNat)
 case atStart=>exact⟨0,_,QR,by go_num,rfl,Z5,ai.o,Fr.refl _ _⟩
 case round=>
  obtain⟨k,r,W,rfl,x,a1,a3,hF⟩:=hrel;have X:r.2.length=k:=by rw[x];exact M7 tst f b d k W
  have aZ:=(Y.o.mono ap).trans (hF.co ai.o);by_cases hlt:k<b.length
  .obtain⟨ty,y,a,n,c',av,au,a6,ae⟩:=HC.o k hlt
   have c0:wr.cell? ⟨g,k*2,none⟩=some (.iface ty y):=by
    rw[Nat.mul_comm,aZ.cell (p:=⟨g,2*k,none⟩) aw];exact av
   have c1:wr.cell? ⟨g,k*2+1,none⟩=some (.slice a n c'):=by
    rw[Nat.mul_comm,aZ.cell (p:=⟨g,2*k+1,none⟩) aw];exact au
   have u:=Eb tst f (a:=b) d (k:=k) hlt;have K:=QyI HT.o a2.o b (a:=d) (k+1);rw[u,<-x]at K;rw[<-x]at u;obtain⟨am,aq⟩:=Qw (b[k]);rw[aq]at u a6 ae K;unfold Ji at u K;have D:=QE K aH.o;have a0:=V_ a2.o am.2 (tst am.1 r.1++[insOp 5]);obtain⟨A,hA⟩:=Qw (tst am.1 r.1);rw[hA]at u D a0;obtain⟨m,U⟩:=Qw (blockC f am.2 (A++[insOp 5]));rw[U]at u D a0;dsimp only at D;rw[KF,Qz]at D;rw[Qz]at a0;simp only[Q1,Zl]at D a0;have q1:(tst am.1 r.1).length<=1000000:=by rw[hA];omega
   have M:A.length+1<=1000000:=by omega
   have q3:(blockC f am.2 (A++[insOp 5])).length<=1000000:=by rw[U];omega
   have E:m.length+1<=1000000:=by omega
   have q5:A.length<(m++[insOp 3]).length:=by rw[Qz];simp only[Q1,Zl];omega
   have q6:(m++[insOp 3]).length<=1000000:=by rw[Qz];exact E
   have Q:=O (And.intro q1 (And.intro M (And.intro q3 (And.intro E (And.intro q5 q6)))));have HS:=O u;have HTY:=O a6;have ba:=O ae;have HAe:=O hA;have a9:=O U;have HOW:=O a1;have HCC:=O a3;have HF:=O hF;have HBe:=O aZ;have aL:=QE ap aZ.size;have HBe':Hid (∀o,Below B w (wr.alloc o)):=fun o=>HBe.o.alloc aL o
   obtain⟨la,lc,aO⟩:=Zj a1;subst aO;have aX:r.2.length<=1000000:=by omega
   have HA0:Hid ((wr.alloc (.cells #[.iface ty y,.slice a n c'] 298)).heap[wr.heap.size]?=some (.cells #[.iface ty y,.slice a n c'] 298)):=Q0;clear a1 a3 hF aZ av au a6 ae K D a0 hA U aq x u q1 M q3 E q5 q6 X
   go_wp2_with (first
    |(have F:=aj;go_at_call 256;refine(Lx (B:=B) (b:=l) (j:=A.length) aj.o Q.o.2.2.2.2.1 Q.o.2.2.2.2.2).mono ?_;rintro e w6 ⟨rfl,ar,ag⟩;have aD:=O ar;have aF:=O (aE.o.trans ag);have aK:=O (Yc bc.o ag (fun _ _=>PCo.not (by decide) (by decide)));clear ar ag;skip)
    |(have F:=a7;at_builtin;refine XM _ rfl _ _ 24 rfl q.heap.size 3 i0 _ 1 8 underlying24 hi aT aU aV rfl (by decide) _ _ _ rfl (ac.o.alloc _) ⟨w4.heap.size,0,none⟩ 1 1 [.int .i64 (m.length:Int)] rfl rfl (V2 _ _ _) (Oi) (by unfold maxLen;omega) (by omega) (by simp;omega) ?_;intro v5 w5 aB ah _;obtain⟨a5,k5,aS⟩:=Zj aB;subst aS;have bc:=O aB;have aj:=O ((a7.o.alloc _).grownInt (ac.o.alloc _) ah);have aE:=O ((ak.o.alloc _).grownNew ah (fun k W=>(ac.o.lt k W).1));clear aB ah;skip)
    |(have F:=Z;go_at_call 216;refine(Ge (B:=B) (b:=l) (a:=m) (i:=insOp 3) Z.o (B1) Q.o.2.2.2.1).mono ?_;rintro e w4 ⟨rfl,aM,af⟩;have a7:=O aM;have ak:=O (ab.o.trans af);have ac:=O (Yc aJ.o af (fun _ _=>PCo.not (by decide) (by decide)));have aY:=ak.o.size;clear aM af;skip)
    |(have F:=HC2;go_at_call 120;refine(ba.o _ _ aC.o HC2.o Q.o.2.2.1).mono ?_;rintro e w3 ⟨rfl,G,C⟩;rw[a9.o]at G;have Z:=O G;have ab:=O (HF2.o.trans C);have aJ:=O (Yc aI.o C (fun _ _=>PCo.not (by decide) (by decide)));clear G C;skip)
    |(have F:=HC1;go_at_call 216;refine(Ge (B:=B) (b:=l) (a:=A) (i:=insOp 5) HC1.o (B1) Q.o.2.1).mono ?_;rintro e w2 ⟨rfl,hc2,hf2⟩;have aC:=O (HBe1.o.trans (hf2.co HC1.o));have HC2:=O hc2;have HF2:=O (HF1.o.trans hf2);have aI:=O (Yc HO1.o hf2 (fun _ _=>PCo.not (by decide) (by decide)));have ao:=hf2.block _ _ HA1.o (PCo.not (by decide) (by decide));have d1:=Q9 ao;clear hc2 hf2 ao;skip)
    | (go_at_call 255;refine (HTY.o _ r.1 (HBe'.o _) (HCC.o.alloc _) Q.o.1).mono ?_;rintro e w1 ⟨rfl,hc1,hf1⟩;rw [HAe.o] at hc1;have HBe1:=O ((HBe'.o _).trans (hf1.co (HCC.o.alloc _)));have HC1:=O hc1;have HF1:=O ((HF.o.alloc _).trans hf1);have HO1:=O (Yc (HOW.o.alloc _) hf1 (fun _ _=>PCo.not (by decide) (by decide)));have HA1:=O (hf1.block _ _ HA0.o (PCo.not (by decide) (by decide)));clear hc1 hf1;skip))
   go_roundw
   case rel=>
    refine⟨k+1,_,by omega,by go_num,HS.o.symm,?_,aD.o,aF.o⟩;show w6.ownsRow q.heap.size 3 1 _ (r.2++[m.length]).length (U' (r.2++[m.length]))
    rw[Qz,<-Hj];exact aK.o
   case measure=>simp[intOf];omega
  .have aN:k=b.length:=by omega
   subst aN;have aQ:r.2≠[]:=fun e=>aP (XV (by rw[<-X,e];rfl))
   obtain⟨gj,cj,aW,hv,a8,ay⟩:=Mh a1 aQ;subst hv;have az:∀j∈r.2,j<r.1.length:=by rw[x];exact Ox HT.o a2.o b (a:=d) b.length QF
   have aa:Hid (GY f s (aTo tst f b d b.length)=landL r.2 (blockC f s r.1)):=by
    show _=_
    rw[<-x];rfl
   have L:=HL.o;rw[aa.o,KF]at L;have ax:=V_ a2.o s r.1;obtain⟨P,a4⟩:=Qw (blockC f s r.1);have q0:=L;rw[a4]at aa L ax;have M:∀j∈r.2,j<P.length:=fun j hj=>by have:=az j hj;omega
   have E:r.2.length<=1000000:=by rw[X];exact aR
   have Q:=O (And.intro q0 (And.intro M (And.intro L E)));have HE2:=O a4;have HJB:=O a8;have bb:=O ay;have HCC:=O a3;have HF:=O hF;have HBe:=O aZ;have d4:=Qj (hF.block _ _ aG.o (PCo.not (by decide) (by decide))) 4;clear a1 a3 hF aZ x a8 ay az a4 L ax q0 M E X hlt W HC HL
   go_wp2_with (first
    |(have F:=HC2;go_at_call 256;refine(DI (B:=B) (d:=l) gj (c:=cj) (a:=r.2) aW (b:=P) HC2.o Q.o.2.1 HJ2.o bb.o Q.o.2.2.1 Q.o.2.2.2).mono ?_;rintro e w3 ⟨rfl,G,C⟩;have Z:=O G;have ab:=O (HF2.o.trans C);clear G C;skip)
    | (go_at_call 120;refine (HELS.o wr r.1 HBe.o HCC.o Q.o.1).mono ?_;rintro e w2 ⟨rfl,hc2,hf2⟩;rw [HE2.o] at hc2;have HC2:=O hc2;have HF2:=O (HF.o.trans hf2);have HJ2:=O (hf2.block _ _ HJB.o (PCo.not (by decide) (by decide)));clear hc2 hf2;skip))
   go_end0;rw[aa.o];exact⟨rfl,Z.o,(Fr.of_below Y.o).trans ab.o⟩
section
attribute [local go_sem ↓] Zt Zu
def CmdIHc(req:Qn)(B cb n:Nat):Prop:=
 ∀(x:Q5 n) (i:L8) (w:World) (v:Value),Yx n (fun k=>k<B) x w v->YE (WfT req) (WfC req) n x->(ZR n x i).length<=100000->SubC 176 B cb w v (Yp n x)
theorem C2{req:Qn}{b:Nat}(t:CmdIHc req B b n){a:List (Q5 n)}{i:L8}(h:blX (fun k=>k<B) (Yx n) a w v)(o:∀c∈a,YE (WfT req) (WfC req) n c)(e:(ZJ (ZR n) a i).length<=100000):SubC 120 B b w v (blockC (Yp n) a):=by
 rw[Qw1]at e;rcases h with⟨rfl,rfl⟩ | ⟨z,g,c,rfl,r,s⟩
 .exact WP
 .have p:a.length<=1000000:=by
   have:=IQ i (a.map fun c=>ZR n c i);rw[XB]at this;omega
  refine Ta (Yp n) r p (EB n) (fun j d=>?_);obtain⟨u,q,m⟩:=s j d;obtain⟨x,y,rfl⟩:=(XO n).form _ _ _ _ m;have l:=ZT d;exact⟨x,y,q,t a[j] i w _ m (o _ l) (QE (IG i (a.map fun c=>ZR n c i) _ (Vn (f:=fun c=>ZR n c i) l)) e)⟩
theorem Ar(h:Zd x∈ps)(a:(ZC ps++[59]).length<=100000):x.length<=100000:=by
 have b:=J9 h;have c:=Dt x;rw[Qz]at a;omega
theorem LL(req:Qn)(B d:Nat):∀n,CmdIHc req B d n
 |0=>fun x i w v h ha _=>ha.elim
 |n+1=>fun x i w v hv0 ha hlen W cs hW hCC hl=>by
  have J:=LL req B d n;obtain⟨H,Q,T⟩:=ha;have h:UJ (fun k=>k<B) (TestV n) (Yx n) x W v:=(XO (n+1)).keep _ _ _ _ _ hv0 (fun k X _=>hW.block k X);have M:=Xj (JR hCC.lt.1 hCC.lt.2);have hlen:(YM x.1 i (x.2.1.map fun a=>(Zx n a.1,ZJ (ZR n) a.2 (i++[32,32]))) (ZJ (ZR n) x.2.2 (i++[32,32]))).length<=100000:=hlen;have hl:(X8 (ZS n) (Yp n) x.1 x.2.1 x.2.2 cs).length<=1000000:=hl;show Calls prog 176 #[Qc d,v] W (X_ B d (X8 (ZS n) (Yp n) x.1 x.2.1 x.2.2 cs) W)
  generalize hal:(x.2.1.map fun a=>(Zx n a.1,ZJ (ZR n) a.2 (i++[32,32])))=al at hlen;generalize heb:ZJ (ZR n) x.2.2 (i++[32,32])=eb at hlen;unfold UJ Nu at h
  split at h
  .rename_i e;subst h;have b:X8 (ZS n) (Yp n) x.1 x.2.1 x.2.2 cs=cs++[Xs 1 x.1.pos []]:=by unfold X8;rw[e];rfl
   rw[b]at hl ⊢;exact Qt6 hCC (by simpa using hl)
  .rename_i e;subst h;have b:X8 (ZS n) (Yp n) x.1 x.2.1 x.2.2 cs=cs++[⟨13,0,0,false,[],[],x.1.pos⟩]:=by unfold X8;rw[e];rfl
   rw[b]at hl ⊢;exact R1 hCC (by simpa using hl)
  .rename_i e;subst h;have b:X8 (ZS n) (Yp n) x.1 x.2.1 x.2.2 cs=cs++[⟨14,0,0,false,[],[],x.1.pos⟩]:=by unfold X8;rw[e];rfl
   rw[b]at hl ⊢;exact Qus hCC (by simpa using hl)
  .rename_i e;subst h;have b:X8 (ZS n) (Yp n) x.1 x.2.1 x.2.2 cs=cs++[Xs 2 x.1.pos [x.1.arg]]:=by unfold X8;rw[e];rfl
   have f:YM x.1 i al eb=ZC [ZN,Zd x.1.arg]++[59]:=by unfold YM;rw[e];rfl
   rw[b]at hl ⊢;rw[f]at hlen;exact DV 2 hCC (by simpa using hl) Qb (Ar Qh hlen)
  .rename_i e;subst h;have b:X8 (ZS n) (Yp n) x.1 x.2.1 x.2.2 cs=cs++[Xs 3 x.1.pos [x.1.arg]]:=by unfold X8;rw[e];rfl
   have f:YM x.1 i al eb=ZC [Jt,Zd x.1.arg]++[59]:=by unfold YM;rw[e];rfl
   rw[b]at hl ⊢;rw[f]at hlen;exact DV 3 hCC (by simpa using hl) Qb (Ar Qh hlen)
  .rename_i e;subst h;have b:X8 (ZS n) (Yp n) x.1 x.2.1 x.2.2 cs=cs++[Xs 4 x.1.pos [x.1.arg]]:=by unfold X8;rw[e];rfl
   have f:YM x.1 i al eb=ZC [ZM,Zd x.1.arg]++[59]:=by unfold YM;rw[e];rfl
   rw[b]at hl ⊢;rw[f]at hlen;exact DV 4 hCC (by simpa using hl) Qb (Ar Qh hlen)
  .rename_i e;subst h;have b:X8 (ZS n) (Yp n) x.1 x.2.1 x.2.2 cs=cs++[⟨12,0,x.1.tag,false,[x.1.var],[x.1.arg],x.1.pos⟩]:=by unfold X8;rw[e];rfl
   have f:YM x.1 i al eb=ZC [Xw,Jp x.1.tag [Yn,Ym,Yj],Zd x.1.var,Zd x.1.arg]++[59]:=by unfold YM;rw[e];rfl
   rw[b]at hl ⊢;rw[f]at hlen;exact QuI x.1.tag hCC (by simpa using hl) (Ar Qh hlen) (Ar Qh hlen)
  .rename_i h0 h1 h2 h3 h4 h5 h6;obtain⟨av,ev,rfl,R,aa,A⟩:=h
   have e:x.1.kind=7:=by
    have a0:x.1.kind≠0:=h0;have a1:x.1.kind≠1:=h1;have a2:x.1.kind≠2:=h2;have a3:x.1.kind≠3:=h3;have a4:x.1.kind≠4:=h4;have a5:x.1.kind≠5:=h5;have a6:x.1.kind≠6:=h6;have:=H.kind;omega
   have b:X8 (ZS n) (Yp n) x.1 x.2.1 x.2.2 cs=U5 (ZS n) (Yp n) x.2.1 x.2.2 cs:=by unfold X8;rw[e];rfl
   have f:YM x.1 i al eb=X7 i kIf al++(if x.1.els then Nh++eb++i else [])++[125]:=by unfold YM;rw[e];rfl
   rw[b]at hl ⊢;rw[f]at hlen;obtain⟨g,c,rfl,q,o⟩:=R;obtain⟨r,t,s,rfl⟩:=A.form;have ab:al.length=x.2.1.length:=by rw[<-hal];simp
   have D:(X7 i kIf al).length<=100000:=by rw[Qz,Qz]at hlen;omega
   have P:x.2.1.length<=1000000:=by
    have:=H9 i al kIf;omega
   have Y:(ZJ (ZR n) x.2.2 (i++[32,32])).length<=100000:=by
    cases o:x.1.els with
    |true=>
     rw[o]at hlen;simp only[if_true,Qz]at hlen;rw[heb];omega
    |false=>
     have:x.2.2=[]:=XV (H.else0 o);rw[this];exact QR
   refine QyN r hCC M (fun K l N=>?_);refine TL (ZS n) (Yp n) r N aa q P (BV n) (EB n) hl (fun j C=>?_) ((C2 J A T Y).below l);obtain⟨u,bv,hu,S,F,G⟩:=o j C;obtain⟨ty,y,rfl⟩:=(J7 n).form _ _ _ _ F;obtain⟨a,m,L,rfl⟩:=G.form;have Z:x.2.1[j]∈x.2.1:=ZT C;have V:j<al.length:=I
   have U:al[j]=(Zx n x.2.1[j].1,ZJ (ZR n) x.2.1[j].2 (i++[32,32])):=by
    simp only[<-hal,List.getElem_map]
   have E:=F_ i al kIf al[j] (ZT V);rw[U]at E;obtain⟨m1,m2⟩:=E;have z:=Q _ Z;exact⟨ty,y,a,m,L,by rw[l.cell (p:=⟨g,2*j,none⟩) q];exact hu,by rw[l.cell (p:=⟨g,2*j+1,none⟩) q];exact S,(IF B d n _ W _ F z.1 (QE m1 D)).below l,(C2 J G z.2 (QE m2 D)).below l⟩
def ET(w:World)(B:Nat)(cv:Value)(code:List Ins):Prop:=
 ∃ps:List IV,ps.map Prod.fst=code/\w.ownsRow B 63 7 cv ps.length (Ys ps)/\(∀p∈ps,Z_ w p.1 p.2.1 p.2.2)/\(ps=[]->cv=.slice none 0 0)/\Apt B ps
def N7(w:World)(B:Nat)(cv:Value)(code:List Ins):Prop:=
 ∃ps:List IV,ps.map Prod.fst=code/\w.ownsRow B 63 7 cv ps.length (Ys ps)/\(∀p∈ps,Z_ w p.1 p.2.1 p.2.2)/\(ps=[]->cv=.slice none 0 0)
theorem ET.codeO{b:Value}{a:List Ins}(h:ET w B b a):N7 w B b a:=by
 obtain⟨g,e,f,c,d,_⟩:=h;exact⟨g,e,f,c,d⟩
theorem N7.len(h:N7 w B d b):∃a c,d=.slice a b.length c:=by
 obtain⟨g,e,f,_⟩:=h;obtain⟨a,c,h⟩:=Zj f;exact⟨a,c,by rw[h,<-e,XB]⟩
theorem Re{y:Qn×List (Q5 7)}{g:Value}{X:Nat->Prop}(E:∃a n c,A=.slice a n c)(j:blX X (Yx 7) y.2 w g)(m:∀c∈y.2,YE (WfT y.1) (WfC y.1) 7 c)(l:(KU y).length<=100000):Calls prog 86 #[.agg #[A,g]] w fun e w'=>∃cv,e=.returned cv/\ET w' w.heap.size cv (XH y.2)/\Qo w w':=by
 obtain⟨S,U,T,rfl⟩:=E;have s:=j.weak (XO 7) (Y:=fun k=>k<w.heap.size) (fun k _ G=>G);have v:(ZJ (ZR 7) y.2 []).length<=100000:=by unfold KU at l;rw[Qz]at l;omega
 have t:(XH y.2).length<=1000000:=by have:=MH m;omega
 have D:Hid (∀i,SubC 120 w.heap.size i w g (blockC (Yp 7) y.2)):=fun i=>C2 (LL y.1 w.heap.size i 7) s m v
 have V:=O t;obtain⟨la,R,Q,rfl⟩:=j.form;have q:Hid (∀b z,Qo w ((w.alloc b).alloc z)):=fun b z=>(QH _).alloc Qh _
 have r:Hid (∀b,CC ((w.alloc b).alloc (Qe #[Qp] 202)) w.heap.size (w.heap.size+1) []):=fun b=>⟨.slice none 0 0,[],rfl,I,ZB Qh,Z5,(fun p J=>nomatch J),(fun _=>rfl),Apt.nil _⟩
 clear j s m l v t;go_enter func86,ntmps86;go_wp2_with (first|(go_at_call 120;refine Qv (D _ _ [] (q _ _) (r _) V) ?_;rintro L ⟨F,u⟩;obtain⟨cv,K,x,f⟩:=F;have M:=Zs f.blk;obtain⟨N,P,H⟩:=Zj f.row;subst H;have d:=O f;have C:=O x;have B:=O ((q _ _).trans (u.co (r _)));clear x f u;skip));go_ret;exact⟨_,rfl,⟨K,C,d.row,d.o.ok,d.nil,d.ap⟩,B⟩
theorem LS(x y:L8):((sA x).toList==(sA y).toList)=decide (x=y):=by
 rw[show(sA y).toList=y by rw[XL];rfl];exact K9 x y
theorem Lt(h:L8×L8)(n:L8)(w:World)(k:h.1.length<=1000000)(l:n.length<=1000000):Calls prog 206 #[.agg #[Qf h.1,Qf h.2],Qf n] w fun e w'=>e=.returned (.bool (X9 h n))/\Qo w w':=by
 have he:=LS (zL h.1) (zL n);have j:Hid (X9 h n=decide (zL h.1=zL n)):=rfl;generalize decide (zL h.1=zL n)=b at *;have f:=O (Au h.1);have g:=O (Au n);generalize zL h.1=x at *;generalize zL n=y at *;go_enter func206,ntmps206;go_wp2_with fail;refine Qv (f _ k) ?_;rintro m c;have a:=O (((QO w.heap.size w).alloc QF _).trans (c.mono Qh));clear c;go_wp2_with fail;refine Qv (g _ l) ?_;rintro p d;have i:=O (a.o.trans (d.mono a.size));clear d;go_wp2;go_ret;exact⟨Zf (by rw[j.o]),i⟩
theorem Sx(h:L8×L8){n:L8}(p:Nat)(w:World)(c:h.1.length<=1000000)(d:n.length<=1000000)(f:w.cell? (Ql p 0)=some (Qf n)):Calls prog 251 #[.agg #[Qf h.1,Qf h.2],Qc p] w fun e w'=>e=.returned (.bool (X9 h n))/\Qo w w':=by
 have g:=QX f;go_enter func251,ntmps251;go_wp2_with fail;refine Qv (Lt h n _ c d) ?_;rintro i a;have b:=O (((QO w.heap.size w).alloc QF _).trans (a.mono Qh));clear a;go_wp2;go_ret;exact⟨rfl,b⟩
theorem I4:(w.alloc (Qe #[v] t)).cell? (Ql w.heap.size 0)=some v:=by
 rw[Qj (Q0 (w:=w))];rfl
theorem Qx9(p:α->Bool)(h:k<l.length):(l.drop k).any p=(p l[k] || (l.drop (k+1)).any p):=by
 rw[Xt h,List.any_cons]
theorem Qyn(p:α->Bool)(h:k<l.length):(l.drop k).all p=(p l[k]&&(l.drop (k+1)).all p):=by
 rw[Xt h,List.all_cons]
theorem GZ(k:Nat)(h:¬k<l.length):l.drop k=[]:=ZE I
theorem R6{n:L8}(p:Nat)(l:Jj w u a)(J:a.length<=1000000)(y:∀h∈a,h.1.length<=100000/\h.2.length<=100000)(z:n.length<=1000000)(t:w.cell? (Ql p 0)=some (Qf n)):Calls prog 267 #[u,QA 251 #[] #[Qc p]] w fun e w'=>∃i:Int,e=.returned (Qa i)/\decide (0<=i)=a.any (X9 · n)/\Qo w w':=by
 obtain⟨la,L,C⟩:=l.len;subst C;have P:=O l;have D:=QX t;clear l;go_enter func267,ntmps267;go_wp2
 go_loopw [5,8] (fun _ i wr=>∃(k:Nat),k<=a.length/\i=Qa (k:Int)/\Qo w wr/\a.any (X9 · n)=(a.drop k).any (X9 · n)) (fun _ i _=>a.length-(intOf i).toNat)
 case atStart=>exact⟨0,QR,rfl,QO _ _,rfl⟩
 case round=>
  obtain⟨k,H,rfl,b,j⟩:=hrel;have M:=O b;have N:=O j;have v:=b.size;clear b j;by_cases hlt:k<a.length;rotate_left
  .have A:¬(k:Int)<(a.length:Int):=I
   have c:=O (GZ k hlt);go_wp2;go_ret;exact⟨-1,rfl,by rw[N.o,c.o];rfl,M⟩
  have A:(k:Int)<(a.length:Int):=I
  obtain⟨g,B,s,q,r⟩:=P.o.get' k hlt;subst B;have F:=QN M q s
  have G:=QN M r s
  have x:=QN M t D
  have c:=O (Qx9 (X9 · n) hlt);have K:=(y _ (ZT hlt)).1;have f:=O (Sx a[k] p wr I z x);cases hb:X9 a[k] n
  .rw[hb]at c f;clear q r;go_wp2_with (go_at_call 251;refine f.mono ?_;rintro e E ⟨rfl,d⟩;have m:=O (M.o.trans (d.mono v));clear d);go_roundw
   case rel=>exact⟨k+1,I,by go_num,m,by rw[N.o,c.o];rfl⟩
   case measure=>simp[intOf];omega
  .rw[hb]at c f;clear q r;go_wp2_with (go_at_call 251;refine f.mono ?_;rintro e E ⟨rfl,d⟩;have m:=O (M.o.trans (d.mono v));clear d);go_ret;exact⟨k,rfl,by rw[N.o,c.o];exact QU I,m⟩
theorem Rt{n:L8}(c:Jj w f a)(k:a.length<=1000000)(g:∀h∈a,h.1.length<=100000/\h.2.length<=100000)(j:n.length<=1000000)(m:w.cell? (Ql p 0)=some (Qf n)):Calls prog 250 #[f,QA 251 #[] #[Qc p]] w fun e w'=>e=.returned (.bool (a.any (X9 · n)))/\Qo w w':=by
 obtain⟨la,q,l⟩:=c.len;subst l;go_enter func250,ntmps250;go_wp2_with fail;refine(R6 p c k g j m).mono ?_;rintro e r ⟨i,rfl,d,b⟩;have t:=O d;have s:=O b;clear d b;go_wp2
 all_goals go_ret
 all_goals exact⟨Zf (by rw[<-t.o]),s⟩
theorem Ml(s:SS):∀(n:Nat) (l acc:L8),acc.length<=1024->(J0 s n l acc).length<=1024
 |0,_,_,h=>h
 |n+1,l,acc,h=>by
  by_cases hc:l≠[]/\acc.length<1024
  .rw[IZ hc];exact Ml s n _ _ (by rw[Qz,YT];omega)
  .rw[Eo hc];exact h
theorem D1(s:SS)(h:x.length<=N)(a:1024<=N):(expL s x).length<=N:=by
 unfold expL;split
 .exact QE (Ml s _ _ _ QR) a
 .exact h
theorem AH(s:SS)(h:∀z∈zs,z.length<=N)(a:1024<=N):∀y∈zs.map (expL s),y.length<=N:=by
 intro y b;obtain⟨z,c,rfl⟩:=List.mem_map.1 b;exact D1 s (h z c) a
theorem Tt{b:Nat}{S:Value}(h:SAt w B b M s)(G:SlT w S zs)(E:∀z∈zs,z.length<=1000000)(N:zs.length<=1000000):Calls prog 208 #[Qc b,S] w fun e w'=>e=.returned (.bool (existsL M (zs.map (expL s))))/\Qo w w':=by
 obtain⟨la,lc,ag⟩:=G.len;subst ag;have U:=O h;obtain⟨J,mb,tv,mv,j⟩:=h;have ar:=O j;have F:=j.lt;have D:=j.bd;have C:w.cell? (Ql b 3)=some J:=j.cell 3;have aq:=O D;clear j D;go_enter func208,ntmps208;go_wp2_with fail;refine(AB U G E N).mono ?_;rintro e v ⟨v1,rfl,H,m⟩;have A:=O (SlT.of_owns H Qh);have ap:=O m;obtain⟨ta,tc,ai⟩:=Zj H;subst ai;have R:∀y∈zs.map (expL s),y.length<=1000000:=AH s E Qb;have q:zs.length=(zs.map (expL s)).length:=Qh
 have K:Hid (existsL M (zs.map (expL s))=(zs.map (expL s)).all fun n=>M.hdrs.any (X9 · n)):=rfl;have L:=O R;obtain⟨a,u⟩:=Qw (zs.map (expL s));have au:=O u;rw[u]at A K L q;clear u;rw[q]at N;have aa:v.cell? (Ql b 3)=some J:=(QN m C F);rw[q];rw[q]at A;clear H R q m G E C;go_wp2_with fail
 go_loopw [6,11] (fun _ i wr=>∃(k:Nat),k<=a.length/\i=Qa (k:Int)/\Qo w wr/\Qo v wr/\existsL M a=(a.drop k).all fun n=>M.hdrs.any (X9 · n)) (fun _ i _=>a.length-(intOf i).toNat)
 case atStart=>exact⟨0,QR,rfl,ap,QO _ _,K⟩
 case round=>
  obtain⟨k,hk,rfl,d,c,t⟩:=hrel;have HB:=O d;have ao:=O c;have HA:=O t;have Q:=d.size;have ah:b<v.heap.size:=Yq F ap.size;have C:wr.cell? (Ql b 3)=some J:=(QN c aa ah);have ak:b<wr.heap.size:=Yq F d.size;clear d c t;by_cases hlt:k<a.length;rotate_left
  .have ae:¬(k:Int)<(a.length:Int):=I
   have f:=O (GZ k hlt);go_wp2;go_ret;exact⟨Zf (by rw[au.o,HA.o,f.o];rfl),HB⟩
  have ae:(k:Int)<(a.length:Int):=I
  obtain⟨g,af,ac,Z⟩:=A.o.get' k hlt;subst af;have c1:=QN ao Z ac
  have f:=O (Qyn (fun n=>M.hdrs.any (X9 · n)) hlt);have aj:=L _ (ZT hlt);obtain⟨X,Y,ad⟩:=ar.hd.len;subst ad
  have r:Hid (∀W,Qo wr W->W.cell? (Ql wr.heap.size 0)=some (.string (sA a[k]))->Calls prog 250 #[.slice X M.hdrs.length Y,QA 251 #[] #[Qc wr.heap.size]] W fun e w'=>e=.returned (.bool (M.hdrs.any (X9 · a[k])))/\Qo W w'):=fun W V ab=>
   Rt (ar.hd.fr (P:=fun _ _=>False) (Fr.trans (Fr.trans (Fr.of_below ap) (Fr.of_below ao)) (Fr.of_below V)) (fun _ _ h=>h)) (by have:=aq.hl;omega) aq.hd aj ab
  generalize a[k]=y at *;cases hb:M.hdrs.any (X9 · y)
  .rw[hb]at f r;go_wp2_with (go_at_call 250;refine Qv (r _ (QH _) (I4)) ?_;rintro w2 l;have x:=O ((HB.o.alloc Q _).trans (l.mono (by simp;omega)));clear l);go_ret;exact⟨Zf (by rw[au.o,HA.o,f.o];rfl),x⟩
  .rw[hb]at f r;go_wp2_with (go_at_call 250;refine Qv (r _ (QH _) (I4)) ?_;rintro w2 l;have x:=O ((HB.o.alloc Q _).trans (l.mono (by simp;omega)));have T:=O ((ao.o.alloc ao.size _).trans (l.mono (by have:=ao.size;simp;omega)));clear l);go_roundw
   case rel=>exact⟨k+1,I,by go_num,x,T,by rw[HA.o,f.o];rfl⟩
   case measure=>simp[intOf];omega
theorem FQ{v k:L8}:Lib.contains v k=X5 k v:=by
 unfold Lib.contains
 induction v with
 |nil=>
  cases k with
  |nil=>rfl
  |cons c r=>rfl
 |cons c v ih=>
  rw[Lib.index,X5];by_cases h:k.isPrefixOf (c::v)=true
  .rw[Qi h,h];rfl
  .rw[Qg h,Bool.eq_false_iff.2 h,Bool.false_or,<-ih];split
   .next h1=>have a:=eq_of_beq h1;rw[a]
   .next h1=>
    have a:Lib.index v k≠-1:=fun e=>h1 (by rw[e];rfl)
    have b:=Lib.index_ge v k;rw[Xb];simp;omega
def Ng(oct:Bool):Value:=if oct then QA 263 #[] #[]else QA 181 #[] #[]
theorem Dw{s:ByteArray}:Calls prog 263 #[.string s] w fun e w'=>e=.returned (.string s)/\w'=w:=by
 go_enter func263,ntmps263;go_wp2;go_ret;exact⟨rfl,rfl⟩
theorem RK(oct:Bool):Calls prog 241 #[.bool oct] w fun e w'=>e=.returned (Ng oct)/\w'=w:=by
 cases oct <;>
 (go_enter func241,ntmps241
  go_wp2;go_ret
  exact ⟨rfl,rfl⟩)
theorem LT{y:L8}:Calls prog 243 #[Qf x,Qf y] w fun e w'=>e=.returned (.bool (decide (x=y)))/\w'=w:=by
 have a:((sA x).toList==(sA y).toList)=decide (x=y):=by
  rw[show(sA y).toList=y by rw[XL];rfl];exact K9 x y
 go_enter func243,ntmps243;go_wp2;go_ret;exact⟨Zf (by rw[<-a]),rfl⟩
theorem Dh(h:x.length<=1000000):Calls prog 181 #[Qf x] w fun e w'=>e=.returned (Qf (zL x))/\Qo w w':=
 AF (sA x) w (by rw[Zc];omega)
def WayV(w:World)(tag:Int)(oct:Bool)(wv:Value):Prop:=
 (tag=3/\∃p,wv=QA 245 #[] #[Qc p]/\w.cell? (Ql p 0)=some (Ng oct))\/
 (∃p q,wv=QA 264 #[] #[Qc p,Qc q]∧w.cell? (Ql q 0)=some (Ng oct)∧
   ((tag=1∧w.cell? (Ql p 0)=some (QA 243 #[] #[]))∨(tag=2∧w.cell? (Ql p 0)=some (QA 244 #[] #[]))))
def NV(tag:Int)(oct:Bool)(v k:L8)(W:World)(e:Ending)(W':World):Prop:=
 Qo W W'/\
 ((wayB tag oct v k=false∧e=.returned (.tuple #[Qp,.bool false]))∨
  (wayB tag oct v k=true/\wayT tag oct v k=none/\e=.returned (.tuple #[Qp,.bool true]))\/
  (wayB tag oct v k=true∧∃t g c,wayT tag oct v k=some t∧e=.returned (.tuple #[Qs g t.length c,.bool true])∧W.heap.size<=g∧No W' g t))
theorem Bv(tag:Int)(oct:Bool)(v k:L8)(a:tag≠3)(w w':World)(b:Qo w w'):NV tag oct v k w (.returned (.tuple #[Qp,.bool (wayB tag oct v k)])) w':=by
 refine⟨b,?_⟩;have c:wayT tag oct v k=none:=by unfold wayT;rw[Qg a]
 cases h:wayB tag oct v k
 .exact Qt ⟨rfl,rfl⟩
 .exact Qr (Qt ⟨rfl,c,rfl⟩)
theorem Sn(p q:Nat){v k:L8}(n:v.length<=1000000)(j:k.length<=1000000)(b:w.cell? (Ql q 0)=some (Ng oct))(g:w.cell? (Ql p 0)=some (QA 243 #[] #[])):Calls prog 264 #[Qf v,Qf k,Qc p,Qc q] w (NV 1 oct v k w):=by
 have m:=QX b;have l:=QX g;cases oct
 .have i:w.cell? (Ql q 0)=some (QA 181 #[] #[]):=b;have c:=O (Bv 1 false v k Qb);clear b;go_enter func264,ntmps264;go_wp2_with fail
  go_region_held3 (fun w'=>w'.cell? (Ql q 0)=some (QA 181 #[] #[])∧w'.cell? (Ql p 0)=some (QA 243 #[] #[])) (first | go_keep) (first
   |(go_at_call 181;refine Qv (Dh (by first|exact n|exact j)) ?_;rintro f d;have a:Hid (Qo w f):=(by first|exact a.o.trans (d.mono a.size)|exact Y9 d);have r:f.cell? (Ql q 0)=some (QA 181 #[] #[]):=(QN a i m);have s:f.cell? (Ql p 0)=some (QA 243 #[] #[]):=(QN a g l);clear d;skip)
   | (go_at_call 243;refine (LT).mono ?_;rintro e w3 ⟨rfl,rfl⟩;skip))
  all_goals go_wp2
  all_goals go_ret2
  all_goals exact c _ _ a
 .have i:w.cell? (Ql q 0)=some (QA 263 #[] #[]):=b;have c:=O (Bv 1 true v k Qb);clear b;go_enter func264,ntmps264;go_wp2_with fail
  go_region_held3 (fun w'=>w'.cell? (Ql q 0)=some (QA 263 #[] #[])∧w'.cell? (Ql p 0)=some (QA 243 #[] #[])) (first | go_keep) (first
   |(go_at_call 263;refine Qu (Dw) ?_;skip)
   | (go_at_call 243;refine (LT).mono ?_;rintro e w3 ⟨rfl,rfl⟩;skip))
  all_goals go_wp2
  all_goals go_ret2
  all_goals exact c _ _ (Z9 (QO _ _))
theorem RJ(p q:Nat){v k:L8}(s:v.length<=1000000)(j:k.length<=1000000)(b:w.cell? (Ql q 0)=some (Ng oct))(g:w.cell? (Ql p 0)=some (QA 244 #[] #[]))(m:Int)(hm:w.cell? (Ql 1 0)=some (Qa m)):Calls prog 264 #[Qf v,Qf k,Qc p,Qc q] w (NV 2 oct v k w):=by
 have r:=QX b;have n:=QX g;have l:=QX hm;have x:(zL v).length<=1000000:=by simp[zL];omega
 cases oct
 .have i:w.cell? (Ql q 0)=some (QA 181 #[] #[]):=b;have d:=O (Bv 2 false v k Qb);clear b;go_enter func264,ntmps264;go_wp2_with fail
  go_region_held3 (fun w'=>w'.cell? (Ql q 0)=some (QA 181 #[] #[])∧w'.cell? (Ql p 0)=some (QA 244 #[] #[])∧w'.cell? (Ql 1 0)=some (Qa m)) (first | go_keep) (first
   |(go_at_call 181;refine Qv (Dh (by first|exact s|exact j)) ?_;rintro c f;have a:Hid (Qo w c):=(by first|exact a.o.trans (f.mono a.size)|exact Y9 f);have t:c.cell? (Ql q 0)=some (QA 181 #[] #[]):=(QN a i r);have u:c.cell? (Ql p 0)=some (QA 244 #[] #[]):=(QN a g n);have d3:c.cell? (Ql 1 0)=some (Qa m):=(QN a hm l);clear f;skip)
   | (go_at_call 244;refine (Tryz.strings_Contains (sA (zL v)) (sA (zL k)) m _ (by show (zL v).length < _;omega) d3).mono ?_;rintro e w3 ⟨rfl,rfl⟩;rw [FQ];skip))
  all_goals go_wp2
  all_goals go_ret2
  all_goals exact d _ _ a
 .have i:w.cell? (Ql q 0)=some (QA 263 #[] #[]):=b;have d:=O (Bv 2 true v k Qb);clear b;go_enter func264,ntmps264;go_wp2_with fail
  go_region_held3 (fun w'=>w'.cell? (Ql q 0)=some (QA 263 #[] #[])∧w'.cell? (Ql p 0)=some (QA 244 #[] #[])∧w'.cell? (Ql 1 0)=some (Qa m)) (first | go_keep) (first
   |(go_at_call 263;refine Qu (Dw) ?_;skip)
   | (go_at_call 244;refine (Tryz.strings_Contains (sA v) (sA k) m w.drew (by show v.length < _;omega) hm).mono ?_;rintro e w3 ⟨rfl,rfl⟩;rw [FQ];skip))
  all_goals go_wp2
  all_goals go_ret2
  all_goals exact d _ _ (Z9 (QO _ _))
theorem BH:∀l:L8,(pcL l).length<=l.length
 | []=>Q4 _
 | [c]=>Q4 _
 |c::d::r=>by
  have a:=BH (d::r);have b:=BH r;rw[pcL];split
  .simpa using a
  .split
   .simpa using a
   .split
    .simp;omega
    .simpa using a
theorem Ed(oct:Bool)(x:L8):(lookL oct x).length=x.length:=by
 unfold lookL;split
 .rfl
 .simp[zL]
def Rm(oct:Bool):Nat:=if oct then 263 else 181
theorem QuH(oct:Bool)(w:World)(h:x.length<=1000000):Calls prog (Rm oct) #[Qf x] w fun e w'=>e=.returned (Qf (lookL oct x))/\Qo w w':=by
 cases oct
 .exact Dh h
 .exact(Dw (s:=sA x) (w:=w)).mono fun e w' he=>⟨he.1,by rw[he.2];exact QO _ _⟩
theorem Hz(h:w.ownsRow base e size v n xs)(i:Qo w w'):w'.ownsRow base e size v n xs:=by
 obtain⟨f,a⟩:=h;refine⟨f,?_⟩;rcases a with a | ⟨g,c,d,k,j,b,r⟩
 .exact Qt a
 .exact Qr ⟨g,c,d,k,j,by rw[i.block g (QI b)];exact b,r⟩
theorem Qwj(h:w.ownsRow base e size v n xs)(i:n≠0):∃g c,v=Qs g n c/\base<=g/\g<w.heap.size:=by
 rcases h.2 with⟨_,b⟩ | ⟨g,a,k,j,d,f,_⟩
 .exact absurd b i
 .exact⟨g,a,j,d,QI f⟩
theorem QzZ(q:Nat){v k:L8}(hv:v.length<=1000000)(G:k.length<=1000000)(u:w.cell? ⟨q,0,none⟩=some (Ng oct)):Calls prog 245 #[.string (sA v),.string (sA k),.pointer (some ⟨q,0,none⟩)] w (NV 3 oct v k w):=by
 have ag:=QX u;have ae:=Ed oct k;have af:=Ed oct v;have Z:=BH (lookL oct k);obtain⟨x,z⟩:=Qw (lookL oct k);obtain⟨y,A⟩:=Qw (lookL oct v);have HX:=O z;have HY:=O A;rw[z]at ae Z;rw[A]at af
 have U:Hid (∀d,pcL x=d->wayB 3 oct v k=Q6 d y/\wayT 3 oct v k=some (toldTo v d (plL d y 0) d.length)):=by
  intro d H;unfold wayB wayT;rw[Qg (by decide),Qg (by decide),Qi rfl,HX.o,HY.o,H];exact⟨rfl,rfl⟩
 have R:Hid (∀d,pcL x=d->∀j (Y:j<d.length),d[j].1=2->d[j]=(2,0)):=fun d H j Y h=>As x _ (by rw[H];exact ZT Y) h
 clear z A;have V:=O (fun k W G=>QuH oct (x:=k) W G);cases oct
 all_goals
  first|(have L:w.cell? ⟨q,0,none⟩=some (.func (.func 181) #[] #[]):=u)|(have L:w.cell? ⟨q,0,none⟩=some (.func (.func 263) #[] #[]):=u)
  clear u;go_enter func245,ntmps245;go_wp2_with fail;refine(V.o k _ G).mono ?_;rintro e M ⟨rfl,m⟩;rw[HX.o];have C:=(m.cell (p:=⟨q,0,none⟩) ag).trans L;have ao:=O m;clear m L;go_wp2_with fail;refine(Wb (sA x) M (by rw[Zc];omega)).mono ?_;rintro e w2 ⟨lv,rfl,s,D⟩;rw[show(sA x).data.toList=x from rfl]at s;obtain⟨c,t⟩:=Qw (pcL x);have B:=O (U.o c t);have ac:=O (R.o c t);rw[t]at s Z;have c2:=(D.cell (p:=⟨q,0,none⟩) (QX C)).trans C;have N:=O (ao.o.trans (D.mono ao.o.size));have aq:=O s;clear s D C t U R;go_wp2_with fail;refine(V.o v _ hv).mono ?_;rintro e w3 ⟨rfl,E⟩;rw[HY.o];have P:=O (N.o.trans (E.mono N.o.size));have Q:=O (Hz aq.o E);clear E c2;go_wp2_with fail;refine(Pe (sA y) (b:=c) (Y:=lv) (base:=M.heap.size) (w:=w3) (by rw[Zc];omega) (by omega) Q.o ac.o).mono ?_;rintro e w4 ⟨hf,F⟩;have l:=O (P.o.trans (F.mono P.o.size));have ab:=O (Hz Q.o F);clear F;rcases hf with⟨f,g,hg,rfl,X⟩ | ⟨f,rfl⟩
  .have ap:=O X;have HM:=O f;clear X f;go_wp2_with fail;refine(Qv0 (sA v) (a:=c) (D:=lv) (base:=M.heap.size) g (b:=plL c y 0) (w:=w4) (by rw[Zc];omega) (by omega) ab.o ap.o (Dr c y 0) (fun i hi=>?_)).mono ?_
   .obtain⟨a,b,h1,h2,h3,h4,h5⟩:=Lp c y 0 HM.o i hi;rw[Zv,Zv,h1,h2,Zc];exact⟨h4,by show b<=_;omega⟩
   rintro e w5 ⟨tv,rfl,K,ad⟩;have aa:=O (l.o.trans (ad.mono l.o.size));obtain⟨r,hr⟩:=TE v c (plL c y 0) c.length;have ak:=l.o.size;obtain⟨g5,c5,ah,ai,aj⟩:=Qwj K (by rw[show(sA v).data.toList=v from rfl,hr];simp);subst ah;have S:=O (No.of_owns K);have T:=B.o.2;have ar:=O T;rw[show(sA v).data.toList=v from rfl]at S ⊢;obtain⟨n5,J⟩:=Qw ((toldTo v c (plL c y 0) c.length).length);have HN:=O J;rw[J];clear J hr T K;go_wp2;go_ret2;exact⟨aa.o,Qr (Qr ⟨B.o.1.trans HM.o,_,g5,c5,ar.o,by rw[HN.o];rfl,by omega,S.o⟩)⟩
  .have HM:=O f;clear f;go_wp2;go_ret2;exact⟨l.o,Qt ⟨B.o.1.trans HM.o,rfl⟩⟩
theorem Qvh{v:L8}{a:List (Nat×UInt8)}{b:List Nat}:∀x∈toldTo v a b k,x.length<=v.length:=by
 induction k with
 |zero=>intro x hx;rw[toldTo]at hx;simp at hx;rw[hx];exact Q4 _
 |succ k ih=>
  intro x hx;rw[toldTo,Z6]at hx;rcases hx with hx|hx
  .exact ih x hx
  .split at hx
   .cases hx
   .simp at hx;rw[hx];simp;omega
theorem M4{v k:L8}{t:Qn}(h:wayT tag oct v k=some t):(∀x∈t,x.length<=v.length)/\t.length<=k.length+1:=by
 unfold wayT at h
 split at h
 .cases h;refine⟨Qvh,?_⟩;have b:=ID v (pcL (lookL oct k)) (plL (pcL (lookL oct k)) (lookL oct v) 0) (pcL (lookL oct k)).length;have a:=BH (lookL oct k);rw[Ed]at a;omega
 .cases h
def NT(r:Bool×SS)(B sb:Nat)(M:Msg)(w:World)(e:Ending)(w':World):Prop:=
 e=.returned (.bool r.1)/\SAt w' B sb M r.2/\Fr (PSt B) w w'
theorem SBd.told'(b:SBd M s)(t:Qn)(h1:∀x∈t,x.length<=100000)(h2:t.length<=1000000):SBd M (VS s t):=⟨b.fr,b.tu,b.hl,b.hd,h1,h2,b.vals,b.met⟩
theorem SI.setTold{d:Nat}{D:Nat}{Q E:Value}(h:SI w B d M s C D Q E)(t:Qn)(v:Value)(N:SlT w v t)(q:∀x∈t,x.length<=100000)(f:t.length<=1000000):SI (w.setCell ⟨d,6,none⟩ v) B d M (VS s t) C D v E:=by
 have l:Fr (fun k _=>k=d) w (w.setCell ⟨d,6,none⟩ v):=(Fr.refl _ w).set h.blk rfl 6 v
 have n:∀(k:Nat) (o:Obj),w.heap[k]?=some o->(∀b,o≠.cells b 274)->k≠d:=fun k o z L e=>by
  subst e;rw[h.blk]at z;cases z;exact L _ rfl
 obtain⟨H,c,A,P⟩:=h.mp;obtain⟨m,J⟩:=h.m1;refine⟨h.bs,h.bm,h.b1,⟨m,?_⟩,?_,?_,⟨H,c,l.block _ _ A (n _ _ A (fun b e=>by cases e)),P⟩,?_,?_,h.mn,h.bd.told' t q f⟩
 .have:(1:Nat)≠d:=by have:=h.b1;have:=h.bs;omega
  rw[Xo (a:=⟨1,0,none⟩) (Q' this)];exact J
 .exact QM h.blk
 .rcases h.hd with p | ⟨g,c,b,j,i,u⟩
  .exact Qt p
  .exact Qr ⟨g,c,b,j,l.block _ _ i (n _ _ i (fun b e=>by injection e with e1 e2;exact absurd e2 Qb)),u⟩
 .rcases N with p | ⟨g,c,j,b,i,u⟩
  .exact Qt p
  .exact Qr ⟨g,c,j,b,l.block _ _ i (n _ _ i (fun b e=>by injection e with e1 e2;exact absurd e2 Qb)),u⟩
 .obtain⟨q,f⟩:=h.met;refine⟨q,?_⟩;rcases f with f | ⟨g,F,G,j,K,y,r⟩
  .exact Qt f
  .exact Qr ⟨g,F,G,j,K,l.block _ _ y (n _ _ y (fun b e=>by injection e with e1 e2;exact absurd e2 Qb)),r⟩
theorem Ld{v:L8}{a:Qn}(b:j<a.length):Jh tag oct v (a.drop j)=if wayB tag oct v a[j]then some a[j]else Jh tag oct v (a.drop (j+1)):=by
 rw[Xt b];rfl
theorem I5{b:Qn}{a:Qn}(hi:i<a.length):Yz tag oct b (a.drop i)=match Jh tag oct a[i] b with|some k=>some (a[i],k)|none=>Yz tag oct b (a.drop (i+1)):=by
 rw[Xt hi];rfl
theorem IW{b:Qn}{a:Qn}{hi:i<a.length}(h:Jh tag oct a[i] b=none):Yz tag oct b (a.drop i)=Yz tag oct b (a.drop (i+1)):=by
 rw[I5 hi,h]
theorem BL{b:Qn}{a:Qn}{hi:i<a.length}{k:L8}(h:Jh tag oct a[i] b=some k):Yz tag oct b (a.drop i)=some (a[i],k):=by
 rw[I5 hi,h]
theorem LD(h:Yz tag oct (keys.map (expL s)) vals=none):askL s tag oct vals keys=(false,s):=by unfold askL;rw[h]
theorem M0{v k:L8}(h:Yz tag oct (keys.map (expL s)) vals=some (v,k))(a:wayT tag oct v k=none):askL s tag oct vals keys=(true,s):=by unfold askL;rw[h];dsimp only;rw[a]
theorem IX{v k:L8}{t:Qn}(h:Yz tag oct (keys.map (expL s)) vals=some (v,k))(a:wayT tag oct v k=some t):askL s tag oct vals keys=(true,VS s t):=by unfold askL;rw[h];dsimp only;rw[a]
theorem Tm(tag:Int)(p:Nat){H:Nat}
 (hw:∀W v k,Qo w W->v.length<=100000->k.length<=100000->Calls prog 245 #[Qf v,Qf k,Qc p] W (NV tag oct v k W))
 (h:SAt w B H M s) (F:SlT w vv vals) (ab:SlT w kv keys) (ad:∀z∈vals,z.length<=100000) (Q:∀z∈keys,z.length<=100000) (aB:vals.length<=1000000000000) (aa:keys.length<=1000000):Calls prog 207 #[Qc H,QA 245 #[] #[Qc p],vv,kv] w (NT (askL s tag oct vals keys) B H M w):=by
 obtain⟨va,vc,aw⟩:=F.len;subst aw;have aL:=O F;have HS:=O h;have HW:=O hw;have aK:=O ad;go_enter func207,ntmps207;go_wp2_with fail;refine(AB h ab (fun z hz=>QE (Q z hz) Qb) aa).mono ?_;rintro e J ⟨v1,rfl,R,X⟩;have L:=O (SlT.of_owns R Qh);have aH:=O X;obtain⟨ta,tc,au⟩:=Zj R;subst au;have ae:∀y∈keys.map (expL s),y.length<=100000:=AH s Q Qb;have G:keys.length=(keys.map (expL s)).length:=Qh
 obtain⟨b,D⟩:=Qw (keys.map (expL s));have aE:=O D;have T:=O ae;rw[D]at L T G;rw[G]at aa L;rw[G];clear R ae G X ab Q h F ad hw D;go_wp2_with fail
 go_loopw [10,12,13,14,20] (fun _ _ _ _ i wr=>∃(a:Nat),a<=vals.length/\i=Qa (a:Int)/\Qo w wr/\Qo J wr/\Yz tag oct b vals=Yz tag oct b (vals.drop a)) (fun _ _ _ _ i _=>vals.length-(intOf i).toNat)
 case atStart=>exact⟨0,QR,rfl,aH,QO _ _,rfl⟩
 case round=>
  obtain⟨a,ha,rfl,l,V,A⟩:=hrel;have HB:=O l;have aI:=O V;have HA:=O A;clear l V A;by_cases hlt:a<vals.length;rotate_left
  .have ao:¬(a:Int)<(vals.length:Int):=I
   have K:=O (GZ a hlt);go_wp2;go_ret;have E:=LD (s:=s) (tag:=tag) (oct:=oct) (vals:=vals) (keys:=keys) (by rw[aE.o,HA.o,K.o];rfl);rw[E];exact⟨rfl,HS.o.below HB,Fr.of_below HB⟩
  have ao:(a:Int)<(vals.length:Int):=I
  obtain⟨g,aq,ai,Y⟩:=aL.o.get' a hlt;subst aq;have c1:=QN HB Y ai
  have S:=aK _ (ZT hlt);obtain⟨v,d⟩:=Qw (vals[a]);have HV:=O d;rw[d]at c1 S;clear d Y;go_wp2_with fail
  go_loopw [12,13,14,26] (fun _ _ _ i wr=>∃(j:Nat),j<=b.length/\i=Qa (j:Int)/\Qo w wr/\Qo J wr/\Jh tag oct v b=Jh tag oct v (b.drop j)) (fun _ _ _ i _=>b.length-(intOf i).toNat)
  case atStart=>exact⟨0,QR,rfl,HB,aI,rfl⟩
  case round=>
   obtain⟨j,hj,rfl,u,m,C⟩:=hrel;have aC:=O u;have aD:=O m;have HK:=O C;clear u m C;by_cases hjl:j<b.length;rotate_left
   .have ak:¬(j:Int)<(b.length:Int):=I
    have K:=O (GZ j hjl);go_wp2;refine⟨⟨a+1,I,by go_num,aC,aD,?_⟩,by simp[intOf];omega⟩;rw[HA.o];exact IW (hi:=hlt) (by rw[HV.o,HK.o,K.o];rfl)
   have ak:(j:Int)<(b.length:Int):=I
   obtain⟨U,ar,aj,Z⟩:=L.o.get' j hjl;subst ar;have c2:=QN aD Z aj
   have ap:=T _ (ZT hjl);have f:=O (Ld (tag:=tag) (oct:=oct) (v:=v) hjl);generalize b[j]=k at *;clear Z;go_wp2_with fail;refine(HW _ v k aC S ap).mono ?_;rintro e w3 ⟨N,ah⟩;have r:=O (aC.o.trans (N.mono aC.size));have af:=O (aD.o.trans (N.mono aD.size));clear N;rcases ah with⟨c,rfl⟩ | ⟨c,q,rfl⟩ | ⟨c,t,g3,c3,q,rfl,az,ac⟩
   .rw[c]at f;clear c;go_wp2;refine⟨⟨j+1,I,by go_num,r,af,?_⟩,by simp[intOf];omega⟩;rw[HK.o,f.o];rfl
   .rw[c]at f;have aG:=O q;clear c q;go_wp2;go_ret;have E:=M0 (s:=s) (tag:=tag) (oct:=oct) (vals:=vals) (keys:=keys) (v:=v) (k:=k) (by rw[aE.o,HA.o,BL (hi:=hlt) (k:=k) (by rw[HV.o,HK.o,f.o];rfl),HV.o]) aG;rw[E];exact⟨rfl,HS.o.below r,Fr.of_below r⟩
   .rw[c]at f;have aG:=O q;have P:=M4 q;obtain⟨av,mb,tv,mv,n⟩:=HS.o.below r;have aF:=O n;have ax:=n.cell 6;have ay:=n.frozen 6;have aJ:=O ac;have aA:=P.2;have ag:=O P.1;clear c q n ac P;go_wp2;go_ret;have E:=IX (s:=s) (tag:=tag) (oct:=oct) (vals:=vals) (keys:=keys) (v:=v) (k:=k) (t:=t) (by rw[aE.o,HA.o,BL (hi:=hlt) (k:=k) (by rw[HV.o,HK.o,f.o];rfl),HV.o]) aG;rw[E];refine⟨rfl,⟨av,mb,_,mv,aF.setTold t _ (Qr ⟨g3,c3,rfl,aJ⟩) (fun x hx=>QE (ag x hx) S) I⟩,?_⟩;exact(Fr.of_below r).set aF.blk aF.ps _ _
theorem QtF(p q:Nat){J:Nat}
 (hw:∀W v k,Qo w W->v.length<=100000->k.length<=100000->Calls prog 264 #[Qf v,Qf k,Qc p,Qc q] W (NV tag oct v k W))
 (h:SAt w B J M s) (G:SlT w vv vals) (ac:SlT w kv keys) (ae:∀z∈vals,z.length<=100000) (R:∀z∈keys,z.length<=100000) (aC:vals.length<=1000000000000) (ab:keys.length<=1000000):Calls prog 207 #[Qc J,QA 264 #[] #[Qc p,Qc q],vv,kv] w (NT (askL s tag oct vals keys) B J M w):=by
 obtain⟨va,vc,ax⟩:=G.len;subst ax;have aM:=O G;have HS:=O h;have HW:=O hw;have aL:=O ae;go_enter func207,ntmps207;go_wp2_with fail;refine(AB h ac (fun z hz=>QE (R z hz) Qb) ab).mono ?_;rintro e K ⟨v1,rfl,S,Y⟩;have N:=O (SlT.of_owns S Qh);have aI:=O Y;obtain⟨ta,tc,av⟩:=Zj S;subst av;have af:∀y∈keys.map (expL s),y.length<=100000:=AH s R Qb;have H:keys.length=(keys.map (expL s)).length:=Qh
 obtain⟨b,E⟩:=Qw (keys.map (expL s));have aF:=O E;have U:=O af;rw[E]at N U H;rw[H]at ab N;rw[H];clear S af H Y ac R h G ae hw E;go_wp2_with fail
 go_loopw [10,12,13,14,20] (fun _ _ _ _ i wr=>∃(a:Nat),a<=vals.length/\i=Qa (a:Int)/\Qo w wr/\Qo K wr/\Yz tag oct b vals=Yz tag oct b (vals.drop a)) (fun _ _ _ _ i _=>vals.length-(intOf i).toNat)
 case atStart=>exact⟨0,QR,rfl,aI,QO _ _,rfl⟩
 case round=>
  obtain⟨a,ha,rfl,l,X,C⟩:=hrel;have HB:=O l;have aJ:=O X;have HA:=O C;clear l X C;by_cases hlt:a<vals.length;rotate_left
  .have ap:¬(a:Int)<(vals.length:Int):=I
   have L:=O (GZ a hlt);go_wp2;go_ret;have F:=LD (s:=s) (tag:=tag) (oct:=oct) (vals:=vals) (keys:=keys) (by rw[aF.o,HA.o,L.o];rfl);rw[F];exact⟨rfl,HS.o.below HB,Fr.of_below HB⟩
  have ap:(a:Int)<(vals.length:Int):=I
  obtain⟨g,ar,aj,Z⟩:=aM.o.get' a hlt;subst ar;have c1:=QN HB Z aj
  have T:=aL _ (ZT hlt);obtain⟨v,d⟩:=Qw (vals[a]);have HV:=O d;rw[d]at c1 T;clear d Z;go_wp2_with fail
  go_loopw [12,13,14,26] (fun _ _ _ i wr=>∃(j:Nat),j<=b.length/\i=Qa (j:Int)/\Qo w wr/\Qo K wr/\Jh tag oct v b=Jh tag oct v (b.drop j)) (fun _ _ _ i _=>b.length-(intOf i).toNat)
  case atStart=>exact⟨0,QR,rfl,HB,aJ,rfl⟩
  case round=>
   obtain⟨j,hj,rfl,A,m,D⟩:=hrel;have aD:=O A;have aE:=O m;have HK:=O D;clear A m D;by_cases hjl:j<b.length;rotate_left
   .have ao:¬(j:Int)<(b.length:Int):=I
    have L:=O (GZ j hjl);go_wp2;refine⟨⟨a+1,I,by go_num,aD,aE,?_⟩,by simp[intOf];omega⟩;rw[HA.o];exact IW (hi:=hlt) (by rw[HV.o,HK.o,L.o];rfl)
   have ao:(j:Int)<(b.length:Int):=I
   obtain⟨V,au,ak,aa⟩:=N.o.get' j hjl;subst au;have c2:=QN aE aa ak
   have aq:=U _ (ZT hjl);have f:=O (Ld (tag:=tag) (oct:=oct) (v:=v) hjl);generalize b[j]=k at *;clear aa;go_wp2_with fail;refine(HW _ v k aD T aq).mono ?_;rintro e w3 ⟨P,ai⟩;have u:=O (aD.o.trans (P.mono aD.size));have ag:=O (aE.o.trans (P.mono aE.size));clear P;rcases ai with⟨c,rfl⟩ | ⟨c,r,rfl⟩ | ⟨c,t,g3,c3,r,rfl,aA,ad⟩
   .rw[c]at f;clear c;go_wp2;refine⟨⟨j+1,I,by go_num,u,ag,?_⟩,by simp[intOf];omega⟩;rw[HK.o,f.o];rfl
   .rw[c]at f;have aH:=O r;clear c r;go_wp2;go_ret;have F:=M0 (s:=s) (tag:=tag) (oct:=oct) (vals:=vals) (keys:=keys) (v:=v) (k:=k) (by rw[aF.o,HA.o,BL (hi:=hlt) (k:=k) (by rw[HV.o,HK.o,f.o];rfl),HV.o]) aH;rw[F];exact⟨rfl,HS.o.below u,Fr.of_below u⟩
   .rw[c]at f;have aH:=O r;have Q:=M4 r;obtain⟨aw,mb,tv,mv,n⟩:=HS.o.below u;have aG:=O n;have ay:=n.cell 6;have az:=n.frozen 6;have aK:=O ad;have aB:=Q.2;have ah:=O Q.1;clear c r n ad Q;go_wp2;go_ret;have F:=IX (s:=s) (tag:=tag) (oct:=oct) (vals:=vals) (keys:=keys) (v:=v) (k:=k) (t:=t) (by rw[aF.o,HA.o,BL (hi:=hlt) (k:=k) (by rw[HV.o,HK.o,f.o];rfl),HV.o]) aH;rw[F];refine⟨rfl,⟨aw,mb,_,mv,aG.setTold t _ (Qr ⟨g3,c3,rfl,aK⟩) (fun x hx=>QE (ah x hx) T) I⟩,?_⟩;exact(Fr.of_below u).set aG.blk aG.ps _ _
theorem C4{c:Nat}{e:Value}(hw:WayV w tag oct u)
 (h:SAt w B c M s) (t:SlT w e vals) (i:SlT w d keys) (o:∀z∈vals,z.length<=100000) (f:∀z∈keys,z.length<=100000) (r:vals.length<=1000000000000) (g:keys.length<=1000000):Calls prog 207 #[Qc c,u,e,d] w (NT (askL s tag oct vals keys) B c M w):=by
 rcases hw with⟨rfl,p,rfl,a⟩ | ⟨p,q,rfl,l,C⟩
 .refine Tm 3 p (fun W v k b x y=>?_) h t i o f r g;exact QzZ p I I ((QN b a (QX a)))
 .refine QtF p q (fun W v k b x y=>?_) h t i o f r g;have n:=(QN b l (QX l));rcases C with⟨rfl,a⟩ | ⟨rfl,a⟩
  .exact Sn p q I I n ((QN b a (QX a)))
  .obtain⟨D,E,G,F,A⟩:=h;obtain⟨m,j⟩:=A.m1;exact RJ p q I I n ((QN b a (QX a))) m ((QN b j (QX j)))
theorem WayV.below(h:WayV w tag oct f)(g:Qo w w'):WayV w' tag oct f:=by
 have k:∀(p:Nat) (v:Value),w.cell? (Ql p 0)=some v->w'.cell? (Ql p 0)=some v:=fun p v e=>(QN g e (QX e))
 rcases h with⟨b,p,c,a⟩ | ⟨p,q,b,c,⟨a,d⟩ | ⟨a,d⟩⟩
 .exact Qt ⟨b,p,c,k _ _ a⟩
 .exact Qr ⟨p,q,b,k _ _ c,Qt ⟨a,k _ _ d⟩⟩
 .exact Qr ⟨p,q,b,k _ _ c,Qr ⟨a,k _ _ d⟩⟩
theorem WayV.fn{c:Value}(h:WayV w tag oct c):∃F b,c=.func (.func F) #[] b:=by
 rcases h with⟨a,p,d,e⟩ | ⟨p,q,a,_⟩
 .exact⟨_,_,d⟩
 .exact⟨_,_,a⟩
theorem Te{b:Nat}{xs:Qn}{l:Value}(hw:WayV w tag oct f)
 (h:SAt w B b M s) (r:SlT w l xs) (c:SlT w d keys) (k:∀z∈xs,z.length<=100000) (n:∀z∈keys,z.length<=100000) (q:xs.length<=1000000) (p:keys.length<=1000000):Calls prog 160 #[Qc b,f,l,d] w (NT (askL s tag oct (xs.map (expL s)) keys) B b M w):=by
 have E:=O h;have F:=O hw;have D:=O c;clear hw c;go_enter func160,ntmps160;go_wp2_with fail;refine(AB h r (fun z t=>QE (k z t) Qb) q).mono ?_;rintro e v ⟨u,rfl,i,a⟩;have m:=O (SlT.of_owns i Qh);have y:=O a;clear i a h;go_wp2_with fail;refine Qv (C4 (F.o.below y) (E.o.below y) m (D.o.below y) (AH s k Qb) n (by simp;omega) p) ?_;rintro x ⟨j,g⟩;have A:=O j;have C:=O g;clear j g;go_wp2;go_ret;exact⟨rfl,A,(Fr.of_below y).trans C⟩
theorem FX(f:α->List β)(h:k<l.length):(l.take (k+1)).flatMap f=(l.take k).flatMap f++f l[k]:=by
 rw[Y4 h,List.flatMap_append];simp
theorem Hb(f:α->List β)(l:List α)(n:Nat)(h:∀a∈l,(f a).length<=n):(l.flatMap f).length<=l.length*n:=by
 induction l with
 |nil=>simp
 |cons a r ih=>
  rw[YS,Qz,Q1,Nat.succ_mul];have d:=h a Qh;have e:=ih (fun b c=>h b (by simp[c]));omega
theorem Qxd(M:Msg)(ps:Qn):(envL M ps).length<=ps.length:=by
 have:=Hb (fun p=>if zL p=[102,114,111,109]then [M.fr]else if zL p=[116,111]then [M.to]else []) ps 1 (fun a _=>by split<;>(try split)<;>simp);unfold envL;omega
theorem Qxo(b:SBd M s)(ps:Qn):∀z∈envL M ps,z.length<=100000:=by
 intro z c;unfold envL at c;obtain⟨p,_,a⟩:=Vq.1 c
 split at a
 .simp at a;rw[a];exact b.fr
 .split at a
  .simp at a;rw[a];exact b.tu
  .cases a
theorem SU{c:Nat}{H Z G:Value}(hw:WayV w tag oct H)
 (h:SAt w B c M s) (x:SlT w Z ps) (E:SlT w G keys) (ak:∀z∈ps,z.length<=100000) (af:∀z∈keys,z.length<=100000) (aq:ps.length<=1000000) (ag:keys.length<=1000000):Calls prog 159 #[Qc c,H,Z,G] w (NT (askL s tag oct (envL M ps) keys) B c M w):=by
 obtain⟨va,vc,ai⟩:=x.len;subst ai;have ay:=O x;have HS:=O h;have HW:=O hw;have ax:=O E;obtain⟨hv,mb,tv,mv,n⟩:=h;have T:=n.lt;have c0:=n.cell 0;have c1:=n.cell 1;have aa:=O n.bd;obtain⟨X,R,U,V,W⟩:=ZU Tryz.infoStr;clear hw E x n;go_enter func159,ntmps159;go_wp2_with fail
 go_loopw [9,11,14] (fun v _ i wr=>∃(k:Nat),k<=ps.length/\i=Qa (k:Int)/\wr.ownsRow w.heap.size 9 1 v (envL M (ps.take k)).length (QW (envL M (ps.take k)))/\Qo w wr) (fun _ _ i _=>ps.length-(intOf i).toNat)
 case atStart=>exact⟨0,QR,rfl,Z5,QO _ _⟩
 case round=>
  obtain⟨k,t,rfl,j,a⟩:=hrel;have F:=a.size;have ab:=Qxd M (ps.take k);have ao:(envL M (ps.take k)).length<=1000000:=by have:(ps.take k).length<=k:=List.length_take_le _ _;omega
  obtain⟨ar,au,aj⟩:=Zj j;subst aj;have HB:=O a;have av:=O j;clear a j ab;have d0:=(QN HB c0 T);have d1:=(QN HB c1 T);by_cases hlt:k<ps.length;rotate_left
  .have ae:k=ps.length:=I
   subst ae;have ad:¬(ps.length:Int)<(ps.length:Int):=I
   have J:Hid (envL M (ps.take ps.length)=envL M ps):=by show _=_;rw[Z7 QF]
   go_wp2_with fail;refine Qv (C4 (HW.o.below HB) (HS.o.below HB) (SlT.of_owns (by have:=av.o;rw[J.o]at this;exact this) rfl) (ax.o.below HB) (Qxo aa ps) af (by rw[<-J.o];omega) ag) ?_;rintro w2 ⟨S,Q⟩;have H2:=O S;have aw:=O Q;clear S Q;go_wp2;go_ret;exact⟨rfl,H2,(Fr.of_below HB).trans aw⟩
  have ad:(k:Int)<(ps.length:Int):=I
  obtain⟨g,ah,ac,N⟩:=ay.o.get' k hlt;subst ah;have e1:=QN HB N ac
  have ap:=ak _ (ZT hlt);have C:Hid (envL M (ps.take (k+1))=envL M (ps.take k)++(if zL ps[k]=[102,114,111,109]then [M.fr]else if zL ps[k]=[116,111]then [M.to]else [])):=FX _ hlt;have L:=K9 (zL ps[k]) [102,114,111,109];have D:=K9 (zL ps[k]) [116,111];have A:=O (Au ps[k] wr I);generalize ps[k]=p at *;generalize zL p=q at *;have Y:c<wr.heap.size:=I
  clear N;by_cases hf:q=[102,114,111,109]
  .rw[QU hf]at L;have m:Hid (envL M (ps.take (k+1))=envL M (ps.take k)++[M.fr]):=by show _=_;rw[C.o,Qi hf]
   clear hf D;go_wp2_with (first|(go_at_call 181;refine A.mono ?_;rintro e l ⟨rfl,b⟩;have d:=O (HB.o.trans (b.mono F));have f:=O (Yc (P:=fun _ _=>False) av (Fr.of_below b) (fun _ _ h=>h));have f0:l.cell? (Ql c 0)=some (Qf M.fr):=(QN b d0 Y);clear b)|(at_builtin;refine XM _ rfl _ _ 61 rfl w.heap.size 9 X _ 1 16 Uw R U V W rfl Qb _ _ _ rfl (f.o.alloc _) ⟨l.heap.size,0,none⟩ 1 1 [Qf M.fr] rfl rfl (V2 _ _ _) (AU) (by unfold maxLen;omega) I (by have:=d.size;simp;omega) ?_;intro v5 w5 u r _;have y:=O (UD d d.size r (fun k t=>(f.o.lt k t).1));have K:=O u;clear u r));go_roundw
   case rel=>
    refine⟨k+1,I,by go_num,?_,y⟩;rw[m.o,<-Jw,Qz];exact K
   case measure=>simp[intOf];omega
  rw[QB hf]at L;by_cases ht:q=[116,111]
  .rw[QU ht]at D;have m:Hid (envL M (ps.take (k+1))=envL M (ps.take k)++[M.to]):=by show _=_;rw[C.o,Qg hf,Qi ht]
   clear hf ht;go_wp2_with (first|(go_at_call 181;refine A.mono ?_;rintro e l ⟨rfl,b⟩;have d:=O (HB.o.trans (b.mono F));have f:=O (Yc (P:=fun _ _=>False) av (Fr.of_below b) (fun _ _ h=>h));have f1:l.cell? (Ql c 1)=some (Qf M.to):=(QN b d1 Y);clear b)|(at_builtin;refine XM _ rfl _ _ 61 rfl w.heap.size 9 X _ 1 16 Uw R U V W rfl Qb _ _ _ rfl (f.o.alloc _) ⟨l.heap.size,0,none⟩ 1 1 [Qf M.to] rfl rfl (V2 _ _ _) (AU) (by unfold maxLen;omega) I (by have:=d.size;simp;omega) ?_;intro v5 w5 u r _;have y:=O (UD d d.size r (fun k t=>(f.o.lt k t).1));have K:=O u;clear u r));go_roundw
   case rel=>
    refine⟨k+1,I,by go_num,?_,y⟩;rw[m.o,<-Jw,Qz];exact K
   case measure=>simp[intOf];omega
  .rw[QB ht]at D;have m:Hid (envL M (ps.take (k+1))=envL M (ps.take k)):=by show _=_;rw[C.o,Qg hf,Qg ht,J3]
   clear hf ht;go_wp2_with (first|(go_at_call 181;refine A.mono ?_;rintro e l ⟨rfl,b⟩;have d:=O (HB.o.trans (b.mono F));have f:=O (Yc (P:=fun _ _=>False) av (Fr.of_below b) (fun _ _ h=>h));clear b));go_roundw
   case rel=>
    refine⟨k+1,I,by go_num,?_,d⟩;rw[m.o];exact f
   case measure=>simp[intOf];omega
theorem We(p:L8×L8->Bool){b:Nat}(h:b<a.length):((a.take (b+1)).filter p).map (·.2)=((a.take b).filter p).map (·.2)++(if p a[b]then [a[b].2]else []):=by
 rw[Y4 h,List.filter_append,KC];by_cases hp:p a[b]=true<;>simp[hp]
theorem Tk(M:Msg)(b:Qn):(fieldsL M b).length<=b.length*M.hdrs.length:=by
 unfold fieldsL;exact Hb _ b _ (fun a _=>by rw[XB];exact List.length_filter_le _ _)
theorem Wc(b:SBd M s)(e:Qn):∀z∈fieldsL M e,z.length<=100000:=by
 intro z a;unfold fieldsL at a;obtain⟨n,_,d⟩:=Vq.1 a;obtain⟨h,c,rfl⟩:=List.mem_map.1 d;exact(b.hd h (List.mem_filter.1 c).1).2
theorem DA{a b:Value}:(w.alloc (Qe #[a,b] t)).cell? (Ql w.heap.size 0)=some a/\(w.alloc (Qe #[a,b] t)).cell? (Ql w.heap.size 1)=some b:=by
 constructor<;>rw[Qj (Q0 (w:=w))]<;>rfl
theorem Qui{d:Nat}{xs:Qn}{wv xv:Value}(hw:WayV w tag oct wv)
 (h:SAt w B d M s) (ay:SlT w xv xs) (ab:SlT w kv keys) (af:∀z∈xs,z.length<=100000) (aN:∀z∈keys,z.length<=100000) (ax:xs.length<=1000000) (aO:keys.length<=1000000):Calls prog 158 #[Qc d,wv,xv,kv] w (NT (askL s tag oct (fieldsL M (xs.map (expL s))) keys) B d M w):=by
 have HS:=O h;have HW:=O hw;have bc:=O ab;obtain⟨hv,mb,tv,mv,r⟩:=h;have av:=r.lt;obtain⟨W,X,aK⟩:=r.hd.len;subst aK;have aC:=O r.hd;have c3:w.cell? (Ql d 3)=some (.slice W M.hdrs.length X):=r.cell 3;have ag:=O r.bd;have aJ:=r.bd.hl;obtain⟨i0,hi,aW,aX,aY⟩:=ZU Tryz.infoStr;clear hw ab r;go_enter func158,ntmps158;go_wp2_with fail;refine(AB HS ay (fun z hz=>QE (af z hz) Qb) ax).mono ?_;rintro e m ⟨v1,rfl,ad,F⟩;have U:=O (SlT.of_owns ad Qh);have a9:=O F;obtain⟨ta,tc,aT⟩:=Zj ad;subst aT;have az:∀y∈xs.map (expL s),y.length<=100000:=AH s af Qb;have R:xs.length=(xs.map (expL s)).length:=Qh
 obtain⟨c,ac⟩:=Qw (xs.map (expL s));have bf:=O ac;have ah:=O az;rw[ac]at U ah R;rw[R]at ax U;rw[R];have aE:m.cell? (Ql d 3)=some (.slice W M.hdrs.length X):=(QN F c3 av);have aS:d<m.heap.size:=Yq av F.size;clear ad az R F ay af ac c3;go_wp2_with fail
 go_loopw [9,11,13,18] (fun v _ _ i wr=>∃(a:Nat),a<=c.length/\i=Qa (a:Int)/\wr.ownsRow m.heap.size 9 1 v (fieldsL M (c.take a)).length (QW (fieldsL M (c.take a)))/\Qo w wr/\Qo m wr) (fun _ _ _ i _=>c.length-(intOf i).toNat)
 case atStart=>exact⟨0,QR,rfl,Z5,a9,QO _ _⟩
 case round=>
  obtain⟨a,aZ,rfl,G,u,D⟩:=hrel;have ap:=Tk M (c.take a)
  have aF:(fieldsL M (c.take a)).length<=a*100000:=by
   have h1:(c.take a).length<=a:=List.length_take_le _ _;exact QE ap (Nat.mul_le_mul h1 aJ)
  obtain⟨a0,a2,aU⟩:=Zj G;subst aU;have HB:=O u;have ba:=O D;have a7:=O G;have d3:wr.cell? (Ql d 3)=some (.slice W M.hdrs.length X):=(QN D aE aS);clear u D G ap;by_cases hlt:a<c.length;rotate_left
  .have aa:a=c.length:=I
   subst aa;have aM:¬(c.length:Int)<(c.length:Int):=I
   have HE:Hid (fieldsL M (c.take c.length)=fieldsL M c):=by show _=_;rw[Z7 QF]
   have aG:(fieldsL M (c.take c.length)).length<=1000000000000:=I
   go_wp2_with fail;refine Qv (C4 (HW.o.below HB) (HS.o.below HB) (SlT.of_owns (by have:=a7.o;rw[HE.o]at this;exact this) rfl) (bc.o.below HB) (Wc ag c) aN (by rw[<-HE.o];exact aG) aO) ?_;rintro w2 ⟨au,ao⟩;have H2:=O au;have bb:=O ao;clear au ao;go_wp2;go_ret;rw[bf.o];exact⟨rfl,H2,(Fr.of_below HB).trans bb⟩
  have aM:(a:Int)<(c.length:Int):=I
  obtain⟨g,aP,aH,ai⟩:=U.o.get' a hlt;subst aP;have e1:=QN ba ai aH
  have aR:=ah _ (ZT hlt);have S:Hid (fieldsL M (c.take (a+1))=fieldsL M (c.take a)++(M.hdrs.filter (X9 · c[a])).map (·.2)):=FX _ hlt;obtain⟨n,hn⟩:=Qw (c[a]);rw[hn]at e1 aR S;obtain⟨T,V⟩:=Qw (fieldsL M (c.take a));rw[V]at S a7 aF;clear ai hn;rw[V];clear V;go_wp2_with fail
  go_loopw [9,13,28] (fun v _ i wr=>∃(b:Nat),b<=M.hdrs.length/\i=Qa (b:Int)/\wr.ownsRow m.heap.size 9 1 v (T++((M.hdrs.take b).filter (X9 · n)).map (·.2)).length (QW (T++((M.hdrs.take b).filter (X9 · n)).map (·.2)))/\Qo w wr/\Qo m wr) (fun _ _ i _=>M.hdrs.length-(intOf i).toNat)
  case atStart=>exact⟨0,QR,rfl,by simpa using a7.o,HB,ba⟩
  case round=>
   obtain⟨b,hb,rfl,t,q,j⟩:=hrel;have aw:w.heap.size<=wr.heap.size:=q.size
   have ae:(T++((M.hdrs.take b).filter (X9 · n)).map (·.2)).length<=a*100000+100000:=by
    rw[Qz,XB];have h1:=List.length_filter_le (X9 · n) (M.hdrs.take b);have h2:(M.hdrs.take b).length<=b:=List.length_take_le _ _;omega
   obtain⟨Q,E⟩:=Qw (T++((M.hdrs.take b).filter (X9 · n)).map (·.2));have a8:=O E;rw[E]at t ae;clear E;obtain⟨a1,a3,aV⟩:=Zj t;subst aV;have a5:=O q;have a4:=O j;have a6:=O t;clear q j t;by_cases hbl:b<M.hdrs.length;rotate_left
   .have aa:b=M.hdrs.length:=I
    subst aa;have aL:¬(M.hdrs.length:Int)<(M.hdrs.length:Int):=I
    go_wp2;refine⟨⟨a+1,I,by go_num,?_,a5,a4⟩,by simp[intOf];omega⟩;have:=a8.o;rw[Z7 QF]at this;rw[S.o,this];exact a6
   have aL:(b:Int)<(M.hdrs.length:Int):=I
   obtain⟨K,aQ,aq,aj,ak⟩:=aC.o.get' b hbl;subst aQ;have f1:=QN a5 aj aq
   have f2:=QN a5 ak aq
   have aI:=(ag.hd _ (ZT hbl)).1;have A:=O (We (X9 · n) hbl);generalize M.hdrs[b]=hd at *;obtain⟨L,N⟩:=hd;dsimp only at f1 f2 aI A;have J:=O (Lt (L,N) n);clear aj ak;cases hnm:X9 (L,N) n
   .rw[hnm]at A J;go_wp2_with (first|(go_at_call 206;refine Qv (J _ (by show L.length<=_;omega) I) ?_;rintro w3 f;have H:=O ((a5.o.alloc aw _).trans (f.mono (by simp;omega)));have x:=O ((a4.o.alloc a4.size _).trans (f.mono (by have:=a4.size;simp;omega)));have C:=O (Yc (P:=fun _ _=>False) (a6.o.alloc _) (Fr.of_below f) (fun _ _ h=>h));clear f));refine⟨⟨b+1,I,by go_num,?_,H,x⟩,by simp[intOf];omega⟩;rw[A.o,Qg Qb,J3,a8.o];exact C
   .rw[hnm]at A J;have HQ:Hid (∀l:Qn,l.length<=a*100000+100000->l.length+1<=maxLen/\(l.length+1)*16<=140737488355328):=fun l hl=>by unfold maxLen;omega
    go_wp2_with (first|(go_at_call 206;refine Qv (J _ (by show L.length<=_;omega) I) ?_;rintro w3 f;have H:=O ((a5.o.alloc aw _).trans (f.mono (by simp;omega)));have x:=O ((a4.o.alloc a4.size _).trans (f.mono (by have:=a4.size;simp;omega)));have C:=O (Yc (P:=fun _ _=>False) (a6.o.alloc _) (Fr.of_below f) (fun _ _ h=>h));have q1:w3.cell? (Ql wr.heap.size 1)=some (Qf N):=(f.cell (p:=⟨wr.heap.size,1,none⟩) Qh).trans (DA).2;clear f)|(at_builtin;refine XM _ rfl _ _ 61 rfl m.heap.size 9 i0 _ 1 16 Uw hi aW aX aY rfl Qb _ _ _ rfl (C.o.alloc _) ⟨w3.heap.size,0,none⟩ 1 1 [Qf N] rfl rfl (V2 _ _ _) (AU) (HQ _ ae).1 (HQ _ ae).2 (by have:=x.size;simp;omega) ?_;intro v5 w5 ar Y _;have aA:=O (UD H H.size Y (fun k Z=>QE a9.size (C.o.lt k Z).1));have aB:=O (UD x x.size Y (fun k Z=>(C.o.lt k Z).1));have aD:=O ar;clear ar Y));refine⟨⟨b+1,I,by go_num,?_,aA,aB⟩,by simp[intOf];omega⟩;rw[A.o,Qi trivial,<-YG,a8.o,<-Jw,Qz];exact aD
theorem Tryz.infoAction:(prog.info? 52).map (fun i=>(i.zero,i.size,i.bytes))=some (some (.agg #[Qa 0,.string ⟨#[]⟩]),2,24):=Qm
theorem PH(a b:Int×L8)(W:World):(binOp .eql 52 (.agg #[Qa a.1,Qf a.2]) (.agg #[Qa b.1,Qf b.2])).run prog W=.ok (.bool (decide (a=b))) W:=by
 have c:=LS a.2 b.2;have d:prog.underlying 52=some (.struct (prog.fieldsOf 52)):=Qm
 have f:prog.stoodInHeld 52=false:=Qm
 have e:(prog.fieldsOf 52).toList=[⟨ "Kind",3,0,false, "", "",0⟩,⟨ "Arg",9,1,false, "", "",8⟩]:=Qm
 rw[run_eql_struct,run_equalIn_struct W _ _ _ _ d f,e];simp[Op.eqFields,go_sem,Result.andThen,c];obtain⟨x,y⟩:=a;obtain⟨z,u⟩:=b;by_cases h1:x=z<;>by_cases h2:y=u<;>simp[h1,h2]
def Vj(a:Int×L8)(l:List (Int×L8)):Bool:=l.any fun x=>decide (a=x)
theorem Mq{a:Int×L8}{l:List (Int×L8)}:Vj a l=true↔a∈l:=by
 unfold Vj;simp
theorem R0(a:Int×L8){l:List (Int×L8)}(h:k<l.length):Vj a (l.drop k)=(decide (a=l[k]) || Vj a (l.drop (k+1))):=by
 rw[Xt h];rfl
def geB(i:Int):Bool:=decide (0<=i)
theorem SP{q:Value}{a:Int×L8}(l:w.ownsRow base 52 2 q met.length (ZG met))(B:met.length<=1000000):Calls prog 286 #[q,.agg #[Qa a.1,Qf a.2]] w fun e w'=>∃i:Int,e=.returned (Qa i)/\geB i=Vj a met/\Qo w w':=by
 obtain⟨la,C,t⟩:=Zj l;subst t;have F:=O l;clear l;go_enter func286,ntmps286;go_wp2
 go_loopw [5,8] (fun _ i wr=>∃(k:Nat),k<=met.length/\i=Qa (k:Int)/\Qo w wr/\wr.cell? (Ql w.heap.size 0)=some (Qa a.1)/\wr.cell? (Ql w.heap.size 1)=some (Qf a.2)/\Vj a met=Vj a (met.drop k)) (fun _ i _=>met.length-(intOf i).toNat)
 case atStart=>exact⟨0,QR,rfl,QH _,(DA).1,(DA).2,rfl⟩
 case round=>
  obtain⟨k,A,rfl,b,u,v,f⟩:=hrel;have D:=O b;have E:=O f;clear b f;by_cases hlt:k<met.length;rotate_left
  .have r:¬(k:Int)<(met.length:Int):=I
   have d:=O (GZ k hlt);go_wp2;go_ret;exact⟨-1,rfl,by rw[E.o,d.o];rfl,D⟩
  have r:(k:Int)<(met.length:Int):=I
  obtain⟨g,c,s,z,n,hcells⟩:=Jo F I;injection s with hla1 hla2 hla3
  subst hla1;have j:=V9 k hlt;have x:wr.cell? ⟨g,k*2,none⟩=some (Qa met[k].1):=by rw[D.o.cell (p:=⟨g,k*2,none⟩) n];exact hcells _ _ j.1
  have y:wr.cell? ⟨g,k*2+1,none⟩=some (.string (sA met[k].2)):=by rw[D.o.cell (p:=⟨g,k*2+1,none⟩) n];exact hcells _ _ j.2
  have d:=O (R0 a hlt);have m:∀W,(binOp .eql 52 (.agg #[Qa a.1,Qf a.2]) (.agg #[Qa met[k].1,.string (sA met[k].2)])).run prog W=.ok (.bool (decide (a=met[k]))) W:=PH a met[k];clear hcells j hla3;cases hb:decide (a=met[k])
  .rw[hb]at d;simp only[hb]at m;go_wp2_with fail;go_quiet (fail)
   all_goals go_wp2
   go_roundw
   case rel=>exact⟨k+1,I,by go_num,V4 D,u,v,by rw[E.o,d.o];rfl⟩
   case measure=>simp[intOf];omega
  .rw[hb]at d;simp only[hb]at m;go_wp2_with fail;go_quiet (fail)
   all_goals go_wp2
   go_ret;exact⟨k,rfl,by rw[E.o,d.o];exact(QU I:geB (k:Int)=true),V4 D⟩
theorem Fk{a:Int×L8}(d:w.ownsRow base 52 2 f met.length (ZG met))(j:met.length<=1000000):Calls prog 270 #[f,.agg #[Qa a.1,Qf a.2]] w fun e w'=>e=.returned (.bool (Vj a met))/\Qo w w':=by
 obtain⟨la,l,k⟩:=Zj d;subst k;go_enter func270,ntmps270;go_wp2_with fail;refine(SP (d.alloc _) j).mono ?_;rintro e m ⟨i,rfl,c,b⟩;have n:=O c;have g:=O (((QO w.heap.size w).alloc QF _).trans (b.mono Qh));clear c b;go_wp2
 all_goals go_ret
 all_goals exact⟨Zf (by rw[<-n.o];rfl),g⟩
theorem WZ(s:ByteArray)(w:World)(h:s.size<=1000000):Calls prog 272 #[.string s] w fun e w'=>e=.returned (.string s)/\Qo w w':=by
 go_enter func272,ntmps272;go_wp2_with fail;refine Qv (Tryz.stringslite_Clone s w I) ?_;rintro b a;have c:=O a;clear a;go_wp2;go_ret;exact⟨rfl,c⟩
def Nw(met:List (Int×L8))(kind:Int):Bool:=!met.isEmpty&&(decide (kind=4) || decide ((met.headD (0,[])).1=4))
theorem JG(a b:Int):(a==b)=decide (a=b):=rfl
theorem RZ(j:Nat){i:Value}{a:Int×L8}(d:w.cell? (Ql j 7)=some i)(b:w.ownsRow base 52 2 i met.length (ZG met))(k:met.length<=1000000):Calls prog 271 #[.pointer (some ⟨j,7,none⟩),.agg #[Qa a.1,Qf a.2]] w fun e w'=>e=.returned (.bool (Nw met a.1))/\Qo w w':=by
 obtain⟨la,A,m⟩:=Zj b;subst m;have z:=QX d;by_cases h0:met.length=0
 .have p:=XV h0;subst p;go_enter func271,ntmps271;go_wp2;go_ret;exact⟨rfl,QH _⟩
 obtain⟨x,r,rfl⟩:∃x r,met=x::r:=by cases met with|nil=>exact absurd rfl h0|cons x r=>exact⟨x,r,rfl⟩
 have q:(0:Int)<((x::r).length:Int):=Qh
 obtain⟨g,c,l,v,y,hcells⟩:=Jo b Qh;injection l with hla1 hla2 hla3
 subst hla1;have s:=hcells 0 _ rfl;have HR:Hid (Nw (x::r) a.1=(decide (a.1=4) || decide (x.1=4))):=rfl;have t:=JG a.1 4;have u:=JG x.1 4;obtain⟨n,f⟩:=Qw ((x::r).length);rw[f]at d q k;generalize decide (a.1=4)=b1 at *;generalize decide (x.1=4)=b2 at *;clear hcells b hla3 f h0
 cases b1<;>cases b2 <;>
 (go_enter func271,ntmps271
  go_wp2;go_ret
  exact ⟨Zf (by rw [HR.o];rfl),QH _⟩)
theorem SBd.met'(b:SBd M s)(l:List (Int×L8))(h:l.length<=6):SBd M (Y2 s l):=⟨b.fr,b.tu,b.hl,b.hd,b.told,b.tl,b.vals,h⟩
theorem SI.regrow{d:World}{f:Nat}{y:Value}{z:Nat}(h:SI w B f M s y z C A)(hf:Fr (fun k _=>A.ownBlock=some k) w d)(v':Value)(met':List (Int×L8))(i:d.ownsRow B 52 2 v' met'.length (ZG met'))(L:met'.length<=6)(P:met'≠[]):SI (d.setCell ⟨f,7,none⟩ v') B f M (Y2 s met') y z C v'/\Fr (PSt B) w (d.setCell ⟨f,7,none⟩ v'):=by
 have p:∀(k:Nat) (o:Obj),w.heap[k]?=some o->(∀b,o≠.cells b 52)->d.heap[k]?=some o:=fun k o hk i=>by
  refine hf.block k o hk (fun e=>?_);obtain⟨_,b,v⟩:=JS h.met e hk;exact i b v
 have l:=p f _ h.blk (fun b e=>by injection e with e1 e2;exact absurd e2 Qb);have H:Fr (fun k _=>k=f) d (d.setCell ⟨f,7,none⟩ v'):=(Fr.refl _ d).set l rfl 7 v';have n:∀(k:Nat) (o:Obj),d.heap[k]?=some o->(∀b,o≠.cells b 274)->(d.setCell ⟨f,7,none⟩ v').heap[k]?=some o:=fun k o hk i=>H.block k o hk (fun e=>by subst e;rw[l]at hk;cases hk;exact i _ rfl)
 obtain⟨F,c,N,Q⟩:=h.mp;obtain⟨m,x⟩:=h.m1;have hl1:∃o,w.heap[1]?=some o:=⟨_,GB (QX x)⟩;obtain⟨o1,hl1⟩:=hl1;refine⟨⟨h.bs,h.bm,h.b1,⟨m,?_⟩,?_,?_,⟨F,c,n _ _ (p _ _ N (fun b e=>by cases e)) (fun b e=>by cases e),Q⟩,?_,?_,fun e=>absurd e P,h.bd.met' met' L⟩,?_⟩
 .have R:(1:Nat)≠f:=by have:=h.b1;have:=h.bs;omega
  have n2:=hf.block 1 o1 hl1 (fun e=>by
   obtain⟨hb,_⟩:=JS h.met e hl1
   have:=h.b1;omega)
  rw[Xo (a:=⟨1,0,none⟩) (w:=w) ((Q' R).trans (n2.trans hl1.symm))];exact x
 .exact QM l
 .rcases h.hd with q | ⟨g,c,b,j,hb,u⟩
  .exact Qt q
  .exact Qr ⟨g,c,b,j,n _ _ (p _ _ hb (fun b e=>by injection e with e1 e2;exact absurd e2 Qb)) (fun b e=>by injection e with e1 e2;exact absurd e2 Qb),u⟩
 .rcases h.told with q | ⟨g,c,j,b,hb,u⟩
  .exact Qt q
  .exact Qr ⟨g,c,j,b,n _ _ (p _ _ hb (fun b e=>by injection e with e1 e2;exact absurd e2 Qb)) (fun b e=>by injection e with e1 e2;exact absurd e2 Qb),u⟩
 .obtain⟨G,t⟩:=i;refine⟨G,?_⟩;rcases t with t | ⟨g,D,E,j,J,K,r⟩
  .exact Qt t
  .exact Qr ⟨g,D,E,j,J,n _ _ K (fun b e=>by injection e with e1 e2;exact absurd e2 Qb),r⟩
 .refine(Fr.mono ⟨hf.os,hf.tape,hf.output,hf.size,fun k o hk hn=>?_⟩ (fun k o h=>h)).set l ⟨h.bs,rfl⟩ 7 v'
  exact hf.block k o hk (fun e=>hn (by
   obtain⟨hb,b,v⟩:=JS h.met e hk;subst v
   exact ⟨hb,rfl⟩))
theorem GQ(h:w.ownsRow base e size v n xs){b:Nat}(m:v.ownBlock≠some b){x:Value}:(w.setCell ⟨b,j,none⟩ x).ownsRow base e size v n xs:=by
 obtain⟨i,a⟩:=h;refine⟨i,?_⟩;rcases a with a | ⟨g,d,f,c,k,l,r⟩
 .exact Qt a
 .refine Qr ⟨g,d,f,c,k,?_,r⟩;rw[Q' (show g≠b from fun e=>m (by rw[c,e];rfl))];exact l
def Gf(s:SS)(kind:Int)(arg:L8)(B sb:Nat)(M:Msg)(w:World)(e:Ending)(w':World):Prop:=
 e=.returned (Qa (addL s.met kind arg).1)/\SAt w' B sb M (Y2 s (addL s.met kind arg).2)/\Fr (PSt B) w w'
theorem QuP{kind:Int}(b:¬(kind=2/\isBoxL arg=false))(c:¬(kind=3/\isAddrL arg=false)):addL met kind arg =
 (if Vj (kind,cutArg kind arg) met=true then(0,met)else if Nw met kind=true then(10,met)else if met.length=6 then(11,met)else(0,met++[(kind,cutArg kind arg)])):=by
 unfold addL;rw[Qg b,Qg c];by_cases hm:(kind,cutArg kind arg)∈met
 .rw[Qi hm,Qi ((Mq).2 hm)]
 rw[Qg hm,Qg (fun h=>hm ((Mq).1 h))]
 have a:Nw met kind=true↔(met≠[]/\(kind=4\/(met.headD (0,[])).1=4)):=by
  unfold Nw;cases met<;>simp
 by_cases hcc:met≠[]/\(kind=4\/(met.headD (0,[])).1=4)
 .rw[Qi hcc,Qi (a.2 hcc)]
 .rw[Qg hcc,Qg (fun h=>hcc (a.1 h))]
theorem O_(x:Int×L8):∀j u,[Value.int .i64 x.1,Qf x.2][j]?=some u->(w.alloc (Qe #[Qa x.1,Qf x.2] t)).cell? ((⟨w.heap.size,0,none⟩:Addr).add j)=some u:=by
 intro j u a
 match j,a with
 |0,a=>simp at a;subst a;simp[Addr.add]
 |1,a=>simp at a;subst a;simp[Addr.add]
theorem Pu(x:Int×L8):∀u∈[Value.int .i64 x.1,Value.string (sA x.2)],u.oneCell'=true:=by
 intro u a;simp at a;rcases a with rfl|rfl<;>rfl
theorem Pc(B b:Nat)(M:Msg)(s:SS)(kind:Int)(arg:L8)(w:World)(h:SAt w B b M s)(hl:arg.length<=1000000):Calls prog 252 #[.pointer (some ⟨b,7,none⟩),.agg #[.int .i64 kind,.string (sA arg)]] w (Gf s kind arg B b M w):=by
 have y:=O h;obtain⟨hv,mb,tv,mv,l⟩:=h;have aR:=O l;have aB:=l.lt;have c7:w.cell? ⟨b,7,none⟩=some mv:=l.cell 7;obtain⟨la,f,az⟩:=Zj l.met;subst az;have aM:=l.bd.met;have hz:=Zc arg;have J:=JG kind 2;have K:=JG kind 3;have L:=JG kind 4;obtain⟨i0,hi,aC,aD,aE⟩:=ZU Tryz.infoAction;clear l;by_cases h2:kind=2/\isBoxL arg=false
 .obtain⟨rfl,d⟩:=h2;have G:addL s.met 2 arg=(8,s.met):=by unfold addL;rw[Qi ⟨rfl,d⟩]
  have HR:=O G;clear G;go_enter func252,ntmps252;go_wp2_with (go_at_call 268;refine(LM (by rw[Zc];omega)).mono ?_;rintro e i ⟨rfl,rfl⟩;rw[show isBoxL (sA arg).data.toList=false from d]);go_ret;unfold Gf;rw[HR.o];exact⟨rfl,y.o.below (QH _),(Fr.refl _ _).alloc _⟩
 by_cases h3:kind=3/\isAddrL arg=false
 .obtain⟨rfl,d⟩:=h3;have G:addL s.met 3 arg=(9,s.met):=by unfold addL;rw[Qg h2,Qi ⟨rfl,d⟩]
  have HR:=O G;clear G;go_enter func252,ntmps252;go_wp2_with (go_at_call 269;refine(Fy (by rw[Zc];omega)).mono ?_;rintro e i ⟨rfl,rfl⟩;rw[show isAddrL (sA arg).data.toList=false from d]);go_ret;unfold Gf;rw[HR.o];exact⟨rfl,y.o.below (QH _),(Fr.refl _ _).alloc _⟩
 have g:=QuP (met:=s.met) (kind:=kind) (arg:=arg) h2 h3;obtain⟨z,n⟩:=Qw (cutArg kind arg);rw[n]at g;have HZ:=O n
 have aP:z.length<=1000000:=by
  rw[<-n];unfold cutArg;split
  .rw[YT];omega
  .exact hl
 have aQ:=O g;clear g;have ag:kind=2->isBoxL arg=true:=fun e=>by cases d:isBoxL arg with|true=>rfl|false=>exact absurd ⟨e,d⟩ h2
 have af:kind=3->isAddrL arg=true:=fun e=>by cases d:isAddrL arg with|true=>rfl|false=>exact absurd ⟨e,d⟩ h3
 have aV:=O ag;have aU:=O af;clear h2 h3 ag af n;rcases(by omega:kind=2\/kind=3\/kind=4\/(kind≠2/\kind≠3/\kind≠4))with k2|k3|k4|k0
 case' neg.inl=>
  have d:isBoxL arg=true:=aV.o k2;have H:z=arg:=by have:=HZ.o;unfold cutArg at this;rw[Qg (by omega)]at this;exact this.symm
  subst H;rw[QU k2]at J;rw[QB (by omega)]at K L;clear k2;go_enter func252,ntmps252;go_wp2_with (go_at_call 268;refine(LM (by rw[Zc];omega)).mono ?_;rintro e i ⟨rfl,Z⟩;rw[Z];rw[show isBoxL (sA z).data.toList=true from d])
 case' neg.inr.inl=>
  have d:isAddrL arg=true:=aU.o k3;have H:z=arg:=by have:=HZ.o;unfold cutArg at this;rw[Qg (by omega)]at this;exact this.symm
  subst H;rw[QU k3]at K;rw[QB (by omega)]at J L;clear k3;go_enter func252,ntmps252;go_wp2_with (go_at_call 269;refine(Fy (by rw[Zc];omega)).mono ?_;rintro e i ⟨rfl,Z⟩;rw[Z];rw[show isAddrL (sA z).data.toList=true from d])
 case' neg.inr.inr.inl=>
  obtain⟨q,aj⟩:∃q:Nat,q=min arg.length 48:=⟨_,rfl⟩;have hq:min (arg.length:Int) 48=(q:Int):=by omega
  have aO:(q:Int)<=(arg.length:Int):=by omega
  have aJ:(sA arg).extract 0 q=sA z:=by
   rw[NC,<-HZ.o,aj];unfold cutArg;rw[Qi k4];rcases Nat.le_total arg.length 48 with hh|hh
   .rw[Nat.min_eq_left hh,Z7 QF,Z7 hh]
   .rw[Nat.min_eq_right hh]
  rw[QU k4]at L;rw[QB (by omega)]at J K;clear aj k4;go_enter func252,ntmps252;go_wp2_with fail
 case' neg.inr.inr.inr=>
  have H:z=arg:=by have:=HZ.o;unfold cutArg at this;rw[Qg k0.2.2]at this;exact this.symm
  subst H;rw[QB k0.1]at J;rw[QB k0.2.1]at K;rw[QB k0.2.2]at L;clear k0;go_enter func252,ntmps252;go_wp2_with fail
 all_goals
  obtain⟨W,Q⟩:=Q3 (w.alloc (.cells #[.int .i64 kind,.string (sA z)] 52));have u:Hid (Below w.heap.size w W):=by rw[Q];exact QH _
  have C:W.heap[w.heap.size]?=some (.cells #[.int .i64 kind,.string (sA z)] 52):=by rw[Q];exact Q0
  have aW:=O C;rw[<-Q];clear Q;have d7:W.cell? ⟨b,7,none⟩=some (.slice la s.met.length f):=(u.o.cell (p:=⟨b,7,none⟩) aB).trans c7;have b0:=Zs C;have b1:=Q9 C;have R:=QI C;have ao:b<W.heap.size:=by omega
  have X:Hid (W.ownsRow B 52 2 (.slice la s.met.length f) s.met.length (ZG s.met)):=Yc (P:=fun _ _=>False) aR.o.met (Fr.of_below u.o) (fun _ _ h=>h);clear C;cases hmem:Vj (kind,z) s.met;rotate_left
  .rw[hmem]at aQ;go_region_held3 (fun i=>i.cell? ⟨b,7,none⟩=some (.slice la s.met.length f)/\i.cell? ⟨w.heap.size,0,none⟩=some (.int .i64 kind)/\i.cell? ⟨w.heap.size,1,none⟩=some (.string (sA z))) (first|go_keep|exact⟨r,T,U⟩) (first|(go_at_call 270;refine(Fk (base:=B) (met:=s.met) (a:=(kind,z)) (w:=W.drew) X.o (by omega)).mono ?_;rintro e m ⟨rfl,E⟩;rw[hmem];have c:=Y9 E;have r:m.cell? ⟨b,7,none⟩=some (.slice la s.met.length f):=(c.cell (p:=⟨b,7,none⟩) ao).trans d7;have T:m.cell? ⟨w.heap.size,0,none⟩=some (.int .i64 kind):=(c.cell (p:=⟨w.heap.size,0,none⟩) R).trans b0;have U:m.cell? ⟨w.heap.size,1,none⟩=some (.string (sA z)):=(c.cell (p:=⟨w.heap.size,1,none⟩) R).trans b1;have x:=O (u.o.trans (c.mono u.o.size));clear E c;skip))
   all_goals go_wp2
   all_goals go_ret
   all_goals unfold Gf
   all_goals rw[aQ.o]
   all_goals exact⟨rfl,y.o.below x.o,Fr.of_below x.o⟩
  rw[hmem]at aQ;go_region_held3 (fun i=>i.cell? ⟨b,7,none⟩=some (.slice la s.met.length f)/\i.cell? ⟨w.heap.size,0,none⟩=some (.int .i64 kind)/\i.cell? ⟨w.heap.size,1,none⟩=some (.string (sA z))) (first|go_keep|exact⟨r,T,U⟩) (first|(go_at_call 270;refine(Fk (base:=B) (met:=s.met) (a:=(kind,z)) (w:=W.drew) X.o (by omega)).mono ?_;rintro e m ⟨rfl,E⟩;rw[hmem];have c:=Y9 E;have r:m.cell? ⟨b,7,none⟩=some (.slice la s.met.length f):=(c.cell (p:=⟨b,7,none⟩) ao).trans d7;have T:m.cell? ⟨w.heap.size,0,none⟩=some (.int .i64 kind):=(c.cell (p:=⟨w.heap.size,0,none⟩) R).trans b0;have U:m.cell? ⟨w.heap.size,1,none⟩=some (.string (sA z)):=(c.cell (p:=⟨w.heap.size,1,none⟩) R).trans b1;have x:=O (u.o.trans (c.mono u.o.size));have ad:=O (Yc (P:=fun _ _=>False) X.o (Fr.of_below c) (fun _ _ h=>h));have ap:=O (Ze aW.o c);clear E c;skip))
  all_goals go_wp2_with fail
  all_goals refine(RZ (base:=B) b (met:=s.met) (a:=(kind,z)) (w:=m) r ad.o (by omega)).mono ?_
  all_goals rintro e w2 ⟨rfl,c⟩
  all_goals have t:=O (x.o.trans (c.mono x.o.size))
  all_goals have ar:=O (Yc (P:=fun _ _=>False) ad.o (Fr.of_below c) (fun _ _ h=>h))
  all_goals have aa:=O (Ze ap.o c)
  all_goals have r7:w2.cell? ⟨b,7,none⟩=some (.slice la s.met.length f):=(c.cell (p:=⟨b,7,none⟩) (QX r)).trans r
  all_goals have r1:=Q9 aa.o
  all_goals clear c r T U
  all_goals dsimp only
  all_goals cases hcon:Nw s.met kind
  rotate_left
  .rw[hcon]at aQ;go_wp2;go_ret;unfold Gf;rw[aQ.o];exact⟨rfl,y.o.below t.o,Fr.of_below t.o⟩
  rw[hcon]at aQ;by_cases h6:s.met.length=6
  .rw[Qi h6]at aQ;have ax:((s.met.length:Int)==6)=true:=by rw[h6];rfl
   go_wp2;go_ret;unfold Gf;rw[aQ.o];exact⟨rfl,y.o.below t.o,Fr.of_below t.o⟩
  rw[Qg h6]at aQ;have ax:((s.met.length:Int)==6)=false:=by simp;omega
  go_wp2_with fail;refine(WZ (sA z) w2 (by rw[Zc];omega)).mono ?_;rintro e w3 ⟨rfl,F⟩;have ab:=O (t.o.trans (F.mono t.o.size));have ae:=O (Yc (P:=fun _ _=>False) ar.o (Fr.of_below F) (fun _ _ h=>h));have D:=Ze aa.o F;have s1:=Q9 D;have sf:=QQ D;have s7:w3.cell? ⟨b,7,none⟩=some (.slice la s.met.length f):=(F.cell (p:=⟨b,7,none⟩) (QX r7)).trans r7;have aS:=O D;have aA:¬b=w.heap.size:=by omega
  have aN:¬w.heap.size=b:=by omega
  clear F D r7 r1;go_wp2_with fail;obtain⟨V,v⟩:=Q3 (w3.setCell ⟨w.heap.size,1,none⟩ (.string (sA z)));have ac:Hid (Below w.heap.size w V):=by rw[v];exact ab.o.setCell QF _
  have N:V.heap[w.heap.size]?=some (.cells #[.int .i64 kind,.string (sA z)] 52):=by rw[v];exact QM aS.o
  have av:Hid (V.ownsRow B 52 2 (.slice la s.met.length f) s.met.length (ZG s.met)):=by
   rw[v];exact GQ ae.o (fun e=>by have:=(aR.o.met.lt _ e).2;omega)
  have v7:V.cell? ⟨b,7,none⟩=some (.slice la s.met.length f):=by rw[v,Xo (a:=⟨b,7,none⟩) (Q' aA)];exact s7
  have v0:=Zs N;have v1:=Q9 N;have A:=O (aR.o.below ac.o);have aH:=QI N;have ak:b<V.heap.size:=by omega
  rw[<-v];have aF:=A.o.bs
  have Y:¬(Value.slice la s.met.length f).ownBlock=some b:=fun e=>by
   obtain⟨_,cs,ay⟩:=JS A.o.met (k:=b) e A.o.blk;injection ay with e1 e2
   exact absurd e2 (by decide)
  have aT:=O Y;clear v N s7 s1 sf Y ab ae aS;have aG:B<=V.heap.size:=by omega
  go_region_law (refine step_append_lies _ rfl (.tmp 52) (.tmp 54) 32 rfl B 52 i0 (.agg #[.int .i64 0,.string ⟨#[]⟩]) 2 24 underlying32 hi aC aD aE rfl (by decide) (.slice la s.met.length f) s.met.length (ZG s.met) (by simp[Act.eval,Act.put]) (av.o.alloc _) ⟨V.heap.size,0,none⟩ 1 1 [.int .i64 kind,.string (sA z)] (by simp[Act.eval,Act.put]) rfl (O_ (kind,z)) (Pu (kind,z)) (by decide) (by unfold maxLen;omega) (by omega) (by simp;omega) _ rfl ?_;intro g' aw w5 ai S aI aL;have au:=O ai;have aq:=O S;have t7:w5.cell? ⟨b,7,none⟩=some (.slice la s.met.length f):=S.cell (a:=⟨b,7,none⟩) ((Xo (a:=⟨b,7,none⟩) (w:=V) (ZL _ _ _ ak)).trans v7) (fun e=>aT.o e.symm);have aK:∀j,w5.frozen? ⟨b,j,none⟩=false:=fun j=>(World.frozen?_of_block (a:=⟨b,j,none⟩) (w:=V) ((S.block b (by simp;omega) (fun e=>aT.o e.symm)).trans (ZL _ _ _ ak))).trans (A.o.frozen j);clear ai S;skip)
  all_goals go_wp2
  all_goals go_ret
  all_goals unfold Gf
  all_goals rw[aQ.o]
  all_goals have ah:=A.o.regrow ((((Fr.refl _ V).alloc _).drew).grown aq.o (fun k o e _=>e)) (.slice (some ⟨g',0,none⟩) (s.met.length+1) aw) (s.met++[(kind,z)]) (by rw[Qz,<-Hg];exact au.o) (by rw[Qz];simp;omega) (by simp)
  all_goals exact⟨rfl,⟨_,_,_,_,ah.1⟩,(Fr.of_below ac.o).trans ah.2⟩
def KO(f:FZ)(w:World)(e:Ending)(w':World):Prop:=
 ∃b,w.heap.size<=b/\e=.panicked [{ v:=.iface 125 (Qc b),recovered:=false }]/\
  w'.heap[b]?=some (Qe #[Qa f.1,Qa f.2] 130)
def AW(r:Except FZ SS)(B sb:Nat)(M:Msg)(w:World)(e:Ending)(w':World):Prop:=
 Fr (PSt B) w w'/\
 match r with
 | .ok s=>e=.returned (.tuple #[])/\SAt w' B sb M s
 | .error f=>KO f w e w'
def Nv(s:SS)(kind:Int)(arg:L8)(at_:Int):Except FZ SS:=
 if(addL s.met kind (expL s arg)).1=0 then .ok (Y2 s (addL s.met kind (expL s arg)).2)else .error ((addL s.met kind (expL s arg)).1,at_)
theorem OA{g:Nat}(kind j:Int)(arg:L8)(h:SAt w B g M s)(k:arg.length<=1000000):Calls prog 210 #[Qc g,Qa kind,Qf arg,Qa j] w (AW (Nv s kind arg j) B g M w):=by
 have C:=O h;have t:=D1 s k Qb;have a:Hid (Nv s kind arg j=if(addL s.met kind (expL s arg)).1=0 then .ok (Y2 s (addL s.met kind (expL s arg)).2)else .error ((addL s.met kind (expL s arg)).1,j)):=rfl;have r:=O (Eh B g M s arg);have b:=O (Pc B g M s kind (expL s arg));unfold Gf at b;generalize expL s arg=x at *;obtain⟨q,u⟩:=Qw (addL s.met kind x);rw[u]at b a;obtain⟨n,l⟩:=q;clear u h;dsimp only at b a;by_cases hn:n=0
 .subst hn;rw[Qi rfl]at a;go_enter func210,ntmps210;go_wp2_with fail;go_region_with (first|(go_at_call 249;refine Qv (r w.drew (C.o.below (Z9 (QO _ _))) k) ?_;rintro p d;have c:=O (Y9 d);clear d;skip)|(go_at_call 252;refine Qv (b p (C.o.below c) t) ?_;rintro v ⟨m,f⟩;have A:=O m;have i:=O ((Fr.of_below c).trans f);clear m f;skip))
  all_goals go_wp2
  all_goals go_end0
  all_goals rw[a.o]
  all_goals exact⟨i,rfl,A⟩
 .rw[Qg hn]at a;have y:(n != 0)=true:=by simp[hn]
  go_enter func210,ntmps210;go_wp2_with fail;go_region_with (first|(go_at_call 249;refine Qv (r w.drew (C.o.below (Z9 (QO _ _))) k) ?_;rintro p d;have c:=O (Y9 d);clear d;skip)|(go_at_call 252;refine Qv (b p (C.o.below c) t) ?_;rintro v ⟨m,f⟩;have A:=O m;have i:=O ((Fr.of_below c).trans f);clear m f;skip))
  all_goals go_wp2_with (go_at_call 103;refine Qu (Yr) ?_)
  all_goals refine⟨rfl,?_⟩
  all_goals rw[a.o]
  all_goals exact⟨i.o.alloc _,v.heap.size,i.size,rfl,Q0⟩
theorem QsW{sb:Nat}(h:SAt w B sb M s):Calls prog 166 #[Qc sb] w (AW (.ok (Gl s)) B sb M w):=by
 obtain⟨z,A,D,C,G⟩:=h;have E:=G.cell 8;have F:=G.frozen 8;have HSI:=O G;clear G;go_enter func166,ntmps166;go_wp2;go_end0;have hf:Fr (fun k _=>k=sb) w (w.setCell ⟨sb,8,none⟩ (.bool true)):=(Fr.refl _ w).set HSI.blk rfl 8 _
 have hne:∀(k:Nat) (o:Obj),w.heap[k]?=some o->(∀cs,o≠.cells cs 274)->(w.setCell ⟨sb,8,none⟩ (.bool true)).heap[k]?=some o:=fun k o hk ho=>hf.block k o hk (fun e=>by
  subst e;rw [HSI.blk] at hk;cases hk;exact ho _ rfl)
 have h:=HSI.o;obtain⟨p,c,x,y⟩:=h.mp;obtain⟨m,t⟩:=h.m1;refine⟨(Fr.refl _ w).set h.blk h.ps 8 _,rfl,z,A,D,C,h.bs,h.bm,h.b1,⟨m,?_⟩,?_,?_,⟨p,c,hne _ _ x (fun cs e=>by cases e),y⟩,?_,?_,h.mn,⟨h.bd.fr,h.bd.tu,h.bd.hl,h.bd.hd,h.bd.told,h.bd.tl,h.bd.vals,h.bd.met⟩⟩
 .have:(1:Nat)≠sb:=by have:=h.b1;have:=h.bs;omega
  rw[Xo (a:=⟨1,0,none⟩) (Q' this)];exact t
 .exact QM h.blk
 .rcases h.hd with d | ⟨g,c,cs,b,i,j⟩
  .exact Qt d
  .exact Qr ⟨g,c,cs,b,hne _ _ i (fun cs e=>by injection e with e1 e2;exact absurd e2 Qb),j⟩
 .rcases h.told with d | ⟨g,c,b,cs,i,j⟩
  .exact Qt d
  .exact Qr ⟨g,c,b,cs,hne _ _ i (fun cs e=>by injection e with e1 e2;exact absurd e2 Qb),j⟩
 .obtain⟨q,f⟩:=h.met;refine⟨q,?_⟩;rcases f with f | ⟨g,l,n,b,u,v,r⟩
  .exact Qt f
  .exact Qr ⟨g,l,n,b,u,hne _ _ v (fun cs e=>by injection e with e1 e2;exact absurd e2 Qb),r⟩
theorem O6{b:Nat}(tag n:Int)(h:SAt w B b M s):Calls prog 209 #[Qc b,Qa tag,Qa n] w fun e w'=>e=.returned (.bool (sizeB M tag n))/\w'=w:=by
 obtain⟨g,i,k,j,d⟩:=h;have f:w.cell? (Ql b 2)=some (Qa M.size):=d.cell 2;have c:=JG tag 2;have a:Hid (sizeB M tag n=if tag=2 then decide (M.size<n)else decide (n<M.size)):=rfl;clear d;by_cases h2:tag=2
 .rw[QU h2]at c;rw[Qi h2]at a;clear h2;go_enter func209,ntmps209;go_wp2
  all_goals go_ret
  all_goals exact⟨Zf (by rw[a.o]),rfl⟩
 .rw[QB h2]at c;rw[Qg h2]at a;clear h2;go_enter func209,ntmps209;go_wp2
  all_goals go_ret
  all_goals exact⟨Zf (by rw[a.o]),rfl⟩
end
end Go.Proofs.YtgnkjijocdmniaaGreatDoor
