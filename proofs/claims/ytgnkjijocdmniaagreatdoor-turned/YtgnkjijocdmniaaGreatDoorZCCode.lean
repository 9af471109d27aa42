import Derived.Test.YtgnkjijocdmniaaGreatDoorZCCmdK
import Derived.Test.YtgnkjijocdmniaaGreatDoorZWText
namespace Go.Proofs.YtgnkjijocdmniaaGreatDoor
set_option linter.unusedVariables false
set_option linter.unusedSimpArgs false
set_option maxRecDepth 100000
set_option maxHeartbeats 4000000
open Go.Proofs.Tryz
section
open Go.RowKit
attribute [local go_sem ↓] Go.wp_at_zero Go.wp_at_succ
theorem Qmh(hw:L8)(p:Nat)(B cb:Nat)(cs:List Ins)(w:World)(h:CC w B cb cs)(hl:cs.length+1<=1000000) :
 Calls Tryz.prog 176 #[.pointer (some ⟨cb,0,none⟩),.iface 294 (.agg #[.string (Qaf hw),.int .i64 p])] w (Qdy B cb (cs++[⟨13,0,0,false,[],[],p⟩]) w):=by
 have n0:=Tryz.noAct;have n1:=Tryz.noSet;have yy:=Tryz.yesDiscard;have H:=Qab h;have HL:=Qab hl;have ae:Hid (∀ o,CC (w.alloc o) B cb cs):=fun o=>h.alloc o
 have aa:∀ o,Below w.heap.size w (w.alloc o):=fun o=>(Below.refl _ _).alloc (Nat.le_refl _) o
 have ad:=Qab aa;clear h hl aa;go_enter func176,ntmps176;go_wp2_with (first|(go_at_call 216;refine(Qmt _ B cb cs ⟨13,0,0,false,[],[],p⟩ _ _ _ (by simp) (ae.o _) (Qdo _ _ rfl rfl (by show(-9223372036854775808:Int)<=0;decide) (by show(0:Int)<=9223372036854775807;decide)) HL.o).mono ?_;rintro e w2 ⟨rfl,ab,ac⟩;have af:=Qab ab;have ag:=Qab ((Fr.of_below (ad.o _)).trans ac);clear ab ac;skip));go_end0;exact⟨rfl,af.o,ag.o⟩
theorem Qtb(hw:L8)(p:Nat)(B cb:Nat)(cs:List Ins)(w:World)(h:CC w B cb cs)(hl:cs.length+1<=1000000) :
 Calls Tryz.prog 176 #[.pointer (some ⟨cb,0,none⟩),.iface 295 (.agg #[.string (Qaf hw),.int .i64 p])] w (Qdy B cb (cs++[⟨14,0,0,false,[],[],p⟩]) w):=by
 have n0:=Tryz.noAct;have n1:=Tryz.noSet;have n2:=Tryz.noDiscard;have yy:=Tryz.yesStop;have H:=Qab h;have HL:=Qab hl;have ae:Hid (∀ o,CC (w.alloc o) B cb cs):=fun o=>h.alloc o
 have aa:∀ o,Below w.heap.size w (w.alloc o):=fun o=>(Below.refl _ _).alloc (Nat.le_refl _) o
 have ad:=Qab aa;clear h hl aa;go_enter func176,ntmps176;go_wp2_with (first|(go_at_call 216;refine(Qmt _ B cb cs ⟨14,0,0,false,[],[],p⟩ _ _ _ (by simp) (ae.o _) (Qdo _ _ rfl rfl (by show(-9223372036854775808:Int)<=0;decide) (by show(0:Int)<=9223372036854775807;decide)) HL.o).mono ?_;rintro e w2 ⟨rfl,ab,ac⟩;have af:=Qab ab;have ag:=Qab ((Fr.of_below (ad.o _)).trans ac);clear ab ac;skip));go_end0;exact⟨rfl,af.o,ag.o⟩
theorem Qus(x:L8):∀ j,j<[x].length->(#[Value.string (Qaf x)]:Array Value)[j]?=some (.string (Qaf ([x].getD j []))):=fun j hj=>by
 have:j=0:=by simp at hj;exact hj
 subst this;rfl
theorem QtV(hw:L8)(p tag:Nat)(aa arg:L8)(B cb:Nat)(cs:List Ins)(w:World)(h:CC w B cb cs)(hl:cs.length+1<=1000000)(hv:aa.length<=100000)(ha:arg.length<=100000) :
 Calls Tryz.prog 176 #[.pointer (some ⟨cb,0,none⟩),.iface 264 (.agg #[.string (Qaf hw),.int .i64 p,.int .i64 tag,.string (Qaf aa),.string (Qaf arg)])] w (Qdy B cb (cs++[⟨12,0,tag,false,[aa],[arg],p⟩]) w):=by
 have n0:=Tryz.noAct;have yy:=Tryz.yesSet;have H:=Qab h;have HL:=Qab hl;have HC0:Hid (∀ o,CC (w.alloc o) B cb cs):=fun o=>h.alloc o
 have ac:∀ o,Below w.heap.size w (w.alloc o):=fun o=>(Below.refl _ _).alloc (Nat.le_refl _) o
 have HB0:=Qab ac;clear h hl ac;have ah:Hid (∀ o1 o3,SlT (((w.alloc o1).alloc (.cells #[.string (Qaf aa)] 9)).alloc o3) (.slice (some ⟨w.heap.size+1,0,none⟩) 1 1) [aa]):=fun o1 o3=>Or.inr ⟨_,1,rfl,#[.string (Qaf aa)],Qae (Qaw (by simp)),Qus aa⟩
 have ai:Hid (∀ o1 o2,SlT (((w.alloc o1).alloc o2).alloc (.cells #[.string (Qaf arg)] 9)) (.slice (some ⟨w.heap.size+1+1,0,none⟩) 1 1) [arg]):=fun o1 o2=>Or.inr ⟨_,1,rfl,#[.string (Qaf arg)],Qaw (by simp),Qus arg⟩
 have ab:Hid (∀ o1 o2 o3,Below w.heap.size w (((w.alloc o1).alloc o2).alloc o3)):=fun o1 o2 o3=>(((Below.refl _ _).alloc (Nat.le_refl _) _).alloc (by simp) _).alloc (by simp;omega) _
 go_enter func176,ntmps176;go_wp2_with (first|(go_at_call 216;refine(Qmt _ B cb cs ⟨12,0,tag,false,[aa],[arg],p⟩ _ _ _ (by simp) (H.o.below (ab.o _ _ _)) ⟨ah.o _ _,ai.o _ _,(fun z hz=>(by rw[List.mem_singleton.1 hz];exact hv)),(fun z hz=>(by rw[List.mem_singleton.1 hz];exact ha)),(by show 1<=1000000;decide),(by show 1<=1000000;decide),(by show(-9223372036854775808:Int)<=0;decide),(by show(0:Int)<=9223372036854775807;decide)⟩ HL.o).mono ?_;rintro e w2 ⟨rfl,ad,ae⟩;have af:=Qab ad;have ag:=Qab ((Fr.of_below (ab.o _ _ _)).trans ae);clear ad ae;skip));go_end0;exact⟨rfl,af.o,ag.o⟩
end
section
open Go.RowKit
def aTo {α β:Type} (tst:β→List Ins→List Ins) (cmd:α→List Ins→List Ins) (as_:List (β×List α)) (cs:List Ins) (k:Nat):List Ins×List Nat:=(as_.take k).foldl (QmZ tst cmd) (cs,[])
theorem Ql9{α β:Type}(ac:β->List Ins->List Ins)(ab:α->List Ins->List Ins)(aa:List (β×List α))(cs:List Ins)(k:Nat)(h:k<aa.length):aTo ac ab aa cs (k+1)=QmZ ac ab (aTo ac ab aa cs k) aa[k]:=by
 unfold aTo;rw[List.take_add_one,List.getElem?_eq_getElem h,List.foldl_append];rfl
theorem Qw8{α β:Type}(ad:β->List Ins->List Ins)(ab:α->List Ins->List Ins)(aa:List (β×List α))(ac:List α)(cs:List Ins):QdT ad ab aa ac cs=Qd0 ab ac (aTo ad ab aa cs aa.length):=by
 unfold QdT aTo;rw[List.take_length]
theorem QuO{α β:Type}(ac:β->List Ins->List Ins)(ab:α->List Ins->List Ins)(aa:List (β×List α))(cs:List Ins):∀ k,k<=aa.length->(aTo ac ab aa cs k).2.length=k
 |0,_=>rfl
 |k+1,h=>by
  rw[Ql9 ac ab aa cs k h];have:=QuO ac ab aa cs k (by omega);unfold QmZ;simp[this]
theorem QwK{α β:Type}{ab:β->List Ins->List Ins}{ac:α->List Ins->List Ins}(ht:∀ t cs,cs.length<=(ab t cs).length)(hc:∀ t cs,cs.length<=(ac t cs).length)(aa:List (β×List α))(cs:List Ins):∀ k,k<=aa.length->∀ j∈(aTo ab ac aa cs k).2,j<(aTo ab ac aa cs k).1.length
 |0,_,j,hj=>by cases hj
 |k+1,h,j,hj=>by
  have ih:=QwK ht hc aa cs k (by omega);rw[Ql9 ab ac aa cs k h]at hj ⊢;have h1:=ht aa[k].1 (aTo ab ac aa cs k).1;have h2:=Qdr hc aa[k].2 (ab aa[k].1 (aTo ab ac aa cs k).1++[insOp 5]);unfold QmZ at hj ⊢;simp only[List.mem_append,List.mem_singleton,Qbq,List.length_append,List.length_cons,List.length_nil]at hj h2 ⊢;rcases hj with hj|hj
  ·have:=ih j hj;omega
  ·omega
theorem Qvp{α β:Type}{ac:β->List Ins->List Ins}{ab:α->List Ins->List Ins}(ht:∀ t cs,cs.length<=(ac t cs).length)(hc:∀ t cs,cs.length<=(ab t cs).length)(aa:List (β×List α))(cs:List Ins)(k:Nat):(aTo ac ab aa cs k).1.length<=(aTo ac ab aa cs aa.length).1.length:=by
 unfold aTo;rw[List.take_length];have:=QhK ht hc (aa.drop k) ((aa.take k).foldl (QmZ ac ab) (cs,[]));rw[<-List.foldl_append,List.take_append_drop]at this;exact this
theorem Qn7{α β:Type}(af:β->List Ins->List Ins)(ad:α->List Ins->List Ins)(aa:List (β×List α))(ac:List α)(B cb g c:Nat)(hw:L8)(p:Nat)(aE:Bool)(ea:Option Addr)(en ec:Nat)(cs:List Ins)(w:World)(h:CC w B cb cs)(bk:aa≠[])(aZ:g<B)(bl:aa.length<=1000000)
 (ht:∀ t cs,cs.length<=(af t cs).length) (aH:∀ t cs,cs.length<=(ad t cs).length) (hl:(QdT af ad aa ac cs).length<=1000000)
 (hc:∀ j (hj:j<aa.length),∃ ty y a n c',w.cell? ⟨g,2*j,none⟩=some (.iface ty y)/\w.cell? ⟨g,2*j+1,none⟩=some (.slice a n c')/\SubC 255 B cb w (.iface ty y) (af aa[j].1)/\SubC 120 B cb w (.slice a n c') (blockC ad aa[j].2))
 (he:SubC 120 B cb w (.slice ea en ec) (blockC ad ac)) :
 Calls Tryz.prog 218 #[.pointer (some ⟨cb,0,none⟩),.agg #[.string (Qaf hw),.int .i64 p,.slice (some ⟨g,0,none⟩) aa.length c,.bool aE,.slice ea en ec]] w (Qdy B cb (QdT af ad aa ac cs) w):=by
 obtain⟨i0,hi,bn,bo,bp⟩:=info_parts Tryz.infoIntJ;have aT:B<=w.heap.size:=Nat.le_of_lt (Nat.lt_of_le_of_lt h.lt.1 h.lt.2);rw[Qw8]at hl ⊢;have aq:=Qie aH ac (aTo af ad aa cs aa.length);have bb:=Qab (Nat.le_trans aq hl);have HL:=Qab hl;have HC:=Qab hc;have HT:=Qab ht;have aw:=Qab aH;have HELS:=Qab he;have H:=Qab h;clear hc ht aH h hl he aq;go_enter func218,ntmps218;go_wp2_with fail;obtain⟨W0,az⟩:∃ W0,W0=w.alloc (.cells #[.string (Qaf hw),.int .i64 p,.slice (some ⟨g,0,none⟩) aa.length c,.bool aE,.slice ea en ec] 261):=⟨_,rfl⟩;rw[<-az];have au:Hid (Below w.heap.size w W0):=by show Below _ _ _;rw[az];exact(Below.refl _ _).alloc (Nat.le_refl _) _
 have a9:Hid (W0.heap[w.heap.size]?=some (.cells #[.string (Qaf hw),.int .i64 p,.slice (some ⟨g,0,none⟩) aa.length c,.bool aE,.slice ea en ec] 261)):=by show _=_;rw[az];exact Qat _ _
 have aO:Hid (CC W0 B cb cs):=H.o.below au.o;clear az
 go_loopw [4,6,7,11] (fun v _ _ i wr=>∃(k:Nat) (r:List Ins×List Nat),k<=aa.length/\i=.int .i64 (k:Int)/\r=aTo af ad aa cs k/\wr.ownsRow W0.heap.size 3 1 v r.2.length (Qgk r.2)/\CC wr B cb r.1/\Fr (PCo B) W0 wr) (fun _ _ _ i _=>aa.length - (intOf i).toNat)
 case atStart=>exact⟨0,_,Nat.zero_le _,by go_num,rfl,World.ownsRow_nil _ _ _ _,aO.o,Fr.refl _ _⟩
 case round=>
  obtain⟨k,r,hk,rfl,hr,ag,ay,hF⟩:=hrel;have aA:r.2.length=k:=by rw[hr];exact QuO af ad aa cs k hk
  have ab:Below B w wr:=(au.o.mono aT).trans (hF.co aO.o);by_cases hlt:k<aa.length
  ·obtain⟨ty,y,a,n,c',aY,aX,aN,aG⟩:=HC.o k hlt
   have c0:wr.cell? ⟨g,k*2,none⟩=some (.iface ty y):=by
    rw[Nat.mul_comm,ab.cell (p:=⟨g,2*k,none⟩) aZ];exact aY
   have c1:wr.cell? ⟨g,k*2+1,none⟩=some (.slice a n c'):=by
    rw[Nat.mul_comm,ab.cell (p:=⟨g,2*k+1,none⟩) aZ];exact aX
   have hS:=Ql9 af ad aa cs k hlt;have ap:=Qvp HT.o aw.o aa cs (k+1);rw[hS,<-hr]at ap;rw[<-hr]at hS;obtain⟨am,aU⟩:∃ am,aa[k]=am:=⟨_,rfl⟩;rw[aU]at hS aN aG ap;unfold QmZ at hS ap;have ae:=Nat.le_trans ap bb.o;have ak:=Qdr aw.o am.2 (af am.1 r.1++[insOp 5]);obtain⟨A,hA⟩:∃ A,af am.1 r.1=A:=⟨_,rfl⟩;rw[hA]at hS ae ak;obtain⟨A3,ax⟩:∃ A3,blockC ad am.2 (A++[insOp 5])=A3:=⟨_,rfl⟩;rw[ax]at hS ae ak;dsimp only at ae;rw[Qbq,List.length_append]at ae;rw[List.length_append]at ak;simp only[List.length_cons,List.length_nil]at ae ak;have q1:(af am.1 r.1).length<=1000000:=by rw[hA];omega
   have q2:A.length+1<=1000000:=by omega
   have q3:(blockC ad am.2 (A++[insOp 5])).length<=1000000:=by rw[ax];omega
   have q4:A3.length+1<=1000000:=by omega
   have q5:A.length<(A3++[insOp 3]).length:=by rw[List.length_append];simp only[List.length_cons,List.length_nil];omega
   have q6:(A3++[insOp 3]).length<=1000000:=by rw[List.length_append];exact q4
   have Q:=Qab (And.intro q1 (And.intro q2 (And.intro q3 (And.intro q4 (And.intro q5 q6)))));have HS:=Qab hS;have HTY:=Qab aN;have a4:=Qab aG;have HAe:=Qab hA;have a3:=Qab ax;have HOW:=Qab ag;have HCC:=Qab ay;have HF:=Qab hF;have HBe:=Qab ab;have bh:B<=wr.heap.size:=Nat.le_trans aT ab.size;have HBe':Hid (∀ o,Below B w (wr.alloc o)):=fun o=>HBe.o.alloc bh o
   obtain⟨la,lc,bj⟩:=QaD ag;subst bj;have hrk:r.2.length<=1000000:=by omega
   have hW0s:w.heap.size<=W0.heap.size:=au.o.size;have HA0:Hid ((wr.alloc (.cells #[.iface ty y,.slice a n c'] 298)).heap[wr.heap.size]?=some (.cells #[.iface ty y,.slice a n c'] 298)):=Qat _ _;clear ag ay hF ab aY aX aN aG ap ae ak hA ax aU hr hS q1 q2 q3 q4 q5 q6 aA
   go_wp2_with (first
    |(have gg:=aQ;go_at_call 256;refine(Qn3 B cb A.length _ _ aQ.o Q.o.2.2.2.2.1 Q.o.2.2.2.2.2).mono ?_;rintro e w6 ⟨rfl,aW,aJ⟩;have a6:=Qab aW;have a8:=Qab (a7.o.trans aJ);have bg:=Qab (QbL bf.o aJ (fun _ _=>PCo.not (by decide) (by decide)));clear aW aJ;skip)
    |(have gg:=aP;at_builtin;refine wpList_append_own _ rfl _ _ 24 rfl W0.heap.size 3 i0 _ 1 8 underlying24 hi bn bo bp rfl (by decide) _ _ _ rfl (aD.o.alloc _) ⟨w4.heap.size,0,none⟩ 1 1 [.int .i64 (A3.length:Int)] rfl rfl (cell_one_new _ _ _) (Qwq _) (by unfold maxLen;omega) (by omega) (by simp;omega) ?_;intro v5 w5 aL aK _;obtain⟨a5,k5,bm⟩:=QaD aL;subst bm;have bf:=Qab aL;have aQ:=Qab ((aP.o.alloc _).grownInt (aD.o.alloc _) aK);have a7:=Qab ((aR.o.alloc _).grownNew aK (fun k hk=>(aD.o.lt k hk).1));clear aL aK;skip)
    |(have gg:=av;go_at_call 216;refine(QcB B cb A3 (insOp 3) _ _ _ av.o (Qi7 _ _) Q.o.2.2.2.1).mono ?_;rintro e w4 ⟨rfl,aV,aI⟩;have aP:=Qab aV;have aR:=Qab (aC.o.trans aI);have aD:=Qab (QbL bd.o aI (fun _ _=>PCo.not (by decide) (by decide)));have hw4:=aR.o.size;clear aV aI;skip)
    |(have gg:=HC2;go_at_call 120;refine(a4.o _ _ aB.o HC2.o Q.o.2.2.1).mono ?_;rintro e w3 ⟨rfl,ai,aj⟩;rw[a3.o]at ai;have av:=Qab ai;have aC:=Qab (HF2.o.trans aj);have bd:=Qab (QbL bc.o aj (fun _ _=>PCo.not (by decide) (by decide)));clear ai aj;skip)
    |(have gg:=HC1;go_at_call 216;refine(QcB B cb A (insOp 5) _ _ _ HC1.o (Qi7 _ _) Q.o.2.1).mono ?_;rintro e w2 ⟨rfl,hc2,hf2⟩;have aB:=Qab (HBe1.o.trans (hf2.co HC1.o));have HC2:=Qab hc2;have HF2:=Qab (HF1.o.trans hf2);have bc:=Qab (QbL HO1.o hf2 (fun _ _=>PCo.not (by decide) (by decide)));have aS:=hf2.block _ _ HA1.o (PCo.not (by decide) (by decide));have d1:w2.cell? ⟨wr.heap.size,1,none⟩=some (.slice a n c'):=Qaa aS 1;clear hc2 hf2 aS;skip)
    | (go_at_call 255;refine (HTY.o _ r.1 (HBe'.o _) (HCC.o.alloc _) Q.o.1).mono ?_;rintro e w1 ⟨rfl,hc1,hf1⟩;rw [HAe.o] at hc1;have HBe1:=Qab ((HBe'.o _).trans (hf1.co (HCC.o.alloc _)));have HC1:=Qab hc1;have HF1:=Qab ((HF.o.alloc _).trans hf1);have HO1:=Qab (QbL (HOW.o.alloc _) hf1 (fun _ _=>PCo.not (by decide) (by decide)));have HA1:=Qab (hf1.block _ _ HA0.o (PCo.not (by decide) (by decide)));clear hc1 hf1;skip))
   go_roundw
   case rel=>
    refine⟨k+1,_,by omega,by go_num,HS.o.symm,?_,a6.o,a8.o⟩;show w6.ownsRow W0.heap.size 3 1 _ (r.2++[A3.length]).length (Qgk (r.2++[A3.length]))
    rw[List.length_append,<-Qju];exact bg.o
   case measure=>simp[intOf];omega
  ·have bi:k=aa.length:=by omega
   subst bi;have aM:r.2≠[]:=fun e=>bk (List.eq_nil_of_length_eq_zero (by rw[<-aA,e];rfl))
   obtain⟨gj,cj,bq,hv,a1,a2⟩:=Qrh ag aM;subst hv;have ao:∀ j∈r.2,j<r.1.length:=by rw[hr];exact QwK HT.o aw.o aa cs aa.length (Nat.le_refl _)
   have ah:Hid (Qd0 ad ac (aTo af ad aa cs aa.length)=landL r.2 (blockC ad ac r.1)):=by
    show _=_
    rw[<-hr];rfl
   have ar:=HL.o;rw[ah.o,Qbq]at ar;have a0:=Qdr aw.o ac r.1;obtain⟨L2,aF⟩:∃ L2,blockC ad ac r.1=L2:=⟨_,rfl⟩;have q0:=ar;rw[aF]at ah ar a0;have q2:∀ j∈r.2,j<L2.length:=fun j hj=>by have:=ao j hj;omega
   have q4:r.2.length<=1000000:=by rw[aA];exact bl
   have Q:=Qab (And.intro q0 (And.intro q2 (And.intro ar q4)));have HE2:=Qab aF;have HJB:=Qab a1;have ba:=Qab a2;have HCC:=Qab ay;have HF:=Qab hF;have HBe:=Qab ab;have d4:wr.cell? ⟨w.heap.size,4,none⟩=some (.slice ea en ec):=Qaa (hF.block _ _ a9.o (PCo.not (by decide) (by decide))) 4;clear ag ay hF ab hr a1 a2 ao aF ar a0 q0 q2 q4 aA hlt hk HC HL
   go_wp2_with (first
    |(have gg:=HC2;go_at_call 256;refine(Qkw B cb gj cj r.2 bq L2 _ HC2.o Q.o.2.1 HJ2.o ba.o Q.o.2.2.1 Q.o.2.2.2).mono ?_;rintro e w3 ⟨rfl,ai,aj⟩;have av:=Qab ai;have aC:=Qab (HF2.o.trans aj);clear ai aj;skip)
    | (go_at_call 120;refine (HELS.o wr r.1 HBe.o HCC.o Q.o.1).mono ?_;rintro e w2 ⟨rfl,hc2,hf2⟩;rw [HE2.o] at hc2;have HC2:=Qab hc2;have HF2:=Qab (HF.o.trans hf2);have HJ2:=Qab (hf2.block _ _ HJB.o (PCo.not (by decide) (by decide)));clear hc2 hf2;skip))
   go_end0;rw[ah.o];exact⟨rfl,av.o,(Fr.of_below au.o).trans aC.o⟩
end
section
open Go.RowKit
attribute [local go_sem ↓] Go.wp_at_zero Go.wp_at_succ
def CmdIHc (req:List (L8)) (B cb n:Nat):Prop:=
 ∀ (x:Qbo n) (i:L8) (w:World) (v:Value),QhW n (fun k=>k < B) x w v→allC (WfT req) (WfC req) n x→(Qa0 n x i).length≤100000→SubC 176 B cb w v (Qkc n x)
theorem QgK{req:List (L8)}{B cb n:Nat}(ih:CmdIHc req B cb n)(cs:List (Qbo n))(i:L8)(w:World)(v:Value)(h:blX (fun k=>k<B) (QhW n) cs w v)(ha:∀ c∈cs,allC (WfT req) (WfC req) n c)(hl:(linesL (Qa0 n) cs i).length<=100000):SubC 120 B cb w v (blockC (Qkc n) cs):=by
 rw[Qq4]at hl;rcases h with⟨rfl,rfl⟩ | ⟨hne,g,c,rfl,hg,hx⟩
 ·exact Qqa B cb w
 ·have ac:cs.length<=1000000:=by
   have:=Qkb i (cs.map fun c=>Qa0 n c i);rw[List.length_map]at this;omega
  refine QoT (Qkc n) cs B cb g c w hg ac (Qqh n) (fun j hj=>?_);obtain⟨u,ad,ab⟩:=hx j hj;obtain⟨ty,y,rfl⟩:=(QaX n).form _ _ _ _ ab;have aa:cs[j]∈cs:=List.getElem_mem hj;exact⟨ty,y,ad,ih cs[j] i w _ ab (ha _ aa) (Nat.le_trans (QhE i (cs.map fun c=>Qa0 n c i) _ (List.mem_map_of_mem (f:=fun c=>Qa0 n c i) aa)) hl)⟩
theorem Qev{ps:List (L8)}{x:L8}(h:quotedL x∈ps)(hl:(phraseL ps++[59]).length<=100000):x.length<=100000:=by
 have h1:=QbB h;have h2:=QhD x;rw[List.length_append]at hl;omega
theorem Qm9(req:List (L8))(B cb:Nat):∀ n,CmdIHc req B cb n
 |0=>fun x i w v h ha _=>ha.elim
 |n+1=>fun x i w v hv0 ha hlen W cs hW hCC hl=>by
  have ih:=Qm9 req B cb n;obtain⟨hw,ab,ad⟩:=ha;have h:QhV (fun k=>k<B) (TestV n) (QhW n) x W v:=(QaX (n+1)).keep _ _ _ _ _ hv0 (fun k hk _=>hW.block k hk);have aj:B<=W.heap.size:=Nat.le_of_lt (Nat.lt_of_le_of_lt hCC.lt.1 hCC.lt.2);have hlen:(Qbh x.1 i (x.2.1.map fun a=>(Qay n a.1,linesL (Qa0 n) a.2 (i++[32,32]))) (linesL (Qa0 n) x.2.2 (i++[32,32]))).length<=100000:=hlen;have hl:(Qbn (Qb7 n) (Qkc n) x.1 x.2.1 x.2.2 cs).length<=1000000:=hl;show Calls Tryz.prog 176 #[.pointer (some ⟨cb,0,none⟩),v] W (Qdy B cb (Qbn (Qb7 n) (Qkc n) x.1 x.2.1 x.2.2 cs) W)
  generalize hal:(x.2.1.map fun a=>(Qay n a.1,linesL (Qa0 n) a.2 (i++[32,32])))=al at hlen;generalize heb:linesL (Qa0 n) x.2.2 (i++[32,32])=eb at hlen;unfold QhV QxJ at h
  split at h
  ·rename_i e;subst h;have et:Qbn (Qb7 n) (Qkc n) x.1 x.2.1 x.2.2 cs=cs++[Qgx 1 x.1.pos []]:=by unfold Qbn;rw[e];rfl
   rw[et]at hl ⊢;exact QsF Qfk _ [] B cb cs W hCC (by simpa using hl)
  ·rename_i e;subst h;have et:Qbn (Qb7 n) (Qkc n) x.1 x.2.1 x.2.2 cs=cs++[⟨13,0,0,false,[],[],x.1.pos⟩]:=by unfold Qbn;rw[e];rfl
   rw[et]at hl ⊢;exact Qmh Qb0 _ B cb cs W hCC (by simpa using hl)
  ·rename_i e;subst h;have et:Qbn (Qb7 n) (Qkc n) x.1 x.2.1 x.2.2 cs=cs++[⟨14,0,0,false,[],[],x.1.pos⟩]:=by unfold Qbn;rw[e];rfl
   rw[et]at hl ⊢;exact Qtb Qd6 _ B cb cs W hCC (by simpa using hl)
  ·rename_i e;subst h;have et:Qbn (Qb7 n) (Qkc n) x.1 x.2.1 x.2.2 cs=cs++[Qgx 2 x.1.pos [x.1.arg]]:=by unfold Qbn;rw[e];rfl
   have aa:Qbh x.1 i al eb=phraseL [QaO,quotedL x.1.arg]++[59]:=by unfold Qbh;rw[e];rfl
   rw[et]at hl ⊢;rw[aa]at hlen;exact QjO QaO _ 2 _ B cb cs W hCC (by simpa using hl) (by decide) (Qev (by simp) hlen)
  ·rename_i e;subst h;have et:Qbn (Qb7 n) (Qkc n) x.1 x.2.1 x.2.2 cs=cs++[Qgx 3 x.1.pos [x.1.arg]]:=by unfold Qbn;rw[e];rfl
   have aa:Qbh x.1 i al eb=phraseL [Qbl,quotedL x.1.arg]++[59]:=by unfold Qbh;rw[e];rfl
   rw[et]at hl ⊢;rw[aa]at hlen;exact QjO Qbl _ 3 _ B cb cs W hCC (by simpa using hl) (by decide) (Qev (by simp) hlen)
  ·rename_i e;subst h;have et:Qbn (Qb7 n) (Qkc n) x.1 x.2.1 x.2.2 cs=cs++[Qgx 4 x.1.pos [x.1.arg]]:=by unfold Qbn;rw[e];rfl
   have aa:Qbh x.1 i al eb=phraseL [Qbc,quotedL x.1.arg]++[59]:=by unfold Qbh;rw[e];rfl
   rw[et]at hl ⊢;rw[aa]at hlen;exact QjO Qbc _ 4 _ B cb cs W hCC (by simpa using hl) (by decide) (Qev (by simp) hlen)
  ·rename_i e;subst h;have et:Qbn (Qb7 n) (Qkc n) x.1 x.2.1 x.2.2 cs=cs++[⟨12,0,x.1.tag,false,[x.1.var],[x.1.arg],x.1.pos⟩]:=by unfold Qbn;rw[e];rfl
   have aa:Qbh x.1 i al eb=phraseL [QhB,tagTextL x.1.tag [QbT,QbU,Qbr],quotedL x.1.var,quotedL x.1.arg]++[59]:=by unfold Qbh;rw[e];rfl
   rw[et]at hl ⊢;rw[aa]at hlen;exact QtV QhB _ x.1.tag _ _ B cb cs W hCC (by simpa using hl) (Qev (by simp) hlen) (Qev (by simp) hlen)
  ·rename_i h0 h1 h2 h3 h4 h5 h6;obtain⟨av,ev,rfl,ak,aq,ag⟩:=h
   have e:x.1.kind=7:=by
    have a0:x.1.kind≠0:=h0;have a1:x.1.kind≠1:=h1;have a2:x.1.kind≠2:=h2;have a3:x.1.kind≠3:=h3;have a4:x.1.kind≠4:=h4;have a5:x.1.kind≠5:=h5;have a6:x.1.kind≠6:=h6;have:=hw.kind;omega
   have et:Qbn (Qb7 n) (Qkc n) x.1 x.2.1 x.2.2 cs=QdT (Qb7 n) (Qkc n) x.2.1 x.2.2 cs:=by unfold Qbn;rw[e];rfl
   have aa:Qbh x.1 i al eb=Qa9 i kIf al++(if x.1.els then QeI++eb++i else [])++[125]:=by unfold Qbh;rw[e];rfl
   rw[et]at hl ⊢;rw[aa]at hlen;obtain⟨g,c,rfl,hg,hx⟩:=ak;obtain⟨ea,en,ec,rfl⟩:=ag.form;have hall:al.length=x.2.1.length:=by rw[<-hal];simp
   have ah:(Qa9 i kIf al).length<=100000:=by rw[List.length_append,List.length_append]at hlen;omega
   have ac:x.2.1.length<=1000000:=by
    have:=QhG i al kIf;omega
   have ap:(linesL (Qa0 n) x.2.2 (i++[32,32])).length<=100000:=by
    cases hx:x.1.els with
    |true=>
     rw[hx]at hlen;simp only[if_true,List.length_append]at hlen;rw[heb];omega
    |false=>
     have:x.2.2=[]:=List.eq_nil_of_length_eq_zero (hw.else0 hx);rw[this];exact Nat.zero_le _
   refine Qvv kIf _ _ ea _ c en ec _ _ B cb cs W hCC aj (fun W2 hW2 hC2=>?_);refine Qn7 (Qb7 n) (Qkc n) x.2.1 x.2.2 B cb g c kIf _ _ ea en ec cs W2 hC2 aq hg ac (Qi1 n) (Qqh n) hl (fun j hj=>?_) ((QgK ih _ _ W _ ag ad ap).below hW2);obtain⟨u,bv,hu,hb,hp,hq⟩:=hx j hj;obtain⟨ty,y,rfl⟩:=(Qbf n).form _ _ _ _ hp;obtain⟨a,m,c',rfl⟩:=hq.form;have af:x.2.1[j]∈x.2.1:=List.getElem_mem hj;have ao:j<al.length:=by omega
   have ae:al[j]=(Qay n x.2.1[j].1,linesL (Qa0 n) x.2.1[j].2 (i++[32,32])):=by
    simp only[<-hal,List.getElem_map]
   have ai:=QgO i al kIf al[j] (List.getElem_mem ao);rw[ae]at ai;obtain⟨m1,m2⟩:=ai;have hT:=ab _ af;exact⟨ty,y,a,m,c',by rw[hW2.cell (p:=⟨g,2*j,none⟩) hg];exact hu,by rw[hW2.cell (p:=⟨g,2*j+1,none⟩) hg];exact hb,(Qli B cb n _ W _ hp hT.1 (Nat.le_trans m1 ah)).below hW2,(QgK ih _ _ W _ hq hT.2 (Nat.le_trans m2 ah)).below hW2⟩
def Qsl (w:World) (B:Nat) (cv:Value) (code:List Ins):Prop:=
 ∃ ps:List IV,ps.map Prod.fst=code∧w.ownsRow B 63 7 cv ps.length (QcK ps)∧(∀ p∈ps,Qck w p.1 p.2.1 p.2.2)∧(ps=[]→cv=.slice none 0 0)
theorem Qsl.len{w:World}{B:Nat}{cv:Value}{aa:List Ins}(h:Qsl w B cv aa):∃ a c,cv=.slice a aa.length c:=by
 obtain⟨ps,e,ho,_⟩:=h;obtain⟨a,c,h⟩:=QaD ho;exact⟨a,c,by rw[h,<-e,List.length_map]⟩
theorem QxW(y:List (L8)×List (Qbo 7))(rv lv:Value)(X:Nat->Prop)(w:World)(ha:∃ a n c,rv=.slice a n c)(hb:blX X (QhW 7) y.2 w lv)(ae:∀ c∈y.2,allC (WfT y.1) (WfC y.1) 7 c)(hl:(textL y).length<=100000) :
 Calls Tryz.prog 86 #[.agg #[rv,lv]] w fun e w'=>∃ cv,e=.returned cv/\Qsl w' w.heap.size cv (QcF y.2)/\Below w.heap.size w w':=by
 obtain⟨ra,rn,rc,rfl⟩:=ha;have ah:=hb.weak (QaX 7) (Y:=fun k=>k<w.heap.size) (fun k _ hk=>hk);have aa:(linesL (Qa0 7) y.2 []).length<=100000:=by unfold textL at hl;rw[List.length_append]at hl;omega
 have ai:(QcF y.2).length<=1000000:=by have:=Qq0 ae;omega
 have ad:Hid (∀ cb,SubC 120 w.heap.size cb w lv (blockC (Qkc 7) y.2)):=fun cb=>QgK (Qm9 y.1 w.heap.size cb 7) y.2 [] w lv ah ae aa
 have ap:=Qab ai;obtain⟨la,ln,lc,rfl⟩:=hb.form;have af:Hid (∀ o1 o2,Below w.heap.size w ((w.alloc o1).alloc o2)):=fun o1 o2=>((Below.refl _ _).alloc (Nat.le_refl _) _).alloc (by simp) _
 have ag:Hid (∀ o1,CC ((w.alloc o1).alloc (.cells #[.slice none 0 0] 202)) w.heap.size (w.heap.size+1) []):=fun o1=>⟨.slice none 0 0,[],rfl,by omega,Qaw (by simp),World.ownsRow_nil _ _ _ _,(fun p hp=>nomatch hp),fun _=>rfl⟩
 clear hb ah ae hl aa ai;go_enter func86,ntmps86;go_wp2_with (first|(go_at_call 120;refine(ad.o _ _ [] (af.o _ _) (ag.o _) ap.o).mono ?_;rintro e w1 ⟨rfl,ar,aj⟩;obtain⟨cv,ps,ak,ab⟩:=ar;have c0:w1.cell? ⟨w.heap.size+1,0,none⟩=some cv:=Qaa ab.blk 0;obtain⟨ka,kc,au⟩:=QaD ab.row;subst au;have ac:=Qab ab;have aq:=Qab ak;have ao:=Qab ((af.o _ _).trans (aj.co (ag.o _)));clear ak ab aj;skip));go_ret;exact⟨_,rfl,⟨ps,aq.o,ac.o.row,ac.o.ok,ac.o.nil⟩,ao.o⟩
end
end Go.Proofs.YtgnkjijocdmniaaGreatDoor
