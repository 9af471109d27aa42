import Derived.Laws.AppendOwnNone
import Derived.Test.YtgnkjijocdmniaaGreatDoorZReaderT
import Derived.Test.YtgnkjijocdmniaaGreatDoorZVRunP
namespace Go.Proofs.YtgnkjijocdmniaaGreatDoor
set_option linter.unusedVariables false
set_option linter.unusedSimpArgs false
set_option maxRecDepth 100000
set_option maxHeartbeats 4000000
open Go.Proofs.Tryz
variable{α β:Type}{B base d f g k n now pc rb sb size:Nat}{M:Msg}{W w w' w2 wr:World}{a code:List Ins}{cv sv v:Value}{e:TypeId}{i:Ins}{l:List (Int×L8)}{o:Obj}{ps:List IV}{s:SS}{st:List Bool}{xs:List Value}
section
open Go.RowKit
attribute [local go_sem ↓] Go.wp_at_zero Go.wp_at_succ
theorem Qrq(hw:L8)(p:Nat)(d:L8)(B a:Nat)(b:List Ins)(w:World)(h:CC w B a b)(k:b.length+1<=1000000) :
 Calls prog 176 #[.pointer (some ⟨a,0,none⟩),.iface 269 (.agg #[.string (sA hw),.int .i64 p,.int .i64 1,.string (sA d)])] w (Xq B a (b++[ZL 1 p []]) w):=by
 have v:=Tryz.yesAct;have H:=I h;have r:=I k;have t:Hid (∀ o,CC (w.alloc o) B a b):=fun o=>h.alloc o
 have f:∀ o,Below w.heap.size w (w.alloc o):=fun o=>Qs o
 have l:=I f;clear h k f;go_enter func176,ntmps176;go_wp2_with (first|(go_at_call 217;refine(WQ hw p d _).mono ?_;rintro e s ⟨rfl,g⟩;have c:=I ((l.o _).trans (g.mono (by simp)));have m:=I (H.o.below c.o);clear g;unfold Za;skip)|(go_at_call 216;refine(UP B a b (ZL 1 p []) _ _ s m.o (UQ _ _ rfl rfl (by show(-9223372036854775808:Int)<=0;decide) (by show(0:Int)<=9223372036854775807;decide)) r.o).mono ?_;rintro e u ⟨rfl,i,j⟩;have n:=I i;have q:=I ((Fr.of_below c.o).trans j);clear i j;skip));go_end0;exact⟨rfl,n.o,q.o⟩
theorem Cn(hw:L8)(p k:Nat)(a:L8)(B b:Nat)(c:List Ins)(w:World)(h:CC w B b c)(u:c.length+1<=1000000)(f:k≠1)(G:a.length<=100000) :
 Calls prog 176 #[.pointer (some ⟨b,0,none⟩),.iface 269 (.agg #[.string (sA hw),.int .i64 p,.int .i64 k,.string (sA a)])] w (Xq B b (c++[ZL k p [a]]) w):=by
 have M:=Tryz.yesAct;have H:=I h;have F:B<=w.heap.size:=Nat.le_of_lt (Nat.lt_of_le_of_lt h.lt.1 h.lt.2);have D:=I u;have K:Hid (∀ o,CC (w.alloc o) B b c):=fun o=>h.alloc o
 have n:∀ o,Below w.heap.size w (w.alloc o):=fun o=>Qs o
 have l:=I n;clear h u n;go_enter func176,ntmps176;go_wp2_with (first|(go_at_call 217;refine(WR hw p k a _ f).mono ?_;rintro e v ⟨g,rfl,i,d,s⟩;have x:Hid (Apt w.heap.size [(ZL k p [a],Value.slice (some ⟨g,0,none⟩) 1 1,Value.slice none 0 0)]):=Apt.two (L2:=v.heap.size) (fun J t=>⟨(by have e:g=J:=(by simpa[Value.ownBlock]using t);rw[<-e];exact Qm (l.o _).size s),i.lt t⟩) (fun k f=>nomatch f) (Qm (by simp) d.size) Qt Qt;have m:=I ((l.o _).trans (d.mono (by simp)));have y:=I (H.o.toL.below m.o);have E:=I i;clear d i s;unfold Za;skip)|(go_at_call 216;refine(Vq B b w.heap.size c (ZL k p [a]) _ _ v y.o ⟨E.o,Qd ⟨rfl,rfl⟩,(fun z j=>(by rw[QY j];exact G)),(fun z j=>nomatch j),(by show 1<=1000000;decide),QC,(by show(-9223372036854775808:Int)<=0;decide),(by show(0:Int)<=9223372036854775807;decide)⟩ x.o F D.o).mono ?_;rintro e L ⟨rfl,q,r⟩;have A:=I q;have C:=I ((Fr.of_below m.o).trans r);clear q r;skip));go_end0;exact⟨rfl,A.o,C.o⟩
theorem Qld(hw:L8)(p:Nat)(B a:Nat)(b:List Ins)(w:World)(h:CC w B a b)(g:b.length+1<=1000000) :
 Calls prog 176 #[.pointer (some ⟨a,0,none⟩),.iface 294 (.agg #[.string (sA hw),.int .i64 p])] w (Xq B a (b++[⟨13,0,0,false,[],[],p⟩]) w):=by
 have n:=Tryz.noAct;have q:=Tryz.noSet;have s:=Tryz.yesDiscard;have H:=I h;have m:=I g;have j:Hid (∀ o,CC (w.alloc o) B a b):=fun o=>h.alloc o
 have c:∀ o,Below w.heap.size w (w.alloc o):=fun o=>Qs o
 have i:=I c;clear h g c;go_enter func176,ntmps176;go_wp2_with (first|(go_at_call 216;refine(Cj _ B a b ⟨13,0,0,false,[],[],p⟩ _ _ _ (by simp) (j.o _) (UQ _ _ rfl rfl (by show(-9223372036854775808:Int)<=0;decide) (by show(0:Int)<=9223372036854775807;decide)) m.o).mono ?_;rintro e r ⟨rfl,d,f⟩;have k:=I d;have l:=I ((Fr.of_below (i.o _)).trans f);clear d f;skip));go_end0;exact⟨rfl,k.o,l.o⟩
theorem Qsn(hw:L8)(p:Nat)(B a:Nat)(b:List Ins)(w:World)(h:CC w B a b)(g:b.length+1<=1000000) :
 Calls prog 176 #[.pointer (some ⟨a,0,none⟩),.iface 295 (.agg #[.string (sA hw),.int .i64 p])] w (Xq B a (b++[⟨14,0,0,false,[],[],p⟩]) w):=by
 have n:=Tryz.noAct;have q:=Tryz.noSet;have r:=Tryz.noDiscard;have t:=Tryz.yesStop;have H:=I h;have m:=I g;have j:Hid (∀ o,CC (w.alloc o) B a b):=fun o=>h.alloc o
 have c:∀ o,Below w.heap.size w (w.alloc o):=fun o=>Qs o
 have i:=I c;clear h g c;go_enter func176,ntmps176;go_wp2_with (first|(go_at_call 216;refine(Cj _ B a b ⟨14,0,0,false,[],[],p⟩ _ _ _ (by simp) (j.o _) (UQ _ _ rfl rfl (by show(-9223372036854775808:Int)<=0;decide) (by show(0:Int)<=9223372036854775807;decide)) m.o).mono ?_;rintro e s ⟨rfl,d,f⟩;have k:=I d;have l:=I ((Fr.of_below (i.o _)).trans f);clear d f;skip));go_end0;exact⟨rfl,k.o,l.o⟩
theorem Hq(x:L8):∀ j,j<[x].length->(#[Value.string (sA x)]:Array Value)[j]?=some (.string (sA ([x].getD j []))):=fun j hj=>by
 have:j=0:=by simp at hj;exact hj
 subst this;rfl
theorem Qtc(hw:L8)(p j:Nat)(b a:L8)(B d:Nat)(f:List Ins)(w:World)(h:CC w B d f)(t:f.length+1<=1000000)(F:b.length<=100000)(E:a.length<=100000) :
 Calls prog 176 #[.pointer (some ⟨d,0,none⟩),.iface 264 (.agg #[.string (sA hw),.int .i64 p,.int .i64 j,.string (sA b),.string (sA a)])] w (Xq B d (f++[⟨12,0,j,false,[b],[a],p⟩]) w):=by
 have K:=Tryz.noAct;have M:=Tryz.yesSet;have H:=I h;have D:B<=w.heap.size:=Nat.le_of_lt (Nat.lt_of_le_of_lt h.lt.1 h.lt.2);have u:Hid (Apt w.heap.size [((⟨12,0,j,false,[b],[a],p⟩:Ins),Value.slice (some ⟨w.heap.size+1,0,none⟩) 1 1,Value.slice (some ⟨w.heap.size+1+1,0,none⟩) 1 1)]):=Apt.two (L2:=w.heap.size+2) (fun k l=>by have e:w.heap.size+1=k:=(by simpa[Value.ownBlock]using l);omega) (fun k l=>by have e:w.heap.size+1+1=k:=(by simpa[Value.ownBlock]using l);omega) (by omega) Qt Qt;have y:=I t;have J:Hid (∀ o,CC (w.alloc o) B d f):=fun o=>h.alloc o
 have q:∀ o,Below w.heap.size w (w.alloc o):=fun o=>Qs o
 have G:=I q;clear h t q;have A:Hid (∀ c i,SlT (((w.alloc c).alloc (.cells #[.string (sA b)] 9)).alloc i) (.slice (some ⟨w.heap.size+1,0,none⟩) 1 1) [b]):=fun c i=>Qc ⟨_,1,rfl,#[.string (sA b)],Qy (Zv (by simp)),Hq b⟩
 have C:Hid (∀ c g,SlT (((w.alloc c).alloc g).alloc (.cells #[.string (sA a)] 9)) (.slice (some ⟨w.heap.size+1+1,0,none⟩) 1 1) [a]):=fun c g=>Qc ⟨_,1,rfl,#[.string (sA a)],Zv (by simp),Hq a⟩
 have n:Hid (∀ c g i,Below w.heap.size w (((w.alloc c).alloc g).alloc i)):=fun c g i=>((Qs _).alloc (by simp) _).alloc (by simp;omega) _
 go_enter func176,ntmps176;go_wp2_with (first|(go_at_call 216;refine(WS _ B d w.heap.size f ⟨12,0,j,false,[b],[a],p⟩ _ _ _ (by simp) (H.o.toL.below (n.o _ _ _)) ⟨A.o _ _,C.o _ _,(fun z m=>(by rw[QY m];exact F)),(fun z m=>(by rw[QY m];exact E)),(by show 1<=1000000;decide),(by show 1<=1000000;decide),(by show(-9223372036854775808:Int)<=0;decide),(by show(0:Int)<=9223372036854775807;decide)⟩ u.o D y.o).mono ?_;rintro e L ⟨rfl,r,s⟩;have v:=I r;have x:=I ((Fr.of_below (n.o _ _ _)).trans s);clear r s;skip));go_end0;exact⟨rfl,v.o,x.o⟩
end
section
open Go.RowKit
def aTo{α β:Type}(tst:β->List Ins->List Ins)(cmd:α->List Ins->List Ins)(as_:List (β×List α))(cs:List Ins)(k:Nat):List Ins×List Nat:=(as_.take k).foldl (Yt tst cmd) (cs,[])
theorem Co(tst:β->List Ins->List Ins)(b:α->List Ins->List Ins)(a:List (β×List α))(c:List Ins)(k:Nat)(h:k<a.length):aTo tst b a c (k+1)=Yt tst b (aTo tst b a c k) a[k]:=by
 unfold aTo;rw[List.take_add_one,List.getElem?_eq_getElem h,List.foldl_append];rfl
theorem QxT(tst:β->List Ins->List Ins)(b:α->List Ins->List Ins)(a:List (β×List α))(d:List α)(c:List Ins):Kl tst b a d c=Vb b d (aTo tst b a c a.length):=by
 unfold Kl aTo;rw[List.take_length]
theorem Hr{α β:Type}(tst:β->List Ins->List Ins)(b:α->List Ins->List Ins)(a:List (β×List α))(c:List Ins):∀ k,k<=a.length->(aTo tst b a c k).2.length=k
 |0,_=>rfl
 |k+1,h=>by
  rw[Co tst b a c k h];have:=Hr tst b a c k (by omega);unfold Yt;simp[this]
theorem Hs{α β:Type}{tst:β->List Ins->List Ins}{c:α->List Ins->List Ins}(e:∀ t a,a.length<=(tst t a).length)(d:∀ t a,a.length<=(c t a).length)(b:List (β×List α))(a:List Ins):∀ k,k<=b.length->∀ j∈(aTo tst c b a k).2,j<(aTo tst c b a k).1.length
 |0,_,j,hj=>by cases hj
 |k+1,h,j,hj=>by
  have g:=Hs e d b a k (by omega);rw[Co tst c b a k h]at hj ⊢;have i:=e b[k].1 (aTo tst c b a k).1;have f:=UB d b[k].2 (tst b[k].1 (aTo tst c b a k).1++[insOp 5]);unfold Yt at hj ⊢;simp only[List.mem_append,List.mem_singleton,JF,Qk,QD,Q4]at hj f ⊢;rcases hj with hj|hj
  ·have:=g j hj;omega
  ·omega
theorem Qwe{tst:β->List Ins->List Ins}{c:α->List Ins->List Ins}(e:∀ t a,a.length<=(tst t a).length)(d:∀ t a,a.length<=(c t a).length)(b:List (β×List α))(a:List Ins)(k:Nat):(aTo tst c b a k).1.length<=(aTo tst c b a b.length).1.length:=by
 unfold aTo;rw[List.take_length];have:=Bt e d (b.drop k) ((b.take k).foldl (Yt tst c) (a,[]));rw[<-List.foldl_append,List.take_append_drop]at this;exact this
theorem Qns(tst:β->List Ins->List Ins)(f:α->List Ins->List Ins)(b:List (β×List α))(s:List α)(B l g c:Nat)(hw:L8)(p:Nat)(af:Bool)(G:Option Addr)(K J:Nat)(d:List Ins)(w:World)(h:CC w B l d)(a0:b≠[])(aE:g<B)(a2:b.length<=1000000)
 (ht:∀ t d,d.length<=(tst t d).length) (ai:∀ t d,d.length<=(f t d).length) (hl:(Kl tst f b s d).length<=1000000)
 (hc:∀ j (hj:j<b.length),∃ ty y a n c',w.cell? ⟨g,2*j,none⟩=some (.iface ty y)/\w.cell? ⟨g,2*j+1,none⟩=some (.slice a n c')/\SubC 255 B l w (.iface ty y) (tst b[j].1)/\SubC 120 B l w (.slice a n c') (blockC f b[j].2))
 (he:SubC 120 B l w (.slice G K J) (blockC f s)) :
 Calls prog 218 #[.pointer (some ⟨l,0,none⟩),.agg #[.string (sA hw),.int .i64 p,.slice (some ⟨g,0,none⟩) b.length c,.bool af,.slice G K J]] w (Xq B l (Kl tst f b s d) w):=by
 obtain⟨i0,hi,a4,a6,a7⟩:=info_parts Tryz.infoIntJ;have ay:B<=w.heap.size:=Nat.le_of_lt (Nat.lt_of_le_of_lt h.lt.1 h.lt.2);rw[QxT]at hl ⊢;have aJ:=DX ai s (aTo tst f b d b.length);have aS:=I (Qm aJ hl);have HL:=I hl;have HC:=I hc;have HT:=I ht;have V:=I ai;have HELS:=I he;have H:=I h;clear hc ht ai h hl he aJ;go_enter func218,ntmps218;go_wp2_with fail;obtain⟨m,aa⟩:=QE (w.alloc (.cells #[.string (sA hw),.int .i64 p,.slice (some ⟨g,0,none⟩) b.length c,.bool af,.slice G K J] 261));rw[<-aa];have T:Hid (Below w.heap.size w m):=by show Below _ _ _;rw[aa];exact Qs _
 have aQ:Hid (m.heap[w.heap.size]?=some (.cells #[.string (sA hw),.int .i64 p,.slice (some ⟨g,0,none⟩) b.length c,.bool af,.slice G K J] 261)):=by show _=_;rw[aa];exact QA _ _
 have ar:Hid (CC m B l d):=H.o.below T.o;clear aa
 go_loopw [4,6,7,11] (fun v _ _ i wr=>∃(k:Nat) (r:List Ins×List Nat),k<=b.length/\i=.int .i64 (k:Int)/\r=aTo tst f b d k/\wr.ownsRow m.heap.size 3 1 v r.2.length (KS r.2)/\CC wr B l r.1/\Fr (PCo B) m wr) (fun _ _ _ i _=>b.length - (intOf i).toNat)
 case atStart=>exact⟨0,_,QC,by go_num,rfl,World.ownsRow_nil _ _ _ _,ar.o,Fr.refl _ _⟩
 case round=>
  obtain⟨k,r,hk,rfl,z,R,Z,hF⟩:=hrel;have ab:r.2.length=k:=by rw[z];exact Hr tst f b d k hk
  have x:Below B w wr:=(T.o.mono ay).trans (hF.co ar.o);by_cases hlt:k<b.length
  ·obtain⟨ty,y,a,n,c',aD,aC,aq,ah⟩:=HC.o k hlt
   have c0:wr.cell? ⟨g,k*2,none⟩=some (.iface ty y):=by
    rw[Nat.mul_comm,x.cell (p:=⟨g,2*k,none⟩) aE];exact aD
   have c1:wr.cell? ⟨g,k*2+1,none⟩=some (.slice a n c'):=by
    rw[Nat.mul_comm,x.cell (p:=⟨g,2*k+1,none⟩) aE];exact aC
   have u:=Co tst f b d k hlt;have N:=Qwe HT.o V.o b d (k+1);rw[u,<-z]at N;rw[<-z]at u;obtain⟨am,az⟩:=Qf (b[k]);rw[az]at u aq ah N;unfold Yt at u N;have E:=Qm N aS.o;have M:=UB V.o am.2 (tst am.1 r.1++[insOp 5]);obtain⟨A,X⟩:=Qf (tst am.1 r.1);rw[X]at u E M;obtain⟨q,Y⟩:=Qf (blockC f am.2 (A++[insOp 5]));rw[Y]at u E M;dsimp only at E;rw[JF,Qk]at E;rw[Qk]at M;simp only[QD,Q4]at E M;have q1:(tst am.1 r.1).length<=1000000:=by rw[X];omega
   have S:A.length+1<=1000000:=by omega
   have q3:(blockC f am.2 (A++[insOp 5])).length<=1000000:=by rw[Y];omega
   have F:q.length+1<=1000000:=by omega
   have q5:A.length<(q++[insOp 3]).length:=by rw[Qk];simp only[QD,Q4];omega
   have q6:(q++[insOp 3]).length<=1000000:=by rw[Qk];exact F
   have Q:=I (And.intro q1 (And.intro S (And.intro q3 (And.intro F (And.intro q5 q6)))));have HS:=I u;have HTY:=I aq;have aL:=I ah;have HAe:=I X;have aK:=I Y;have HOW:=I R;have HCC:=I Z;have HF:=I hF;have HBe:=I x;have aX:B<=wr.heap.size:=Qm ay x.size;have HBe':Hid (∀ o,Below B w (wr.alloc o)):=fun o=>HBe.o.alloc aX o
   obtain⟨la,lc,aZ⟩:=ZC R;subst aZ;have ba:r.2.length<=1000000:=by omega
   have a9:w.heap.size<=m.heap.size:=T.o.size;have HA0:Hid ((wr.alloc (.cells #[.iface ty y,.slice a n c'] 298)).heap[wr.heap.size]?=some (.cells #[.iface ty y,.slice a n c'] 298)):=QA _ _;clear R Z hF x aD aC aq ah N E M X Y az z u q1 S q3 F q5 q6 ab
   go_wp2_with (first
    |(have L:=av;go_at_call 256;refine(Hg B l A.length _ _ av.o Q.o.2.2.2.2.1 Q.o.2.2.2.2.2).mono ?_;rintro e w6 ⟨rfl,aB,ak⟩;have aN:=I aB;have aP:=I (aO.o.trans ak);have aW:=I (Jh aV.o ak (fun _ _=>PCo.not (by decide) (by decide)));clear aB ak;skip)
    |(have L:=au;at_builtin;refine wpList_append_own _ rfl _ _ 24 rfl m.heap.size 3 i0 _ 1 8 underlying24 hi a4 a6 a7 rfl (by decide) _ _ _ rfl (ae.o.alloc _) ⟨w4.heap.size,0,none⟩ 1 1 [.int .i64 (q.length:Int)] rfl rfl (cell_one_new _ _ _) (Hk _) (by unfold maxLen;omega) (by omega) (by simp;omega) ?_;intro v5 w5 ap ao _;obtain⟨a5,k5,a3⟩:=ZC ap;subst a3;have aV:=I ap;have av:=I ((au.o.alloc _).grownInt (ae.o.alloc _) ao);have aO:=I ((aw.o.alloc _).grownNew ao (fun k hk=>(ae.o.lt k hk).1));clear ap ao;skip)
    |(have L:=U;go_at_call 216;refine(UP B l q (insOp 3) _ _ _ U.o (At _ _) Q.o.2.2.2.1).mono ?_;rintro e w4 ⟨rfl,aA,aj⟩;have au:=I aA;have aw:=I (ad.o.trans aj);have ae:=I (Jh aU.o aj (fun _ _=>PCo.not (by decide) (by decide)));have bb:=aw.o.size;clear aA aj;skip)
    |(have L:=HC2;go_at_call 120;refine(aL.o _ _ aM.o HC2.o Q.o.2.2.1).mono ?_;rintro e w3 ⟨rfl,C,D⟩;rw[aK.o]at C;have U:=I C;have ad:=I (HF2.o.trans D);have aU:=I (Jh aT.o D (fun _ _=>PCo.not (by decide) (by decide)));clear C D;skip)
    |(have L:=HC1;go_at_call 216;refine(UP B l A (insOp 5) _ _ _ HC1.o (At _ _) Q.o.2.1).mono ?_;rintro e w2 ⟨rfl,hc2,hf2⟩;have aM:=I (HBe1.o.trans (hf2.co HC1.o));have HC2:=I hc2;have HF2:=I (HF1.o.trans hf2);have aT:=I (Jh HO1.o hf2 (fun _ _=>PCo.not (by decide) (by decide)));have ax:=hf2.block _ _ HA1.o (PCo.not (by decide) (by decide));have d1:=Qo ax;clear hc2 hf2 ax;skip)
    | (go_at_call 255;refine (HTY.o _ r.1 (HBe'.o _) (HCC.o.alloc _) Q.o.1).mono ?_;rintro e w1 ⟨rfl,hc1,hf1⟩;rw [HAe.o] at hc1;have HBe1:=I ((HBe'.o _).trans (hf1.co (HCC.o.alloc _)));have HC1:=I hc1;have HF1:=I ((HF.o.alloc _).trans hf1);have HO1:=I (Jh (HOW.o.alloc _) hf1 (fun _ _=>PCo.not (by decide) (by decide)));have HA1:=I (hf1.block _ _ HA0.o (PCo.not (by decide) (by decide)));clear hc1 hf1;skip))
   go_roundw
   case rel=>
    refine⟨k+1,_,by omega,by go_num,HS.o.symm,?_,aN.o,aP.o⟩;show w6.ownsRow m.heap.size 3 1 _ (r.2++[q.length]).length (KS (r.2++[q.length]))
    rw[Qk,<-Hi];exact aW.o
   case measure=>simp[intOf];omega
  ·have aY:k=b.length:=by omega
   subst aY;have a1:r.2≠[]:=fun e=>a0 (XB (by rw[<-ab,e];rfl))
   obtain⟨gj,cj,a8,hv,aG,aH⟩:=Hl R a1;subst hv;have aI:∀ j∈r.2,j<r.1.length:=by rw[z];exact Hs HT.o V.o b d b.length Qt
   have ac:Hid (Vb f s (aTo tst f b d b.length)=landL r.2 (blockC f s r.1)):=by
    show _=_
    rw[<-z];rfl
   have P:=HL.o;rw[ac.o,JF]at P;have aF:=UB V.o s r.1;obtain⟨W,ag⟩:=Qf (blockC f s r.1);have q0:=P;rw[ag]at ac P aF;have S:∀ j∈r.2,j<W.length:=fun j hj=>by have:=aI j hj;omega
   have F:r.2.length<=1000000:=by rw[ab];exact a2
   have Q:=I (And.intro q0 (And.intro S (And.intro P F)));have HE2:=I ag;have HJB:=I aG;have aR:=I aH;have HCC:=I Z;have HF:=I hF;have HBe:=I x;have d4:=QJ (w:=wr) (hF.block _ _ aQ.o (PCo.not (by decide) (by decide)));clear R Z hF x z aG aH aI ag P aF q0 S F ab hlt hk HC HL
   go_wp2_with (first
    |(have L:=HC2;go_at_call 256;refine(Cf B l gj cj r.2 a8 W _ HC2.o Q.o.2.1 HJ2.o aR.o Q.o.2.2.1 Q.o.2.2.2).mono ?_;rintro e w3 ⟨rfl,C,D⟩;have U:=I C;have ad:=I (HF2.o.trans D);clear C D;skip)
    | (go_at_call 120;refine (HELS.o wr r.1 HBe.o HCC.o Q.o.1).mono ?_;rintro e w2 ⟨rfl,hc2,hf2⟩;rw [HE2.o] at hc2;have HC2:=I hc2;have HF2:=I (HF.o.trans hf2);have HJ2:=I (hf2.block _ _ HJB.o (PCo.not (by decide) (by decide)));clear hc2 hf2;skip))
   go_end0;rw[ac.o];exact⟨rfl,U.o,(Fr.of_below T.o).trans ad.o⟩
end
section
open Go.RowKit
attribute [local go_sem ↓] Go.wp_at_zero Go.wp_at_succ
def CmdIHc(req:Qa)(B cb n:Nat):Prop:=
 ∀(x:QF n) (i:L8) (w:World) (v:Value),XS n (fun k=>k<B) x w v->XU (WfT req) (WfC req) n x->(Q8 n x i).length<=100000->SubC 176 B cb w v (XD n x)
theorem Cp{req:Qa}{b:Nat}(t:CmdIHc req B b n)(a:List (QF n))(i:L8)(w:World)(v:Value)(h:blX (fun k=>k<B) (XS n) a w v)(o:∀ c∈a,XU (WfT req) (WfC req) n c)(e:(Q7 (Q8 n) a i).length<=100000):SubC 120 B b w v (blockC (XD n) a):=by
 rw[Qv1]at e;rcases h with⟨rfl,rfl⟩ | ⟨z,g,c,rfl,r,s⟩
 ·exact QpU B b w
 ·have p:a.length<=1000000:=by
   have:=Ht i (a.map fun c=>Q8 n c i);rw[List.length_map]at this;omega
  refine Qnn (XD n) a B b g c w r p (Bu n) (fun j d=>?_);obtain⟨u,q,m⟩:=s j d;obtain⟨x,y,rfl⟩:=(Xf n).form _ _ _ _ m;have l:a[j]∈a:=List.getElem_mem d;exact⟨x,y,q,t a[j] i w _ m (o _ l) (Qm (Hu i (a.map fun c=>Q8 n c i) _ (List.mem_map_of_mem (f:=fun c=>Q8 n c i) l)) e)⟩
theorem Nh{ps:Qa}{x:L8}(h:QR x∈ps)(a:(Zc ps++[59]).length<=100000):x.length<=100000:=by
 have b:=Jf h;have c:=Cl x;rw[Qk]at a;omega
theorem Hv(req:Qa)(B d:Nat):∀ n,CmdIHc req B d n
 |0=>fun x i w v h ha _=>ha.elim
 |n+1=>fun x i w v hv0 ha hlen W cs hW hCC hl=>by
  have J:=Hv req B d n;obtain⟨H,Q,T⟩:=ha;have h:Ko (fun k=>k<B) (TestV n) (XS n) x W v:=(Xf (n+1)).keep _ _ _ _ _ hv0 (fun k X _=>hW.block k X);have M:B<=W.heap.size:=Nat.le_of_lt (Nat.lt_of_le_of_lt hCC.lt.1 hCC.lt.2);have hlen:(XM x.1 i (x.2.1.map fun a=>(Q3 n a.1,Q7 (Q8 n) a.2 (i++[32,32]))) (Q7 (Q8 n) x.2.2 (i++[32,32]))).length<=100000:=hlen;have hl:(Xp (Zn n) (XD n) x.1 x.2.1 x.2.2 cs).length<=1000000:=hl;show Calls prog 176 #[.pointer (some ⟨d,0,none⟩),v] W (Xq B d (Xp (Zn n) (XD n) x.1 x.2.1 x.2.2 cs) W)
  generalize hal:(x.2.1.map fun a=>(Q3 n a.1,Q7 (Q8 n) a.2 (i++[32,32])))=al at hlen;generalize heb:Q7 (Q8 n) x.2.2 (i++[32,32])=eb at hlen;unfold Ko Ge at h
  split at h
  ·rename_i e;subst h;have b:Xp (Zn n) (XD n) x.1 x.2.1 x.2.2 cs=cs++[ZL 1 x.1.pos []]:=by unfold Xp;rw[e];rfl
   rw[b]at hl ⊢;exact Qrq JH _ [] B d cs W hCC (by simpa using hl)
  ·rename_i e;subst h;have b:Xp (Zn n) (XD n) x.1 x.2.1 x.2.2 cs=cs++[⟨13,0,0,false,[],[],x.1.pos⟩]:=by unfold Xp;rw[e];rfl
   rw[b]at hl ⊢;exact Qld JI _ B d cs W hCC (by simpa using hl)
  ·rename_i e;subst h;have b:Xp (Zn n) (XD n) x.1 x.2.1 x.2.2 cs=cs++[⟨14,0,0,false,[],[],x.1.pos⟩]:=by unfold Xp;rw[e];rfl
   rw[b]at hl ⊢;exact Qsn JJ _ B d cs W hCC (by simpa using hl)
  ·rename_i e;subst h;have b:Xp (Zn n) (XD n) x.1 x.2.1 x.2.2 cs=cs++[ZL 2 x.1.pos [x.1.arg]]:=by unfold Xp;rw[e];rfl
   have f:XM x.1 i al eb=Zc [Ze,QR x.1.arg]++[59]:=by unfold XM;rw[e];rfl
   rw[b]at hl ⊢;rw[f]at hlen;exact Cn Ze _ 2 _ B d cs W hCC (by simpa using hl) (by decide) (Nh (by simp) hlen)
  ·rename_i e;subst h;have b:Xp (Zn n) (XD n) x.1 x.2.1 x.2.2 cs=cs++[ZL 3 x.1.pos [x.1.arg]]:=by unfold Xp;rw[e];rfl
   have f:XM x.1 i al eb=Zc [Yn,QR x.1.arg]++[59]:=by unfold XM;rw[e];rfl
   rw[b]at hl ⊢;rw[f]at hlen;exact Cn Yn _ 3 _ B d cs W hCC (by simpa using hl) (by decide) (Nh (by simp) hlen)
  ·rename_i e;subst h;have b:Xp (Zn n) (XD n) x.1 x.2.1 x.2.2 cs=cs++[ZL 4 x.1.pos [x.1.arg]]:=by unfold Xp;rw[e];rfl
   have f:XM x.1 i al eb=Zc [Zf,QR x.1.arg]++[59]:=by unfold XM;rw[e];rfl
   rw[b]at hl ⊢;rw[f]at hlen;exact Cn Zf _ 4 _ B d cs W hCC (by simpa using hl) (by decide) (Nh (by simp) hlen)
  ·rename_i e;subst h;have b:Xp (Zn n) (XD n) x.1 x.2.1 x.2.2 cs=cs++[⟨12,0,x.1.tag,false,[x.1.var],[x.1.arg],x.1.pos⟩]:=by unfold Xp;rw[e];rfl
   have f:XM x.1 i al eb=Zc [ZW,YO x.1.tag [Xs,Xt,Xu],QR x.1.var,QR x.1.arg]++[59]:=by unfold XM;rw[e];rfl
   rw[b]at hl ⊢;rw[f]at hlen;exact Qtc ZW _ x.1.tag _ _ B d cs W hCC (by simpa using hl) (Nh (by simp) hlen) (Nh (by simp) hlen)
  ·rename_i h0 h1 h2 h3 h4 h5 h6;obtain⟨av,ev,rfl,R,aa,A⟩:=h
   have e:x.1.kind=7:=by
    have a0:x.1.kind≠0:=h0;have a1:x.1.kind≠1:=h1;have a2:x.1.kind≠2:=h2;have a3:x.1.kind≠3:=h3;have a4:x.1.kind≠4:=h4;have a5:x.1.kind≠5:=h5;have a6:x.1.kind≠6:=h6;have:=H.kind;omega
   have b:Xp (Zn n) (XD n) x.1 x.2.1 x.2.2 cs=Kl (Zn n) (XD n) x.2.1 x.2.2 cs:=by unfold Xp;rw[e];rfl
   have f:XM x.1 i al eb=Xh i kIf al++(if x.1.els then UC++eb++i else [])++[125]:=by unfold XM;rw[e];rfl
   rw[b]at hl ⊢;rw[f]at hlen;obtain⟨g,c,rfl,q,o⟩:=R;obtain⟨r,t,s,rfl⟩:=A.form;have ab:al.length=x.2.1.length:=by rw[<-hal];simp
   have D:(Xh i kIf al).length<=100000:=by rw[Qk,Qk]at hlen;omega
   have P:x.2.1.length<=1000000:=by
    have:=Hw i al kIf;omega
   have Y:(Q7 (Q8 n) x.2.2 (i++[32,32])).length<=100000:=by
    cases o:x.1.els with
    |true=>
     rw[o]at hlen;simp only[if_true,Qk]at hlen;rw[heb];omega
    |false=>
     have:x.2.2=[]:=XB (H.else0 o);rw[this];exact QC
   refine Qwq kIf _ _ r _ c t s _ _ B d cs W hCC M (fun K l N=>?_);refine Qns (Zn n) (XD n) x.2.1 x.2.2 B d g c kIf _ _ r t s cs K N aa q P (NZ n) (Bu n) hl (fun j C=>?_) ((Cp J _ _ W _ A T Y).below l);obtain⟨u,bv,hu,S,F,G⟩:=o j C;obtain⟨ty,y,rfl⟩:=(Jg n).form _ _ _ _ F;obtain⟨a,m,L,rfl⟩:=G.form;have Z:x.2.1[j]∈x.2.1:=List.getElem_mem C;have V:j<al.length:=by omega
   have U:al[j]=(Q3 n x.2.1[j].1,Q7 (Q8 n) x.2.1[j].2 (i++[32,32])):=by
    simp only[<-hal,List.getElem_map]
   have E:=Hx i al kIf al[j] (List.getElem_mem V);rw[U]at E;obtain⟨m1,m2⟩:=E;have z:=Q _ Z;exact⟨ty,y,a,m,L,by rw[l.cell (p:=⟨g,2*j,none⟩) q];exact hu,by rw[l.cell (p:=⟨g,2*j+1,none⟩) q];exact S,(Ho B d n _ W _ F z.1 (Qm m1 D)).below l,(Cp J _ _ W _ G z.2 (Qm m2 D)).below l⟩
def XK(w:World)(B:Nat)(cv:Value)(code:List Ins):Prop:=
 ∃ ps:List IV,ps.map Prod.fst=code/\w.ownsRow B 63 7 cv ps.length (Zj ps)/\(∀ p∈ps,Xg w p.1 p.2.1 p.2.2)/\(ps=[]->cv=.slice none 0 0)/\Apt B ps
def Cq(w:World)(B:Nat)(cv:Value)(code:List Ins):Prop:=
 ∃ ps:List IV,ps.map Prod.fst=code/\w.ownsRow B 63 7 cv ps.length (Zj ps)/\(∀ p∈ps,Xg w p.1 p.2.1 p.2.2)/\(ps=[]->cv=.slice none 0 0)
theorem XK.codeO(h:XK w B cv code):Cq w B cv code:=by
 obtain⟨d,e,c,a,b,_⟩:=h;exact⟨d,e,c,a,b⟩
theorem XK.below{w w':World}{B:Nat}{cv:Value}{code:List Ins}(h:XK w B cv code)(a:Below w.heap.size w w'):XK w' B cv code:=by
 obtain⟨i,e,f,c,d,b⟩:=h;exact⟨i,e,Jh (P:=fun _ _=>False) f (Fr.of_below a) (fun _ _ h=>h),fun p g=>(c p g).below a,d,b⟩
theorem Cq.len(h:Cq w B cv code):∃ a c,cv=.slice a code.length c:=by
 obtain⟨d,e,b,_⟩:=h;obtain⟨a,c,h⟩:=ZC b;exact⟨a,c,by rw[h,<-e,List.length_map]⟩
theorem SQ(y:Qa×List (QF 7))(A g:Value)(X:Nat->Prop)(w:World)(F:∃ a n c,A=.slice a n c)(j:blX X (XS 7) y.2 w g)(m:∀ c∈y.2,XU (WfT y.1) (WfC y.1) 7 c)(l:(JK y).length<=100000) :
 Calls prog 86 #[.agg #[A,g]] w fun e w'=>∃ cv,e=.returned cv/\XK w' w.heap.size cv (codeL y.2)/\Below w.heap.size w w':=by
 obtain⟨T,V,U,rfl⟩:=F;have s:=j.weak (Xf 7) (Y:=fun k=>k<w.heap.size) (fun k _ H=>H);have v:(Q7 (Q8 7) y.2 []).length<=100000:=by unfold JK at l;rw[Qk]at l;omega
 have t:(codeL y.2).length<=1000000:=by have:=Pk m;omega
 have E:Hid (∀ i,SubC 120 w.heap.size i w g (blockC (XD 7) y.2)):=fun i=>Cp (Hv y.1 w.heap.size i 7) y.2 [] w g s m v
 have C:=I t;obtain⟨la,S,R,rfl⟩:=j.form;have q:Hid (∀ b z,Below w.heap.size w ((w.alloc b).alloc z)):=fun b z=>(Qs _).alloc (by simp) _
 have r:Hid (∀ b,CC ((w.alloc b).alloc (.cells #[.slice none 0 0] 202)) w.heap.size (w.heap.size+1) []):=fun b=>⟨.slice none 0 0,[],rfl,by omega,Zv (by simp),World.ownsRow_nil _ _ _ _,(fun p K=>nomatch K),(fun _=>rfl),Apt.nil _⟩
 clear j s m l v t;go_enter func86,ntmps86;go_wp2_with (first|(go_at_call 120;refine(E.o _ _ [] (q.o _ _) (r.o _) C.o).mono ?_;rintro e M ⟨rfl,G,u⟩;obtain⟨cv,L,x,f⟩:=G;have N:=Qj f.blk;obtain⟨P,Q,J⟩:=ZC f.row;subst J;have d:=I f;have D:=I x;have B:=I ((q.o _ _).trans (u.co (r.o _)));clear x f u;skip));go_ret;exact⟨_,rfl,⟨L,D.o,d.o.row,d.o.ok,d.o.nil,d.o.ap⟩,B.o⟩
end
theorem An(z:L8):z.length<=(QR z).length:=by
 unfold QR;rw[QD,Qk]
 have:z.length<=(z.flatMap KT).length:=by
  induction z with
  |nil=>simp
  |cons c r ih=>
   rw[List.flatMap_cons,Qk,QD];have:1<=(KT c).length:=by unfold KT;split<;>simp
   omega
 omega
theorem Fk(xs:Qa):(∀ z∈xs,z.length<=(Z4 xs).length)/\xs.length<=(Z4 xs).length+1:=by
 match xs with
 | []=>exact⟨fun z a=>(by cases a),QC⟩
 | [x]=>exact⟨fun z a=>(by rw[QY a];exact An x),by simp⟩
 |x::y::r=>
  have e:(Z4 (x::y::r)).length=(YM [44,32] ((x::y::r).map QR)).length+2:=by unfold Z4;simp
  refine⟨fun z a=>?_,?_⟩
  ·have b:=Au ((x::y::r).map QR) (QR z) (List.mem_map_of_mem a);have c:=An z;omega
  ·have b:=Ng ((x::y::r).map QR);rw[List.length_map]at b;omega
theorem Ae{req:Qa}{P:QX->Nat->Prop}(s:∀(x:QX)(m:Nat),x.fr.length<=100000->(∀ t∈x.fr,t.length<=100000)->x.keys.length<=100000->(∀ t∈x.keys,t.length<=100000)->m<=100000->P x m):∀(n:Nat) (x:QQ n),Yl (WfT req) n x->(Q3 n x).length<=90000->Yl P n x
 |0,x,h,_=>h.elim
 |n+1,x,⟨hw,hs⟩,hl=>by
  have hl:(ZP x.1 (x.2.map (Q3 n))).length<=90000:=hl;have y:=hw.kind
  have o:(x.1.kind<=4\/x.1.kind=9)->x.1.fr.length<=100000/\∀ t∈x.1.fr,t.length<=100000:=fun h=>by
   rw[hw.fr0 h];exact⟨QC,fun t f=>(by cases f)⟩
  have g:(x.1.kind<=4\/8<=x.1.kind)->x.1.keys.length<=100000/\∀ t∈x.1.keys,t.length<=100000:=fun h=>by
   rw[hw.keys0 h];exact⟨QC,fun t f=>(by cases f)⟩
  have j:∀ q:Qa,(Z4 q).length<=90000->q.length<=100000/\∀ t∈q,t.length<=100000:=fun q h=>by
   obtain⟨r,w⟩:=Fk q;exact⟨by omega,fun t f=>by have:=r t f;omega⟩
  have i:(x.1.kind<=1\/5<=x.1.kind)->x.2.length<=100000/\∀ a∈x.2,Yl P n a:=fun h=>by
   have:=hw.leaf h;rw[XB this];exact⟨QC,fun t f=>(by cases f)⟩
  have u:∀ l,(Yu l (x.2.map (Q3 n))).length<=90000->x.2.length<=100000/\∀ a∈x.2,Yl P n a:=fun l h=>by
   refine⟨?_,fun a p=>Ae s n a (hs a p) (Qm (Hp (hw:=l) (List.mem_map_of_mem p)) h)⟩;have r:=Ng (x.2.map (Q3 n));unfold Yu at h;simp only[Qk,List.length_map]at h r;omega
  have k:∀ l,(YN l x.1).length<=90000->(Z4 x.1.fr).length<=90000/\(Z4 x.1.keys).length<=90000:=fun l h=>⟨Qm (Jf (by simp)) h,Qm (Jf (by simp)) h⟩
  have d:(x.1.fr.length<=100000/\∀ t∈x.1.fr,t.length<=100000)->(x.1.keys.length<=100000/\∀ t∈x.1.keys,t.length<=100000)->(x.2.length<=100000/\∀ a∈x.2,Yl P n a)->Yl P (n+1) x:=fun a b c=>⟨s _ _ a.1 a.2 b.1 b.2 c.1,c.2⟩
  have v:x.1.kind=0\/x.1.kind=1\/x.1.kind=2\/x.1.kind=3\/x.1.kind=4\/x.1.kind=5\/x.1.kind=6\/x.1.kind=7\/x.1.kind=8\/x.1.kind=9:=by omega
  unfold ZP at hl;rcases v with e|e|e|e|e|e|e|e|e|e
  ·exact d (o (by omega)) (g (by omega)) (i (by omega))
  ·exact d (o (by omega)) (g (by omega)) (i (by omega))
  ·rw[e]at hl;have hl:(Zc (kNot::x.2.map (Q3 n))).length<=90000:=hl;refine d (o (by omega)) (g (by omega)) ⟨by have:=hw.one e;omega,fun a p=>Ae s n a (hs a p) (Qm (Jf (List.mem_cons_of_mem _ (List.mem_map_of_mem p))) hl)⟩
  ·rw[e]at hl;exact d (o (by omega)) (g (by omega)) (u _ hl)
  ·rw[e]at hl;exact d (o (by omega)) (g (by omega)) (u _ hl)
  ·rw[e]at hl;exact d (j _ (k _ hl).1) (j _ (k _ hl).2) (i (by omega))
  ·rw[e]at hl;exact d (j _ (k _ hl).1) (j _ (k _ hl).2) (i (by omega))
  ·rw[e]at hl;exact d (j _ (k _ hl).1) (j _ (k _ hl).2) (i (by omega))
  ·rw[e]at hl;have hl:(Zc [XO,Z4 x.1.fr]).length<=90000:=hl;exact d (j _ (Qm (Jf (by simp)) hl)) (g (by omega)) (i (by omega))
  ·exact d (o (by omega)) (g (by omega)) (i (by omega))
theorem QyB(a i t b:L8):t.length+b.length+1<=(Jp a i t b).length+1/\1<=(Jp a i t b).length:=by
 unfold Jp;have c:t.length<=(Zc [a,t,JG]).length:=Jf (by simp);have d:JG.length<=(Zc [a,t,JG]).length:=Jf (by simp);have e:JG.length=2:=rfl;simp only[Qk];omega
theorem BP(i:L8):∀(d:List (L8×L8)) (c:L8),d.length<=(Xh i c d).length/\∀ a∈d,a.1.length<=(Xh i c d).length/\a.2.length<=(Xh i c d).length
 | [],c=>⟨QC,fun a ha=>(by cases ha)⟩
 |a::r,c=>by
  obtain⟨f,e⟩:=BP i r KI;have g:=QyB c i a.1 a.2;unfold Xh;simp only[Qk,QD];refine⟨by omega,fun b hb=>?_⟩;rcases List.mem_cons.1 hb with hb|hb
  ·subst hb;omega
  ·have:=e b hb;omega
theorem GW{α:Type}(txt:α->L8->L8)(i:L8):∀ cs:List α,cs.length<=(Q7 txt cs i).length/\∀ c∈cs,(txt c i).length<=(Q7 txt cs i).length
 | []=>⟨QC,fun a ha=>(by cases ha)⟩
 |c::r=>by
  obtain⟨f,d⟩:=GW txt i r
  have e:(Q7 txt (c::r) i).length=i.length+(txt c i).length+1+(Q7 txt r i).length:=by
   unfold Q7;rw[List.flatMap_cons];simp;omega
  rw[e,QD];refine⟨by omega,fun b hb=>?_⟩;rcases List.mem_cons.1 hb with hb|hb
  ·subst hb;omega
  ·have:=d b hb;omega
theorem Fj{α β:Type}(tc:β->List Ins)(cc:α->List Ins)(c:List α):∀ arms:List (β×List α),(QB cc c).length<=(ZX tc cc c arms).length/\∀ a∈arms,(QB cc a.2).length<=(ZX tc cc c arms).length
 | []=>⟨Nat.le_refl _,fun a ha=>(by cases ha)⟩
 |a::r=>by
  obtain⟨f,d⟩:=Fj tc cc c r
  have e:(ZX tc cc c (a::r)).length=(tc a.1).length+1+(QB cc a.2).length+1+(ZX tc cc c r).length:=by
   rw[ZX];simp;omega
  rw[e];refine⟨by omega,fun b hb=>?_⟩;rcases List.mem_cons.1 hb with hb|hb
  ·subst hb;omega
  ·have:=d b hb;omega
def Tells(s t:SS):Prop:=t.met=s.met/\t.disc=s.disc
theorem Gl(s:SS)(c:Int)(b:Bool)(d a:Qa):Tells s (Z9 s c b d a).2:=by
 unfold Z9;split
 ·exact⟨rfl,rfl⟩
 ·split
  ·exact⟨rfl,rfl⟩
  ·exact⟨rfl,rfl⟩
theorem Cr{α:Type}{a:α->SS->Bool×SS}(d:Bool):∀(e:List α) (s:SS),(∀ t∈e,∀ s,Tells s (a t s).2)->Tells s (Xb a d e s).2
 | [],s,h=>⟨rfl,rfl⟩
 |t::r,s,h=>by
  unfold Xb;have b:=h t List.mem_cons_self s;split
  ·exact b
  ·have c:=Cr d r (a t s).2 (fun x f=>h x (List.mem_cons_of_mem _ f));exact⟨c.1.trans b.1,c.2.trans b.2⟩
theorem Ao(M:Msg):∀(n:Nat) (x:QQ n) (s:SS),Tells s (Xl M n x s).2
 |0,x,s=>⟨rfl,rfl⟩
 |n+1,x,s=>by
  show Tells s (evalTN M (Xl M n) x.1 x.2 s).2
  unfold evalTN;split
  ·exact⟨rfl,rfl⟩
  ·exact⟨rfl,rfl⟩
  ·match hx:x.2 with
   | []=>exact⟨rfl,rfl⟩
   |t::r=>exact Ao M n t s
  ·exact Cr false x.2 s (fun t _ s=>Ao M n t s)
  ·exact Cr true x.2 s (fun t _ s=>Ao M n t s)
  ·exact Gl _ _ _ _ _
  ·exact Gl _ _ _ _ _
  ·exact Gl _ _ _ _ _
  ·exact⟨rfl,rfl⟩
  ·exact⟨rfl,rfl⟩
section
def soundB(i:Ins)(pc n k:Nat):Bool:=
 if i.op=1 then(decide (i.n=0) || decide (i.n=1))&&decide (k<8)
 else if i.op=2 then decide (0<k)
 else if i.op=3 then decide (0<=i.n)&&decide (i.n<=(n:Int) - pc - 1)
 else if i.op=4\/i.op=5 then decide (0<k)&&decide (0<=i.n)&&decide (i.n<=(n:Int) - pc - 1)
 else if i.op=6\/i.op=7\/i.op=8 then decide (1<=i.tag)&&decide (i.tag<=3)&&decide (k<8)
 else if i.op=9 then decide (k<8)
 else if i.op=10 then(decide (i.tag=1) || decide (i.tag=2))&&decide (k<8)
 else if i.op=11 then decide (i.tag=1) || (decide (2<=i.tag)&&decide (i.tag<=4)&&decide (0<i.a.length))
 else if i.op=12 then decide (0<=i.tag)&&decide (i.tag<=3)&&decide (0<i.a.length)&&decide (0<i.b.length)
 else decide (i.op=13) || decide (i.op=14)
theorem Uh{l:List α}:0<l.length↔l≠[]:=List.length_pos_iff
theorem Sq(h:soundB i pc n st.length=false)(q:st.length<=8):stepL M n i ⟨s,st,pc,pc+1⟩=.error (12,(pc:Int)):=by
 have f:Yb ⟨s,st,pc,pc+1⟩=.error (12,(pc:Int)):=rfl;unfold soundB at h;unfold stepL;by_cases h1:i.op=1
 ·rw[if_pos h1]at h ⊢;unfold NW J2;simp at h;split
  ·rename_i l;rw[if_neg (by show ¬ st.length<8;have:=h l;omega)]
  ·exact f
 rw[if_neg h1]at h ⊢;by_cases h1:i.op=2
 ·rw[if_pos h1]at h ⊢;unfold NX;simp at h;rw[if_pos (show st=[]from h)];exact f
 rw[if_neg h1]at h ⊢
 have k:¬(0<=i.n/\i.n<=(n:Int) - pc - 1)->KG n ⟨s,st,pc,pc+1⟩ i.n=false:=fun h=>by
  unfold KG;rw[Bool.and_eq_false_iff];by_cases h0:0<=i.n
  ·right;show decide (i.n<=(n:Int) - ((pc+1:Nat):Int))=false
   simp;omega
  ·left;simpa using h0
 by_cases h1:i.op=3
 ·rw[if_pos h1]at h ⊢;unfold VX;rw[k (by simp at h;omega)];exact f
 rw[if_neg h1]at h ⊢
 have j:∀ m,(decide (0<st.length)&&decide (0<=i.n)&&decide (i.n<=(n:Int) - pc - 1))=false->doCond m n i ⟨s,st,pc,pc+1⟩=.error (12,(pc:Int)):=fun m h=>by
  unfold doCond;by_cases h0:0<=i.n/\i.n<=(n:Int) - pc - 1
  ·have p:st=[]:=by
    apply Classical.byContradiction;intro l;have:=Uh.2 l;simp[this,h0.1]at h;omega
   subst p;split
   ·exact f
   ·exact f
  ·rw[k h0];exact f
 by_cases h1:i.op=4
 ·rw[if_pos (Qd h1)]at h;rw[if_pos h1];exact j true h
 rw[if_neg h1];by_cases h2:i.op=5
 ·rw[if_pos (Qc h2)]at h;rw[if_pos h2];exact j false h
 rw[if_neg (by omega)]at h;rw[if_neg h2];clear j k h1 h2
 have g:∀ o,(decide (1<=i.tag)&&decide (i.tag<=3)&&decide (st.length<8))=false->doAsk o i ⟨s,st,pc,pc+1⟩=.error (12,(pc:Int)):=fun o h=>by
  unfold doAsk Bp J2;simp at h;split
  ·rename_i ht;rw[if_neg (by show ¬ st.length<8;have:=h ht.1 ht.2;omega)];rfl
  ·exact f
 by_cases h1:i.op=6
 ·rw[if_pos (Qd h1)]at h;rw[if_pos h1];exact g _ h
 rw[if_neg h1];by_cases h2:i.op=7
 ·rw[if_pos (Qc (Qd h2))]at h;rw[if_pos h2];exact g _ h
 rw[if_neg h2];by_cases h3:i.op=8
 ·rw[if_pos (Qc (Qc h3))]at h;rw[if_pos h3];exact g _ h
 rw[if_neg (by omega)]at h;rw[if_neg h3];clear g h1 h2 h3;by_cases h1:i.op=9
 ·rw[if_pos h1]at h ⊢;unfold J2;simp at h;rw[if_neg (by show ¬ st.length<8;omega)]
 rw[if_neg h1]at h ⊢;by_cases h1:i.op=10
 ·rw[if_pos h1]at h ⊢;unfold VY J2;simp at h;split
  ·rename_i ht;rw[if_neg (by show ¬ st.length<8;have:=h ht;omega)]
  ·exact f
 rw[if_neg h1]at h ⊢;by_cases h1:i.op=11
 ·rw[if_pos h1]at h ⊢;unfold NY;simp at h;rw[if_neg h.1,if_neg (fun e=>e.2.2 (h.2 e.1 e.2.1))];exact f
 rw[if_neg h1]at h ⊢;by_cases h1:i.op=12
 ·rw[if_pos h1]at h ⊢;unfold VZ;rw[if_neg]
  ·exact f
  ·rintro⟨a,b,c,d⟩;have:=Uh.2 c;have:=Uh.2 d;simp_all
 rw[if_neg h1]at h ⊢;simp at h;rw[if_neg h.1,if_neg h.2];exact f
def askE(M:Msg)(i:Ins)(s:SS):Bool×SS:=
 if i.op=6 then Z9 s i.tag i.oct (fieldsL M (i.a.map (expL s))) i.b
 else if i.op=7 then Z9 s i.tag i.oct (envL M i.a) i.b
 else if i.op=8 then Z9 s i.tag i.oct (i.a.map (expL s)) i.b
 else if i.op=9 then(YB M (i.a.map (expL s)),s)
 else(UW M i.tag i.n,s)
section
variable {M:Msg} {s:SS} {st:List Bool} {pc n:Nat} {i:Ins}
theorem Ss(h:i.op=1)(a:soundB i pc n st.length=true):stepL M n i ⟨s,st,pc,pc+1⟩=.ok ⟨s,st++[decide (i.n=1)],pc,pc+1⟩/\st.length<8:=by
 unfold soundB at a;rw[if_pos h]at a;simp at a;refine⟨?_,a.2⟩;unfold stepL;rw[if_pos h];unfold NW;rw[if_pos a.1];exact if_pos a.2
theorem St(h:i.op=2)(a:soundB i pc n st.length=true)(c:st.length<=8):stepL M n i ⟨s,st,pc,pc+1⟩=.ok ⟨s,st.dropLast++[!st.getLastD false],pc,pc+1⟩/\0<st.length:=by
 unfold soundB at a;rw[if_neg (by omega),if_pos h]at a;have b:0<st.length:=of_decide_eq_true a;refine⟨?_,b⟩;unfold stepL;rw[if_neg (by omega),if_pos h];unfold NX;rw[if_neg (show ¬ st=[]from Uh.1 b)];exact if_pos (show st.dropLast.length<8 by rw[List.length_dropLast];omega)
theorem Hy(a:0<=i.n)(b:i.n<=(n:Int) - pc - 1):KG n ⟨s,st,pc,pc+1⟩ i.n=true:=by
 unfold KG;rw[Bool.and_eq_true];refine⟨by simpa using a,?_⟩;show decide (i.n<=(n:Int) - ((pc+1:Nat):Int))=true
 simp;omega
theorem Su(h:i.op=3)(a:soundB i pc n st.length=true):stepL M n i ⟨s,st,pc,pc+1⟩=.ok ⟨s,st,pc,pc+1+i.n.toNat⟩/\0<=i.n/\i.n<=(n:Int) - pc - 1:=by
 unfold soundB at a;rw[if_neg (by omega),if_neg (by omega),if_pos h]at a;simp at a;refine⟨?_,a⟩;unfold stepL;rw[if_neg (by omega),if_neg (by omega),if_pos h];unfold VX;rw[if_pos (Hy a.1 a.2)];rfl
theorem Ff(tk:Bool)(h:i.op=if tk then 4 else 5)(a:soundB i pc n st.length=true):stepL M n i ⟨s,st,pc,pc+1⟩=.ok ⟨s,st.dropLast,pc,if st.getLastD false=tk then pc+1+i.n.toNat else pc+1⟩/\0<st.length/\0<=i.n/\i.n<=(n:Int) - pc - 1:=by
 have g:i.op=4\/i.op=5:=by cases tk<;>simp at h<;>omega
 unfold soundB at a;rw[if_neg (by omega),if_neg (by omega),if_neg (by omega),if_pos g]at a;simp at a;obtain⟨⟨b,c⟩,d⟩:=a;refine⟨?_,b,c,d⟩
 have e:∀ t,doCond t n i ⟨s,st,pc,pc+1⟩=.ok ⟨s,st.dropLast,pc,if st.getLastD false=t then pc+1+i.n.toNat else pc+1⟩:=fun t=>by
  unfold doCond;rw[if_pos (Hy c d),if_neg (show ¬ st=[]from Uh.1 b)];show Except.ok (if st.getLastD false=t then _ else _)=_
  split<;>rfl
 unfold stepL;rw[if_neg (by omega),if_neg (by omega),if_neg (by omega)]
 cases tk with
 |true=>
  have f:i.op=4:=h;rw[if_pos f];exact e true
 |false=>
  have j:i.op=5:=h;rw[if_neg (by omega),if_pos j];exact e false
theorem G3(h:i.op=6\/i.op=7\/i.op=8\/i.op=9\/i.op=10)(a:soundB i pc n st.length=true):stepL M n i ⟨s,st,pc,pc+1⟩=.ok ⟨(askE M i s).2,st++[(askE M i s).1],pc,pc+1⟩/\st.length<8/\(i.op<=8->1<=i.tag/\i.tag<=3)/\(i.op=10->i.tag=1\/i.tag=2):=by
 have b:∀(v:Bool) (c:SS),st.length<8->J2 v ⟨c,st,pc,pc+1⟩=.ok ⟨c,st++[v],pc,pc+1⟩:=fun v c h=>if_pos h
 unfold soundB at a;rw[if_neg (by omega),if_neg (by omega),if_neg (by omega),if_neg (by omega)]at a;unfold stepL askE;rw[if_neg (by omega),if_neg (by omega),if_neg (by omega),if_neg (by omega),if_neg (by omega)];rcases h with h|h|h|h|h
 ·rw[if_pos (Qd h)]at a;simp at a;refine⟨?_,a.2,fun _=>a.1,fun e=>by omega⟩;rw[if_pos h,if_pos h];unfold doAsk;rw[if_pos a.1];exact b _ _ a.2
 ·rw[if_pos (Qc (Qd h))]at a;simp at a;refine⟨?_,a.2,fun _=>a.1,fun e=>by omega⟩;rw[if_neg (by omega),if_pos h,if_neg (by omega),if_pos h];unfold doAsk;rw[if_pos a.1];exact b _ _ a.2
 ·rw[if_pos (Qc (Qc h))]at a;simp at a;refine⟨?_,a.2,fun _=>a.1,fun e=>by omega⟩;rw[if_neg (by omega),if_neg (by omega),if_pos h,if_neg (by omega),if_neg (by omega),if_pos h];unfold doAsk;rw[if_pos a.1];exact b _ _ a.2
 ·rw[if_neg (by omega),if_pos h]at a;simp at a;refine⟨?_,a,fun e=>by omega,fun e=>by omega⟩;rw[if_neg (by omega),if_neg (by omega),if_neg (by omega),if_pos h,if_neg (by omega),if_neg (by omega),if_neg (by omega),if_pos h];exact b _ _ a
 ·rw[if_neg (by omega),if_neg (by omega),if_pos h]at a;simp at a;refine⟨?_,a.2,fun e=>by omega,fun _=>a.1⟩;rw[if_neg (by omega),if_neg (by omega),if_neg (by omega),if_neg (by omega),if_pos h,if_neg (by omega),if_neg (by omega),if_neg (by omega),if_neg (by omega)];unfold VY;rw[if_pos a.1];exact b _ _ a.2
def Vj(i:Ins):L8:=if i.tag=1 then []else i.a.headD []
theorem Sv(h:i.op=11)(hs:soundB i pc n st.length=true):stepL M n i ⟨s,st,pc,pc+1⟩=(if(Xc s.met i.tag (expL s (Vj i))).1=0 then .ok ⟨YW s (Xc s.met i.tag (expL s (Vj i))).2,st,pc,pc+1⟩else .error ((Xc s.met i.tag (expL s (Vj i))).1,i.at_))/\((i.tag=1/\Vj i=[])\/(¬ i.tag=1/\(i.tag=2\/i.tag=3\/i.tag=4)/\0<i.a.length)):=by
 unfold soundB at hs;rw[if_neg (by omega),if_neg (by omega),if_neg (by omega),if_neg (by omega),if_neg (by omega),if_neg (by omega),if_neg (by omega),if_pos h]at hs;simp at hs;unfold stepL Vj;rw[if_neg (by omega),if_neg (by omega),if_neg (by omega),if_neg (by omega),if_neg (by omega),if_neg (by omega),if_neg (by omega),if_neg (by omega),if_neg (by omega),if_neg (by omega),if_pos h];unfold NY;by_cases h1:i.tag=1
 ·rw[if_pos h1,if_pos h1];exact⟨rfl,Qd ⟨h1,rfl⟩⟩
 ·have b:(2<=i.tag/\i.tag<=4)/\i.a≠[]:=by
   rcases hs with hs|hs
   ·exact absurd hs h1
   ·exact⟨hs.1,Uh.1 hs.2⟩
  rw[if_neg h1,if_neg h1,if_pos ⟨b.1.1,b.1.2,b.2⟩];exact⟨rfl,Qc ⟨h1,by omega,Uh.2 b.2⟩⟩
theorem Sw(h:i.op=12)(c:soundB i pc n st.length=true):stepL M n i ⟨s,st,pc,pc+1⟩=.ok ⟨Kx s (i.a.headD []) i.tag (i.b.headD []),st,pc,pc+1⟩/\(i.tag=0\/i.tag=1\/i.tag=2\/i.tag=3)/\0<i.a.length/\0<i.b.length:=by
 unfold soundB at c;rw[if_neg (by omega),if_neg (by omega),if_neg (by omega),if_neg (by omega),if_neg (by omega),if_neg (by omega),if_neg (by omega),if_neg (by omega),if_pos h]at c;simp at c;obtain⟨⟨⟨f,g⟩,d⟩,e⟩:=c;refine⟨?_,by omega,d,e⟩;unfold stepL;rw[if_neg (by omega),if_neg (by omega),if_neg (by omega),if_neg (by omega),if_neg (by omega),if_neg (by omega),if_neg (by omega),if_neg (by omega),if_neg (by omega),if_neg (by omega),if_neg (by omega),if_pos h];unfold VZ;rw[if_pos ⟨f,g,Uh.1 d,Uh.1 e⟩];rfl
theorem Sx(h:i.op=13):stepL M n i ⟨s,st,pc,pc+1⟩=.ok ⟨KE s,st,pc,pc+1⟩:=by
 unfold stepL;rw[if_neg (by omega),if_neg (by omega),if_neg (by omega),if_neg (by omega),if_neg (by omega),if_neg (by omega),if_neg (by omega),if_neg (by omega),if_neg (by omega),if_neg (by omega),if_neg (by omega),if_neg (by omega),if_pos h];rfl
theorem Sy(h:i.op=14):stepL M n i ⟨s,st,pc,pc+1⟩=.ok ⟨s,st,pc,n⟩:=by
 unfold stepL;rw[if_neg (by omega),if_neg (by omega),if_neg (by omega),if_neg (by omega),if_neg (by omega),if_neg (by omega),if_neg (by omega),if_neg (by omega),if_neg (by omega),if_neg (by omega),if_neg (by omega),if_neg (by omega),if_neg (by omega),if_pos h];rfl
theorem Sr(a:soundB i pc n st.length=true):i.op=1\/i.op=2\/i.op=3\/i.op=4\/i.op=5\/(i.op=6\/i.op=7\/i.op=8\/i.op=9\/i.op=10)\/i.op=11\/i.op=12\/i.op=13\/i.op=14:=by
 apply Classical.byContradiction;intro b;unfold soundB at a;rw[if_neg (by omega),if_neg (by omega),if_neg (by omega),if_neg (by omega),if_neg (by omega),if_neg (by omega),if_neg (by omega),if_neg (by omega),if_neg (by omega)]at a;simp at a;omega
end
theorem Fe(h:pc<a.length):Xo M a (f+1) ⟨s,st,now,pc⟩ d=match stepL M a.length a[pc] ⟨s,st,pc,pc+1⟩with
 | .error e=>(.error e,d+1)
 | .ok m'=>Xo M a f m' (d+1):=by
 show(if pc<a.length then _ else _)=_
 rw[if_pos h,List.getD_eq_getElem?_getD,List.getElem?_eq_getElem h];rfl
theorem Fd{m:MS}(h:a.length<=m.next):Xo M a f m d=(.ok m,d):=by
 cases f with
 |zero=>rfl
 |succ f=>
  show(if m.next<a.length then _ else _)=_
  rw[if_neg (by omega)]
end
section
open Go.RowKit
attribute [local go_sem ↓] Go.wp_at_zero Go.wp_at_succ
structure Ni (w:World) (i:Ins) (av bv:Value):Prop where
 a:TxO w av i.a
 b:TxO w bv i.b
 al:i.a.length<=100000
 bl:i.b.length<=100000
 sa:∀ z∈i.a,z.length<=100000
 sb:∀ z∈i.b,z.length<=100000
 rm:∀ p n c,av=.slice p n c->n<=c
theorem Ni.below{w w':World}{i:Ins}{av bv:Value}(h:Ni w i av bv)(hb:Below w.heap.size w w'):Ni w' i av bv:=⟨h.a.below hb,h.b.below hb,h.al,h.bl,h.sa,h.sb,h.rm⟩
def Gm(B sb:Nat)(M:Msg)(s:SS)(z:StV)(q:Nat)(kp en:Bool)(er pz:Int)(i:Ins)(av bv:Value)(w:World):Prop:=
 StI w B sb M s z q kp en er pz->q<=1000000->Ni w i av bv->Calls prog 48 #[.pointer (some ⟨sb,0,none⟩),Za i av bv] w (HP B sb M q kp en er pz w (askE M i s))
theorem QmF(B sb:Nat)(M:Msg)(s:SS)(z:StV)(q:Nat)(V P:Bool)(Q X:Int)(i:Ins)(av bv:Value)(w:World)(v:i.op=6)(ht:1<=i.tag/\i.tag<=3):Gm B sb M s z q V P Q X i av bv w:=by
 intro h T j;obtain⟨m,k,R,ah⟩:=id j.a;obtain⟨p,l,ad,ag⟩:=id j.b;have ai:=I (j.rm _ _ _ R);have t:=I j;subst R ad;have H:=I h;have aj:=h.lt;unfold Za;obtain⟨W,u⟩:=QE (w.alloc (.cells #[.int .i64 i.op,.int .i64 i.n,.int .i64 i.tag,.bool i.oct,.slice m i.a.length k,.slice p i.b.length l,.int .i64 i.at_] 63));have N:=I u;have r:Hid (Below w.heap.size w W):=by show Below _ _ _;rw[u];exact Qs _
 have d:W.heap[w.heap.size]?=some (.cells #[.int .i64 i.op,.int .i64 i.n,.int .i64 i.tag,.bool i.oct,.slice m i.a.length k,.slice p i.b.length l,.int .i64 i.at_] 63):=by rw[u];exact QA _ _
 have K:=I d;have ab:=I (H.o.below r.o);have C:=I (t.o.below r.o);have af:=r.o.size;rw[v]at d K N;rw[v];have c0:=Qj d;have c1:=Qo d;have c2:=QG d;have c3:=QH d;have c4:=QJ d;have c5:=QM d;have c6:=Zg d;have L:=I (ab.o.fields T (.slice m i.a.length k) i.a C.o.a C.o.al C.o.sa);have A:=I (CT h.mb (by rw[List.length_map];exact j.al):(fieldsL M (i.a.map (expL s))).length<=10000000000/\∀ x∈fieldsL M (i.a.map (expL s)),x.length<=100000);have HT:Hid (i.tag=1\/i.tag=2\/i.tag=3):=by show _\/_;omega
 have J:Hid (askE M i s=Z9 s i.tag i.oct (fieldsL M (i.a.map (expL s))) i.b):=by show _=_;unfold askE;rw[v];rfl
 rw[J.o];obtain⟨G,F⟩:=Qf (fieldsL M (i.a.map (expL s)));rw[F]at L A;rw[F];clear h j ah ag F d u v ht J;go_enter func48,ntmps48;go_wp2_with (first|(rw[<-N.o];skip));refine L.o.mono ?_;rintro e g ⟨Y,rfl,E,D⟩;have f:=Zk K.o D;have d0:=Qj f;have d1:=Qo f;have d2:=QG f;have d3:=QH f;have d4:=QJ f;have d5:=QM f;have d6:=Zg f;have y:=I (r.o.trans (D.mono af));have aa:=I (VB B sb M s z q V P Q X Y (.slice p i.b.length l) G i.b i.tag i.oct g (H.o.below y.o) T (TxL.of_ownsV E).toO (t.o.b.below y.o) HT.o A.o.1 (by have:=t.o.bl;omega) A.o.2 t.o.sb);obtain⟨ra,rn,rc,ae⟩:∃ a n c,Y=.slice a n c:=by obtain⟨a,c,h⟩:=ZC E;exact⟨a,_,c,h⟩
 subst ae;clear E D f;go_wp2_with fail;refine aa.o.mono ?_;rintro e w2 ⟨rfl,S,U⟩;have Z:=I ((Mod.of_below y.o).trans S);have ac:=I U;clear S U;go_wp2;go_ret;exact⟨rfl,Z.o,ac.o⟩
theorem QoE(B sb:Nat)(M:Msg)(s:SS)(z:StV)(q:Nat)(V Q:Bool)(R X:Int)(i:Ins)(av bv:Value)(w:World)(v:i.op=7)(ht:1<=i.tag/\i.tag<=3):Gm B sb M s z q V Q R X i av bv w:=by
 intro h hq j;obtain⟨m,k,S,ag⟩:=id j.a;obtain⟨p,l,ac,af⟩:=id j.b;have ah:=I (j.rm _ _ _ S);have t:=I j;subst S ac;have H:=I h;have ai:=h.lt;unfold Za;obtain⟨W,u⟩:=QE (w.alloc (.cells #[.int .i64 i.op,.int .i64 i.n,.int .i64 i.tag,.bool i.oct,.slice m i.a.length k,.slice p i.b.length l,.int .i64 i.at_] 63));have P:=I u;have r:Hid (Below w.heap.size w W):=by show Below _ _ _;rw[u];exact Qs _
 have d:W.heap[w.heap.size]?=some (.cells #[.int .i64 i.op,.int .i64 i.n,.int .i64 i.tag,.bool i.oct,.slice m i.a.length k,.slice p i.b.length l,.int .i64 i.at_] 63):=by rw[u];exact QA _ _
 have K:=I d;have N:=I (H.o.below r.o);have C:=I (t.o.below r.o);have ae:=r.o.size;rw[v]at d K P;rw[v];have c0:=Qj d;have c1:=Qo d;have c2:=QG d;have c3:=QH d;have c4:=QJ d;have c5:=QM d;have c6:=Zg d;have L:=I (Hz sb M (.slice m i.a.length k) i.a W (Qn N.o.blk 0) (Qn N.o.blk 1) C.o.a (by have:=C.o.al;omega) (fun x hx=>by have:=C.o.sa x hx;omega));have A:=I (CU h.mb j.al:(envL M i.a).length<=10000000000/\∀ x∈envL M i.a,x.length<=100000);have HT:Hid (i.tag=1\/i.tag=2\/i.tag=3):=by show _\/_;omega
 have J:Hid (askE M i s=Z9 s i.tag i.oct (envL M i.a) i.b):=by show _=_;unfold askE;rw[v];rfl
 rw[J.o];obtain⟨G,F⟩:=Qf (envL M i.a);rw[F]at L A;rw[F];clear h j ag af F d u v ht J;go_enter func48,ntmps48;go_wp2_with (first|(rw[<-P.o];skip));refine L.o.mono ?_;rintro e g ⟨Y,rfl,E,D⟩;have f:=Zk K.o D;have d0:=Qj f;have d1:=Qo f;have d2:=QG f;have d3:=QH f;have d4:=QJ f;have d5:=QM f;have d6:=Zg f;have y:=I (r.o.trans (D.mono ae));have aa:=I (VB B sb M s z q V Q R X Y (.slice p i.b.length l) G i.b i.tag i.oct g (H.o.below y.o) hq (TxL.of_ownsV E).toO (t.o.b.below y.o) HT.o A.o.1 (by have:=t.o.bl;omega) A.o.2 t.o.sb);obtain⟨ra,rn,rc,ad⟩:∃ a n c,Y=.slice a n c:=by obtain⟨a,c,h⟩:=ZC E;exact⟨a,_,c,h⟩
 subst ad;clear E D f;go_wp2_with fail;refine aa.o.mono ?_;rintro e w2 ⟨rfl,T,U⟩;have Z:=I ((Mod.of_below y.o).trans T);have ab:=I U;clear T U;go_wp2;go_ret;exact⟨rfl,Z.o,ab.o⟩
theorem QnI(B sb:Nat)(M:Msg)(s:SS)(z:StV)(q:Nat)(U K:Bool)(L V:Int)(i:Ins)(G J:Value)(w:World)(j:i.op=9):Gm B sb M s z q U K L V i G J w:=by
 intro h Q d;obtain⟨l,k,y,T⟩:=id d.a;obtain⟨r,p,P,S⟩:=id d.b;have E:=I (d.rm _ _ _ y);have D:=I d;subst y P;have H:=I h;have aa:=h.lt;unfold Za;obtain⟨W,g⟩:=QE (w.alloc (.cells #[.int .i64 i.op,.int .i64 i.n,.int .i64 i.tag,.bool i.oct,.slice l i.a.length k,.slice r i.b.length p,.int .i64 i.at_] 63));have v:=I g;have f:Hid (Below w.heap.size w W):=by show Below _ _ _;rw[g];exact Qs _
 have c:W.heap[w.heap.size]?=some (.cells #[.int .i64 i.op,.int .i64 i.n,.int .i64 i.tag,.bool i.oct,.slice l i.a.length k,.slice r i.b.length p,.int .i64 i.at_] 63):=by rw[g];exact QA _ _
 have A:=I c;have F:=I (H.o.below f.o);have m:=I (D.o.below f.o);have R:=f.o.size;rw[j]at c A v;rw[j];have X:=Qj c;have Y:=Qo c;have Z:=QG c;have c3:=QH c;have c4:=QJ c;have c5:=QM c;have c6:=Zg c;have C:=I (F.o.existsV Q l k i.a (by obtain⟨ac,ab,he,N⟩:=m.o.a;injection he with e1 e2 e3;subst e1;exact N) E.o m.o.al m.o.sa);have u:Hid (askE M i s=(YB M (i.a.map (expL s)),s)):=by show _=_;unfold askE;rw[j];rfl
 rw[u.o];clear h d T S c g j u;go_enter func48,ntmps48;go_wp2_with (first|(rw[<-v.o];skip));refine C.o.mono ?_;rintro e w1 ⟨rfl,x⟩;have t:=I (f.o.trans (x.mono R));clear x;go_wp2;go_ret;exact⟨rfl,Mod.of_below t.o,z,H.o.below t.o⟩
theorem Qsh(B sb:Nat)(M:Msg)(s:SS)(z:StV)(q:Nat)(N E:Bool)(F P:Int)(i:Ins)(C D:Value)(w:World)(g:i.op=10)(J:i.tag=1\/i.tag=2):Gm B sb M s z q N E F P i C D w:=by
 intro h hq e;obtain⟨l,j,t,L⟩:=id e.a;obtain⟨m,k,G,K⟩:=id e.b;have Q:=I (e.rm _ _ _ t);have y:=I e;subst t G;have H:=I h;have ab:=h.lt;unfold Za;obtain⟨W,f⟩:=QE (w.alloc (.cells #[.int .i64 i.op,.int .i64 i.n,.int .i64 i.tag,.bool i.oct,.slice l i.a.length j,.slice m i.b.length k,.int .i64 i.at_] 63));have r:=I f;have c:Hid (Below w.heap.size w W):=by show Below _ _ _;rw[f];exact Qs _
 have d:W.heap[w.heap.size]?=some (.cells #[.int .i64 i.op,.int .i64 i.n,.int .i64 i.tag,.bool i.oct,.slice l i.a.length j,.slice m i.b.length k,.int .i64 i.at_] 63):=by rw[f];exact QA _ _
 have v:=I d;have A:=I (H.o.below c.o);have R:=I (y.o.below c.o);have aa:=c.o.size;rw[g]at d v r;rw[g];have S:=Qj d;have T:=Qo d;have U:=QG d;have V:=QH d;have X:=QJ d;have Y:=QM d;have Z:=Zg d;have s2:=QG A.o.blk;have x:=I (fun u=>CS M i.n i.tag u J);have p:Hid (askE M i s=(UW M i.tag i.n,s)):=by show _=_;unfold askE;rw[g];rfl
 rw[p.o];clear h e L K d f g p;go_enter func48,ntmps48;go_wp2_with (first|(rw[<-r.o];skip));go_quiet (first|(go_at_call 75;refine Calls.quiet_of_same (x.o _)));go_wp2;go_ret;exact⟨rfl,Mod.of_below ⟨c.o.os,c.o.tape,c.o.output,c.o.size,c.o.block⟩,z,H.o.below ⟨c.o.os,c.o.tape,c.o.output,c.o.size,c.o.block⟩⟩
theorem QlS(B sb:Nat)(M:Msg)(s:SS)(z:StV)(q:Nat)(kp en:Bool)(er pz:Int)(i:Ins)(av bv:Value)(w:World)(K:i.op=8)(ht:1<=i.tag/\i.tag<=3):Gm B sb M s z q kp en er pz i av bv w:=by
 intro h hq m;obtain⟨R,Q,ae,ah⟩:=id m.a;obtain⟨v,t,aD,aJ⟩:=id m.b;have aP:=I (m.rm _ _ _ ae);have l:=I m;subst ae aD;have H:=I h;have aT:=h.lt;unfold Za;obtain⟨W,F⟩:=QE (w.alloc (.cells #[.int .i64 i.op,.int .i64 i.n,.int .i64 i.tag,.bool i.oct,.slice R i.a.length Q,.slice v i.b.length t,.int .i64 i.at_] 63));have HW:=I F;have C:Hid (Below w.heap.size w W):=by show Below _ _ _;rw[F];exact Qs _
 have d:W.heap[w.heap.size]?=some (.cells #[.int .i64 i.op,.int .i64 i.n,.int .i64 i.tag,.bool i.oct,.slice R i.a.length Q,.slice v i.b.length t,.int .i64 i.at_] 63):=by rw[F];exact QA _ _
 have S:=I d;have aR:=I (H.o.below C.o);have aQ:=I (l.o.below C.o);have aS:=C.o.size;rw[K]at d S HW;rw[K];have c0:=Qj d;have c1:=Qo d;have c2:=QG d;have c3:=QH d;have c4:=QJ d;have c5:=QM d;have c6:=Zg d;have HT:Hid (i.tag=1\/i.tag=2\/i.tag=3):=by show _\/_;omega
 have HE:Hid (askE M i s=Z9 s i.tag i.oct (i.a.map (expL s)) i.b):=by show _=_;unfold askE;rw[K];rfl
 have aE:=m.al;rw[HE.o];obtain⟨i0,hi,aN,aO,P⟩:=info_parts Tryz.infoStr;have aB:=I ah;clear h m ah aJ d F K ht HE;go_enter func48,ntmps48;go_wp2_with (first|(rw[<-HW.o];skip))
 go_loopw [7,8] (fun lv Z wr=>∃(k:Nat),k<=i.a.length/\Z=.int .i64 k/\wr.ownsRow w.heap.size 9 1 lv (Y5 s i.a k).length (Qw (Y5 s i.a k))/\Hid (Below w.heap.size w wr)/\Hid (wr.heap[w.heap.size]?=W.heap[w.heap.size]?)) (fun _ Z _=>i.a.length - (intOf Z).toNat)
 case atStart=>exact⟨0,QC,rfl,World.ownsRow_nil _ _ _ _,C,rfl⟩
 case round=>
  obtain⟨k,V,rfl,f,g,ac⟩:=hrel;have aM:=g.o.size;have c:=ac.o.trans S.o;have aV:w.heap.size<wr.heap.size:=Qh c;have d0:=Qj c;have d1:=Qo c;have d2:=QG c;have d3:=QH c;have d4:=QJ c;have d5:=QM c;have d6:=Zg c;by_cases hkx:k<i.a.length
  ·have aG:(k:Int)<(i.a.length:Int):=by omega
   obtain⟨gg,ak,aH,T⟩:=aB.o k hkx;subst aH;have b1:wr.cell? ⟨gg,ak+k,none⟩=some (.string (sA i.a[k])):=by rw[g.o.cell (p:=⟨gg,ak+k,none⟩) (QI T)];exact T
   have D:=I ((H.o.below g.o).expand hq i.a[k] (l.o.sa _ (List.getElem_mem hkx)));have ab:=I (Da s hkx);have X:=Db s V;have aq:=I X;obtain⟨y,N⟩:=Qf (expL s i.a[k]);rw[N]at D ab;obtain⟨xk,aj⟩:=Qf (i.a[k]);rw[aj]at D b1;rw[X]at f;have aA:=I f;have ay:=I c;clear N aj X T f c ac;go_wp2_with fail;refine D.o.mono ?_;rintro e w2 ⟨rfl,E⟩;have L:=YV aA.o E;have aa:=I (g.o.trans (E.mono aM));have aK:=aa.o.size;have G:=Zk ay.o E;have ap:=I G;have ag:=ZI L G (by decide);have ax:=I ag;have aL:w.heap.size<w2.heap.size:=Qh G;clear E D G ag;go_wp2_with (at_builtin;refine wpList_append_own _ rfl _ _ 61 rfl w.heap.size 9 i0 (.string ⟨#[]⟩) 1 16 underlying61 hi aN aO P rfl (by decide) _ _ _ rfl (L.alloc _) ⟨w2.heap.size,0,none⟩ 1 1 [.string (sA y)] rfl rfl ?c1 ?c2 ?c3 ?c4 ?c5 ?_)
   case c1=>
    intro j u J
    match j,J with
    |0,J=>simp at J;subst J;simp[Addr.add]
   case c2=>intro u hu;simp at hu;subst hu;rfl
   case c3=>unfold maxLen;omega
   case c4=>omega
   case c5=>simp;omega
   ·intro v5 w5 Y U _;have ao:=I (Ke aa.o aK U (fun k V=>(L.lt k V).1));rw[Jz]at Y
    have az:Hid (w5.ownsRow w.heap.size 9 1 v5 (Y5 s i.a (k+1)).length (Qw (Y5 s i.a (k+1)))):=by
     show World.ownsRow _ _ _ _ _ _ _
     rw[ab.o,Qk,aq.o];exact Y
    have aw:Hid (w5.heap[w.heap.size]?=W.heap[w.heap.size]?):=by
     show _=_
     rw[S.o,U.block w.heap.size (by simp;omega) (fun e=>ax.o e.symm),Below.heap_alloc _ _ _ aL];exact ap.o
    clear Y U L;go_wp2;go_roundw
    case rel=>exact⟨k+1,by omega,by go_num,az.o,ao,aw⟩
    case measure=>simp[intOf];omega
  ·have aF:k=i.a.length:=by omega
   subst aF;have aG:¬(i.a.length:Int)<(i.a.length:Int):=by omega
   rw[Dc]at f;obtain⟨A,r⟩:=Qf (i.a.map (expL s));have aU:A.length<=100000:=by rw[<-r,List.length_map];exact aE
   have ai:∀ x∈A,x.length<=100000:=fun x hx=>by
    rw[<-r]at hx;obtain⟨y,N,rfl⟩:=List.mem_map.1 hx;exact VI s (l.o.sa y N)
   rw[r]at f;have ad:=I r;have au:=I (VB B sb M s z q kp en er pz u7 (.slice v i.b.length t) A i.b i.tag i.oct wr (H.o.below g.o) hq (TxL.of_ownsV f).toO (l.o.b.below g.o) HT.o (by omega) (by have:=l.o.bl;omega) ai l.o.sb);obtain⟨ra,rc,aI⟩:=ZC f;subst aI;clear f ai r c;go_wp2_with fail;refine au.o.mono ?_;rintro e w2 ⟨rfl,af,P⟩;have ar:=I ((Mod.of_below g.o).trans af);have aC:=I P;clear af P;go_wp2;go_ret;exact⟨Zs (by rw[ad.o]),ar.o,by rw[ad.o];exact aC.o⟩
theorem G4(B sb:Nat)(M:Msg)(s:SS)(z:StV)(q:Nat)(e c:Bool)(d f:Int)(i:Ins)(a b:Value)(w:World)(j:i.op=6\/i.op=7\/i.op=8\/i.op=9\/i.op=10)(g:i.op<=8->1<=i.tag/\i.tag<=3)(k:i.op=10->i.tag=1\/i.tag=2):Gm B sb M s z q e c d f i a b w:=by
 rcases j with h|h|h|h|h
 ·exact QmF B sb M s z q e c d f i a b w h (g (by omega))
 ·exact QoE B sb M s z q e c d f i a b w h (g (by omega))
 ·exact QlS B sb M s z q e c d f i a b w h (g (by omega))
 ·exact QnI B sb M s z q e c d f i a b w h
 ·exact Qsh B sb M s z q e c d f i a b w h (k h)
def ZT(i:Ins)(a1 a2:Option Addr)(c1 c2 pc n k:Nat)(w:World):Prop:=
 Calls prog 47 #[Za i (.slice a1 i.a.length c1) (.slice a2 i.b.length c2),.int .i64 pc,.int .i64 n,.int .i64 k] w fun e w'=>e=.returned (.bool (soundB i pc n k))/\Below w.heap.size w w'
theorem Qwn(i:Ins)(f g:Option Addr)(j l pc n k:Nat)(w:World)(s:pc<n)(r:n<=1000000000)(q:k<=100)(c:i.op=1):ZT i f g j l pc n k w:=by
 unfold ZT;have d:Hid (soundB i pc n k=((decide (i.n=0) || decide (i.n=1))&&decide (k<8))):=by show _=_;unfold soundB;rw[c];rfl
 have e:Hid (∀ o,Below w.heap.size w (w.alloc o)):=fun o=>Qs o
 unfold Za;rw[c,d.o];clear c d;obtain⟨v,t,m,u,a,b,p⟩:=i;dsimp only;go_enter func47,ntmps47;go_wp2
 all_goals go_ret
 all_goals refine⟨?_,e.o _⟩
 all_goals first|rfl|(simp;done)|(simp;omega)|(simp_all;done)|(show Ending.returned (Value.bool (m==1))=_;congr 2;rw[Zh];simp;omega)|(simp_all;omega)
theorem Qw6(i:Ins)(f g:Option Addr)(j l pc n k:Nat)(w:World)(s:pc<n)(r:n<=1000000000)(q:k<=100)(c:i.op=2):ZT i f g j l pc n k w:=by
 unfold ZT;have d:Hid (soundB i pc n k=(decide (0<k))):=by show _=_;unfold soundB;rw[c];rfl
 have e:Hid (∀ o,Below w.heap.size w (w.alloc o)):=fun o=>Qs o
 unfold Za;rw[c,d.o];clear c d;obtain⟨v,t,m,u,a,b,p⟩:=i;dsimp only;go_enter func47,ntmps47;go_wp2
 all_goals go_ret
 all_goals refine⟨?_,e.o _⟩
 all_goals first|rfl|(simp;done)|(simp;omega)|(simp_all;done)|(show Ending.returned (Value.bool (m==1))=_;congr 2;rw[Zh];simp;omega)|(simp_all;omega)
theorem QwG(i:Ins)(f g:Option Addr)(j l pc n k:Nat)(w:World)(s:pc<n)(r:n<=1000000000)(q:k<=100)(c:i.op=3):ZT i f g j l pc n k w:=by
 unfold ZT;have d:Hid (soundB i pc n k=(decide (0<=i.n)&&decide (i.n<=(n:Int) - pc - 1))):=by show _=_;unfold soundB;rw[c];rfl
 have e:Hid (∀ o,Below w.heap.size w (w.alloc o)):=fun o=>Qs o
 unfold Za;rw[c,d.o];clear c d;obtain⟨v,t,m,u,a,b,p⟩:=i;dsimp only;go_enter func47,ntmps47;go_wp2
 all_goals go_ret
 all_goals refine⟨?_,e.o _⟩
 all_goals first|rfl|(simp;done)|(simp;omega)|(simp_all;done)|(show Ending.returned (Value.bool (m==1))=_;congr 2;rw[Zh];simp;omega)|(simp_all;omega)
theorem Qvu(i:Ins)(f g:Option Addr)(j l pc n k:Nat)(w:World)(s:pc<n)(r:n<=1000000000)(q:k<=100)(c:i.op=4):ZT i f g j l pc n k w:=by
 unfold ZT;have d:Hid (soundB i pc n k=(decide (0<k)&&decide (0<=i.n)&&decide (i.n<=(n:Int) - pc - 1))):=by show _=_;unfold soundB;rw[c];rfl
 have e:Hid (∀ o,Below w.heap.size w (w.alloc o)):=fun o=>Qs o
 unfold Za;rw[c,d.o];clear c d;obtain⟨v,t,m,u,a,b,p⟩:=i;dsimp only;go_enter func47,ntmps47;go_wp2
 all_goals go_ret
 all_goals refine⟨?_,e.o _⟩
 all_goals first|rfl|(simp;done)|(simp;omega)|(simp_all;done)|(show Ending.returned (Value.bool (m==1))=_;congr 2;rw[Zh];simp;omega)|(simp_all;omega)
theorem QvO(i:Ins)(f g:Option Addr)(j l pc n k:Nat)(w:World)(s:pc<n)(r:n<=1000000000)(q:k<=100)(c:i.op=5):ZT i f g j l pc n k w:=by
 unfold ZT;have d:Hid (soundB i pc n k=(decide (0<k)&&decide (0<=i.n)&&decide (i.n<=(n:Int) - pc - 1))):=by show _=_;unfold soundB;rw[c];rfl
 have e:Hid (∀ o,Below w.heap.size w (w.alloc o)):=fun o=>Qs o
 unfold Za;rw[c,d.o];clear c d;obtain⟨v,t,m,u,a,b,p⟩:=i;dsimp only;go_enter func47,ntmps47;go_wp2
 all_goals go_ret
 all_goals refine⟨?_,e.o _⟩
 all_goals first|rfl|(simp;done)|(simp;omega)|(simp_all;done)|(show Ending.returned (Value.bool (m==1))=_;congr 2;rw[Zh];simp;omega)|(simp_all;omega)
theorem Qvt(i:Ins)(f g:Option Addr)(j l pc n k:Nat)(w:World)(s:pc<n)(r:n<=1000000000)(q:k<=100)(c:i.op=6):ZT i f g j l pc n k w:=by
 unfold ZT;have d:Hid (soundB i pc n k=(decide (1<=i.tag)&&decide (i.tag<=3)&&decide (k<8))):=by show _=_;unfold soundB;rw[c];rfl
 have e:Hid (∀ o,Below w.heap.size w (w.alloc o)):=fun o=>Qs o
 unfold Za;rw[c,d.o];clear c d;obtain⟨v,t,m,u,a,b,p⟩:=i;dsimp only;go_enter func47,ntmps47;go_wp2
 all_goals go_ret
 all_goals refine⟨?_,e.o _⟩
 all_goals first|rfl|(simp;done)|(simp;omega)|(simp_all;done)|(show Ending.returned (Value.bool (m==1))=_;congr 2;rw[Zh];simp;omega)|(simp_all;omega)
theorem QvS(i:Ins)(f g:Option Addr)(j l pc n k:Nat)(w:World)(s:pc<n)(r:n<=1000000000)(q:k<=100)(c:i.op=7):ZT i f g j l pc n k w:=by
 unfold ZT;have d:Hid (soundB i pc n k=(decide (1<=i.tag)&&decide (i.tag<=3)&&decide (k<8))):=by show _=_;unfold soundB;rw[c];rfl
 have e:Hid (∀ o,Below w.heap.size w (w.alloc o)):=fun o=>Qs o
 unfold Za;rw[c,d.o];clear c d;obtain⟨v,t,m,u,a,b,p⟩:=i;dsimp only;go_enter func47,ntmps47;go_wp2
 all_goals go_ret
 all_goals refine⟨?_,e.o _⟩
 all_goals first|rfl|(simp;done)|(simp;omega)|(simp_all;done)|(show Ending.returned (Value.bool (m==1))=_;congr 2;rw[Zh];simp;omega)|(simp_all;omega)
theorem QwE(i:Ins)(f g:Option Addr)(j l pc n k:Nat)(w:World)(s:pc<n)(r:n<=1000000000)(q:k<=100)(c:i.op=8):ZT i f g j l pc n k w:=by
 unfold ZT;have d:Hid (soundB i pc n k=(decide (1<=i.tag)&&decide (i.tag<=3)&&decide (k<8))):=by show _=_;unfold soundB;rw[c];rfl
 have e:Hid (∀ o,Below w.heap.size w (w.alloc o)):=fun o=>Qs o
 unfold Za;rw[c,d.o];clear c d;obtain⟨v,t,m,u,a,b,p⟩:=i;dsimp only;go_enter func47,ntmps47;go_wp2
 all_goals go_ret
 all_goals refine⟨?_,e.o _⟩
 all_goals first|rfl|(simp;done)|(simp;omega)|(simp_all;done)|(show Ending.returned (Value.bool (m==1))=_;congr 2;rw[Zh];simp;omega)|(simp_all;omega)
theorem QwO(i:Ins)(f g:Option Addr)(j l pc n k:Nat)(w:World)(s:pc<n)(r:n<=1000000000)(q:k<=100)(c:i.op=9):ZT i f g j l pc n k w:=by
 unfold ZT;have d:Hid (soundB i pc n k=(decide (k<8))):=by show _=_;unfold soundB;rw[c];rfl
 have e:Hid (∀ o,Below w.heap.size w (w.alloc o)):=fun o=>Qs o
 unfold Za;rw[c,d.o];clear c d;obtain⟨v,t,m,u,a,b,p⟩:=i;dsimp only;go_enter func47,ntmps47;go_wp2
 all_goals go_ret
 all_goals refine⟨?_,e.o _⟩
 all_goals first|rfl|(simp;done)|(simp;omega)|(simp_all;done)|(show Ending.returned (Value.bool (m==1))=_;congr 2;rw[Zh];simp;omega)|(simp_all;omega)
theorem Qte(i:Ins)(f g:Option Addr)(j l pc n k:Nat)(w:World)(s:pc<n)(r:n<=1000000000)(q:k<=100)(c:i.op=10):ZT i f g j l pc n k w:=by
 unfold ZT;have d:Hid (soundB i pc n k=((decide (i.tag=1) || decide (i.tag=2))&&decide (k<8))):=by show _=_;unfold soundB;rw[c];rfl
 have e:Hid (∀ o,Below w.heap.size w (w.alloc o)):=fun o=>Qs o
 unfold Za;rw[c,d.o];clear c d;obtain⟨v,t,m,u,a,b,p⟩:=i;dsimp only;go_enter func47,ntmps47;go_wp2
 all_goals go_ret
 all_goals refine⟨?_,e.o _⟩
 all_goals first|rfl|(simp;done)|(simp;omega)|(simp_all;done)|(show Ending.returned (Value.bool (m==1))=_;congr 2;rw[Zh];simp;omega)|(simp_all;omega)
theorem Qu1(i:Ins)(f g:Option Addr)(j l pc n k:Nat)(w:World)(s:pc<n)(r:n<=1000000000)(q:k<=100)(c:i.op=11):ZT i f g j l pc n k w:=by
 unfold ZT;have d:Hid (soundB i pc n k=(decide (i.tag=1) || (decide (2<=i.tag)&&decide (i.tag<=4)&&decide (0<i.a.length)))):=by show _=_;unfold soundB;rw[c];rfl
 have e:Hid (∀ o,Below w.heap.size w (w.alloc o)):=fun o=>Qs o
 unfold Za;rw[c,d.o];clear c d;obtain⟨v,t,m,u,a,b,p⟩:=i;dsimp only;go_enter func47,ntmps47;go_wp2
 all_goals go_ret
 all_goals refine⟨?_,e.o _⟩
 all_goals first|rfl|(simp;done)|(simp;omega)|(simp_all;done)|(show Ending.returned (Value.bool (m==1))=_;congr 2;rw[Zh];simp;omega)|(simp_all;omega)
theorem QtO(i:Ins)(f g:Option Addr)(j l pc n k:Nat)(w:World)(s:pc<n)(r:n<=1000000000)(q:k<=100)(c:i.op=12):ZT i f g j l pc n k w:=by
 unfold ZT;have d:Hid (soundB i pc n k=(decide (0<=i.tag)&&decide (i.tag<=3)&&decide (0<i.a.length)&&decide (0<i.b.length))):=by show _=_;unfold soundB;rw[c];rfl
 have e:Hid (∀ o,Below w.heap.size w (w.alloc o)):=fun o=>Qs o
 unfold Za;rw[c,d.o];clear c d;obtain⟨v,t,m,u,a,b,p⟩:=i;dsimp only;go_enter func47,ntmps47;go_wp2
 all_goals go_ret
 all_goals refine⟨?_,e.o _⟩
 all_goals first|rfl|(simp;done)|(simp;omega)|(simp_all;done)|(show Ending.returned (Value.bool (m==1))=_;congr 2;rw[Zh];simp;omega)|(simp_all;omega)
theorem Qu3(i:Ins)(f g:Option Addr)(j l pc n k:Nat)(w:World)(s:pc<n)(r:n<=1000000000)(q:k<=100)(c:i.op=13):ZT i f g j l pc n k w:=by
 unfold ZT;have d:Hid (soundB i pc n k=(true)):=by show _=_;unfold soundB;rw[c];rfl
 have e:Hid (∀ o,Below w.heap.size w (w.alloc o)):=fun o=>Qs o
 unfold Za;rw[c,d.o];clear c d;obtain⟨v,t,m,u,a,b,p⟩:=i;dsimp only;go_enter func47,ntmps47;go_wp2
 all_goals go_ret
 all_goals refine⟨?_,e.o _⟩
 all_goals first|rfl|(simp;done)|(simp;omega)|(simp_all;done)|(show Ending.returned (Value.bool (m==1))=_;congr 2;rw[Zh];simp;omega)|(simp_all;omega)
theorem QtE(i:Ins)(f g:Option Addr)(j l pc n k:Nat)(w:World)(s:pc<n)(r:n<=1000000000)(q:k<=100)(c:i.op=14):ZT i f g j l pc n k w:=by
 unfold ZT;have d:Hid (soundB i pc n k=(true)):=by show _=_;unfold soundB;rw[c];rfl
 have e:Hid (∀ o,Below w.heap.size w (w.alloc o)):=fun o=>Qs o
 unfold Za;rw[c,d.o];clear c d;obtain⟨v,t,m,u,a,b,p⟩:=i;dsimp only;go_enter func47,ntmps47;go_wp2
 all_goals go_ret
 all_goals refine⟨?_,e.o _⟩
 all_goals first|rfl|(simp;done)|(simp;omega)|(simp_all;done)|(show Ending.returned (Value.bool (m==1))=_;congr 2;rw[Zh];simp;omega)|(simp_all;omega)
theorem Qux(i:Ins)(d f:Option Addr)(g j pc n k:Nat)(w:World)(a:∀ o:Int,1<=o->o<=14->(i.op==o)=false):ZT i d f g j pc n k w:=by
 unfold ZT
 have b:Hid (soundB i pc n k=false):=by
  have h:∀ o:Int,1<=o->o<=14->¬ i.op=o:=fun o l m e=>by have:=a o l m;simp at this;exact this e
  have:=h 1 (by decide) (by decide);have:=h 2 (by decide) (by decide);have:=h 3 (by decide) (by decide);have:=h 4 (by decide) (by decide);have:=h 5 (by decide) (by decide);have:=h 6 (by decide) (by decide);have:=h 7 (by decide) (by decide);have:=h 8 (by decide) (by decide);have:=h 9 (by decide) (by decide);have:=h 10 (by decide) (by decide);have:=h 11 (by decide) (by decide);have:=h 12 (by decide) (by decide);have:=h 13 (by decide) (by decide);have:=h 14 (by decide) (by decide);show _=_
  unfold soundB;rw[if_neg (by omega),if_neg (by omega),if_neg (by omega),if_neg (by omega),if_neg (by omega),if_neg (by omega),if_neg (by omega),if_neg (by omega),if_neg (by omega)];simp;omega
 have c:Hid (∀ o,Below w.heap.size w (w.alloc o)):=fun o=>Qs o
 have p:=a 1 (by decide) (by decide);have v:=a 2 (by decide) (by decide);have x:=a 3 (by decide) (by decide);have y:=a 4 (by decide) (by decide);have z:=a 5 (by decide) (by decide);have A:=a 6 (by decide) (by decide);have B:=a 7 (by decide) (by decide);have C:=a 8 (by decide) (by decide);have D:=a 9 (by decide) (by decide);have q:=a 10 (by decide) (by decide);have r:=a 11 (by decide) (by decide);have s:=a 12 (by decide) (by decide);have t:=a 13 (by decide) (by decide);have u:=a 14 (by decide) (by decide);unfold Za;rw[b.o];clear a b;go_enter func47,ntmps47;go_wp2;go_ret;exact⟨rfl,c.o _⟩
theorem Sp(i:Ins)(a b:Option Addr)(c d pc n k:Nat)(w:World)(g:pc<n)(f:n<=1000000000)(e:k<=100):ZT i a b c d pc n k w:=by
 by_cases h:1<=i.op/\i.op<=14
 ·have:i.op=1\/i.op=2\/i.op=3\/i.op=4\/i.op=5\/i.op=6\/i.op=7\/i.op=8\/i.op=9\/i.op=10\/i.op=11\/i.op=12\/i.op=13\/i.op=14:=by omega
  rcases this with h|h|h|h|h|h|h|h|h|h|h|h|h|h
  ·exact Qwn i a b c d pc n k w g f e h
  ·exact Qw6 i a b c d pc n k w g f e h
  ·exact QwG i a b c d pc n k w g f e h
  ·exact Qvu i a b c d pc n k w g f e h
  ·exact QvO i a b c d pc n k w g f e h
  ·exact Qvt i a b c d pc n k w g f e h
  ·exact QvS i a b c d pc n k w g f e h
  ·exact QwE i a b c d pc n k w g f e h
  ·exact QwO i a b c d pc n k w g f e h
  ·exact Qte i a b c d pc n k w g f e h
  ·exact Qu1 i a b c d pc n k w g f e h
  ·exact QtO i a b c d pc n k w g f e h
  ·exact Qu3 i a b c d pc n k w g f e h
  ·exact QtE i a b c d pc n k w g f e h
 ·exact Qux i a b c d pc n k w (fun o j l=>by simp;omega)
def Jq(lv:Value)(f:Option FZ):Value:=.agg #[lv,.int .i64 ((f.getD (0,0)).1),.int .i64 ((f.getD (0,0)).2)]
def G8(B:Nat)(w:World)(r:List (Int×L8)×Option FZ)(e:Ending)(w':World):Prop:=
 (Below B w w'/\KB w w')/\∃ lv,e=.returned (Jq lv r.2)/\w'.ownsRow B 52 2 lv r.1.length (XZ r.1)
theorem QyU(hg:B<=g)(h:W.heap[g]?=some (.cells #[.int .i64 1,.string ⟨#[]⟩] 52)):W.ownsRow B 52 2 (.slice (some ⟨g,0,none⟩) 1 1) 1 (XZ [(1,[])]):=
 ⟨rfl,Qc ⟨g,1,#[.int .i64 1,.string (sA [])],rfl,hg,h,Nat.le_refl _,by decide,rfl,rfl⟩⟩
theorem Qvk:Jl [] ((1:Int),([]:L8))=(0,[(1,[])]):=by decide
theorem QoL(B sb:Nat)(M:Msg)(s:SS)(z:StV)(q:Nat)(b:Bool)(c p:Int)(w:World)(h:StI w B sb M s z q b true c p)(a:¬ c=0) :
 Calls prog 51 #[.pointer (some ⟨sb,0,none⟩)] w (G8 B w ([(1,[])],some (c,p))):=by
 have e:=Nw h.blk;have f:=AY h.blk;have k:=h.lt;have g:=h.hB;have i:(c != 0)=true:=by simpa using a
 have j:(c==0)=false:=by simpa using a
 have d:=I a;clear a h;go_enter func51,ntmps51;go_wp2;go_region;go_wp2;refine bodyPost_ret (v:=Jq (.slice (some ⟨w.heap.size+1,0,none⟩) 1 1) (some (c,p))) (by simp[results,results51,go_sem,Jq]) rfl ?_;refine⟨⟨(((Below.refl _ _).alloc (by omega) _).alloc (by simp;omega) _).drew,Ym ((Qs _).alloc (by simp) _).drew⟩,_,rfl,?_⟩;exact QyU (by omega) (Zv (by simp))
theorem QsT(B sb:Nat)(M:Msg)(s:SS)(z:StV)(q:Nat)(p:Bool)(c:Int)(w:World)(h:StI w B sb M s z q (keepB s) p 0 c) :
 Calls prog 51 #[.pointer (some ⟨sb,0,none⟩)] w (G8 B w (Va s,none)):=by
 have ae:=Nw h.blk;have J:=JU h.blk;have af:=AY h.blk;have T:=KV h.blk;have ai:=h.lt;have hB:=h.hB;have H:=I h;obtain⟨la,lc,x⟩:=ZC h.a;have Q:=I x;rw[x]at T;clear h x
 cases b:keepB s with
 |false=>
  rw[b]at J
  have m:Hid (Va s=s.met):=by
   show _=_
   unfold Va;unfold keepB at b;rw[if_neg];rintro⟨X,Y⟩;rw[X,Y]at b;cases b
  clear b;go_enter func51,ntmps51;go_wp2;refine bodyPost_ret (v:=Jq (.slice la s.met.length lc) none) (by simp[results,results51,go_sem,Jq]) rfl ?_;refine⟨⟨(Below.refl _ _).alloc (by omega) _,Ym (Qs _)⟩,_,rfl,?_⟩;rw[m.o,<-Q.o];exact H.o.a.alloc _
 |true=>
  rw[b]at J
  have u:s.met=[]/\s.disc=false:=by
   unfold keepB at b;rw[Bool.and_eq_true]at b;exact⟨List.isEmpty_iff.1 b.1,by simpa using b.2⟩
  have m:Hid (Va s=[(1,[])]):=by
   show _=_
   unfold Va;rw[if_pos u]
  have R:Hid (s.met=[]):=u.1
  have S:Hid (∀ W,Below w.heap.size w W->Calls prog 79 #[.pointer (some ⟨sb,0,none⟩),.agg #[.int .i64 1,.string ⟨#[]⟩],.int .i64 c] W fun e C=>e=.returned (.tuple #[])/\(Below B W C/\KB W C)/\JX B sb M s q true p c c (0,[(1,[])]) C):=by
   intro W hW;have K:=H.o.below hW;rw[b]at K;have:=Dh B sb M s z q true p c (1,[]) c W K;rw[R.o,Qvk]at this;exact this
  have n:Hid (∀ o,Below w.heap.size w (w.alloc o)):=fun o=>Qs o
  clear b u;go_enter func51,ntmps51;go_wp2_with (first|(go_at_call 79;refine(S.o _ (n.o _)).mono ?_;rintro e D ⟨rfl,i,ad⟩;obtain⟨E,g⟩:=ad;have G:=I g;have L:=I (((n.o _).mono (by omega)).trans i.1);have N:=I ((Ym (n.o _)).trans i.2);have d:=i.2 w.heap.size _ _ (QA _ _) (by decide);have F:=I d;have r0:=Qn d 0;have r1:=Qn d 1;have r2:=Qn d 2;have rf:=Qz d;have ag:=Nw g.blk;have Z:=KV g.blk;obtain⟨j,l,y⟩:=ZC g.a;have P:=I y;rw[y]at Z;clear i g y d;skip));obtain⟨U,f⟩:=QE ((((D.setCell ⟨w.heap.size,0,none⟩ (.slice j (YW s [(1,[])]).met.length l)).setCell ⟨w.heap.size,1,none⟩ (.int .i64 0)).setCell ⟨w.heap.size,2,none⟩ (.int .i64 0)));rw[<-f];have r:U.heap[w.heap.size]?=some (.cells #[.slice j (YW s [(1,[])]).met.length l,.int .i64 0,.int .i64 0] 70):=by rw[f];exact Qv _ _ _ _ _ _ (Qv _ _ _ _ _ _ (Qv _ _ _ _ _ _ F.o))
  have y0:=Qj r;have y1:=Qo r;have y2:=QG r;have ab:Below B w U:=by rw[f];exact((L.o.setCell (by show B<=w.heap.size;omega) _).setCell (by show B<=w.heap.size;omega) _).setCell (by show B<=w.heap.size;omega) _
  have A:E.av.ownBlock≠some w.heap.size:=ZI G.o.a F.o (by decide);have aa:U.ownsRow B 52 2 E.av (YW s [(1,[])]).met.length (XZ (YW s [(1,[])]).met):=by rw[f];exact Xd (Xd (Xd G.o.a A) A) A
  refine bodyPost_ret (v:=Jq (.slice j (YW s [(1,[])]).met.length l) none) (by simp[results,results51,go_sem,Jq,y0,y1,y2]) rfl ?_
  have ac:KB w U:=fun k V t b ht=>by
   have ah:=Qh b;rw[f,Below.heap_setCell _ _ _ _ (show k≠w.heap.size by omega),Below.heap_setCell _ _ _ _ (show k≠w.heap.size by omega),Below.heap_setCell _ _ _ _ (show k≠w.heap.size by omega)];exact N.o k V t b ht
  refine⟨⟨ab,ac⟩,_,rfl,?_⟩;rw[m.o,<-P.o];exact aa
theorem Fh(B sb:Nat)(M:Msg)(q:Nat)(a:Int)(r:CR)(w:World)(h:RP B sb M q a r w) :
 Calls prog 51 #[.pointer (some ⟨sb,0,none⟩)] w (G8 B w (Xy r)):=by
 match r,h with
 | .ok (t,b),⟨z',h⟩=>exact QsT B sb M t z' q b a w h
 | .error (c,p),⟨hc,s',z',kp',h⟩=>exact QoL B sb M s' z' q kp' c p w h hc
end
section
open Go.RowKit
def QrbZ(w:World)(g o:Nat)(i:Ins)(av bv:Value):Prop:=
 w.cell? ⟨g,o,none⟩=some (.int .i64 i.op)/\w.cell? ⟨g,o+1,none⟩=some (.int .i64 i.n)/\w.cell? ⟨g,o+2,none⟩=some (.int .i64 i.tag)/\w.cell? ⟨g,o+3,none⟩=some (.bool i.oct)/\w.cell? ⟨g,o+4,none⟩=some av/\w.cell? ⟨g,o+5,none⟩=some bv/\w.cell? ⟨g,o+6,none⟩=some (.int .i64 i.at_)
def B1(w:World)(v:Value)(ops:List Ins):Prop:=∃ a c,v=.slice a ops.length c/\∀ j (hj:j<ops.length),∃ g off av bv,a=some ⟨g,off,none⟩/\QrbZ w g (off+j*7) ops[j] av bv/\Ni w ops[j] av bv
def Ud(M:Msg)(hv:Value):Value:=.agg #[.string (sA M.fr),.string (sA M.to),.int .i64 M.size,hv]
def HdR(w:World)(M:Msg)(hv:Value):Prop:=HdB w w.heap.size M hv
theorem StI.new{c:Value}(v:Bool)(d:Below w.heap.size w W)(i:w.heap.size<=sb)(e:SB W sb M.fr M.to M.size c v (.slice none 0 0) (.slice none 0 0) (.slice none 0 0) (.slice none 0 0) true false 0 0)(f:HdR w M c)(g:KU M):StI W w.heap.size sb M (ss0 v) ⟨c,.slice none 0 0,.slice none 0 0,.slice none 0 0,.slice none 0 0,[],[]⟩ 0 true false 0 0:=by
 refine⟨i,e,World.ownsRow_nil _ _ _ _,World.ownsRow_nil _ _ _ _,World.ownsRow_nil _ _ _ _,(fun _=>Qd ⟨rfl,rfl⟩),(fun _=>rfl),(fun k a=>nomatch a),(fun k a=>nomatch a),(fun k a=>nomatch a),rfl,Nat.le_refl _,(fun x=>rfl),?_,g,(fun t b=>nomatch b),(fun t b=>nomatch b),(fun t b=>nomatch b),QC⟩;exact HdB.below f d
def ExR(x:Except FZ MS×Nat)(r:CR)(d:Nat):Prop:=
 x.2=d/\match x.1 with
  | .error e=>r=.error e
  | .ok m=>∃ b,r=.ok (m.st,b)
def ExI(B sb:Nat)(M:Msg)(ops:List Ins)(v:Bool)(sv:Value)(d pc:Nat)(wr:World):Prop:=
 (∃ s st now f z,StI wr B sb M s z d (keepB s) false 0 0/\st.length<=8/\wr.ownsRow B 4 1 sv st.length (st.map Value.bool)/\ops.length - pc<=f/\Xo M ops ops.length (ms0 v) 0=Xo M ops f ⟨s,st,now,pc⟩ d)\/
 (∃ r,endB r=true/\RP B sb M d 0 r wr/\ExR (Xo M ops ops.length (ms0 v) 0) r d)
def RBk(rb:Nat)(w:World):Prop:=w.heap[rb]?=some (.cells #[.slice none 0 0,.int .i64 0,.int .i64 0] 70)
theorem RBk.below(h:RBk rb w)(hb:Below w.heap.size w w'):RBk rb w':=Zk h hb
theorem RBk.kb(h:RBk rb w)(hb:KB w w'):RBk rb w':=hb rb _ _ h (by decide)
def ZH(B sb rb:Nat)(M:Msg)(n:Nat)(i:Ins)(s:SS)(st:List Bool)(pc d:Nat)(sv nv:Value)(wr wx:World):Prop:=
 Below B wr wx/\RBk rb wx/\
 ((∃ s' st' pc' z',nv=.int .i64 (pc':Nat)∧stepL M n i ⟨s,st,pc,pc+1⟩=.ok ⟨s',st',pc,pc'⟩∧pc+1<=pc'∧pc'<=n∧StI wx B sb M s' z' (d+1) (keepB s') false 0 0∧st'.length<=8∧wx.ownsRow B 4 1 sv st'.length (st'.map Value.bool))∨
  (∃ r,nv=.int .i64 ((pc+1:Nat):Int)∧endB r=true∧RP B sb M (d+1) 0 r wx∧((∃ e,stepL M n i ⟨s,st,pc,pc+1⟩=.error e∧r=.error e)∨(stepL M n i ⟨s,st,pc,pc+1⟩=.ok ⟨s,st,pc,n⟩∧r=.ok (s,true)))))
theorem ZH.next{v:Bool}{nv:Value}{wx:World}(j:pc<a.length)(y:a.length - pc<=f)(b:Xo M a a.length (ms0 v) 0=Xo M a f ⟨s,st,now,pc⟩ d)(h:ZH B sb rb M a.length a[pc] s st pc d sv nv wr wx) :
 ∃ pc':Nat,nv=.int .i64 pc'/\pc+1<=pc'/\pc'<=a.length/\ExI B sb M a v sv (d+1) pc' wx:=by
 obtain⟨g,rfl⟩:∃ g,f=g+1:=⟨f - 1,by omega⟩;rw[Fe j]at b;rcases h.2.2 with⟨u,w,pc',x,i,c,k,l,p,n,q⟩ | ⟨r,i,he,o,t⟩
 ·rw[c]at b;exact⟨pc',i,k,l,Qd ⟨u,w,pc,g,x,p,n,q,by omega,b⟩⟩
 ·refine⟨pc+1,i,Nat.le_refl _,j,Qc ⟨r,he,o,?_⟩⟩;rcases t with⟨e,c,rfl⟩ | ⟨c,rfl⟩
  ·rw[c]at b;rw[b];exact⟨rfl,rfl⟩
  ·rw[c]at b;dsimp only at b;rw[Fd (m:=⟨s,st,pc,a.length⟩) Qt]at b;rw[b];exact⟨rfl,true,rfl⟩
theorem QwP{c:Nat}(h:w.ownsRow B e 1 (.slice (some ⟨g,0,none⟩) n c) n xs)(k:Nat)(q:k<=n):w.ownsRow B e 1 (.slice (some ⟨g,0,none⟩) k c) k (xs.take k):=by
 refine⟨by rw[List.length_take,h.1];omega,?_⟩;rcases h.2 with⟨a,_⟩ | ⟨p,o,b,m,j,l,a,d,f,i⟩
 ·cases a
 ·injection m with e1 e2 e3
  injection e1 with e1
  injection e1 with e1
  subst e1;subst e3;refine Qc ⟨g,c,b,rfl,j,l,by omega,d,f,?_⟩;rw[<-i,List.take_take];congr 1;omega
theorem Qoe(t:List Bool)(b a:Bool):((t++[b]).map Value.bool).set t.length (.bool a)=(t++[a]).map Value.bool:=by
 rw[<-List.map_set];congr 1;rw[List.set_append_right _ _ Qt];simp
theorem Qlx(t:List Bool)(b:Bool):((t++[b]).map Value.bool).take t.length=t.map Value.bool:=by
 rw[<-List.map_take,List.take_left]
theorem KO(h:w.ownsRow B 4 1 sv st.length (st.map Value.bool))(f:KB w w'):w'.ownsRow B 4 1 sv st.length (st.map Value.bool):=by
 refine⟨h.1,?_⟩;rcases h.2 with c | ⟨g,b,a,i,d,e,r⟩
 ·exact Qd c
 ·exact Qc ⟨g,b,a,i,d,f g a _ e (by decide),r⟩
theorem G5{t:SS}(h:Tells s t):keepB t=keepB s:=by
 unfold keepB;rw[h.1,h.2]
theorem G6(M:Msg)(i:Ins)(s:SS):Tells s (askE M i s).2:=by
 unfold askE;split
 ·exact Gl _ _ _ _ _
 ·split
  ·exact Gl _ _ _ _ _
  ·split
   ·exact Gl _ _ _ _ _
   ·split
    ·exact⟨rfl,rfl⟩
    ·exact⟨rfl,rfl⟩
theorem Sz{v:Bool}{f:List Ins}{r:CR}(g:f.length<=400)(h:ExR (Xo M f f.length (ms0 v) 0) r d):XT v f M=((Xy r).1,d,(Xy r).2):=by
 unfold XT;rw[if_neg (by omega)];obtain⟨a,c⟩:=h
 match hx:Xo M f f.length (ms0 v) 0 with
 |(.error e,d')=>
  rw[hx]at a c;dsimp only at a c;subst a;subst c;rfl
 |(.ok m,d')=>
  rw[hx]at a c;dsimp only at a c;obtain⟨b,rfl⟩:=c;subst a;rfl
theorem VR(h:w.ownsRow base e size v n xs)(a:v.ownBlock=some k):∃ cs,w.heap[k]?=some (.cells cs e):=by
 rcases h.2 with⟨c,_⟩ | ⟨g,i,b,f,_,d,_⟩
 ·rw[c]at a;cases a
 ·rw[f]at a;have:g=k:=by simpa[Value.ownBlock]using a
  exact⟨b,by rw[<-this];exact d⟩
def UR(w w':World):Prop:=∀(k:Nat) (cs:Array Value) (t:TypeId),w.heap[k]?=some (.cells cs t)->t≠4->w'.heap[k]?=w.heap[k]?
theorem UR.owns(c:UR w w')(h:w.ownsRow base e size v n xs)(he:e≠4):w'.ownsRow base e size v n xs:=Kw h fun k hk'=>by
 obtain⟨a,b⟩:=VR h hk';exact c k a e b he
theorem UR.sti(b:UR w w'){B':Nat}(r:Below B' w w'){z:StV}{q:Nat}{m i:Bool}{j o:Int}(p:B'=B)(h:StI w B sb M s z q m i j o):StI w' B sb M s z q m i j o:=by
 subst p;refine⟨h.hB,(b sb _ _ h.blk (by decide)).trans h.blk,b.owns h.n (by decide),b.owns h.v (by decide),b.owns h.a (by decide),fun e=>(h.c e).of fun k g=>?_,h.c0,h.cap,fun k g=>?_,h.nvv,h.l,h.nl,h.vals,h.h.below r,h.mb,h.vb,h.tb,h.alone,h.six⟩
 ·obtain⟨d,f⟩:=h.capt k g;exact b k d _ f (by decide)
 ·obtain⟨d,f⟩:=h.capt k g;exact JZ ⟨d,f⟩ (b k d _ f (by decide))
theorem UR.rbk(hk:UR w w')(h:RBk rb w):RBk rb w':=(hk rb _ _ h (by decide)).trans h
theorem Qo6{a:World}(h:w.ownsRow B 4 1 sv n xs)(hg:(w.alloc o).grownBy a sv.ownBlock):UR w a:=fun k cs t hk ht=>by
 have b:=Qh hk
 rw [hg.block k (by simp;omega) (fun e=>by
  obtain⟨c,hc⟩:=VR h e.symm;rw[hk]at hc;injection hc with hc
  injection hc with _ hc
  exact ht hc)]
 exact Below.heap_alloc _ _ _ b
theorem Qs1   {cs0:Array Value} (h:w.heap[g]?=some (.cells cs0 4)) (o:Nat) (x:Value):UR w (w.setCell ⟨g,o,none⟩ x):=fun k cs t hk ht=>Below.heap_setCell _ _ _ _ (fun e=>by
 have a:k=g:=e;rw[a,h]at hk;injection hk with hk
 injection hk with _ hk
 exact ht hk.symm)
theorem Fg{a:Option Addr}{c:Nat}(h:w.ownsRow base e size (.slice a n c) n xs):n<=c:=by
 rcases h.2 with⟨h,i⟩ | ⟨g,d,f,b,_,_,j⟩
 ·omega
 ·injection b with _ _ hc
  subst hc;omega
section
variable {B sb rb:Nat} {M:Msg} {n:Nat} {i:Ins} {s s':SS} {st:List Bool} {pc d:Nat} {sv nv:Value} {wr wx w5:World} {z:StV}
theorem ZH.same{pc':Nat}(hb:Below B wr wx)(hr:RBk rb wx)(hn:nv=.int .i64 (pc':Nat))(hst:stepL M n i ⟨s,st,pc,pc+1⟩=.ok ⟨s',st,pc,pc'⟩)(h1:pc+1<=pc')(h2:pc'<=n)(hS:StI wx B sb M s' z (d+1) (keepB s') false 0 0)(h8:st.length<=8)(ho:wx.ownsRow B 4 1 sv st.length (st.map Value.bool)):ZH B sb rb M n i s st pc d sv nv wr wx:=⟨hb,hr,Qd ⟨s',st,pc',z,hn,hst,h1,h2,hS,h8,ho⟩⟩
theorem ZH.push{b:Bool}{j:Value}(q:Below B wr wx)(u:RBk rb wx)(t:nv=.int .i64 ((pc+1:Nat):Int))(v:stepL M n i ⟨s,st,pc,pc+1⟩=.ok ⟨s',st++[b],pc,pc+1⟩)(l:pc<n)(a:StI wx B sb M s' z d (keepB s') false 0 0)(w:st.length<8)(f:wx.ownsRow B 4 1 sv st.length (st.map Value.bool))(e:(wx.alloc o).grownBy w5 sv.ownBlock)(m:w5.ownsRow B 4 1 j (st.length+1) (st.map Value.bool++[.bool b])):ZH B sb rb M n i s st pc d j nv wr w5:=by
 have p:B<=wx.heap.size:=Qm a.hB (Nat.le_of_lt a.lt);have g:=Qo6 f e;have c:Below B wx w5:=Ke (Below.refl B wx) p e (fun k r=>(f.lt k r).1);refine⟨q.trans c,g.rbk u,Qd ⟨s',st++[b],pc+1,z,t,v,Nat.le_refl _,l,(g.sti c rfl a).more (Nat.le_succ _),by rw[Qk];simp;omega,?_⟩⟩;rw[Qk,List.map_append];exact m
theorem G2{a:Nat}(h:st.length=a+1)(x:Bool):(st.map Value.bool).set a (.bool x)=(st.dropLast++[x]).map Value.bool/\(st.dropLast++[x]).length=a+1/\st[a]?=some (st.getLastD false)/\(st.map Value.bool).take a=st.dropLast.map Value.bool/\st.dropLast.length=a:=by
 rcases List.eq_nil_or_concat st with rfl | ⟨t,b,rfl⟩
 ·cases h
 ·rw[List.concat_eq_append]at h ⊢;have c:t.length=a:=by simpa using h
  subst c;refine⟨?_,by simp,by simp,?_,by simp⟩
  ·rw[List.dropLast_concat];exact Qoe t b x
  ·rw[List.dropLast_concat];exact Qlx t b
theorem ZH.not{a c:Nat}(p:Below B wr wx)(u:RBk rb wx)(r:nv=.int .i64 ((pc+1:Nat):Int))(v:stepL M n i ⟨s,st,pc,pc+1⟩=.ok ⟨s,st.dropLast++[!st.getLastD false],pc,pc+1⟩)(m:pc<n)(o:StI wx B sb M s z d (keepB s) false 0 0)(x:st.length<=8)(t:st.length=a+1)(b:wx.ownsRow B 4 1 (.slice (some ⟨g,0,none⟩) (a+1) c) (a+1) (st.map Value.bool)):ZH B sb rb M n i s st pc d (.slice (some ⟨g,0,none⟩) (a+1) c) nv wr (wx.setCell ⟨g,a,none⟩ (.bool (!st.getLastD false))):=by
 obtain⟨w,q⟩:=VR b (k:=g) rfl;have j:=Qs1 q a (.bool (!st.getLastD false));have f:Below B wx (wx.setCell ⟨g,a,none⟩ (.bool (!st.getLastD false))):=(Below.refl _ _).setCell (b.lt g rfl).1 _;obtain⟨l,e,_⟩:=G2 t (!st.getLastD false);refine⟨p.trans f,j.rbk u,Qd ⟨s,_,pc+1,z,r,v,Nat.le_refl _,m,(j.sti f rfl o).more (Nat.le_succ _),by rw[e];omega,?_⟩⟩;rw[e,<-l];exact Di b a _
theorem ZH.pop{a g c pc':Nat}(l:Below B wr wx)(q:RBk rb wx)(m:nv=.int .i64 (pc':Nat))(r:stepL M n i ⟨s,st,pc,pc+1⟩=.ok ⟨s,st.dropLast,pc,pc'⟩)(f:pc+1<=pc')(j:pc'<=n)(k:StI wx B sb M s z d (keepB s) false 0 0)(t:st.length<=8)(o:st.length=a+1)(p:wx.ownsRow B 4 1 (.slice (some ⟨g,0,none⟩) (a+1) c) (a+1) (st.map Value.bool)):ZH B sb rb M n i s st pc d (.slice (some ⟨g,0,none⟩) a c) nv wr wx:=by
 obtain⟨_,_,_,e,b⟩:=G2 o true;refine⟨l,q,Qd ⟨s,_,pc',z,m,r,f,j,k.more (Nat.le_succ _),by rw[b];omega,?_⟩⟩;rw[b,<-e];exact QwP p a (Nat.le_succ _)
theorem ZH.stop(hb:Below B wr wx)(hr:RBk rb wx)(hn:nv=.int .i64 ((pc+1:Nat):Int))(hst:stepL M n i ⟨s,st,pc,pc+1⟩=.ok ⟨s,st,pc,n⟩)(hS:StI wx B sb M s z d (keepB s) true 0 0):ZH B sb rb M n i s st pc d sv nv wr wx:=⟨hb,hr,Qc ⟨.ok (s,true),hn,rfl,⟨z,hS.more (Nat.le_succ _)⟩,Qc ⟨hst,rfl⟩⟩⟩
theorem ZH.act{a p:Int}{y:L8}(e:Below B wr wx)(g:RBk rb wx)(f:nv=.int .i64 ((pc+1:Nat):Int))(c:stepL M n i ⟨s,st,pc,pc+1⟩=if(Xc s.met a y).1=0 then .ok ⟨YW s (Xc s.met a y).2,st,pc,pc+1⟩else .error ((Xc s.met a y).1,p))(k:pc<n)(o:Kf B sb M s d false 0 p (Xc s.met a y) wx)(m:st.length<=8)(q:wx.ownsRow B 4 1 sv st.length (st.map Value.bool)):ZH B sb rb M n i s st pc d sv nv wr wx:=by
 obtain⟨j,r,b,l⟩:=o;by_cases h0:(Xc s.met a y).1=0
 ·rw[if_pos h0]at c;rw[if_pos h0,if_pos h0,h0,l h0]at b;refine ZH.same e g f c Qt k (z:=j) ?_ m q;rw[Do s (Dm h0)];exact b.more (Nat.le_succ _)
 ·rw[if_neg h0]at c;rw[if_neg h0,if_neg h0]at b;exact⟨e,g,Qc ⟨.error ((Xc s.met a y).1,p),f,rfl,⟨h0,_,j,r,b.more (Nat.le_succ _)⟩,Qd ⟨_,c,rfl⟩⟩⟩
end
end
section
open Go.RowKit
attribute [local go_sem ↓] Go.wp_at_zero Go.wp_at_succ
theorem H3{w5:World}{row:Option Nat}(h:Below B w w')(hg:w'.grownBy w5 row)(hz:B<=w'.heap.size)(hr:∀ k,row=some k->B<=k):Below B w w5:=h.grown hg hz hr
theorem Qp8(zs:Qa):∀ u∈Qw zs,u.oneCell'=true:=by
 intro u a;unfold Qw at a;obtain⟨x,_,rfl⟩:=List.mem_map.1 a;rfl
theorem H4{q:Array Oper}{r:List Oper}{o:Oper}{a:Act}{Q:Exit->Act->World->Prop}(e:o.guard=none)(s x:Operand)
 (l:o.op=.call { callee:=.builtin .append,args:=#[s,x],argTypes:=#[61,61] }) (zs:Qa) (sv:Value) (m:a.eval s=.slice none 0 0) (n:a.eval x=sv) (h:SlT w sv zs) (G:zs.length<=1000000)
 (K:∀ a' k' w',w'.ownsRow w.heap.size 9 1 (.slice a' zs.length k') zs.length (Qw zs)->Below w.heap.size w w'->wpList prog q Q r (a.put o.dst (.slice a' zs.length k')) w'):wpList prog q Q (o::r) a w:=by
 obtain⟨p,f,C,D,E⟩:=info_parts Tryz.infoStr;rcases h with⟨rfl,rfl⟩ | ⟨g,c,rfl,A⟩
 ·exact wpList_append_own_none e s x _ l w.heap.size 9 p 1 underlying61 f (.slice none 0 0) 0 [] m (World.ownsRow_nil _ _ _ _) n (K none 0 w (World.ownsRow_nil _ _ _ _) (Below.refl _ _))
 ·refine wpList_append_own _ e s x _ l w.heap.size 9 p _ 1 16 underlying61 f C D E rfl (by decide) (.slice none 0 0) 0 [] m (World.ownsRow_nil _ _ _ _) ⟨g,0,none⟩ zs.length c (Qw zs) n (by rw[C1];omega) (fun j u b=>?_) (Qp8 zs) (by unfold maxLen;omega) (by omega) Qt (fun H w' d y _=>?_)
  ·rw[Jx];obtain⟨F,t,v⟩:=A;have i:j<zs.length:=by rw[<-C1];exact(List.getElem?_eq_some_iff.1 b).1
   rw[Hc zs j i]at b;rw[Qn t,v j i];exact b
  ·rw[Nat.zero_add,List.nil_append]at d;obtain⟨a',k',B⟩:=ZC d;subst B;exact K a' k' w' d (H3 (Below.refl _ _) y Qt (fun k z=>nomatch z))
structure Vr (w:World) (B:Nat) (lv:Value) (ps:List IV):Prop where
 row:w.ownsRow B 63 7 lv ps.length (Zj ps)
 ok:∀ p∈ps,Xg w p.1 p.2.1 p.2.2
 ap:Apt B ps
 nil:ps=[]->lv=.slice none 0 0
theorem Vr.ltL{d:Value}(h:Vr w B d ps):∀ k∈Xm ps,k<w.heap.size:=fun k hk=>by
 obtain⟨p,c,hk⟩:=XL.1 hk;rcases hk with hk|hk
 ·exact(h.ok p c).a.lt hk
 ·exact(h.ok p c).b.lt hk
theorem Vr.codeP{lv:Value}(h:Vr w B lv ps):XK w B lv (ps.map Prod.fst):=⟨ps,rfl,h.row,h.ok,h.nil,h.ap⟩
theorem H5{a:Option Addr}{c:Nat}(h:w.ownsRow base e size (.slice a n c) n xs):n<=c:=by
 rcases h.2 with⟨h,i⟩ | ⟨g,d,f,b,_,_,j⟩
 ·omega
 ·injection b with _ _ hc
  subst hc;omega
theorem Qoy(i:Ins)(a b:Option Addr)(n k m l:Nat):∀ u∈Zj [(i,.slice a n k,.slice b m l)],u.oneCell'=true:=by
 intro u c;simp[Zj,YK]at c;rcases c with rfl|rfl|rfl|rfl|rfl|rfl|rfl<;>rfl
theorem Qtv(w:World)(i:Ins){a b:Value}{c:Nat}{x:Value}:∀ j u,(Zj [(i,a,b)])[j]?=some u->((w.setCell ⟨c,5,none⟩ x).alloc (.cells #[.int .i64 i.op,.int .i64 i.n,.int .i64 i.tag,.bool i.oct,a,b,.int .i64 i.at_] 63)).cell? ((⟨w.heap.size,0,none⟩:Addr).add j)=some u:=by
 intro j u d;rw[Jx,Qn (show((w.setCell ⟨c,5,none⟩ x).alloc (.cells #[.int .i64 i.op,.int .i64 i.n,.int .i64 i.tag,.bool i.oct,a,b,.int .i64 i.at_] 63)).heap[w.heap.size]?=some (.cells (Zj [(i,a,b)]).toArray 63)from Zv (by simp))];simpa using d
theorem Qtp{d:World}{b:Nat}{c a f:Value}{j:Array Value}(g:wr.ownsRow B 63 7 c n xs)(q:b=wr.heap.size)
 (k:Below (wr.heap.size+1) (wr.alloc (.cells j 63)) w2) (u:w2.heap[b]?=some (.cells j 63)) (l:Below w2.heap.size (w2.setCell ⟨b,4,none⟩ a) d) (o:Obj) :
 ((d.setCell ⟨b,5,none⟩ f).alloc o).ownsRow B 63 7 c n xs:=by
 subst q;have p:Below wr.heap.size wr w2:=(Qs _).trans (k.mono (by omega));have r:(w2.setCell ⟨wr.heap.size,4,none⟩ a).heap.size=w2.heap.size:=by simp
 have m:Below (w2.setCell ⟨wr.heap.size,4,none⟩ a).heap.size (w2.setCell ⟨wr.heap.size,4,none⟩ a) d:=by rw[r];exact l
 have s:=Jh g (P:=fun _ _=>False) (Fr.of_below p) (fun _ _ h=>h);have i:c.ownBlock≠some wr.heap.size:=fun e=>by have:=(g.lt _ e).2;omega
 have t:=Jh (U8 s i 4 a) (P:=fun _ _=>False) (Fr.of_below m) (fun _ _ h=>h);exact(U8 t i 5 f).alloc _
theorem QoA{f q:World}{la:Nat}{u M c d:Value}{r:Nat}{A:Array Value}
 (ae:r=wr.heap.size) (x:B<=wr.heap.size) (l:Vr wr B u ps)
 (F:Below (wr.heap.size+1) (wr.alloc (.cells A 63)) w2) (ab:w2.heap[r]?=some (.cells A 63)) (s:w2.ownsRow (wr.heap.size+1) 9 1 c i.a.length (Qw i.a))
 (G:Below w2.heap.size (w2.setCell ⟨r,4,none⟩ c) f) (t:f.ownsRow w2.heap.size 9 1 d i.b.length (Qw i.b)) (ad:f.heap[r]?=some (.cells (A.setIfInBounds 4 c) 63))
 (m:(∀ z∈i.a,z.length<=100000)/\(∀ z∈i.b,z.length<=100000)/\i.a.length<=1000000/\i.b.length<=1000000/\-9223372036854775808<=i.n/\i.n<=9223372036854775807)
 (af:q.ownsRow B 63 7 M (ps.length+1) (Zj ps++Zj [(i,c,d)])) (H:((f.setCell ⟨r,5,none⟩ d).alloc (.cells (Zj [(i,c,d)]).toArray 63)).grownBy q u.ownBlock) :
 Vr q B M (ps++[(i,c,d)])/\Below B wr q:=by
 subst ae;have w:Below wr.heap.size wr w2:=(Qs _).trans (F.mono (by omega));have ah:wr.heap.size+1<=w2.heap.size:=by have:=F.size;simpa using this
 have K:(w2.setCell ⟨wr.heap.size,4,none⟩ c).heap.size=w2.heap.size:=by simp
 have v:Below (w2.setCell ⟨wr.heap.size,4,none⟩ c).heap.size (w2.setCell ⟨wr.heap.size,4,none⟩ c) f:=by rw[K];exact G
 have V:Fr (fun k o=>∃ g,o=.cells g 63) w2 (w2.setCell ⟨wr.heap.size,4,none⟩ c):=(Fr.refl _ w2).set ab ⟨_,rfl⟩ 4 c;have W:Fr (fun k o=>∃ g,o=.cells g 63) f ((f.setCell ⟨wr.heap.size,5,none⟩ d).alloc (.cells (Zj [(i,c,d)]).toArray 63)):=((Fr.refl _ f).set ad ⟨_,rfl⟩ 5 d).alloc _;have ai:w2.heap.size<=f.heap.size:=by have:=v.size;rw[K]at this;exact this
 have ag:((f.setCell ⟨wr.heap.size,5,none⟩ d).alloc (.cells (Zj [(i,c,d)]).toArray 63)).ownsRow B 63 7 u ps.length (Zj ps):=by
  have r2:=Jh l.row (P:=fun _ _=>False) (Fr.of_below w) (fun _ _ h=>h);have J:u.ownBlock≠some wr.heap.size:=fun e=>by have:=(l.row.lt _ e).2;omega
  have r3:=Jh (U8 r2 J 4 c) (P:=fun _ _=>False) (Fr.of_below v) (fun _ _ h=>h);exact(U8 r3 J 5 d).alloc _
 have X:Fr (fun k o=>∃ g,o=.cells g 63) _ q:=(Fr.refl _ _).grown H (fun k o e ho=>(Ug ag k o e ho).2);have D:=W.trans X;have C:=(V.trans (Fr.of_below v)).trans D;have N:Fr (fun k o=>∃ g,o=.cells g 63) wr q:=(Fr.of_below w).trans C;have y:∀(k:Nat) (g:Array Value),¬(∃ E,Obj.cells g 9=.cells E 63):=fun k g ⟨E,e⟩=>by injection e with _ e;exact absurd e (by decide)
 have Y:=Jh s C y;have Z:=Jh t D y;refine⟨⟨?_,fun p hp=>?_,?_,fun e=>absurd (List.append_eq_nil_iff.1 e).2 (by simp)⟩,?_⟩
 ·rw[Qk,K6];exact af
 ·rcases List.mem_append.1 hp with hp|hp
  ·exact(l.ok p hp).fr N y
  ·rw[QY hp];exact⟨SlT.of_owns Y rfl,SlT.of_owns Z rfl,m.1,m.2.1,m.2.2.1,m.2.2.2.1,m.2.2.2.2.1,m.2.2.2.2.2⟩
 ·refine l.ap.append (L:=wr.heap.size+1) (fun k j=>by have:=l.ltL k j;omega) ?_ (by omega);obtain⟨aa,ac,T⟩:=ZC s;obtain⟨ba,bc,U⟩:=ZC t;subst T U;exact Apt.two (L2:=w2.heap.size) (fun k j=>s.lt k j) (fun k j=>(t.lt k j).1) ah (H5 s) (H5 t)
 ·have Q:Below B wr (w2.setCell ⟨wr.heap.size,4,none⟩ c):=(w.mono x).setCell x c;have R:Below B wr f:=Q.trans (G.mono (by omega));have S:Below B wr ((f.setCell ⟨wr.heap.size,5,none⟩ d).alloc (.cells (Zj [(i,c,d)]).toArray 63)):=(R.setCell x d).alloc (by simp;omega) _;exact H3 S H (by simp;omega) (fun k j=>(l.row.lt k j).1)
theorem QtM(h:Below (wr.heap.size+1) (wr.alloc o) w2)(b:g<wr.heap.size)(j:Nat):w2.cell? ⟨g,j,none⟩=wr.cell? ⟨g,j,none⟩:=by
 rw[h.cell (p:=⟨g,j,none⟩) (by show g<_;omega)];exact World.cell?_of_block (a:=⟨g,j,none⟩) (Below.heap_alloc _ _ _ b)
theorem XK.get(h:XK w B cv code)(b:k<code.length):∃ g c av bv,cv=.slice (some ⟨g,0,none⟩) code.length c/\B<=g/\g<w.heap.size/\QrbZ w g (k*7) code[k] av bv/\Xg w code[k] av bv/\Gk av/\Gk bv:=by
 obtain⟨d,rfl,o,p,s,e⟩:=h;rw[List.length_map]at b;obtain⟨g,c,r,i,n,f⟩:=Y7 o (by omega);have a:∀ j,j<7->∀ u,(YK d[k])[j]?=some u->w.cell? ⟨g,k*7+j,none⟩=some u:=fun j m u q=>f _ _ (by rw[Ce d k b j m];exact q)
 have l:(d.map Prod.fst)[k]'(by rw[List.length_map];exact b)=d[k].1:=by simp
 rw[l];exact⟨g,c,d[k].2.1,d[k].2.2,by rw[List.length_map];exact r,i,n,⟨a 0 (by omega) _ rfl,a 1 (by omega) _ rfl,a 2 (by omega) _ rfl,a 3 (by omega) _ rfl,a 4 (by omega) _ rfl,a 5 (by omega) _ rfl,a 6 (by omega) _ rfl⟩,p _ (List.getElem_mem b),(e.rm _ (List.getElem_mem b)).1,(e.rm _ (List.getElem_mem b)).2⟩
theorem SX(code:List Ins)(cv:Value)(B:Nat)(w:World)(E:XK w B cv code)(az:code.length<=1000000) :
 Calls prog 26 #[cv] w fun e w'=>∃ ov,e=.returned ov/\XK w' w.heap.size ov code/\Below w.heap.size w w':=by
 obtain⟨ca,cc,rfl⟩:=E.codeO.len;have X:=I E;obtain⟨i0,ak,ar,au,aw⟩:=info_parts Tryz.infoIns;clear E;go_enter func26,ntmps26;go_wp2
 go_loopw [3,4] (fun lv i wr=>∃(k:Nat) (q:List IV),k<=code.length/\i=.int .i64 (k:Int)/\q.map Prod.fst=code.take k/\Vr wr w.heap.size lv q/\Below w.heap.size w wr) (fun _ i _=>code.length - (intOf i).toNat)
 case atStart=>exact⟨0,[],QC,by go_num,rfl,⟨World.ownsRow_nil _ _ _ _,(fun p hp=>nomatch hp),Apt.nil _,fun _=>rfl⟩,Below.refl _ _⟩
 case round=>
  obtain⟨k,q,hk,rfl,v,t,r⟩:=hrel;have af:=r.size
  have A:q.length=k:=by
   have:=congrArg List.length v;rw[List.length_map,List.length_take]at this;omega
  by_cases hlt:k<code.length
  ·obtain⟨g,c',av,bv,F,_,aj,⟨N,P,Q,R,a4,f,D⟩,d,_,_⟩:=X.o.get hlt;injection F with F
   subst F;have m:∀ j,wr.cell? ⟨g,j,none⟩=w.cell? ⟨g,j,none⟩:=fun j=>r.cell (p:=⟨g,j,none⟩) aj
   have e0:=(m _).trans N;have e1:=(m _).trans P;have e2:=(m _).trans Q;have e3:=(m _).trans R;have e4:=(m _).trans a4;have e5:=(m _).trans f;have e6:=(m _).trans D;have ax:=I m
   have M:Hid (code.take (k+1)=code.take k++[code[k]]):=by
    show _=_
    rw[List.take_add_one,List.getElem?_eq_getElem hlt];rfl
   obtain⟨i,U⟩:=Qf (code[k]);rw[U]at e0 e1 e2 e3 e6 d M;obtain⟨aa,ac,ag⟩:=d.a.len;obtain⟨ba,bc,ai⟩:=d.b.len;subst ag ai;have H:=d.below r;have Y:=I (And.intro d.al (And.intro d.bl (And.intro d.an (And.intro d.bn (And.intro d.n1 d.n2)))));have han:=d.an;have ah:=d.bn;have S:∀ o,Below wr.heap.size wr (wr.alloc o):=fun o=>Qs o
   have HSA:Hid (∀ o,SlT (wr.alloc o) (.slice aa i.a.length ac) i.a):=fun o=>H.a.below (S o)
   have HSB:Hid (SlT wr (.slice ba i.b.length bc) i.b):=H.b;have HBX:Hid ((wr.alloc (.cells #[.int .i64 i.op,.int .i64 i.n,.int .i64 i.tag,.bool i.oct,.slice aa i.a.length ac,.slice ba i.b.length bc,.int .i64 i.at_] 63)).heap[wr.heap.size]?=some (.cells #[.int .i64 i.op,.int .i64 i.n,.int .i64 i.tag,.bool i.oct,.slice aa i.a.length ac,.slice ba i.b.length bc,.int .i64 i.at_] 63)):=QA _ _;have x:=I t;have ab:=I v;have C:=I r;obtain⟨la,W,z⟩:=ZC t.row;subst z;have aB:q.length<=1000000:=by omega
   have ay:=I A;have hgw:g<wr.heap.size:=by omega
   have ap:(k:Int)<(code.length:Int):=by omega
   clear A;clear m d H t v r S N P Q R a4 f D U
   go_wp2_with (first
    |(have gg:=L;at_builtin;refine wpList_append_own _ rfl _ _ 45 rfl w.heap.size 63 i0 _ 7 88 underlying45 ak ar au aw rfl (by decide) _ _ _ rfl (ad.o _) ⟨c.heap.size,0,none⟩ 1 1 (Zj [(i,.slice a4 i.a.length k4,.slice f i.b.length s)]) rfl rfl Z.o (Qoy _ _ _ _ _ _ _) (by unfold maxLen;omega) (by omega) (by simp;omega) ?_;intro v6 w6 G T _;obtain⟨D,k6,aq⟩:=ZC G;subst aq;have K:=I (QoA (la:=0) rfl af x.o HB2.o HX2.o HOA.o J.o L.o ae.o Y.o G T);clear G T;skip)
    |(have gg:=HOA;at_builtin;refine H4 rfl _ _ rfl i.b (.slice ba i.b.length bc) rfl rfl HSB2.o ah ?_;intro f s c V y;have J:=I (show Below w2.heap.size (w2.setCell ⟨wr.heap.size,4,none⟩ (.slice a4 i.a.length k4)) c from(by simpa using y));have L:=I (show c.ownsRow w2.heap.size 9 1 (.slice f i.b.length s) i.b.length (Qw i.b)from(by simpa using V));have l:=Zk (Qv _ _ 4 (.slice a4 i.a.length k4) _ _ HX2.o) y;have ae:=I l;have aC:w2.heap.size<=c.heap.size:=(by have:=y.size;simpa using this);have d0:=Qj l;have d1:=Qo l;have d2:=QG l;have d3:=QH l;have d4:=QJ l;have d5:=QM l;have d6:=Zg l;have aA:=Qz l;have ad:Hid (∀ o,((c.setCell ⟨wr.heap.size,5,none⟩ (.slice f i.b.length s)).alloc o).ownsRow w.heap.size 63 7 (.slice la q.length W) q.length (Zj q)):=Qtp x.o.row rfl HB2.o HX2.o J.o;have Z:Hid (∀ j u,(Zj [(i,.slice a4 i.a.length k4,.slice f i.b.length s)])[j]?=some u->((c.setCell ⟨wr.heap.size,5,none⟩ (.slice f i.b.length s)).alloc (.cells #[.int .i64 i.op,.int .i64 i.n,.int .i64 i.tag,.bool i.oct,.slice a4 i.a.length k4,.slice f i.b.length s,.int .i64 i.at_] 63)).cell? ((⟨c.heap.size,0,none⟩:Addr).add j)=some u):=Qtv _ _;clear V y l;skip)
    | (at_builtin;refine H4 rfl _ _ rfl i.a (.slice aa i.a.length ac) rfl rfl (HSA.o _) han ?_;intro a4 k4 w2 ho2 hb2;have HB2:=I (show Below (wr.heap.size+1) (wr.alloc (.cells #[.int .i64 i.op,.int .i64 i.n,.int .i64 i.tag,.bool i.oct,.slice aa i.a.length ac,.slice ba i.b.length bc,.int .i64 i.at_] 63)) w2 from (by simpa using hb2));have HOA:=I (show w2.ownsRow (wr.heap.size+1) 9 1 (.slice a4 i.a.length k4) i.a.length (Qw i.a) from (by simpa using ho2));have hx2:=Zk HBX.o hb2;have HX2:=I hx2;have hzw2:wr.heap.size+1<=w2.heap.size:=(by have:=hb2.size;simpa using this);have c0:=Qj hx2;have c1:=Qo hx2;have c2:=QG hx2;have c3:=QH hx2;have c4:=QJ hx2;have c5:=QM hx2;have c6:=Zg hx2;have hf2:=Qz hx2;have hw2g:∀ j,w2.cell? ⟨g,j,none⟩=wr.cell? ⟨g,j,none⟩:=(fun j=>QtM HB2.o hgw j);have s5:w2.cell? ⟨g,k*7+5,none⟩=some (.slice ba i.b.length bc):=(hw2g _).trans e5;have hgne:g≠wr.heap.size:=(by omega);have HSB2:Hid (SlT (w2.setCell ⟨wr.heap.size,4,none⟩ (.slice a4 i.a.length k4)) (.slice ba i.b.length bc) i.b):=(HSB.o.below ((Qs _).trans (hb2.mono (by simp)))).fr ((Fr.refl (fun k o=>∃ cs,o=.cells cs 63) w2).set hx2 ⟨_,rfl⟩ 4 _) (fun k cs ⟨cs',e⟩=>(by injection e with _ e;exact absurd e (by decide)));clear ho2 hb2 hx2;skip))
   go_roundw
   case rel=>exact⟨k+1,by omega,by omega,q++[(i,.slice a4 i.a.length k4,.slice f i.b.length s)],by rw[List.map_append,ab.o,M.o];rfl,K.o.1,C.o.trans K.o.2⟩
   case measure=>simp[intOf];omega
  ·have ao:k=code.length:=by omega
   subst ao;have ap:¬(code.length:Int)<(code.length:Int):=by omega
   rw[List.take_length]at v;have x:Hid (XK wr w.heap.size u3 code):=by rw[<-v];exact t.codeP
   have C:=I r;obtain⟨la,W,z⟩:=ZC t.row;rw[A]at z;subst z;clear t v r A;go_wp2;go_ret;exact⟨_,rfl,x.o,C.o⟩
theorem DE(xs:Qa)(j l:Value)(w:World)(b:TxO w j xs)(c:TxO w l xs)(F:xs.length<=1000000) :
 Calls prog 52 #[j,l] w fun e w'=>e=.returned (.bool true)/\Below w.heap.size w w':=by
 obtain⟨G,C,rfl,b⟩:=b;obtain⟨H,D,rfl,c⟩:=c;have s:=I b;have t:=I c;clear b c;go_enter func52,ntmps52;go_wp2
 go_loopw [5] (fun i wr=>∃ k:Nat,k<=xs.length/\i=.int .i64 k/\Hid (Below w.heap.size w wr)) (fun i _=>xs.length - (intOf i).toNat)
 case atStart=>exact⟨0,QC,rfl,Below.refl _ _⟩
 case round=>
  obtain⟨k,E,rfl,a⟩:=hrel;by_cases hlt:k<xs.length
  ·have z:(k:Int)<(xs.length:Int):=by omega
   obtain⟨g,q,A,d⟩:=s.o k hlt;obtain⟨m,r,B,f⟩:=t.o k hlt;subst A B;have u:wr.cell? ⟨g,q+k,none⟩=some (.string (sA xs[k])):=by rw[a.o.cell (p:=⟨g,q+k,none⟩) (QI d)];exact d
   have v:wr.cell? ⟨m,r+k,none⟩=some (.string (sA xs[k])):=by rw[a.o.cell (p:=⟨m,r+k,none⟩) (QI f)];exact f
   obtain⟨x,n⟩:=Qf (sA xs[k]);rw[n]at u v;clear d f n;go_wp2;go_region;go_wp2;go_roundw
   case rel=>exact⟨k+1,by omega,by go_num,a.o.drew⟩
   case measure=>simp[intOf];omega
  ·have y:k=xs.length:=by omega
   subst y;have z:¬(xs.length:Int)<(xs.length:Int):=by omega
   go_wp2;go_ret;exact⟨rfl,a.o⟩
theorem Fl(h:w.ownsRow base e size v n xs):n<=9223372036854775807:=by
 rcases h.2 with⟨_,h⟩ | ⟨g,b,c,_,_,_,d,a,_⟩
 ·omega
 ·unfold maxLen at a;omega
def Kn(w:World)(v:Value)(l:List (Int×L8)):Prop:=∃ a c,v=.slice a l.length c/\∀ j (hj:j<l.length),∃ g off,a=some ⟨g,off,none⟩/\w.cell? ⟨g,off+j*2,none⟩=some (.int .i64 l[j].1)/\w.cell? ⟨g,off+j*2+1,none⟩=some (.string (sA l[j].2))
theorem Kn.of_owns(h:w.ownsRow B 52 2 v l.length (XZ l)):Kn w v l:=by
 obtain⟨a,c,f⟩:=ZC h;refine⟨a,c,f,fun j d=>?_⟩;obtain⟨g,n,i,_,_,b⟩:=Y7 h (by omega);rw[f]at i;injection i with e
 have k:=b (j*2) _ (Gj l j d).1;have m:=b (j*2+1) _ (Gj l j d).2;exact⟨g,0,e,by rw[Nat.zero_add];exact k,by rw[Nat.zero_add];exact m⟩
theorem Kn.below(h:Kn w v l)(i:Below w.heap.size w w'):Kn w' v l:=by
 obtain⟨a,c,m,h⟩:=h;refine⟨a,c,m,fun j k=>?_⟩;obtain⟨g,b,e,d,f⟩:=h j k;exact⟨g,b,e,by rw[i.cell (p:=⟨g,b+j*2,none⟩) (QI d)];exact d,by rw[i.cell (p:=⟨g,b+j*2+1,none⟩) (QI f)];exact f⟩
theorem Qzh(a:Int×L8)(W:World):(binOp .neq 52 (.agg #[.int .i64 a.1,.string (sA a.2)]) (.agg #[.int .i64 a.1,.string (sA a.2)])).run prog W=.ok (.bool false) W:=by
 have h:=Ha a a W;rw[QO (rfl:a=a)]at h;have c:prog.underlying 52=some (.struct (prog.fieldsOf 52)):=by kernel_rfl
 have e:prog.stoodInHeld 52=false:=by kernel_rfl
 have d:(prog.fieldsOf 52).toList=[⟨ "Kind",3,0,false, "", "",0⟩,⟨ "Arg",9,1,false, "", "",8⟩]:=by kernel_rfl
 have b:((sA a.2).toList==(sA a.2).toList)=true:=by simp
 rw[run_neq_struct,run_equalIn_struct W _ _ _ _ c e,d];simp[Op.eqFields,go_sem,Result.andThen,b]
theorem Fm(l:List (Int×L8))(s t:Value)(w:World)(c:Kn w s l)(d:Kn w t l)(N:l.length<=9223372036854775807) :
 Calls prog 35 #[s,t] w fun e w'=>e=.returned (.bool true)/\Below w.heap.size w w':=by
 obtain⟨P,K,rfl,c⟩:=c;obtain⟨Q,L,rfl,d⟩:=d;have v:=I c;have y:=I d;have z:=I Qzh;clear c d;go_enter func35,ntmps35;go_wp2
 go_loopw [5] (fun r wr=>∃ k:Nat,k<=l.length/\r=.int .i64 k/\Hid (Below w.heap.size w wr)) (fun r _=>l.length - (intOf r).toNat)
 case atStart=>exact⟨0,QC,rfl,Below.refl _ _⟩
 case round=>
  obtain⟨k,M,rfl,a⟩:=hrel;by_cases hlt:k<l.length
  ·have F:(k:Int)<(l.length:Int):=by omega
   obtain⟨g,f,G,j,n⟩:=v.o k hlt;obtain⟨b,i,H,m,q⟩:=y.o k hlt;subst G H;have A:wr.cell? ⟨g,f+k*2,none⟩=some (.int .i64 l[k].1):=by rw[a.o.cell (p:=⟨g,f+k*2,none⟩) (QI j)];exact j
   have C:wr.cell? ⟨g,f+k*2+1,none⟩=some (.string (sA l[k].2)):=by rw[a.o.cell (p:=⟨g,f+k*2+1,none⟩) (QI n)];exact n
   have B:wr.cell? ⟨b,i+k*2,none⟩=some (.int .i64 l[k].1):=by rw[a.o.cell (p:=⟨b,i+k*2,none⟩) (QI m)];exact m
   have D:wr.cell? ⟨b,i+k*2+1,none⟩=some (.string (sA l[k].2)):=by rw[a.o.cell (p:=⟨b,i+k*2+1,none⟩) (QI q)];exact q
   have J:=z.o l[k];obtain⟨x,u⟩:=Qf (l[k]);rw[u]at A B C D J;clear j m n q u;go_wp2;go_region;go_wp2;go_roundw
   case rel=>exact⟨k+1,by omega,by go_num,a.o.drew⟩
   case measure=>simp[intOf];omega
  ·have E:k=l.length:=by omega
   subst E;have F:¬(l.length:Int)<(l.length:Int):=by omega
   go_wp2;go_ret;exact⟨rfl,a.o⟩
end
end Go.Proofs.YtgnkjijocdmniaaGreatDoor
