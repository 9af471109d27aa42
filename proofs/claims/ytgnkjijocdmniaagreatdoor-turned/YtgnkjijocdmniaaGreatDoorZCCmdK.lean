import Derived.Test.YtgnkjijocdmniaaGreatDoorZCTestZ
namespace Go.Proofs.YtgnkjijocdmniaaGreatDoor
set_option linter.unusedVariables false
set_option linter.unusedSimpArgs false
set_option maxRecDepth 100000
set_option maxHeartbeats 4000000
open Go.Proofs.Tryz
section
open Go.RowKit
attribute [local go_sem ↓] Go.wp_at_zero Go.wp_at_succ
theorem Qnt(X:Nat->Prop)(hw:L8)(p:Nat)(xs:List (L8))(u:Value)(B cb:Nat)(cs:List Ins)(w:World)(h:CC w B cb cs)(hl:cs.length+1<=1000000)(hm:slX X xs w u)(h1:xs.length<=1000000)(h3:∀ z∈xs,z.length<=100000) :
 Calls Tryz.prog 255 #[.pointer (some ⟨cb,0,none⟩),.iface 309 (.agg #[.string (Qaf hw),.int .i64 p,u])] w (Qdy B cb (cs++[⟨9,0,0,false,xs,[],0⟩]) w):=by
 have HF:=Qab hm;obtain⟨gf,cf,rfl,ap⟩:=hm;have aa:=Qab (And.intro h1 h3);clear ap h1 h3;have n0:=Tryz.noTruth;have n1:=Tryz.noNot;have n2:=Tryz.noAllOf;have n3:=Tryz.noAnyOf;have n4:=Tryz.noHeader;have n5:=Tryz.noEnvelope;have n6:=Tryz.noString;have yy:=Tryz.yesExists;have H:=Qab h;have HL:=Qab hl;have ad:∀ o,Below w.heap.size w (w.alloc o):=fun o=>(Below.refl _ _).alloc (Nat.le_refl _) o
 have ab:=Qab ad;clear h hl ad;go_enter func255,ntmps255;go_wp2_with (first|(go_at_call 276;refine(QfS X xs _ _ (HF.o.keep (fun k _ hk=>(ab.o _).block k hk)) aa.o.1).mono ?_;rintro e w1 ⟨a1,k1,rfl,ah,ae⟩;have ac:=Qab ((ab.o _).trans (ae.mono (by simp)));have ai:=Qab (H.o.below ac.o);have ao:=Qab ah;clear ae ah;skip)|(go_at_call 216;refine(QcB B cb cs ⟨9,0,0,false,xs,[],0⟩ _ _ w1 ai.o ⟨ao.o,Or.inl ⟨rfl,rfl⟩,aa.o.2,(fun z hz=>nomatch hz),aa.o.1,Nat.zero_le _,(by show(-9223372036854775808:Int)<=0;decide),(by show(0:Int)<=9223372036854775807;decide)⟩ HL.o).mono ?_;rintro e w2 ⟨rfl,af,ag⟩;have aj:=Qab af;have ak:=Qab ((Fr.of_below ac.o).trans ag);clear af ag;skip));go_end0;exact⟨rfl,aj.o,ak.o⟩
theorem Qqt(hw:L8)(p:Nat)(a:Option Addr)(n c:Nat)(ds:List Ins)(B cb:Nat)(cs:List Ins)(w:World)(h:CC w B cb cs)(hl:B<=w.heap.size)(ho:∀ W,Below B w W->CC W B cb cs->Calls Tryz.prog 274 #[.pointer (some ⟨cb,0,none⟩),.slice a n c,.int .i64 5,.bool false] W (Qdy B cb ds W)) :
 Calls Tryz.prog 255 #[.pointer (some ⟨cb,0,none⟩),.iface 224 (.agg #[.string (Qaf hw),.int .i64 p,.slice a n c])] w (Qdy B cb ds w):=by
 have HO:=Qab ho;have ae:Hid (∀ o,Below B w (w.alloc o)):=fun o=>(Below.refl _ _).alloc (Nat.le_of_lt (Nat.lt_of_le_of_lt h.lt.1 h.lt.2)) o
 clear ho;have n0:=Tryz.noTruth;have n1:=Tryz.noNot;have yy:=Tryz.yesAllOf;have H:=Qab h;have HL:=Qab hl;have aa:∀ o,Below w.heap.size w (w.alloc o):=fun o=>(Below.refl _ _).alloc (Nat.le_refl _) o
 have ad:=Qab aa;clear h hl aa;go_enter func255,ntmps255;go_wp2_with (first|(go_at_call 274;refine(HO.o _ (ae.o _) (H.o.alloc _)).mono ?_;rintro e w1 ⟨rfl,ab,ac⟩;have af:=Qab ab;have ag:=Qab ((Fr.of_below (ad.o _)).trans ac);clear ab ac;skip));go_end0;exact⟨rfl,af.o,ag.o⟩
theorem Qpw(hw:L8)(p:Nat)(a:Option Addr)(n c:Nat)(ds:List Ins)(B cb:Nat)(cs:List Ins)(w:World)(h:CC w B cb cs)(hl:B<=w.heap.size)(ho:∀ W,Below B w W->CC W B cb cs->Calls Tryz.prog 274 #[.pointer (some ⟨cb,0,none⟩),.slice a n c,.int .i64 4,.bool true] W (Qdy B cb ds W)) :
 Calls Tryz.prog 255 #[.pointer (some ⟨cb,0,none⟩),.iface 225 (.agg #[.string (Qaf hw),.int .i64 p,.slice a n c])] w (Qdy B cb ds w):=by
 have HO:=Qab ho;have ae:Hid (∀ o,Below B w (w.alloc o)):=fun o=>(Below.refl _ _).alloc (Nat.le_of_lt (Nat.lt_of_le_of_lt h.lt.1 h.lt.2)) o
 clear ho;have n0:=Tryz.noTruth;have n1:=Tryz.noNot;have n2:=Tryz.noAllOf;have yy:=Tryz.yesAnyOf;have H:=Qab h;have HL:=Qab hl;have aa:∀ o,Below w.heap.size w (w.alloc o):=fun o=>(Below.refl _ _).alloc (Nat.le_refl _) o
 have ad:=Qab aa;clear h hl aa;go_enter func255,ntmps255;go_wp2_with (first|(go_at_call 274;refine(HO.o _ (ae.o _) (H.o.alloc _)).mono ?_;rintro e w1 ⟨rfl,ab,ac⟩;have af:=Qab ab;have ag:=Qab ((Fr.of_below (ad.o _)).trans ac);clear ab ac;skip));go_end0;exact⟨rfl,af.o,ag.o⟩
end
section
open Go.RowKit
theorem Fr.grownNew{P:Nat->Obj->Prop}{u w w':World}{aa:Option Nat}(h:Fr P u w)(hg:w.grownBy w' aa)(hr:∀ k,aa=some k->u.heap.size<=k):Fr P u w':=
 ⟨hg.os.trans h.os,hg.tape.trans h.tape,hg.output.trans h.output,Nat.le_trans h.size hg.size,fun k o hk hn=>by
  have hk':=h.block k o hk hn;rw[hg.block k (QaI hk') (fun e=>by have:=hr k e.symm;have:=QaI hk;omega)]
  exact hk'⟩
def Qgk (js:List Nat):List Value:=js.map fun j=>.int .i64 ((j:Nat):Int)
theorem Qju(js:List Nat)(j:Nat):Qgk js++[.int .i64 (j:Int)]=Qgk (js++[j]):=by simp[Qgk]
theorem Tryz.infoIntJ:(Tryz.prog.info? 3).map (fun i=>(i.zero,i.size,i.bytes))=some (some (.int .i64 0),1,8):=by kernel_rfl
theorem Qi7(W:World)(op:Int):Qck W (insOp op) (.slice none 0 0) (.slice none 0 0):=Qdo W _ rfl rfl (by show(-9223372036854775808:Int)<=0;decide) (by show(0:Int)<=9223372036854775807;decide)
theorem QqU(W:World)(b:Bool):Qck W (pushI b) (.slice none 0 0) (.slice none 0 0):=Qdo W _ rfl rfl (by cases b<;>decide) (by cases b<;>decide)
theorem Qwq(x:Int):∀ u∈[Value.int .i64 x],u.oneCell'=true:=by
 intro u hu;simp at hu;subst hu;rfl
theorem CC.grownInt{w w':World}{B cb base n:Nat}{cs:List Ins}{v:Value}{xs:List Value}(h:CC w B cb cs)(ho:w.ownsRow base 3 1 v n xs)(hg:w.grownBy w' v.ownBlock):CC w' B cb cs:=by
 obtain⟨cv,ps,e,h⟩:=h;refine⟨cv,ps,e,h.fr (P:=fun k o=>∃ cs,o=.cells cs 3) ((Fr.refl _ w).grown hg (fun k o e ho'=>(Qcg ho k o e ho').2)) ?_ ?_ ?_⟩
 ·rintro k cs ⟨aa,e⟩;injection e with _ e;exact absurd e (by decide)
 ·rintro k cs ⟨aa,e⟩;injection e with _ e;exact absurd e (by decide)
 ·rintro k cs ⟨aa,e⟩;injection e with _ e;exact absurd e (by decide)
theorem Qrh{w:World}{base:Nat}{v:Value}{js:List Nat}(ho:w.ownsRow base 3 1 v js.length (Qgk js))(ac:js≠[]):∃ gj c kcs,v=.slice (some ⟨gj,0,none⟩) js.length c/\w.heap[gj]?=some (.cells kcs 3)/\∀ k,k<js.length->kcs[k]?=some (.int .i64 ((js.getD k 0:Nat):Int)):=by
 rcases ho.2 with⟨_,h2⟩ | ⟨g,aa,ab,hv,hg,hb,hc,_,hs,ht⟩
 ·exact absurd (List.eq_nil_of_length_eq_zero h2) ac
 ·refine⟨g,aa,ab,hv,hb,fun k hk=>?_⟩
  have h4:(Qgk js)[k]?=some (.int .i64 ((js.getD k 0:Nat):Int)):=by
   unfold Qgk;rw[List.getElem?_map,List.getElem?_eq_getElem hk,List.getD_eq_getElem?_getD,List.getElem?_eq_getElem hk];rfl
  rw[<-ht,List.getElem?_take_of_lt (by omega)]at h4;rw[<-h4];simp
def gTo {α:Type} (sub:α→List Ins→List Ins) (jump:Int) (ts:List α) (cs:List Ins) (k:Nat):List Ins×List Nat:=(ts.take k).foldl (Qe6 sub jump) (cs,[])
theorem QmT{α:Type}(sub:α->List Ins->List Ins)(aa:Int)(ts:List α)(cs:List Ins)(k:Nat)(h:k<ts.length):gTo sub aa ts cs (k+1)=Qe6 sub aa (gTo sub aa ts cs k) ts[k]:=by
 unfold gTo;rw[List.take_add_one,List.getElem?_eq_getElem h,List.foldl_append];rfl
theorem Qxv{α:Type}(sub:α->List Ins->List Ins)(aa:Int)(ts:List α)(cs:List Ins)(b:Bool):Qdb sub aa b ts cs=Qed b (gTo sub aa ts cs ts.length):=by
 unfold Qdb gTo;rw[List.take_length]
theorem Qt1{α:Type}(sub:α->List Ins->List Ins)(aa:Int)(ts:List α)(cs:List Ins):∀ k,k<=ts.length->(gTo sub aa ts cs k).2.length=k
 |0,_=>rfl
 |k+1,h=>by
  rw[QmT sub aa ts cs k h];have:=Qt1 sub aa ts cs k (by omega);unfold Qe6;simp[this]
theorem Qwy{α:Type}{sub:α->List Ins->List Ins}(hm:∀ t cs,cs.length<=(sub t cs).length)(aa:Int)(ts:List α)(cs:List Ins):∀ k,k<=ts.length->∀ j∈(gTo sub aa ts cs k).2,j<(gTo sub aa ts cs k).1.length
 |0,_,j,hj=>by cases hj
 |k+1,h,j,hj=>by
  have ih:=Qwy hm aa ts cs k (by omega);rw[QmT sub aa ts cs k h]at hj ⊢;have h1:=hm ts[k] (gTo sub aa ts cs k).1;unfold Qe6 at hj ⊢;simp only[List.mem_append,List.mem_singleton,List.length_append,List.length_cons,List.length_nil]at hj ⊢;rcases hj with hj|hj
  ·have:=ih j hj;omega
  ·omega
theorem QvJ{α:Type}{sub:α->List Ins->List Ins}(hm:∀ t cs,cs.length<=(sub t cs).length)(aa:Int)(ts:List α)(cs:List Ins)(k:Nat):(gTo sub aa ts cs k).1.length<=(gTo sub aa ts cs ts.length).1.length:=by
 unfold gTo;rw[List.take_length];have:=QmD hm aa (ts.drop k) ((ts.take k).foldl (Qe6 sub aa) (cs,[]));rw[<-List.foldl_append,List.take_append_drop]at this;exact this
theorem Qqq{α:Type}(sub:α->List Ins->List Ins)(aa:Int)(settled:Bool)(ts:List α)(B cb g c:Nat)(cs:List Ins)(w:World)(h:CC w B cb cs)(a9:ts≠[])(a6:g<B)(ba:ts.length<=1000000)
 (hm:∀ t cs,cs.length<=(sub t cs).length) (hl:(Qdb sub aa settled ts cs).length<=1000000)
 (hc:∀ j (hj:j<ts.length),∃ ty y,w.cell? ⟨g,j,none⟩=some (.iface ty y)/\SubC 255 B cb w (.iface ty y) (sub ts[j])) :
 Calls Tryz.prog 274 #[.pointer (some ⟨cb,0,none⟩),.slice (some ⟨g,0,none⟩) ts.length c,.int .i64 aa,.bool settled] w (Qdy B cb (Qdb sub aa settled ts cs) w):=by
 obtain⟨i0,hi,hz0,hz1,hz2⟩:=info_parts Tryz.infoIntJ;have hBw:B<=w.heap.size:=Nat.le_of_lt (Nat.lt_of_le_of_lt h.lt.1 h.lt.2);rw[Qxv]at hl ⊢;have HE:Hid (∀ r,r=gTo sub aa ts cs ts.length->Qed settled r=Qed settled (gTo sub aa ts cs ts.length)):=fun r e=>by rw[e]
 rw[QdQ]at hl;have HL:=Qab hl;have HC:=Qab hc;have HM:=Qab hm;have H:=Qab h;clear hc hm h hl;go_enter func274,ntmps274;go_wp2_with fail
 go_loopw [8,10,14] (fun v _ i wr=>∃(k:Nat) (r:List Ins×List Nat),k<=ts.length/\i=.int .i64 (k:Int)/\r=gTo sub aa ts cs k/\wr.ownsRow w.heap.size 3 1 v r.2.length (Qgk r.2)/\CC wr B cb r.1/\Fr (PCo B) w wr) (fun _ _ i _=>ts.length - (intOf i).toNat)
 case atStart=>exact⟨0,_,Nat.zero_le _,by go_num,rfl,World.ownsRow_nil _ _ _ _,H.o,Fr.refl _ _⟩
 case round=>
  obtain⟨k,r,hk,rfl,hr,ac,ap,hF⟩:=hrel;have au:r.2.length=k:=by rw[hr];exact Qt1 sub aa ts cs k hk
  have ab:Below B w wr:=hF.co H.o;by_cases hlt:k<ts.length
  ·obtain⟨ty,y,aG,aN⟩:=HC.o k hlt
   have hck:wr.cell? ⟨g,k,none⟩=some (.iface ty y):=by
    rw[ab.cell (p:=⟨g,k,none⟩) a6];exact aG
   have HS:=Qab (QmT sub aa ts cs k hlt);have aj:=QvJ HM.o aa ts cs (k+1);rw[HS.o,<-hr]at aj;rw[<-hr]at HS;unfold Qe6 at aj;simp only[List.length_append,List.length_cons,List.length_nil]at aj;have h3:=HL.o;have aD:=Qab aN;obtain⟨t,ht⟩:∃ t,ts[k]=t:=⟨_,rfl⟩;rw[ht]at HS aD aj;obtain⟨A,hA⟩:∃ A,sub t r.1=A:=⟨_,rfl⟩;have a0:Hid ((sub t r.1).length<=1000000):=by show(sub t r.1).length<=_;omega
   have a1:Hid (A.length+1<=1000000):=by show _<=_;rw[<-hA];omega
   have a4:Hid (gTo sub aa ts cs (k+1)=(A++[insOp aa],r.2++[A.length])):=by
    show _=_
    rw[HS.o];unfold Qe6;rw[hA]
   have aO:=Qab hA;have a3:=Qab ac;have HCC:=Qab ap;have HF:=Qab hF;have aP:=Qab ab;obtain⟨la,lc,a8⟩:=QaD ac;subst a8;have hrk:r.2.length<=1000000:=by omega
   have hwl:=hF.size;clear ac ap hF ab aG aN aj h3 hA ht hr HS au HE
   go_wp2_with (first
    |(go_at_call 255;refine(aD.o wr r.1 aP.o HCC.o a0.o).mono ?_;rintro e w1 ⟨rfl,aw,ay⟩;rw[aO.o]at aw;have HC1:=Qab aw;have HF1:=Qab (HF.o.trans ay);have a2:=Qab (QbL a3.o ay (fun _ _=>PCo.not (by decide) (by decide)));clear aw ay;skip)
    |(go_at_call 216;refine(QcB B cb A (insOp aa) _ _ w1 HC1.o (Qi7 _ _) a1.o).mono ?_;rintro e w2 ⟨rfl,ae,ad⟩;have ak:=Qab ae;have ao:=Qab (HF1.o.trans ad);have HO2:=Qab (QbL a2.o ad (fun _ _=>PCo.not (by decide) (by decide)));have hw2:=ao.o.size;clear ae ad;skip)
    | (at_builtin;refine wpList_append_own _ rfl _ _ 24 rfl w.heap.size 3 i0 _ 1 8 underlying24 hi hz0 hz1 hz2 rfl (by decide) _ _ _ rfl (HO2.o.alloc _) ⟨w2.heap.size,0,none⟩ 1 1 [.int .i64 (A.length:Int)] rfl rfl (cell_one_new _ _ _) (Qwq _) (by unfold maxLen;omega) (by omega) (by simp;omega) ?_;intro v5 w5 ho5 hg5 _;obtain ⟨a5,k5,hv5⟩:=QaD ho5;subst hv5;have HO5:=Qab ho5;have HG5:=Qab hg5;clear ho5 hg5;skip))
   go_roundw
   case rel=>
    refine⟨k+1,(A++[insOp aa],r.2++[A.length]),by omega,by go_num,a4.o.symm,?_,(ak.o.alloc _).grownInt (HO2.o.alloc _) HG5.o,(ao.o.alloc _).grownNew HG5.o (fun k hk=>(HO2.o.lt k hk).1)⟩;show w5.ownsRow w.heap.size 3 1 _ (r.2++[A.length]).length (Qgk (r.2++[A.length]))
    rw[List.length_append,<-Qju];exact HO5.o
   case measure=>simp[intOf];omega
  ·have a7:k=ts.length:=by omega
   subst a7;have az:r.2≠[]:=fun e=>a9 (List.eq_nil_of_length_eq_zero (by rw[<-au,e];rfl))
   obtain⟨gj,cj,bb,hv,aK,aL⟩:=Qrh ac az;subst hv;have ai:∀ j∈r.2,j<r.1.length:=by rw[hr];exact Qwy HM.o aa ts cs ts.length (Nat.le_refl _)
   have h3:r.1.length+3<=1000000:=by rw[hr];exact HL.o
   have af:Hid (Qed settled (gTo sub aa ts cs ts.length)=landL [r.1.length+1] (landL r.2 (r.1++[pushI (!settled),insOp 3])++[pushI settled])):=by
    show _=_
    rw[<-hr];rfl
   obtain⟨L2,aq⟩:∃ L2,r.1++[pushI (!settled),insOp 3]=L2:=⟨_,rfl⟩;have ag:L2.length=r.1.length+2:=by rw[<-aq];simp
   obtain⟨L3,ar⟩:∃ L3,landL r.2 L2=L3:=⟨_,rfl⟩;have ah:L3.length=r.1.length+2:=by rw[<-ar,Qbq,ag]
   obtain⟨E,hE⟩:∃ E,r.1.length+1=E:=⟨_,rfl⟩;rw[aq,ar,hE]at af;have q1:r.1.length+2<=1000000:=by omega
   have q2:∀ j∈r.2,j<L2.length:=fun j hj=>by have:=ai j hj;omega
   have q3:L2.length<=1000000:=by omega
   have q4:r.2.length<=1000000:=by rw[au];exact ba
   have q5:L3.length+1<=1000000:=by omega
   have q6:E<(L3++[pushI settled]).length:=by rw[List.length_append,ah,<-hE];simp
   have q7:(L3++[pushI settled]).length<=1000000:=by rw[List.length_append];exact q5
   have Q:=Qab (And.intro q1 (And.intro q2 (And.intro q3 (And.intro q4 (And.intro q5 (And.intro q6 q7))))));have aR:=Qab aq;have aS:=Qab ar;have aT:=Qab hE;have HJB:=Qab aK;have aZ:=Qab aL;have HCC:=Qab ap;have HF:=Qab hF;clear ac ap hF ab hr HE aK aL ai h3 aq ag ar ah hE q1 q2 q3 q4 q5 q6 q7 au hlt hk HC HM HL;have aM:∀ b:Bool,QdI (pushI b) (.slice none 0 0) (.slice none 0 0)=.agg #[.int .i64 (pushI b).op,.int .i64 (pushI b).n,.int .i64 (pushI b).tag,.bool (pushI b).oct,.slice none 0 0,.slice none 0 0,.int .i64 (pushI b).at_]:=fun _=>rfl
   have HPP:=Qab aM;clear aM
   go_wp2_with (first
    |(have gg:=aC;go_at_call 256;refine(Qn3 B cb E _ _ aC.o Q.o.2.2.2.2.2.1 Q.o.2.2.2.2.2.2).mono ?_;rintro e w6 ⟨rfl,aF,aJ⟩;have aQ:=Qab aF;have aX:=Qab (aW.o.trans aJ);clear aF aJ;skip)
    |(have gg:=aB;go_at_call 216;refine(QcB B cb L3 (pushI settled) _ _ _ aB.o (QqU _ _) Q.o.2.2.2.2.1).mono ?_;rintro e w5 ⟨rfl,aE,aI⟩;have aC:=Qab aE;have aW:=Qab (aV.o.trans aI);clear aE aI;skip)
    |(have gg:=aA;go_at_call 273;refine(Qmn settled _).mono ?_;rintro e w4 ⟨rfl,av⟩;rw[HPP.o];have aB:=Qab (aA.o.below av);have aV:=Qab (aU.o.trans (Fr.of_below av));clear av;skip)
    |(have gg:=ak;go_at_call 256;refine(Qkw B cb gj cj r.2 bb L2 _ ak.o Q.o.2.1 aY.o aZ.o Q.o.2.2.1 Q.o.2.2.2.1).mono ?_;rintro e w3 ⟨rfl,ax,aH⟩;rw[aS.o]at ax;have aA:=Qab ax;have aU:=Qab (ao.o.trans aH);clear ax aH;skip)
    |(have gg:=HC1;go_at_call 216;refine(Qv9 B cb r.1 (pushI (!settled)) (insOp 3) _ _ _ _ _ HC1.o (QqU _ _) (Qi7 _ _) Q.o.1).mono ?_;rintro e w2 ⟨he,ae,ad⟩;rw[aT.o]at he;subst he;rw[aR.o]at ae;have ak:=Qab ae;have ao:=Qab (HF1.o.trans ad);have aY:=Qab (ad.block _ _ HJ1.o (PCo.not (by decide) (by decide)));clear ae ad;skip)
    | (go_at_call 273;refine (Qmn (!settled) _).mono ?_;rintro e w1 ⟨rfl,hb1⟩;rw [HPP.o];have HC1:=Qab (HCC.o.below hb1);have HF1:=Qab (HF.o.trans (Fr.of_below hb1));have HJ1:=Qab (Qal HJB.o hb1);clear hb1;skip))
   go_end0;rw[af.o];exact⟨rfl,aQ.o,aX.o⟩
theorem QhD(z:L8):z.length<=(quotedL z).length:=by
 unfold quotedL;rw[List.length_cons,List.length_append]
 have:z.length<=(z.flatMap QbE).length:=by
  induction z with
  |nil=>simp
  |cons c r ih=>
   rw[List.flatMap_cons,List.length_append,List.length_cons];have:1<=(QbE c).length:=by unfold QbE;split<;>simp
   omega
 omega
theorem Qf8(xs:List (L8)):(∀ z∈xs,z.length<=(Qam xs).length)/\xs.length<=(Qam xs).length+1:=by
 match xs with
 | []=>exact⟨fun z hz=>(by cases hz),Nat.zero_le _⟩
 | [x]=>exact⟨fun z hz=>(by rw[List.mem_singleton.1 hz];exact QhD x),by simp⟩
 |x::y::r=>
  have e:(Qam (x::y::r)).length=(Qdw [44,32] ((x::y::r).map quotedL)).length+2:=by unfold Qam;simp
  refine⟨fun z hz=>?_,?_⟩
  ·have h1:=Qg0 ((x::y::r).map quotedL) (quotedL z) (List.mem_map_of_mem hz);have h2:=QhD z;omega
  ·have h1:=QfV ((x::y::r).map quotedL);rw[List.length_map]at h1;omega
theorem Qli{req:List (L8)}(B cb:Nat):∀(n:Nat) (x:Qa6 n) (w:World) (v:Value),TestV n (fun k=>k<B) x w v->QiY (WfT req) n x->(Qay n x).length<=100000->SubC 255 B cb w v (Qb7 n x)
 |0,x,w,v,h,ha,_=>ha.elim
 |n+1,x,w,v,hv0,ha,hlen=>fun W cs hW hCC hl=>by
  obtain⟨hw,af⟩:=ha;have h:Qei (fun k=>k<B) (TestV n) x W v:=(Qbf (n+1)).keep _ _ _ _ _ hv0 (fun k hk _=>hW.block k hk);have hlen:(QaB x.1 (x.2.map (Qay n))).length<=100000:=hlen;have hl:(Qa1 (Qb7 n) x.1 x.2 cs).length<=1000000:=hl;show Calls Tryz.prog 255 #[.pointer (some ⟨cb,0,none⟩),v] W (Qdy B cb (Qa1 (Qb7 n) x.1 x.2 cs) W)
  have ah:B<=W.heap.size:=Nat.le_of_lt (Nat.lt_of_le_of_lt hCC.lt.1 hCC.lt.2)
  have aj:∀ a∈x.2,∀ u,TestV n (fun k=>k<B) a W u->(Qay n a).length<=100000->∃ ty y,u=.iface ty y/\SubC 255 B cb W (.iface ty y) (Qb7 n a):=fun a ha u hu hl=>by
   obtain⟨ty,y,rfl⟩:=(Qbf n).form _ _ _ _ hu;exact⟨ty,y,rfl,Qli B cb n a W _ hu (af a ha) hl⟩
  have ae:∀ hd,(Qbd hd x.1).length<=100000->x.1.fr.length<=1000000/\x.1.keys.length<=1000000/\(∀ z∈x.1.fr,z.length<=100000)/\(∀ z∈x.1.keys,z.length<=100000):=fun hd h=>by
   have h1:(Qam x.1.fr).length<=100000:=Nat.le_trans (QbB (by simp)) h;have h2:(Qam x.1.keys).length<=100000:=Nat.le_trans (QbB (by simp)) h;obtain⟨a1,a2⟩:=Qf8 x.1.fr;obtain⟨b1,b2⟩:=Qf8 x.1.keys;exact⟨by omega,by omega,fun z hz=>Nat.le_trans (a1 z hz) h1,fun z hz=>Nat.le_trans (b1 z hz) h2⟩
  have ai:∀(hd:L8) (u:Value) (jump:Int) (b:Bool),trX (fun k=>k<B) (TestV n) x.2 W u->x.2≠[]->(Qbg hd (x.2.map (Qay n))).length<=100000->(Qdb (Qb7 n) jump b x.2 cs).length<=1000000->∃ a m c,u=.slice a m c/\∀ W2,Below B W W2->CC W2 B cb cs->Calls Tryz.prog 274 #[.pointer (some ⟨cb,0,none⟩),.slice a m c,.int .i64 jump,.bool b] W2 (Qdy B cb (Qdb (Qb7 n) jump b x.2 cs) W2):=fun hd u jump b hu ad hlt hlg=>by
   obtain⟨g,c,rfl,hg,hx⟩:=hu;refine⟨_,_,_,rfl,fun W2 hW2 hC2=>?_⟩
   have ab:x.2.length<=1000000:=by
    have h1:=QfV (x.2.map (Qay n));rw[List.length_map]at h1;unfold Qbg at hlt;simp only[List.length_append]at hlt;omega
   refine Qqq (Qb7 n) jump b x.2 B cb g c cs W2 hC2 ad hg ab (Qi1 n) hlg (fun j hj=>?_);obtain⟨uj,ak,ao⟩:=hx j hj;have ac:x.2[j]∈x.2:=List.getElem_mem hj;obtain⟨ty,y,rfl,ag⟩:=aj _ ac uj ao (Nat.le_trans (Qh9 (hw:=hd) (List.mem_map_of_mem ac)) hlt);exact⟨ty,y,by rw[hW2.cell (p:=⟨g,j,none⟩) hg];exact ak,ag.below hW2⟩
  unfold Qei at h
  split at h
  ·rename_i e;obtain⟨h2,rfl⟩:=h;have et:Qa1 (Qb7 n) x.1 x.2 cs=cs++[pushI true]:=by unfold Qa1;rw[e];rfl
   rw[et]at hl ⊢;exact Qkd QfB _ true B cb cs W hCC (by simpa using hl)
  ·rename_i e;obtain⟨h2,rfl⟩:=h;have et:Qa1 (Qb7 n) x.1 x.2 cs=cs++[pushI false]:=by unfold Qa1;rw[e];rfl
   rw[et]at hl ⊢;exact Qkd QcD _ false B cb cs W hCC (by simpa using hl)
  ·rename_i e;obtain⟨a,u,h2,rfl,hu⟩:=h;have et:Qa1 (Qb7 n) x.1 x.2 cs=Qb7 n a cs++[insOp 2]:=by unfold Qa1;rw[e,h2];rfl
   have aa:QaB x.1 (x.2.map (Qay n))=phraseL [kNot,Qay n a]:=by unfold QaB;rw[e,h2];rfl
   rw[et]at hl ⊢;rw[aa]at hlen;obtain⟨ty,y,rfl,ag⟩:=aj a (by rw[h2];simp) u hu (Nat.le_trans (QbB (ps:=[kNot,Qay n a]) (by simp)) hlen);exact QuJ kNot _ ty y _ B cb cs W hCC (by simpa using hl) ag
  ·rename_i e;obtain⟨u,rfl,hu,ad⟩:=h;have et:Qa1 (Qb7 n) x.1 x.2 cs=Qdb (Qb7 n) 5 false x.2 cs:=by unfold Qa1;rw[e];rfl
   have aa:QaB x.1 (x.2.map (Qay n))=Qbg QbW (x.2.map (Qay n)):=by unfold QaB;rw[e];rfl
   rw[et]at hl ⊢;rw[aa]at hlen;obtain⟨a,m,c,rfl,hG⟩:=ai QbW u 5 false hu ad hlen hl;exact Qqt QbW _ a m c _ B cb cs W hCC ah hG
  ·rename_i e;obtain⟨u,rfl,hu,ad⟩:=h;have et:Qa1 (Qb7 n) x.1 x.2 cs=Qdb (Qb7 n) 4 true x.2 cs:=by unfold Qa1;rw[e];rfl
   have aa:QaB x.1 (x.2.map (Qay n))=Qbg QbV (x.2.map (Qay n)):=by unfold QaB;rw[e];rfl
   rw[et]at hl ⊢;rw[aa]at hlen;obtain⟨a,m,c,rfl,hG⟩:=ai QbV u 4 true hu ad hlen hl;exact Qpw QbV _ a m c _ B cb cs W hCC ah hG
  ·rename_i e;obtain⟨h2,u,rfl,hu⟩:=h;have et:Qa1 (Qb7 n) x.1 x.2 cs=cs++[Qb2 6 x.1]:=by unfold Qa1;rw[e];rfl
   have aa:QaB x.1 (x.2.map (Qay n))=Qbd QbX x.1:=by unfold QaB;rw[e];rfl
   rw[et]at hl ⊢;rw[aa]at hlen;obtain⟨a1,a2,a3,a4⟩:=ae _ hlen;exact Qop _ QbX x.1 u B cb cs W hCC (by simpa using hl) hu a1 a2 a3 a4
  ·rename_i e;obtain⟨h2,u,rfl,hu⟩:=h;have et:Qa1 (Qb7 n) x.1 x.2 cs=cs++[Qb2 7 x.1]:=by unfold Qa1;rw[e];rfl
   have aa:QaB x.1 (x.2.map (Qay n))=Qbd QaL x.1:=by unfold QaB;rw[e];rfl
   rw[et]at hl ⊢;rw[aa]at hlen;obtain⟨a1,a2,a3,a4⟩:=ae _ hlen;exact QkS _ QaL x.1 u B cb cs W hCC (by simpa using hl) hu a1 a2 a3 a4
  ·rename_i e;obtain⟨h2,u,rfl,hu⟩:=h;have et:Qa1 (Qb7 n) x.1 x.2 cs=cs++[Qb2 8 x.1]:=by unfold Qa1;rw[e];rfl
   have aa:QaB x.1 (x.2.map (Qay n))=Qbd Qbx x.1:=by unfold QaB;rw[e];rfl
   rw[et]at hl ⊢;rw[aa]at hlen;obtain⟨a1,a2,a3,a4⟩:=ae _ hlen;exact Qnf _ Qbx x.1 u B cb cs W hCC (by simpa using hl) hu a1 a2 a3 a4
  ·rename_i e;obtain⟨h2,u,rfl,hu⟩:=h;have et:Qa1 (Qb7 n) x.1 x.2 cs=cs++[⟨9,0,0,false,x.1.fr,[],0⟩]:=by unfold Qa1;rw[e];rfl
   have aa:QaB x.1 (x.2.map (Qay n))=phraseL [QbK,Qam x.1.fr]:=by unfold QaB;rw[e];rfl
   rw[et]at hl ⊢;rw[aa]at hlen;have h1:(Qam x.1.fr).length<=100000:=Nat.le_trans (QbB (ps:=[QbK,Qam x.1.fr]) (by simp)) hlen;obtain⟨a1,a2⟩:=Qf8 x.1.fr;exact Qnt _ QbK _ x.1.fr u B cb cs W hCC (by simpa using hl) hu (by omega) (fun z hz=>Nat.le_trans (a1 z hz) h1)
  ·rename_i h0 h1 h2 h3 h4 h5 h6 h7 h8;obtain⟨_,rfl⟩:=h
   have e:x.1.kind=9:=by
    have a0:x.1.kind≠0:=h0;have a1:x.1.kind≠1:=h1;have a2:x.1.kind≠2:=h2;have a3:x.1.kind≠3:=h3;have a4:x.1.kind≠4:=h4;have a5:x.1.kind≠5:=h5;have a6:x.1.kind≠6:=h6;have a7:x.1.kind≠7:=h7;have a8:x.1.kind≠8:=h8;have:=hw.kind;omega
   have et:Qa1 (Qb7 n) x.1 x.2 cs=cs++[⟨10,x.1.num,x.1.tag,false,[],[],0⟩]:=by unfold Qa1;rw[e];rfl
   rw[et]at hl ⊢;exact QrO Qd5 _ x.1.tag x.1.num B cb cs W hCC (by simpa using hl) hw.num
end
section
open Go.RowKit
attribute [local go_sem ↓] Go.wp_at_zero Go.wp_at_succ
theorem QsF(hw:L8)(p:Nat)(arg:L8)(B cb:Nat)(cs:List Ins)(w:World)(h:CC w B cb cs)(hl:cs.length+1<=1000000) :
 Calls Tryz.prog 176 #[.pointer (some ⟨cb,0,none⟩),.iface 269 (.agg #[.string (Qaf hw),.int .i64 p,.int .i64 1,.string (Qaf arg)])] w (Qdy B cb (cs++[Qgx 1 p []]) w):=by
 have yy:=Tryz.yesAct;have H:=Qab h;have HL:=Qab hl;have HC0:Hid (∀ o,CC (w.alloc o) B cb cs):=fun o=>h.alloc o
 have ab:∀ o,Below w.heap.size w (w.alloc o):=fun o=>(Below.refl _ _).alloc (Nat.le_refl _) o
 have af:=Qab ab;clear h hl ab;go_enter func176,ntmps176;go_wp2_with (first|(go_at_call 217;refine(QpY hw p arg _).mono ?_;rintro e w1 ⟨rfl,ac⟩;have aa:=Qab ((af.o _).trans (ac.mono (by simp)));have ag:=Qab (H.o.below aa.o);clear ac;unfold QdI;skip)|(go_at_call 216;refine(QcB B cb cs (Qgx 1 p []) _ _ w1 ag.o (Qdo _ _ rfl rfl (by show(-9223372036854775808:Int)<=0;decide) (by show(0:Int)<=9223372036854775807;decide)) HL.o).mono ?_;rintro e w2 ⟨rfl,ad,ae⟩;have ah:=Qab ad;have ai:=Qab ((Fr.of_below aa.o).trans ae);clear ad ae;skip));go_end0;exact⟨rfl,ah.o,ai.o⟩
theorem QjO(hw:L8)(p k:Nat)(arg:L8)(B cb:Nat)(cs:List Ins)(w:World)(h:CC w B cb cs)(hl:cs.length+1<=1000000)(hk:k≠1)(ha:arg.length<=100000) :
 Calls Tryz.prog 176 #[.pointer (some ⟨cb,0,none⟩),.iface 269 (.agg #[.string (Qaf hw),.int .i64 p,.int .i64 k,.string (Qaf arg)])] w (Qdy B cb (cs++[Qgx k p [arg]]) w):=by
 have yy:=Tryz.yesAct;have H:=Qab h;have HL:=Qab hl;have HC0:Hid (∀ o,CC (w.alloc o) B cb cs):=fun o=>h.alloc o
 have ab:∀ o,Below w.heap.size w (w.alloc o):=fun o=>(Below.refl _ _).alloc (Nat.le_refl _) o
 have ag:=Qab ab;clear h hl ab;go_enter func176,ntmps176;go_wp2_with (first|(go_at_call 217;refine(QnX hw p k arg _ hk).mono ?_;rintro e w1 ⟨g,rfl,af,ac⟩;have aa:=Qab ((ag.o _).trans (ac.mono (by simp)));have ah:=Qab (H.o.below aa.o);have ak:=Qab af;clear ac af;unfold QdI;skip)|(go_at_call 216;refine(QcB B cb cs (Qgx k p [arg]) _ _ w1 ah.o ⟨ak.o,Or.inl ⟨rfl,rfl⟩,(fun z hz=>(by rw[List.mem_singleton.1 hz];exact ha)),(fun z hz=>nomatch hz),(by show 1<=1000000;decide),Nat.zero_le _,(by show(-9223372036854775808:Int)<=0;decide),(by show(0:Int)<=9223372036854775807;decide)⟩ HL.o).mono ?_;rintro e w2 ⟨rfl,ad,ae⟩;have ai:=Qab ad;have aj:=Qab ((Fr.of_below aa.o).trans ae);clear ad ae;skip));go_end0;exact⟨rfl,ai.o,aj.o⟩
theorem Qvv(hw:L8)(p:Nat)(a ea:Option Addr)(n c en ec:Nat)(aa:Bool)(ds:List Ins)(B cb:Nat)(cs:List Ins)(w:World)(h:CC w B cb cs)(hl:B<=w.heap.size)(ho:∀ W,Below B w W->CC W B cb cs->Calls Tryz.prog 218 #[.pointer (some ⟨cb,0,none⟩),.agg #[.string (Qaf hw),.int .i64 p,.slice a n c,.bool aa,.slice ea en ec]] W (Qdy B cb ds W)) :
 Calls Tryz.prog 176 #[.pointer (some ⟨cb,0,none⟩),.iface 261 (.agg #[.string (Qaf hw),.int .i64 p,.slice a n c,.bool aa,.slice ea en ec])] w (Qdy B cb ds w):=by
 have HO:=Qab ho;have af:Hid (∀ o,Below B w (w.alloc o)):=fun o=>(Below.refl _ _).alloc hl o
 clear ho;have n0:=Tryz.noAct;have n1:=Tryz.noSet;have n2:=Tryz.noDiscard;have n3:=Tryz.noStop;have yy:=Tryz.yesIf;have H:=Qab h;have HL:=Qab hl;have ag:Hid (∀ o,CC (w.alloc o) B cb cs):=fun o=>h.alloc o
 have ab:∀ o,Below w.heap.size w (w.alloc o):=fun o=>(Below.refl _ _).alloc (Nat.le_refl _) o
 have ae:=Qab ab;clear h hl ab;go_enter func176,ntmps176;go_wp2_with (first|(go_at_call 218;refine(HO.o _ (af.o _) (ag.o _)).mono ?_;rintro e w1 ⟨rfl,ac,ad⟩;have ah:=Qab ac;have ai:=Qab ((Fr.of_below (ae.o _)).trans ad);clear ac ad;skip));go_end0;exact⟨rfl,ah.o,ai.o⟩
end
section
open Go.RowKit
theorem Qqa(B cb:Nat)(w:World):SubC 120 B cb w (.slice none 0 0) (fun cs=>cs):=fun W cs hW hCC hl=>by
 have aa:=Qab hCC;clear hCC;go_enter func120,ntmps120;go_wp2_with fail;refine wp_loop_rounds 1 ?_;rw[rounds_succ];go_wp2;go_end0;exact⟨rfl,aa.o,Fr.refl _ _⟩
theorem QqA{α:Type}(sub:α->List Ins->List Ins)(ts:List α)(cs:List Ins)(k:Nat)(h:k<ts.length):blockC sub (ts.take (k+1)) cs=sub ts[k] (blockC sub (ts.take k) cs):=by
 unfold blockC;rw[List.take_add_one,List.getElem?_eq_getElem h,List.foldl_append];rfl
theorem QpB{α:Type}{sub:α->List Ins->List Ins}(hm:∀ t cs,cs.length<=(sub t cs).length)(ts:List α)(cs:List Ins)(k:Nat):(blockC sub (ts.take k) cs).length<=(blockC sub ts cs).length:=by
 have:=Qdr hm (ts.drop k) (blockC sub (ts.take k) cs);unfold blockC at this ⊢;rw[<-List.foldl_append,List.take_append_drop]at this;exact this
theorem QoT{α:Type}(sub:α->List Ins->List Ins)(ts:List α)(B cb g c:Nat)(w:World)(ae:g<B)(htl:ts.length<=1000000)
 (hm:∀ t cs,cs.length<=(sub t cs).length)
 (hc:∀ j (hj:j<ts.length),∃ ty y,w.cell? ⟨g,j,none⟩=some (.iface ty y)/\SubC 176 B cb w (.iface ty y) (sub ts[j])) :
 SubC 120 B cb w (.slice (some ⟨g,0,none⟩) ts.length c) (blockC sub ts):=fun W cs hW hCC hl=>by
 have HL:=Qab hl;have HC:=Qab hc;have HM:=Qab hm;have HW:=Qab hW;have H:=Qab hCC;clear hc hm hCC hl hW;go_enter func120,ntmps120;go_wp2_with fail
 go_loopw [5,8] (fun _ i wr=>∃(k:Nat) (r:List Ins),k<=ts.length/\i=.int .i64 (k:Int)/\r=blockC sub (ts.take k) cs/\CC wr B cb r/\Fr (PCo B) W wr) (fun _ i _=>ts.length - (intOf i).toNat)
 case atStart=>exact⟨0,_,Nat.zero_le _,by go_num,rfl,H.o,Fr.refl _ _⟩
 case round=>
  obtain⟨k,r,hk,rfl,hr,hCC,hF⟩:=hrel;have aa:Below B W wr:=hF.co H.o;by_cases hlt:k<ts.length
  ·obtain⟨ty,y,ac,ad⟩:=HC.o k hlt
   have hck:wr.cell? ⟨g,k,none⟩=some (.iface ty y):=by
    rw[(HW.o.trans aa).cell (p:=⟨g,k,none⟩) ae];exact ac
   have hS:=QqA sub ts cs k hlt;have ab:=QpB HM.o ts cs (k+1);rw[hS,<-hr]at ab;rw[<-hr]at hS;have HS:=Qab hS;have HLA:=Qab (Nat.le_trans ab HL.o);have HTY:=Qab ad;have HCC:=Qab hCC;have HF:=Qab hF;have HBe:=Qab (HW.o.trans aa);clear hCC hF aa ac ad ab hr hS
   go_wp2_with (first
    | (go_at_call 176;refine (HTY.o wr r HBe.o HCC.o HLA.o).mono ?_;rintro e w1 ⟨rfl,hc1,hf1⟩;have HC1:=Qab hc1;have HF1:=Qab (HF.o.trans hf1);clear hc1 hf1;skip))
   go_roundw
   case rel=>exact⟨k+1,_,by omega,by go_num,rfl,by rw[HS.o];exact HC1.o,HF1.o⟩
   case measure=>simp[intOf];omega
  ·have af:k=ts.length:=by omega
   subst af;rw[List.take_length]at hr;subst hr;have HCC:=Qab hCC;have HF:=Qab hF;clear hCC hF aa;go_wp2;go_end0;exact⟨rfl,HCC.o,HF.o⟩
end
end Go.Proofs.YtgnkjijocdmniaaGreatDoor
