import Derived.Test.YtbiclelojbfnbaaGreatDoorZCTestN
import Derived.Test.YtbiclelojbfnbaaGreatDoorZPlainLen
namespace Go.Proofs.YtbiclelojbfnbaaGreatDoor
set_option linter.unusedVariables false
set_option linter.unusedSimpArgs false
set_option maxRecDepth 100000
set_option maxHeartbeats 4000000
section
open Go.RowKit
attribute [local go_sem ↓] Go.wp_at_zero Go.wp_at_succ
theorem QlQ (X:Nat→Prop) (hw:List UInt8) (p:Nat) (xs:List (List UInt8)) (u:Value) (B cb:Nat) (cs:List Ins) (w:World) (h:CC w B cb cs) (hl:cs.length+1≤1000000) (hm:slX X xs w u) (h1:xs.length≤1000000) (h3:∀ z∈xs,z.length≤100000) :
 Calls Tryz.prog 279 #[.pointer (some ⟨cb,0,none⟩),.iface 380 (.agg #[.string (Qad hw),.int .i64 p,u])] w (Qdq B cb (cs++[⟨9,0,0,false,xs,[],0⟩]) w):=by
 have HF:=Qab hm
 obtain ⟨gf,cf,rfl,hx1⟩:=hm
 have HBD:=Qab (And.intro h1 h3)
 clear hx1 h1 h3
 have n0:=Tryz.noTruth
 have n1:=Tryz.noNot
 have n2:=Tryz.noAllOf
 have n3:=Tryz.noAnyOf
 have n4:=Tryz.noHeader
 have n5:=Tryz.noEnvelope
 have n6:=Tryz.noString
 have yy:=Tryz.yesExists
 have H:=Qab h
 have HL:=Qab hl
 have hB0:∀ o,Below w.heap.size w (w.alloc o):=fun o=>(Below.refl _ _).alloc (Nat.le_refl _) o
 have HB0:=Qab hB0
 clear h hl hB0
 go_enter Tryz.func279,Tryz.ntmps279
 go_wp2_with (first | (go_at_call 337;refine (Qff X xs _ _ (HF.out.keep (fun k _ hk=>(HB0.out _).block k hk)) HBD.out.1).mono ?_;rintro e w1 ⟨a1,k1,rfl,hs1,hb1⟩;have HB1:=Qab ((HB0.out _).trans (hb1.mono (by simp)));have HC1:=Qab (H.out.below HB1.out);have HS1:=Qab hs1;clear hb1 hs1;skip) | (go_at_call 201;refine (Qcv B cb cs ⟨9,0,0,false,xs,[],0⟩ _ _ w1 HC1.out ⟨HS1.out,Or.inl ⟨rfl,rfl⟩,HBD.out.2,(fun z hz=>nomatch hz),HBD.out.1,Nat.zero_le _,(by show (-9223372036854775808:Int)≤0;decide),(by show (0:Int)≤9223372036854775807;decide)⟩ HL.out).mono ?_;rintro e w2 ⟨rfl,hc2,hf2⟩;have HC2:=Qab hc2;have HF2:=Qab ((Fr.of_below HB1.out).trans hf2);clear hc2 hf2;skip))
 go_end0
 exact ⟨rfl,HC2.out,HF2.out⟩
end
section
open Go.RowKit
attribute [local go_sem ↓] Go.wp_at_zero Go.wp_at_succ
theorem QpO (hw:List UInt8) (p tag num:Nat) (B cb:Nat) (cs:List Ins) (w:World) (h:CC w B cb cs) (hl:cs.length+1≤1000000) (hn:num≤2147483647) :
 Calls Tryz.prog 279 #[.pointer (some ⟨cb,0,none⟩),.iface 382 (.agg #[.string (Qad hw),.int .i64 p,.int .i64 tag,.int .i64 num])] w (Qdq B cb (cs++[⟨10,num,tag,false,[],[],0⟩]) w):=by
 have HN:Hid ((-9223372036854775808:Int)≤(num:Int)∧(num:Int)≤9223372036854775807):=by show _∧_;omega
 have HC0:Hid (∀ o,CC (w.alloc o) B cb cs):=fun o=>h.alloc o
 have n0:=Tryz.noTruth
 have n1:=Tryz.noNot
 have n2:=Tryz.noAllOf
 have n3:=Tryz.noAnyOf
 have n4:=Tryz.noHeader
 have n5:=Tryz.noEnvelope
 have n6:=Tryz.noString
 have n7:=Tryz.noExists
 have yy:=Tryz.yesSize
 have H:=Qab h
 have HL:=Qab hl
 have hB0:∀ o,Below w.heap.size w (w.alloc o):=fun o=>(Below.refl _ _).alloc (Nat.le_refl _) o
 have HB0:=Qab hB0
 clear h hl hB0
 go_enter Tryz.func279,Tryz.ntmps279
 go_wp2_with (first | (go_at_call 201;refine (Qld _ B cb cs ⟨10,num,tag,false,[],[],0⟩ _ _ _ (by simp) (HC0.out _) (Qdi _ _ rfl rfl HN.out.1 HN.out.2) HL.out).mono ?_;rintro e w2 ⟨rfl,hc2,hf2⟩;have HC2:=Qab hc2;have HF2:=Qab ((Fr.of_below (HB0.out _)).trans hf2);clear hc2 hf2;skip))
 go_end0
 exact ⟨rfl,HC2.out,HF2.out⟩
end
section
open Go.RowKit
attribute [local go_sem ↓] Go.wp_at_zero Go.wp_at_succ
theorem Qnt (hw:List UInt8) (p:Nat) (a:Option Addr) (n c:Nat) (ds:List Ins) (B cb:Nat) (cs:List Ins) (w:World) (h:CC w B cb cs) (hl:B≤w.heap.size) (ho:∀ W,Below B w W→CC W B cb cs→Calls Tryz.prog 335 #[.pointer (some ⟨cb,0,none⟩),.slice a n c,.int .i64 5,.bool false] W (Qdq B cb ds W)) :
 Calls Tryz.prog 279 #[.pointer (some ⟨cb,0,none⟩),.iface 274 (.agg #[.string (Qad hw),.int .i64 p,.slice a n c])] w (Qdq B cb ds w):=by
 have HO:=Qab ho
 have HBB:Hid (∀ o,Below B w (w.alloc o)):=fun o=>(Below.refl _ _).alloc (Nat.le_of_lt (Nat.lt_of_le_of_lt h.lt.1 h.lt.2)) o
 clear ho
 have n0:=Tryz.noTruth
 have n1:=Tryz.noNot
 have yy:=Tryz.yesAllOf
 have H:=Qab h
 have HL:=Qab hl
 have hB0:∀ o,Below w.heap.size w (w.alloc o):=fun o=>(Below.refl _ _).alloc (Nat.le_refl _) o
 have HB0:=Qab hB0
 clear h hl hB0
 go_enter Tryz.func279,Tryz.ntmps279
 go_wp2_with (first | (go_at_call 335;refine (HO.out _ (HBB.out _) (H.out.alloc _)).mono ?_;rintro e w1 ⟨rfl,hc1,hf1⟩;have HC2:=Qab hc1;have HF2:=Qab ((Fr.of_below (HB0.out _)).trans hf1);clear hc1 hf1;skip))
 go_end0
 exact ⟨rfl,HC2.out,HF2.out⟩
theorem Qn9 (hw:List UInt8) (p:Nat) (a:Option Addr) (n c:Nat) (ds:List Ins) (B cb:Nat) (cs:List Ins) (w:World) (h:CC w B cb cs) (hl:B≤w.heap.size) (ho:∀ W,Below B w W→CC W B cb cs→Calls Tryz.prog 335 #[.pointer (some ⟨cb,0,none⟩),.slice a n c,.int .i64 4,.bool true] W (Qdq B cb ds W)) :
 Calls Tryz.prog 279 #[.pointer (some ⟨cb,0,none⟩),.iface 275 (.agg #[.string (Qad hw),.int .i64 p,.slice a n c])] w (Qdq B cb ds w):=by
 have HO:=Qab ho
 have HBB:Hid (∀ o,Below B w (w.alloc o)):=fun o=>(Below.refl _ _).alloc (Nat.le_of_lt (Nat.lt_of_le_of_lt h.lt.1 h.lt.2)) o
 clear ho
 have n0:=Tryz.noTruth
 have n1:=Tryz.noNot
 have n2:=Tryz.noAllOf
 have yy:=Tryz.yesAnyOf
 have H:=Qab h
 have HL:=Qab hl
 have hB0:∀ o,Below w.heap.size w (w.alloc o):=fun o=>(Below.refl _ _).alloc (Nat.le_refl _) o
 have HB0:=Qab hB0
 clear h hl hB0
 go_enter Tryz.func279,Tryz.ntmps279
 go_wp2_with (first | (go_at_call 335;refine (HO.out _ (HBB.out _) (H.out.alloc _)).mono ?_;rintro e w1 ⟨rfl,hc1,hf1⟩;have HC2:=Qab hc1;have HF2:=Qab ((Fr.of_below (HB0.out _)).trans hf1);clear hc1 hf1;skip))
 go_end0
 exact ⟨rfl,HC2.out,HF2.out⟩
end
section
open Go.RowKit
theorem Fr.grownNew {P:Nat→Obj→Prop} {u w w':World} {row:Option Nat} (h:Fr P u w) (hg:w.grownBy w' row) (hr:∀ k,row=some k→u.heap.size≤k):Fr P u w':=
 ⟨hg.os.trans h.os,hg.tape.trans h.tape,hg.output.trans h.output,Nat.le_trans h.size hg.size,fun k o hk hn=>by
  have hk':=h.block k o hk hn
  rw [hg.block k (QaH hk') (fun e=>by have:=hr k e.symm;have:=QaH hk;omega)]
  exact hk'⟩
def QfD (js:List Nat):List Value:=js.map fun j=>.int .i64 ((j:Nat):Int)
theorem Qiz (js:List Nat) (j:Nat):QfD js++[.int .i64 (j:Int)]=QfD (js++[j]):=by simp [QfD]
theorem Tryz.infoIntJ:(Tryz.prog.info? 3).map (fun i=>(i.zero,i.size,i.bytes))=some (some (.int .i64 0),1,8):=by kernel_rfl
theorem QhQ (W:World) (op:Int):Qcg W (QcR op) (.slice none 0 0) (.slice none 0 0):=Qdi W _ rfl rfl (by show (-9223372036854775808:Int)≤0;decide) (by show (0:Int)≤9223372036854775807;decide)
theorem Qpq (W:World) (b:Bool):Qcg W (QcW b) (.slice none 0 0) (.slice none 0 0):=Qdi W _ rfl rfl (by cases b <;> decide) (by cases b <;> decide)
theorem Qt6 (x:Int):∀ u∈[Value.int .i64 x],u.oneCell'=true:=by
 intro u hu
 simp at hu
 subst hu
 rfl
theorem CC.grownInt {w w':World} {B cb base n:Nat} {cs:List Ins} {v:Value} {xs:List Value} (h:CC w B cb cs) (ho:w.ownsRow base 3 1 v n xs) (hg:w.grownBy w' v.ownBlock):CC w' B cb cs:=by
 obtain ⟨cv,ps,e,h⟩:=h
 refine ⟨cv,ps,e,h.fr (P:=fun k o=>∃ cs,o=.cells cs 3) ((Fr.refl _ w).grown hg (fun k o e ho'=>(QbR ho k o e ho').2)) ?_ ?_ ?_⟩
 ·rintro k cs ⟨cs',e⟩;injection e with _ e;exact absurd e (by decide)
 ·rintro k cs ⟨cs',e⟩;injection e with _ e;exact absurd e (by decide)
 ·rintro k cs ⟨cs',e⟩;injection e with _ e;exact absurd e (by decide)
theorem QoQ {w:World} {base:Nat} {v:Value} {js:List Nat} (ho:w.ownsRow base 3 1 v js.length (QfD js)) (hne:js≠[]):∃ gj c kcs,v=.slice (some ⟨gj,0,none⟩) js.length c∧w.heap[gj]?=some (.cells kcs 3)∧∀ k,k < js.length→kcs[k]?=some (.int .i64 ((js.getD k 0:Nat):Int)):=by
 rcases ho.2 with ⟨_,h2⟩ | ⟨g,cap,cur,hv,hg,hb,hc,_,hs,ht⟩
 ·exact absurd (List.eq_nil_of_length_eq_zero h2) hne
 ·refine ⟨g,cap,cur,hv,hb,fun k hk=>?_⟩
  have h4:(QfD js)[k]?=some (.int .i64 ((js.getD k 0:Nat):Int)):=by
   unfold QfD
   rw [List.getElem?_map,List.getElem?_eq_getElem hk,List.getD_eq_getElem?_getD,List.getElem?_eq_getElem hk];rfl
  rw [← ht,List.getElem?_take_of_lt (by omega)] at h4
  rw [← h4];simp
def gTo {α:Type} (sub:α→List Ins→List Ins) (jump:Int) (ts:List α) (cs:List Ins) (k:Nat):List Ins×List Nat:=(ts.take k).foldl (Qea sub jump) (cs,[])
theorem Qlj {α:Type} (sub:α→List Ins→List Ins) (jump:Int) (ts:List α) (cs:List Ins) (k:Nat) (h:k < ts.length):gTo sub jump ts cs (k+1)=Qea sub jump (gTo sub jump ts cs k) ts[k]:=by
 unfold gTo
 rw [List.take_add_one,List.getElem?_eq_getElem h,List.foldl_append]
 rfl
theorem QuG {α:Type} (sub:α→List Ins→List Ins) (jump:Int) (ts:List α) (cs:List Ins) (b:Bool):QcZ sub jump b ts cs=Qdb b (gTo sub jump ts cs ts.length):=by
 unfold QcZ gTo
 rw [List.take_length]
theorem QrB {α:Type} (sub:α→List Ins→List Ins) (jump:Int) (ts:List α) (cs:List Ins):∀ k,k≤ts.length→(gTo sub jump ts cs k).2.length=k
 | 0,_=>rfl
 | k+1,h=>by
  rw [Qlj sub jump ts cs k h]
  have:=QrB sub jump ts cs k (by omega)
  unfold Qea
  simp [this]
theorem Qt5 {α:Type} {sub:α→List Ins→List Ins} (hm:∀ t cs,cs.length≤(sub t cs).length) (jump:Int) (ts:List α) (cs:List Ins):∀ k,k≤ts.length→∀ j∈(gTo sub jump ts cs k).2,j < (gTo sub jump ts cs k).1.length
 | 0,_,j,hj=>by cases hj
 | k+1,h,j,hj=>by
  have ih:=Qt5 hm jump ts cs k (by omega)
  rw [Qlj sub jump ts cs k h] at hj ⊢
  have h1:=hm ts[k] (gTo sub jump ts cs k).1
  unfold Qea at hj ⊢
  simp only [List.mem_append,List.mem_singleton,List.length_append,List.length_cons,List.length_nil] at hj ⊢
  rcases hj with hj | hj
  ·have:=ih j hj;omega
  ·omega
theorem QtD {α:Type} {sub:α→List Ins→List Ins} (hm:∀ t cs,cs.length≤(sub t cs).length) (jump:Int) (ts:List α) (cs:List Ins) (k:Nat):(gTo sub jump ts cs k).1.length≤(gTo sub jump ts cs ts.length).1.length:=by
 unfold gTo
 rw [List.take_length]
 have:=QkX hm jump (ts.drop k) ((ts.take k).foldl (Qea sub jump) (cs,[]))
 rw [← List.foldl_append,List.take_append_drop] at this
 exact this
theorem Qnq {α:Type} (sub:α→List Ins→List Ins) (jump:Int) (settled:Bool) (ts:List α) (B cb g c:Nat) (cs:List Ins) (w:World) (h:CC w B cb cs) (hne:ts≠[]) (hgB:g < B) (htl:ts.length≤1000000)
 (hm:∀ t cs,cs.length≤(sub t cs).length) (hl:(QcZ sub jump settled ts cs).length≤1000000)
 (hc:∀ j (hj:j < ts.length),∃ ty y,w.cell? ⟨g,j,none⟩=some (.iface ty y)∧SubC 279 B cb w (.iface ty y) (sub ts[j])) :
 Calls Tryz.prog 335 #[.pointer (some ⟨cb,0,none⟩),.slice (some ⟨g,0,none⟩) ts.length c,.int .i64 jump,.bool settled] w (Qdq B cb (QcZ sub jump settled ts cs) w):=by
 obtain ⟨i0,hi,hz0,hz1,hz2⟩:=info_parts Tryz.infoIntJ
 have hBw:B≤w.heap.size:=Nat.le_of_lt (Nat.lt_of_le_of_lt h.lt.1 h.lt.2)
 rw [QuG] at hl ⊢
 have HE:Hid (∀ r,r=gTo sub jump ts cs ts.length→Qdb settled r=Qdb settled (gTo sub jump ts cs ts.length)):=fun r e=>by rw [e]
 rw [QdK] at hl
 have HL:=Qab hl
 have HC:=Qab hc
 have HM:=Qab hm
 have H:=Qab h
 clear hc hm h hl
 go_enter Tryz.func335,Tryz.ntmps335
 go_wp2_with fail
 go_loopw [8,10,14] (fun v _ i wr=>∃ (k:Nat) (r:List Ins×List Nat),k≤ts.length∧i=.int .i64 (k:Int)∧r=gTo sub jump ts cs k∧wr.ownsRow w.heap.size 3 1 v r.2.length (QfD r.2)∧CC wr B cb r.1∧Fr (PCo B) w wr) (fun _ _ i _=>ts.length - (intOf i).toNat)
 case atStart=>exact ⟨0,_,Nat.zero_le _,by go_num,rfl,World.ownsRow_nil _ _ _ _,H.out,Fr.refl _ _⟩
 case round=>
  obtain ⟨k,r,hk,rfl,hr,hown,hCC,hF⟩:=hrel
  have hrl:r.2.length=k:=by rw [hr];exact QrB sub jump ts cs k hk
  have hBelow:Below B w wr:=hF.co H.out
  by_cases hlt:k < ts.length
  ·obtain ⟨ty,y,hcy,hty⟩:=HC.out k hlt
   have hck:wr.cell? ⟨g,k,none⟩=some (.iface ty y):=by
    rw [hBelow.cell (p:=⟨g,k,none⟩) hgB]
    exact hcy
   have HS:=Qab (Qlj sub jump ts cs k hlt)
   have hle:=QtD HM.out jump ts cs (k+1)
   rw [HS.out,← hr] at hle
   rw [← hr] at HS
   unfold Qea at hle
   simp only [List.length_append,List.length_cons,List.length_nil] at hle
   have h3:=HL.out
   have HTY:=Qab hty
   obtain ⟨t,ht⟩:∃ t,ts[k]=t:=⟨_,rfl⟩
   rw [ht] at HS HTY hle
   obtain ⟨A,hA⟩:∃ A,sub t r.1=A:=⟨_,rfl⟩
   have HLA:Hid ((sub t r.1).length≤1000000):=by show (sub t r.1).length≤_;omega
   have HLB:Hid (A.length+1≤1000000):=by show _≤_;rw [← hA];omega
   have HSA:Hid (gTo sub jump ts cs (k+1)=(A++[QcR jump],r.2++[A.length])):=by
    show _=_
    rw [HS.out];unfold Qea;rw [hA]
   have HAe:=Qab hA
   have HOW:=Qab hown
   have HCC:=Qab hCC
   have HF:=Qab hF
   have HBe:=Qab hBelow
   obtain ⟨la,lc,hlv⟩:=QaL hown
   subst hlv
   have hrk:r.2.length≤1000000:=by omega
   have hwl:=hF.size
   clear hown hCC hF hBelow hcy hty hle h3 hA ht hr HS hrl HE
   go_wp2_with (first
    | (go_at_call 279;refine (HTY.out wr r.1 HBe.out HCC.out HLA.out).mono ?_;rintro e w1 ⟨rfl,hc1,hf1⟩;rw [HAe.out] at hc1;have HC1:=Qab hc1;have HF1:=Qab (HF.out.trans hf1);have HO1:=Qab (Qbf HOW.out hf1 (fun _ _=>PCo.not (by decide) (by decide)));clear hc1 hf1;skip)
    | (go_at_call 201;refine (Qcv B cb A (QcR jump) _ _ w1 HC1.out (QhQ _ _) HLB.out).mono ?_;rintro e w2 ⟨rfl,hc2,hf2⟩;have HC2:=Qab hc2;have HF2:=Qab (HF1.out.trans hf2);have HO2:=Qab (Qbf HO1.out hf2 (fun _ _=>PCo.not (by decide) (by decide)));have hw2:=HF2.out.size;clear hc2 hf2;skip)
    | (at_builtin;refine wpList_append_own _ rfl _ _ 24 rfl w.heap.size 3 i0 _ 1 8 Tryz.underlying24 hi hz0 hz1 hz2 rfl (by decide) _ _ _ rfl (HO2.out.alloc _) ⟨w2.heap.size,0,none⟩ 1 1 [.int .i64 (A.length:Int)] rfl rfl (cell_one_new _ _ _) (Qt6 _) (by unfold maxLen;omega) (by omega) (by simp;omega) ?_;intro v5 w5 ho5 hg5 _;obtain ⟨a5,k5,hv5⟩:=QaL ho5;subst hv5;have HO5:=Qab ho5;have HG5:=Qab hg5;clear ho5 hg5;skip))
   go_roundw
   case rel=>
    refine ⟨k+1,(A++[QcR jump],r.2++[A.length]),by omega,by go_num,HSA.out.symm,?_,(HC2.out.alloc _).grownInt (HO2.out.alloc _) HG5.out,(HF2.out.alloc _).grownNew HG5.out (fun k hk=>(HO2.out.lt k hk).1)⟩
    show w5.ownsRow w.heap.size 3 1 _ (r.2++[A.length]).length (QfD (r.2++[A.length]))
    rw [List.length_append,← Qiz]
    exact HO5.out
   case measure=>simp [intOf];omega
  ·have hk':k=ts.length:=by omega
   subst hk'
   have hrne:r.2≠[]:=fun e=>hne (List.eq_nil_of_length_eq_zero (by rw [← hrl,e];rfl))
   obtain ⟨gj,cj,kcs,hv,hjb,hjc⟩:=QoQ hown hrne
   subst hv
   have hjlt:∀ j∈r.2,j < r.1.length:=by rw [hr];exact Qt5 HM.out jump ts cs ts.length (Nat.le_refl _)
   have h3:r.1.length+3≤1000000:=by rw [hr];exact HL.out
   have HEND:Hid (Qdb settled (gTo sub jump ts cs ts.length)=landL [r.1.length+1] (landL r.2 (r.1++[QcW (!settled),QcR 3])++[QcW settled])):=by
    show _=_
    rw [← hr];rfl
   obtain ⟨L2,hL2⟩:∃ L2,r.1++[QcW (!settled),QcR 3]=L2:=⟨_,rfl⟩
   have hL2l:L2.length=r.1.length+2:=by rw [← hL2];simp
   obtain ⟨L3,hL3⟩:∃ L3,landL r.2 L2=L3:=⟨_,rfl⟩
   have hL3l:L3.length=r.1.length+2:=by rw [← hL3,Qbt,hL2l]
   obtain ⟨E,hE⟩:∃ E,r.1.length+1=E:=⟨_,rfl⟩
   rw [hL2,hL3,hE] at HEND
   have q1:r.1.length+2≤1000000:=by omega
   have q2:∀ j∈r.2,j < L2.length:=fun j hj=>by have:=hjlt j hj;omega
   have q3:L2.length≤1000000:=by omega
   have q4:r.2.length≤1000000:=by rw [hrl];exact htl
   have q5:L3.length+1≤1000000:=by omega
   have q6:E < (L3++[QcW settled]).length:=by rw [List.length_append,hL3l,← hE];simp
   have q7:(L3++[QcW settled]).length≤1000000:=by rw [List.length_append];exact q5
   have Q:=Qab (And.intro q1 (And.intro q2 (And.intro q3 (And.intro q4 (And.intro q5 (And.intro q6 q7))))))
   have HE2:=Qab hL2
   have HE3:=Qab hL3
   have HEE:=Qab hE
   have HJB:=Qab hjb
   have HJC:=Qab hjc
   have HCC:=Qab hCC
   have HF:=Qab hF
   clear hown hCC hF hBelow hr HE hjb hjc hjlt h3 hL2 hL2l hL3 hL3l hE q1 q2 q3 q4 q5 q6 q7 hrl hlt hk HC HM HL
   have hpp:∀ b:Bool,Qdt (QcW b) (.slice none 0 0) (.slice none 0 0)=.agg #[.int .i64 (QcW b).op,.int .i64 (QcW b).n,.int .i64 (QcW b).tag,.bool (QcW b).oct,.slice none 0 0,.slice none 0 0,.int .i64 (QcW b).at_]:=fun _=>rfl
   have HPP:=Qab hpp
   clear hpp
   go_wp2_with (first
    | (have gg:=HC5;go_at_call 280;refine (Ql2 B cb E _ _ HC5.out Q.out.2.2.2.2.2.1 Q.out.2.2.2.2.2.2).mono ?_;rintro e w6 ⟨rfl,hc6,hf6⟩;have HC6:=Qab hc6;have HF6:=Qab (HF5.out.trans hf6);clear hc6 hf6;skip)
    | (have gg:=HC4;go_at_call 201;refine (Qcv B cb L3 (QcW settled) _ _ _ HC4.out (Qpq _ _) Q.out.2.2.2.2.1).mono ?_;rintro e w5 ⟨rfl,hc5,hf5⟩;have HC5:=Qab hc5;have HF5:=Qab (HF4.out.trans hf5);clear hc5 hf5;skip)
    | (have gg:=HC3;go_at_call 334;refine (QkN settled _).mono ?_;rintro e w4 ⟨rfl,hb4⟩;rw [HPP.out];have HC4:=Qab (HC3.out.below hb4);have HF4:=Qab (HF3.out.trans (Fr.of_below hb4));clear hb4;skip)
    | (have gg:=HC2;go_at_call 280;refine (Qid B cb gj cj r.2 kcs L2 _ HC2.out Q.out.2.1 HJ2.out HJC.out Q.out.2.2.1 Q.out.2.2.2.1).mono ?_;rintro e w3 ⟨rfl,hc3,hf3⟩;rw [HE3.out] at hc3;have HC3:=Qab hc3;have HF3:=Qab (HF2.out.trans hf3);clear hc3 hf3;skip)
    | (have gg:=HC1;go_at_call 201;refine (QtH B cb r.1 (QcW (!settled)) (QcR 3) _ _ _ _ _ HC1.out (Qpq _ _) (QhQ _ _) Q.out.1).mono ?_;rintro e w2 ⟨he,hc2,hf2⟩;rw [HEE.out] at he;subst he;rw [HE2.out] at hc2;have HC2:=Qab hc2;have HF2:=Qab (HF1.out.trans hf2);have HJ2:=Qab (hf2.block _ _ HJ1.out (PCo.not (by decide) (by decide)));clear hc2 hf2;skip)
    | (go_at_call 334;refine (QkN (!settled) _).mono ?_;rintro e w1 ⟨rfl,hb1⟩;rw [HPP.out];have HC1:=Qab (HCC.out.below hb1);have HF1:=Qab (HF.out.trans (Fr.of_below hb1));have HJ1:=Qab (Qal HJB.out hb1);clear hb1;skip))
   go_end0
   rw [HEND.out]
   exact ⟨rfl,HC6.out,HF6.out⟩
end
section
open Go.RowKit
theorem QgM (z:List UInt8):z.length≤(quotedL z).length:=by
 unfold quotedL
 rw [List.length_cons,List.length_append]
 have:z.length≤(z.flatMap QbI).length:=by
  induction z with
  | nil=>simp
  | cons c r ih=>
   rw [List.flatMap_cons,List.length_append,List.length_cons]
   have:1≤(QbI c).length:=by unfold QbI;split <;> simp
   omega
 omega
theorem Qfk (xs:List (List UInt8)):(∀ z∈xs,z.length≤(Qak xs).length)∧xs.length≤(Qak xs).length+1:=by
 match xs with
 | []=>exact ⟨fun z hz=>(by cases hz),Nat.zero_le _⟩
 | [x]=>exact ⟨fun z hz=>(by rw [List.mem_singleton.1 hz];exact QgM x),by simp⟩
 | x :: y :: r=>
  have e:(Qak (x :: y :: r)).length=(Qcr [44,32] ((x :: y :: r).map quotedL)).length+2:=by unfold Qak;simp
  refine ⟨fun z hz=>?_,?_⟩
  ·have h1:=Qgo ((x :: y :: r).map quotedL) (quotedL z) (List.mem_map_of_mem hz)
   have h2:=QgM z
   omega
  ·have h1:=Qfs ((x :: y :: r).map quotedL)
   rw [List.length_map] at h1
   omega
theorem Qka {req:List (List UInt8)} (B cb:Nat):∀ (n:Nat) (x:Qbx n) (w:World) (v:Value),TestV n (fun k=>k < B) x w v→Qq2 (WfT req) n x→(Qaj n x).length≤100000→SubC 279 B cb w v (Qcf n x)
 | 0,x,w,v,h,ha,_=>ha.elim
 | n+1,x,w,v,hv0,ha,hlen=>fun W cs hW hCC hl=>by
  obtain ⟨hw,hsub⟩:=ha
  have h:Qd6 (fun k=>k < B) (TestV n) x W v:=(Qbl (n+1)).keep _ _ _ _ _ hv0 (fun k hk _=>hW.block k hk)
  have hlen:(testNode x.1 (x.2.map (Qaj n))).length≤100000:=hlen
  have hl:(QaZ (Qcf n) x.1 x.2 cs).length≤1000000:=hl
  show Calls Tryz.prog 279 #[.pointer (some ⟨cb,0,none⟩),v] W (Qdq B cb (QaZ (Qcf n) x.1 x.2 cs) W)
  have hBW:B≤W.heap.size:=Nat.le_of_lt (Nat.lt_of_le_of_lt hCC.lt.1 hCC.lt.2)
  have hok:∀ a∈x.2,∀ u,TestV n (fun k=>k < B) a W u→(Qaj n a).length≤100000→∃ ty y,u=.iface ty y∧SubC 279 B cb W (.iface ty y) (Qcf n a):=fun a ha u hu hl=>by
   obtain ⟨ty,y,rfl⟩:=(Qbl n).form _ _ _ _ hu
   exact ⟨ty,y,rfl,Qka B cb n a W _ hu (hsub a ha) hl⟩
  have hmt:∀ hd,(Qa9 hd x.1).length≤100000→x.1.fr.length≤1000000∧x.1.keys.length≤1000000∧(∀ z∈x.1.fr,z.length≤100000)∧(∀ z∈x.1.keys,z.length≤100000):=fun hd h=>by
   have h1:(Qak x.1.fr).length≤100000:=Nat.le_trans (QbA (by simp)) h
   have h2:(Qak x.1.keys).length≤100000:=Nat.le_trans (QbA (by simp)) h
   obtain ⟨a1,a2⟩:=Qfk x.1.fr
   obtain ⟨b1,b2⟩:=Qfk x.1.keys
   exact ⟨by omega,by omega,fun z hz=>Nat.le_trans (a1 z hz) h1,fun z hz=>Nat.le_trans (b1 z hz) h2⟩
  have hgr:∀ (hd:List UInt8) (u:Value) (jump:Int) (b:Bool),trX (fun k=>k < B) (TestV n) x.2 W u→x.2≠[]→(Qbd hd (x.2.map (Qaj n))).length≤100000→(QcZ (Qcf n) jump b x.2 cs).length≤1000000→∃ a m c,u=.slice a m c∧∀ W2,Below B W W2→CC W2 B cb cs→Calls Tryz.prog 335 #[.pointer (some ⟨cb,0,none⟩),.slice a m c,.int .i64 jump,.bool b] W2 (Qdq B cb (QcZ (Qcf n) jump b x.2 cs) W2):=fun hd u jump b hu hne hlt hlg=>by
   obtain ⟨g,c,rfl,hg,hx⟩:=hu
   refine ⟨_,_,_,rfl,fun W2 hW2 hC2=>?_⟩
   have hcount:x.2.length≤1000000:=by
    have h1:=Qfs (x.2.map (Qaj n))
    rw [List.length_map] at h1
    unfold Qbd at hlt
    simp only [List.length_append] at hlt
    omega
   refine Qnq (Qcf n) jump b x.2 B cb g c cs W2 hC2 hne hg hcount (QhZ n) hlg (fun j hj=>?_)
   obtain ⟨uj,hcj,hvj⟩:=hx j hj
   have hmem:x.2[j]∈x.2:=List.getElem_mem hj
   obtain ⟨ty,y,rfl,hty⟩:=hok _ hmem uj hvj (Nat.le_trans (Qhw (hw:=hd) (List.mem_map_of_mem hmem)) hlt)
   exact ⟨ty,y,by rw [hW2.cell (p:=⟨g,j,none⟩) hg];exact hcj,hty.below hW2⟩
  unfold Qd6 at h
  split at h
  ·rename_i e
   obtain ⟨h2,rfl⟩:=h
   have et:QaZ (Qcf n) x.1 x.2 cs=cs++[QcW true]:=by unfold QaZ;rw [e];rfl
   rw [et] at hl ⊢
   exact QiD Qe5 _ true B cb cs W hCC (by simpa using hl)
  ·rename_i e
   obtain ⟨h2,rfl⟩:=h
   have et:QaZ (Qcf n) x.1 x.2 cs=cs++[QcW false]:=by unfold QaZ;rw [e];rfl
   rw [et] at hl ⊢
   exact QiD Qdf _ false B cb cs W hCC (by simpa using hl)
  ·rename_i e
   obtain ⟨a,u,h2,rfl,hu⟩:=h
   have et:QaZ (Qcf n) x.1 x.2 cs=Qcf n a cs++[QcR 2]:=by unfold QaZ;rw [e,h2];rfl
   have ett:testNode x.1 (x.2.map (Qaj n))=phraseL [kNot,Qaj n a]:=by unfold testNode;rw [e,h2];rfl
   rw [et] at hl ⊢
   rw [ett] at hlen
   obtain ⟨ty,y,rfl,hty⟩:=hok a (by rw [h2];simp) u hu (Nat.le_trans (QbA (ps:=[kNot,Qaj n a]) (by simp)) hlen)
   exact Qrj kNot _ ty y _ B cb cs W hCC (by simpa using hl) hty
  ·rename_i e
   obtain ⟨u,rfl,hu,hne⟩:=h
   have et:QaZ (Qcf n) x.1 x.2 cs=QcZ (Qcf n) 5 false x.2 cs:=by unfold QaZ;rw [e];rfl
   have ett:testNode x.1 (x.2.map (Qaj n))=Qbd Qcy (x.2.map (Qaj n)):=by unfold testNode;rw [e];rfl
   rw [et] at hl ⊢
   rw [ett] at hlen
   obtain ⟨a,m,c,rfl,hG⟩:=hgr Qcy u 5 false hu hne hlen hl
   exact Qnt Qcy _ a m c _ B cb cs W hCC hBW hG
  ·rename_i e
   obtain ⟨u,rfl,hu,hne⟩:=h
   have et:QaZ (Qcf n) x.1 x.2 cs=QcZ (Qcf n) 4 true x.2 cs:=by unfold QaZ;rw [e];rfl
   have ett:testNode x.1 (x.2.map (Qaj n))=Qbd QcA (x.2.map (Qaj n)):=by unfold testNode;rw [e];rfl
   rw [et] at hl ⊢
   rw [ett] at hlen
   obtain ⟨a,m,c,rfl,hG⟩:=hgr QcA u 4 true hu hne hlen hl
   exact Qn9 QcA _ a m c _ B cb cs W hCC hBW hG
  ·rename_i e
   obtain ⟨h2,u,rfl,hu⟩:=h
   have et:QaZ (Qcf n) x.1 x.2 cs=cs++[QcF 6 x.1]:=by unfold QaZ;rw [e];rfl
   have ett:testNode x.1 (x.2.map (Qaj n))=Qa9 QbT x.1:=by unfold testNode;rw [e];rfl
   rw [et] at hl ⊢
   rw [ett] at hlen
   obtain ⟨a1,a2,a3,a4⟩:=hmt _ hlen
   exact Qmv _ QbT x.1 u B cb cs W hCC (by simpa using hl) hu a1 a2 a3 a4
  ·rename_i e
   obtain ⟨h2,u,rfl,hu⟩:=h
   have et:QaZ (Qcf n) x.1 x.2 cs=cs++[QcF 7 x.1]:=by unfold QaZ;rw [e];rfl
   have ett:testNode x.1 (x.2.map (Qaj n))=Qa9 QaM x.1:=by unfold testNode;rw [e];rfl
   rw [et] at hl ⊢
   rw [ett] at hlen
   obtain ⟨a1,a2,a3,a4⟩:=hmt _ hlen
   exact Qjf _ QaM x.1 u B cb cs W hCC (by simpa using hl) hu a1 a2 a3 a4
  ·rename_i e
   obtain ⟨h2,u,rfl,hu⟩:=h
   have et:QaZ (Qcf n) x.1 x.2 cs=cs++[QcF 8 x.1]:=by unfold QaZ;rw [e];rfl
   have ett:testNode x.1 (x.2.map (Qaj n))=Qa9 Qby x.1:=by unfold testNode;rw [e];rfl
   rw [et] at hl ⊢
   rw [ett] at hlen
   obtain ⟨a1,a2,a3,a4⟩:=hmt _ hlen
   exact QmW _ Qby x.1 u B cb cs W hCC (by simpa using hl) hu a1 a2 a3 a4
  ·rename_i e
   obtain ⟨h2,u,rfl,hu⟩:=h
   have et:QaZ (Qcf n) x.1 x.2 cs=cs++[⟨9,0,0,false,x.1.fr,[],0⟩]:=by unfold QaZ;rw [e];rfl
   have ett:testNode x.1 (x.2.map (Qaj n))=phraseL [QbG,Qak x.1.fr]:=by unfold testNode;rw [e];rfl
   rw [et] at hl ⊢
   rw [ett] at hlen
   have h1:(Qak x.1.fr).length≤100000:=Nat.le_trans (QbA (ps:=[QbG,Qak x.1.fr]) (by simp)) hlen
   obtain ⟨a1,a2⟩:=Qfk x.1.fr
   exact QlQ _ QbG _ x.1.fr u B cb cs W hCC (by simpa using hl) hu (by omega) (fun z hz=>Nat.le_trans (a1 z hz) h1)
  ·rename_i h0 h1 h2 h3 h4 h5 h6 h7 h8
   obtain ⟨_,rfl⟩:=h
   have e:x.1.kind=9:=by
    have a0:x.1.kind≠0:=h0
    have a1:x.1.kind≠1:=h1
    have a2:x.1.kind≠2:=h2
    have a3:x.1.kind≠3:=h3
    have a4:x.1.kind≠4:=h4
    have a5:x.1.kind≠5:=h5
    have a6:x.1.kind≠6:=h6
    have a7:x.1.kind≠7:=h7
    have a8:x.1.kind≠8:=h8
    have:=hw.kind
    omega
   have et:QaZ (Qcf n) x.1 x.2 cs=cs++[⟨10,x.1.num,x.1.tag,false,[],[],0⟩]:=by unfold QaZ;rw [e];rfl
   rw [et] at hl ⊢
   exact QpO QdC _ x.1.tag x.1.num B cb cs W hCC (by simpa using hl) hw.num
end
end Go.Proofs.YtbiclelojbfnbaaGreatDoor
