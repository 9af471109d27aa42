import Derived.Test.YtbiclelojbfnbaaGreatDoorZCTestX
import Derived.Test.YtbiclelojbfnbaaGreatDoorZWChoice
namespace Go.Proofs.YtbiclelojbfnbaaGreatDoor
set_option linter.unusedVariables false
set_option linter.unusedSimpArgs false
set_option maxRecDepth 100000
set_option maxHeartbeats 4000000
section
open Go.RowKit
attribute [local go_sem ↓] Go.wp_at_zero Go.wp_at_succ
theorem testC_size (hw:List UInt8) (p tag num:Nat) (B cb:Nat) (cs:List Ins) (w:World) (h:CC w B cb cs) (hl:cs.length+1≤1000000) (hn:num≤2147483647) :
  Calls Tryz.prog 279 #[.pointer (some ⟨cb,0,none⟩),.iface 382 (.agg #[.string (strA hw),.int .i64 p,.int .i64 tag,.int .i64 num])] w (CPost B cb (cs++[⟨10,num,tag,false,[],[],0⟩]) w):=by
 have HN:Hid ((-9223372036854775808:Int)≤(num:Int)∧(num:Int)≤9223372036854775807):=by show _∧_;omega
 have HC0:Hid (∀ o,CC (w.alloc o) B cb cs):=fun o=>h.alloc o
 have n0:=Tryz.noTruth
 have n1:=Tryz.noNot
 have n2:=Tryz.noAllOf
 have n3:=Tryz.noAnyOf
 have n4:=Tryz.noHeader
 have n5:=Tryz.noEnvelope
 have n6:=Tryz.noString
 have n7:=Tryz.noExists
 have yy:=Tryz.yesSize
 have H:=hide h
 have HL:=hide hl
 have hB0:∀ o,Below w.heap.size w (w.alloc o):=fun o=>(Below.refl _ _).alloc (Nat.le_refl _) o
 have HB0:=hide hB0
 clear h hl hB0
 go_enter Tryz.func279,Tryz.ntmps279
 go_wp2_with (first | (go_at_call 201;refine (addC_at _ B cb cs ⟨10,num,tag,false,[],[],0⟩ _ _ _ (by simp) (HC0.out _) (insOk_nil _ _ rfl rfl HN.out.1 HN.out.2) HL.out).mono ?_;rintro e w2 ⟨rfl,hc2,hf2⟩;have HC2:=hide hc2;have HF2:=hide ((Fr.of_below (HB0.out _)).trans hf2);clear hc2 hf2;skip))
 go_end0
 exact ⟨rfl,HC2.out,HF2.out⟩
end
section
open Go.RowKit
attribute [local go_sem ↓] Go.wp_at_zero Go.wp_at_succ
theorem testC_not (hw:List UInt8) (p:Nat) (ty:TypeId) (y:Value) (sub:List Ins→List Ins) (B cb:Nat) (cs:List Ins) (w:World) (h:CC w B cb cs) (hl:(sub cs).length+1≤1000000) (ho:SubC 279 B cb w (.iface ty y) sub) :
  Calls Tryz.prog 279 #[.pointer (some ⟨cb,0,none⟩),.iface 376 (.agg #[.string (strA hw),.int .i64 p,.iface ty y])] w (CPost B cb (sub cs++[insOp 2]) w):=by
 have HO:=hide ho
 have HBB:Hid (∀ o,Below B w (w.alloc o)):=fun o=>(Below.refl _ _).alloc (Nat.le_of_lt (Nat.lt_of_le_of_lt h.lt.1 h.lt.2)) o
 clear ho
 have n0:=Tryz.noTruth
 have yy:=Tryz.yesNot
 have H:=hide h
 have HL:=hide hl
 have hB0:∀ o,Below w.heap.size w (w.alloc o):=fun o=>(Below.refl _ _).alloc (Nat.le_refl _) o
 have HB0:=hide hB0
 clear h hl hB0
 go_enter Tryz.func279,Tryz.ntmps279
 go_wp2_with (first | (go_at_call 279;refine (HO.out _ cs (HBB.out _) (H.out.alloc _) (Nat.le_of_succ_le HL.out)).mono ?_;rintro e w1 ⟨rfl,hc1,hf1⟩;have HC1:=hide hc1;have HF1:=hide ((Fr.of_below (HB0.out _)).trans hf1);clear hc1 hf1;skip) | (go_at_call 201;refine (addC_one B cb (sub cs) (insOp 2) _ _ _ HC1.out (insOk_nil _ _ rfl rfl (by decide) (by decide)) HL.out).mono ?_;rintro e w2 ⟨rfl,hc2,hf2⟩;have HC2:=hide hc2;have HF2:=hide (HF1.out.trans hf2);clear hc2 hf2;skip))
 go_end0
 exact ⟨rfl,HC2.out,HF2.out⟩
end
section
open Go.RowKit
attribute [local go_sem ↓] Go.wp_at_zero Go.wp_at_succ
theorem testC_allof (hw:List UInt8) (p:Nat) (a:Option Addr) (n c:Nat) (ds:List Ins) (B cb:Nat) (cs:List Ins) (w:World) (h:CC w B cb cs) (hl:B≤w.heap.size) (ho:∀ W,Below B w W→CC W B cb cs→Calls Tryz.prog 335 #[.pointer (some ⟨cb,0,none⟩),.slice a n c,.int .i64 5,.bool false] W (CPost B cb ds W)) :
  Calls Tryz.prog 279 #[.pointer (some ⟨cb,0,none⟩),.iface 274 (.agg #[.string (strA hw),.int .i64 p,.slice a n c])] w (CPost B cb ds w):=by
 have HO:=hide ho
 have HBB:Hid (∀ o,Below B w (w.alloc o)):=fun o=>(Below.refl _ _).alloc (Nat.le_of_lt (Nat.lt_of_le_of_lt h.lt.1 h.lt.2)) o
 clear ho
 have n0:=Tryz.noTruth
 have n1:=Tryz.noNot
 have yy:=Tryz.yesAllOf
 have H:=hide h
 have HL:=hide hl
 have hB0:∀ o,Below w.heap.size w (w.alloc o):=fun o=>(Below.refl _ _).alloc (Nat.le_refl _) o
 have HB0:=hide hB0
 clear h hl hB0
 go_enter Tryz.func279,Tryz.ntmps279
 go_wp2_with (first | (go_at_call 335;refine (HO.out _ (HBB.out _) (H.out.alloc _)).mono ?_;rintro e w1 ⟨rfl,hc1,hf1⟩;have HC2:=hide hc1;have HF2:=hide ((Fr.of_below (HB0.out _)).trans hf1);clear hc1 hf1;skip))
 go_end0
 exact ⟨rfl,HC2.out,HF2.out⟩
theorem testC_anyof (hw:List UInt8) (p:Nat) (a:Option Addr) (n c:Nat) (ds:List Ins) (B cb:Nat) (cs:List Ins) (w:World) (h:CC w B cb cs) (hl:B≤w.heap.size) (ho:∀ W,Below B w W→CC W B cb cs→Calls Tryz.prog 335 #[.pointer (some ⟨cb,0,none⟩),.slice a n c,.int .i64 4,.bool true] W (CPost B cb ds W)) :
  Calls Tryz.prog 279 #[.pointer (some ⟨cb,0,none⟩),.iface 275 (.agg #[.string (strA hw),.int .i64 p,.slice a n c])] w (CPost B cb ds w):=by
 have HO:=hide ho
 have HBB:Hid (∀ o,Below B w (w.alloc o)):=fun o=>(Below.refl _ _).alloc (Nat.le_of_lt (Nat.lt_of_le_of_lt h.lt.1 h.lt.2)) o
 clear ho
 have n0:=Tryz.noTruth
 have n1:=Tryz.noNot
 have n2:=Tryz.noAllOf
 have yy:=Tryz.yesAnyOf
 have H:=hide h
 have HL:=hide hl
 have hB0:∀ o,Below w.heap.size w (w.alloc o):=fun o=>(Below.refl _ _).alloc (Nat.le_refl _) o
 have HB0:=hide hB0
 clear h hl hB0
 go_enter Tryz.func279,Tryz.ntmps279
 go_wp2_with (first | (go_at_call 335;refine (HO.out _ (HBB.out _) (H.out.alloc _)).mono ?_;rintro e w1 ⟨rfl,hc1,hf1⟩;have HC2:=hide hc1;have HF2:=hide ((Fr.of_below (HB0.out _)).trans hf1);clear hc1 hf1;skip))
 go_end0
 exact ⟨rfl,HC2.out,HF2.out⟩
end
section
open Go.RowKit
theorem Fr.grownNew {P:Nat→Obj→Prop} {u w w':World} {row:Option Nat} (h:Fr P u w) (hg:w.grownBy w' row) (hr:∀ k,row=some k→u.heap.size≤k):Fr P u w':=
 ⟨hg.os.trans h.os,hg.tape.trans h.tape,hg.output.trans h.output,Nat.le_trans h.size hg.size,fun k o hk hn=>by
  have hk':=h.block k o hk hn
  rw [hg.block k (blk_lt hk') (fun e=>by have:=hr k e.symm;have:=blk_lt hk;omega)]
  exact hk'⟩
def jcells (js:List Nat):List Value:=js.map fun j=>.int .i64 ((j:Nat):Int)
theorem jcells_snoc (js:List Nat) (j:Nat):jcells js++[.int .i64 (j:Int)]=jcells (js++[j]):=by simp [jcells]
theorem Tryz.infoIntJ:(Tryz.prog.info? 3).map (fun i=>(i.zero,i.size,i.bytes))=some (some (.int .i64 0),1,8):=by kernel_rfl
theorem insOp_ok (W:World) (op:Int):InsOk W (insOp op) (.slice none 0 0) (.slice none 0 0):=insOk_nil W _ rfl rfl (by show (-9223372036854775808:Int)≤0;decide) (by show (0:Int)≤9223372036854775807;decide)
theorem pushI_ok (W:World) (b:Bool):InsOk W (pushI b) (.slice none 0 0) (.slice none 0 0):=insOk_nil W _ rfl rfl (by cases b <;> decide) (by cases b <;> decide)
theorem oneInt (x:Int):∀ u∈[Value.int .i64 x],u.oneCell'=true:=by
 intro u hu
 simp at hu
 subst hu
 rfl
theorem CC.grownInt {w w':World} {B cb base n:Nat} {cs:List Ins} {v:Value} {xs:List Value} (h:CC w B cb cs) (ho:w.ownsRow base 3 1 v n xs) (hg:w.grownBy w' v.ownBlock):CC w' B cb cs:=by
 obtain ⟨cv,ps,e,h⟩:=h
 refine ⟨cv,ps,e,h.fr (P:=fun k o=>∃ cs,o=.cells cs 3) ((Fr.refl _ w).grown hg (fun k o e ho'=>(owns_blk ho k o e ho').2)) ?_ ?_ ?_⟩
 ·rintro k cs ⟨cs',e⟩;injection e with _ e;exact absurd e (by decide)
 ·rintro k cs ⟨cs',e⟩;injection e with _ e;exact absurd e (by decide)
 ·rintro k cs ⟨cs',e⟩;injection e with _ e;exact absurd e (by decide)
theorem jrow_get {w:World} {base:Nat} {v:Value} {js:List Nat} (ho:w.ownsRow base 3 1 v js.length (jcells js)) (hne:js≠[]):∃ gj c kcs,v=.slice (some ⟨gj,0,none⟩) js.length c∧w.heap[gj]?=some (.cells kcs 3)∧∀ k,k < js.length→kcs[k]?=some (.int .i64 ((js.getD k 0:Nat):Int)):=by
 rcases ho.2 with ⟨_,h2⟩ | ⟨g,cap,cur,hv,hg,hb,hc,_,hs,ht⟩
 ·exact absurd (List.eq_nil_of_length_eq_zero h2) hne
 ·refine ⟨g,cap,cur,hv,hb,fun k hk=>?_⟩
  have h4:(jcells js)[k]?=some (.int .i64 ((js.getD k 0:Nat):Int)):=by
   unfold jcells
   rw [List.getElem?_map,List.getElem?_eq_getElem hk,List.getD_eq_getElem?_getD,List.getElem?_eq_getElem hk];rfl
  rw [← ht,List.getElem?_take_of_lt (by omega)] at h4
  rw [← h4];simp
def gTo {α:Type} (sub:α→List Ins→List Ins) (jump:Int) (ts:List α) (cs:List Ins) (k:Nat):List Ins×List Nat:=(ts.take k).foldl (gStep sub jump) (cs,[])
theorem gTo_succ {α:Type} (sub:α→List Ins→List Ins) (jump:Int) (ts:List α) (cs:List Ins) (k:Nat) (h:k < ts.length):gTo sub jump ts cs (k+1)=gStep sub jump (gTo sub jump ts cs k) ts[k]:=by
 unfold gTo
 rw [List.take_add_one,List.getElem?_eq_getElem h,List.foldl_append]
 rfl
theorem gTo_all {α:Type} (sub:α→List Ins→List Ins) (jump:Int) (ts:List α) (cs:List Ins) (b:Bool):groupC sub jump b ts cs=groupEnd b (gTo sub jump ts cs ts.length):=by
 unfold groupC gTo
 rw [List.take_length]
theorem gTo_len {α:Type} (sub:α→List Ins→List Ins) (jump:Int) (ts:List α) (cs:List Ins):∀ k,k≤ts.length→(gTo sub jump ts cs k).2.length=k
 | 0,_=>rfl
 | k+1,h=>by
  rw [gTo_succ sub jump ts cs k h]
  have:=gTo_len sub jump ts cs k (by omega)
  unfold gStep
  simp [this]
theorem gTo_lt {α:Type} {sub:α→List Ins→List Ins} (hm:∀ t cs,cs.length≤(sub t cs).length) (jump:Int) (ts:List α) (cs:List Ins):∀ k,k≤ts.length→∀ j∈(gTo sub jump ts cs k).2,j < (gTo sub jump ts cs k).1.length
 | 0,_,j,hj=>by cases hj
 | k+1,h,j,hj=>by
  have ih:=gTo_lt hm jump ts cs k (by omega)
  rw [gTo_succ sub jump ts cs k h] at hj ⊢
  have h1:=hm ts[k] (gTo sub jump ts cs k).1
  unfold gStep at hj ⊢
  simp only [List.mem_append,List.mem_singleton,List.length_append,List.length_cons,List.length_nil] at hj ⊢
  rcases hj with hj | hj
  ·have:=ih j hj;omega
  ·omega
theorem gTo_mono {α:Type} {sub:α→List Ins→List Ins} (hm:∀ t cs,cs.length≤(sub t cs).length) (jump:Int) (ts:List α) (cs:List Ins) (k:Nat):(gTo sub jump ts cs k).1.length≤(gTo sub jump ts cs ts.length).1.length:=by
 unfold gTo
 rw [List.take_length]
 have:=gFold_ge hm jump (ts.drop k) ((ts.take k).foldl (gStep sub jump) (cs,[]))
 rw [← List.foldl_append,List.take_append_drop] at this
 exact this
theorem groupCo_any {α:Type} (sub:α→List Ins→List Ins) (jump:Int) (settled:Bool) (ts:List α) (B cb g c:Nat) (cs:List Ins) (w:World) (h:CC w B cb cs) (hne:ts≠[]) (hgB:g < B) (htl:ts.length≤1000000)
  (hm:∀ t cs,cs.length≤(sub t cs).length) (hl:(groupC sub jump settled ts cs).length≤1000000)
  (hc:∀ j (hj:j < ts.length),∃ ty y,w.cell? ⟨g,j,none⟩=some (.iface ty y)∧SubC 279 B cb w (.iface ty y) (sub ts[j])) :
  Calls Tryz.prog 335 #[.pointer (some ⟨cb,0,none⟩),.slice (some ⟨g,0,none⟩) ts.length c,.int .i64 jump,.bool settled] w (CPost B cb (groupC sub jump settled ts cs) w):=by
 obtain ⟨i0,hi,hz0,hz1,hz2⟩:=info_parts Tryz.infoIntJ
 have hBw:B≤w.heap.size:=Nat.le_of_lt (Nat.lt_of_le_of_lt h.lt.1 h.lt.2)
 rw [gTo_all] at hl ⊢
 have HE:Hid (∀ r,r=gTo sub jump ts cs ts.length→groupEnd settled r=groupEnd settled (gTo sub jump ts cs ts.length)):=fun r e=>by rw [e]
 rw [groupEnd_length] at hl
 have HL:=hide hl
 have HC:=hide hc
 have HM:=hide hm
 have H:=hide h
 clear hc hm h hl
 go_enter Tryz.func335,Tryz.ntmps335
 go_wp2_with fail
 go_loopw [8,10,14] (fun v _ i wr=>∃ (k:Nat) (r:List Ins×List Nat),k≤ts.length∧i=.int .i64 (k:Int)∧r=gTo sub jump ts cs k∧wr.ownsRow w.heap.size 3 1 v r.2.length (jcells r.2)∧CC wr B cb r.1∧Fr (PCo B) w wr) (fun _ _ i _=>ts.length - (intOf i).toNat)
 case atStart=>exact ⟨0,_,Nat.zero_le _,by go_num,rfl,World.ownsRow_nil _ _ _ _,H.out,Fr.refl _ _⟩
 case round=>
  obtain ⟨k,r,hk,rfl,hr,hown,hCC,hF⟩:=hrel
  have hrl:r.2.length=k:=by rw [hr];exact gTo_len sub jump ts cs k hk
  have hBelow:Below B w wr:=hF.co H.out
  by_cases hlt:k < ts.length
  ·obtain ⟨ty,y,hcy,hty⟩:=HC.out k hlt
   have hck:wr.cell? ⟨g,k,none⟩=some (.iface ty y):=by
    rw [hBelow.cell (p:=⟨g,k,none⟩) hgB]
    exact hcy
   have HS:=hide (gTo_succ sub jump ts cs k hlt)
   have hle:=gTo_mono HM.out jump ts cs (k+1)
   rw [HS.out,← hr] at hle
   rw [← hr] at HS
   unfold gStep at hle
   simp only [List.length_append,List.length_cons,List.length_nil] at hle
   have h3:=HL.out
   have HTY:=hide hty
   obtain ⟨t,ht⟩:∃ t,ts[k]=t:=⟨_,rfl⟩
   rw [ht] at HS HTY hle
   obtain ⟨A,hA⟩:∃ A,sub t r.1=A:=⟨_,rfl⟩
   have HLA:Hid ((sub t r.1).length≤1000000):=by show (sub t r.1).length≤_;omega
   have HLB:Hid (A.length+1≤1000000):=by show _≤_;rw [← hA];omega
   have HSA:Hid (gTo sub jump ts cs (k+1)=(A++[insOp jump],r.2++[A.length])):=by
    show _=_
    rw [HS.out];unfold gStep;rw [hA]
   have HAe:=hide hA
   have HOW:=hide hown
   have HCC:=hide hCC
   have HF:=hide hF
   have HBe:=hide hBelow
   obtain ⟨la,lc,hlv⟩:=owns_len hown
   subst hlv
   have hrk:r.2.length≤1000000:=by omega
   have hwl:=hF.size
   clear hown hCC hF hBelow hcy hty hle h3 hA ht hr HS hrl HE
   go_wp2_with (first
    | (go_at_call 279;refine (HTY.out wr r.1 HBe.out HCC.out HLA.out).mono ?_;rintro e w1 ⟨rfl,hc1,hf1⟩;rw [HAe.out] at hc1;have HC1:=hide hc1;have HF1:=hide (HF.out.trans hf1);have HO1:=hide (owns_fr HOW.out hf1 (fun _ _=>PCo.not (by decide) (by decide)));clear hc1 hf1;skip)
    | (go_at_call 201;refine (addC_one B cb A (insOp jump) _ _ w1 HC1.out (insOp_ok _ _) HLB.out).mono ?_;rintro e w2 ⟨rfl,hc2,hf2⟩;have HC2:=hide hc2;have HF2:=hide (HF1.out.trans hf2);have HO2:=hide (owns_fr HO1.out hf2 (fun _ _=>PCo.not (by decide) (by decide)));have hw2:=HF2.out.size;clear hc2 hf2;skip)
    | (at_builtin;refine wpList_append_own _ rfl _ _ 24 rfl w.heap.size 3 i0 _ 1 8 Tryz.underlying24 hi hz0 hz1 hz2 rfl (by decide) _ _ _ rfl (HO2.out.alloc _) ⟨w2.heap.size,0,none⟩ 1 1 [.int .i64 (A.length:Int)] rfl rfl (cell_one_new _ _ _) (oneInt _) (by unfold maxLen;omega) (by omega) (by simp;omega) ?_;intro v5 w5 ho5 hg5 _;obtain ⟨a5,k5,hv5⟩:=owns_len ho5;subst hv5;have HO5:=hide ho5;have HG5:=hide hg5;clear ho5 hg5;skip))
   go_roundw
   case rel=>
    refine ⟨k+1,(A++[insOp jump],r.2++[A.length]),by omega,by go_num,HSA.out.symm,?_,(HC2.out.alloc _).grownInt (HO2.out.alloc _) HG5.out,(HF2.out.alloc _).grownNew HG5.out (fun k hk=>(HO2.out.lt k hk).1)⟩
    show w5.ownsRow w.heap.size 3 1 _ (r.2++[A.length]).length (jcells (r.2++[A.length]))
    rw [List.length_append,← jcells_snoc]
    exact HO5.out
   case measure=>simp [intOf];omega
  ·have hk':k=ts.length:=by omega
   subst hk'
   have hrne:r.2≠[]:=fun e=>hne (List.eq_nil_of_length_eq_zero (by rw [← hrl,e];rfl))
   obtain ⟨gj,cj,kcs,hv,hjb,hjc⟩:=jrow_get hown hrne
   subst hv
   have hjlt:∀ j∈r.2,j < r.1.length:=by rw [hr];exact gTo_lt HM.out jump ts cs ts.length (Nat.le_refl _)
   have h3:r.1.length+3≤1000000:=by rw [hr];exact HL.out
   have HEND:Hid (groupEnd settled (gTo sub jump ts cs ts.length)=landL [r.1.length+1] (landL r.2 (r.1++[pushI (!settled),insOp 3])++[pushI settled])):=by
    show _=_
    rw [← hr];rfl
   obtain ⟨L2,hL2⟩:∃ L2,r.1++[pushI (!settled),insOp 3]=L2:=⟨_,rfl⟩
   have hL2l:L2.length=r.1.length+2:=by rw [← hL2];simp
   obtain ⟨L3,hL3⟩:∃ L3,landL r.2 L2=L3:=⟨_,rfl⟩
   have hL3l:L3.length=r.1.length+2:=by rw [← hL3,landL_length,hL2l]
   obtain ⟨E,hE⟩:∃ E,r.1.length+1=E:=⟨_,rfl⟩
   rw [hL2,hL3,hE] at HEND
   have q1:r.1.length+2≤1000000:=by omega
   have q2:∀ j∈r.2,j < L2.length:=fun j hj=>by have:=hjlt j hj;omega
   have q3:L2.length≤1000000:=by omega
   have q4:r.2.length≤1000000:=by rw [hrl];exact htl
   have q5:L3.length+1≤1000000:=by omega
   have q6:E < (L3++[pushI settled]).length:=by rw [List.length_append,hL3l,← hE];simp
   have q7:(L3++[pushI settled]).length≤1000000:=by rw [List.length_append];exact q5
   have Q:=hide (And.intro q1 (And.intro q2 (And.intro q3 (And.intro q4 (And.intro q5 (And.intro q6 q7))))))
   have HE2:=hide hL2
   have HE3:=hide hL3
   have HEE:=hide hE
   have HJB:=hide hjb
   have HJC:=hide hjc
   have HCC:=hide hCC
   have HF:=hide hF
   clear hown hCC hF hBelow hr HE hjb hjc hjlt h3 hL2 hL2l hL3 hL3l hE q1 q2 q3 q4 q5 q6 q7 hrl hlt hk HC HM HL
   have hpp:∀ b:Bool,insV (pushI b) (.slice none 0 0) (.slice none 0 0)=.agg #[.int .i64 (pushI b).op,.int .i64 (pushI b).n,.int .i64 (pushI b).tag,.bool (pushI b).oct,.slice none 0 0,.slice none 0 0,.int .i64 (pushI b).at_]:=fun _=>rfl
   have HPP:=hide hpp
   clear hpp
   go_wp2_with (first
    | (have gg:=HC5;go_at_call 280;refine (landC_one B cb E _ _ HC5.out Q.out.2.2.2.2.2.1 Q.out.2.2.2.2.2.2).mono ?_;rintro e w6 ⟨rfl,hc6,hf6⟩;have HC6:=hide hc6;have HF6:=hide (HF5.out.trans hf6);clear hc6 hf6;skip)
    | (have gg:=HC4;go_at_call 201;refine (addC_one B cb L3 (pushI settled) _ _ _ HC4.out (pushI_ok _ _) Q.out.2.2.2.2.1).mono ?_;rintro e w5 ⟨rfl,hc5,hf5⟩;have HC5:=hide hc5;have HF5:=hide (HF4.out.trans hf5);clear hc5 hf5;skip)
    | (have gg:=HC3;go_at_call 334;refine (push_any settled _).mono ?_;rintro e w4 ⟨rfl,hb4⟩;rw [HPP.out];have HC4:=hide (HC3.out.below hb4);have HF4:=hide (HF3.out.trans (Fr.of_below hb4));clear hb4;skip)
    | (have gg:=HC2;go_at_call 280;refine (landC_any B cb gj cj r.2 kcs L2 _ HC2.out Q.out.2.1 HJ2.out HJC.out Q.out.2.2.1 Q.out.2.2.2.1).mono ?_;rintro e w3 ⟨rfl,hc3,hf3⟩;rw [HE3.out] at hc3;have HC3:=hide hc3;have HF3:=hide (HF2.out.trans hf3);clear hc3 hf3;skip)
    | (have gg:=HC1;go_at_call 201;refine (addC_two B cb r.1 (pushI (!settled)) (insOp 3) _ _ _ _ _ HC1.out (pushI_ok _ _) (insOp_ok _ _) Q.out.1).mono ?_;rintro e w2 ⟨he,hc2,hf2⟩;rw [HEE.out] at he;subst he;rw [HE2.out] at hc2;have HC2:=hide hc2;have HF2:=hide (HF1.out.trans hf2);have HJ2:=hide (hf2.block _ _ HJ1.out (PCo.not (by decide) (by decide)));clear hc2 hf2;skip)
    | (go_at_call 334;refine (push_any (!settled) _).mono ?_;rintro e w1 ⟨rfl,hb1⟩;rw [HPP.out];have HC1:=hide (HCC.out.below hb1);have HF1:=hide (HF.out.trans (Fr.of_below hb1));have HJ1:=hide (blk_below HJB.out hb1);clear hb1;skip))
   go_end0
   rw [HEND.out]
   exact ⟨rfl,HC6.out,HF6.out⟩
end
section
open Go.RowKit
theorem quotedC_ge (z:List UInt8):z.length≤(quotedL z).length:=by
 unfold quotedL
 rw [List.length_cons,List.length_append]
 have:z.length≤(z.flatMap quoteB).length:=by
  induction z with
  | nil=>simp
  | cons c r ih=>
   rw [List.flatMap_cons,List.length_append,List.length_cons]
   have:1≤(quoteB c).length:=by unfold quoteB;split <;> simp
   omega
 omega
theorem quotesC_ge (xs:List (List UInt8)):(∀ z∈xs,z.length≤(quotesL xs).length)∧xs.length≤(quotesL xs).length+1:=by
 match xs with
 | []=>exact ⟨fun z hz=>(by cases hz),Nat.zero_le _⟩
 | [x]=>exact ⟨fun z hz=>(by rw [List.mem_singleton.1 hz];exact quotedC_ge x),by simp⟩
 | x :: y :: r=>
  have e:(quotesL (x :: y :: r)).length=(joinL [44,32] ((x :: y :: r).map quotedL)).length+2:=by unfold quotesL;simp
  refine ⟨fun z hz=>?_,?_⟩
  ·have h1:=joinL_mem ((x :: y :: r).map quotedL) (quotedL z) (List.mem_map_of_mem hz)
   have h2:=quotedC_ge z
   omega
  ·have h1:=join_count ((x :: y :: r).map quotedL)
   rw [List.length_map] at h1
   omega
theorem testCo_any {req:List (List UInt8)} (B cb:Nat):∀ (n:Nat) (x:TestT n) (w:World) (v:Value),TestV n (fun k=>k < B) x w v→allT (WfT req) n x→(testTxt n x).length≤100000→SubC 279 B cb w v (testC n x)
 | 0,x,w,v,h,ha,_=>ha.elim
 | n+1,x,w,v,hv0,ha,hlen=>fun W cs hW hCC hl=>by
  obtain ⟨hw,hsub⟩:=ha
  have h:tnode (fun k=>k < B) (TestV n) x W v:=(testV_tree (n+1)).keep _ _ _ _ _ hv0 (fun k hk _=>hW.block k hk)
  have hlen:(testNode x.1 (x.2.map (testTxt n))).length≤100000:=hlen
  have hl:(testNodeC (testC n) x.1 x.2 cs).length≤1000000:=hl
  show Calls Tryz.prog 279 #[.pointer (some ⟨cb,0,none⟩),v] W (CPost B cb (testNodeC (testC n) x.1 x.2 cs) W)
  have hBW:B≤W.heap.size:=Nat.le_of_lt (Nat.lt_of_le_of_lt hCC.lt.1 hCC.lt.2)
  have hok:∀ a∈x.2,∀ u,TestV n (fun k=>k < B) a W u→(testTxt n a).length≤100000→∃ ty y,u=.iface ty y∧SubC 279 B cb W (.iface ty y) (testC n a):=fun a ha u hu hl=>by
   obtain ⟨ty,y,rfl⟩:=(testV_tree n).form _ _ _ _ hu
   exact ⟨ty,y,rfl,testCo_any B cb n a W _ hu (hsub a ha) hl⟩
  have hmt:∀ hd,(matchTxt hd x.1).length≤100000→x.1.fr.length≤1000000∧x.1.keys.length≤1000000∧(∀ z∈x.1.fr,z.length≤100000)∧(∀ z∈x.1.keys,z.length≤100000):=fun hd h=>by
   have h1:(quotesL x.1.fr).length≤100000:=Nat.le_trans (phraseL_mem (by simp)) h
   have h2:(quotesL x.1.keys).length≤100000:=Nat.le_trans (phraseL_mem (by simp)) h
   obtain ⟨a1,a2⟩:=quotesC_ge x.1.fr
   obtain ⟨b1,b2⟩:=quotesC_ge x.1.keys
   exact ⟨by omega,by omega,fun z hz=>Nat.le_trans (a1 z hz) h1,fun z hz=>Nat.le_trans (b1 z hz) h2⟩
  have hgr:∀ (hd:List UInt8) (u:Value) (jump:Int) (b:Bool),trX (fun k=>k < B) (TestV n) x.2 W u→x.2≠[]→(groupTxt hd (x.2.map (testTxt n))).length≤100000→(groupC (testC n) jump b x.2 cs).length≤1000000→∃ a m c,u=.slice a m c∧∀ W2,Below B W W2→CC W2 B cb cs→Calls Tryz.prog 335 #[.pointer (some ⟨cb,0,none⟩),.slice a m c,.int .i64 jump,.bool b] W2 (CPost B cb (groupC (testC n) jump b x.2 cs) W2):=fun hd u jump b hu hne hlt hlg=>by
   obtain ⟨g,c,rfl,hg,hx⟩:=hu
   refine ⟨_,_,_,rfl,fun W2 hW2 hC2=>?_⟩
   have hcount:x.2.length≤1000000:=by
    have h1:=join_count (x.2.map (testTxt n))
    rw [List.length_map] at h1
    unfold groupTxt at hlt
    simp only [List.length_append] at hlt
    omega
   refine groupCo_any (testC n) jump b x.2 B cb g c cs W2 hC2 hne hg hcount (testC_ge n) hlg (fun j hj=>?_)
   obtain ⟨uj,hcj,hvj⟩:=hx j hj
   have hmem:x.2[j]∈x.2:=List.getElem_mem hj
   obtain ⟨ty,y,rfl,hty⟩:=hok _ hmem uj hvj (Nat.le_trans (joinL_memlen (hw:=hd) (List.mem_map_of_mem hmem)) hlt)
   exact ⟨ty,y,by rw [hW2.cell (p:=⟨g,j,none⟩) hg];exact hcj,hty.below hW2⟩
  unfold tnode at h
  split at h
  ·rename_i e
   obtain ⟨h2,rfl⟩:=h
   have et:testNodeC (testC n) x.1 x.2 cs=cs++[pushI true]:=by unfold testNodeC;rw [e];rfl
   rw [et] at hl ⊢
   exact testC_truth kTrue _ true B cb cs W hCC (by simpa using hl)
  ·rename_i e
   obtain ⟨h2,rfl⟩:=h
   have et:testNodeC (testC n) x.1 x.2 cs=cs++[pushI false]:=by unfold testNodeC;rw [e];rfl
   rw [et] at hl ⊢
   exact testC_truth kFalse _ false B cb cs W hCC (by simpa using hl)
  ·rename_i e
   obtain ⟨a,u,h2,rfl,hu⟩:=h
   have et:testNodeC (testC n) x.1 x.2 cs=testC n a cs++[insOp 2]:=by unfold testNodeC;rw [e,h2];rfl
   have ett:testNode x.1 (x.2.map (testTxt n))=phraseL [kNot,testTxt n a]:=by unfold testNode;rw [e,h2];rfl
   rw [et] at hl ⊢
   rw [ett] at hlen
   obtain ⟨ty,y,rfl,hty⟩:=hok a (by rw [h2];simp) u hu (Nat.le_trans (phraseL_mem (ps:=[kNot,testTxt n a]) (by simp)) hlen)
   exact testC_not kNot _ ty y _ B cb cs W hCC (by simpa using hl) hty
  ·rename_i e
   obtain ⟨u,rfl,hu,hne⟩:=h
   have et:testNodeC (testC n) x.1 x.2 cs=groupC (testC n) 5 false x.2 cs:=by unfold testNodeC;rw [e];rfl
   have ett:testNode x.1 (x.2.map (testTxt n))=groupTxt kAllof (x.2.map (testTxt n)):=by unfold testNode;rw [e];rfl
   rw [et] at hl ⊢
   rw [ett] at hlen
   obtain ⟨a,m,c,rfl,hG⟩:=hgr kAllof u 5 false hu hne hlen hl
   exact testC_allof kAllof _ a m c _ B cb cs W hCC hBW hG
  ·rename_i e
   obtain ⟨u,rfl,hu,hne⟩:=h
   have et:testNodeC (testC n) x.1 x.2 cs=groupC (testC n) 4 true x.2 cs:=by unfold testNodeC;rw [e];rfl
   have ett:testNode x.1 (x.2.map (testTxt n))=groupTxt kAnyof (x.2.map (testTxt n)):=by unfold testNode;rw [e];rfl
   rw [et] at hl ⊢
   rw [ett] at hlen
   obtain ⟨a,m,c,rfl,hG⟩:=hgr kAnyof u 4 true hu hne hlen hl
   exact testC_anyof kAnyof _ a m c _ B cb cs W hCC hBW hG
  ·rename_i e
   obtain ⟨h2,u,rfl,hu⟩:=h
   have et:testNodeC (testC n) x.1 x.2 cs=cs++[matchI 6 x.1]:=by unfold testNodeC;rw [e];rfl
   have ett:testNode x.1 (x.2.map (testTxt n))=matchTxt kHeader x.1:=by unfold testNode;rw [e];rfl
   rw [et] at hl ⊢
   rw [ett] at hlen
   obtain ⟨a1,a2,a3,a4⟩:=hmt _ hlen
   exact testC_header _ kHeader x.1 u B cb cs W hCC (by simpa using hl) hu a1 a2 a3 a4
  ·rename_i e
   obtain ⟨h2,u,rfl,hu⟩:=h
   have et:testNodeC (testC n) x.1 x.2 cs=cs++[matchI 7 x.1]:=by unfold testNodeC;rw [e];rfl
   have ett:testNode x.1 (x.2.map (testTxt n))=matchTxt kEnvelope x.1:=by unfold testNode;rw [e];rfl
   rw [et] at hl ⊢
   rw [ett] at hlen
   obtain ⟨a1,a2,a3,a4⟩:=hmt _ hlen
   exact testC_envelope _ kEnvelope x.1 u B cb cs W hCC (by simpa using hl) hu a1 a2 a3 a4
  ·rename_i e
   obtain ⟨h2,u,rfl,hu⟩:=h
   have et:testNodeC (testC n) x.1 x.2 cs=cs++[matchI 8 x.1]:=by unfold testNodeC;rw [e];rfl
   have ett:testNode x.1 (x.2.map (testTxt n))=matchTxt kString x.1:=by unfold testNode;rw [e];rfl
   rw [et] at hl ⊢
   rw [ett] at hlen
   obtain ⟨a1,a2,a3,a4⟩:=hmt _ hlen
   exact testC_string _ kString x.1 u B cb cs W hCC (by simpa using hl) hu a1 a2 a3 a4
  ·rename_i e
   obtain ⟨h2,u,rfl,hu⟩:=h
   have et:testNodeC (testC n) x.1 x.2 cs=cs++[⟨9,0,0,false,x.1.fr,[],0⟩]:=by unfold testNodeC;rw [e];rfl
   have ett:testNode x.1 (x.2.map (testTxt n))=phraseL [kExists,quotesL x.1.fr]:=by unfold testNode;rw [e];rfl
   rw [et] at hl ⊢
   rw [ett] at hlen
   have h1:(quotesL x.1.fr).length≤100000:=Nat.le_trans (phraseL_mem (ps:=[kExists,quotesL x.1.fr]) (by simp)) hlen
   obtain ⟨a1,a2⟩:=quotesC_ge x.1.fr
   exact testC_exists _ kExists _ x.1.fr u B cb cs W hCC (by simpa using hl) hu (by omega) (fun z hz=>Nat.le_trans (a1 z hz) h1)
  ·rename_i h0 h1 h2 h3 h4 h5 h6 h7 h8
   obtain ⟨_,rfl⟩:=h
   have e:x.1.kind=9:=by
    have a0:x.1.kind≠0:=h0
    have a1:x.1.kind≠1:=h1
    have a2:x.1.kind≠2:=h2
    have a3:x.1.kind≠3:=h3
    have a4:x.1.kind≠4:=h4
    have a5:x.1.kind≠5:=h5
    have a6:x.1.kind≠6:=h6
    have a7:x.1.kind≠7:=h7
    have a8:x.1.kind≠8:=h8
    have:=hw.kind
    omega
   have et:testNodeC (testC n) x.1 x.2 cs=cs++[⟨10,x.1.num,x.1.tag,false,[],[],0⟩]:=by unfold testNodeC;rw [e];rfl
   rw [et] at hl ⊢
   exact testC_size kSize _ x.1.tag x.1.num B cb cs W hCC (by simpa using hl) hw.num
end
section
open Go.RowKit
attribute [local go_sem ↓] Go.wp_at_zero Go.wp_at_succ
theorem cmdCo_if (hw:List UInt8) (p:Nat) (a ea:Option Addr) (n c en ec:Nat) (els:Bool) (ds:List Ins) (B cb:Nat) (cs:List Ins) (w:World) (h:CC w B cb cs) (hl:B≤w.heap.size) (ho:∀ W,Below B w W→CC W B cb cs→Calls Tryz.prog 203 #[.pointer (some ⟨cb,0,none⟩),.agg #[.string (strA hw),.int .i64 p,.slice a n c,.bool els,.slice ea en ec]] W (CPost B cb ds W)) :
  Calls Tryz.prog 123 #[.pointer (some ⟨cb,0,none⟩),.iface 310 (.agg #[.string (strA hw),.int .i64 p,.slice a n c,.bool els,.slice ea en ec])] w (CPost B cb ds w):=by
 have HO:=hide ho
 have HBB:Hid (∀ o,Below B w (w.alloc o)):=fun o=>(Below.refl _ _).alloc hl o
 clear ho
 have n0:=Tryz.noAct
 have n1:=Tryz.noSet
 have n2:=Tryz.noDiscard
 have n3:=Tryz.noStop
 have yy:=Tryz.yesIf
 have H:=hide h
 have HL:=hide hl
 have HC0:Hid (∀ o,CC (w.alloc o) B cb cs):=fun o=>h.alloc o
 have hB0:∀ o,Below w.heap.size w (w.alloc o):=fun o=>(Below.refl _ _).alloc (Nat.le_refl _) o
 have HB0:=hide hB0
 clear h hl hB0
 go_enter Tryz.func123,Tryz.ntmps123
 go_wp2_with (first | (go_at_call 203;refine (HO.out _ (HBB.out _) (HC0.out _)).mono ?_;rintro e w1 ⟨rfl,hc1,hf1⟩;have HC2:=hide hc1;have HF2:=hide ((Fr.of_below (HB0.out _)).trans hf1);clear hc1 hf1;skip))
 go_end0
 exact ⟨rfl,HC2.out,HF2.out⟩
end
end Go.Proofs.YtbiclelojbfnbaaGreatDoor
