import Derived.Test.YtbiclelojbfnbabGreatDoorZCTestZ
import Derived.Test.YtbiclelojbfnbabGreatDoorZPlainCodeLen
namespace Go.Proofs.YtbiclelojbfnbabGreatDoor
set_option linter.unusedVariables false
set_option linter.unusedSimpArgs false
set_option maxRecDepth 100000
set_option maxHeartbeats 4000000
section
open Go.RowKit
attribute [local go_sem ↓] Go.wp_at_zero Go.wp_at_succ
theorem QiE (X:Nat→Prop) (hw:List UInt8) (x:QdG) (u:Value) (B cb:Nat) (cs:List Ins) (w:World) (h:CC w B cb cs) (hl:cs.length+1≤1000000) (hm:mtX X hw x w u) (h1:x.fr.length≤1000000) (h2:x.keys.length≤1000000) (h3:∀ z∈x.fr,z.length≤100000) (h4:∀ z∈x.keys,z.length≤100000) :
 Calls Tryz.prog 252 #[.pointer (some ⟨cb,0,none⟩),.iface 218 u] w (Qde B cb (cs++[Qcu 7 x]) w):=by
 obtain ⟨fv,kv,rfl,hf,hk⟩:=hm
 have HF:=Qaa hf
 have HK:=Qaa hk
 obtain ⟨gf,cf,rfl,hx1⟩:=hf
 obtain ⟨gk,ck,rfl,hx2⟩:=hk
 have HBD:=Qaa (And.intro h1 (And.intro h2 (And.intro h3 h4)))
 clear hx1 hx2 h1 h2 h3 h4
 have n0:=Tryz.noTruth
 have n1:=Tryz.noNot
 have n2:=Tryz.noAllOf
 have n3:=Tryz.noAnyOf
 have n4:=Tryz.noHeader
 have yy:=Tryz.yesEnvelope
 have H:=Qaa h
 have HL:=Qaa hl
 have hB0:∀ o,Below w.heap.size w (w.alloc o):=fun o=>(Below.refl _ _).alloc (Nat.le_refl _) o
 have HB0:=Qaa hB0
 clear h hl hB0
 go_enter Tryz.func252,Tryz.ntmps252
 go_wp2_with (first | (go_at_call 276;refine (QeR 7 X hw x _ _ _ (HF.out.keep (fun k _ hk=>(HB0.out _).block k hk)) (HK.out.keep (fun k _ hk=>(HB0.out _).block k hk)) HBD.out.1 HBD.out.2.1).mono ?_;rintro e w1 ⟨a1,k1,a2,k2,rfl,hs1,hs2,hb1⟩;have HB1:=Qaa ((HB0.out _).trans (hb1.mono (by simp)));have HC1:=Qaa (H.out.below HB1.out);have HS1:=Qaa hs1;have HS2:=Qaa hs2;clear hb1 hs1 hs2;unfold Qdk;skip) | (go_at_call 231;refine (Qcd B cb cs (Qcu 7 x) _ _ w1 HC1.out ⟨HS1.out,HS2.out,HBD.out.2.2.1,HBD.out.2.2.2,HBD.out.1,HBD.out.2.1,(by show (-9223372036854775808:Int)≤0;decide),(by show (0:Int)≤9223372036854775807;decide)⟩ HL.out).mono ?_;rintro e w2 ⟨rfl,hc2,hf2⟩;have HC2:=Qaa hc2;have HF2:=Qaa ((Fr.of_below HB1.out).trans hf2);clear hc2 hf2;skip))
 go_end0
 exact ⟨rfl,HC2.out,HF2.out⟩
end
section
open Go.RowKit
attribute [local go_sem ↓] Go.wp_at_zero Go.wp_at_succ
theorem QqG (hw:List UInt8) (p:Nat) (ty:TypeId) (y:Value) (sub:List Ins→List Ins) (B cb:Nat) (cs:List Ins) (w:World) (h:CC w B cb cs) (hl:(sub cs).length+1≤1000000) (ho:SubC 252 B cb w (.iface ty y) sub) :
 Calls Tryz.prog 252 #[.pointer (some ⟨cb,0,none⟩),.iface 281 (.agg #[.string (Qag hw),.int .i64 p,.iface ty y])] w (Qde B cb (sub cs++[QcD 2]) w):=by
 have HO:=Qaa ho
 have HBB:Hid (∀ o,Below B w (w.alloc o)):=fun o=>(Below.refl _ _).alloc (Nat.le_of_lt (Nat.lt_of_le_of_lt h.lt.1 h.lt.2)) o
 clear ho
 have n0:=Tryz.noTruth
 have yy:=Tryz.yesNot
 have H:=Qaa h
 have HL:=Qaa hl
 have hB0:∀ o,Below w.heap.size w (w.alloc o):=fun o=>(Below.refl _ _).alloc (Nat.le_refl _) o
 have HB0:=Qaa hB0
 clear h hl hB0
 go_enter Tryz.func252,Tryz.ntmps252
 go_wp2_with (first | (go_at_call 252;refine (HO.out _ cs (HBB.out _) (H.out.alloc _) (Nat.le_of_succ_le HL.out)).mono ?_;rintro e w1 ⟨rfl,hc1,hf1⟩;have HC1:=Qaa hc1;have HF1:=Qaa ((Fr.of_below (HB0.out _)).trans hf1);clear hc1 hf1;skip) | (go_at_call 231;refine (Qcd B cb (sub cs) (QcD 2) _ _ _ HC1.out (Qc8 _ _ rfl rfl (by decide) (by decide)) HL.out).mono ?_;rintro e w2 ⟨rfl,hc2,hf2⟩;have HC2:=Qaa hc2;have HF2:=Qaa (HF1.out.trans hf2);clear hc2 hf2;skip))
 go_end0
 exact ⟨rfl,HC2.out,HF2.out⟩
end
section
open Go.RowKit
attribute [local go_sem ↓] Go.wp_at_zero Go.wp_at_succ
theorem QmB (hw:List UInt8) (p:Nat) (a:Option Addr) (n c:Nat) (ds:List Ins) (B cb:Nat) (cs:List Ins) (w:World) (h:CC w B cb cs) (hl:B≤w.heap.size) (ho:∀ W,Below B w W→CC W B cb cs→Calls Tryz.prog 275 #[.pointer (some ⟨cb,0,none⟩),.slice a n c,.int .i64 5,.bool false] W (Qde B cb ds W)) :
 Calls Tryz.prog 252 #[.pointer (some ⟨cb,0,none⟩),.iface 208 (.agg #[.string (Qag hw),.int .i64 p,.slice a n c])] w (Qde B cb ds w):=by
 have HO:=Qaa ho
 have HBB:Hid (∀ o,Below B w (w.alloc o)):=fun o=>(Below.refl _ _).alloc (Nat.le_of_lt (Nat.lt_of_le_of_lt h.lt.1 h.lt.2)) o
 clear ho
 have n0:=Tryz.noTruth
 have n1:=Tryz.noNot
 have yy:=Tryz.yesAllOf
 have H:=Qaa h
 have HL:=Qaa hl
 have hB0:∀ o,Below w.heap.size w (w.alloc o):=fun o=>(Below.refl _ _).alloc (Nat.le_refl _) o
 have HB0:=Qaa hB0
 clear h hl hB0
 go_enter Tryz.func252,Tryz.ntmps252
 go_wp2_with (first | (go_at_call 275;refine (HO.out _ (HBB.out _) (H.out.alloc _)).mono ?_;rintro e w1 ⟨rfl,hc1,hf1⟩;have HC2:=Qaa hc1;have HF2:=Qaa ((Fr.of_below (HB0.out _)).trans hf1);clear hc1 hf1;skip))
 go_end0
 exact ⟨rfl,HC2.out,HF2.out⟩
theorem QmX (hw:List UInt8) (p:Nat) (a:Option Addr) (n c:Nat) (ds:List Ins) (B cb:Nat) (cs:List Ins) (w:World) (h:CC w B cb cs) (hl:B≤w.heap.size) (ho:∀ W,Below B w W→CC W B cb cs→Calls Tryz.prog 275 #[.pointer (some ⟨cb,0,none⟩),.slice a n c,.int .i64 4,.bool true] W (Qde B cb ds W)) :
 Calls Tryz.prog 252 #[.pointer (some ⟨cb,0,none⟩),.iface 209 (.agg #[.string (Qag hw),.int .i64 p,.slice a n c])] w (Qde B cb ds w):=by
 have HO:=Qaa ho
 have HBB:Hid (∀ o,Below B w (w.alloc o)):=fun o=>(Below.refl _ _).alloc (Nat.le_of_lt (Nat.lt_of_le_of_lt h.lt.1 h.lt.2)) o
 clear ho
 have n0:=Tryz.noTruth
 have n1:=Tryz.noNot
 have n2:=Tryz.noAllOf
 have yy:=Tryz.yesAnyOf
 have H:=Qaa h
 have HL:=Qaa hl
 have hB0:∀ o,Below w.heap.size w (w.alloc o):=fun o=>(Below.refl _ _).alloc (Nat.le_refl _) o
 have HB0:=Qaa hB0
 clear h hl hB0
 go_enter Tryz.func252,Tryz.ntmps252
 go_wp2_with (first | (go_at_call 275;refine (HO.out _ (HBB.out _) (H.out.alloc _)).mono ?_;rintro e w1 ⟨rfl,hc1,hf1⟩;have HC2:=Qaa hc1;have HF2:=Qaa ((Fr.of_below (HB0.out _)).trans hf1);clear hc1 hf1;skip))
 go_end0
 exact ⟨rfl,HC2.out,HF2.out⟩
end
section
open Go.RowKit
theorem Fr.grownNew {P:Nat→Obj→Prop} {u w w':World} {row:Option Nat} (h:Fr P u w) (hg:w.grownBy w' row) (hr:∀ k,row=some k→u.heap.size≤k):Fr P u w':=
 ⟨hg.os.trans h.os,hg.tape.trans h.tape,hg.output.trans h.output,Nat.le_trans h.size hg.size,fun k o hk hn=>by
  have hk':=h.block k o hk hn
  rw [hg.block k (QaM hk') (fun e=>by have:=hr k e.symm;have:=QaM hk;omega)]
  exact hk'⟩
def Qfg (js:List Nat):List Value:=js.map fun j=>.int .i64 ((j:Nat):Int)
theorem Qhl (js:List Nat) (j:Nat):Qfg js++[.int .i64 (j:Int)]=Qfg (js++[j]):=by simp [Qfg]
theorem Tryz.infoIntJ:(Tryz.prog.info? 3).map (fun i=>(i.zero,i.size,i.bytes))=some (some (.int .i64 0),1,8):=by kernel_rfl
theorem Qhg (W:World) (op:Int):Qb2 W (QcD op) (.slice none 0 0) (.slice none 0 0):=Qc8 W _ rfl rfl (by show (-9223372036854775808:Int)≤0;decide) (by show (0:Int)≤9223372036854775807;decide)
theorem QnU (W:World) (b:Bool):Qb2 W (QcQ b) (.slice none 0 0) (.slice none 0 0):=Qc8 W _ rfl rfl (by cases b <;> decide) (by cases b <;> decide)
theorem QsZ (x:Int):∀ u∈[Value.int .i64 x],u.oneCell'=true:=by
 intro u hu
 simp at hu
 subst hu
 rfl
theorem CC.grownInt {w w':World} {B cb base n:Nat} {cs:List Ins} {v:Value} {xs:List Value} (h:CC w B cb cs) (ho:w.ownsRow base 3 1 v n xs) (hg:w.grownBy w' v.ownBlock):CC w' B cb cs:=by
 obtain ⟨cv,ps,e,h⟩:=h
 refine ⟨cv,ps,e,h.fr (P:=fun k o=>∃ cs,o=.cells cs 3) ((Fr.refl _ w).grown hg (fun k o e ho'=>(QbG ho k o e ho').2)) ?_ ?_ ?_⟩
 ·rintro k cs ⟨cs',e⟩;injection e with _ e;exact absurd e (by decide)
 ·rintro k cs ⟨cs',e⟩;injection e with _ e;exact absurd e (by decide)
 ·rintro k cs ⟨cs',e⟩;injection e with _ e;exact absurd e (by decide)
theorem Qn9 {w:World} {base:Nat} {v:Value} {js:List Nat} (ho:w.ownsRow base 3 1 v js.length (Qfg js)) (hne:js≠[]):∃ gj c kcs,v=.slice (some ⟨gj,0,none⟩) js.length c∧w.heap[gj]?=some (.cells kcs 3)∧∀ k,k < js.length→kcs[k]?=some (.int .i64 ((js.getD k 0:Nat):Int)):=by
 rcases ho.2 with ⟨_,h2⟩ | ⟨g,cap,cur,hv,hg,hb,hc,_,hs,ht⟩
 ·exact absurd (List.eq_nil_of_length_eq_zero h2) hne
 ·refine ⟨g,cap,cur,hv,hb,fun k hk=>?_⟩
  have h4:(Qfg js)[k]?=some (.int .i64 ((js.getD k 0:Nat):Int)):=by
   unfold Qfg
   rw [List.getElem?_map,List.getElem?_eq_getElem hk,List.getD_eq_getElem?_getD,List.getElem?_eq_getElem hk];rfl
  rw [← ht,List.getElem?_take_of_lt (by omega)] at h4
  rw [← h4];simp
def gTo {α:Type} (sub:α→List Ins→List Ins) (jump:Int) (ts:List α) (cs:List Ins) (k:Nat):List Ins×List Nat:=(ts.take k).foldl (QdW sub jump) (cs,[])
theorem Qkn {α:Type} (sub:α→List Ins→List Ins) (jump:Int) (ts:List α) (cs:List Ins) (k:Nat) (h:k < ts.length):gTo sub jump ts cs (k+1)=QdW sub jump (gTo sub jump ts cs k) ts[k]:=by
 unfold gTo
 rw [List.take_add_one,List.getElem?_eq_getElem h,List.foldl_append]
 rfl
theorem Qtr {α:Type} (sub:α→List Ins→List Ins) (jump:Int) (ts:List α) (cs:List Ins) (b:Bool):QcH sub jump b ts cs=QcY b (gTo sub jump ts cs ts.length):=by
 unfold QcH gTo
 rw [List.take_length]
theorem Qp9 {α:Type} (sub:α→List Ins→List Ins) (jump:Int) (ts:List α) (cs:List Ins):∀ k,k≤ts.length→(gTo sub jump ts cs k).2.length=k
 | 0,_=>rfl
 | k+1,h=>by
  rw [Qkn sub jump ts cs k h]
  have:=Qp9 sub jump ts cs k (by omega)
  unfold QdW
  simp [this]
theorem Qs5 {α:Type} {sub:α→List Ins→List Ins} (hm:∀ t cs,cs.length≤(sub t cs).length) (jump:Int) (ts:List α) (cs:List Ins):∀ k,k≤ts.length→∀ j∈(gTo sub jump ts cs k).2,j < (gTo sub jump ts cs k).1.length
 | 0,_,j,hj=>by cases hj
 | k+1,h,j,hj=>by
  have ih:=Qs5 hm jump ts cs k (by omega)
  rw [Qkn sub jump ts cs k h] at hj ⊢
  have h1:=hm ts[k] (gTo sub jump ts cs k).1
  unfold QdW at hj ⊢
  simp only [List.mem_append,List.mem_singleton,List.length_append,List.length_cons,List.length_nil] at hj ⊢
  rcases hj with hj | hj
  ·have:=ih j hj;omega
  ·omega
theorem Qsh {α:Type} {sub:α→List Ins→List Ins} (hm:∀ t cs,cs.length≤(sub t cs).length) (jump:Int) (ts:List α) (cs:List Ins) (k:Nat):(gTo sub jump ts cs k).1.length≤(gTo sub jump ts cs ts.length).1.length:=by
 unfold gTo
 rw [List.take_length]
 have:=QjF hm jump (ts.drop k) ((ts.take k).foldl (QdW sub jump) (cs,[]))
 rw [← List.foldl_append,List.take_append_drop] at this
 exact this
theorem Qno {α:Type} (sub:α→List Ins→List Ins) (jump:Int) (settled:Bool) (ts:List α) (B cb g c:Nat) (cs:List Ins) (w:World) (h:CC w B cb cs) (hne:ts≠[]) (hgB:g < B) (htl:ts.length≤1000000)
 (hm:∀ t cs,cs.length≤(sub t cs).length) (hl:(QcH sub jump settled ts cs).length≤1000000)
 (hc:∀ j (hj:j < ts.length),∃ ty y,w.cell? ⟨g,j,none⟩=some (.iface ty y)∧SubC 252 B cb w (.iface ty y) (sub ts[j])) :
 Calls Tryz.prog 275 #[.pointer (some ⟨cb,0,none⟩),.slice (some ⟨g,0,none⟩) ts.length c,.int .i64 jump,.bool settled] w (Qde B cb (QcH sub jump settled ts cs) w):=by
 obtain ⟨i0,hi,hz0,hz1,hz2⟩:=info_parts Tryz.infoIntJ
 have hBw:B≤w.heap.size:=Nat.le_of_lt (Nat.lt_of_le_of_lt h.lt.1 h.lt.2)
 rw [Qtr] at hl ⊢
 have HE:Hid (∀ r,r=gTo sub jump ts cs ts.length→QcY settled r=QcY settled (gTo sub jump ts cs ts.length)):=fun r e=>by rw [e]
 rw [Qdw] at hl
 have HL:=Qaa hl
 have HC:=Qaa hc
 have HM:=Qaa hm
 have H:=Qaa h
 clear hc hm h hl
 go_enter Tryz.func275,Tryz.ntmps275
 go_wp2_with fail
 go_loopw [8,10,14] (fun v _ i wr=>∃ (k:Nat) (r:List Ins×List Nat),k≤ts.length∧i=.int .i64 (k:Int)∧r=gTo sub jump ts cs k∧wr.ownsRow w.heap.size 3 1 v r.2.length (Qfg r.2)∧CC wr B cb r.1∧Fr (PCo B) w wr) (fun _ _ i _=>ts.length - (intOf i).toNat)
 case atStart=>exact ⟨0,_,Nat.zero_le _,by go_num,rfl,World.ownsRow_nil _ _ _ _,H.out,Fr.refl _ _⟩
 case round=>
  obtain ⟨k,r,hk,rfl,hr,hown,hCC,hF⟩:=hrel
  have hrl:r.2.length=k:=by rw [hr];exact Qp9 sub jump ts cs k hk
  have hBelow:Below B w wr:=hF.co H.out
  by_cases hlt:k < ts.length
  ·obtain ⟨ty,y,hcy,hty⟩:=HC.out k hlt
   have hck:wr.cell? ⟨g,k,none⟩=some (.iface ty y):=by
    rw [hBelow.cell (p:=⟨g,k,none⟩) hgB]
    exact hcy
   have HS:=Qaa (Qkn sub jump ts cs k hlt)
   have hle:=Qsh HM.out jump ts cs (k+1)
   rw [HS.out,← hr] at hle
   rw [← hr] at HS
   unfold QdW at hle
   simp only [List.length_append,List.length_cons,List.length_nil] at hle
   have h3:=HL.out
   have HTY:=Qaa hty
   obtain ⟨t,ht⟩:∃ t,ts[k]=t:=⟨_,rfl⟩
   rw [ht] at HS HTY hle
   obtain ⟨A,hA⟩:∃ A,sub t r.1=A:=⟨_,rfl⟩
   have HLA:Hid ((sub t r.1).length≤1000000):=by show (sub t r.1).length≤_;omega
   have HLB:Hid (A.length+1≤1000000):=by show _≤_;rw [← hA];omega
   have HSA:Hid (gTo sub jump ts cs (k+1)=(A++[QcD jump],r.2++[A.length])):=by
    show _=_
    rw [HS.out];unfold QdW;rw [hA]
   have HAe:=Qaa hA
   have HOW:=Qaa hown
   have HCC:=Qaa hCC
   have HF:=Qaa hF
   have HBe:=Qaa hBelow
   obtain ⟨la,lc,hlv⟩:=QaN hown
   subst hlv
   have hrk:r.2.length≤1000000:=by omega
   have hwl:=hF.size
   clear hown hCC hF hBelow hcy hty hle h3 hA ht hr HS hrl HE
   go_wp2_with (first
    | (go_at_call 252;refine (HTY.out wr r.1 HBe.out HCC.out HLA.out).mono ?_;rintro e w1 ⟨rfl,hc1,hf1⟩;rw [HAe.out] at hc1;have HC1:=Qaa hc1;have HF1:=Qaa (HF.out.trans hf1);have HO1:=Qaa (Qa8 HOW.out hf1 (fun _ _=>PCo.not (by decide) (by decide)));clear hc1 hf1;skip)
    | (go_at_call 231;refine (Qcd B cb A (QcD jump) _ _ w1 HC1.out (Qhg _ _) HLB.out).mono ?_;rintro e w2 ⟨rfl,hc2,hf2⟩;have HC2:=Qaa hc2;have HF2:=Qaa (HF1.out.trans hf2);have HO2:=Qaa (Qa8 HO1.out hf2 (fun _ _=>PCo.not (by decide) (by decide)));have hw2:=HF2.out.size;clear hc2 hf2;skip)
    | (at_builtin;refine wpList_append_own _ rfl _ _ 330 rfl w.heap.size 3 i0 _ 1 8 Tryz.underlying330 hi hz0 hz1 hz2 rfl (by decide) _ _ _ rfl (HO2.out.alloc _) ⟨w2.heap.size,0,none⟩ 1 1 [.int .i64 (A.length:Int)] rfl rfl (cell_one_new _ _ _) (QsZ _) (by unfold maxLen;omega) (by omega) (by simp;omega) ?_;intro v5 w5 ho5 hg5 _;obtain ⟨a5,k5,hv5⟩:=QaN ho5;subst hv5;have HO5:=Qaa ho5;have HG5:=Qaa hg5;clear ho5 hg5;skip))
   go_roundw
   case rel=>
    refine ⟨k+1,(A++[QcD jump],r.2++[A.length]),by omega,by go_num,HSA.out.symm,?_,(HC2.out.alloc _).grownInt (HO2.out.alloc _) HG5.out,(HF2.out.alloc _).grownNew HG5.out (fun k hk=>(HO2.out.lt k hk).1)⟩
    show w5.ownsRow w.heap.size 3 1 _ (r.2++[A.length]).length (Qfg (r.2++[A.length]))
    rw [List.length_append,← Qhl]
    exact HO5.out
   case measure=>simp [intOf];omega
  ·have hk':k=ts.length:=by omega
   subst hk'
   have hrne:r.2≠[]:=fun e=>hne (List.eq_nil_of_length_eq_zero (by rw [← hrl,e];rfl))
   obtain ⟨gj,cj,kcs,hv,hjb,hjc⟩:=Qn9 hown hrne
   subst hv
   have hjlt:∀ j∈r.2,j < r.1.length:=by rw [hr];exact Qs5 HM.out jump ts cs ts.length (Nat.le_refl _)
   have h3:r.1.length+3≤1000000:=by rw [hr];exact HL.out
   have HEND:Hid (QcY settled (gTo sub jump ts cs ts.length)=landL [r.1.length+1] (landL r.2 (r.1++[QcQ (!settled),QcD 3])++[QcQ settled])):=by
    show _=_
    rw [← hr];rfl
   obtain ⟨L2,hL2⟩:∃ L2,r.1++[QcQ (!settled),QcD 3]=L2:=⟨_,rfl⟩
   have hL2l:L2.length=r.1.length+2:=by rw [← hL2];simp
   obtain ⟨L3,hL3⟩:∃ L3,landL r.2 L2=L3:=⟨_,rfl⟩
   have hL3l:L3.length=r.1.length+2:=by rw [← hL3,Qbh,hL2l]
   obtain ⟨E,hE⟩:∃ E,r.1.length+1=E:=⟨_,rfl⟩
   rw [hL2,hL3,hE] at HEND
   have q1:r.1.length+2≤1000000:=by omega
   have q2:∀ j∈r.2,j < L2.length:=fun j hj=>by have:=hjlt j hj;omega
   have q3:L2.length≤1000000:=by omega
   have q4:r.2.length≤1000000:=by rw [hrl];exact htl
   have q5:L3.length+1≤1000000:=by omega
   have q6:E < (L3++[QcQ settled]).length:=by rw [List.length_append,hL3l,← hE];simp
   have q7:(L3++[QcQ settled]).length≤1000000:=by rw [List.length_append];exact q5
   have Q:=Qaa (And.intro q1 (And.intro q2 (And.intro q3 (And.intro q4 (And.intro q5 (And.intro q6 q7))))))
   have HE2:=Qaa hL2
   have HE3:=Qaa hL3
   have HEE:=Qaa hE
   have HJB:=Qaa hjb
   have HJC:=Qaa hjc
   have HCC:=Qaa hCC
   have HF:=Qaa hF
   clear hown hCC hF hBelow hr HE hjb hjc hjlt h3 hL2 hL2l hL3 hL3l hE q1 q2 q3 q4 q5 q6 q7 hrl hlt hk HC HM HL
   have hpp:∀ b:Bool,Qdk (QcQ b) (.slice none 0 0) (.slice none 0 0)=.agg #[.int .i64 (QcQ b).op,.int .i64 (QcQ b).n,.int .i64 (QcQ b).tag,.bool (QcQ b).oct,.slice none 0 0,.slice none 0 0,.int .i64 (QcQ b).at_]:=fun _=>rfl
   have HPP:=Qaa hpp
   clear hpp
   go_wp2_with (first
    | (have gg:=HC5;go_at_call 253;refine (QlY B cb E _ _ HC5.out Q.out.2.2.2.2.2.1 Q.out.2.2.2.2.2.2).mono ?_;rintro e w6 ⟨rfl,hc6,hf6⟩;have HC6:=Qaa hc6;have HF6:=Qaa (HF5.out.trans hf6);clear hc6 hf6;skip)
    | (have gg:=HC4;go_at_call 231;refine (Qcd B cb L3 (QcQ settled) _ _ _ HC4.out (QnU _ _) Q.out.2.2.2.2.1).mono ?_;rintro e w5 ⟨rfl,hc5,hf5⟩;have HC5:=Qaa hc5;have HF5:=Qaa (HF4.out.trans hf5);clear hc5 hf5;skip)
    | (have gg:=HC3;go_at_call 274;refine (Qjy settled _).mono ?_;rintro e w4 ⟨rfl,hb4⟩;rw [HPP.out];have HC4:=Qaa (HC3.out.below hb4);have HF4:=Qaa (HF3.out.trans (Fr.of_below hb4));clear hb4;skip)
    | (have gg:=HC2;go_at_call 253;refine (Qii B cb gj cj r.2 kcs L2 _ HC2.out Q.out.2.1 HJ2.out HJC.out Q.out.2.2.1 Q.out.2.2.2.1).mono ?_;rintro e w3 ⟨rfl,hc3,hf3⟩;rw [HE3.out] at hc3;have HC3:=Qaa hc3;have HF3:=Qaa (HF2.out.trans hf3);clear hc3 hf3;skip)
    | (have gg:=HC1;go_at_call 231;refine (QsI B cb r.1 (QcQ (!settled)) (QcD 3) _ _ _ _ _ HC1.out (QnU _ _) (Qhg _ _) Q.out.1).mono ?_;rintro e w2 ⟨he,hc2,hf2⟩;rw [HEE.out] at he;subst he;rw [HE2.out] at hc2;have HC2:=Qaa hc2;have HF2:=Qaa (HF1.out.trans hf2);have HJ2:=Qaa (hf2.block _ _ HJ1.out (PCo.not (by decide) (by decide)));clear hc2 hf2;skip)
    | (go_at_call 274;refine (Qjy (!settled) _).mono ?_;rintro e w1 ⟨rfl,hb1⟩;rw [HPP.out];have HC1:=Qaa (HCC.out.below hb1);have HF1:=Qaa (HF.out.trans (Fr.of_below hb1));have HJ1:=Qaa (Qaq HJB.out hb1);clear hb1;skip))
   go_end0
   rw [HEND.out]
   exact ⟨rfl,HC6.out,HF6.out⟩
end
section
open Go.RowKit
theorem Qgj (z:List UInt8):z.length≤(Qat z).length:=by
 unfold Qat
 rw [List.length_cons,List.length_append]
 have:z.length≤(z.flatMap Qb9).length:=by
  induction z with
  | nil=>simp
  | cons c r ih=>
   rw [List.flatMap_cons,List.length_append,List.length_cons]
   have:1≤(Qb9 c).length:=by unfold Qb9;split <;> simp
   omega
 omega
theorem Qe6 (xs:List (List UInt8)):(∀ z∈xs,z.length≤(Qa2 xs).length)∧xs.length≤(Qa2 xs).length+1:=by
 match xs with
 | []=>exact ⟨fun z hz=>(by cases hz),Nat.zero_le _⟩
 | [x]=>exact ⟨fun z hz=>(by rw [List.mem_singleton.1 hz];exact Qgj x),by simp⟩
 | x :: y :: r=>
  have e:(Qa2 (x :: y :: r)).length=(Qd2 [44,32] ((x :: y :: r).map Qat)).length+2:=by unfold Qa2;simp
  refine ⟨fun z hz=>?_,?_⟩
  ·have h1:=QhF ((x :: y :: r).map Qat) (Qat z) (List.mem_map_of_mem hz)
   have h2:=Qgj z
   omega
  ·have h1:=Qgf ((x :: y :: r).map Qat)
   rw [List.length_map] at h1
   omega
theorem QiU {req:List (List UInt8)} (B cb:Nat):∀ (n:Nat) (x:Qcy n) (w:World) (v:Value),TestV n (fun k=>k < B) x w v→Qs3 (WfT req) n x→(Qa6 n x).length≤100000→SubC 252 B cb w v (Qb5 n x)
 | 0,x,w,v,h,ha,_=>ha.elim
 | n+1,x,w,v,hv0,ha,hlen=>fun W cs hW hCC hl=>by
  obtain ⟨hw,hsub⟩:=ha
  have h:Qeh (fun k=>k < B) (TestV n) x W v:=(Qbq (n+1)).keep _ _ _ _ _ hv0 (fun k hk _=>hW.block k hk)
  have hlen:(Qa7 x.1 (x.2.map (Qa6 n))).length≤100000:=hlen
  have hl:(QaT (Qb5 n) x.1 x.2 cs).length≤1000000:=hl
  show Calls Tryz.prog 252 #[.pointer (some ⟨cb,0,none⟩),v] W (Qde B cb (QaT (Qb5 n) x.1 x.2 cs) W)
  have hBW:B≤W.heap.size:=Nat.le_of_lt (Nat.lt_of_le_of_lt hCC.lt.1 hCC.lt.2)
  have hok:∀ a∈x.2,∀ u,TestV n (fun k=>k < B) a W u→(Qa6 n a).length≤100000→∃ ty y,u=.iface ty y∧SubC 252 B cb W (.iface ty y) (Qb5 n a):=fun a ha u hu hl=>by
   obtain ⟨ty,y,rfl⟩:=(Qbq n).form _ _ _ _ hu
   exact ⟨ty,y,rfl,QiU B cb n a W _ hu (hsub a ha) hl⟩
  have hmt:∀ hd,(QbU hd x.1).length≤100000→x.1.fr.length≤1000000∧x.1.keys.length≤1000000∧(∀ z∈x.1.fr,z.length≤100000)∧(∀ z∈x.1.keys,z.length≤100000):=fun hd h=>by
   have h1:(Qa2 x.1.fr).length≤100000:=Nat.le_trans (Qcz (by simp)) h
   have h2:(Qa2 x.1.keys).length≤100000:=Nat.le_trans (Qcz (by simp)) h
   obtain ⟨a1,a2⟩:=Qe6 x.1.fr
   obtain ⟨b1,b2⟩:=Qe6 x.1.keys
   exact ⟨by omega,by omega,fun z hz=>Nat.le_trans (a1 z hz) h1,fun z hz=>Nat.le_trans (b1 z hz) h2⟩
  have hgr:∀ (hd:List UInt8) (u:Value) (jump:Int) (b:Bool),trX (fun k=>k < B) (TestV n) x.2 W u→x.2≠[]→(QbT hd (x.2.map (Qa6 n))).length≤100000→(QcH (Qb5 n) jump b x.2 cs).length≤1000000→∃ a m c,u=.slice a m c∧∀ W2,Below B W W2→CC W2 B cb cs→Calls Tryz.prog 275 #[.pointer (some ⟨cb,0,none⟩),.slice a m c,.int .i64 jump,.bool b] W2 (Qde B cb (QcH (Qb5 n) jump b x.2 cs) W2):=fun hd u jump b hu hne hlt hlg=>by
   obtain ⟨g,c,rfl,hg,hx⟩:=hu
   refine ⟨_,_,_,rfl,fun W2 hW2 hC2=>?_⟩
   have hcount:x.2.length≤1000000:=by
    have h1:=Qgf (x.2.map (Qa6 n))
    rw [List.length_map] at h1
    unfold QbT at hlt
    simp only [List.length_append] at hlt
    omega
   refine Qno (Qb5 n) jump b x.2 B cb g c cs W2 hC2 hne hg hcount (Qhd n) hlg (fun j hj=>?_)
   obtain ⟨uj,hcj,hvj⟩:=hx j hj
   have hmem:x.2[j]∈x.2:=List.getElem_mem hj
   obtain ⟨ty,y,rfl,hty⟩:=hok _ hmem uj hvj (Nat.le_trans (QkP (hw:=hd) (List.mem_map_of_mem hmem)) hlt)
   exact ⟨ty,y,by rw [hW2.cell (p:=⟨g,j,none⟩) hg];exact hcj,hty.below hW2⟩
  unfold Qeh at h
  split at h
  ·rename_i e
   obtain ⟨h2,rfl⟩:=h
   have et:QaT (Qb5 n) x.1 x.2 cs=cs++[QcQ true]:=by unfold QaT;rw [e];rfl
   rw [et] at hl ⊢
   exact Qhy Qfk _ true B cb cs W hCC (by simpa using hl)
  ·rename_i e
   obtain ⟨h2,rfl⟩:=h
   have et:QaT (Qb5 n) x.1 x.2 cs=cs++[QcQ false]:=by unfold QaT;rw [e];rfl
   rw [et] at hl ⊢
   exact Qhy QdA _ false B cb cs W hCC (by simpa using hl)
  ·rename_i e
   obtain ⟨a,u,h2,rfl,hu⟩:=h
   have et:QaT (Qb5 n) x.1 x.2 cs=Qb5 n a cs++[QcD 2]:=by unfold QaT;rw [e,h2];rfl
   have ett:Qa7 x.1 (x.2.map (Qa6 n))=Qa1 [kNot,Qa6 n a]:=by unfold Qa7;rw [e,h2];rfl
   rw [et] at hl ⊢
   rw [ett] at hlen
   obtain ⟨ty,y,rfl,hty⟩:=hok a (by rw [h2];simp) u hu (Nat.le_trans (Qcz (ps:=[kNot,Qa6 n a]) (by simp)) hlen)
   exact QqG kNot _ ty y _ B cb cs W hCC (by simpa using hl) hty
  ·rename_i e
   obtain ⟨u,rfl,hu,hne⟩:=h
   have et:QaT (Qb5 n) x.1 x.2 cs=QcH (Qb5 n) 5 false x.2 cs:=by unfold QaT;rw [e];rfl
   have ett:Qa7 x.1 (x.2.map (Qa6 n))=QbT QcG (x.2.map (Qa6 n)):=by unfold Qa7;rw [e];rfl
   rw [et] at hl ⊢
   rw [ett] at hlen
   obtain ⟨a,m,c,rfl,hG⟩:=hgr QcG u 5 false hu hne hlen hl
   exact QmB QcG _ a m c _ B cb cs W hCC hBW hG
  ·rename_i e
   obtain ⟨u,rfl,hu,hne⟩:=h
   have et:QaT (Qb5 n) x.1 x.2 cs=QcH (Qb5 n) 4 true x.2 cs:=by unfold QaT;rw [e];rfl
   have ett:Qa7 x.1 (x.2.map (Qa6 n))=QbT QcF (x.2.map (Qa6 n)):=by unfold Qa7;rw [e];rfl
   rw [et] at hl ⊢
   rw [ett] at hlen
   obtain ⟨a,m,c,rfl,hG⟩:=hgr QcF u 4 true hu hne hlen hl
   exact QmX QcF _ a m c _ B cb cs W hCC hBW hG
  ·rename_i e
   obtain ⟨h2,u,rfl,hu⟩:=h
   have et:QaT (Qb5 n) x.1 x.2 cs=cs++[Qcu 6 x.1]:=by unfold QaT;rw [e];rfl
   have ett:Qa7 x.1 (x.2.map (Qa6 n))=QbU QbA x.1:=by unfold Qa7;rw [e];rfl
   rw [et] at hl ⊢
   rw [ett] at hlen
   obtain ⟨a1,a2,a3,a4⟩:=hmt _ hlen
   exact QlP _ QbA x.1 u B cb cs W hCC (by simpa using hl) hu a1 a2 a3 a4
  ·rename_i e
   obtain ⟨h2,u,rfl,hu⟩:=h
   have et:QaT (Qb5 n) x.1 x.2 cs=cs++[Qcu 7 x.1]:=by unfold QaT;rw [e];rfl
   have ett:Qa7 x.1 (x.2.map (Qa6 n))=QbU QaH x.1:=by unfold Qa7;rw [e];rfl
   rw [et] at hl ⊢
   rw [ett] at hlen
   obtain ⟨a1,a2,a3,a4⟩:=hmt _ hlen
   exact QiE _ QaH x.1 u B cb cs W hCC (by simpa using hl) hu a1 a2 a3 a4
  ·rename_i e
   obtain ⟨h2,u,rfl,hu⟩:=h
   have et:QaT (Qb5 n) x.1 x.2 cs=cs++[Qcu 8 x.1]:=by unfold QaT;rw [e];rfl
   have ett:Qa7 x.1 (x.2.map (Qa6 n))=QbU Qbu x.1:=by unfold Qa7;rw [e];rfl
   rw [et] at hl ⊢
   rw [ett] at hlen
   obtain ⟨a1,a2,a3,a4⟩:=hmt _ hlen
   exact QlC _ Qbu x.1 u B cb cs W hCC (by simpa using hl) hu a1 a2 a3 a4
  ·rename_i e
   obtain ⟨h2,u,rfl,hu⟩:=h
   have et:QaT (Qb5 n) x.1 x.2 cs=cs++[⟨9,0,0,false,x.1.fr,[],0⟩]:=by unfold QaT;rw [e];rfl
   have ett:Qa7 x.1 (x.2.map (Qa6 n))=Qa1 [QbJ,Qa2 x.1.fr]:=by unfold Qa7;rw [e];rfl
   rw [et] at hl ⊢
   rw [ett] at hlen
   have h1:(Qa2 x.1.fr).length≤100000:=Nat.le_trans (Qcz (ps:=[QbJ,Qa2 x.1.fr]) (by simp)) hlen
   obtain ⟨a1,a2⟩:=Qe6 x.1.fr
   exact QlE _ QbJ _ x.1.fr u B cb cs W hCC (by simpa using hl) hu (by omega) (fun z hz=>Nat.le_trans (a1 z hz) h1)
  ·rename_i h0 h1 h2 h3 h4 h5 h6 h7 h8
   obtain ⟨_,rfl⟩:=h
   have e:x.1.kind=9:=by
    have a0:x.1.kind≠0:=h0
    have a1:x.1.kind≠1:=h1
    have a2:x.1.kind≠2:=h2
    have a3:x.1.kind≠3:=h3
    have a4:x.1.kind≠4:=h4
    have a5:x.1.kind≠5:=h5
    have a6:x.1.kind≠6:=h6
    have a7:x.1.kind≠7:=h7
    have a8:x.1.kind≠8:=h8
    have:=hw.kind
    omega
   have et:QaT (Qb5 n) x.1 x.2 cs=cs++[⟨10,x.1.num,x.1.tag,false,[],[],0⟩]:=by unfold QaT;rw [e];rfl
   rw [et] at hl ⊢
   exact QoW Qd4 _ x.1.tag x.1.num B cb cs W hCC (by simpa using hl) hw.num
end
section
open Go.RowKit
attribute [local go_sem ↓] Go.wp_at_zero Go.wp_at_succ
theorem Qr6 (hw:List UInt8) (p:Nat) (a ea:Option Addr) (n c en ec:Nat) (els:Bool) (ds:List Ins) (B cb:Nat) (cs:List Ins) (w:World) (h:CC w B cb cs) (hl:B≤w.heap.size) (ho:∀ W,Below B w W→CC W B cb cs→Calls Tryz.prog 233 #[.pointer (some ⟨cb,0,none⟩),.agg #[.string (Qag hw),.int .i64 p,.slice a n c,.bool els,.slice ea en ec]] W (Qde B cb ds W)) :
 Calls Tryz.prog 192 #[.pointer (some ⟨cb,0,none⟩),.iface 275 (.agg #[.string (Qag hw),.int .i64 p,.slice a n c,.bool els,.slice ea en ec])] w (Qde B cb ds w):=by
 have HO:=Qaa ho
 have HBB:Hid (∀ o,Below B w (w.alloc o)):=fun o=>(Below.refl _ _).alloc hl o
 clear ho
 have n0:=Tryz.noAct
 have n1:=Tryz.noSet
 have n2:=Tryz.noDiscard
 have n3:=Tryz.noStop
 have yy:=Tryz.yesIf
 have H:=Qaa h
 have HL:=Qaa hl
 have HC0:Hid (∀ o,CC (w.alloc o) B cb cs):=fun o=>h.alloc o
 have hB0:∀ o,Below w.heap.size w (w.alloc o):=fun o=>(Below.refl _ _).alloc (Nat.le_refl _) o
 have HB0:=Qaa hB0
 clear h hl hB0
 go_enter Tryz.func192,Tryz.ntmps192
 go_wp2_with (first | (go_at_call 233;refine (HO.out _ (HBB.out _) (HC0.out _)).mono ?_;rintro e w1 ⟨rfl,hc1,hf1⟩;have HC2:=Qaa hc1;have HF2:=Qaa ((Fr.of_below (HB0.out _)).trans hf1);clear hc1 hf1;skip))
 go_end0
 exact ⟨rfl,HC2.out,HF2.out⟩
end
section
open Go.RowKit
theorem QmD (B cb:Nat) (w:World):SubC 141 B cb w (.slice none 0 0) (fun cs=>cs):=fun W cs hW hCC hl=>by
 have HCC:=Qaa hCC
 clear hCC
 go_enter Tryz.func141,Tryz.ntmps141
 go_wp2_with fail
 refine wp_loop_rounds 1 ?_
 rw [rounds_succ]
 go_wp2
 go_end0
 exact ⟨rfl,HCC.out,Fr.refl _ _⟩
theorem QnF {α:Type} (sub:α→List Ins→List Ins) (ts:List α) (cs:List Ins) (k:Nat) (h:k < ts.length):blockC sub (ts.take (k+1)) cs=sub ts[k] (blockC sub (ts.take k) cs):=by
 unfold blockC
 rw [List.take_add_one,List.getElem?_eq_getElem h,List.foldl_append]
 rfl
theorem QnJ {α:Type} {sub:α→List Ins→List Ins} (hm:∀ t cs,cs.length≤(sub t cs).length) (ts:List α) (cs:List Ins) (k:Nat):(blockC sub (ts.take k) cs).length≤(blockC sub ts cs).length:=by
 have:=Qda hm (ts.drop k) (blockC sub (ts.take k) cs)
 unfold blockC at this ⊢
 rw [← List.foldl_append,List.take_append_drop] at this
 exact this
theorem Ql4 {α:Type} (sub:α→List Ins→List Ins) (ts:List α) (B cb g c:Nat) (w:World) (hgB:g < B) (htl:ts.length≤1000000)
 (hm:∀ t cs,cs.length≤(sub t cs).length)
 (hc:∀ j (hj:j < ts.length),∃ ty y,w.cell? ⟨g,j,none⟩=some (.iface ty y)∧SubC 192 B cb w (.iface ty y) (sub ts[j])) :
 SubC 141 B cb w (.slice (some ⟨g,0,none⟩) ts.length c) (blockC sub ts):=fun W cs hW hCC hl=>by
 have HL:=Qaa hl
 have HC:=Qaa hc
 have HM:=Qaa hm
 have HW:=Qaa hW
 have H:=Qaa hCC
 clear hc hm hCC hl hW
 go_enter Tryz.func141,Tryz.ntmps141
 go_wp2_with fail
 go_loopw [5,8] (fun _ i wr=>∃ (k:Nat) (r:List Ins),k≤ts.length∧i=.int .i64 (k:Int)∧r=blockC sub (ts.take k) cs∧CC wr B cb r∧Fr (PCo B) W wr) (fun _ i _=>ts.length - (intOf i).toNat)
 case atStart=>exact ⟨0,_,Nat.zero_le _,by go_num,rfl,H.out,Fr.refl _ _⟩
 case round=>
  obtain ⟨k,r,hk,rfl,hr,hCC,hF⟩:=hrel
  have hBelow:Below B W wr:=hF.co H.out
  by_cases hlt:k < ts.length
  ·obtain ⟨ty,y,hcy,hty⟩:=HC.out k hlt
   have hck:wr.cell? ⟨g,k,none⟩=some (.iface ty y):=by
    rw [(HW.out.trans hBelow).cell (p:=⟨g,k,none⟩) hgB]
    exact hcy
   have hS:=QnF sub ts cs k hlt
   have hle:=QnJ HM.out ts cs (k+1)
   rw [hS,← hr] at hle
   rw [← hr] at hS
   have HS:=Qaa hS
   have HLA:=Qaa (Nat.le_trans hle HL.out)
   have HTY:=Qaa hty
   have HCC:=Qaa hCC
   have HF:=Qaa hF
   have HBe:=Qaa (HW.out.trans hBelow)
   clear hCC hF hBelow hcy hty hle hr hS
   go_wp2_with (first
    | (go_at_call 192;refine (HTY.out wr r HBe.out HCC.out HLA.out).mono ?_;rintro e w1 ⟨rfl,hc1,hf1⟩;have HC1:=Qaa hc1;have HF1:=Qaa (HF.out.trans hf1);clear hc1 hf1;skip))
   go_roundw
   case rel=>exact ⟨k+1,_,by omega,by go_num,rfl,by rw [HS.out];exact HC1.out,HF1.out⟩
   case measure=>simp [intOf];omega
  ·have hk':k=ts.length:=by omega
   subst hk'
   rw [List.take_length] at hr
   subst hr
   have HCC:=Qaa hCC
   have HF:=Qaa hF
   clear hCC hF hBelow
   go_wp2
   go_end0
   exact ⟨rfl,HCC.out,HF.out⟩
end
end Go.Proofs.YtbiclelojbfnbabGreatDoor
