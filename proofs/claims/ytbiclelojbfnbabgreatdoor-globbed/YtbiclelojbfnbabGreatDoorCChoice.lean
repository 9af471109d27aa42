import Derived.Test.YtbiclelojbfnbabGreatDoorZCBlock
namespace Go.Proofs.YtbiclelojbfnbabGreatDoor
set_option linter.unusedVariables false
set_option linter.unusedSimpArgs false
set_option maxRecDepth 100000
set_option maxHeartbeats 4000000
open Go.RowKit
def aTo {α β:Type} (tst:β→List Ins→List Ins) (cmd:α→List Ins→List Ins) (as_:List (β×List α)) (cs:List Ins) (k:Nat):List Ins×List Nat:=(as_.take k).foldl (QjC tst cmd) (cs,[])
theorem Qks {α β:Type} (tst:β→List Ins→List Ins) (cmd:α→List Ins→List Ins) (as_:List (β×List α)) (cs:List Ins) (k:Nat) (h:k < as_.length):aTo tst cmd as_ cs (k+1)=QjC tst cmd (aTo tst cmd as_ cs k) as_[k]:=by
 unfold aTo
 rw [List.take_add_one,List.getElem?_eq_getElem h,List.foldl_append]
 rfl
theorem QtJ {α β:Type} (tst:β→List Ins→List Ins) (cmd:α→List Ins→List Ins) (as_:List (β×List α)) (els:List α) (cs:List Ins):QdP tst cmd as_ els cs=Qdy cmd els (aTo tst cmd as_ cs as_.length):=by
 unfold QdP aTo
 rw [List.take_length]
theorem Qrk {α β:Type} (tst:β→List Ins→List Ins) (cmd:α→List Ins→List Ins) (as_:List (β×List α)) (cs:List Ins):∀ k,k≤as_.length→(aTo tst cmd as_ cs k).2.length=k
 | 0,_=>rfl
 | k+1,h=>by
  rw [Qks tst cmd as_ cs k h]
  have:=Qrk tst cmd as_ cs k (by omega)
  unfold QjC
  simp [this]
theorem Qs1 {α β:Type} {tst:β→List Ins→List Ins} {cmd:α→List Ins→List Ins} (ht:∀ t cs,cs.length≤(tst t cs).length) (hc:∀ t cs,cs.length≤(cmd t cs).length) (as_:List (β×List α)) (cs:List Ins):∀ k,k≤as_.length→∀ j∈(aTo tst cmd as_ cs k).2,j < (aTo tst cmd as_ cs k).1.length
 | 0,_,j,hj=>by cases hj
 | k+1,h,j,hj=>by
  have ih:=Qs1 ht hc as_ cs k (by omega)
  rw [Qks tst cmd as_ cs k h] at hj ⊢
  have h1:=ht as_[k].1 (aTo tst cmd as_ cs k).1
  have h2:=Qda hc as_[k].2 (tst as_[k].1 (aTo tst cmd as_ cs k).1++[QcD 5])
  unfold QjC at hj ⊢
  simp only [List.mem_append,List.mem_singleton,Qbh,List.length_append,List.length_cons,List.length_nil] at hj h2 ⊢
  rcases hj with hj | hj
  ·have:=ih j hj;omega
  ·omega
theorem QrN {α β:Type} {tst:β→List Ins→List Ins} {cmd:α→List Ins→List Ins} (ht:∀ t cs,cs.length≤(tst t cs).length) (hc:∀ t cs,cs.length≤(cmd t cs).length) (as_:List (β×List α)) (cs:List Ins) (k:Nat):(aTo tst cmd as_ cs k).1.length≤(aTo tst cmd as_ cs as_.length).1.length:=by
 unfold aTo
 rw [List.take_length]
 have:=Qgg ht hc (as_.drop k) ((as_.take k).foldl (QjC tst cmd) (cs,[]))
 rw [← List.foldl_append,List.take_append_drop] at this
 exact this
theorem Qlr {α β:Type} (tst:β→List Ins→List Ins) (cmd:α→List Ins→List Ins) (arms:List (β×List α)) (elsl:List α) (B cb g c:Nat) (hw:List UInt8) (p:Nat) (els:Bool) (ea:Option Addr) (en ec:Nat) (cs:List Ins) (w:World) (h:CC w B cb cs) (hne:arms≠[]) (hgB:g < B) (htl:arms.length≤1000000)
 (ht:∀ t cs,cs.length≤(tst t cs).length) (hcm:∀ t cs,cs.length≤(cmd t cs).length) (hl:(QdP tst cmd arms elsl cs).length≤1000000)
 (hc:∀ j (hj:j < arms.length),∃ ty y a n c',w.cell? ⟨g,2*j,none⟩=some (.iface ty y)∧w.cell? ⟨g,2*j+1,none⟩=some (.slice a n c')∧SubC 252 B cb w (.iface ty y) (tst arms[j].1)∧SubC 141 B cb w (.slice a n c') (blockC cmd arms[j].2))
 (he:SubC 141 B cb w (.slice ea en ec) (blockC cmd elsl)) :
 Calls Tryz.prog 233 #[.pointer (some ⟨cb,0,none⟩),.agg #[.string (Qag hw),.int .i64 p,.slice (some ⟨g,0,none⟩) arms.length c,.bool els,.slice ea en ec]] w (Qde B cb (QdP tst cmd arms elsl cs) w):=by
 obtain ⟨i0,hi,hz0,hz1,hz2⟩:=info_parts Tryz.infoIntJ
 have hBw:B≤w.heap.size:=Nat.le_of_lt (Nat.lt_of_le_of_lt h.lt.1 h.lt.2)
 rw [QtJ] at hl ⊢
 have hle0:=QgF hcm elsl (aTo tst cmd arms cs arms.length)
 have HLE:=Qaa (Nat.le_trans hle0 hl)
 have HL:=Qaa hl
 have HC:=Qaa hc
 have HT:=Qaa ht
 have HCM:=Qaa hcm
 have HELS:=Qaa he
 have H:=Qaa h
 clear hc ht hcm h hl he hle0
 go_enter Tryz.func233,Tryz.ntmps233
 go_wp2_with fail
 obtain ⟨W0,hW0⟩:∃ W0,W0=w.alloc (.cells #[.string (Qag hw),.int .i64 p,.slice (some ⟨g,0,none⟩) arms.length c,.bool els,.slice ea en ec] 275):=⟨_,rfl⟩
 rw [← hW0]
 have HB0:Hid (Below w.heap.size w W0):=by show Below _ _ _;rw [hW0];exact (Below.refl _ _).alloc (Nat.le_refl _) _
 have HI0:Hid (W0.heap[w.heap.size]?=some (.cells #[.string (Qag hw),.int .i64 p,.slice (some ⟨g,0,none⟩) arms.length c,.bool els,.slice ea en ec] 275)):=by show _=_;rw [hW0];exact QaB _ _
 have HC0:Hid (CC W0 B cb cs):=H.out.below HB0.out
 clear hW0
 go_loopw [4,6,7,11] (fun v _ _ i wr=>∃ (k:Nat) (r:List Ins×List Nat),k≤arms.length∧i=.int .i64 (k:Int)∧r=aTo tst cmd arms cs k∧wr.ownsRow W0.heap.size 3 1 v r.2.length (Qfg r.2)∧CC wr B cb r.1∧Fr (PCo B) W0 wr) (fun _ _ _ i _=>arms.length - (intOf i).toNat)
 case atStart=>exact ⟨0,_,Nat.zero_le _,by go_num,rfl,World.ownsRow_nil _ _ _ _,HC0.out,Fr.refl _ _⟩
 case round=>
  obtain ⟨k,r,hk,rfl,hr,hown,hCC,hF⟩:=hrel
  have hrl:r.2.length=k:=by rw [hr];exact Qrk tst cmd arms cs k hk
  have hBelow:Below B w wr:=(HB0.out.mono hBw).trans (hF.co HC0.out)
  by_cases hlt:k < arms.length
  ·obtain ⟨ty,y,a,n,c',hcy,hcb,hty,hbk⟩:=HC.out k hlt
   have c0:wr.cell? ⟨g,k*2,none⟩=some (.iface ty y):=by
    rw [Nat.mul_comm,hBelow.cell (p:=⟨g,2*k,none⟩) hgB];exact hcy
   have c1:wr.cell? ⟨g,k*2+1,none⟩=some (.slice a n c'):=by
    rw [Nat.mul_comm,hBelow.cell (p:=⟨g,2*k+1,none⟩) hgB];exact hcb
   have hS:=Qks tst cmd arms cs k hlt
   have hle:=QrN HT.out HCM.out arms cs (k+1)
   rw [hS,← hr] at hle
   rw [← hr] at hS
   obtain ⟨am,ham⟩:∃ am,arms[k]=am:=⟨_,rfl⟩
   rw [ham] at hS hty hbk hle
   unfold QjC at hS hle
   have hle':=Nat.le_trans hle HLE.out
   have hg1:=Qda HCM.out am.2 (tst am.1 r.1++[QcD 5])
   obtain ⟨A,hA⟩:∃ A,tst am.1 r.1=A:=⟨_,rfl⟩
   rw [hA] at hS hle' hg1
   obtain ⟨A3,hA3⟩:∃ A3,blockC cmd am.2 (A++[QcD 5])=A3:=⟨_,rfl⟩
   rw [hA3] at hS hle' hg1
   dsimp only at hle'
   rw [Qbh,List.length_append] at hle'
   rw [List.length_append] at hg1
   simp only [List.length_cons,List.length_nil] at hle' hg1
   have q1:(tst am.1 r.1).length≤1000000:=by rw [hA];omega
   have q2:A.length+1≤1000000:=by omega
   have q3:(blockC cmd am.2 (A++[QcD 5])).length≤1000000:=by rw [hA3];omega
   have q4:A3.length+1≤1000000:=by omega
   have q5:A.length < (A3++[QcD 3]).length:=by rw [List.length_append];simp only [List.length_cons,List.length_nil];omega
   have q6:(A3++[QcD 3]).length≤1000000:=by rw [List.length_append];exact q4
   have Q:=Qaa (And.intro q1 (And.intro q2 (And.intro q3 (And.intro q4 (And.intro q5 q6)))))
   have HS:=Qaa hS
   have HTY:=Qaa hty
   have HBK:=Qaa hbk
   have HAe:=Qaa hA
   have HA3:=Qaa hA3
   have HOW:=Qaa hown
   have HCC:=Qaa hCC
   have HF:=Qaa hF
   have HBe:=Qaa hBelow
   have hbs:B≤wr.heap.size:=Nat.le_trans hBw hBelow.size
   have HBe':Hid (∀ o,Below B w (wr.alloc o)):=fun o=>HBe.out.alloc hbs o
   obtain ⟨la,lc,hlv⟩:=QaN hown
   subst hlv
   have hrk:r.2.length≤1000000:=by omega
   have hW0s:w.heap.size≤W0.heap.size:=HB0.out.size
   have HA0:Hid ((wr.alloc (.cells #[.iface ty y,.slice a n c'] 271)).heap[wr.heap.size]?=some (.cells #[.iface ty y,.slice a n c'] 271)):=QaB _ _
   clear hown hCC hF hBelow hcy hcb hty hbk hle hle' hg1 hA hA3 ham hr hS q1 q2 q3 q4 q5 q6 hrl
   go_wp2_with (first
    | (have gg:=HC5;go_at_call 253;refine (QlY B cb A.length _ _ HC5.out Q.out.2.2.2.2.1 Q.out.2.2.2.2.2).mono ?_;rintro e w6 ⟨rfl,hc6,hf6⟩;have HC6:=Qaa hc6;have HF6:=Qaa (HF5.out.trans hf6);have HO6:=Qaa (Qa8 HO5.out hf6 (fun _ _=>PCo.not (by decide) (by decide)));clear hc6 hf6;skip)
    | (have gg:=HC4;at_builtin;refine wpList_append_own _ rfl _ _ 330 rfl W0.heap.size 3 i0 _ 1 8 Tryz.underlying330 hi hz0 hz1 hz2 rfl (by decide) _ _ _ rfl (HO4.out.alloc _) ⟨w4.heap.size,0,none⟩ 1 1 [.int .i64 (A3.length:Int)] rfl rfl (cell_one_new _ _ _) (QsZ _) (by unfold maxLen;omega) (by omega) (by simp;omega) ?_;intro v5 w5 ho5 hg5 _;obtain ⟨a5,k5,hv5⟩:=QaN ho5;subst hv5;have HO5:=Qaa ho5;have HC5:=Qaa ((HC4.out.alloc _).grownInt (HO4.out.alloc _) hg5);have HF5:=Qaa ((HF4.out.alloc _).grownNew hg5 (fun k hk=>(HO4.out.lt k hk).1));clear ho5 hg5;skip)
    | (have gg:=HC3;go_at_call 231;refine (Qcd B cb A3 (QcD 3) _ _ _ HC3.out (Qhg _ _) Q.out.2.2.2.1).mono ?_;rintro e w4 ⟨rfl,hc4,hf4⟩;have HC4:=Qaa hc4;have HF4:=Qaa (HF3.out.trans hf4);have HO4:=Qaa (Qa8 HO3.out hf4 (fun _ _=>PCo.not (by decide) (by decide)));have hw4:=HF4.out.size;clear hc4 hf4;skip)
    | (have gg:=HC2;go_at_call 141;refine (HBK.out _ _ HBe2.out HC2.out Q.out.2.2.1).mono ?_;rintro e w3 ⟨rfl,hc3,hf3⟩;rw [HA3.out] at hc3;have HC3:=Qaa hc3;have HF3:=Qaa (HF2.out.trans hf3);have HO3:=Qaa (Qa8 HO2.out hf3 (fun _ _=>PCo.not (by decide) (by decide)));clear hc3 hf3;skip)
    | (have gg:=HC1;go_at_call 231;refine (Qcd B cb A (QcD 5) _ _ _ HC1.out (Qhg _ _) Q.out.2.1).mono ?_;rintro e w2 ⟨rfl,hc2,hf2⟩;have HBe2:=Qaa (HBe1.out.trans (hf2.co HC1.out));have HC2:=Qaa hc2;have HF2:=Qaa (HF1.out.trans hf2);have HO2:=Qaa (Qa8 HO1.out hf2 (fun _ _=>PCo.not (by decide) (by decide)));have hA2:=hf2.block _ _ HA1.out (PCo.not (by decide) (by decide));have d1:w2.cell? ⟨wr.heap.size,1,none⟩=some (.slice a n c'):=Qab hA2 1;clear hc2 hf2 hA2;skip)
    | (go_at_call 252;refine (HTY.out _ r.1 (HBe'.out _) (HCC.out.alloc _) Q.out.1).mono ?_;rintro e w1 ⟨rfl,hc1,hf1⟩;rw [HAe.out] at hc1;have HBe1:=Qaa ((HBe'.out _).trans (hf1.co (HCC.out.alloc _)));have HC1:=Qaa hc1;have HF1:=Qaa ((HF.out.alloc _).trans hf1);have HO1:=Qaa (Qa8 (HOW.out.alloc _) hf1 (fun _ _=>PCo.not (by decide) (by decide)));have HA1:=Qaa (hf1.block _ _ HA0.out (PCo.not (by decide) (by decide)));clear hc1 hf1;skip))
   go_roundw
   case rel=>
    refine ⟨k+1,_,by omega,by go_num,HS.out.symm,?_,HC6.out,HF6.out⟩
    show w6.ownsRow W0.heap.size 3 1 _ (r.2++[A3.length]).length (Qfg (r.2++[A3.length]))
    rw [List.length_append,← Qhl]
    exact HO6.out
   case measure=>simp [intOf];omega
  ·have hk':k=arms.length:=by omega
   subst hk'
   have hrne:r.2≠[]:=fun e=>hne (List.eq_nil_of_length_eq_zero (by rw [← hrl,e];rfl))
   obtain ⟨gj,cj,kcs,hv,hjb,hjc⟩:=Qn9 hown hrne
   subst hv
   have hjlt:∀ j∈r.2,j < r.1.length:=by rw [hr];exact Qs1 HT.out HCM.out arms cs arms.length (Nat.le_refl _)
   have HEND:Hid (Qdy cmd elsl (aTo tst cmd arms cs arms.length)=landL r.2 (blockC cmd elsl r.1)):=by
    show _=_
    rw [← hr];rfl
   have hll:=HL.out
   rw [HEND.out,Qbh] at hll
   have hgg:=Qda HCM.out elsl r.1
   obtain ⟨L2,hL2⟩:∃ L2,blockC cmd elsl r.1=L2:=⟨_,rfl⟩
   have q0:=hll
   rw [hL2] at HEND hll hgg
   have q2:∀ j∈r.2,j < L2.length:=fun j hj=>by have:=hjlt j hj;omega
   have q4:r.2.length≤1000000:=by rw [hrl];exact htl
   have Q:=Qaa (And.intro q0 (And.intro q2 (And.intro hll q4)))
   have HE2:=Qaa hL2
   have HJB:=Qaa hjb
   have HJC:=Qaa hjc
   have HCC:=Qaa hCC
   have HF:=Qaa hF
   have HBe:=Qaa hBelow
   have d4:wr.cell? ⟨w.heap.size,4,none⟩=some (.slice ea en ec):=Qab (hF.block _ _ HI0.out (PCo.not (by decide) (by decide))) 4
   clear hown hCC hF hBelow hr hjb hjc hjlt hL2 hll hgg q0 q2 q4 hrl hlt hk HC HL
   go_wp2_with (first
    | (have gg:=HC2;go_at_call 253;refine (Qii B cb gj cj r.2 kcs L2 _ HC2.out Q.out.2.1 HJ2.out HJC.out Q.out.2.2.1 Q.out.2.2.2).mono ?_;rintro e w3 ⟨rfl,hc3,hf3⟩;have HC3:=Qaa hc3;have HF3:=Qaa (HF2.out.trans hf3);clear hc3 hf3;skip)
    | (go_at_call 141;refine (HELS.out wr r.1 HBe.out HCC.out Q.out.1).mono ?_;rintro e w2 ⟨rfl,hc2,hf2⟩;rw [HE2.out] at hc2;have HC2:=Qaa hc2;have HF2:=Qaa (HF.out.trans hf2);have HJ2:=Qaa (hf2.block _ _ HJB.out (PCo.not (by decide) (by decide)));clear hc2 hf2;skip))
   go_end0
   rw [HEND.out]
   exact ⟨rfl,HC3.out,(Fr.of_below HB0.out).trans HF3.out⟩
end Go.Proofs.YtbiclelojbfnbabGreatDoor
