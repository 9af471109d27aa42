import Derived.Test.YtbiclelojbfnbabGreatDoorZPlainGlobX
import Derived.Test.YtbiclelojbfnbabGreatDoorZSAsk
import Derived.Test.YtbiclelojbfnbabGreatDoorZSText
import Derived.Test.YtbiclelojbfnbabGreatDoorZXPRun
namespace Go.Proofs.YtbiclelojbfnbabGreatDoor
set_option linter.unusedVariables false
set_option linter.unusedSimpArgs false
set_option maxRecDepth 100000
set_option maxHeartbeats 4000000
section
open Go.RowKit
attribute [local go_sem ↓] Go.wp_at_zero Go.wp_at_succ
def Quj (l:List (List UInt8×List UInt8)):Nat:=(l.map fun h=>h.1.length+h.2.length).sum
def QuC (M:Msg):Nat:=M.fr.length+M.to.length+M.hdrs.length+Quj M.hdrs
theorem QrT {l:List (List UInt8×List UInt8)} {h:List UInt8×List UInt8} (hm:h∈l):h.1.length+h.2.length≤Quj l:=by
 induction l with
 | nil=>cases hm
 | cons x r ih=>
  have e:Quj (x :: r)=x.1.length+x.2.length+Quj r:=by simp [Quj]
  rcases List.mem_cons.1 hm with rfl | hm
  ·omega
  ·have:=ih hm;omega
theorem QlL {M:Msg} (h:QuC M≤16384) (v:Bool):SBd M (ss0 v):=by
 unfold QuC at h
 refine ⟨by omega,by omega,by omega,fun x hx=>?_,fun t ht=>(by cases ht),Nat.zero_le _,fun x t ht=>(by cases ht),Nat.zero_le _⟩
 have:=QrT hx
 omega
end
section
open Go.RowKit
attribute [local go_sem ↓] Go.wp_at_zero Go.wp_at_succ
def sayL (y:List (List UInt8)×List (QcX 7)) (M:Msg):List (Int×List UInt8)×Nat×Option FZ:=execL (varsB y.1) (Qdm y.2) M
theorem Qty (y:List (List UInt8)×List (QcX 7)):y.1.length≤(Qh4 y).length+1:=by
 by_cases h:y.1=[]
 ·rw [h];exact Nat.zero_le _
 ·have h1:=(Qe6 y.1).2
  unfold Qh4 Qd1
  rw [if_neg h]
  simp only [List.length_append]
  omega
theorem Qjv (s:ByteArray) (y:List (List UInt8)×List (QcX 7)) (hv:Value) (M:Msg) (w:World) (he:Env w) (hs:s.size≤600) (hy:parseL s.data.toList=.ok y) (hh:QrX w hv M.hdrs) (hbd:∀ v,SBd M (ss0 v)) :
 Calls Tryz.prog 8 #[.string s,Qhe M hv] w fun e w'=>Below w.heap.size w w'∧∃ lv,e=.returned (.tuple #[lv,.int .i64 (Qh1 (sayL y M).2.2).1,.bool true])∧ActsV w' w.heap.size lv (sayL y M).1:=by
 obtain ⟨ah,ch,rfl⟩:=hh.len
 have HY:=Qaa hy
 have HE:=Qaa he
 have HHD:=Qaa hh
 have HBD:=Qaa hbd
 have HWF:=Qaa (Qr9 hy)
 have htl:=Qra hy
 have hsl:s.data.toList.length=s.size:=by simp
 have HTL:Hid ((Qh4 y).length≤100000):=by show _≤_;omega
 have HRL:Hid (y.1.length≤1000000):=by show _≤_;have:=Qty y;have:=HTL.out;omega
 obtain ⟨r,hr⟩:∃ r,sayL y M=r:=⟨_,rfl⟩
 rw [hr]
 have HR:=Qaa hr
 clear hy he hh hbd htl hsl hr
 have hms:∀ (a:Option Addr) (n c:Nat),Qhe M (.slice a n c)=.agg #[.string (Qag M.fr),.string (Qag M.to),.int .i64 M.size,.slice a n c]:=fun _ _ _=>rfl
 rw [hms]
 have HMS:=Qaa hms
 clear hms
 obtain ⟨W0,hW0⟩:∃ W0,W0=w.alloc (.cells #[.string (Qag M.fr),.string (Qag M.to),.int .i64 M.size,.slice ah M.hdrs.length ch] 28):=⟨_,rfl⟩
 have HB0:Hid (Below w.heap.size w W0):=by show Below _ _ _;rw [hW0];exact (Below.refl _ _).alloc (Nat.le_refl _) _
 have HM0:Hid (W0.heap[w.heap.size]?=some (.cells #[.string (Qag M.fr),.string (Qag M.to),.int .i64 M.size,.slice ah M.hdrs.length ch] 28)):=by show _=_;rw [hW0];exact QaB _ _
 have h0s:=HB0.out.size
 have HWW:=Qaa hW0
 clear hW0
 go_enter Tryz.func8,Tryz.ntmps8
 go_wp2_with fail
 rw [← HWW.out]
 refine (Qgy s W0 (HE.out.below HB0.out).m1 (HE.out.below HB0.out).et).mono ?_
 rintro e w1 ⟨hB1',⟨hbig,_⟩ | ⟨_,y1,g,rv,lv,hy1,rfl,hz,hc,hrq,hbl⟩ | ⟨_,f,hf,_⟩⟩
 ·omega
 ·have hyy:y1=y:=by have:=HY.out;rw [hy1] at this;exact Except.ok.inj this
  subst hyy
  have hB1:Below w.heap.size w w1:=HB0.out.trans (hB1'.mono h0s)
  have HB1:=Qaa hB1
  have HE1:=Qaa (HE.out.below hB1)
  have HM1:=Qaa (Qaq HM0.out hB1')
  have HC:=Qaa hc
  have HRQ:=Qaa hrq
  have HBL:=Qaa hbl
  have m0:w1.cell? ⟨w.heap.size,0,none⟩=some (.string (Qag M.fr)):=Qab HM1.out 0
  have m1:w1.cell? ⟨w.heap.size,1,none⟩=some (.string (Qag M.to)):=Qab HM1.out 1
  have m2:w1.cell? ⟨w.heap.size,2,none⟩=some (.int .i64 M.size):=Qab HM1.out 2
  have m3:w1.cell? ⟨w.heap.size,3,none⟩=some (.slice ah M.hdrs.length ch):=Qab HM1.out 3
  have h1s:=hB1.size
  clear hB1 hB1' hc hrq hbl hy1
  go_wp2_with fail
  rw [← HMS.out]
  refine (Qsu g y1 rv lv _ M w1 _ HE1.out HC.out HRQ.out HBL.out HWF.out.2 HTL.out HRL.out (HHD.out.below HB1.out) HBD.out).mono ?_
  rintro e w2 ⟨hB2,lv2,rfl,hA⟩
  rw [show execL (varsB y1.1) (Qdm y1.2) M=r from HR.out] at hA ⊢
  have HB2:=Qaa (HB1.out.trans (hB2.mono h1s))
  have HA:=Qaa hA
  obtain ⟨la,lc,hlv⟩:=QaN hA.1
  subst hlv
  clear hA hB2
  go_wp2
  refine bodyPost_ret (v:=.tuple #[.slice la r.1.length lc,.int .i64 (Qh1 r.2.2).1,.bool true]) (by simp [results,Tryz.results8,go_sem]) rfl ?_
  exact ⟨HB2.out,_,rfl,HA.out.lo h1s⟩
 ·have:=HY.out
  rw [hf] at this
  cases this
end
section
open Go.RowKit
attribute [local go_sem ↓] Go.wp_at_zero Go.wp_at_succ
def QuD:List UInt8:=[105,102,32,104,101,97,100,101,114,32,58,99,111,109,112,97,114,97,116,111,114,32,34,105,59,111,99,116,101,116,34,32,34,83,117,98,106,101,99,116,34,32,34,120,34,32,123,32,100,105,115,99,97,114,100,59,32,125,32,101,108,115,101,32,123,32,114,101,100,105,114,101,99,116,32,34,97,64,98,34,59,32,125]
def exM:Msg:=⟨[],[],0,[([115,117,98,106,101,99,116],[88])]⟩
def Qur (t:List UInt8) (M:Msg):Option (List (Int×List UInt8)×FZ):=
 match parseL t with
 | .ok y=>some ((sayL y M).1,Qh1 (sayL y M).2.2)
 | .error _=>none
theorem QuH:Qur exT1 exM=some ([],(0,-1)):=by kernel_rfl
theorem QuI:Qur QuD exM=some ([(3,[97,64,98])],(0,-1)):=by kernel_rfl
theorem Qrx {t:List UInt8} {M:Msg} {l:List (Int×List UInt8)} {f:FZ} (h:Qur t M=some (l,f)):∃ y,parseL t=.ok y∧(sayL y M).1=l∧Qh1 (sayL y M).2.2=f:=by
 unfold Qur at h
 cases hp:parseL t with
 | error e=>rw [hp] at h;cases h
 | ok y=>
  rw [hp] at h
  simp at h
  exact ⟨y,rfl,h.1,h.2⟩
theorem QrM (w:World) (he:Env w):Calls Tryz.prog 6 #[] w fun e w'=>e=.returned (.bool true)∧Below w.heap.size w w':=by
 have HE:=Qaa he
 clear he
 go_enter Tryz.func6,Tryz.ntmps6
 go_wp2_with fail
 refine (QpR w HE.out).mono ?_
 rintro e w1 ⟨rfl,hB1⟩
 have HB1:=Qaa hB1
 have h1s:=hB1.size
 clear hB1
 obtain ⟨y1,hy1,hl1,hf1⟩:=Qrx QuH
 obtain ⟨y3,hy3,hl3,hf3⟩:=Qrx QuI
 obtain ⟨V,hV⟩:∃ V,V=(w1.alloc (.cells #[.string ⟨#[115,117,98,106,101,99,116]⟩,.string ⟨#[88]⟩] 25)).alloc (.cells #[.string ⟨#[]⟩,.string ⟨#[]⟩,.int .i64 0,.slice (some ⟨w1.heap.size,0,none⟩) 1 1] 28):=⟨_,rfl⟩
 have HWW:=Qaa hV
 have hBV:Below w1.heap.size w1 V:=by rw [hV];exact ((Below.refl _ _).alloc (Nat.le_refl _) _).alloc (by simp) _
 have hVh:V.heap[w1.heap.size]?=some (.cells #[.string ⟨#[115,117,98,106,101,99,116]⟩,.string ⟨#[88]⟩] 25):=by rw [hV];exact Qad (QaB _ _)
 have hVm:V.heap[w1.heap.size+1]?=some (.cells #[.string ⟨#[]⟩,.string ⟨#[]⟩,.int .i64 0,.slice (some ⟨w1.heap.size,0,none⟩) 1 1] 28):=by rw [hV];exact Qaw (by simp)
 have hB1V:=HB1.out.trans (hBV.mono h1s)
 have HBV:=Qaa hB1V
 have HVM:=Qaa hVm
 have HHD:Hid (Qik V (.slice (some ⟨w1.heap.size,0,none⟩) 1 1) exM.hdrs):=Or.inr ⟨w1.heap.size,1,_,rfl,hVh,fun j hj=>by
  have:j=0:=by have:j < 1:=hj;omega
  subst this
  exact ⟨rfl,rfl⟩⟩
 have HBD:Hid (∀ v,SBd exM (ss0 v)):=fun v=>QlL (by decide) v
 have hVs:=hB1V.size
 have HR1:=Qaa (And.intro hy1 (And.intro hl1 hf1))
 have HR3:=Qaa (And.intro hy3 (And.intro hl3 hf3))
 clear hV hBV hVh hVm hB1V hy1 hl1 hf1 hy3 hl3 hf3
 go_wp2_with fail
 rw [show (w1.alloc _).alloc _=V from HWW.out.symm]
 refine (Qjv ⟨exT1.toArray⟩ y1 (.slice (some ⟨w1.heap.size,0,none⟩) 1 1) exM V (HE.out.below HBV.out) (by decide) HR1.out.1 HHD.out.g HBD.out).mono ?_
 rintro e w2 ⟨hB2,lv2,rfl,hA2⟩
 rw [HR1.out.2.1] at hA2
 rw [HR1.out.2.2]
 have hlv2:=hA2.2 rfl
 subst hlv2
 have HB2:=Qaa (HBV.out.trans (hB2.mono hVs))
 have HM2:=Qaa (Qaq HVM.out hB2)
 have HHD2:=Qaa (HHD.out.fr (P:=fun _ _=>False) (Fr.of_below hB2) (fun _ _ h=>h))
 have m0:w2.cell? ⟨w1.heap.size+1,0,none⟩=some (.string ⟨#[]⟩):=Qab HM2.out 0
 have m1:w2.cell? ⟨w1.heap.size+1,1,none⟩=some (.string ⟨#[]⟩):=Qab HM2.out 1
 have m2:w2.cell? ⟨w1.heap.size+1,2,none⟩=some (.int .i64 0):=Qab HM2.out 2
 have m3:w2.cell? ⟨w1.heap.size+1,3,none⟩=some (.slice (some ⟨w1.heap.size,0,none⟩) 1 1):=Qab HM2.out 3
 have h2s:=HB2.out.size
 clear hB2 hA2
 go_wp2_with fail
 refine (Qjv ⟨QuD.toArray⟩ y3 (.slice (some ⟨w1.heap.size,0,none⟩) 1 1) exM w2 (HE.out.below HB2.out) (by decide) HR3.out.1 HHD2.out.g HBD.out).mono ?_
 rintro e w3 ⟨hB3,lv3,rfl,hA3⟩
 rw [HR3.out.2.1] at hA3
 rw [HR3.out.2.2]
 have HB3:=Qaa (HB2.out.trans (hB3.mono h2s))
 obtain ⟨g3,c3,hv3,_,hg3,hcells⟩:=Qdn hA3.1 (by decide)
 subst hv3
 have d0:w3.cell? ⟨g3,0,none⟩=some (.int .i64 3):=hcells 0 _ rfl
 have d1:w3.cell? ⟨g3,1,none⟩=some (.string ⟨#[97,64,98]⟩):=hcells 1 _ rfl
 have heq:∀ W,(binOp .eql 34 (.agg #[.int .i64 3,.string ⟨#[97,64,98]⟩]) (.agg #[.int .i64 3,.string ⟨#[97,64,98]⟩])).run Tryz.prog W=.ok (.bool true) W:=fun W=>(QsL (3,[97,64,98]) (3,[97,64,98]) W).trans (by simp)
 clear hcells hA3 hB3
 go_wp2
 go_ret
 exact ⟨rfl,HB3.out⟩
end
section
open Go.RowKit
attribute [local go_sem ↓] Go.wp_at_zero Go.wp_at_succ
theorem Qrf (k N:Int) (w:World) (h0:-9223372036854775808≤k) (hk:k < 0) (hN:1≤N) (hN2:N≤1000):Calls Tryz.prog 7 #[.int .i64 k,.int .i64 N] w fun e w'=>e=.returned (.int .i64 ((-(k+1)) % N))∧w'=w:=by
 have he:-(k+1).tmod N=(-(k+1)) % N:=by rw [← Int.neg_tmod,Int.tmod_eq_emod_of_nonneg (by omega)]
 have hz:¬ N=0:=by omega
 have hr0:0≤(-(k+1)) % N:=Int.emod_nonneg _ hz
 have hr1:(-(k+1)) % N < N:=Int.emod_lt_of_pos _ (by omega)
 rw [← he] at hr0 hr1
 have HE:=Qaa he
 clear he
 go_enter Tryz.func7,Tryz.ntmps7
 go_wp2
 go_ret
 refine ⟨?_,rfl⟩
 show Ending.returned (Value.int IntKind.i64 (-(k+1).tmod N))=_
 rw [HE.out]
theorem Qq4 (k N:Int) (w:World) (h1:k≤9223372036854775807) (hk:0≤k) (hN:1≤N) (hN2:N≤1000):Calls Tryz.prog 7 #[.int .i64 k,.int .i64 N] w fun e w'=>e=.returned (.int .i64 (k % N))∧w'=w:=by
 have hz:¬ N=0:=by omega
 have hr0:0≤k % N:=Int.emod_nonneg _ hz
 have hr1:k % N < N:=Int.emod_lt_of_pos _ (by omega)
 go_enter Tryz.func7,Tryz.ntmps7
 go_wp2
 go_ret
 exact ⟨rfl,rfl⟩
theorem Qs7 (k N:Int) (h0:-9223372036854775808≤k) (h1:k≤9223372036854775807) (hN:1≤N) (hN2:N≤1000):∃ m:Nat,(m:Int) < N∧∀ W,Calls Tryz.prog 7 #[.int .i64 k,.int .i64 N] W fun e w'=>e=.returned (.int .i64 (m:Int))∧w'=W:=by
 have hz:¬ N=0:=by omega
 by_cases hk:k < 0
 ·have g0:0≤(-(k+1)) % N:=Int.emod_nonneg _ hz
  have g1:(-(k+1)) % N < N:=Int.emod_lt_of_pos _ (by omega)
  refine ⟨((-(k+1)) % N).toNat,by omega,fun W=>?_⟩
  have e:(((-(k+1)) % N).toNat:Int)=(-(k+1)) % N:=by omega
  rw [e]
  exact Qrf k N W h0 hk hN hN2
 ·have g0:0≤k % N:=Int.emod_nonneg _ hz
  have g1:k % N < N:=Int.emod_lt_of_pos _ (by omega)
  refine ⟨(k % N).toNat,by omega,fun W=>?_⟩
  have e:((k % N).toNat:Int)=k % N:=by omega
  rw [e]
  exact Qq4 k N W h1 (by omega) hN hN2
theorem QuA:varsB Qa5=true:=(Lib.containsS_iff _ _).2 (List.mem_map_of_mem (by decide))
theorem Qok {y:List (List UInt8)×List (QcX 7)} {p arg v:List UInt8} {acts:List (Int×List UInt8)} (h1:y.1=Qa5) (h2:y.2.map (QmN 7)=[QmN 7 (Qej p arg)]) (hx:execL true (Qdm [Qej p arg]) (Qbz v)=(acts,4,none)):(sayL y (Qbz v)).1=acts∧Qh1 (sayL y (Qbz v)).2.2=(0,-1):=by
 unfold sayL
 rw [h1,QuA]
 obtain ⟨e1,_,e3⟩:=QtO true (Qbz v) (QtR (cs:=y.2) (ds:=[Qej p arg]) (by rw [h2];rfl))
 rw [hx] at e1 e3
 refine ⟨e1,?_⟩
 cases hh:(execL true (Qdm y.2) (Qbz v)).2.2 with
 | none=>rfl
 | some f=>rw [hh] at e3;cases e3
theorem Qi0 {p:List UInt8} (h:∀ c∈p,c≠34∧c≠92):Qat p=34 :: (p++[34]):=by
 have e:p.flatMap Qb9=p:=by
  induction p with
  | nil=>rfl
  | cons c r ih=>
   have hc:=h c (by simp)
   rw [List.flatMap_cons,ih (fun d hd=>h d (by simp [hd]))]
   unfold Qb9
   rw [if_neg (by simp [hc.1,hc.2])]
   rfl
 unfold Qat
 rw [e]
def Qo8:List UInt8:=[114,101,113,117,105,114,101,32,91,34,118,97,114,105,97,98,108,101,115,34,44,32,34,114,101,106,101,99,116,34,93,59]
def gIf:List UInt8:=[105,102,32,104,101,97,100,101,114,32,58,109,97,116,99,104,101,115,32,34,115,34,32,34]
def Qqf:List UInt8:=[34,32,123,32,114,101,106,101,99,116,32,34,36,123,48,125,124,36,123,49,125,124,36,123,50,125,34,59,32,125]
def Qrt:List UInt8:=[34,32,123,32,114,101,106,101,99,116,32,34,36,123,49,125,36,123,50,125,34,59,32,125]
theorem QkF {p:List UInt8} (h:∀ c∈p,c≠34∧c≠92):Qo8++gIf++p++Qqf=Qck p argA:=by
 unfold Qck QiC QoK Qlo QhR
 show _=Qbw++32 :: (Qa2 Qa5++59 :: (kIf++32 :: (QbA++(32 :: Qax++32 :: (Qat [115]++32 :: (Qat p++32 :: 123 :: 32 :: (QaZ++32 :: (Qat argA++59 :: 32 :: [125]))))))))
 rw [Qi0 h]
 simp only [List.append_assoc,List.cons_append,List.nil_append]
 rfl
theorem Qk1 {p:List UInt8} (h:∀ c∈p,c≠34∧c≠92):Qo8++gIf++p++Qrt=Qck p Qqx:=by
 unfold Qck QiC QoK Qlo QhR
 show _=Qbw++32 :: (Qa2 Qa5++59 :: (kIf++32 :: (QbA++(32 :: Qax++32 :: (Qat [115]++32 :: (Qat p++32 :: 123 :: 32 :: (QaZ++32 :: (Qat Qqx++59 :: 32 :: [125]))))))))
 rw [Qi0 h]
 simp only [List.append_assoc,List.cons_append,List.nil_append]
 rfl
end
section
open Go.RowKit
attribute [local go_sem ↓] Go.wp_at_zero Go.wp_at_succ
theorem Qr1 {x:List UInt8} {a:Nat} (h:a < (Qag x).size) (hl:Qs4 (x.take a)) (h1:97≤((Qag x)[a].toNat:Int)) (h2:((Qag x)[a].toNat:Int)≤122):Qs4 (x.take (a+1)):=by
 have hx:a < x.length:=by rw [QaD] at h;exact h
 have e:∀ h',(Qag x)[a]'h'=x[a]'hx:=fun _=>by simp [Qag,ByteArray.getElem_eq_getElem_data]
 rw [e h] at h1 h2
 intro c hc
 rw [List.take_succ_eq_append_getElem hx] at hc
 rcases List.mem_append.1 hc with h | h
 ·exact hl c h
 ·rw [List.mem_singleton.1 h]
  unfold Qfr
  simp
  omega
theorem QrZ {x:List UInt8} (hx:Qs4 x) (i j:Nat) {c:UInt8} (hc:c≠34∧c≠92):∀ d∈x.take i++c :: x.drop j,d≠34∧d≠92:=fun d hd=>by
 rcases List.mem_append.1 hd with h | h
 ·have:=Qbo (hx d (List.mem_of_mem_take h));exact ⟨this.2.2.2.2.2,this.2.2.2.2.1⟩
 ·rcases List.mem_cons.1 h with h | h
  ·subst h;exact hc
  ·have:=Qbo (hx d (List.mem_of_mem_drop h));exact ⟨this.2.2.2.2.2,this.2.2.2.2.1⟩
theorem Quz {p q:List UInt8} (h:∀ d∈p++42 :: q,d≠34∧d≠92):(⟨#[114,101,113,117,105,114,101,32,91,34,118,97,114,105,97,98,108,101,115,34,44,32,34,114,101,106,101,99,116,34,93,59]⟩:ByteArray)++(⟨#[105,102,32,104,101,97,100,101,114,32,58,109,97,116,99,104,101,115,32,34,115,34,32,34]⟩:ByteArray)++Qag p++(⟨#[42]⟩:ByteArray)++Qag q++(⟨#[34,32,123,32,114,101,106,101,99,116,32,34,36,123,48,125,124,36,123,49,125,124,36,123,50,125,34,59,32,125]⟩:ByteArray)=Qag (Qck (p++42 :: q) argA):=by
 show Qag Qo8++Qag gIf++Qag p++Qag [42]++Qag q++Qag Qqf=_
 rw [QcZ,QcZ,QcZ,QcZ,QcZ,← QkF h]
 simp only [List.append_assoc,List.cons_append,List.nil_append]
theorem Qut {p q:List UInt8} (h:∀ d∈p++63 :: q,d≠34∧d≠92):(⟨#[114,101,113,117,105,114,101,32,91,34,118,97,114,105,97,98,108,101,115,34,44,32,34,114,101,106,101,99,116,34,93,59]⟩:ByteArray)++(⟨#[105,102,32,104,101,97,100,101,114,32,58,109,97,116,99,104,101,115,32,34,115,34,32,34]⟩:ByteArray)++Qag p++(⟨#[63]⟩:ByteArray)++Qag q++(⟨#[34,32,123,32,114,101,106,101,99,116,32,34,36,123,49,125,36,123,50,125,34,59,32,125]⟩:ByteArray)=Qag (Qck (p++63 :: q) Qqx):=by
 show Qag Qo8++Qag gIf++Qag p++Qag [63]++Qag q++Qag Qrt=_
 rw [QcZ,QcZ,QcZ,QcZ,QcZ,← Qk1 h]
 simp only [List.append_assoc,List.cons_append,List.nil_append]
theorem QqN {p:List UInt8} (h:∀ d∈p,d≠34∧d≠92) (hp:p.length≤40):(Qck p argA).length≤600:=by
 rw [← QkF h]
 simp only [List.length_append]
 have e1:Qo8.length=32:=rfl
 have e2:gIf.length=24:=rfl
 have e3:Qqf.length=30:=rfl
 omega
theorem Qqe {p:List UInt8} (h:∀ d∈p,d≠34∧d≠92) (hp:p.length≤40):(Qck p Qqx).length≤600:=by
 rw [← Qk1 h]
 simp only [List.length_append]
 have e1:Qo8.length=32:=rfl
 have e2:gIf.length=24:=rfl
 have e3:Qrt.length=24:=rfl
 omega
theorem QqO {x:List UInt8} {i j:Nat} (hx:Qs4 x) (hl:x.length≤16) (hij:i≤j) (hj:j≤x.length):∃ y r,parseL (Qck (x.take i++42 :: x.drop j) argA)=.ok y∧(sayL y (Qbz x)).1=[(4,x++r)]∧Qh1 (sayL y (Qbz x)).2.2=(0,-1):=by
 obtain ⟨y,h1,h2,h3⟩:=QiT (x.take i++42 :: x.drop j) argA
 obtain ⟨r,hr⟩:=Qj2 hx hl hij hj
 obtain ⟨h4,h5⟩:=Qok h2 h3 hr
 exact ⟨y,r,h1,h4,h5⟩
theorem Qsz {x:List UInt8} {i:Nat} (hx:Qs4 x) (hl:x.length≤16) (hi:i < x.length):∃ y,parseL (Qck (x.take i++63 :: x.drop (i+1)) Qqx)=.ok y∧(sayL y (Qbz x)).1=[(4,(x.drop i).take 1)]∧Qh1 (sayL y (Qbz x)).2.2=(0,-1):=by
 obtain ⟨y,h1,h2,h3⟩:=QiT (x.take i++63 :: x.drop (i+1)) Qqx
 obtain ⟨h4,h5⟩:=Qok h2 h3 (Qlt hx hl hi)
 exact ⟨y,h1,h4,h5⟩
theorem Qm2 (x:List UInt8) (i:Nat):(Qag x).extract i (i+1)=Qag ((x.drop i).take 1):=by
 apply ByteArray.ext
 apply Array.ext'
 simp [Qag]
end
section
open Go.RowKit
attribute [local go_sem ↓] Go.wp_at_zero Go.wp_at_succ
theorem Qiu (v:ByteArray) (k n:Int) (w:World) (he:Env w) (hs:v.size≤140737488355328) (hk0:-9223372036854775808≤k) (hk1:k≤9223372036854775807) (hn0:-9223372036854775808≤n) (hn1:n≤9223372036854775807) :
 Calls Tryz.prog 3 #[.string v,.int .i64 k,.int .i64 n] w fun e w'=>e=.returned (.bool true)∧Below w.heap.size w w':=by
 obtain ⟨x,rfl⟩:∃ x,v=Qag x:=⟨v.data.toList,rfl⟩
 have hz:=QaD x
 have HE:=Qaa he
 have HK0:=Qaa hk0
 have HK1:=Qaa hk1
 have HN0:=Qaa hn0
 have HN1:=Qaa hn1
 clear he hk0 hk1 hn0 hn1
 go_enter Tryz.func3,Tryz.ntmps3
 go_wp2_with fail
 refine (QrM w HE.out).mono ?_
 rintro e w1 ⟨rfl,hB1⟩
 have HB1:=Qaa hB1
 have HE1:=Qaa (HE.out.below hB1)
 have h1s:=hB1.size
 clear hB1
 by_cases h16:16 < (Qag x).size
 ·have h16':16 < x.length:=by omega
  go_wp2
  go_ret
  exact ⟨rfl,HB1.out⟩
 have h16':x.length≤16:=by omega
 have h16'':¬ (16:Int) < (x.length:Int):=by omega
 go_wp2
 go_loop [8] (fun i=>∃ a:Nat,a≤x.length∧i=.int .i64 a∧Qs4 (x.take a)) (fun i=>x.length - (intOf i).toNat)
 case atStart=>exact ⟨0,by omega,rfl,fun c hc=>by cases hc⟩
 case round=>
  obtain ⟨a,ha,rfl,hn⟩:=hrel
  have HL:=Qaa hn
  clear hn
  by_cases hlt:a < (Qag x).size
  ·have hlt':a < x.length:=by omega
   by_cases c1:((Qag x)[a].toNat:Int) < 97
   ·go_wp2
    go_ret
    exact ⟨rfl,HB1.out⟩
   by_cases c2:(122:Int) < ((Qag x)[a].toNat:Int)
   ·go_wp2
    go_ret
    exact ⟨rfl,HB1.out⟩
   have HT:=Qaa (Qr1 hlt HL.out (by omega) (by omega))
   go_wp2
   go_round
   case rel=>exact ⟨a+1,by omega,by go_num,HT.out⟩
   case measure=>simp [intOf];omega
  ·have hae:a=x.length:=by omega
   subst hae
   have hl:=HL.out
   rw [List.take_length] at hl
   have HLO:=Qaa hl
   obtain ⟨i,hi,hp1⟩:=Qs7 k ((x.length:Int)+1) HK0.out HK1.out (by omega) (by omega)
   have HP1:=Qaa hp1
   have hix:i≤x.length:=by omega
   obtain ⟨m,hm,hp2⟩:=Qs7 n ((x.length:Int) - (i:Int)+1) HN0.out HN1.out (by omega) (by omega)
   have HP2:=Qaa hp2
   obtain ⟨j,hj0⟩:∃ j:Nat,j=i+m:=⟨_,rfl⟩
   have hj:(i:Int)+(m:Int)=(j:Int):=by omega
   have hjx:j≤x.length:=by omega
   have hij:i≤j:=by omega
   have HY:=Qaa (QqO HLO.out h16' hij hjx)
   have hzn:¬ (x.length:Int) < (x.length:Int):=by omega
   clear hl hp1 hp2 hj0 hi hm hlt HL
   go_wp2_with fail
   refine (HP1.out w1).mono ?_
   rintro e w0 ⟨rfl,hw0⟩
   rw [hw0]
   clear hw0
   go_wp2_with fail
   refine (HP2.out w1).mono ?_
   rintro e w0' ⟨rfl,hw0⟩
   rw [hw0]
   clear hw0
   obtain ⟨y,r,hy,hl,hf⟩:=HY.out
   have HR1:=Qaa (And.intro hy (And.intro hl hf))
   obtain ⟨V,hV⟩:∃ V,V=(w1.alloc (.cells #[.string ⟨#[115]⟩,.string (Qag x)] 25)).alloc (.cells #[.string ⟨#[]⟩,.string ⟨#[]⟩,.int .i64 0,.slice (some ⟨w1.heap.size,0,none⟩) 1 1] 28):=⟨_,rfl⟩
   have hBV:Below w1.heap.size w1 V:=by rw [hV];exact ((Below.refl _ _).alloc (Nat.le_refl _) _).alloc (by simp) _
   have hVh:V.heap[w1.heap.size]?=some (.cells #[.string ⟨#[115]⟩,.string (Qag x)] 25):=by rw [hV];exact Qad (QaB _ _)
   have hVm:V.heap[w1.heap.size+1]?=some (.cells #[.string ⟨#[]⟩,.string ⟨#[]⟩,.int .i64 0,.slice (some ⟨w1.heap.size,0,none⟩) 1 1] 28):=by rw [hV];exact Qaw (by simp)
   have hB1V:=HB1.out.trans (hBV.mono h1s)
   have HBV:=Qaa hB1V
   have HVM:=Qaa hVm
   have HHD:Hid (Qik V (.slice (some ⟨w1.heap.size,0,none⟩) 1 1) (Qbz x).hdrs):=Or.inr ⟨w1.heap.size,1,_,rfl,hVh,fun j hj=>by
    have:j=0:=by have:j < 1:=hj;omega
    subst this
    exact ⟨rfl,rfl⟩⟩
   have HBD:Hid (∀ v,SBd (Qbz x) (ss0 v)):=fun v=>QlL (by show 0+0+1+(1+x.length+0)≤16384;omega) v
   have hVs:=hB1V.size
   have HWW:=Qaa hV
   have hex1:=Qbk x i
   have hex2:=Qdo x j
   have hi0:(0:Int)≤(i:Int):=by omega
   have hi1:(i:Int)≤(x.length:Int):=by omega
   have hj0:(0:Int)≤(j:Int):=by omega
   have hj1:(j:Int)≤(x.length:Int):=by omega
   have HCA:=Qaa (Quz (QrZ HLO.out i j (c:=42) (by decide)))
   have HLA:Hid ((Qck (x.take i++42 :: x.drop j) argA).length≤600):=QqN (QrZ HLO.out i j (c:=42) (by decide)) (by simp;omega)
   obtain ⟨p1,hp1⟩:∃ p1,x.take i=p1:=⟨_,rfl⟩
   obtain ⟨p2,hp2⟩:∃ p2,x.drop j=p2:=⟨_,rfl⟩
   have hpl1:p1.length≤16:=by rw [← hp1];simp;omega
   have hpl2:p2.length≤16:=by rw [← hp2];simp;omega
   have hzp1:=QaD p1
   have hzp2:=QaD p2
   rw [hp1] at hex1 HCA HLA HR1
   rw [hp2] at hex2 HCA HLA HR1
   clear hy hl hf hV hBV hVh hVm hB1V hp1 hp2
   go_wp2_with fail
   rw [← HWW.out]
   have hVl:=QaM HVM.out
   have m0:V.cell? ⟨w1.heap.size+1,0,none⟩=some (.string ⟨#[]⟩):=Qab HVM.out 0
   have m1:V.cell? ⟨w1.heap.size+1,1,none⟩=some (.string ⟨#[]⟩):=Qab HVM.out 1
   have m2:V.cell? ⟨w1.heap.size+1,2,none⟩=some (.int .i64 0):=Qab HVM.out 2
   have m3:V.cell? ⟨w1.heap.size+1,3,none⟩=some (.slice (some ⟨w1.heap.size,0,none⟩) 1 1):=Qab HVM.out 3
   have HEV:=Qaa (HE.out.below HBV.out)
   have HGD:=Qaa HHD.out.g
   have k2:¬ 9223372036854775807 < 56+p1.length:=by omega
   have k3:¬ 9223372036854775807 < 56+p1.length+1:=by omega
   have k4:¬ 9223372036854775807 < 56+p1.length+1+p2.length:=by omega
   have k5:¬ 9223372036854775807 < 56+p1.length+1+p2.length+30:=by omega
   go_region_held3 (fun w'=>w'.cell? ⟨w1.heap.size+1,0,none⟩=some (.string ⟨#[]⟩)∧w'.cell? ⟨w1.heap.size+1,1,none⟩=some (.string ⟨#[]⟩)∧w'.cell? ⟨w1.heap.size+1,2,none⟩=some (.int .i64 0)∧w'.cell? ⟨w1.heap.size+1,3,none⟩=some (.slice (some ⟨w1.heap.size,0,none⟩) 1 1)) (first | go_keep | exact ⟨q0,q1,q2,q3⟩) (first | (go_at_call 8;rw [HCA.out];refine (Qjv (Qag (Qck (p1++42 :: p2) argA)) y (.slice (some ⟨w1.heap.size,0,none⟩) 1 1) (Qbz x) V.drew (HEV.out.below (Qar (Below.refl _ _))) (by rw [QaD];exact HLA.out) HR1.out.1 HGD.out HBD.out).mono ?_;rintro e w2 ⟨hB2',lv2,rfl,hA2⟩;have hB2:Below V.heap.size V w2:=QaS hB2';rw [HR1.out.2.1] at hA2;rw [HR1.out.2.2];have HB2:=Qaa (HBV.out.trans (hB2.mono hVs));have HM2:=Qaa (Qaq HVM.out hB2);have HHD2:=Qaa (HHD.out.fr (P:=fun _ _=>False) (Fr.of_below hB2) (fun _ _ h=>h));have HA2:=Qaa hA2;have q0:w2.cell? ⟨w1.heap.size+1,0,none⟩=some (.string ⟨#[]⟩):=Qab HM2.out 0;have q1:w2.cell? ⟨w1.heap.size+1,1,none⟩=some (.string ⟨#[]⟩):=Qab HM2.out 1;have q2:w2.cell? ⟨w1.heap.size+1,2,none⟩=some (.int .i64 0):=Qab HM2.out 2;have q3:w2.cell? ⟨w1.heap.size+1,3,none⟩=some (.slice (some ⟨w1.heap.size,0,none⟩) 1 1):=Qab HM2.out 3;obtain ⟨g3,c3,hv3,_,hg3,hcells⟩:=Qdn hA2.1 (Nat.zero_lt_one);subst hv3;have d0:w2.cell? ⟨g3,0,none⟩=some (.int .i64 4):=hcells 0 _ rfl;have d1:w2.cell? ⟨g3,1,none⟩=some (.string (Qag (x++r))):=hcells 1 _ rfl;clear hB2' hB2 hA2 hcells;skip))
   all_goals have hzr:=QaD (x++r)
   all_goals have hlr:(x++r).length=x.length+r.length:=by simp
   all_goals have hexr:(Qag (x++r)).extract 0 x.length=Qag x:=by rw [Qbk,List.take_left]
   all_goals have hcmp1:¬ ((x++r).length:Int) < (x.length:Int):=by omega
   all_goals have hcmp2:(x.length:Int)≤((x++r).length:Int):=by omega
   all_goals have h2s:=HB2.out.size
   all_goals clear m0 m1 m2 m3 k2 k3 k4 k5 hlr
   by_cases hie:i=x.length
   ·have hie':((i:Int) == (x.length:Int))=true:=by rw [hie];simp
    have HIE:=Qaa hie
    clear hie
    go_wp2
    go_ret
    exact ⟨rfl,HB2.out⟩
   have hie':((i:Int) == (x.length:Int))=false:=by simp;omega
   have hilt:i < x.length:=by omega
   obtain ⟨y2,hy2,hl2,hf2⟩:=Qsz HLO.out h16' hilt
   have HR2:=Qaa (And.intro hy2 (And.intro hl2 hf2))
   have hwi:IntKind.i64.wrap ((i:Int)+1)=(i:Int)+1:=by rw [IntKind.wrap_i64];omega
   have hii0:(0:Int)≤(i:Int)+1:=by omega
   have hii1:(i:Int)+1≤(x.length:Int):=by omega
   have hii2:(i:Int)≤(i:Int)+1:=by omega
   have hii3:((i:Int)+1).toNat=i+1:=by omega
   have HCB:=Qaa (Qut (QrZ HLO.out i (i+1) (c:=63) (by decide)))
   have HLB:Hid ((Qck (x.take i++63 :: x.drop (i+1)) Qqx).length≤600):=Qqe (QrZ HLO.out i (i+1) (c:=63) (by decide)) (by simp;omega)
   have hex3:=Qdo x (i+1)
   have hex4:=Qm2 x i
   have hex1':=Qbk x i
   rw [hex1'] at hex1
   have hpe:x.take i=p1:=QfS hex1
   obtain ⟨p3,hp3⟩:∃ p3,x.drop (i+1)=p3:=⟨_,rfl⟩
   obtain ⟨p4,hp4⟩:∃ p4,(x.drop i).take 1=p4:=⟨_,rfl⟩
   have hpl3:p3.length≤16:=by rw [← hp3];simp;omega
   have hzp3:=QaD p3
   rw [hpe] at HCB HLB HR2 hex1'
   rw [hp3] at HCB HLB HR2 hex3
   rw [hp4] at HR2 hex4
   have k2:¬ 9223372036854775807 < 56+p1.length:=by omega
   have k3:¬ 9223372036854775807 < 56+p1.length+1:=by omega
   have k4:¬ 9223372036854775807 < 56+p1.length+1+p3.length:=by omega
   have k5:¬ 9223372036854775807 < 56+p1.length+1+p3.length+24:=by omega
   have HE2:=Qaa (HE.out.below HB2.out)
   have HGD2:=Qaa HHD2.out.g
   clear hie hy2 hl2 hf2 hpe hp3 hp4 hex1
   go_wp2_with fail
   go_region_held3 (fun w'=>w'.cell? ⟨w1.heap.size+1,0,none⟩=some (.string ⟨#[]⟩)∧w'.cell? ⟨w1.heap.size+1,1,none⟩=some (.string ⟨#[]⟩)∧w'.cell? ⟨w1.heap.size+1,2,none⟩=some (.int .i64 0)∧w'.cell? ⟨w1.heap.size+1,3,none⟩=some (.slice (some ⟨w1.heap.size,0,none⟩) 1 1)) (first | go_keep | exact ⟨t0,t1,t2,t3⟩) (first | (go_at_call 8;rw [HCB.out];refine (Qjv (Qag (Qck (p1++63 :: p3) Qqx)) y2 (.slice (some ⟨w1.heap.size,0,none⟩) 1 1) (Qbz x) _ (HE2.out.below (Qar (Below.refl _ _))) (by rw [QaD];exact HLB.out) HR2.out.1 HGD2.out HBD.out).mono ?_;rintro e w3 ⟨hB3',lv3,rfl,hA3⟩;have hB3:Below w2.heap.size w2 w3:=QaS hB3';rw [HR2.out.2.1] at hA3;rw [HR2.out.2.2];have HB3:=Qaa (HB2.out.trans (hB3.mono h2s));have HM3:=Qaa (Qaq HM2.out hB3);have t0:w3.cell? ⟨w1.heap.size+1,0,none⟩=some (.string ⟨#[]⟩):=Qab HM3.out 0;have t1:w3.cell? ⟨w1.heap.size+1,1,none⟩=some (.string ⟨#[]⟩):=Qab HM3.out 1;have t2:w3.cell? ⟨w1.heap.size+1,2,none⟩=some (.int .i64 0):=Qab HM3.out 2;have t3:w3.cell? ⟨w1.heap.size+1,3,none⟩=some (.slice (some ⟨w1.heap.size,0,none⟩) 1 1):=Qab HM3.out 3;obtain ⟨g4,c4,hv4,_,hg4,hcells⟩:=Qdn hA3.1 (Nat.zero_lt_one);subst hv4;have s0:w3.cell? ⟨g4,0,none⟩=some (.int .i64 4):=hcells 0 _ rfl;have s1:w3.cell? ⟨g4,1,none⟩=some (.string (Qag p4)):=hcells 1 _ rfl;clear hB3' hB3 hA3 hcells;skip))
   all_goals have heq:∀ W,(binOp .eql 34 (.agg #[.int .i64 4,.string (Qag p4)]) (.agg #[.int .i64 4,.string (Qag p4)])).run Tryz.prog W=.ok (.bool true) W:=fun W=>(QsL (4,p4) (4,p4) W).trans (by simp)
   all_goals go_wp2_with fail
   all_goals clear hex1' hex2 hex3 hexr d0 d1 q0 q1 q2 q3 t0 t1 t2 t3 k2 k3 k4 k5
   all_goals go_quiet (fail)
   all_goals go_wp2
   all_goals go_ret
   all_goals exact ⟨rfl,Qb0 HB3.out⟩
end
end Go.Proofs.YtbiclelojbfnbabGreatDoor
