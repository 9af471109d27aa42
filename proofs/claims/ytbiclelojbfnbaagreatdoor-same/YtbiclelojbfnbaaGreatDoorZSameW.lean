import Derived.Test.YtbiclelojbfnbaaGreatDoorZKSmall
import Derived.Test.YtbiclelojbfnbaaGreatDoorZWText
namespace Go.Proofs.YtbiclelojbfnbaaGreatDoor
set_option linter.unusedVariables false
set_option linter.unusedSimpArgs false
set_option maxRecDepth 100000
set_option maxHeartbeats 4000000
section
open Go.RowKit
attribute [local go_sem ↓] Go.wp_at_zero Go.wp_at_succ
def sayL (y:List (List UInt8)×List (Qcd 7)) (M:Msg):List (Int×List UInt8)×Nat×Option FZ:=execL (varsB y.1) (Qd5 y.2) M
theorem Qrw (y:List (List UInt8)×List (Qcd 7)):y.1.length≤(QcL y).length+1:=by
 by_cases h:y.1=[]
 ·rw [h];exact Nat.zero_le _
 ·have h1:=(Qfk y.1).2
  unfold QcL requireTxt
  rw [if_neg h]
  simp only [List.length_append]
  omega
theorem Qot (s:ByteArray) (y:List (List UInt8)×List (Qcd 7)) (hv:Value) (M:Msg) (w:World) (he:Env w) (hs:s.size≤600) (hy:parseL s.data.toList=.ok y) (hh:Qqz w hv M.hdrs) (hbd:∀ v,SBd M (ss0 v)) :
 Calls Tryz.prog 27 #[.string s,Qf0 M hv] w fun e w'=>Below w.heap.size w w'∧∃ lv,e=.returned (.tuple #[lv,.int .i64 (QiP (sayL y M).2.2).1,.bool true])∧ActsV w' w.heap.size lv (sayL y M).1:=by
 obtain ⟨ah,ch,rfl⟩:=hh.len
 have HY:=Qab hy
 have HE:=Qab he
 have HHD:=Qab hh
 have HBD:=Qab hbd
 have HWF:=Qab (QkY hy)
 have htl:=Qis hy
 have hsl:s.data.toList.length=s.size:=by simp
 have HTL:Hid ((QcL y).length≤100000):=by show _≤_;omega
 have HRL:Hid (y.1.length≤1000000):=by show _≤_;have:=Qrw y;have:=HTL.out;omega
 obtain ⟨r,hr⟩:∃ r,sayL y M=r:=⟨_,rfl⟩
 rw [hr]
 have HR:=Qab hr
 clear hy he hh hbd htl hsl hr
 have hms:∀ (a:Option Addr) (n c:Nat),Qf0 M (.slice a n c)=.agg #[.string (Qad M.fr),.string (Qad M.to),.int .i64 M.size,.slice a n c]:=fun _ _ _=>rfl
 rw [hms]
 have HMS:=Qab hms
 clear hms
 obtain ⟨W0,hW0⟩:∃ W0,W0=w.alloc (.cells #[.string (Qad M.fr),.string (Qad M.to),.int .i64 M.size,.slice ah M.hdrs.length ch] 48):=⟨_,rfl⟩
 have HB0:Hid (Below w.heap.size w W0):=by show Below _ _ _;rw [hW0];exact (Below.refl _ _).alloc (Nat.le_refl _) _
 have HM0:Hid (W0.heap[w.heap.size]?=some (.cells #[.string (Qad M.fr),.string (Qad M.to),.int .i64 M.size,.slice ah M.hdrs.length ch] 48)):=by show _=_;rw [hW0];exact Qay _ _
 have h0s:=HB0.out.size
 have HWW:=Qab hW0
 clear hW0
 go_enter Tryz.func27,Tryz.ntmps27
 go_wp2_with fail
 rw [← HWW.out]
 refine (Qfo s W0 (HE.out.below HB0.out).m1 (HE.out.below HB0.out).et).mono ?_
 rintro e w1 ⟨hB1',⟨hbig,_⟩ | ⟨_,y1,g,rv,lv,hy1,rfl,hz,hc,hrq,hbl⟩ | ⟨_,f,hf,_⟩⟩
 ·omega
 ·have hyy:y1=y:=by have:=HY.out;rw [hy1] at this;exact Except.ok.inj this
  subst hyy
  have hB1:Below w.heap.size w w1:=HB0.out.trans (hB1'.mono h0s)
  have HB1:=Qab hB1
  have HE1:=Qab (HE.out.below hB1)
  have HM1:=Qab (Qal HM0.out hB1')
  have HC:=Qab hc
  have HRQ:=Qab hrq
  have HBL:=Qab hbl
  have m0:w1.cell? ⟨w.heap.size,0,none⟩=some (.string (Qad M.fr)):=Qaa HM1.out 0
  have m1:w1.cell? ⟨w.heap.size,1,none⟩=some (.string (Qad M.to)):=Qaa HM1.out 1
  have m2:w1.cell? ⟨w.heap.size,2,none⟩=some (.int .i64 M.size):=Qaa HM1.out 2
  have m3:w1.cell? ⟨w.heap.size,3,none⟩=some (.slice ah M.hdrs.length ch):=Qaa HM1.out 3
  have h1s:=hB1.size
  clear hB1 hB1' hc hrq hbl hy1
  go_wp2_with fail
  rw [← HMS.out]
  refine (Qpc g y1 rv lv _ M w1 _ HE1.out HC.out HRQ.out HBL.out HWF.out.2 HTL.out HRL.out (HHD.out.below HB1.out) HBD.out).mono ?_
  rintro e w2 ⟨hB2,lv2,rfl,hA⟩
  rw [show execL (varsB y1.1) (Qd5 y1.2) M=r from HR.out] at hA ⊢
  have HB2:=Qab (HB1.out.trans (hB2.mono h1s))
  have HA:=Qab hA
  obtain ⟨la,lc,hlv⟩:=QaL hA.1
  subst hlv
  clear hA hB2
  go_wp2
  refine bodyPost_ret (v:=.tuple #[.slice la r.1.length lc,.int .i64 (QiP r.2.2).1,.bool true]) (by simp [results,Tryz.results27,go_sem]) rfl ?_
  exact ⟨HB2.out,_,rfl,HA.out.lo h1s⟩
 ·have:=HY.out
  rw [hf] at this
  cases this
end
section
open Go.RowKit
attribute [local go_sem ↓] Go.wp_at_zero Go.wp_at_succ
def QvE:List UInt8:=[105,102,32,104,101,97,100,101,114,32,58,99,111,109,112,97,114,97,116,111,114,32,34,105,59,111,99,116,101,116,34,32,34,83,117,98,106,101,99,116,34,32,34,120,34,32,123,32,100,105,115,99,97,114,100,59,32,125,32,101,108,115,101,32,123,32,114,101,100,105,114,101,99,116,32,34,97,64,98,34,59,32,125]
def exM:Msg:=⟨[],[],0,[([115,117,98,106,101,99,116],[88])]⟩
def Qvs (t:List UInt8) (M:Msg):Option (List (Int×List UInt8)×FZ):=
 match parseL t with
 | .ok y=>some ((sayL y M).1,QiP (sayL y M).2.2)
 | .error _=>none
theorem QvH:Qvs exT1 exM=some ([],(0,-1)):=by kernel_rfl
theorem QvF:Qvs QvE exM=some ([(3,[97,64,98])],(0,-1)):=by kernel_rfl
theorem Qsu {t:List UInt8} {M:Msg} {l:List (Int×List UInt8)} {f:FZ} (h:Qvs t M=some (l,f)):∃ y,parseL t=.ok y∧(sayL y M).1=l∧QiP (sayL y M).2.2=f:=by
 unfold Qvs at h
 cases hp:parseL t with
 | error e=>rw [hp] at h;cases h
 | ok y=>
  rw [hp] at h
  simp at h
  exact ⟨y,rfl,h.1,h.2⟩
theorem Qs9 (w:World) (he:Env w):Calls Tryz.prog 24 #[] w fun e w'=>e=.returned (.bool true)∧Below w.heap.size w w':=by
 have HE:=Qab he
 clear he
 go_enter Tryz.func24,Tryz.ntmps24
 go_wp2_with fail
 refine (Qp1 w HE.out).mono ?_
 rintro e w1 ⟨rfl,hB1⟩
 have HB1:=Qab hB1
 have h1s:=hB1.size
 clear hB1
 obtain ⟨y1,hy1,hl1,hf1⟩:=Qsu QvH
 obtain ⟨y3,hy3,hl3,hf3⟩:=Qsu QvF
 obtain ⟨V,hV⟩:∃ V,V=(w1.alloc (.cells #[.string ⟨#[115,117,98,106,101,99,116]⟩,.string ⟨#[88]⟩] 100)).alloc (.cells #[.string ⟨#[]⟩,.string ⟨#[]⟩,.int .i64 0,.slice (some ⟨w1.heap.size,0,none⟩) 1 1] 48):=⟨_,rfl⟩
 have HWW:=Qab hV
 have hBV:Below w1.heap.size w1 V:=by rw [hV];exact ((Below.refl _ _).alloc (Nat.le_refl _) _).alloc (by simp) _
 have hVh:V.heap[w1.heap.size]?=some (.cells #[.string ⟨#[115,117,98,106,101,99,116]⟩,.string ⟨#[88]⟩] 100):=by rw [hV];exact Qac (Qay _ _)
 have hVm:V.heap[w1.heap.size+1]?=some (.cells #[.string ⟨#[]⟩,.string ⟨#[]⟩,.int .i64 0,.slice (some ⟨w1.heap.size,0,none⟩) 1 1] 48):=by rw [hV];exact QaD (by simp)
 have hB1V:=HB1.out.trans (hBV.mono h1s)
 have HBV:=Qab hB1V
 have HVM:=Qab hVm
 have HHD:Hid (Qji V (.slice (some ⟨w1.heap.size,0,none⟩) 1 1) exM.hdrs):=Or.inr ⟨w1.heap.size,1,_,rfl,hVh,fun j hj=>by
  have:j=0:=by have:j < 1:=hj;omega
  subst this
  exact ⟨rfl,rfl⟩⟩
 have HBD:Hid (∀ v,SBd exM (ss0 v)):=fun v=>QmB (by decide) v
 have hVs:=hB1V.size
 have HR1:=Qab (And.intro hy1 (And.intro hl1 hf1))
 have HR3:=Qab (And.intro hy3 (And.intro hl3 hf3))
 clear hV hBV hVh hVm hB1V hy1 hl1 hf1 hy3 hl3 hf3
 go_wp2_with fail
 rw [show (w1.alloc _).alloc _=V from HWW.out.symm]
 refine (Qot ⟨exT1.toArray⟩ y1 (.slice (some ⟨w1.heap.size,0,none⟩) 1 1) exM V (HE.out.below HBV.out) (by decide) HR1.out.1 HHD.out.g HBD.out).mono ?_
 rintro e w2 ⟨hB2,lv2,rfl,hA2⟩
 rw [HR1.out.2.1] at hA2
 rw [HR1.out.2.2]
 have hlv2:=hA2.2 rfl
 subst hlv2
 have HB2:=Qab (HBV.out.trans (hB2.mono hVs))
 have HM2:=Qab (Qal HVM.out hB2)
 have HHD2:=Qab (HHD.out.fr (P:=fun _ _=>False) (Fr.of_below hB2) (fun _ _ h=>h))
 have m0:w2.cell? ⟨w1.heap.size+1,0,none⟩=some (.string ⟨#[]⟩):=Qaa HM2.out 0
 have m1:w2.cell? ⟨w1.heap.size+1,1,none⟩=some (.string ⟨#[]⟩):=Qaa HM2.out 1
 have m2:w2.cell? ⟨w1.heap.size+1,2,none⟩=some (.int .i64 0):=Qaa HM2.out 2
 have m3:w2.cell? ⟨w1.heap.size+1,3,none⟩=some (.slice (some ⟨w1.heap.size,0,none⟩) 1 1):=Qaa HM2.out 3
 have h2s:=HB2.out.size
 clear hB2 hA2
 go_wp2_with fail
 refine (Qot ⟨QvE.toArray⟩ y3 (.slice (some ⟨w1.heap.size,0,none⟩) 1 1) exM w2 (HE.out.below HB2.out) (by decide) HR3.out.1 HHD2.out.g HBD.out).mono ?_
 rintro e w3 ⟨hB3,lv3,rfl,hA3⟩
 rw [HR3.out.2.1] at hA3
 rw [HR3.out.2.2]
 have HB3:=Qab (HB2.out.trans (hB3.mono h2s))
 obtain ⟨g3,c3,hv3,_,hg3,hcells⟩:=QdB hA3.1 (by decide)
 subst hv3
 have d0:w3.cell? ⟨g3,0,none⟩=some (.int .i64 3):=hcells 0 _ rfl
 have d1:w3.cell? ⟨g3,1,none⟩=some (.string ⟨#[97,64,98]⟩):=hcells 1 _ rfl
 have heq:∀ W,(binOp .eql 76 (.agg #[.int .i64 3,.string ⟨#[97,64,98]⟩]) (.agg #[.int .i64 3,.string ⟨#[97,64,98]⟩])).run Tryz.prog W=.ok (.bool true) W:=fun W=>(Qtu (3,[97,64,98]) (3,[97,64,98]) W).trans (by simp)
 clear hcells hA3 hB3
 go_wp2
 go_ret
 exact ⟨rfl,HB3.out⟩
end
section
open Go.RowKit
attribute [local go_sem ↓] Go.wp_at_zero Go.wp_at_succ
theorem QsN {w:World} {base:Nat} {e:TypeId} {size:Nat} {v:Value} {n:Nat} {xs:List Value} (h:w.ownsRow base e size v n xs):n≤maxLen:=by
 rcases h.2 with ⟨_,h2⟩ | ⟨g,cap,cur,hv,hg,hb,hc,hm,_⟩
 ·rw [h2];exact Nat.zero_le _
 ·exact Nat.le_trans hc hm
theorem Qvf (a b:Int×List UInt8) (W:World):(binOp .neq 76 (.agg #[.int .i64 a.1,.string (Qad a.2)]) (.agg #[.int .i64 b.1,.string (Qad b.2)])).run Tryz.prog W=.ok (.bool (!decide (a=b))) W:=by
 have h:=Qtu a b W
 rw [run_eql_struct] at h
 rw [run_neq_struct]
 generalize (Op.equalIn 10000 76 (.agg #[.int .i64 a.1,.string (Qad a.2)]) (.agg #[.int .i64 b.1,.string (Qad b.2)])).run Tryz.prog W=r at h
 cases r with
 | ok x w'=>
  simp [Result.andThen] at h ⊢
  obtain ⟨rfl,rfl⟩:=h
  exact ⟨rfl,rfl⟩
 | _=>simp [Result.andThen] at h
theorem Qq5 (B B':Nat) (u v:Value) (l:List (Int×List UInt8)) (w:World) (hu:ActsV w B u l) (hv:ActsV w B' v l) :
 Calls Tryz.prog 28 #[u,v] w fun e w'=>e=.returned (.bool true)∧Below w.heap.size w w':=by
 obtain ⟨a,c,rfl⟩:=QaL hu.1
 obtain ⟨b,c',rfl⟩:=QaL hv.1
 have hl:l.length≤maxLen:=QsN hu.1
 unfold maxLen at hl
 have HU:=Qab hu.1
 have HV:=Qab hv.1
 clear hu hv
 go_enter Tryz.func28,Tryz.ntmps28
 go_wp2_with fail
 go_loopw [5] (fun i wr=>∃ (k:Nat),k≤l.length∧i=.int .i64 (k:Int)∧Below w.heap.size w wr) (fun i _=>l.length - (intOf i).toNat)
 case atStart=>exact ⟨0,Nat.zero_le _,by go_num,Below.refl _ _⟩
 case round=>
  obtain ⟨k,hk,rfl,hB⟩:=hrel
  have HB:=Qab hB
  clear hB
  by_cases hlt:k < l.length
  ·have hlt':(k:Int) < (l.length:Int):=by omega
   obtain ⟨g,c1,hv1,_,hgl,hcells⟩:=QdB HU.out (by omega)
   obtain ⟨g',c2,hv2,_,hgl',hcells'⟩:=QdB HV.out (by omega)
   injection hv1 with hv1 _ hv3
   injection hv2 with hv2 _ hv4
   subst hv1 hv2
   have hat:=Qlt l k hlt
   have d1:wr.cell? ⟨g,k*2,none⟩=some (.int .i64 l[k].1):=by rw [HB.out.cell (p:=⟨g,k*2,none⟩) hgl];exact hcells _ _ hat.1
   have d2:wr.cell? ⟨g,k*2+1,none⟩=some (.string (Qad l[k].2)):=by rw [HB.out.cell (p:=⟨g,k*2+1,none⟩) hgl];exact hcells _ _ hat.2
   have d3:wr.cell? ⟨g',k*2,none⟩=some (.int .i64 l[k].1):=by rw [HB.out.cell (p:=⟨g',k*2,none⟩) hgl'];exact hcells' _ _ hat.1
   have d4:wr.cell? ⟨g',k*2+1,none⟩=some (.string (Qad l[k].2)):=by rw [HB.out.cell (p:=⟨g',k*2+1,none⟩) hgl'];exact hcells' _ _ hat.2
   generalize l[k]=x at *
   have heq:∀ W,(binOp .neq 76 (.agg #[.int .i64 x.1,.string (Qad x.2)]) (.agg #[.int .i64 x.1,.string (Qad x.2)])).run Tryz.prog W=.ok (.bool false) W:=fun W=>by rw [Qvf];simp
   clear hcells hcells' hat hv3 hv4
   go_wp2_with fail
   go_quiet (fail)
   all_goals go_wp2
   go_roundw
   case rel=>exact ⟨k+1,by omega,by go_num,Qb2 HB.out⟩
   case measure=>simp [intOf];omega
  ·have hlt':¬ (k:Int) < (l.length:Int):=by omega
   go_wp2
   go_ret
   exact ⟨rfl,HB.out⟩
end
section
open Go.RowKit
attribute [local go_sem ↓] Go.wp_at_zero Go.wp_at_succ
theorem QsD {l:List UInt8} {y:List (List UInt8)×List (Qcd 7)} (h:parseL l=.ok y):∃ y',parseL (QcL y)=.ok y'∧∀ M,(sayL y' M).1=(sayL y M).1∧(QiP (sayL y' M).2.2).1=(QiP (sayL y M).2.2).1:=by
 obtain ⟨h1,h2⟩:=QkY h
 obtain ⟨y',h3,h4,h5⟩:=QqU h1 h2
 refine ⟨y',h3,fun M=>?_⟩
 have hz:=Qum (varsB y.1) M (Quh h5)
 unfold sayL
 rw [h4]
 refine ⟨hz.1,?_⟩
 have h6:=hz.2.2
 generalize (execL (varsB y.1) (Qd5 y'.2) M).2.2=a at h6
 generalize (execL (varsB y.1) (Qd5 y.2) M).2.2=b at h6
 cases a <;> cases b <;> simp [QiP] at h6 ⊢
 exact h6
theorem Qoe (s:ByteArray) (M:Msg) (hv:Value) (w:World) (he:Env w) (hs:s.size≤9223372036854775807) (hh:Qqz w hv M.hdrs) (hb:Qvv M) :
 Calls Tryz.prog 12 #[.string s,Qf0 M hv] w fun e w'=>e=.returned (.bool true)∧Below w.heap.size w w':=by
 obtain ⟨ah,ch,rfl⟩:=hh.len
 have HE:=Qab he
 have HHD:=Qab hh
 have HMB:=Qab hb
 clear he hh hb
 have hms:∀ (a:Option Addr) (n c:Nat),Qf0 M (.slice a n c)=.agg #[.string (Qad M.fr),.string (Qad M.to),.int .i64 M.size,.slice a n c]:=fun _ _ _=>rfl
 rw [hms]
 have HMS:=Qab hms
 clear hms
 obtain ⟨W0,hW0⟩:∃ W0,W0=w.alloc (.cells #[.string (Qad M.fr),.string (Qad M.to),.int .i64 M.size,.slice ah M.hdrs.length ch] 48):=⟨_,rfl⟩
 have HB0:Hid (Below w.heap.size w W0):=by show Below _ _ _;rw [hW0];exact (Below.refl _ _).alloc (Nat.le_refl _) _
 have HM0:Hid (W0.heap[w.heap.size]?=some (.cells #[.string (Qad M.fr),.string (Qad M.to),.int .i64 M.size,.slice ah M.hdrs.length ch] 48)):=by show _=_;rw [hW0];exact Qay _ _
 have h0s:=HB0.out.size
 have h0l:=QaH HM0.out
 have HWW:=Qab hW0
 have HCE:Hid (∀ W:World,Below (w.heap.size+1) W0 W→Below w.heap.size w W∧Env W∧Qqz W (.slice ah M.hdrs.length ch) M.hdrs∧w.heap.size≤W.heap.size∧w.heap.size+1≤W.heap.size∧W.cell? ⟨w.heap.size,0,none⟩=some (.string (Qad M.fr))∧W.cell? ⟨w.heap.size,1,none⟩=some (.string (Qad M.to))∧W.cell? ⟨w.heap.size,2,none⟩=some (.int .i64 M.size)∧W.cell? ⟨w.heap.size,3,none⟩=some (.slice ah M.hdrs.length ch)):=fun W hW=>by
  have hBW:Below w.heap.size w W:=HB0.out.trans (hW.mono (by omega))
  have hMW:W.heap[w.heap.size]?=some _:=(hW.block w.heap.size (by omega)).trans HM0.out
  have h1:=hW.size
  exact ⟨hBW,HE.out.below hBW,HHD.out.below hBW,by omega,by omega,Qaa hMW 0,Qaa hMW 1,Qaa hMW 2,Qaa hMW 3⟩
 clear hW0
 go_enter Tryz.func12,Tryz.ntmps12
 go_wp2_with fail
 rw [← HWW.out]
 refine (Qs9 W0 (HE.out.below HB0.out)).mono ?_
 rintro e w1 ⟨rfl,hB1⟩
 have hC1:Below (w.heap.size+1) W0 w1:=hB1.mono (by omega)
 have HC1:=Qab hC1
 obtain ⟨_,_,_,h1s,h1l,m0,m1,m2,m3⟩:=HCE.out w1 hC1
 clear hB1 hC1
 go_wp2_with fail
 rw [← HMS.out]
 refine (QpJ M _ w1 (HCE.out w1 HC1.out).2.2.1 HMB.out).mono ?_
 rintro e w2 ⟨rfl,hB2⟩
 have hC2:Below (w.heap.size+1) W0 w2:=HC1.out.trans (hB2.mono h1l)
 have HC2:=Qab hC2
 have h2l:=(HCE.out w2 hC2).2.2.2.2.1
 clear hB2 hC2 m0 m1 m2 m3
 by_cases hsm:QtR M≤16384
 rotate_left
 ·have hd:decide (QtR M≤16384)=false:=decide_eq_false hsm
  rw [hd]
  clear hd hsm
  go_wp2
  go_ret
  exact ⟨rfl,(HCE.out w2 HC2.out).1⟩
 have hd:decide (QtR M≤16384)=true:=decide_eq_true hsm
 rw [hd]
 have HBD:=Qab (QmB hsm)
 clear hd hsm
 go_wp2_with fail
 refine (Qfo s w2 (HCE.out w2 HC2.out).2.1.m1 (HCE.out w2 HC2.out).2.1.et).mono ?_
 rintro e w3 ⟨hB3,hP⟩
 have hC3:Below (w.heap.size+1) W0 w3:=HC2.out.trans (hB3.mono h2l)
 have HC3:=Qab hC3
 have h3l:=(HCE.out w3 hC3).2.2.2.2.1
 clear hB3 hC3
 rcases hP with ⟨hl,rfl⟩ | ⟨hsz,y,g,rv,lv,hy,rfl,hz,hc,hr,hbl⟩ | ⟨hsz,f,hf,rfl⟩
 ·go_wp2
  go_ret
  exact ⟨rfl,(HCE.out w3 HC3.out).1⟩
 ·have HY:=Qab hy
  have HWF:=Qab (QkY hy)
  have HTS:=Qab (QpB hy hsz)
  have htl:=Qis hy
  have hsl:s.data.toList.length=s.size:=by simp
  have HTL:Hid ((QcL y).length≤100000):=by show _≤_;omega
  have HRL:Hid (y.1.length≤1000000):=by show _≤_;have:=Qrw y;have:=HTL.out;omega
  obtain ⟨y2,hy2,hsay⟩:=QsD hy
  have HY2:=Qab hy2
  have HSAY:=Qab (hsay M)
  have HC:=Qab hc
  have HR:=Qab hr
  have HBL:=Qab hbl
  have hgl:=QaH hc
  have htz:=Qat (QcL y)
  clear hy hc hr hbl hy2 hsay htl hsl
  go_wp2_with fail
  refine (Qjp g y rv lv w3 _ HC.out HR.out HBL.out (HCE.out w3 HC3.out).2.1.tab HWF.out.2 HTS.out).mono ?_
  rintro e w4 ⟨rfl,hB4⟩
  have hC4:Below (w.heap.size+1) W0 w4:=HC3.out.trans (hB4.mono h3l)
  have HC4:=Qab hC4
  obtain ⟨_,_,_,h4s,h4l,m0,m1,m2,m3⟩:=HCE.out w4 hC4
  have HC':=Qab (Qal HC.out hB4)
  have HR':=Qab (HR.out.keep (fun k _ hk=>hB4.block k hk))
  have HBL':=Qab (HBL.out.keep (QaY 7) (fun k _ hk=>hB4.block k hk))
  clear hB4 hC4
  by_cases hlong:600 < (QcL y).length
  ·have h6:(600:Int) < ((QcL y).length:Int):=by omega
   go_wp2
   go_ret
   exact ⟨rfl,(HCE.out w4 HC4.out).1⟩
  have h6:¬ (600:Int) < ((QcL y).length:Int):=by omega
  obtain ⟨r,hrr⟩:∃ r,sayL y M=r:=⟨_,rfl⟩
  have HRR:=Qab hrr
  rw [hrr] at HSAY
  clear hrr
  go_wp2_with fail
  rw [← HMS.out]
  refine (Qpc g y rv lv _ M w4 _ (HCE.out w4 HC4.out).2.1 HC'.out HR'.out HBL'.out HWF.out.2 HTL.out HRL.out (HCE.out w4 HC4.out).2.2.1 HBD.out).mono ?_
  rintro e w5 ⟨hB5,lv5,rfl,hA5⟩
  rw [show execL (varsB y.1) (Qd5 y.2) M=r from HRR.out] at hA5 ⊢
  have hC5:Below (w.heap.size+1) W0 w5:=HC4.out.trans (hB5.mono h4l)
  have HC5:=Qab hC5
  clear m0 m1 m2 m3
  obtain ⟨_,_,_,h5s,h5l,m0,m1,m2,m3⟩:=HCE.out w5 hC5
  have HA5:=Qab hA5
  obtain ⟨la,lc,hlv⟩:=QaL hA5.1
  subst hlv
  clear hA5 hB5 hC5
  go_wp2_with fail
  rw [← HMS.out]
  refine (Qot (Qad (QcL y)) y2 _ M w5 (HCE.out w5 HC5.out).2.1 (by rw [htz];omega) HY2.out (HCE.out w5 HC5.out).2.2.1 HBD.out).mono ?_
  rintro e w6 ⟨hB6,lv6,rfl,hA6⟩
  rw [HSAY.out.1] at hA6
  rw [HSAY.out.2]
  have hC6:Below (w.heap.size+1) W0 w6:=HC5.out.trans (hB6.mono h5l)
  have HC6:=Qab hC6
  have h6l:=(HCE.out w6 hC6).2.2.2.2.1
  have HA6:=Qab hA6
  have HA56:=Qab (HA5.out.below hB6)
  obtain ⟨lb,ld,hlv⟩:=QaL hA6.1
  subst hlv
  clear hA6 hB6 hC6 m0 m1 m2 m3
  go_wp2_with fail
  refine (Qq5 _ _ _ _ r.1 w6 HA56.out HA6.out).mono ?_
  rintro e w7 ⟨rfl,hB7⟩
  have hC7:Below (w.heap.size+1) W0 w7:=HC6.out.trans (hB7.mono h6l)
  have HC7:=Qab hC7
  clear hB7 hC7
  go_wp2
  go_ret
  exact ⟨rfl,(HCE.out w7 HC7.out).1⟩
 ·go_wp2
  go_ret
  exact ⟨rfl,(HCE.out w3 HC3.out).1⟩
end
end Go.Proofs.YtbiclelojbfnbaaGreatDoor
