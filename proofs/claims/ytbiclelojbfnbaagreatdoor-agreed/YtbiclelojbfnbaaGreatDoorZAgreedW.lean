import Derived.Test.YtbiclelojbfnbaaGreatDoorZKSmall
import Derived.Test.YtbiclelojbfnbaaGreatDoorZPlainVars
import Derived.Test.YtbiclelojbfnbaaGreatDoorZXPExec
namespace Go.Proofs.YtbiclelojbfnbaaGreatDoor
set_option linter.unusedVariables false
set_option linter.unusedSimpArgs false
set_option maxRecDepth 100000
set_option maxHeartbeats 4000000
section
open Go.RowKit
attribute [local go_sem ↓] Go.wp_at_zero Go.wp_at_succ
theorem owns_max {w:World} {base:Nat} {e:TypeId} {size:Nat} {v:Value} {n:Nat} {xs:List Value} (h:w.ownsRow base e size v n xs):n≤maxLen:=by
 rcases h.2 with ⟨_,h2⟩ | ⟨g,cap,cur,hv,hg,hb,hc,hm,_⟩
 ·rw [h2];exact Nat.zero_le _
 ·exact Nat.le_trans hc hm
theorem neqAct (a b:Int×List UInt8) (W:World):(binOp .neq 76 (.agg #[.int .i64 a.1,.string (strA a.2)]) (.agg #[.int .i64 b.1,.string (strA b.2)])).run Tryz.prog W=.ok (.bool (!decide (a=b))) W:=by
 have h:=eqAct a b W
 rw [run_eql_struct] at h
 rw [run_neq_struct]
 generalize (Op.equalIn 10000 76 (.agg #[.int .i64 a.1,.string (strA a.2)]) (.agg #[.int .i64 b.1,.string (strA b.2)])).run Tryz.prog W=r at h
 cases r with
 | ok x w'=>
  simp [Result.andThen] at h ⊢
  obtain ⟨rfl,rfl⟩:=h
  exact ⟨rfl,rfl⟩
 | _=>simp [Result.andThen] at h
theorem sameK_any (B B':Nat) (u v:Value) (l:List (Int×List UInt8)) (w:World) (hu:ActsV w B u l) (hv:ActsV w B' v l) :
  Calls Tryz.prog 28 #[u,v] w fun e w'=>e=.returned (.bool true)∧Below w.heap.size w w':=by
 obtain ⟨a,c,rfl⟩:=owns_len hu.1
 obtain ⟨b,c',rfl⟩:=owns_len hv.1
 have hl:l.length≤maxLen:=owns_max hu.1
 unfold maxLen at hl
 have HU:=hide hu.1
 have HV:=hide hv.1
 clear hu hv
 go_enter Tryz.func28,Tryz.ntmps28
 go_wp2_with fail
 go_loopw [5] (fun i wr=>∃ (k:Nat),k≤l.length∧i=.int .i64 (k:Int)∧Below w.heap.size w wr) (fun i _=>l.length - (intOf i).toNat)
 case atStart=>exact ⟨0,Nat.zero_le _,by go_num,Below.refl _ _⟩
 case round=>
  obtain ⟨k,hk,rfl,hB⟩:=hrel
  have HB:=hide hB
  clear hB
  by_cases hlt:k < l.length
  ·have hlt':(k:Int) < (l.length:Int):=by omega
   obtain ⟨g,c1,hv1,_,hgl,hcells⟩:=owns_get HU.out (by omega)
   obtain ⟨g',c2,hv2,_,hgl',hcells'⟩:=owns_get HV.out (by omega)
   injection hv1 with hv1 _ hv3
   injection hv2 with hv2 _ hv4
   subst hv1 hv2
   have hat:=acells_at l k hlt
   have d1:wr.cell? ⟨g,k*2,none⟩=some (.int .i64 l[k].1):=by rw [HB.out.cell (p:=⟨g,k*2,none⟩) hgl];exact hcells _ _ hat.1
   have d2:wr.cell? ⟨g,k*2+1,none⟩=some (.string (strA l[k].2)):=by rw [HB.out.cell (p:=⟨g,k*2+1,none⟩) hgl];exact hcells _ _ hat.2
   have d3:wr.cell? ⟨g',k*2,none⟩=some (.int .i64 l[k].1):=by rw [HB.out.cell (p:=⟨g',k*2,none⟩) hgl'];exact hcells' _ _ hat.1
   have d4:wr.cell? ⟨g',k*2+1,none⟩=some (.string (strA l[k].2)):=by rw [HB.out.cell (p:=⟨g',k*2+1,none⟩) hgl'];exact hcells' _ _ hat.2
   generalize l[k]=x at *
   have heq:∀ W,(binOp .neq 76 (.agg #[.int .i64 x.1,.string (strA x.2)]) (.agg #[.int .i64 x.1,.string (strA x.2)])).run Tryz.prog W=.ok (.bool false) W:=fun W=>by rw [neqAct];simp
   clear hcells hcells' hat hv3 hv4
   go_wp2_with fail
   go_quiet (fail)
   all_goals go_wp2
   go_roundw
   case rel=>exact ⟨k+1,by omega,by go_num,below_drewN HB.out⟩
   case measure=>simp [intOf];omega
  ·have hlt':¬ (k:Int) < (l.length:Int):=by omega
   go_wp2
   go_ret
   exact ⟨rfl,HB.out⟩
end
section
open Go.RowKit
attribute [local go_sem ↓] Go.wp_at_zero Go.wp_at_succ
def sayL (y:List (List UInt8)×List (CmdT 7)) (M:Msg):List (Int×List UInt8)×Nat×Option FZ:=execL (varsB y.1) (codeL y.2) M
theorem req_len (y:List (List UInt8)×List (CmdT 7)):y.1.length≤(textL y).length+1:=by
 by_cases h:y.1=[]
 ·rw [h];exact Nat.zero_le _
 ·have h1:=(quotesC_ge y.1).2
  unfold textL requireTxt
  rw [if_neg h]
  simp only [List.length_append]
  omega
theorem runK_ok (s:ByteArray) (y:List (List UInt8)×List (CmdT 7)) (hv:Value) (M:Msg) (w:World) (he:Env w) (hs:s.size≤600) (hy:parseL s.data.toList=.ok y) (hh:HdrG w hv M.hdrs) (hbd:∀ v,SBd M (ss0 v)) :
  Calls Tryz.prog 27 #[.string s,msgV M hv] w fun e w'=>Below w.heap.size w w'∧∃ lv,e=.returned (.tuple #[lv,.int .i64 (toldZ (sayL y M).2.2).1,.bool true])∧ActsV w' w.heap.size lv (sayL y M).1:=by
 obtain ⟨ah,ch,rfl⟩:=hh.len
 have HY:=hide hy
 have HE:=hide he
 have HHD:=hide hh
 have HBD:=hide hbd
 have HWF:=hide (parse_wf hy)
 have htl:=textL_len hy
 have hsl:s.data.toList.length=s.size:=by simp
 have HTL:Hid ((textL y).length≤100000):=by show _≤_;omega
 have HRL:Hid (y.1.length≤1000000):=by show _≤_;have:=req_len y;have:=HTL.out;omega
 obtain ⟨r,hr⟩:∃ r,sayL y M=r:=⟨_,rfl⟩
 rw [hr]
 have HR:=hide hr
 clear hy he hh hbd htl hsl hr
 have hms:∀ (a:Option Addr) (n c:Nat),msgV M (.slice a n c)=.agg #[.string (strA M.fr),.string (strA M.to),.int .i64 M.size,.slice a n c]:=fun _ _ _=>rfl
 rw [hms]
 have HMS:=hide hms
 clear hms
 obtain ⟨W0,hW0⟩:∃ W0,W0=w.alloc (.cells #[.string (strA M.fr),.string (strA M.to),.int .i64 M.size,.slice ah M.hdrs.length ch] 48):=⟨_,rfl⟩
 have HB0:Hid (Below w.heap.size w W0):=by show Below _ _ _;rw [hW0];exact (Below.refl _ _).alloc (Nat.le_refl _) _
 have HM0:Hid (W0.heap[w.heap.size]?=some (.cells #[.string (strA M.fr),.string (strA M.to),.int .i64 M.size,.slice ah M.hdrs.length ch] 48)):=by show _=_;rw [hW0];exact blk_new _ _
 have h0s:=HB0.out.size
 have HWW:=hide hW0
 clear hW0
 go_enter Tryz.func27,Tryz.ntmps27
 go_wp2_with fail
 rw [← HWW.out]
 refine (pparse_any s W0 (HE.out.below HB0.out).m1 (HE.out.below HB0.out).et).mono ?_
 rintro e w1 ⟨hB1',⟨hbig,_⟩ | ⟨_,y1,g,rv,lv,hy1,rfl,hz,hc,hrq,hbl⟩ | ⟨_,f,hf,_⟩⟩
 ·omega
 ·have hyy:y1=y:=by have:=HY.out;rw [hy1] at this;exact Except.ok.inj this
  subst hyy
  have hB1:Below w.heap.size w w1:=HB0.out.trans (hB1'.mono h0s)
  have HB1:=hide hB1
  have HE1:=hide (HE.out.below hB1)
  have HM1:=hide (blk_below HM0.out hB1')
  have HC:=hide hc
  have HRQ:=hide hrq
  have HBL:=hide hbl
  have m0:w1.cell? ⟨w.heap.size,0,none⟩=some (.string (strA M.fr)):=blk_cell HM1.out 0
  have m1:w1.cell? ⟨w.heap.size,1,none⟩=some (.string (strA M.to)):=blk_cell HM1.out 1
  have m2:w1.cell? ⟨w.heap.size,2,none⟩=some (.int .i64 M.size):=blk_cell HM1.out 2
  have m3:w1.cell? ⟨w.heap.size,3,none⟩=some (.slice ah M.hdrs.length ch):=blk_cell HM1.out 3
  have h1s:=hB1.size
  clear hB1 hB1' hc hrq hbl hy1
  go_wp2_with fail
  rw [← HMS.out]
  refine (prun_any g y1 rv lv _ M w1 _ HE1.out HC.out HRQ.out HBL.out HWF.out.2 HTL.out HRL.out (HHD.out.below HB1.out) HBD.out).mono ?_
  rintro e w2 ⟨hB2,lv2,rfl,hA⟩
  rw [show execL (varsB y1.1) (codeL y1.2) M=r from HR.out] at hA ⊢
  have HB2:=hide (HB1.out.trans (hB2.mono h1s))
  have HA:=hide hA
  obtain ⟨la,lc,hlv⟩:=owns_len hA.1
  subst hlv
  clear hA hB2
  go_wp2
  refine bodyPost_ret (v:=.tuple #[.slice la r.1.length lc,.int .i64 (toldZ r.2.2).1,.bool true]) (by simp [results,Tryz.results27,go_sem]) rfl ?_
  exact ⟨HB2.out,_,rfl,HA.out.lo h1s⟩
 ·have:=HY.out
  rw [hf] at this
  cases this
end
section
open Go.RowKit
attribute [local go_sem ↓] Go.wp_at_zero Go.wp_at_succ
def exT3:List UInt8:=[105,102,32,104,101,97,100,101,114,32,58,99,111,109,112,97,114,97,116,111,114,32,34,105,59,111,99,116,101,116,34,32,34,83,117,98,106,101,99,116,34,32,34,120,34,32,123,32,100,105,115,99,97,114,100,59,32,125,32,101,108,115,101,32,123,32,114,101,100,105,114,101,99,116,32,34,97,64,98,34,59,32,125]
def exM:Msg:=⟨[],[],0,[([115,117,98,106,101,99,116],[88])]⟩
def sayT (t:List UInt8) (M:Msg):Option (List (Int×List UInt8)×FZ):=
 match parseL t with
 | .ok y=>some ((sayL y M).1,toldZ (sayL y M).2.2)
 | .error _=>none
theorem exR1:sayT exT1 exM=some ([],(0,-1)):=by kernel_rfl
theorem exR3:sayT exT3 exM=some ([(3,[97,64,98])],(0,-1)):=by kernel_rfl
theorem sayT_ok {t:List UInt8} {M:Msg} {l:List (Int×List UInt8)} {f:FZ} (h:sayT t M=some (l,f)):∃ y,parseL t=.ok y∧(sayL y M).1=l∧toldZ (sayL y M).2.2=f:=by
 unfold sayT at h
 cases hp:parseL t with
 | error e=>rw [hp] at h;cases h
 | ok y=>
  rw [hp] at h
  simp at h
  exact ⟨y,rfl,h.1,h.2⟩
theorem runs_any (w:World) (he:Env w):Calls Tryz.prog 24 #[] w fun e w'=>e=.returned (.bool true)∧Below w.heap.size w w':=by
 have HE:=hide he
 clear he
 go_enter Tryz.func24,Tryz.ntmps24
 go_wp2_with fail
 refine (parses_any w HE.out).mono ?_
 rintro e w1 ⟨rfl,hB1⟩
 have HB1:=hide hB1
 have h1s:=hB1.size
 clear hB1
 obtain ⟨y1,hy1,hl1,hf1⟩:=sayT_ok exR1
 obtain ⟨y3,hy3,hl3,hf3⟩:=sayT_ok exR3
 obtain ⟨V,hV⟩:∃ V,V=(w1.alloc (.cells #[.string ⟨#[115,117,98,106,101,99,116]⟩,.string ⟨#[88]⟩] 100)).alloc (.cells #[.string ⟨#[]⟩,.string ⟨#[]⟩,.int .i64 0,.slice (some ⟨w1.heap.size,0,none⟩) 1 1] 48):=⟨_,rfl⟩
 have HWW:=hide hV
 have hBV:Below w1.heap.size w1 V:=by rw [hV];exact ((Below.refl _ _).alloc (Nat.le_refl _) _).alloc (by simp) _
 have hVh:V.heap[w1.heap.size]?=some (.cells #[.string ⟨#[115,117,98,106,101,99,116]⟩,.string ⟨#[88]⟩] 100):=by rw [hV];exact blk_alloc (blk_new _ _)
 have hVm:V.heap[w1.heap.size+1]?=some (.cells #[.string ⟨#[]⟩,.string ⟨#[]⟩,.int .i64 0,.slice (some ⟨w1.heap.size,0,none⟩) 1 1] 48):=by rw [hV];exact blk_newAt (by simp)
 have hB1V:=HB1.out.trans (hBV.mono h1s)
 have HBV:=hide hB1V
 have HVM:=hide hVm
 have HHD:Hid (HdrV V (.slice (some ⟨w1.heap.size,0,none⟩) 1 1) exM.hdrs):=Or.inr ⟨w1.heap.size,1,_,rfl,hVh,fun j hj=>by
  have:j=0:=by have:j < 1:=hj;omega
  subst this
  exact ⟨rfl,rfl⟩⟩
 have HBD:Hid (∀ v,SBd exM (ss0 v)):=fun v=>sbd_small (by decide) v
 have hVs:=hB1V.size
 have HR1:=hide (And.intro hy1 (And.intro hl1 hf1))
 have HR3:=hide (And.intro hy3 (And.intro hl3 hf3))
 clear hV hBV hVh hVm hB1V hy1 hl1 hf1 hy3 hl3 hf3
 go_wp2_with fail
 rw [show (w1.alloc _).alloc _=V from HWW.out.symm]
 refine (runK_ok ⟨exT1.toArray⟩ y1 (.slice (some ⟨w1.heap.size,0,none⟩) 1 1) exM V (HE.out.below HBV.out) (by decide) HR1.out.1 HHD.out.g HBD.out).mono ?_
 rintro e w2 ⟨hB2,lv2,rfl,hA2⟩
 rw [HR1.out.2.1] at hA2
 rw [HR1.out.2.2]
 have hlv2:=hA2.2 rfl
 subst hlv2
 have HB2:=hide (HBV.out.trans (hB2.mono hVs))
 have HM2:=hide (blk_below HVM.out hB2)
 have HHD2:=hide (HHD.out.fr (P:=fun _ _=>False) (Fr.of_below hB2) (fun _ _ h=>h))
 have m0:w2.cell? ⟨w1.heap.size+1,0,none⟩=some (.string ⟨#[]⟩):=blk_cell HM2.out 0
 have m1:w2.cell? ⟨w1.heap.size+1,1,none⟩=some (.string ⟨#[]⟩):=blk_cell HM2.out 1
 have m2:w2.cell? ⟨w1.heap.size+1,2,none⟩=some (.int .i64 0):=blk_cell HM2.out 2
 have m3:w2.cell? ⟨w1.heap.size+1,3,none⟩=some (.slice (some ⟨w1.heap.size,0,none⟩) 1 1):=blk_cell HM2.out 3
 have h2s:=HB2.out.size
 clear hB2 hA2
 go_wp2_with fail
 refine (runK_ok ⟨exT3.toArray⟩ y3 (.slice (some ⟨w1.heap.size,0,none⟩) 1 1) exM w2 (HE.out.below HB2.out) (by decide) HR3.out.1 HHD2.out.g HBD.out).mono ?_
 rintro e w3 ⟨hB3,lv3,rfl,hA3⟩
 rw [HR3.out.2.1] at hA3
 rw [HR3.out.2.2]
 have HB3:=hide (HB2.out.trans (hB3.mono h2s))
 obtain ⟨g3,c3,hv3,_,hg3,hcells⟩:=owns_get hA3.1 (by decide)
 subst hv3
 have d0:w3.cell? ⟨g3,0,none⟩=some (.int .i64 3):=hcells 0 _ rfl
 have d1:w3.cell? ⟨g3,1,none⟩=some (.string ⟨#[97,64,98]⟩):=hcells 1 _ rfl
 have heq:∀ W,(binOp .eql 76 (.agg #[.int .i64 3,.string ⟨#[97,64,98]⟩]) (.agg #[.int .i64 3,.string ⟨#[97,64,98]⟩])).run Tryz.prog W=.ok (.bool true) W:=fun W=>(eqAct (3,[97,64,98]) (3,[97,64,98]) W).trans (by simp)
 clear hcells hA3 hB3
 go_wp2
 go_ret
 exact ⟨rfl,HB3.out⟩
end
section
open Go.RowKit
attribute [local go_sem ↓] Go.wp_at_zero Go.wp_at_succ
theorem varsB_mem {req:List (List UInt8)} (h:kVariables∈req):varsB req=true:=(Lib.containsS_iff _ _).2 (List.mem_map_of_mem h)
theorem exCode_n:∀ i∈exCode,-9223372036854775808≤i.n∧i.n≤9223372036854775807:=by decide
theorem exCode_lies {w:World} {g:Nat} (h:w.heap[g]?=some (.cells #[.int .i64 1,.int .i64 1,.int .i64 0,.bool false,.slice none 0 0,.slice none 0 0,.int .i64 0,.int .i64 4,.int .i64 1,.int .i64 0,.bool false,.slice none 0 0,.slice none 0 0,.int .i64 0,.int .i64 14,.int .i64 0,.int .i64 0,.bool false,.slice none 0 0,.slice none 0 0,.int .i64 0,.int .i64 13,.int .i64 0,.int .i64 0,.bool false,.slice none 0 0,.slice none 0 0,.int .i64 0] 62)):CodeV w (.slice (some ⟨g,0,none⟩) 4 4) exCode:=by
 refine Or.inr ⟨g,4,_,rfl,h,fun j hj=>?_⟩
 have hj4:j < 4:=hj
 rcases (by omega:j=0∨j=1∨j=2∨j=3) with rfl | rfl | rfl | rfl
 all_goals exact ⟨.slice none 0 0,.slice none 0 0,rfl,rfl,rfl,rfl,rfl,rfl,rfl,insOk_nil w _ rfl rfl (exCode_n _ (List.getElem_mem _)).1 (exCode_n _ (List.getElem_mem _)).2⟩
theorem agreedLaw_any (s:ByteArray) (M:Msg) (hv:Value) (w:World) (he:Env w) (hs:s.size≤140737488355328) (hh:HdrG w hv M.hdrs) (hb:MsgB M) :
  Calls Tryz.prog 14 #[.string s,msgV M hv] w fun e w'=>e=.returned (.bool true)∧Below w.heap.size w w':=by
 obtain ⟨ah,ch,rfl⟩:=hh.len
 have HE:=hide he
 have HHD:=hide hh
 have HMB:=hide hb
 clear he hh hb
 have hms:∀ (a:Option Addr) (n c:Nat),msgV M (.slice a n c)=.agg #[.string (strA M.fr),.string (strA M.to),.int .i64 M.size,.slice a n c]:=fun _ _ _=>rfl
 rw [hms]
 have HMS:=hide hms
 clear hms
 obtain ⟨W0,hW0⟩:∃ W0,W0=w.alloc (.cells #[.string (strA M.fr),.string (strA M.to),.int .i64 M.size,.slice ah M.hdrs.length ch] 48):=⟨_,rfl⟩
 have HB0:Hid (Below w.heap.size w W0):=by show Below _ _ _;rw [hW0];exact (Below.refl _ _).alloc (Nat.le_refl _) _
 have HM0:Hid (W0.heap[w.heap.size]?=some (.cells #[.string (strA M.fr),.string (strA M.to),.int .i64 M.size,.slice ah M.hdrs.length ch] 48)):=by show _=_;rw [hW0];exact blk_new _ _
 have h0s:=HB0.out.size
 have h0l:=blk_lt HM0.out
 have HWW:=hide hW0
 have HCE:Hid (∀ W:World,Below (w.heap.size+1) W0 W→Below w.heap.size w W∧Env W∧HdrG W (.slice ah M.hdrs.length ch) M.hdrs∧w.heap.size≤W.heap.size∧w.heap.size+1≤W.heap.size∧W.cell? ⟨w.heap.size,0,none⟩=some (.string (strA M.fr))∧W.cell? ⟨w.heap.size,1,none⟩=some (.string (strA M.to))∧W.cell? ⟨w.heap.size,2,none⟩=some (.int .i64 M.size)∧W.cell? ⟨w.heap.size,3,none⟩=some (.slice ah M.hdrs.length ch)):=fun W hW=>by
  have hBW:Below w.heap.size w W:=HB0.out.trans (hW.mono (by omega))
  have hMW:W.heap[w.heap.size]?=some _:=(hW.block w.heap.size (by omega)).trans HM0.out
  have h1:=hW.size
  exact ⟨hBW,HE.out.below hBW,HHD.out.below hBW,by omega,by omega,blk_cell hMW 0,blk_cell hMW 1,blk_cell hMW 2,blk_cell hMW 3⟩
 clear hW0
 go_enter Tryz.func14,Tryz.ntmps14
 go_wp2_with fail
 rw [← HWW.out]
 refine (runs_any W0 (HE.out.below HB0.out)).mono ?_
 rintro e w1 ⟨rfl,hB1⟩
 have hC1:Below (w.heap.size+1) W0 w1:=hB1.mono (by omega)
 have HC1:=hide hC1
 obtain ⟨_,_,_,h1s,h1l,m0,m1,m2,m3⟩:=HCE.out w1 hC1
 clear hB1 hC1
 go_wp2_with fail
 rw [← HMS.out]
 refine (smallK_any M _ w1 (HCE.out w1 HC1.out).2.2.1 HMB.out).mono ?_
 rintro e w2 ⟨rfl,hB2⟩
 have hC2:Below (w.heap.size+1) W0 w2:=HC1.out.trans (hB2.mono h1l)
 have HC2:=hide hC2
 clear m0 m1 m2 m3
 obtain ⟨_,_,_,h2s,h2l,m0,m1,m2,m3⟩:=HCE.out w2 hC2
 clear hB2 hC2
 by_cases hsm:totL M≤16384
 rotate_left
 ·have hd:decide (totL M≤16384)=false:=decide_eq_false hsm
  rw [hd]
  clear hd hsm
  go_wp2
  go_ret
  exact ⟨rfl,(HCE.out w2 HC2.out).1⟩
 have hd:decide (totL M≤16384)=true:=decide_eq_true hsm
 rw [hd]
 have HBD:=hide (sbd_small hsm)
 clear hd hsm
 have halc:∀ (o:Obj) (k:Nat),(w2.alloc o).cell? ⟨w.heap.size,k,none⟩=w2.cell? ⟨w.heap.size,k,none⟩:=fun o k=>World.cell?_alloc_past _ _ _ (show w.heap.size < w2.heap.size by omega)
 have n0:∀ o,(w2.alloc o).cell? ⟨w.heap.size,0,none⟩=some (.string (strA M.fr)):=fun o=>(halc o 0).trans m0
 have n1:∀ o,(w2.alloc o).cell? ⟨w.heap.size,1,none⟩=some (.string (strA M.to)):=fun o=>(halc o 1).trans m1
 have n2:∀ o,(w2.alloc o).cell? ⟨w.heap.size,2,none⟩=some (.int .i64 M.size):=fun o=>(halc o 2).trans m2
 have n3:∀ o,(w2.alloc o).cell? ⟨w.heap.size,3,none⟩=some (.slice ah M.hdrs.length ch):=fun o=>(halc o 3).trans m3
 clear halc
 go_wp2_with fail
 obtain ⟨V,hV⟩:∃ V,V=w2.alloc (.cells #[.int .i64 1,.int .i64 1,.int .i64 0,.bool false,.slice none 0 0,.slice none 0 0,.int .i64 0,.int .i64 4,.int .i64 1,.int .i64 0,.bool false,.slice none 0 0,.slice none 0 0,.int .i64 0,.int .i64 14,.int .i64 0,.int .i64 0,.bool false,.slice none 0 0,.slice none 0 0,.int .i64 0,.int .i64 13,.int .i64 0,.int .i64 0,.bool false,.slice none 0 0,.slice none 0 0,.int .i64 0] 62):=⟨_,rfl⟩
 rw [← hV]
 have hBV:Below w2.heap.size w2 V:=by rw [hV];exact (Below.refl _ _).alloc (Nat.le_refl _) _
 have hVc:V.heap[w2.heap.size]?=some (.cells #[.int .i64 1,.int .i64 1,.int .i64 0,.bool false,.slice none 0 0,.slice none 0 0,.int .i64 0,.int .i64 4,.int .i64 1,.int .i64 0,.bool false,.slice none 0 0,.slice none 0 0,.int .i64 0,.int .i64 14,.int .i64 0,.int .i64 0,.bool false,.slice none 0 0,.slice none 0 0,.int .i64 0,.int .i64 13,.int .i64 0,.int .i64 0,.bool false,.slice none 0 0,.slice none 0 0,.int .i64 0] 62):=by rw [hV];exact blk_new _ _
 have hCV:Below (w.heap.size+1) W0 V:=HC2.out.trans (hBV.mono h2l)
 have HCV:=hide hCV
 have HVC:=hide (exCode_lies hVc)
 have hVl:=(HCE.out V hCV).2.2.2.2.1
 clear hBV hVc hCV hV
 rw [← HMS.out]
 refine (pexec_any false _ _ exCode M V (HCE.out V HCV.out).2.1 HVC.out (by decide) (HCE.out V HCV.out).2.2.1 HBD.out).mono ?_
 rw [exCode_say]
 rintro e w3 ⟨hB3,lv3,rfl,hA3⟩
 have hlv3:=hA3.2 rfl
 subst hlv3
 have hC3:Below (w.heap.size+1) W0 w3:=HCV.out.trans (hB3.mono hVl)
 have HC3:=hide hC3
 have h3l:=(HCE.out w3 hC3).2.2.2.2.1
 clear hB3 hC3 hA3 m0 m1 m2 m3 n0 n1 n2 n3
 have hT0:toldZ (none:Option FZ)=(0,-1):=rfl
 dsimp only
 rw [hT0]
 clear hT0
 have hpre:(⟨#[114,101,113,117,105,114,101,32,34,118,97,114,105,97,98,108,101,115,34,59]⟩:ByteArray)++s=strA (preV++s.data.toList):=by
  have h:=strA_app preV s.data.toList
  rw [← h]
  cases s
  rfl
 have hq1:¬ 9223372036854775807 < 20+s.size:=by omega
 go_wp2_with fail
 refine (pparse_any _ w3 (HCE.out w3 HC3.out).2.1.m1 (HCE.out w3 HC3.out).2.1.et).mono ?_
 rintro e w4 ⟨hB4,hP⟩
 have hC4:Below (w.heap.size+1) W0 w4:=HC3.out.trans (hB4.mono h3l)
 have HC4:=hide hC4
 have h4l:=(HCE.out w4 hC4).2.2.2.2.1
 clear hB4 hC4
 rcases hP with ⟨hl,rfl⟩ | ⟨hsz,y,g,rv,lv,hy,rfl,hz,hc,hr,hbl⟩ | ⟨hsz,f,hf,rfl⟩
 ·go_wp2
  go_ret
  exact ⟨rfl,(HCE.out w4 HC4.out).1⟩
 ·have hy':parseL (preV++s.data.toList)=.ok y:=hy
  have hvb:=varsB_mem (vars_req hy')
  have hwf:=parse_wf hy'
  have htl:=textL_len hy'
  have hsl:(preV++s.data.toList).length≤600:=by rw [strA_size] at hsz;exact hsz
  have htl2:(textL y).length≤100000:=by omega
  have HTL:=hide htl2
  have HRL:Hid (y.1.length≤1000000):=by show _≤_;have:=req_len y;omega
  have HCL:Hid ((codeL y.2).length≤1000000):=by show _≤_;have:=codeL_le hwf.2;omega
  have HWF:=hide hwf
  have HVB:=hide hvb
  have HC:=hide hc
  have HR:=hide hr
  have HBL:=hide hbl
  have hgl:=blk_lt hc
  have HST:Hid ((execL true (codeL y.2) M).2.1≤(codeL y.2).length):=execL_steps true (codeL y.2) M
  obtain ⟨r,hrr⟩:∃ r,execL true (codeL y.2) M=r:=⟨_,rfl⟩
  have HRR:=hide hrr
  rw [hrr] at HST
  clear hy hy' hvb hwf htl hsl htl2 hc hr hbl hrr hsz
  go_wp2_with fail
  refine (codeS_any g y rv lv w4 _ HC.out HR.out HBL.out HWF.out.2 HTL.out).mono ?_
  rintro e w5 ⟨cv,rfl,hcv,hB5⟩
  have hC5:Below (w.heap.size+1) W0 w5:=HC4.out.trans (hB5.mono h4l)
  have HC5:=hide hC5
  obtain ⟨_,_,_,h5s,h5l,m0,m1,m2,m3⟩:=HCE.out w5 hC5
  have HCO:=hide hcv
  obtain ⟨ka,kc,hkv⟩:=hcv.len
  subst hkv
  have HC':=hide (blk_below HC.out hB5)
  have HR':=hide (HR.out.keep (fun k _ hk=>hB5.block k hk))
  have HBL':=hide (HBL.out.keep (cmdV_tree 7) (fun k _ hk=>hB5.block k hk))
  have hstl:=HST.out
  obtain ⟨cn,hcn⟩:∃ cn,(codeL y.2).length=cn:=⟨_,rfl⟩
  rw [hcn] at HCO hstl ⊢
  have HCN:=hide hcn
  clear hB5 hC5 hcv hcn
  go_wp2_with fail
  rw [← HMS.out]
  refine (prun_any g y rv lv _ M w5 _ (HCE.out w5 HC5.out).2.1 HC'.out HR'.out HBL'.out HWF.out.2 HTL.out HRL.out (HCE.out w5 HC5.out).2.2.1 HBD.out).mono ?_
  rw [HVB.out,HRR.out]
  rintro e w6 ⟨hB6,lv6,rfl,hA6⟩
  have hC6:Below (w.heap.size+1) W0 w6:=HC5.out.trans (hB6.mono h5l)
  have HC6:=hide hC6
  clear m0 m1 m2 m3
  obtain ⟨_,_,_,h6s,h6l,m0,m1,m2,m3⟩:=HCE.out w6 hC6
  have HA6:=hide hA6
  have HCO6:=hide (HCO.out.below hB6)
  obtain ⟨la,lc,hlv⟩:=owns_len hA6.1
  subst hlv
  clear hA6 hB6 hC6
  go_wp2_with fail
  rw [← HMS.out]
  refine (pexec_any true _ _ (codeL y.2) M w6 (HCE.out w6 HC6.out).2.1 HCO6.out.codeV HCL.out (HCE.out w6 HC6.out).2.2.1 HBD.out).mono ?_
  rw [HRR.out]
  rintro e w7 ⟨hB7,lv7,rfl,hA7⟩
  have hC7:Below (w.heap.size+1) W0 w7:=HC6.out.trans (hB7.mono h6l)
  have HC7:=hide hC7
  have h7l:=(HCE.out w7 hC7).2.2.2.2.1
  have HA7:=hide hA7
  have HA67:=hide (HA6.out.below hB7)
  obtain ⟨lb,ld,hlv⟩:=owns_len hA7.1
  subst hlv
  clear hA7 hB7 hC7 m0 m1 m2 m3
  go_wp2_with fail
  refine (sameK_any _ _ _ _ r.1 w7 HA67.out HA7.out).mono ?_
  rintro e w8 ⟨rfl,hB8⟩
  have hC8:Below (w.heap.size+1) W0 w8:=HC7.out.trans (hB8.mono h7l)
  have HC8:=hide hC8
  have hle:(r.2.1:Int)≤(cn:Int):=by omega
  clear hB8 hC8
  go_wp2
  go_ret
  exact ⟨rfl,(HCE.out w8 HC8.out).1⟩
 ·go_wp2
  go_ret
  exact ⟨rfl,(HCE.out w4 HC4.out).1⟩
end
end Go.Proofs.YtbiclelojbfnbaaGreatDoor
