import Derived.BigRegion
import Derived.Test.YtbiclelojbfnbaaGreatDoorZMAskW
import Derived.Test.YtbiclelojbfnbaaGreatDoorZMCatch
import Derived.Test.YtbiclelojbfnbaaGreatDoorZMTable
import Derived.Test.YtbiclelojbfnbaaGreatDoorZTake
namespace Go.Proofs.YtbiclelojbfnbaaGreatDoor
set_option linter.unusedVariables false
set_option linter.unusedSimpArgs false
set_option maxRecDepth 100000
set_option maxHeartbeats 4000000
section
open Go.RowKit
attribute [local go_sem ↓] Go.wp_at_zero Go.wp_at_succ
theorem QuF (W:World):(binOp .neq 326 .nilFunc .nilFunc).run Tryz.prog W=.ok (.bool false) W:=by kernel_rfl
theorem QtY (W:World) (f:Fn) (a b:Array Value):(binOp .neq 326 (.func f a b) .nilFunc).run Tryz.prog W=.ok (.bool true) W:=by kernel_rfl
theorem Qll (k:Nat) (f:FuncId) (R:Except FZ MS) (n tag:Int) (oct:Bool) (a b:List (List UInt8)) (at_:Int) (aa ba:Option Addr) (ac bc:Nat) (B xb sb:Nat) (M:Msg) (m:MS) (count:Nat) (w:World) (hcf:∀ args W,(callFunc f args).run Tryz.prog W=.ok (.enter f args) W) (hk1:1≤k) (hk2:k≤14) (h:MAt w B xb sb M m count) (hw:QeJ w (xb+1)) (hfx:(Qul (xb+1))[k]?=some (.func (.func f) #[] #[]))
 (hcon:Calls Tryz.prog f #[.pointer (some ⟨xb,0,none⟩),.agg #[.int .i64 (k:Int),.int .i64 n,.int .i64 tag,.bool oct,.slice aa a.length ac,.slice ba b.length bc,.int .i64 at_]] (w.alloc (.cells #[.int .i64 (k:Int),.int .i64 n,.int .i64 tag,.bool oct,.slice aa a.length ac,.slice ba b.length bc,.int .i64 at_] 62)).drew (QaP R B xb sb M count (w.alloc (.cells #[.int .i64 (k:Int),.int .i64 n,.int .i64 tag,.bool oct,.slice aa a.length ac,.slice ba b.length bc,.int .i64 at_] 62)).drew)) :
 Calls Tryz.prog 121 #[.pointer (some ⟨xb,0,none⟩),.slice (some ⟨xb+6,0,none⟩) 15 15,.agg #[.int .i64 (k:Int),.int .i64 n,.int .i64 tag,.bool oct,.slice aa a.length ac,.slice ba b.length bc,.int .i64 at_]] w (QaP R B xb sb M count w):=by
 have HMD:=Qab (h.below (Qao (.cells #[.int .i64 (k:Int),.int .i64 n,.int .i64 tag,.bool oct,.slice aa a.length ac,.slice ba b.length bc,.int .i64 at_] 62)))
 have HWD:=Qab (hw.below (Qao (.cells #[.int .i64 (k:Int),.int .i64 n,.int .i64 tag,.bool oct,.slice aa a.length ac,.slice ba b.length bc,.int .i64 at_] 62)))
 have hn:=QtY
 have c6:w.cell? ⟨xb+6,k,none⟩=some (.func (.func f) #[] #[]):=(Qaa hw.tb k).trans hfx
 have hx6:¬ xb+6=w.heap.size:=by have:=QaH hw.tb;omega
 have hx6l:xb+6 < w.heap.size:=QaH hw.tb
 have HCON:=Qab hcon
 have HTB:Hid (∀ W,Fr (PMc B xb) (w.alloc (.cells #[.int .i64 (k:Int),.int .i64 n,.int .i64 tag,.bool oct,.slice aa a.length ac,.slice ba b.length bc,.int .i64 at_] 62)).drew W→W.cell? ⟨xb+6,k,none⟩=some (.func (.func f) #[] #[])):=fun W hf=>(Qaa (HWD.out.fr hf).tb k).trans hfx
 have hk0:(0:Int)≤(k:Int):=by omega
 have hk15:(k:Int) < 15:=by omega
 have d1:decide ((0:Int)≤(k:Int))=true:=decide_eq_true hk0
 have d2:decide ((k:Int) < 15)=true:=decide_eq_true hk15
 clear h hw hcon hfx
 go_enter Tryz.func121,Tryz.ntmps121
 go_wp2_with (go_at_call 199;refine (QbO _ _).mono ?_;rintro e w' ⟨rfl,hww⟩;rw [hww];clear hww)
 refine wp_region_held (S:=fun w'=>w'.cell? ⟨xb+6,k,none⟩=some (.func (.func f) #[] #[])∧w'.cell? ⟨w.heap.size,0,none⟩=some (.int .i64 (k:Int))∧w'.cell? ⟨w.heap.size,1,none⟩=some (.int .i64 n)∧w'.cell? ⟨w.heap.size,2,none⟩=some (.int .i64 tag)∧w'.cell? ⟨w.heap.size,3,none⟩=some (.bool oct)∧w'.cell? ⟨w.heap.size,4,none⟩=some (.slice aa a.length ac)∧w'.cell? ⟨w.heap.size,5,none⟩=some (.slice ba b.length bc)∧w'.cell? ⟨w.heap.size,6,none⟩=some (.int .i64 at_)) (by kernel_rfl) ?_
 have hS:(fun w':World=>w'.cell? ⟨xb+6,k,none⟩=some (.func (.func f) #[] #[])∧w'.cell? ⟨w.heap.size,0,none⟩=some (.int .i64 (k:Int))∧w'.cell? ⟨w.heap.size,1,none⟩=some (.int .i64 n)∧w'.cell? ⟨w.heap.size,2,none⟩=some (.int .i64 tag)∧w'.cell? ⟨w.heap.size,3,none⟩=some (.bool oct)∧w'.cell? ⟨w.heap.size,4,none⟩=some (.slice aa a.length ac)∧w'.cell? ⟨w.heap.size,5,none⟩=some (.slice ba b.length bc)∧w'.cell? ⟨w.heap.size,6,none⟩=some (.int .i64 at_)) (w.alloc (.cells #[.int .i64 (k:Int),.int .i64 n,.int .i64 tag,.bool oct,.slice aa a.length ac,.slice ba b.length bc,.int .i64 at_] 62)).drew:=⟨HTB.out _ (Fr.refl _ _),(QaC HMD.out (Fr.refl _ _)).2 0,(QaC HMD.out (Fr.refl _ _)).2 1,(QaC HMD.out (Fr.refl _ _)).2 2,(QaC HMD.out (Fr.refl _ _)).2 3,(QaC HMD.out (Fr.refl _ _)).2 4,(QaC HMD.out (Fr.refl _ _)).2 5,(QaC HMD.out (Fr.refl _ _)).2 6⟩
 refine QaE 0 26 (.slice (some ⟨xb+6,0,none⟩) 15 15) rfl hS (fun w' ⟨s1,s2,s3,s4,s5,s6,s7,s8⟩=>by go_simp) ?_
 simp only [pt,List.set_cons_zero,List.set_cons_succ]
 refine QaE 1 27 (.pointer (some ⟨w.heap.size,0,none⟩)) rfl hS (fun w' ⟨s1,s2,s3,s4,s5,s6,s7,s8⟩=>by go_simp) ?_
 simp only [pt,List.set_cons_zero,List.set_cons_succ]
 refine QaE 2 28 (.int .i64 (k:Int)) rfl hS (fun w' ⟨s1,s2,s3,s4,s5,s6,s7,s8⟩=>by go_simp) ?_
 simp only [pt,List.set_cons_zero,List.set_cons_succ]
 refine QaE 3 29 (.pointer (some ⟨xb+6,k,none⟩)) rfl hS (fun w' ⟨s1,s2,s3,s4,s5,s6,s7,s8⟩=>by go_simp) ?_
 simp only [pt,List.set_cons_zero,List.set_cons_succ]
 refine QaE 4 30 (.func (.func f) #[] #[]) rfl hS (fun w' ⟨s1,s2,s3,s4,s5,s6,s7,s8⟩=>by go_simp) ?_
 simp only [pt,List.set_cons_zero,List.set_cons_succ]
 refine QaE 5 31 (.pointer (some ⟨xb,0,none⟩)) rfl hS (fun w' ⟨s1,s2,s3,s4,s5,s6,s7,s8⟩=>by go_simp) ?_
 simp only [pt,List.set_cons_zero,List.set_cons_succ]
 refine QaE 6 32 (.agg #[.int .i64 (k:Int),.int .i64 n,.int .i64 tag,.bool oct,.slice aa a.length ac,.slice ba b.length bc,.int .i64 at_]) rfl hS (fun w' ⟨s1,s2,s3,s4,s5,s6,s7,s8⟩=>by go_simp) ?_
 simp only [pt,List.set_cons_zero,List.set_cons_succ]
 clear hS
 refine wpAnyH_all (rs:=[7]) (by kernel_rfl) (by decide) (fun j hj=>?_)
 simp only [List.mem_singleton] at hj
 subst hj
 refine QaO rfl (by rfl) ?_
 go_simp
 refine HCON.out.mono ?_
 intro e w2 h2
 rcases h2.cases with ⟨hf,⟨m',hr,rfl,hm⟩ | ⟨f,hr,bb,hz,rfl,hcc⟩⟩
 rotate_left
 ·exact ⟨rfl,QaP.from h2 (Fr.of_below (Qao _))⟩
 have H2:=Qab h2
 have HTB2:=Qab (HTB.out w2 hf)
 have HK2:=Qab (QaC hm hf)
 clear hm hf h2
 refine ⟨⟨HTB2.out,(HK2.out).2 0,(HK2.out).2 1,(HK2.out).2 2,(HK2.out).2 3,(HK2.out).2 4,(HK2.out).2 5,(HK2.out).2 6⟩,wpAnyH_done (by kernel_rfl) ?_ _⟩
 try simp only [Act.put,List.setIfInBounds_toArray,List.set_cons_zero,List.set_cons_succ]
 go_wp2
 go_end0
 exact QaP.from H2.out (Fr.of_below (Qao _))
theorem Qrg (k:Nat) (f:FuncId) (q:Nat) (R:Except FZ MS) (n tag:Int) (oct:Bool) (a b:List (List UInt8)) (at_:Int) (aa ba:Option Addr) (ac bc:Nat) (B xb sb:Nat) (M:Msg) (m:MS) (count:Nat) (w:World) (hcf:∀ args W,(callFunc f args).run Tryz.prog W=.ok (.enter f args) W) (hk1:1≤k) (hk2:k≤14) (h:MAt w B xb sb M m count) (hw:QeJ w (xb+1)) (hfx:(Qul (xb+1))[k]?=some (.func (.func f) #[] #[.pointer (some ⟨q,0,none⟩)]))
 (hcon:Calls Tryz.prog f #[.pointer (some ⟨xb,0,none⟩),.agg #[.int .i64 (k:Int),.int .i64 n,.int .i64 tag,.bool oct,.slice aa a.length ac,.slice ba b.length bc,.int .i64 at_],.pointer (some ⟨q,0,none⟩)] (w.alloc (.cells #[.int .i64 (k:Int),.int .i64 n,.int .i64 tag,.bool oct,.slice aa a.length ac,.slice ba b.length bc,.int .i64 at_] 62)).drew (QaP R B xb sb M count (w.alloc (.cells #[.int .i64 (k:Int),.int .i64 n,.int .i64 tag,.bool oct,.slice aa a.length ac,.slice ba b.length bc,.int .i64 at_] 62)).drew)) :
 Calls Tryz.prog 121 #[.pointer (some ⟨xb,0,none⟩),.slice (some ⟨xb+6,0,none⟩) 15 15,.agg #[.int .i64 (k:Int),.int .i64 n,.int .i64 tag,.bool oct,.slice aa a.length ac,.slice ba b.length bc,.int .i64 at_]] w (QaP R B xb sb M count w):=by
 have HMD:=Qab (h.below (Qao (.cells #[.int .i64 (k:Int),.int .i64 n,.int .i64 tag,.bool oct,.slice aa a.length ac,.slice ba b.length bc,.int .i64 at_] 62)))
 have HWD:=Qab (hw.below (Qao (.cells #[.int .i64 (k:Int),.int .i64 n,.int .i64 tag,.bool oct,.slice aa a.length ac,.slice ba b.length bc,.int .i64 at_] 62)))
 have hn:=QtY
 have c6:w.cell? ⟨xb+6,k,none⟩=some (.func (.func f) #[] #[.pointer (some ⟨q,0,none⟩)]):=(Qaa hw.tb k).trans hfx
 have hx6:¬ xb+6=w.heap.size:=by have:=QaH hw.tb;omega
 have hx6l:xb+6 < w.heap.size:=QaH hw.tb
 have HCON:=Qab hcon
 have HTB:Hid (∀ W,Fr (PMc B xb) (w.alloc (.cells #[.int .i64 (k:Int),.int .i64 n,.int .i64 tag,.bool oct,.slice aa a.length ac,.slice ba b.length bc,.int .i64 at_] 62)).drew W→W.cell? ⟨xb+6,k,none⟩=some (.func (.func f) #[] #[.pointer (some ⟨q,0,none⟩)])):=fun W hf=>(Qaa (HWD.out.fr hf).tb k).trans hfx
 have hk0:(0:Int)≤(k:Int):=by omega
 have hk15:(k:Int) < 15:=by omega
 have d1:decide ((0:Int)≤(k:Int))=true:=decide_eq_true hk0
 have d2:decide ((k:Int) < 15)=true:=decide_eq_true hk15
 clear h hw hcon hfx
 go_enter Tryz.func121,Tryz.ntmps121
 go_wp2_with (go_at_call 199;refine (QbO _ _).mono ?_;rintro e w' ⟨rfl,hww⟩;rw [hww];clear hww)
 refine wp_region_held (S:=fun w'=>w'.cell? ⟨xb+6,k,none⟩=some (.func (.func f) #[] #[.pointer (some ⟨q,0,none⟩)])∧w'.cell? ⟨w.heap.size,0,none⟩=some (.int .i64 (k:Int))∧w'.cell? ⟨w.heap.size,1,none⟩=some (.int .i64 n)∧w'.cell? ⟨w.heap.size,2,none⟩=some (.int .i64 tag)∧w'.cell? ⟨w.heap.size,3,none⟩=some (.bool oct)∧w'.cell? ⟨w.heap.size,4,none⟩=some (.slice aa a.length ac)∧w'.cell? ⟨w.heap.size,5,none⟩=some (.slice ba b.length bc)∧w'.cell? ⟨w.heap.size,6,none⟩=some (.int .i64 at_)) (by kernel_rfl) ?_
 have hS:(fun w':World=>w'.cell? ⟨xb+6,k,none⟩=some (.func (.func f) #[] #[.pointer (some ⟨q,0,none⟩)])∧w'.cell? ⟨w.heap.size,0,none⟩=some (.int .i64 (k:Int))∧w'.cell? ⟨w.heap.size,1,none⟩=some (.int .i64 n)∧w'.cell? ⟨w.heap.size,2,none⟩=some (.int .i64 tag)∧w'.cell? ⟨w.heap.size,3,none⟩=some (.bool oct)∧w'.cell? ⟨w.heap.size,4,none⟩=some (.slice aa a.length ac)∧w'.cell? ⟨w.heap.size,5,none⟩=some (.slice ba b.length bc)∧w'.cell? ⟨w.heap.size,6,none⟩=some (.int .i64 at_)) (w.alloc (.cells #[.int .i64 (k:Int),.int .i64 n,.int .i64 tag,.bool oct,.slice aa a.length ac,.slice ba b.length bc,.int .i64 at_] 62)).drew:=⟨HTB.out _ (Fr.refl _ _),(QaC HMD.out (Fr.refl _ _)).2 0,(QaC HMD.out (Fr.refl _ _)).2 1,(QaC HMD.out (Fr.refl _ _)).2 2,(QaC HMD.out (Fr.refl _ _)).2 3,(QaC HMD.out (Fr.refl _ _)).2 4,(QaC HMD.out (Fr.refl _ _)).2 5,(QaC HMD.out (Fr.refl _ _)).2 6⟩
 refine QaE 0 26 (.slice (some ⟨xb+6,0,none⟩) 15 15) rfl hS (fun w' ⟨s1,s2,s3,s4,s5,s6,s7,s8⟩=>by go_simp) ?_
 simp only [pt,List.set_cons_zero,List.set_cons_succ]
 refine QaE 1 27 (.pointer (some ⟨w.heap.size,0,none⟩)) rfl hS (fun w' ⟨s1,s2,s3,s4,s5,s6,s7,s8⟩=>by go_simp) ?_
 simp only [pt,List.set_cons_zero,List.set_cons_succ]
 refine QaE 2 28 (.int .i64 (k:Int)) rfl hS (fun w' ⟨s1,s2,s3,s4,s5,s6,s7,s8⟩=>by go_simp) ?_
 simp only [pt,List.set_cons_zero,List.set_cons_succ]
 refine QaE 3 29 (.pointer (some ⟨xb+6,k,none⟩)) rfl hS (fun w' ⟨s1,s2,s3,s4,s5,s6,s7,s8⟩=>by go_simp) ?_
 simp only [pt,List.set_cons_zero,List.set_cons_succ]
 refine QaE 4 30 (.func (.func f) #[] #[.pointer (some ⟨q,0,none⟩)]) rfl hS (fun w' ⟨s1,s2,s3,s4,s5,s6,s7,s8⟩=>by go_simp) ?_
 simp only [pt,List.set_cons_zero,List.set_cons_succ]
 refine QaE 5 31 (.pointer (some ⟨xb,0,none⟩)) rfl hS (fun w' ⟨s1,s2,s3,s4,s5,s6,s7,s8⟩=>by go_simp) ?_
 simp only [pt,List.set_cons_zero,List.set_cons_succ]
 refine QaE 6 32 (.agg #[.int .i64 (k:Int),.int .i64 n,.int .i64 tag,.bool oct,.slice aa a.length ac,.slice ba b.length bc,.int .i64 at_]) rfl hS (fun w' ⟨s1,s2,s3,s4,s5,s6,s7,s8⟩=>by go_simp) ?_
 simp only [pt,List.set_cons_zero,List.set_cons_succ]
 clear hS
 refine wpAnyH_all (rs:=[7]) (by kernel_rfl) (by decide) (fun j hj=>?_)
 simp only [List.mem_singleton] at hj
 subst hj
 refine QaO rfl (by rfl) ?_
 go_simp
 refine HCON.out.mono ?_
 intro e w2 h2
 rcases h2.cases with ⟨hf,⟨m',hr,rfl,hm⟩ | ⟨f,hr,bb,hz,rfl,hcc⟩⟩
 rotate_left
 ·exact ⟨rfl,QaP.from h2 (Fr.of_below (Qao _))⟩
 have H2:=Qab h2
 have HTB2:=Qab (HTB.out w2 hf)
 have HK2:=Qab (QaC hm hf)
 clear hm hf h2
 refine ⟨⟨HTB2.out,(HK2.out).2 0,(HK2.out).2 1,(HK2.out).2 2,(HK2.out).2 3,(HK2.out).2 4,(HK2.out).2 5,(HK2.out).2 6⟩,wpAnyH_done (by kernel_rfl) ?_ _⟩
 try simp only [Act.put,List.setIfInBounds_toArray,List.set_cons_zero,List.set_cons_succ]
 go_wp2
 go_end0
 exact QaP.from H2.out (Fr.of_below (Qao _))
end
section
open Go.RowKit
attribute [local go_sem ↓] Go.wp_at_zero Go.wp_at_succ
theorem Qvg (i:Ins) (av bv:Value) (B xb sb:Nat) (M:Msg) (m:MS) (count:Nat) (w:World) (h:MAt w B xb sb M m count) (ho:Qcg w i av bv) (hw:QeJ w (xb+1)) (hop:i.op < 1∨14 < i.op) :
 Calls Tryz.prog 121 #[.pointer (some ⟨xb,0,none⟩),.slice (some ⟨xb+6,0,none⟩) 15 15,Qdt i av bv] w (QaP (.error (12,(m.now:Int))) B xb sb M count w):=by
 obtain ⟨aa,ac,hav⟩:=ho.a.len
 obtain ⟨ba,bc,hbv⟩:=ho.b.len
 subst hav hbv
 obtain ⟨op,n,tag,oct,a,b,at_⟩:=i
 have hnow:=(h.box (.cells #[.int .i64 op,.int .i64 n,.int .i64 tag,.bool oct,.slice aa a.length ac,.slice ba b.length bc,.int .i64 at_] 62)).now
 have hxl:xb < w.heap.size:=Qax h.now
 have c6:w.cell? ⟨xb+6,0,none⟩=some .nilFunc:=Qaa hw.tb 0
 have hx6:¬ xb+6=w.heap.size:=by have:=QaH hw.tb;omega
 have hx6l:xb+6 < w.heap.size:=QaH hw.tb
 have hn:=QuF
 dsimp only at hop
 clear h ho hw
 unfold Qdt
 dsimp only
 have FIN:Hid (∀ (e:Ending) (w':World),Qd9 (12,(m.now:Int)) (w.alloc (.cells #[.int .i64 op,.int .i64 n,.int .i64 tag,.bool oct,.slice aa a.length ac,.slice ba b.length bc,.int .i64 at_] 62)) e w'→Below (w.alloc (.cells #[.int .i64 op,.int .i64 n,.int .i64 tag,.bool oct,.slice aa a.length ac,.slice ba b.length bc,.int .i64 at_] 62)).heap.size (w.alloc (.cells #[.int .i64 op,.int .i64 n,.int .i64 tag,.bool oct,.slice aa a.length ac,.slice ba b.length bc,.int .i64 at_] 62)) w'→QaP (.error (12,(m.now:Int))) B xb sb M count w e w'):=fun e w' h1 h2=>QaP.from (QaP.err rfl (Fr.of_below h2) h1) (Qc7 _ _)
 rcases (by omega:op < 0∨op=0∨14 < op) with hop | hop | hop
 ·have d1:decide (0≤op)=false:=decide_eq_false (by omega)
  have d1':¬ 0≤op:=by omega
  go_enter Tryz.func121,Tryz.ntmps121
  go_wp2_with (go_at_call 199;refine (QcD _ _ _ hnow).mono ?_;rintro e w' ⟨⟨bb,hz,rfl,hcc⟩,hb⟩)
  exact ⟨rfl,FIN.out _ _ ⟨bb,hz,rfl,hcc⟩ hb⟩
 ·subst hop
  go_enter Tryz.func121,Tryz.ntmps121
  go_wp2_with (go_at_call 199;refine (QcD _ _ _ hnow).mono ?_;rintro e w' ⟨⟨bb,hz,rfl,hcc⟩,hb⟩)
  exact ⟨rfl,FIN.out _ _ ⟨bb,hz,rfl,hcc⟩ hb⟩
 ·have d1:decide (0≤op)=true:=decide_eq_true (by omega)
  have d1':0≤op:=by omega
  have d2:decide (op < 15)=false:=decide_eq_false (by omega)
  have d2':¬ op < 15:=by omega
  go_enter Tryz.func121,Tryz.ntmps121
  go_wp2_with (go_at_call 199;refine (QcD _ _ _ hnow).mono ?_;rintro e w' ⟨⟨bb,hz,rfl,hcc⟩,hb⟩)
  exact ⟨rfl,FIN.out _ _ ⟨bb,hz,rfl,hcc⟩ hb⟩
theorem Qvq (i:Ins) (av bv:Value) (B xb sb:Nat) (M:Msg) (m:MS) (count:Nat) (w:World) (h:MAt w B xb sb M m count) (ho:Qcg w i av bv) (hw:QeJ w (xb+1)) (ht:Tab w) :
 Calls Tryz.prog 121 #[.pointer (some ⟨xb,0,none⟩),.slice (some ⟨xb+6,0,none⟩) 15 15,Qdt i av bv] w (QaP (stepL M count i m) B xb sb M count w):=by
 by_cases hop:i.op < 1∨14 < i.op
 ·have hr:stepL M count i m=.error (12,(m.now:Int)):=by
   unfold stepL Qc2
   rw [if_neg (by omega),if_neg (by omega),if_neg (by omega),if_neg (by omega),if_neg (by omega),if_neg (by omega),if_neg (by omega),if_neg (by omega),if_neg (by omega),if_neg (by omega),if_neg (by omega),if_neg (by omega),if_neg (by omega),if_neg (by omega)]
  rw [hr]
  exact Qvg i av bv B xb sb M m count w h ho hw hop
 obtain ⟨op,n,tag,oct,a,b,at_⟩:=i
 dsimp only at hop
 obtain ⟨aa,ac,hav⟩:=ho.a.len
 obtain ⟨ba,bc,hbv⟩:=ho.b.len
 subst hav hbv
 rcases (by omega:op=1∨op=2∨op=3∨op=4∨op=5∨op=6∨op=7∨op=8∨op=9∨op=10∨op=11∨op=12∨op=13∨op=14) with rfl | rfl | rfl | rfl | rfl | rfl | rfl | rfl | rfl | rfl | rfl | rfl | rfl | rfl
 ·exact Qll 1 184 (Qgf ⟨1,n,tag,oct,a,b,at_⟩ m) n tag oct a b at_ aa ba ac bc B xb sb M m count w (fun _ _=>by kernel_rfl) (by decide) (by decide) h hw rfl (QsW ⟨1,n,tag,oct,a,b,at_⟩ _ _ B xb sb M m count _ (h.below (Qao _)) (ho.below (Qao _)) )
 ·exact Qll 2 185 (QmA m) n tag oct a b at_ aa ba ac bc B xb sb M m count w (fun _ _=>by kernel_rfl) (by decide) (by decide) h hw rfl (Qtm ⟨2,n,tag,oct,a,b,at_⟩ _ _ B xb sb M m count _ (h.below (Qao _)) (ho.below (Qao _)) )
 ·exact Qll 3 186 (Qgl count ⟨3,n,tag,oct,a,b,at_⟩ m) n tag oct a b at_ aa ba ac bc B xb sb M m count w (fun _ _=>by kernel_rfl) (by decide) (by decide) h hw rfl (Qts ⟨3,n,tag,oct,a,b,at_⟩ _ _ B xb sb M m count _ (h.below (Qao _)) (ho.below (Qao _)) )
 ·exact Qrg 4 268 (xb+1) (doCond true count ⟨4,n,tag,oct,a,b,at_⟩ m) n tag oct a b at_ aa ba ac bc B xb sb M m count w (fun _ _=>by kernel_rfl) (by decide) (by decide) h hw rfl (QjI true (xb+1) ⟨4,n,tag,oct,a,b,at_⟩ _ _ B xb sb M m count _ (h.below (Qao _)) (ho.below (Qao _)) (hw.below (Qao _)).p0 (by omega))
 ·exact Qrg 5 268 (xb+1+1) (doCond false count ⟨5,n,tag,oct,a,b,at_⟩ m) n tag oct a b at_ aa ba ac bc B xb sb M m count w (fun _ _=>by kernel_rfl) (by decide) (by decide) h hw rfl (QjI false (xb+1+1) ⟨5,n,tag,oct,a,b,at_⟩ _ _ B xb sb M m count _ (h.below (Qao _)) (ho.below (Qao _)) (hw.below (Qao _)).p1 (by omega))
 ·exact Qrg 6 269 (xb+1+2) (doAsk (fieldsL M (a.map (expL m.st))) ⟨6,n,tag,oct,a,b,at_⟩ m) n tag oct a b at_ aa ba ac bc B xb sb M m count w (fun _ _=>by kernel_rfl) (by decide) (by decide) h hw rfl (QqN (xb+1+2) ⟨6,n,tag,oct,a,b,at_⟩ _ _ B xb sb M m count _ (h.below (Qao _)) (ho.below (Qao _)) (hw.below (Qao _)).p2)
 ·exact Qrg 7 269 (xb+1+3) (doAsk (QiK M a) ⟨7,n,tag,oct,a,b,at_⟩ m) n tag oct a b at_ aa ba ac bc B xb sb M m count w (fun _ _=>by kernel_rfl) (by decide) (by decide) h hw rfl (QmG (xb+1+3) ⟨7,n,tag,oct,a,b,at_⟩ _ _ B xb sb M m count _ (h.below (Qao _)) (ho.below (Qao _)) (hw.below (Qao _)).p3)
 ·exact Qrg 8 269 (xb+1+4) (doAsk (a.map (expL m.st)) ⟨8,n,tag,oct,a,b,at_⟩ m) n tag oct a b at_ aa ba ac bc B xb sb M m count w (fun _ _=>by kernel_rfl) (by decide) (by decide) h hw rfl (Qok (xb+1+4) ⟨8,n,tag,oct,a,b,at_⟩ _ _ B xb sb M m count _ (h.below (Qao _)) (ho.below (Qao _)) (hw.below (Qao _)).p4)
 ·exact Qll 9 192 (Qlm (existsL M (a.map (expL m.st))) m) n tag oct a b at_ aa ba ac bc B xb sb M m count w (fun _ _=>by kernel_rfl) (by decide) (by decide) h hw rfl (QpV ⟨9,n,tag,oct,a,b,at_⟩ _ _ B xb sb M m count _ (h.below (Qao _)) (ho.below (Qao _)) )
 ·exact Qll 10 193 (QgD M ⟨10,n,tag,oct,a,b,at_⟩ m) n tag oct a b at_ aa ba ac bc B xb sb M m count w (fun _ _=>by kernel_rfl) (by decide) (by decide) h hw rfl (QtC ⟨10,n,tag,oct,a,b,at_⟩ _ _ B xb sb M m count _ (h.below (Qao _)) (ho.below (Qao _)) )
 ·exact Qll 11 194 (QfU ⟨11,n,tag,oct,a,b,at_⟩ m) n tag oct a b at_ aa ba ac bc B xb sb M m count w (fun _ _=>by kernel_rfl) (by decide) (by decide) h hw rfl (Qua ⟨11,n,tag,oct,a,b,at_⟩ _ _ B xb sb M m count _ (h.below (Qao _)) (ho.below (Qao _)) )
 ·exact Qll 12 195 (Qle ⟨12,n,tag,oct,a,b,at_⟩ m) n tag oct a b at_ aa ba ac bc B xb sb M m count w (fun _ _=>by kernel_rfl) (by decide) (by decide) h hw rfl (Qut ⟨12,n,tag,oct,a,b,at_⟩ _ _ B xb sb M m count _ (h.below (Qao _)) (ho.below (Qao _)) (ht.below (Qao _)))
 ·exact Qll 13 196 (.ok (stL m (QsV m.st))) n tag oct a b at_ aa ba ac bc B xb sb M m count w (fun _ _=>by kernel_rfl) (by decide) (by decide) h hw rfl (Qn8 ⟨13,n,tag,oct,a,b,at_⟩ _ _ B xb sb M m count _ (h.below (Qao _)) (ho.below (Qao _)) )
 ·exact Qll 14 198 (.ok (goL m count)) n tag oct a b at_ aa ba ac bc B xb sb M m count w (fun _ _=>by kernel_rfl) (by decide) (by decide) h hw rfl (Qs5 ⟨14,n,tag,oct,a,b,at_⟩ _ _ B xb sb M m count _ (h.below (Qao _)) (ho.below (Qao _)) )
end
section
open Go.RowKit
attribute [local go_sem ↓] Go.wp_at_zero Go.wp_at_succ
def Qvo (w:World) (cs:Array Value) (j:Nat) (i:Ins):Prop:=
 ∃ av bv,cs[j*7]?=some (.int .i64 i.op)∧cs[j*7+1]?=some (.int .i64 i.n)∧cs[j*7+2]?=some (.int .i64 i.tag)∧cs[j*7+3]?=some (.bool i.oct)∧cs[j*7+4]?=some av∧cs[j*7+5]?=some bv∧cs[j*7+6]?=some (.int .i64 i.at_)∧Qcg w i av bv
def Qfd (w:World) (cv:Value) (code:List Ins):Prop:=
 (cv=.slice none 0 0∧code=[])∨∃ g c cs,cv=.slice (some ⟨g,0,none⟩) code.length c∧w.heap[g]?=some (.cells cs 62)∧∀ j (hj:j < code.length),Qvo w cs j code[j]
theorem Qfd.fr {P:Nat→Obj→Prop} {w w':World} {cv:Value} {code:List Ins} (h:Qfd w cv code) (hf:Fr P w w') (h1:∀ k cs,¬ P k (.cells cs 62)) (h2:∀ k cs,¬ P k (.cells cs 9)):Qfd w' cv code:=by
 rcases h with h | ⟨g,c,cs,hv,hb,hc⟩
 ·exact Or.inl h
 ·refine Or.inr ⟨g,c,cs,hv,hf.block _ _ hb (h1 _ _),fun j hj=>?_⟩
  obtain ⟨av,bv,a1,a2,a3,a4,a5,a6,a7,ho⟩:=hc j hj
  exact ⟨av,bv,a1,a2,a3,a4,a5,a6,a7,ho.fr hf h2⟩
theorem Qfd.pm {B xb:Nat} {w w':World} {cv:Value} {code:List Ins} (h:Qfd w cv code) (hf:Fr (PMc B xb) w w'):Qfd w' cv code:=h.fr hf (fun _ _=>PMc.not (by decide) (by decide) (by decide) (by decide)) (fun _ _=>PMc.not (by decide) (by decide) (by decide) (by decide))
theorem Qfd.below {w w':World} {cv:Value} {code:List Ins} (h:Qfd w cv code) (hb:Below w.heap.size w w'):Qfd w' cv code:=h.fr (P:=fun _ _=>False) (Fr.of_below hb) (fun _ _ h=>h) (fun _ _ h=>h)
theorem Qfd.len {w:World} {cv:Value} {code:List Ins} (h:Qfd w cv code):∃ a c,cv=.slice a code.length c:=by
 rcases h with ⟨h,rfl⟩ | ⟨g,c,cs,h,_⟩
 ·exact ⟨none,0,h⟩
 ·exact ⟨_,_,h⟩
theorem Qfd.get' {w:World} {la:Option Addr} {n lc:Nat} {code:List Ins} (h:Qfd w (.slice la n lc) code) (j:Nat) (hj:j < code.length):∃ g cs,la=some ⟨g,0,none⟩∧w.heap[g]?=some (.cells cs 62)∧Qvo w cs j code[j]:=by
 rcases h with ⟨_,rfl⟩ | ⟨g,c,cs,hv,hb,hc⟩
 ·exact absurd hj (Nat.not_lt_zero _)
 ·injection hv with h1 h2 h3
  exact ⟨g,cs,h1,hb,hc j hj⟩
def QpK (r:List (Int×List UInt8)×Nat×Option FZ) (w:World) (e:Ending) (w':World):Prop:=
 Below w.heap.size w w'∧((∃ lv,r.2.2=none∧e=.returned (.tuple #[lv,.int .i64 (r.2.1:Int),.nilIface])∧ActsV w' w.heap.size lv r.1)∨
  (∃ lv f bb,r.2.2=some f∧e=.returned (.tuple #[lv,.int .i64 (r.2.1:Int),.iface 140 (.pointer (some ⟨bb,0,none⟩))])∧ActsV w' w.heap.size lv r.1∧w.heap.size≤bb∧w'.heap[bb]?=some (.cells #[.int .i64 f.1,.int .i64 f.2] 145)))
theorem ActsV.set {w:World} {B:Nat} {v:Value} {l:List (Int×List UInt8)} (h:ActsV w B v l) {b:Nat} (hb:b < B) (j:Nat) (x:Value):ActsV (w.setCell ⟨b,j,none⟩ x) B v l:=
 ⟨QbE h.1 (fun e=>by have:=(h.1.lt _ e).1;omega) j x,h.2⟩
theorem ActsV.lo {w:World} {B B':Nat} {v:Value} {l:List (Int×List UInt8)} (h:ActsV w B v l) (hb:B'≤B):ActsV w B' v l:=⟨QiT h.1 hb,h.2⟩
theorem QjG {w V w1:World} {lv:Value} {f:FZ} {bb P:Nat} {l:List (Int×List UInt8)} (hVB:Below w.heap.size w V) (hP:w.heap.size≤P) (hPV:P+1 < V.heap.size) (hv1:ActsV w1 V.heap.size lv l) (hb1:Below V.heap.size V w1) (hbb:w.heap.size≤bb) (hbP:bb≠P) (hbQ:bb≠P+1) (hF:V.heap[bb]?=some (.cells #[.int .i64 f.1,.int .i64 f.2] 145)) (x0 x1:Value) (c0:V.cell? ⟨P,0,none⟩=some x0) (c1:V.cell? ⟨P+1,0,none⟩=some x1) :
 ∃ W,W=(w1.setCell ⟨P,0,none⟩ lv).setCell ⟨P+1,0,none⟩ (.iface 140 (.pointer (some ⟨bb,0,none⟩)))∧W.cell? ⟨P,0,none⟩=some lv∧W.cell? ⟨P+1,0,none⟩=some (.iface 140 (.pointer (some ⟨bb,0,none⟩)))∧Below w.heap.size w W∧ActsV W w.heap.size lv l∧W.heap[bb]?=some (.cells #[.int .i64 f.1,.int .i64 f.2] 145):=by
 have hz:=hVB.size
 have d0:w1.cell? ⟨P,0,none⟩=some x0:=(hb1.cell (p:=⟨P,0,none⟩) (show P < _ by omega)).trans c0
 have d1:w1.cell? ⟨P+1,0,none⟩=some x1:=(hb1.cell (p:=⟨P+1,0,none⟩) hPV).trans c1
 have hB1:Below w.heap.size w w1:=hVB.trans (hb1.mono hz)
 refine ⟨_,rfl,?_,?_,(hB1.setCell hP _).setCell (show w.heap.size≤P+1 by omega) _,((hv1.set (by omega) _ _).set hPV _ _).lo hz,?_⟩
 ·rw [World.cell?_setCell_other _ _ _ _ (by simp),World.cell?_setCell_same _ _ _ d0]
 ·have d1':(w1.setCell ⟨P,0,none⟩ lv).cell? ⟨P+1,0,none⟩=some x1:=by rw [World.cell?_setCell_other _ _ _ _ (by simp)];exact d1
  exact World.cell?_setCell_same _ _ _ d1'
 ·rw [Below.heap_setCell _ _ _ _ hbQ,Below.heap_setCell _ _ _ _ hbP,hb1.block bb (QaH hF)]
  exact hF
theorem Qp2 {v:Bool} {code:List Ins} {M:Msg} (h:400 < code.length):execL v code M=([(1,[])],0,some (12,400)):=by unfold execL;rw [if_pos h]
theorem Qtc {v:Bool} {code:List Ins} {M:Msg} {m:MS} {d:Nat} (h:¬ 400 < code.length) (hl:loopL M code code.length (ms0 v) 0=(.ok m,d)):execL v code M=(Qu5 m.st,d,none):=by unfold execL;rw [if_neg h,hl]
theorem Qq8 {v:Bool} {code:List Ins} {M:Msg} {f:FZ} {d:Nat} (h:¬ 400 < code.length) (hl:loopL M code code.length (ms0 v) 0=(.error f,d)):execL v code M=([(1,[])],d,some f):=by unfold execL;rw [if_neg h,hl]
theorem Qse (v:Bool) (cv hv:Value) (code:List Ins) (M:Msg) (w:World) (hc:Qfd w cv code) (hh:Qji w hv M.hdrs) (hb:SBd M (ss0 v)) (h1:1 < w.heap.size) (hm:∃ m,w.cell? ⟨1,0,none⟩=some (.int .i64 m)) (ht:Tab w) (hn:code.length≤1000000) (hlong:400 < code.length) :
 Calls Tryz.prog 80 #[.bool v,cv,Qf0 M hv] w (QpK (execL v code M) w):=by
 have hmf:∀ (fn:Fn) (first cap:Array Value) (w:World),(Instr.makeFunc fn first cap).run Tryz.prog w=.ok (.func fn first cap) w:=fun _ _ _ _=>rfl
 obtain ⟨ca,cc,hcv⟩:=hc.len
 subst hcv
 obtain ⟨ha,hac,hhv⟩:=hh.len
 subst hhv
 unfold Qf0
 have hlong':(400:Int) < (code.length:Int):=by omega
 have HR:=Qab (Qp2 (v:=v) (M:=M) hlong)
 clear hc hh hb ht hm
 go_enter_defers Tryz.func80,Tryz.ntmps80
 go_wp2_with (go_at_call 118;refine (QaB _ _ _).mono ?_;rintro e w3 ⟨rfl,rfl⟩)
 obtain ⟨V,hV⟩:∃ V,V=(((w.alloc (.cells #[.string (Qad M.fr),.string (Qad M.to),.int .i64 M.size,.slice ha M.hdrs.length hac] 48)).alloc (.cells #[.slice none 0 0] 33)).alloc (.cells #[.nilIface] 90)).alloc (.cells #[.int .i64 12,.int .i64 400] 145):=⟨_,rfl⟩
 have hzV:V.heap.size=w.heap.size+4:=by rw [hV];simp
 have hP:V.heap[w.heap.size+1]?=some (.cells #[.slice none 0 0] 33):=by rw [hV];exact Qac (Qac (QaD (by simp)))
 have hQ:V.heap[w.heap.size+1+1]?=some (.cells #[.nilIface] 90):=by rw [hV];exact Qac (QaD (by simp))
 have hF:V.heap[w.heap.size+1+1+1]?=some (.cells #[.int .i64 12,.int .i64 400] 145):=by rw [hV];exact QaD (by simp)
 have hVB:Below w.heap.size w V:=by rw [hV];exact ((((Below.refl _ _).alloc (Nat.le_refl _) _).alloc (by simp) _).alloc (by simp;omega) _).alloc (by simp;omega) _
 rw [← hV]
 clear hV
 have c0:V.cell? ⟨w.heap.size+1,0,none⟩=some (.slice none 0 0):=Qaa hP 0
 have c2:V.cell? ⟨w.heap.size+1+1,0,none⟩=some .nilIface:=Qaa hQ 0
 have z1:=Qap hP
 have z2:=Qap hQ
 refine leaves_cons (f:=116) (args:=#[.pointer (some ⟨w.heap.size+1,0,none⟩),.pointer (some ⟨w.heap.size+1+1,0,none⟩)]) (by simp) (by simp [go_sem]) ?_
 refine (QeL (w.heap.size+1) (w.heap.size+1+1) _ _ ⟨w.heap.size+1+1+1,0,none⟩ [] _ c0 c2 z1 z2 (by omega)).mono ?_
 rintro e u' w'' ⟨rfl,rfl,lv,w1,hv1,hb1,rfl⟩
 obtain ⟨W,hW,e0,e1,hB,hA,hFF⟩:=QjG (f:=(12,400)) (bb:=w.heap.size+1+1+1) (P:=w.heap.size+1) hVB (by omega) (by omega) hv1 hb1 (by omega) (by omega) (by omega) hF _ _ c0 c2
 rw [← hW]
 have HFIN:Hid (QpK (execL v code M) w (.returned (.tuple #[lv,.int .i64 0,.iface 140 (.pointer (some ⟨w.heap.size+1+1+1,0,none⟩))])) W):=by
  rw [HR.out]
  exact ⟨hB,Or.inr ⟨lv,(12,400),_,rfl,rfl,hA,by omega,hFF⟩⟩
 obtain ⟨la,lk,hlv⟩:=QaL hA.1
 subst hlv
 simp [Leaves,settle,results,Tryz.results80,go_sem,e0,e1]
 exact HFIN.out
end
section
open Go.RowKit
attribute [local go_sem ↓] Go.wp_at_zero Go.wp_at_succ
theorem Quu {v:Bool} {code:List Ins} {M:Msg} {w w5:World} {lv x0 y0:Value} {l:List (Int×List UInt8)} {d B:Nat} (hx:execL v code M=(l,d,none)) (hB:Below w.heap.size w w5) (hv:ActsV w5 B lv l) (c0:w5.cell? ⟨w.heap.size+1,0,none⟩=some x0) (c1:w5.cell? ⟨w.heap.size+1+1,0,none⟩=some y0) (hlt:w.heap.size+1+1 < B) :
 ∃ W,W=(w5.setCell ⟨w.heap.size+1,0,none⟩ lv).setCell ⟨w.heap.size+1+1,0,none⟩ .nilIface∧W.cell? ⟨w.heap.size+1,0,none⟩=some lv∧W.cell? ⟨w.heap.size+1+1,0,none⟩=some .nilIface∧Hid (QpK (execL v code M) w (.returned (.tuple #[lv,.int .i64 (d:Int),.nilIface])) W):=by
 refine ⟨_,rfl,?_,?_,?_⟩
 ·rw [World.cell?_setCell_other _ _ _ _ (by simp),World.cell?_setCell_same _ _ _ c0]
 ·have d1':(w5.setCell ⟨w.heap.size+1,0,none⟩ lv).cell? ⟨w.heap.size+1+1,0,none⟩=some y0:=by rw [World.cell?_setCell_other _ _ _ _ (by simp)];exact c1
  exact World.cell?_setCell_same _ _ _ d1'
 ·rw [hx]
  exact ⟨(hB.setCell (show w.heap.size≤w.heap.size+1 by omega) _).setCell (show w.heap.size≤w.heap.size+1+1 by omega) _,Or.inl ⟨lv,rfl,rfl,((hv.set (by omega) _ _).set hlt _ _).lo (by omega)⟩⟩
theorem MI.atNext {w:World} {B xb sb:Nat} {M:Msg} {m:MS} {count:Nat} {kv:Value} (h:MI w B xb sb M m count kv) (hlt:m.next < count):MAt ((w.setCell ⟨xb,2,none⟩ (.int .i64 (m.next:Int))).setCell ⟨xb,3,none⟩ (.int .i64 ((m.next:Int)+1))).drew.drew B xb sb M (atL m) count∧Fr (PMc B xb) w ((w.setCell ⟨xb,2,none⟩ (.int .i64 (m.next:Int))).setCell ⟨xb,3,none⟩ (.int .i64 ((m.next:Int)+1))).drew.drew:=by
 have hcl:=h.cl
 have f1:=h.set 2 (.int .i64 (m.next:Int)) ⟨m.st,m.stack,m.next,m.next⟩ kv rfl rfl (QbE h.stack h.row _ _) h.sl (show m.next≤400 by omega) h.nx
 have f2:=f1.1.set 3 (.int .i64 ((m.next:Int)+1)) (atL m) kv rfl rfl (QbE f1.1.stack f1.1.row _ _) h.sl (show m.next≤400 by omega) (show m.next+1≤count by omega)
 obtain ⟨X,hX⟩:∃ X,X=(w.setCell ⟨xb,2,none⟩ (.int .i64 (m.next:Int))).setCell ⟨xb,3,none⟩ (.int .i64 ((m.next:Int)+1)):=⟨_,rfl⟩
 rw [← hX] at f2 ⊢
 have hb:Below X.heap.size X X.drew.drew:=Qaz (Qaz (Below.refl X.heap.size X))
 exact ⟨⟨_,f2.1.below hb⟩,((f1.2.trans f2.2).mono (fun _ _=>PMc.k)).trans (Fr.of_below hb)⟩
theorem Qps (v:Bool) (cv hv:Value) (code:List Ins) (M:Msg) (w:World) (hc:Qfd w cv code) (hh:Qji w hv M.hdrs) (hb:SBd M (ss0 v)) (h1:1 < w.heap.size) (hm:∃ m,w.cell? ⟨1,0,none⟩=some (.int .i64 m)) (ht:Tab w) (hn:code.length≤1000000) (hlong:¬ 400 < code.length) :
 Calls Tryz.prog 80 #[.bool v,cv,Qf0 M hv] w (QpK (execL v code M) w):=by
 have hmf:∀ (fn:Fn) (first cap:Array Value) (w:World),(Instr.makeFunc fn first cap).run Tryz.prog w=.ok (.func fn first cap) w:=fun _ _ _ _=>rfl
 obtain ⟨ca,cc,hcv⟩:=hc.len
 subst hcv
 obtain ⟨ha,hac,hhv⟩:=hh.len
 subst hhv
 unfold Qf0
 have hlong':¬ (400:Int) < (code.length:Int):=by omega
 have HC:=Qab hc
 have HH:=Qab hh
 have HBD:=Qab hb
 have HT:=Qab ht
 have HM1:=Qab hm
 clear hc hh hb ht hm
 go_enter_defers Tryz.func80,Tryz.ntmps80
 go_wp2_with fail
 obtain ⟨V,hV⟩:∃ V,V=((w.alloc (.cells #[.string (Qad M.fr),.string (Qad M.to),.int .i64 M.size,.slice ha M.hdrs.length hac] 48)).alloc (.cells #[.slice none 0 0] 33)).alloc (.cells #[.nilIface] 90):=⟨_,rfl⟩
 have hzV:V.heap.size=w.heap.size+3:=by rw [hV];simp
 have hP:V.heap[w.heap.size+1]?=some (.cells #[.slice none 0 0] 33):=by rw [hV];exact Qac (QaD (by simp))
 have hQ:V.heap[w.heap.size+1+1]?=some (.cells #[.nilIface] 90):=by rw [hV];exact QaD (by simp)
 have hVB:Below w.heap.size w V:=by rw [hV];exact (((Below.refl _ _).alloc (Nat.le_refl _) _).alloc (by simp) _).alloc (by simp;omega) _
 rw [← hV]
 clear hV
 have HVB:=Qab hVB
 have HP:=Qab hP
 have HQ:=Qab hQ
 refine (Qt7 v M (.slice ha M.hdrs.length hac) V (HH.out.fr (P:=fun _ _=>False) (Fr.of_below hVB) (fun _ _ h=>h)) HBD.out (by omega) (by obtain ⟨m,hm⟩:=HM1.out;exact ⟨m,(hVB.cell (p:=⟨1,0,none⟩) (Qax hm)).trans hm⟩)).mono ?_
 rintro e w1 ⟨sb,rfl,hs,hb1⟩
 have HS:=Qab hs
 have HB1:=Qab hb1
 have hz1:=hb1.size
 clear hVB hP hQ hs hb1
 go_wp2_with fail
 refine (Qsv _).mono ?_
 rintro e w2 ⟨rfl,hw2,hb2,hz2⟩
 obtain ⟨xb,hxb⟩:∃ xb,xb=w1.heap.size:=⟨_,rfl⟩
 have hz2':w2.heap.size=xb+7:=by rw [hz2,hxb];simp
 have hxs:(w1.alloc (.cells (QeE sb (.slice none 0 0) 0 0 code.length) 210)).heap.size=xb+1:=by rw [hxb];simp
 have hw2':QeJ w2 (xb+1):=by rw [← hxs];exact hw2
 have hb2':Below (w1.alloc (.cells (QeE sb (.slice none 0 0) 0 0 code.length) 210)).heap.size (w1.alloc (.cells (QeE sb (.slice none 0 0) 0 0 code.length) 210)) w2:=hb2
 have hblk:w2.heap[xb]?=some (.cells (QeE sb (.slice none 0 0) 0 0 code.length) 210):=by rw [hxb];exact Qal (Qay _ _) hb2'
 have hcl:code.length≤400:=by omega
 have hb12:Below w1.heap.size w1 w2:=((Below.refl _ _).alloc (Nat.le_refl _) _).trans (hb2'.mono (by simp))
 have HMA:Hid (MAt w2 V.heap.size xb sb M (ms0 v) code.length):=⟨.slice none 0 0,by omega,hblk,HS.out.below hb12,World.ownsRow_nil _ _ _ _,Nat.zero_le _,Nat.zero_le _,Nat.zero_le _,hcl,by omega⟩
 have HW2:=Qab hw2'
 have HB2:=Qab (HVB.out.trans ((HB1.out.trans (hb12.mono hz1)).mono (by omega)))
 have HBV2:=Qab (HB1.out.trans (hb12.mono hz1))
 have hs2:w1.heap.size+6=xb+6:=by omega
 have hst:w1.heap.size+1+5=xb+6:=by omega
 have hxs3:∀ o:Obj,(w1.alloc o).heap.size=xb+1:=fun o=>by rw [hxb];simp
 rw [hxs3,← hxb]
 clear hw2 hb2 hb2' hblk hb12 hw2' hxs hz2
 have hxbV:V.heap.size≤xb:=by omega
 have hx2l:xb+7≤w2.heap.size:=by omega
 clear hxb hs2 hst hz2'
 go_wp2_with fail
 go_loopw [7] (fun dn wr=>∃ (m:MS) (d:Nat),dn=.int .i64 (d:Int)∧MAt wr V.heap.size xb sb M m code.length∧Fr (PMc V.heap.size xb) w2 wr∧d≤m.next∧∃ F,code.length - m.next≤F∧loopL M code code.length (ms0 v) 0=loopL M code F m d) (fun dn _=>code.length - (intOf dn).toNat)
 case atStart=>exact ⟨ms0 v,0,rfl,HMA.out,Fr.refl _ _,Nat.le_refl _,code.length,Nat.sub_le _ _,rfl⟩
 case round=>
  obtain ⟨m,d,rfl,hma,hfr,hdm,F,hF,hloop⟩:=hrel
  obtain ⟨kv,hMI⟩:=hma
  have HMI:=Qab hMI
  have HFR:=Qab hfr
  have HLP:=Qab hloop
  have c0:wr.cell? ⟨xb,0,none⟩=some (.pointer (some ⟨sb,0,none⟩)):=Qaa hMI.blk 0
  have c3:wr.cell? ⟨xb,3,none⟩=some (.int .i64 (m.next:Int)):=Qaa hMI.blk 3
  have c4:wr.cell? ⟨xb,4,none⟩=some (.int .i64 (code.length:Int)):=Qaa hMI.blk 4
  have hnx:=hMI.nx
  clear hMI hfr hloop
  by_cases hlt:m.next < code.length
  rotate_left
  ·have hlt':¬ (m.next:Int) < (code.length:Int):=by omega
   have HL:Hid (loopL M code code.length (ms0 v) 0=(.ok m,d)):=by
    show _=_
    rw [HLP.out]
    cases F with
    | zero=>rfl
    | succ F=>unfold loopL;rw [if_neg hlt]
   have HX:=Qab (Qtc (v:=v) hlong HL.out)
   go_wp2_with fail
   go_region_held3 (fun w'=>w'.cell? ⟨xb,3,none⟩=some (.int .i64 (m.next:Int))∧w'.cell? ⟨xb,4,none⟩=some (.int .i64 (code.length:Int))) (first | go_keep) (fail)
   all_goals go_wp2_with fail
   all_goals refine (Qn3 V.heap.size sb M m.st _ ((HMI.out.st).below (Qaz (Below.refl _ _)))).mono ?_
   all_goals rintro e w5 ⟨lv,rfl,hv5,hb5⟩
   all_goals obtain ⟨a5,k5,hlv⟩:=QaL hv5.1
   all_goals subst hlv
   all_goals have hP5:w5.heap[w.heap.size+1]?=some (.cells #[.slice none 0 0] 33):=Qal (show wr.drew.heap[w.heap.size+1]?=_ from HFR.out.block _ _ (Qal HP.out HBV2.out) (PMc.not (by decide) (by decide) (by decide) (by decide))) hb5
   all_goals have hQ5:w5.heap[w.heap.size+1+1]?=some (.cells #[.nilIface] 90):=Qal (show wr.drew.heap[w.heap.size+1+1]?=_ from HFR.out.block _ _ (Qal HQ.out HBV2.out) (PMc.not (by decide) (by decide) (by decide) (by decide))) hb5
   all_goals have x1:w5.cell? ⟨w.heap.size+1,0,none⟩=some (.slice none 0 0):=Qaa hP5 0
   all_goals have x2:w5.cell? ⟨w.heap.size+1+1,0,none⟩=some .nilIface:=Qaa hQ5 0
   all_goals have z1:=Qap hP5
   all_goals have z2:=Qap hQ5
   all_goals have hwr:w.heap.size+3≤wr.heap.size:=by have h1:=HFR.out.size;have h2:=HBV2.out.size;omega
   all_goals have hBr:Below w.heap.size w w5:=(HB2.out.trans ((HFR.out.below (B:=w.heap.size) (fun k o h=>by have:=h.1;omega) HB2.out.size).trans (((Qaz (Below.refl wr.heap.size wr)).trans (hb5.mono (Nat.le_refl _))).mono (by omega))))
   all_goals have HBR:=Qab hBr
   all_goals have HV5:=Qab hv5
   all_goals clear hBr hv5 hP5 hQ5 hb5
   all_goals go_wp2
   all_goals refine leaves_cons (f:=116) (args:=#[.pointer (some ⟨w.heap.size+1,0,none⟩),.pointer (some ⟨w.heap.size+1+1,0,none⟩)]) (by simp) (by simp [go_sem]) ?_
   all_goals refine (QoG ⟨w.heap.size+1,0,none⟩ ⟨w.heap.size+1+1,0,none⟩ _).mono ?_
   all_goals rintro e u' w'' ⟨rfl,rfl,rfl⟩
   all_goals obtain ⟨W,hW,e0,e1,HFIN⟩:=Quu HX.out HBR.out HV5.out x1 x2 (show w.heap.size+1+1 < wr.drew.heap.size from by show _ < wr.heap.size;omega)
   all_goals rw [← hW]
   all_goals clear hW
   all_goals simp [Leaves,settle,results,Tryz.results80,go_sem,e0,e1]
   all_goals exact HFIN.out
  ·have hlt':(m.next:Int) < (code.length:Int):=by omega
   have z0:=Qap HMI.out.blk
   go_wp2_with fail
   go_region_held3 (fun w'=>w'.cell? ⟨xb,3,none⟩=some (.int .i64 (m.next:Int))∧w'.cell? ⟨xb,4,none⟩=some (.int .i64 (code.length:Int))) (first | go_keep) (fail)
   all_goals go_wp2_with fail
   all_goals have c2:wr.cell? ⟨xb,2,none⟩=some (.int .i64 (m.now:Int)):=Qaa HMI.out.blk 2
   all_goals have hnx8:(m.next:Int) < 400:=by omega
   all_goals have hnx0:(0:Int)≤(m.next:Int):=by omega
   all_goals refine wp_region_noPanic ?_
   all_goals go_region
   all_goals refine NoPanic.normal ?_
   all_goals obtain ⟨hm2,hf2⟩:=HMI.out.atNext hlt
   all_goals obtain ⟨W,hW⟩:∃ W,W=((wr.setCell ⟨xb,2,none⟩ (.int .i64 (m.next:Int))).setCell ⟨xb,3,none⟩ (.int .i64 ((m.next:Int)+1))).drew.drew:=⟨_,rfl⟩
   all_goals rw [← hW] at hm2 hf2
   all_goals rw [← hW]
   all_goals clear hW
   all_goals have hFW:Fr (PMc V.heap.size xb) w2 W:=HFR.out.trans hf2
   all_goals obtain ⟨g,cs,hla,hg,av,bv,a1,a2,a3,a4,a5,a6,a7,ho⟩:=((HC.out.below HB2.out).pm hFW).get' m.next hlt
   all_goals subst hla
   all_goals have e0:W.cell? ⟨g,m.next*7,none⟩=some (.int .i64 code[m.next].op):=(Qaa hg _).trans a1
   all_goals have e1:W.cell? ⟨g,m.next*7+1,none⟩=some (.int .i64 code[m.next].n):=(Qaa hg _).trans a2
   all_goals have e2:W.cell? ⟨g,m.next*7+2,none⟩=some (.int .i64 code[m.next].tag):=(Qaa hg _).trans a3
   all_goals have e3:W.cell? ⟨g,m.next*7+3,none⟩=some (.bool code[m.next].oct):=(Qaa hg _).trans a4
   all_goals have e4:W.cell? ⟨g,m.next*7+4,none⟩=some av:=(Qaa hg _).trans a5
   all_goals have e5:W.cell? ⟨g,m.next*7+5,none⟩=some bv:=(Qaa hg _).trans a6
   all_goals have e6:W.cell? ⟨g,m.next*7+6,none⟩=some (.int .i64 code[m.next].at_):=(Qaa hg _).trans a7
   all_goals have en:W.cell? ⟨xb,2,none⟩=some (.int .i64 (m.next:Int)):=hm2.now
   all_goals have HM2:=Qab hm2
   all_goals have HFW:=Qab hFW
   all_goals have HO:=Qab ho
   all_goals have HBW:=Qab (HB2.out.trans (hFW.below (B:=w.heap.size) (fun k o h=>by have:=h.1;omega) HB2.out.size))
   all_goals clear hm2 hf2 hFW hg a1 a2 a3 a4 a5 a6 a7 c0 c2 c3 c4 z0
   all_goals go_wp2_with fail
   all_goals refine (Qvq code[m.next] av bv V.heap.size xb sb M (atL m) code.length W HM2.out HO.out (HW2.out.fr HFW.out) (HT.out.below HBW.out)).mono ?_
   all_goals rintro e w6 ⟨hf6,h6⟩
   all_goals have hgd:code.getD m.next QuD=code[m.next]:=by simp [List.getD,hlt]
   all_goals cases hr:stepL M code.length code[m.next] (atL m) with
   | ok m'=>
    rw [hr] at h6
    obtain ⟨rfl,hm6⟩:=h6
    have hnn:=Qqa hr (show m.next+1≤code.length by omega)
    have hn1:m.next+1≤m'.next:=hnn.1
    have HFIN:Hid (∃ F,code.length - m'.next≤F∧loopL M code code.length (ms0 v) 0=loopL M code F m' (d+1)):=by
     show ∃ F,_
     rw [HLP.out]
     cases F with
     | zero=>omega
     | succ F=>exact ⟨F,by omega,by rw [loopL,if_pos hlt,hgd,hr]⟩
    have HM6:=Qab hm6
    have HF6:=Qab (HFW.out.trans hf6)
    clear hm6 hf6 hnn hr
    go_wp2_with fail
    refine ⟨⟨m',d+1,rfl,HM6.out,HF6.out,by omega,HFIN.out⟩,?_⟩
    simp [intOf]
    omega
   | error f=>
    rw [hr] at h6
    obtain ⟨bb,hbb,rfl,hF6⟩:=h6
    have hfw:Fr (PMc V.heap.size xb) w2 w6:=HFW.out.trans hf6
    have hWz:w.heap.size+3≤W.heap.size:=by have h1:=HFW.out.size;have h2:=HBV2.out.size;omega
    have hW6:W.heap.size≤w6.heap.size:=hf6.size
    have hP6:w6.heap[w.heap.size+1]?=some (.cells #[.slice none 0 0] 33):=hfw.block _ _ (Qal HP.out HBV2.out) (PMc.not (by decide) (by decide) (by decide) (by decide))
    have hQ6:w6.heap[w.heap.size+1+1]?=some (.cells #[.nilIface] 90):=hfw.block _ _ (Qal HQ.out HBV2.out) (PMc.not (by decide) (by decide) (by decide) (by decide))
    have hB6:Below w.heap.size w w6:=HB2.out.trans (hfw.below (B:=w.heap.size) (fun k o h=>by have:=h.1;omega) HB2.out.size)
    have HR:=Qab (Qq8 (v:=v) (f:=f) (d:=d+1) hlong (by
     rw [HLP.out]
     cases F with
     | zero=>omega
     | succ F=>rw [loopL,if_pos hlt,hgd,hr]))
    have x1:w6.cell? ⟨w.heap.size+1,0,none⟩=some (.slice none 0 0):=Qaa hP6 0
    have x2:w6.cell? ⟨w.heap.size+1+1,0,none⟩=some .nilIface:=Qaa hQ6 0
    have z1:=Qap hP6
    have z2:=Qap hQ6
    refine leaves_cons (f:=116) (args:=#[.pointer (some ⟨w.heap.size+1,0,none⟩),.pointer (some ⟨w.heap.size+1+1,0,none⟩)]) (by simp) (by simp [go_sem]) ?_
    refine (QeL (w.heap.size+1) (w.heap.size+1+1) _ _ ⟨bb,0,none⟩ [] _ x1 x2 z1 z2 (by omega)).mono ?_
    rintro e u' w'' ⟨rfl,rfl,lv,w7,hv7,hb7,rfl⟩
    obtain ⟨X,hX,y0,y1,hB,hA,hFF⟩:=QjG (f:=f) (bb:=bb) (P:=w.heap.size+1) hB6 (by omega) (by omega) hv7 hb7 (by omega) (by omega) (by omega) hF6 _ _ x1 x2
    rw [← hX]
    have HFIN:Hid (QpK (execL v code M) w (.returned (.tuple #[lv,.int .i64 ((d:Int)+1),.iface 140 (.pointer (some ⟨bb,0,none⟩))])) X):=by
     rw [HR.out]
     exact ⟨hB,Or.inr ⟨lv,f,_,rfl,rfl,hA,by omega,hFF⟩⟩
    obtain ⟨la,lk,hlv⟩:=QaL hA.1
    subst hlv
    simp [Leaves,settle,results,Tryz.results80,go_sem,y0,y1]
    exact HFIN.out
theorem Qtt (v:Bool) (cv hv:Value) (code:List Ins) (M:Msg) (w:World) (hc:Qfd w cv code) (hh:Qji w hv M.hdrs) (hb:SBd M (ss0 v)) (h1:1 < w.heap.size) (hm:∃ m,w.cell? ⟨1,0,none⟩=some (.int .i64 m)) (ht:Tab w) (hn:code.length≤1000000) :
 Calls Tryz.prog 80 #[.bool v,cv,Qf0 M hv] w (QpK (execL v code M) w):=by
 by_cases hl:400 < code.length
 ·exact Qse v cv hv code M w hc hh hb h1 hm ht hn hl
 ·exact Qps v cv hv code M w hc hh hb h1 hm ht hn hl
end
end Go.Proofs.YtbiclelojbfnbaaGreatDoor
