import Derived.Test.YtbiclelojbfnbabGreatDoorZMJump
import Derived.Test.YtbiclelojbfnbabGreatDoorZWTab
namespace Go.Proofs.YtbiclelojbfnbabGreatDoor
set_option linter.unusedVariables false
set_option linter.unusedSimpArgs false
set_option maxRecDepth 100000
set_option maxHeartbeats 4000000
section
open Go.RowKit
attribute [local go_sem ↓] Go.wp_at_zero Go.wp_at_succ
theorem Qub (W:World):(binOp .neq 295 .nilFunc .nilFunc).run Tryz.prog W=.ok (.bool false) W:=by kernel_rfl
theorem Qus (W:World) (f:Fn) (a b:Array Value):(binOp .neq 295 (.func f a b) .nilFunc).run Tryz.prog W=.ok (.bool true) W:=by kernel_rfl
theorem Qt6 (tag:Int) (oct:Bool) (w:World) :
 Calls Tryz.prog 183 #[.int .i64 tag,.bool oct] w fun e w'=>(∃ wv,e=.returned wv∧((1≤tag∧tag≤3∧WayV w' tag oct wv)∨(¬ (1≤tag∧tag≤3)∧wv=.nilFunc)))∧Below w.heap.size w w':=by
 cases oct
 ·exact Qs6 false _ rfl tag w
 ·exact Qs6 true _ rfl tag w
theorem MAt.pt {w:World} {B xb sb:Nat} {M:Msg} {m:MS} {count:Nat} (h:MAt w B xb sb M m count):w.cell? ⟨xb,0,none⟩=some (.pointer (some ⟨sb,0,none⟩)):=by
 obtain ⟨kv,h⟩:=h;exact Qab h.blk 0
theorem MAt.sat {w:World} {B xb sb:Nat} {M:Msg} {m:MS} {count:Nat} (h:MAt w B xb sb M m count):SAt w B sb M m.st:=by
 obtain ⟨kv,h⟩:=h;exact h.st
theorem MAt.st' {w w':World} {B xb sb:Nat} {M:Msg} {m:MS} {count:Nat} (h:MAt w B xb sb M m count) {s:SS} (hs:SAt w' B sb M s) (hf:Fr (PSt B) w w'):MAt w' B xb sb M (stL m s) count:=by
 obtain ⟨kv,h⟩:=h;exact ⟨kv,h.st' hs hf⟩
theorem Qmj (fn:FuncId) (vals:List (List UInt8)) (p:Nat) (i:Ins) (av bv:Value) (B xb sb:Nat) (M:Msg) (m:MS) (count:Nat) (w:World) (h:MAt w B xb sb M m count) (ho:Qb2 w i av bv) (hp:w.heap[p]?=some (.cells #[.func (.func fn) #[] #[]] 233)) (hcf:∀ args W,(callFunc fn args).run Tryz.prog W=.ok (.enter fn args) W) (hask:∀ wv av bv W,WayV W i.tag i.oct wv→SAt W B sb M m.st→Qb2 W i av bv→Calls Tryz.prog fn #[.pointer (some ⟨sb,0,none⟩),wv,av,bv] W fun e w'=>e=.returned (.bool (askL m.st i.tag i.oct vals i.b).1)∧SAt w' B sb M (askL m.st i.tag i.oct vals i.b).2∧Fr (PSt B) W w') :
 Calls Tryz.prog 182 #[.pointer (some ⟨xb,0,none⟩),Qdk i av bv,.pointer (some ⟨p,0,none⟩)] w (QaI (doAsk vals i m) B xb sb M count w):=by
 obtain ⟨aa,ac,hav⟩:=ho.a.len
 obtain ⟨ba,bc,hbv⟩:=ho.b.len
 subst hav hbv
 have HM:=Qaa h
 have HO:=Qaa ho
 have HP:=Qaa hp
 have hxl:xb < w.heap.size:=Qay h.now
 have hpl:=QaM hp
 have HR0:Hid (¬ (1≤i.tag∧i.tag≤3)→doAsk vals i m=.error (12,(m.now:Int))):=fun h=>by unfold doAsk QcN;rw [if_neg h]
 have HR:Hid ((1≤i.tag∧i.tag≤3)→doAsk vals i m=Qkv (askL m.st i.tag i.oct vals i.b).1 (stL m (askL m.st i.tag i.oct vals i.b).2)):=fun h=>by unfold doAsk Qoc;rw [if_pos h]
 have hnt:=Qub
 have hnf:=Qus
 clear h ho hp
 unfold Qdk
 go_enter Tryz.func182,Tryz.ntmps182
 go_wp2_with fail
 refine (Qt6 i.tag i.oct _).mono ?_
 rintro e w1 ⟨⟨wv,rfl,hcase⟩,hb1⟩
 have HB1:=Qaa (((Below.refl w.heap.size w).alloc (Nat.le_refl _) _).trans (hb1.mono (by simp)))
 have hbx:=Qaq (QaB w (.cells #[.int .i64 i.op,.int .i64 i.n,.int .i64 i.tag,.bool i.oct,.slice aa i.a.length ac,.slice ba i.b.length bc,.int .i64 i.at_] 147)) hb1
 rcases hcase with ⟨ht1,ht3,hw⟩ | ⟨ht,rfl⟩
 rotate_left
 ·have hnow:=(HM.out.below HB1.out).now
  have HT:=Qaa ht
  clear hb1 hbx ht
  go_wp2_with (go_at_call 139;refine (Qcm _ _ _ hnow).mono ?_;rintro e w' ⟨⟨bb,hz,rfl,hcc⟩,hb⟩)
  exact ⟨rfl,by rw [HR0.out HT.out];exact QaI.from (QaI.err rfl (Fr.of_below hb) ⟨bb,hz,rfl,hcc⟩) (Fr.of_below HB1.out)⟩
 have HR1:=Qaa (HR.out ⟨ht1,ht3⟩)
 have HW:=Qaa hw
 obtain ⟨F,fb,hfn⟩:=hw.fn
 subst hfn
 have p1:w1.cell? ⟨p,0,none⟩=some (.func (.func fn) #[] #[]):=Qab (Qaq HP.out HB1.out) 0
 have q4:w1.cell? ⟨w.heap.size,4,none⟩=some (.slice aa i.a.length ac):=Qab hbx 4
 have q5:w1.cell? ⟨w.heap.size,5,none⟩=some (.slice ba i.b.length bc):=Qab hbx 5
 have x0:=(HM.out.below HB1.out).pt
 have hpt1:=HM.out.below HB1.out
 obtain ⟨kv0,hMI0⟩:=hpt1
 have HKK:Hid (∀ W:World,Fr (PMc B xb) w1.drew W→W.cell? ⟨xb,0,none⟩=some (.pointer (some ⟨sb,0,none⟩))→W.cell? ⟨p,0,none⟩=some (.func (.func fn) #[] #[])∧W.cell? ⟨xb,0,none⟩=some (.pointer (some ⟨sb,0,none⟩))∧W.cell? ⟨w.heap.size,4,none⟩=some (.slice aa i.a.length ac)∧W.cell? ⟨w.heap.size,5,none⟩=some (.slice ba i.b.length bc)):=fun W hf hx=>by
  have h1:=hf.block p _ (Qaq HP.out (Qar HB1.out)) (PMc.not (by decide) (by decide) (by decide) (by decide))
  have h2:=hf.block w.heap.size _ (show w1.drew.heap[w.heap.size]?=_ from hbx) (PMc.not (by decide) (by decide) (by decide) (by decide))
  exact ⟨Qab h1 0,hx,Qab h2 4,Qab h2 5⟩
 clear hMI0
 have HAK:=Qaa (hask (.func (.func F) #[] fb) (.slice aa i.a.length ac) (.slice ba i.b.length bc) w1.drew (HW.out.below (Qar (Below.refl _ _))) ((HM.out.below (Qar HB1.out)).sat) (HO.out.below (Qar HB1.out)))
 generalize askL m.st i.tag i.oct vals i.b=r at *
 obtain ⟨rb,rs⟩:=r
 dsimp only at HR1 HAK
 clear hb1 hbx hw HR HR0 hask
 go_wp2_with (go_at_call 139;refine (QbF _ _).mono ?_;rintro e w' ⟨rfl,hww⟩;rw [hww];clear hww)
 refine wp_region_held (S:=fun w'=>w'.cell? ⟨p,0,none⟩=some (.func (.func fn) #[] #[])∧w'.cell? ⟨xb,0,none⟩=some (.pointer (some ⟨sb,0,none⟩))∧w'.cell? ⟨w.heap.size,4,none⟩=some (.slice aa i.a.length ac)∧w'.cell? ⟨w.heap.size,5,none⟩=some (.slice ba i.b.length bc)) (by kernel_rfl) ?_
 have hS:=HKK.out w1.drew (Fr.refl _ _) x0
 refine QaA 0 15 (.pointer (some ⟨xb,0,none⟩)) rfl hS (fun w' ⟨s1,s2,s3,s4⟩=>by go_simp) ?_
 simp only [pt,List.set_cons_zero,List.set_cons_succ]
 refine QaA 1 16 (.func (.func fn) #[] #[]) rfl hS (fun w' ⟨s1,s2,s3,s4⟩=>by go_simp) ?_
 simp only [pt,List.set_cons_zero,List.set_cons_succ]
 refine QaA 2 17 (.pointer (some ⟨xb,0,none⟩)) rfl hS (fun w' ⟨s1,s2,s3,s4⟩=>by go_simp) ?_
 simp only [pt,List.set_cons_zero,List.set_cons_succ]
 refine QaA 3 18 (.pointer (some ⟨xb,0,none⟩)) rfl hS (fun w' ⟨s1,s2,s3,s4⟩=>by go_simp) ?_
 simp only [pt,List.set_cons_zero,List.set_cons_succ]
 refine QaA 4 19 (.pointer (some ⟨xb,0,none⟩)) rfl hS (fun w' ⟨s1,s2,s3,s4⟩=>by go_simp) ?_
 simp only [pt,List.set_cons_zero,List.set_cons_succ]
 refine QaA 5 20 (.pointer (some ⟨sb,0,none⟩)) rfl hS (fun w' ⟨s1,s2,s3,s4⟩=>by go_simp) ?_
 simp only [pt,List.set_cons_zero,List.set_cons_succ]
 refine QaA 6 21 (.func (.func F) #[] fb) rfl hS (fun w' ⟨s1,s2,s3,s4⟩=>by go_simp) ?_
 simp only [pt,List.set_cons_zero,List.set_cons_succ]
 refine QaA 7 22 (.pointer (some ⟨w.heap.size,4,none⟩)) rfl hS (fun w' ⟨s1,s2,s3,s4⟩=>by go_simp) ?_
 simp only [pt,List.set_cons_zero,List.set_cons_succ]
 refine QaA 8 23 (.slice aa i.a.length ac) rfl hS (fun w' ⟨s1,s2,s3,s4⟩=>by go_simp) ?_
 simp only [pt,List.set_cons_zero,List.set_cons_succ]
 refine QaA 9 24 (.pointer (some ⟨w.heap.size,5,none⟩)) rfl hS (fun w' ⟨s1,s2,s3,s4⟩=>by go_simp) ?_
 simp only [pt,List.set_cons_zero,List.set_cons_succ]
 refine QaA 10 25 (.slice ba i.b.length bc) rfl hS (fun w' ⟨s1,s2,s3,s4⟩=>by go_simp) ?_
 simp only [pt,List.set_cons_zero,List.set_cons_succ]
 refine wpAnyH_all (rs:=[11]) (by kernel_rfl) (by decide) (fun j hj=>?_)
 simp only [List.mem_singleton] at hj
 subst hj
 refine QaG rfl (by rfl) ?_
 clear hS
 go_simp
 refine HAK.out.mono ?_
 rintro e w2 ⟨rfl,hs2,hf2⟩
 have HM2:=Qaa ((HM.out.below (Qar HB1.out)).st' hs2 hf2)
 have HF2:=Qaa hf2
 have HK2:=Qaa (HKK.out w2 (hf2.mono (fun _ _=>PMc.st)) HM2.out.pt)
 clear hs2 hf2
 refine ⟨HK2.out,?_⟩
 try simp only [Act.put,List.setIfInBounds_toArray,List.set_cons_zero,List.set_cons_succ]
 refine wpAnyH_all (rs:=[12]) (by kernel_rfl) (by decide) (fun j hj=>?_)
 simp only [List.mem_singleton] at hj
 subst hj
 refine QaG rfl (by rfl) ?_
 go_simp
 refine (Qfw rb B xb sb M (stL m rs) count w2 HM2.out).mono ?_
 intro e w3 h3
 rcases h3.cases with ⟨hf,⟨m',hr,rfl,hm⟩ | ⟨f,hr,bb,hz,rfl,hcc⟩⟩
 rotate_left
 ·exact ⟨rfl,by rw [HR1.out];exact QaI.from h3 ((Fr.of_below (Qar HB1.out)).trans (HF2.out.mono (fun _ _=>PMc.st)))⟩
 have H3:=Qaa h3
 have HK3:=Qaa (HKK.out w3 ((HF2.out.mono (fun _ _=>PMc.st)).trans hf) hm.pt)
 clear hm hf h3
 refine ⟨HK3.out,wpAnyH_done (by kernel_rfl) ?_ _⟩
 try simp only [Act.put,List.setIfInBounds_toArray,List.set_cons_zero,List.set_cons_succ]
 go_wp2
 go_end0
 rw [HR1.out]
 exact QaI.from H3.out ((Fr.of_below (Qar HB1.out)).trans (HF2.out.mono (fun _ _=>PMc.st)))
theorem QpJ (p:Nat) (i:Ins) (av bv:Value) (B xb sb:Nat) (M:Msg) (m:MS) (count:Nat) (w:World) (h:MAt w B xb sb M m count) (ho:Qb2 w i av bv) (hp:w.heap[p]?=some (.cells #[.func (.func 129) #[] #[]] 233)) :
 Calls Tryz.prog 182 #[.pointer (some ⟨xb,0,none⟩),Qdk i av bv,.pointer (some ⟨p,0,none⟩)] w (QaI (doAsk (fieldsL M (i.a.map (expL m.st))) i m) B xb sb M count w):=
 Qmj 129 (fieldsL M (i.a.map (expL m.st))) p i av bv B xb sb M m count w h ho hp (fun _ _=>by kernel_rfl) (fun wv av bv W hw hs hi=>Qo1 i.tag i.oct B sb M m.st i.a i.b wv av bv W hw hs hi.a hi.b hi.al hi.bl hi.an hi.bn)
theorem QlK (p:Nat) (i:Ins) (av bv:Value) (B xb sb:Nat) (M:Msg) (m:MS) (count:Nat) (w:World) (h:MAt w B xb sb M m count) (ho:Qb2 w i av bv) (hp:w.heap[p]?=some (.cells #[.func (.func 130) #[] #[]] 233)) :
 Calls Tryz.prog 182 #[.pointer (some ⟨xb,0,none⟩),Qdk i av bv,.pointer (some ⟨p,0,none⟩)] w (QaI (doAsk (QhE M i.a) i m) B xb sb M count w):=
 Qmj 130 (QhE M i.a) p i av bv B xb sb M m count w h ho hp (fun _ _=>by kernel_rfl) (fun wv av bv W hw hs hi=>Qlh i.tag i.oct B sb M m.st i.a i.b wv av bv W hw hs hi.a hi.b hi.al hi.bl hi.an hi.bn)
theorem Qnh (p:Nat) (i:Ins) (av bv:Value) (B xb sb:Nat) (M:Msg) (m:MS) (count:Nat) (w:World) (h:MAt w B xb sb M m count) (ho:Qb2 w i av bv) (hp:w.heap[p]?=some (.cells #[.func (.func 131) #[] #[]] 233)) :
 Calls Tryz.prog 182 #[.pointer (some ⟨xb,0,none⟩),Qdk i av bv,.pointer (some ⟨p,0,none⟩)] w (QaI (doAsk (i.a.map (expL m.st)) i m) B xb sb M count w):=
 Qmj 131 (i.a.map (expL m.st)) p i av bv B xb sb M m count w h ho hp (fun _ _=>by kernel_rfl) (fun wv av bv W hw hs hi=>Qmi i.tag i.oct B sb M m.st i.a i.b wv av bv W hw hs hi.a hi.b hi.al hi.bl hi.an hi.bn)
end
section
open Go.RowKit
attribute [local go_sem ↓] Go.wp_at_zero Go.wp_at_succ
theorem Qav {B xb sb:Nat} {M:Msg} {m:MS} {count:Nat} {w W:World} {cs:Array Value} (hm:MAt W B xb sb M m count) (hf:Fr (PMc B xb) (w.alloc (.cells cs 147)).drew W):W.cell? ⟨xb,0,none⟩=some (.pointer (some ⟨sb,0,none⟩))∧∀ j,W.cell? ⟨w.heap.size,j,none⟩=cs[j]?:=by
 have h2:=hf.block w.heap.size _ (show (w.alloc (.cells cs 147)).drew.heap[w.heap.size]?=_ from QaB _ _) (PMc.not (by decide) (by decide) (by decide) (by decide))
 exact ⟨hm.pt,fun j=>Qab h2 j⟩
theorem Qal {w:World} (o:Obj):Below w.heap.size w (w.alloc o).drew:=Qar ((Below.refl _ _).alloc (Nat.le_refl _) _)
theorem Qpm (i:Ins) (av bv:Value) (B xb sb:Nat) (M:Msg) (m:MS) (count:Nat) (w:World) (h:MAt w B xb sb M m count) (ho:Qb2 w i av bv) :
 Calls Tryz.prog 132 #[.pointer (some ⟨xb,0,none⟩),Qdk i av bv] w (QaI (Qkv (existsL M (i.a.map (expL m.st))) m) B xb sb M count w):=by
 obtain ⟨aa,ac,hav⟩:=ho.a.len
 obtain ⟨ba,bc,hbv⟩:=ho.b.len
 subst hav hbv
 have HM:=Qaa h
 have HO:=Qaa ho
 have hxl:xb < w.heap.size:=Qay h.now
 have hnow:=(h.box (.cells #[.int .i64 i.op,.int .i64 i.n,.int .i64 i.tag,.bool i.oct,.slice aa i.a.length ac,.slice ba i.b.length bc,.int .i64 i.at_] 147)).now
 have HMD:=Qaa (h.below (Qal (.cells #[.int .i64 i.op,.int .i64 i.n,.int .i64 i.tag,.bool i.oct,.slice aa i.a.length ac,.slice ba i.b.length bc,.int .i64 i.at_] 147)))
 have HOD:=Qaa (ho.below (Qal (.cells #[.int .i64 i.op,.int .i64 i.n,.int .i64 i.tag,.bool i.oct,.slice aa i.a.length ac,.slice ba i.b.length bc,.int .i64 i.at_] 147)))
 clear h ho
 unfold Qdk
 have HE:=Qaa (QmF B sb M m.st i.a (.slice aa i.a.length ac) (w.alloc (.cells #[.int .i64 i.op,.int .i64 i.n,.int .i64 i.tag,.bool i.oct,.slice aa i.a.length ac,.slice ba i.b.length bc,.int .i64 i.at_] 147)).drew HMD.out.sat HOD.out.a (fun z hz=>Nat.le_trans (HO.out.al z hz) (by decide)) HO.out.an)
 generalize existsL M (i.a.map (expL m.st))=rb at *
 go_enter Tryz.func132,Tryz.ntmps132
 go_wp2_with fail
 refine wp_region_held (S:=fun w'=>w'.cell? ⟨xb,0,none⟩=some (.pointer (some ⟨sb,0,none⟩))∧w'.cell? ⟨w.heap.size,4,none⟩=some (.slice aa i.a.length ac)) (by kernel_rfl) ?_
 have hS:(w.alloc (.cells #[.int .i64 i.op,.int .i64 i.n,.int .i64 i.tag,.bool i.oct,.slice aa i.a.length ac,.slice ba i.b.length bc,.int .i64 i.at_] 147)).drew.cell? ⟨xb,0,none⟩=some (.pointer (some ⟨sb,0,none⟩))∧(w.alloc (.cells #[.int .i64 i.op,.int .i64 i.n,.int .i64 i.tag,.bool i.oct,.slice aa i.a.length ac,.slice ba i.b.length bc,.int .i64 i.at_] 147)).drew.cell? ⟨w.heap.size,4,none⟩=some (.slice aa i.a.length ac):=⟨(Qav HMD.out (Fr.refl _ _)).1,(Qav HMD.out (Fr.refl _ _)).2 4⟩
 refine QaA 0 4 (.pointer (some ⟨xb,0,none⟩)) rfl hS (fun w' ⟨s1,s2⟩=>by go_simp) ?_
 simp only [pt,List.set_cons_zero,List.set_cons_succ]
 refine QaA 1 5 (.pointer (some ⟨xb,0,none⟩)) rfl hS (fun w' ⟨s1,s2⟩=>by go_simp) ?_
 simp only [pt,List.set_cons_zero,List.set_cons_succ]
 refine QaA 2 6 (.pointer (some ⟨xb,0,none⟩)) rfl hS (fun w' ⟨s1,s2⟩=>by go_simp) ?_
 simp only [pt,List.set_cons_zero,List.set_cons_succ]
 refine QaA 3 7 (.pointer (some ⟨xb,0,none⟩)) rfl hS (fun w' ⟨s1,s2⟩=>by go_simp) ?_
 simp only [pt,List.set_cons_zero,List.set_cons_succ]
 refine QaA 4 8 (.pointer (some ⟨sb,0,none⟩)) rfl hS (fun w' ⟨s1,s2⟩=>by go_simp) ?_
 simp only [pt,List.set_cons_zero,List.set_cons_succ]
 refine QaA 5 9 (.pointer (some ⟨w.heap.size,4,none⟩)) rfl hS (fun w' ⟨s1,s2⟩=>by go_simp) ?_
 simp only [pt,List.set_cons_zero,List.set_cons_succ]
 refine QaA 6 10 (.slice aa i.a.length ac) rfl hS (fun w' ⟨s1,s2⟩=>by go_simp) ?_
 simp only [pt,List.set_cons_zero,List.set_cons_succ]
 clear hS
 refine wpAnyH_all (rs:=[7]) (by kernel_rfl) (by decide) (fun j hj=>?_)
 simp only [List.mem_singleton] at hj
 subst hj
 refine QaG rfl (by rfl) ?_
 go_simp
 refine HE.out.mono ?_
 rintro e w2 ⟨rfl,hb2⟩
 have HM2:=Qaa (HMD.out.below hb2)
 have HF2:Hid (Fr (PMc B xb) (w.alloc (.cells #[.int .i64 i.op,.int .i64 i.n,.int .i64 i.tag,.bool i.oct,.slice aa i.a.length ac,.slice ba i.b.length bc,.int .i64 i.at_] 147)).drew w2):=Fr.of_below hb2
 clear hb2
 refine ⟨⟨(Qav HM2.out HF2.out).1,(Qav HM2.out HF2.out).2 4⟩,?_⟩
 try simp only [Act.put,List.setIfInBounds_toArray,List.set_cons_zero,List.set_cons_succ]
 refine wpAnyH_all (rs:=[8]) (by kernel_rfl) (by decide) (fun j hj=>?_)
 simp only [List.mem_singleton] at hj
 subst hj
 refine QaG rfl (by rfl) ?_
 go_simp
 refine (Qfw rb B xb sb M m count w2 HM2.out).mono ?_
 intro e w3 h3
 rcases h3.cases with ⟨hf,⟨m',hr,rfl,hm⟩ | ⟨f,hr,bb,hz,rfl,hcc⟩⟩
 rotate_left
 ·exact ⟨rfl,QaI.from h3 ((Fr.of_below (Qal _)).trans HF2.out)⟩
 have H3:=Qaa h3
 have HK3:=Qaa (Qav hm (HF2.out.trans hf))
 clear hm hf h3
 refine ⟨⟨(HK3.out).1,(HK3.out).2 4⟩,wpAnyH_done (by kernel_rfl) ?_ _⟩
 try simp only [Act.put,List.setIfInBounds_toArray,List.set_cons_zero,List.set_cons_succ]
 go_wp2
 go_end0
 exact QaI.from H3.out ((Fr.of_below (Qal _)).trans HF2.out)
theorem Qsv (i:Ins) (av bv:Value) (B xb sb:Nat) (M:Msg) (m:MS) (count:Nat) (w:World) (h:MAt w B xb sb M m count) (ho:Qb2 w i av bv) :
 Calls Tryz.prog 133 #[.pointer (some ⟨xb,0,none⟩),Qdk i av bv] w (QaI (QfK M i m) B xb sb M count w):=by
 obtain ⟨aa,ac,hav⟩:=ho.a.len
 obtain ⟨ba,bc,hbv⟩:=ho.b.len
 subst hav hbv
 have HM:=Qaa h
 have HO:=Qaa ho
 have hxl:xb < w.heap.size:=Qay h.now
 have hnow:=(h.box (.cells #[.int .i64 i.op,.int .i64 i.n,.int .i64 i.tag,.bool i.oct,.slice aa i.a.length ac,.slice ba i.b.length bc,.int .i64 i.at_] 147)).now
 have HMD:=Qaa (h.below (Qal (.cells #[.int .i64 i.op,.int .i64 i.n,.int .i64 i.tag,.bool i.oct,.slice aa i.a.length ac,.slice ba i.b.length bc,.int .i64 i.at_] 147)))
 have HOD:=Qaa (ho.below (Qal (.cells #[.int .i64 i.op,.int .i64 i.n,.int .i64 i.tag,.bool i.oct,.slice aa i.a.length ac,.slice ba i.b.length bc,.int .i64 i.at_] 147)))
 clear h ho
 unfold Qdk
 have e1:=QeE i.tag 1
 have e2:=QeE i.tag 2
 by_cases ht:i.tag=1∨i.tag=2
 rotate_left
 ·have HR:Hid (QfK M i m=.error (12,(m.now:Int))):=by show _=_;unfold QfK QcN;rw [if_neg ht]
  rw [decide_eq_false (by omega)] at e1 e2
  clear ht
  go_enter Tryz.func133,Tryz.ntmps133
  go_wp2_with (go_at_call 139;refine (Qcm _ _ _ hnow).mono ?_;rintro e w' ⟨⟨bb,hz,rfl,hcc⟩,hb⟩)
  exact ⟨rfl,by rw [HR.out];exact QaI.from (QaI.err rfl (Fr.of_below hb) ⟨bb,hz,rfl,hcc⟩) (QcT _ _)⟩
 have HR:Hid (QfK M i m=Qkv (sizeB M i.tag i.n) m):=by show _=_;unfold QfK;rw [if_pos ht]
 have hpk:(decide (i.tag=1) || decide (i.tag=2))=true:=by simpa using ht
 have HZ:=Qaa (Qtj B sb M m.st i.tag i.n (w.alloc (.cells #[.int .i64 i.op,.int .i64 i.n,.int .i64 i.tag,.bool i.oct,.slice aa i.a.length ac,.slice ba i.b.length bc,.int .i64 i.at_] 147)).drew HMD.out.sat)
 generalize sizeB M i.tag i.n=rb at *
 clear ht
 generalize decide (i.tag=1)=b1 at *
 generalize decide (i.tag=2)=b2 at *
 cases b1
 ·cases b2
  ·cases hpk
  go_enter Tryz.func133,Tryz.ntmps133
  go_wp2_with (go_at_call 139;refine (QbF _ _).mono ?_;rintro e w' ⟨rfl,hww⟩;rw [hww];clear hww)
  refine wp_region_held (S:=fun w'=>w'.cell? ⟨xb,0,none⟩=some (.pointer (some ⟨sb,0,none⟩))∧w'.cell? ⟨w.heap.size,2,none⟩=some (.int .i64 i.tag)∧w'.cell? ⟨w.heap.size,1,none⟩=some (.int .i64 i.n)) (by kernel_rfl) ?_
  have hS:(w.alloc (.cells #[.int .i64 i.op,.int .i64 i.n,.int .i64 i.tag,.bool i.oct,.slice aa i.a.length ac,.slice ba i.b.length bc,.int .i64 i.at_] 147)).drew.cell? ⟨xb,0,none⟩=some (.pointer (some ⟨sb,0,none⟩))∧(w.alloc (.cells #[.int .i64 i.op,.int .i64 i.n,.int .i64 i.tag,.bool i.oct,.slice aa i.a.length ac,.slice ba i.b.length bc,.int .i64 i.at_] 147)).drew.cell? ⟨w.heap.size,2,none⟩=some (.int .i64 i.tag)∧(w.alloc (.cells #[.int .i64 i.op,.int .i64 i.n,.int .i64 i.tag,.bool i.oct,.slice aa i.a.length ac,.slice ba i.b.length bc,.int .i64 i.at_] 147)).drew.cell? ⟨w.heap.size,1,none⟩=some (.int .i64 i.n):=⟨(Qav HMD.out (Fr.refl _ _)).1,(Qav HMD.out (Fr.refl _ _)).2 2,(Qav HMD.out (Fr.refl _ _)).2 1⟩
  refine QaA 0 14 (.pointer (some ⟨xb,0,none⟩)) rfl hS (fun w' ⟨s1,s2,s3⟩=>by go_simp) ?_
  simp only [pt,List.set_cons_zero,List.set_cons_succ]
  refine QaA 1 15 (.pointer (some ⟨xb,0,none⟩)) rfl hS (fun w' ⟨s1,s2,s3⟩=>by go_simp) ?_
  simp only [pt,List.set_cons_zero,List.set_cons_succ]
  refine QaA 2 16 (.pointer (some ⟨xb,0,none⟩)) rfl hS (fun w' ⟨s1,s2,s3⟩=>by go_simp) ?_
  simp only [pt,List.set_cons_zero,List.set_cons_succ]
  refine QaA 3 17 (.pointer (some ⟨xb,0,none⟩)) rfl hS (fun w' ⟨s1,s2,s3⟩=>by go_simp) ?_
  simp only [pt,List.set_cons_zero,List.set_cons_succ]
  refine QaA 4 18 (.pointer (some ⟨sb,0,none⟩)) rfl hS (fun w' ⟨s1,s2,s3⟩=>by go_simp) ?_
  simp only [pt,List.set_cons_zero,List.set_cons_succ]
  refine QaA 5 19 (.pointer (some ⟨w.heap.size,2,none⟩)) rfl hS (fun w' ⟨s1,s2,s3⟩=>by go_simp) ?_
  simp only [pt,List.set_cons_zero,List.set_cons_succ]
  refine QaA 6 20 (.int .i64 i.tag) rfl hS (fun w' ⟨s1,s2,s3⟩=>by go_simp) ?_
  simp only [pt,List.set_cons_zero,List.set_cons_succ]
  refine QaA 7 21 (.pointer (some ⟨w.heap.size,1,none⟩)) rfl hS (fun w' ⟨s1,s2,s3⟩=>by go_simp) ?_
  simp only [pt,List.set_cons_zero,List.set_cons_succ]
  refine QaA 8 22 (.int .i64 i.n) rfl hS (fun w' ⟨s1,s2,s3⟩=>by go_simp) ?_
  simp only [pt,List.set_cons_zero,List.set_cons_succ]
  clear hS
  refine wpAnyH_all (rs:=[9]) (by kernel_rfl) (by decide) (fun j hj=>?_)
  simp only [List.mem_singleton] at hj
  subst hj
  refine QaG rfl (by rfl) ?_
  go_simp
  refine HZ.out.mono ?_
  rintro e w2 ⟨rfl,rfl⟩
  refine ⟨⟨(Qav HMD.out (Fr.refl _ _)).1,(Qav HMD.out (Fr.refl _ _)).2 2,(Qav HMD.out (Fr.refl _ _)).2 1⟩,?_⟩
  try simp only [Act.put,List.setIfInBounds_toArray,List.set_cons_zero,List.set_cons_succ]
  refine wpAnyH_all (rs:=[10]) (by kernel_rfl) (by decide) (fun j hj=>?_)
  simp only [List.mem_singleton] at hj
  subst hj
  refine QaG rfl (by rfl) ?_
  go_simp
  refine (Qfw rb B xb sb M m count _ HMD.out).mono ?_
  intro e w3 h3
  rcases h3.cases with ⟨hf,⟨m',hr,rfl,hm⟩ | ⟨f,hr,bb,hz,rfl,hcc⟩⟩
  rotate_left
  ·exact ⟨rfl,by rw [HR.out];exact QaI.from h3 (Fr.of_below (Qal _))⟩
  have H3:=Qaa h3
  have HK3:=Qaa (Qav hm hf)
  clear hm hf h3
  refine ⟨⟨(HK3.out).1,(HK3.out).2 2,(HK3.out).2 1⟩,wpAnyH_done (by kernel_rfl) ?_ _⟩
  try simp only [Act.put,List.setIfInBounds_toArray,List.set_cons_zero,List.set_cons_succ]
  go_wp2
  go_end0
  rw [HR.out]
  exact QaI.from H3.out (Fr.of_below (Qal _))
 ·go_enter Tryz.func133,Tryz.ntmps133
  go_wp2_with (go_at_call 139;refine (QbF _ _).mono ?_;rintro e w' ⟨rfl,hww⟩;rw [hww];clear hww)
  refine wp_region_held (S:=fun w'=>w'.cell? ⟨xb,0,none⟩=some (.pointer (some ⟨sb,0,none⟩))∧w'.cell? ⟨w.heap.size,2,none⟩=some (.int .i64 i.tag)∧w'.cell? ⟨w.heap.size,1,none⟩=some (.int .i64 i.n)) (by kernel_rfl) ?_
  have hS:(w.alloc (.cells #[.int .i64 i.op,.int .i64 i.n,.int .i64 i.tag,.bool i.oct,.slice aa i.a.length ac,.slice ba i.b.length bc,.int .i64 i.at_] 147)).drew.cell? ⟨xb,0,none⟩=some (.pointer (some ⟨sb,0,none⟩))∧(w.alloc (.cells #[.int .i64 i.op,.int .i64 i.n,.int .i64 i.tag,.bool i.oct,.slice aa i.a.length ac,.slice ba i.b.length bc,.int .i64 i.at_] 147)).drew.cell? ⟨w.heap.size,2,none⟩=some (.int .i64 i.tag)∧(w.alloc (.cells #[.int .i64 i.op,.int .i64 i.n,.int .i64 i.tag,.bool i.oct,.slice aa i.a.length ac,.slice ba i.b.length bc,.int .i64 i.at_] 147)).drew.cell? ⟨w.heap.size,1,none⟩=some (.int .i64 i.n):=⟨(Qav HMD.out (Fr.refl _ _)).1,(Qav HMD.out (Fr.refl _ _)).2 2,(Qav HMD.out (Fr.refl _ _)).2 1⟩
  refine QaA 0 14 (.pointer (some ⟨xb,0,none⟩)) rfl hS (fun w' ⟨s1,s2,s3⟩=>by go_simp) ?_
  simp only [pt,List.set_cons_zero,List.set_cons_succ]
  refine QaA 1 15 (.pointer (some ⟨xb,0,none⟩)) rfl hS (fun w' ⟨s1,s2,s3⟩=>by go_simp) ?_
  simp only [pt,List.set_cons_zero,List.set_cons_succ]
  refine QaA 2 16 (.pointer (some ⟨xb,0,none⟩)) rfl hS (fun w' ⟨s1,s2,s3⟩=>by go_simp) ?_
  simp only [pt,List.set_cons_zero,List.set_cons_succ]
  refine QaA 3 17 (.pointer (some ⟨xb,0,none⟩)) rfl hS (fun w' ⟨s1,s2,s3⟩=>by go_simp) ?_
  simp only [pt,List.set_cons_zero,List.set_cons_succ]
  refine QaA 4 18 (.pointer (some ⟨sb,0,none⟩)) rfl hS (fun w' ⟨s1,s2,s3⟩=>by go_simp) ?_
  simp only [pt,List.set_cons_zero,List.set_cons_succ]
  refine QaA 5 19 (.pointer (some ⟨w.heap.size,2,none⟩)) rfl hS (fun w' ⟨s1,s2,s3⟩=>by go_simp) ?_
  simp only [pt,List.set_cons_zero,List.set_cons_succ]
  refine QaA 6 20 (.int .i64 i.tag) rfl hS (fun w' ⟨s1,s2,s3⟩=>by go_simp) ?_
  simp only [pt,List.set_cons_zero,List.set_cons_succ]
  refine QaA 7 21 (.pointer (some ⟨w.heap.size,1,none⟩)) rfl hS (fun w' ⟨s1,s2,s3⟩=>by go_simp) ?_
  simp only [pt,List.set_cons_zero,List.set_cons_succ]
  refine QaA 8 22 (.int .i64 i.n) rfl hS (fun w' ⟨s1,s2,s3⟩=>by go_simp) ?_
  simp only [pt,List.set_cons_zero,List.set_cons_succ]
  clear hS
  refine wpAnyH_all (rs:=[9]) (by kernel_rfl) (by decide) (fun j hj=>?_)
  simp only [List.mem_singleton] at hj
  subst hj
  refine QaG rfl (by rfl) ?_
  go_simp
  refine HZ.out.mono ?_
  rintro e w2 ⟨rfl,rfl⟩
  refine ⟨⟨(Qav HMD.out (Fr.refl _ _)).1,(Qav HMD.out (Fr.refl _ _)).2 2,(Qav HMD.out (Fr.refl _ _)).2 1⟩,?_⟩
  try simp only [Act.put,List.setIfInBounds_toArray,List.set_cons_zero,List.set_cons_succ]
  refine wpAnyH_all (rs:=[10]) (by kernel_rfl) (by decide) (fun j hj=>?_)
  simp only [List.mem_singleton] at hj
  subst hj
  refine QaG rfl (by rfl) ?_
  go_simp
  refine (Qfw rb B xb sb M m count _ HMD.out).mono ?_
  intro e w3 h3
  rcases h3.cases with ⟨hf,⟨m',hr,rfl,hm⟩ | ⟨f,hr,bb,hz,rfl,hcc⟩⟩
  rotate_left
  ·exact ⟨rfl,by rw [HR.out];exact QaI.from h3 (Fr.of_below (Qal _))⟩
  have H3:=Qaa h3
  have HK3:=Qaa (Qav hm hf)
  clear hm hf h3
  refine ⟨⟨(HK3.out).1,(HK3.out).2 2,(HK3.out).2 1⟩,wpAnyH_done (by kernel_rfl) ?_ _⟩
  try simp only [Act.put,List.setIfInBounds_toArray,List.set_cons_zero,List.set_cons_succ]
  go_wp2
  go_end0
  rw [HR.out]
  exact QaI.from H3.out (Fr.of_below (Qal _))
theorem Qm9 (i:Ins) (av bv:Value) (B xb sb:Nat) (M:Msg) (m:MS) (count:Nat) (w:World) (h:MAt w B xb sb M m count) (ho:Qb2 w i av bv) :
 Calls Tryz.prog 136 #[.pointer (some ⟨xb,0,none⟩),Qdk i av bv] w (QaI (.ok (stL m (Qr4 m.st))) B xb sb M count w):=by
 obtain ⟨aa,ac,hav⟩:=ho.a.len
 obtain ⟨ba,bc,hbv⟩:=ho.b.len
 subst hav hbv
 have HM:=Qaa h
 have HO:=Qaa ho
 have hxl:xb < w.heap.size:=Qay h.now
 have hnow:=(h.box (.cells #[.int .i64 i.op,.int .i64 i.n,.int .i64 i.tag,.bool i.oct,.slice aa i.a.length ac,.slice ba i.b.length bc,.int .i64 i.at_] 147)).now
 have HMD:=Qaa (h.below (Qal (.cells #[.int .i64 i.op,.int .i64 i.n,.int .i64 i.tag,.bool i.oct,.slice aa i.a.length ac,.slice ba i.b.length bc,.int .i64 i.at_] 147)))
 have HOD:=Qaa (ho.below (Qal (.cells #[.int .i64 i.op,.int .i64 i.n,.int .i64 i.tag,.bool i.oct,.slice aa i.a.length ac,.slice ba i.b.length bc,.int .i64 i.at_] 147)))
 clear h ho
 unfold Qdk
 have x0:=(HM.out.box (.cells #[.int .i64 i.op,.int .i64 i.n,.int .i64 i.tag,.bool i.oct,.slice aa i.a.length ac,.slice ba i.b.length bc,.int .i64 i.at_] 147)).pt
 go_enter Tryz.func136,Tryz.ntmps136
 go_wp2_with fail
 refine (Qpk B sb M m.st _ (HM.out.box _).sat).mono ?_
 rintro e w2 ⟨hf2,rfl,hs2⟩
 have HF2:=Qaa hf2
 have HM2:=Qaa ((HM.out.box _).st' hs2 hf2)
 clear hf2 hs2
 go_wp2
 go_end0
 exact QaI.ok rfl ((QcT _ _).trans (HF2.out.mono (fun _ _=>PMc.st))) HM2.out
theorem Qr0 (i:Ins) (av bv:Value) (B xb sb:Nat) (M:Msg) (m:MS) (count:Nat) (w:World) (h:MAt w B xb sb M m count) (ho:Qb2 w i av bv) :
 Calls Tryz.prog 138 #[.pointer (some ⟨xb,0,none⟩),Qdk i av bv] w (QaI (.ok (goL m count)) B xb sb M count w):=by
 obtain ⟨aa,ac,hav⟩:=ho.a.len
 obtain ⟨ba,bc,hbv⟩:=ho.b.len
 subst hav hbv
 have HM:=Qaa h
 have HO:=Qaa ho
 have hxl:xb < w.heap.size:=Qay h.now
 have hnow:=(h.box (.cells #[.int .i64 i.op,.int .i64 i.n,.int .i64 i.tag,.bool i.oct,.slice aa i.a.length ac,.slice ba i.b.length bc,.int .i64 i.at_] 147)).now
 have HMD:=Qaa (h.below (Qal (.cells #[.int .i64 i.op,.int .i64 i.n,.int .i64 i.tag,.bool i.oct,.slice aa i.a.length ac,.slice ba i.b.length bc,.int .i64 i.at_] 147)))
 have HOD:=Qaa (ho.below (Qal (.cells #[.int .i64 i.op,.int .i64 i.n,.int .i64 i.tag,.bool i.oct,.slice aa i.a.length ac,.slice ba i.b.length bc,.int .i64 i.at_] 147)))
 clear h ho
 unfold Qdk
 obtain ⟨kv,hMI⟩:=HM.out
 have c3:=Qab hMI.blk 3
 have c4:=Qab hMI.blk 4
 have f3:=Qam hMI.blk
 unfold Qeg at c3 c4
 have HG:=Qaa (hMI.go count (Nat.le_refl _))
 clear hMI
 go_enter Tryz.func138,Tryz.ntmps138
 go_wp2
 go_end0
 exact QaI.ok rfl (HG.out.2.alloc _) (HG.out.1.box _)
end
section
open Go.RowKit
attribute [local go_sem ↓] Go.wp_at_zero Go.wp_at_succ
theorem Qqw (i:Ins) (m:MS) (arg:List UInt8):Qp5 i m arg=(Qt0 m.st i.tag arg i.at_).map (stL m):=by
 unfold Qp5 Qt0
 split <;> rfl
theorem QlF.cases {r:Except FZ SS} {B sb:Nat} {M:Msg} {w w':World} {e:Ending} (h:QlF r B sb M w e w'):Fr (PSt B) w w'∧((∃ s,r=.ok s∧e=.returned (.tuple #[])∧SAt w' B sb M s)∨∃ f,r=.error f∧QdT f w e w'):=by
 obtain ⟨hf,h⟩:=h
 cases r with
 | ok s=>exact ⟨hf,Or.inl ⟨s,rfl,h⟩⟩
 | error f=>exact ⟨hf,Or.inr ⟨f,rfl,h⟩⟩
theorem Qtf (i:Ins) (av bv:Value) (B xb sb:Nat) (M:Msg) (m:MS) (count:Nat) (w:World) (h:MAt w B xb sb M m count) (ho:Qb2 w i av bv) :
 Calls Tryz.prog 134 #[.pointer (some ⟨xb,0,none⟩),Qdk i av bv] w (QaI (Qfx i m) B xb sb M count w):=by
 obtain ⟨aa,ac,hav⟩:=ho.a.len
 obtain ⟨ba,bc,hbv⟩:=ho.b.len
 subst hav hbv
 have HM:=Qaa h
 have HO:=Qaa ho
 have hxl:xb < w.heap.size:=Qay h.now
 have hnow:=(h.box (.cells #[.int .i64 i.op,.int .i64 i.n,.int .i64 i.tag,.bool i.oct,.slice aa i.a.length ac,.slice ba i.b.length bc,.int .i64 i.at_] 147)).now
 have HMD:=Qaa (h.below (Qal (.cells #[.int .i64 i.op,.int .i64 i.n,.int .i64 i.tag,.bool i.oct,.slice aa i.a.length ac,.slice ba i.b.length bc,.int .i64 i.at_] 147)))
 have HOD:=Qaa (ho.below (Qal (.cells #[.int .i64 i.op,.int .i64 i.n,.int .i64 i.tag,.bool i.oct,.slice aa i.a.length ac,.slice ba i.b.length bc,.int .i64 i.at_] 147)))
 clear h ho
 unfold Qdk
 have e1:=QeE i.tag 1
 have e2:=QeE i.tag 2
 have e3:=QeE i.tag 3
 have e4:=QeE i.tag 4
 by_cases t1:i.tag=1
 ·have HR:Hid (Qfx i m=(Qt0 m.st i.tag [] i.at_).map (stL m)):=by show _=_;unfold Qfx;rw [if_pos t1,Qqw]
  rw [decide_eq_true t1] at e1
  have HAC:=Qaa (QsU B sb M m.st i.tag i.at_ [] (w.alloc (.cells #[.int .i64 i.op,.int .i64 i.n,.int .i64 i.tag,.bool i.oct,.slice aa i.a.length ac,.slice ba i.b.length bc,.int .i64 i.at_] 147)).drew HMD.out.sat (by decide))
  clear t1
  go_enter Tryz.func134,Tryz.ntmps134
  go_wp2_with fail
  refine wp_region_held (S:=fun w'=>w'.cell? ⟨xb,0,none⟩=some (.pointer (some ⟨sb,0,none⟩))∧w'.cell? ⟨w.heap.size,2,none⟩=some (.int .i64 i.tag)∧w'.cell? ⟨w.heap.size,6,none⟩=some (.int .i64 i.at_)) (by kernel_rfl) ?_
  have hS:(w.alloc (.cells #[.int .i64 i.op,.int .i64 i.n,.int .i64 i.tag,.bool i.oct,.slice aa i.a.length ac,.slice ba i.b.length bc,.int .i64 i.at_] 147)).drew.cell? ⟨xb,0,none⟩=some (.pointer (some ⟨sb,0,none⟩))∧(w.alloc (.cells #[.int .i64 i.op,.int .i64 i.n,.int .i64 i.tag,.bool i.oct,.slice aa i.a.length ac,.slice ba i.b.length bc,.int .i64 i.at_] 147)).drew.cell? ⟨w.heap.size,2,none⟩=some (.int .i64 i.tag)∧(w.alloc (.cells #[.int .i64 i.op,.int .i64 i.n,.int .i64 i.tag,.bool i.oct,.slice aa i.a.length ac,.slice ba i.b.length bc,.int .i64 i.at_] 147)).drew.cell? ⟨w.heap.size,6,none⟩=some (.int .i64 i.at_):=⟨(Qav HMD.out (Fr.refl _ _)).1,(Qav HMD.out (Fr.refl _ _)).2 2,(Qav HMD.out (Fr.refl _ _)).2 6⟩
  refine QaA 0 10 (.pointer (some ⟨xb,0,none⟩)) rfl hS (fun w' ⟨s1,s2,s3⟩=>by go_simp) ?_
  simp only [pt,List.set_cons_zero,List.set_cons_succ]
  refine QaA 1 11 (.pointer (some ⟨xb,0,none⟩)) rfl hS (fun w' ⟨s1,s2,s3⟩=>by go_simp) ?_
  simp only [pt,List.set_cons_zero,List.set_cons_succ]
  refine QaA 2 12 (.pointer (some ⟨xb,0,none⟩)) rfl hS (fun w' ⟨s1,s2,s3⟩=>by go_simp) ?_
  simp only [pt,List.set_cons_zero,List.set_cons_succ]
  refine QaA 3 13 (.pointer (some ⟨sb,0,none⟩)) rfl hS (fun w' ⟨s1,s2,s3⟩=>by go_simp) ?_
  simp only [pt,List.set_cons_zero,List.set_cons_succ]
  refine QaA 4 14 (.pointer (some ⟨w.heap.size,2,none⟩)) rfl hS (fun w' ⟨s1,s2,s3⟩=>by go_simp) ?_
  simp only [pt,List.set_cons_zero,List.set_cons_succ]
  refine QaA 5 15 (.int .i64 i.tag) rfl hS (fun w' ⟨s1,s2,s3⟩=>by go_simp) ?_
  simp only [pt,List.set_cons_zero,List.set_cons_succ]
  refine QaA 6 16 (.pointer (some ⟨w.heap.size,6,none⟩)) rfl hS (fun w' ⟨s1,s2,s3⟩=>by go_simp) ?_
  simp only [pt,List.set_cons_zero,List.set_cons_succ]
  refine QaA 7 17 (.int .i64 i.at_) rfl hS (fun w' ⟨s1,s2,s3⟩=>by go_simp) ?_
  simp only [pt,List.set_cons_zero,List.set_cons_succ]
  clear hS
  refine wpAnyH_all (rs:=[8]) (by kernel_rfl) (by decide) (fun j hj=>?_)
  simp only [List.mem_singleton] at hj
  subst hj
  refine QaG rfl (by rfl) ?_
  go_simp
  refine HAC.out.mono ?_
  intro e w2 h2
  rcases h2.cases with ⟨hf,⟨s',hr,rfl,hs⟩ | ⟨f,hr,bb,hz,rfl,hcc⟩⟩
  rotate_left
  ·exact ⟨rfl,by rw [HR.out,hr];exact QaI.from (QaI.err rfl (hf.mono (fun _ _=>PMc.st)) ⟨bb,hz,rfl,hcc⟩) (Fr.of_below (Qal _))⟩
  have HM2:=Qaa (HMD.out.st' hs hf)
  have HF2:=Qaa (hf.mono (fun _ _=>PMc.st (xb:=xb)))
  have HRR:=Qaa hr
  have HK2:=Qaa (Qav HM2.out HF2.out)
  clear hs hf h2 hr
  refine ⟨⟨(HK2.out).1,(HK2.out).2 2,(HK2.out).2 6⟩,wpAnyH_done (by kernel_rfl) ?_ _⟩
  try simp only [Act.put,List.setIfInBounds_toArray,List.set_cons_zero,List.set_cons_succ]
  go_wp2
  go_end0
  rw [HR.out,HRR.out]
  exact QaI.from (QaI.ok rfl HF2.out HM2.out) (Fr.of_below (Qal _))
 rw [decide_eq_false t1] at e1
 by_cases t24:2≤i.tag∧i.tag≤4
 rotate_left
 ·have HR:Hid (Qfx i m=.error (12,(m.now:Int))):=by show _=_;unfold Qfx QcN;rw [if_neg t1,if_neg (fun h=>t24 ⟨h.1,h.2.1⟩)]
  rw [decide_eq_false (by omega)] at e2 e3 e4
  clear t1 t24
  go_enter Tryz.func134,Tryz.ntmps134
  go_wp2_with (go_at_call 139;refine (Qcm _ _ _ hnow).mono ?_;rintro e w' ⟨⟨bb,hz,rfl,hcc⟩,hb⟩)
  exact ⟨rfl,by rw [HR.out];exact QaI.from (QaI.err rfl (Fr.of_below hb) ⟨bb,hz,rfl,hcc⟩) (QcT _ _)⟩
 by_cases ha:i.a=[]
 ·have HR:Hid (Qfx i m=.error (12,(m.now:Int))):=by show _=_;unfold Qfx QcN;rw [if_neg t1,if_neg (fun h=>h.2.2 ha)]
  have hz0:¬ (0:Int) < (i.a.length:Int):=by rw [ha];simp
  have hz1:¬ 0 < i.a.length:=by rw [ha];simp
  have hz2:decide (0 < i.a.length)=false:=decide_eq_false hz1
  rcases (by omega:i.tag=2∨i.tag=3∨i.tag=4) with tt | tt | tt
  ·rw [decide_eq_true tt] at e2
   rw [decide_eq_false (by omega)] at e3 e4
   clear t1 t24 tt ha
   go_enter Tryz.func134,Tryz.ntmps134
   go_wp2_with (go_at_call 139;refine (Qcm _ _ _ hnow).mono ?_;rintro e w' ⟨⟨bb,hz,rfl,hcc⟩,hb⟩)
   exact ⟨rfl,by rw [HR.out];exact QaI.from (QaI.err rfl (Fr.of_below hb) ⟨bb,hz,rfl,hcc⟩) (QcT _ _)⟩
  ·rw [decide_eq_true tt] at e3
   rw [decide_eq_false (by omega)] at e2 e4
   clear t1 t24 tt ha
   go_enter Tryz.func134,Tryz.ntmps134
   go_wp2_with (go_at_call 139;refine (Qcm _ _ _ hnow).mono ?_;rintro e w' ⟨⟨bb,hz,rfl,hcc⟩,hb⟩)
   exact ⟨rfl,by rw [HR.out];exact QaI.from (QaI.err rfl (Fr.of_below hb) ⟨bb,hz,rfl,hcc⟩) (QcT _ _)⟩
  ·rw [decide_eq_true tt] at e4
   rw [decide_eq_false (by omega)] at e2 e3
   clear t1 t24 tt ha
   go_enter Tryz.func134,Tryz.ntmps134
   go_wp2_with (go_at_call 139;refine (Qcm _ _ _ hnow).mono ?_;rintro e w' ⟨⟨bb,hz,rfl,hcc⟩,hb⟩)
   exact ⟨rfl,by rw [HR.out];exact QaI.from (QaI.err rfl (Fr.of_below hb) ⟨bb,hz,rfl,hcc⟩) (QcT _ _)⟩
 obtain ⟨x,r,hax⟩:∃ x r,i.a=x :: r:=by cases hh:i.a with | nil=>exact absurd hh ha | cons x r=>exact ⟨x,r,rfl⟩
 have HR:Hid (Qfx i m=(Qt0 m.st i.tag x i.at_).map (stL m)):=by show _=_;unfold Qfx;rw [if_neg t1,if_pos ⟨t24.1,t24.2,ha⟩,hax,Qqw];rfl
 have hxl2:=HO.out.al x (by rw [hax];simp)
 have HAC:=Qaa (QsU B sb M m.st i.tag i.at_ x (w.alloc (.cells #[.int .i64 i.op,.int .i64 i.n,.int .i64 i.tag,.bool i.oct,.slice aa i.a.length ac,.slice ba i.b.length bc,.int .i64 i.at_] 147)).drew HMD.out.sat (by omega))
 obtain ⟨g,hga,hgl,hgc⟩:=HO.out.a.get' 0 (by rw [hax];simp)
 have hgc':w.cell? ⟨g,0,none⟩=some (.string (Qag x)):=by rw [hgc];congr 3;simp [hax]
 have hposN:0 < i.a.length:=by rw [hax];simp
 have hpos:(0:Int) < (i.a.length:Int):=by omega
 have hposd:decide (0 < i.a.length)=true:=decide_eq_true hposN
 have HGB:Hid (∀ W,Fr (PMc B xb) (w.alloc (.cells #[.int .i64 i.op,.int .i64 i.n,.int .i64 i.tag,.bool i.oct,.slice aa i.a.length ac,.slice ba i.b.length bc,.int .i64 i.at_] 147)).drew W→W.cell? ⟨g,0,none⟩=some (.string (Qag x))):=fun W hf=>by
  have h1:=HOD.out.a.pm hf
  obtain ⟨g',hg',_,hc'⟩:=h1.get' 0 (by rw [hax];simp)
  rw [hga] at hg'
  injection hg' with hg'
  injection hg' with hg'
  subst hg'
  rw [hc'];congr 3;simp [hax]
 have hgne:¬ g=w.heap.size:=by omega
 clear hgc
 subst hga
 rcases (by omega:i.tag=2∨i.tag=3∨i.tag=4) with tt | tt | tt
 ·rw [decide_eq_true tt] at e2
  rw [decide_eq_false (by omega)] at e3 e4
  clear t1 t24 tt hax ha
  go_enter Tryz.func134,Tryz.ntmps134
  go_wp2_with (go_at_call 139;refine (QbF _ _).mono ?_;rintro e w' ⟨rfl,hww⟩;rw [hww];clear hww)
  refine wp_region_held (S:=fun w'=>w'.cell? ⟨xb,0,none⟩=some (.pointer (some ⟨sb,0,none⟩))∧w'.cell? ⟨w.heap.size,2,none⟩=some (.int .i64 i.tag)∧w'.cell? ⟨w.heap.size,4,none⟩=some (.slice (some ⟨g,0,none⟩) i.a.length ac)∧w'.cell? ⟨w.heap.size,6,none⟩=some (.int .i64 i.at_)∧w'.cell? ⟨g,0,none⟩=some (.string (Qag x))) (by kernel_rfl) ?_
  have hS:(w.alloc (.cells #[.int .i64 i.op,.int .i64 i.n,.int .i64 i.tag,.bool i.oct,.slice (some ⟨g,0,none⟩) i.a.length ac,.slice ba i.b.length bc,.int .i64 i.at_] 147)).drew.cell? ⟨xb,0,none⟩=some (.pointer (some ⟨sb,0,none⟩))∧(w.alloc (.cells #[.int .i64 i.op,.int .i64 i.n,.int .i64 i.tag,.bool i.oct,.slice (some ⟨g,0,none⟩) i.a.length ac,.slice ba i.b.length bc,.int .i64 i.at_] 147)).drew.cell? ⟨w.heap.size,2,none⟩=some (.int .i64 i.tag)∧(w.alloc (.cells #[.int .i64 i.op,.int .i64 i.n,.int .i64 i.tag,.bool i.oct,.slice (some ⟨g,0,none⟩) i.a.length ac,.slice ba i.b.length bc,.int .i64 i.at_] 147)).drew.cell? ⟨w.heap.size,4,none⟩=some (.slice (some ⟨g,0,none⟩) i.a.length ac)∧(w.alloc (.cells #[.int .i64 i.op,.int .i64 i.n,.int .i64 i.tag,.bool i.oct,.slice (some ⟨g,0,none⟩) i.a.length ac,.slice ba i.b.length bc,.int .i64 i.at_] 147)).drew.cell? ⟨w.heap.size,6,none⟩=some (.int .i64 i.at_)∧(w.alloc (.cells #[.int .i64 i.op,.int .i64 i.n,.int .i64 i.tag,.bool i.oct,.slice (some ⟨g,0,none⟩) i.a.length ac,.slice ba i.b.length bc,.int .i64 i.at_] 147)).drew.cell? ⟨g,0,none⟩=some (.string (Qag x)):=⟨(Qav HMD.out (Fr.refl _ _)).1,(Qav HMD.out (Fr.refl _ _)).2 2,(Qav HMD.out (Fr.refl _ _)).2 4,(Qav HMD.out (Fr.refl _ _)).2 6,HGB.out _ (Fr.refl _ _)⟩
  refine QaA 0 29 (.pointer (some ⟨xb,0,none⟩)) rfl hS (fun w' ⟨s1,s2,s3,s4,s5⟩=>by go_simp) ?_
  simp only [pt,List.set_cons_zero,List.set_cons_succ]
  refine QaA 1 30 (.pointer (some ⟨xb,0,none⟩)) rfl hS (fun w' ⟨s1,s2,s3,s4,s5⟩=>by go_simp) ?_
  simp only [pt,List.set_cons_zero,List.set_cons_succ]
  refine QaA 2 31 (.pointer (some ⟨xb,0,none⟩)) rfl hS (fun w' ⟨s1,s2,s3,s4,s5⟩=>by go_simp) ?_
  simp only [pt,List.set_cons_zero,List.set_cons_succ]
  refine QaA 3 32 (.pointer (some ⟨sb,0,none⟩)) rfl hS (fun w' ⟨s1,s2,s3,s4,s5⟩=>by go_simp) ?_
  simp only [pt,List.set_cons_zero,List.set_cons_succ]
  refine QaA 4 33 (.pointer (some ⟨w.heap.size,2,none⟩)) rfl hS (fun w' ⟨s1,s2,s3,s4,s5⟩=>by go_simp) ?_
  simp only [pt,List.set_cons_zero,List.set_cons_succ]
  refine QaA 5 34 (.int .i64 i.tag) rfl hS (fun w' ⟨s1,s2,s3,s4,s5⟩=>by go_simp) ?_
  simp only [pt,List.set_cons_zero,List.set_cons_succ]
  refine QaA 6 35 (.pointer (some ⟨w.heap.size,4,none⟩)) rfl hS (fun w' ⟨s1,s2,s3,s4,s5⟩=>by go_simp) ?_
  simp only [pt,List.set_cons_zero,List.set_cons_succ]
  refine QaA 7 36 (.slice (some ⟨g,0,none⟩) i.a.length ac) rfl hS (fun w' ⟨s1,s2,s3,s4,s5⟩=>by go_simp) ?_
  simp only [pt,List.set_cons_zero,List.set_cons_succ]
  refine QaA 8 37 (.pointer (some ⟨g,0,none⟩)) rfl hS (fun w' ⟨s1,s2,s3,s4,s5⟩=>by go_simp) ?_
  simp only [pt,List.set_cons_zero,List.set_cons_succ]
  refine QaA 9 38 (.string (Qag x)) rfl hS (fun w' ⟨s1,s2,s3,s4,s5⟩=>by go_simp) ?_
  simp only [pt,List.set_cons_zero,List.set_cons_succ]
  refine QaA 10 39 (.pointer (some ⟨w.heap.size,6,none⟩)) rfl hS (fun w' ⟨s1,s2,s3,s4,s5⟩=>by go_simp) ?_
  simp only [pt,List.set_cons_zero,List.set_cons_succ]
  refine QaA 11 40 (.int .i64 i.at_) rfl hS (fun w' ⟨s1,s2,s3,s4,s5⟩=>by go_simp) ?_
  simp only [pt,List.set_cons_zero,List.set_cons_succ]
  clear hS
  refine wpAnyH_all (rs:=[12]) (by kernel_rfl) (by decide) (fun j hj=>?_)
  simp only [List.mem_singleton] at hj
  subst hj
  refine QaG rfl (by rfl) ?_
  go_simp
  refine HAC.out.mono ?_
  intro e w2 h2
  rcases h2.cases with ⟨hf,⟨s',hr,rfl,hs⟩ | ⟨f,hr,bb,hz,rfl,hcc⟩⟩
  rotate_left
  ·exact ⟨rfl,by rw [HR.out,hr];exact QaI.from (QaI.err rfl (hf.mono (fun _ _=>PMc.st)) ⟨bb,hz,rfl,hcc⟩) (Fr.of_below (Qal _))⟩
  have HM2:=Qaa (HMD.out.st' hs hf)
  have HF2:=Qaa (hf.mono (fun _ _=>PMc.st (xb:=xb)))
  have HRR:=Qaa hr
  have HGB2:=Qaa (HGB.out w2 HF2.out)
  have HK2:=Qaa (Qav HM2.out HF2.out)
  clear hs hf h2 hr
  refine ⟨⟨(HK2.out).1,(HK2.out).2 2,(HK2.out).2 4,(HK2.out).2 6,HGB2.out⟩,wpAnyH_done (by kernel_rfl) ?_ _⟩
  try simp only [Act.put,List.setIfInBounds_toArray,List.set_cons_zero,List.set_cons_succ]
  go_wp2
  go_end0
  rw [HR.out,HRR.out]
  exact QaI.from (QaI.ok rfl HF2.out HM2.out) (Fr.of_below (Qal _))
 ·rw [decide_eq_true tt] at e3
  rw [decide_eq_false (by omega)] at e2 e4
  clear t1 t24 tt hax ha
  go_enter Tryz.func134,Tryz.ntmps134
  go_wp2_with (go_at_call 139;refine (QbF _ _).mono ?_;rintro e w' ⟨rfl,hww⟩;rw [hww];clear hww)
  refine wp_region_held (S:=fun w'=>w'.cell? ⟨xb,0,none⟩=some (.pointer (some ⟨sb,0,none⟩))∧w'.cell? ⟨w.heap.size,2,none⟩=some (.int .i64 i.tag)∧w'.cell? ⟨w.heap.size,4,none⟩=some (.slice (some ⟨g,0,none⟩) i.a.length ac)∧w'.cell? ⟨w.heap.size,6,none⟩=some (.int .i64 i.at_)∧w'.cell? ⟨g,0,none⟩=some (.string (Qag x))) (by kernel_rfl) ?_
  have hS:(w.alloc (.cells #[.int .i64 i.op,.int .i64 i.n,.int .i64 i.tag,.bool i.oct,.slice (some ⟨g,0,none⟩) i.a.length ac,.slice ba i.b.length bc,.int .i64 i.at_] 147)).drew.cell? ⟨xb,0,none⟩=some (.pointer (some ⟨sb,0,none⟩))∧(w.alloc (.cells #[.int .i64 i.op,.int .i64 i.n,.int .i64 i.tag,.bool i.oct,.slice (some ⟨g,0,none⟩) i.a.length ac,.slice ba i.b.length bc,.int .i64 i.at_] 147)).drew.cell? ⟨w.heap.size,2,none⟩=some (.int .i64 i.tag)∧(w.alloc (.cells #[.int .i64 i.op,.int .i64 i.n,.int .i64 i.tag,.bool i.oct,.slice (some ⟨g,0,none⟩) i.a.length ac,.slice ba i.b.length bc,.int .i64 i.at_] 147)).drew.cell? ⟨w.heap.size,4,none⟩=some (.slice (some ⟨g,0,none⟩) i.a.length ac)∧(w.alloc (.cells #[.int .i64 i.op,.int .i64 i.n,.int .i64 i.tag,.bool i.oct,.slice (some ⟨g,0,none⟩) i.a.length ac,.slice ba i.b.length bc,.int .i64 i.at_] 147)).drew.cell? ⟨w.heap.size,6,none⟩=some (.int .i64 i.at_)∧(w.alloc (.cells #[.int .i64 i.op,.int .i64 i.n,.int .i64 i.tag,.bool i.oct,.slice (some ⟨g,0,none⟩) i.a.length ac,.slice ba i.b.length bc,.int .i64 i.at_] 147)).drew.cell? ⟨g,0,none⟩=some (.string (Qag x)):=⟨(Qav HMD.out (Fr.refl _ _)).1,(Qav HMD.out (Fr.refl _ _)).2 2,(Qav HMD.out (Fr.refl _ _)).2 4,(Qav HMD.out (Fr.refl _ _)).2 6,HGB.out _ (Fr.refl _ _)⟩
  refine QaA 0 29 (.pointer (some ⟨xb,0,none⟩)) rfl hS (fun w' ⟨s1,s2,s3,s4,s5⟩=>by go_simp) ?_
  simp only [pt,List.set_cons_zero,List.set_cons_succ]
  refine QaA 1 30 (.pointer (some ⟨xb,0,none⟩)) rfl hS (fun w' ⟨s1,s2,s3,s4,s5⟩=>by go_simp) ?_
  simp only [pt,List.set_cons_zero,List.set_cons_succ]
  refine QaA 2 31 (.pointer (some ⟨xb,0,none⟩)) rfl hS (fun w' ⟨s1,s2,s3,s4,s5⟩=>by go_simp) ?_
  simp only [pt,List.set_cons_zero,List.set_cons_succ]
  refine QaA 3 32 (.pointer (some ⟨sb,0,none⟩)) rfl hS (fun w' ⟨s1,s2,s3,s4,s5⟩=>by go_simp) ?_
  simp only [pt,List.set_cons_zero,List.set_cons_succ]
  refine QaA 4 33 (.pointer (some ⟨w.heap.size,2,none⟩)) rfl hS (fun w' ⟨s1,s2,s3,s4,s5⟩=>by go_simp) ?_
  simp only [pt,List.set_cons_zero,List.set_cons_succ]
  refine QaA 5 34 (.int .i64 i.tag) rfl hS (fun w' ⟨s1,s2,s3,s4,s5⟩=>by go_simp) ?_
  simp only [pt,List.set_cons_zero,List.set_cons_succ]
  refine QaA 6 35 (.pointer (some ⟨w.heap.size,4,none⟩)) rfl hS (fun w' ⟨s1,s2,s3,s4,s5⟩=>by go_simp) ?_
  simp only [pt,List.set_cons_zero,List.set_cons_succ]
  refine QaA 7 36 (.slice (some ⟨g,0,none⟩) i.a.length ac) rfl hS (fun w' ⟨s1,s2,s3,s4,s5⟩=>by go_simp) ?_
  simp only [pt,List.set_cons_zero,List.set_cons_succ]
  refine QaA 8 37 (.pointer (some ⟨g,0,none⟩)) rfl hS (fun w' ⟨s1,s2,s3,s4,s5⟩=>by go_simp) ?_
  simp only [pt,List.set_cons_zero,List.set_cons_succ]
  refine QaA 9 38 (.string (Qag x)) rfl hS (fun w' ⟨s1,s2,s3,s4,s5⟩=>by go_simp) ?_
  simp only [pt,List.set_cons_zero,List.set_cons_succ]
  refine QaA 10 39 (.pointer (some ⟨w.heap.size,6,none⟩)) rfl hS (fun w' ⟨s1,s2,s3,s4,s5⟩=>by go_simp) ?_
  simp only [pt,List.set_cons_zero,List.set_cons_succ]
  refine QaA 11 40 (.int .i64 i.at_) rfl hS (fun w' ⟨s1,s2,s3,s4,s5⟩=>by go_simp) ?_
  simp only [pt,List.set_cons_zero,List.set_cons_succ]
  clear hS
  refine wpAnyH_all (rs:=[12]) (by kernel_rfl) (by decide) (fun j hj=>?_)
  simp only [List.mem_singleton] at hj
  subst hj
  refine QaG rfl (by rfl) ?_
  go_simp
  refine HAC.out.mono ?_
  intro e w2 h2
  rcases h2.cases with ⟨hf,⟨s',hr,rfl,hs⟩ | ⟨f,hr,bb,hz,rfl,hcc⟩⟩
  rotate_left
  ·exact ⟨rfl,by rw [HR.out,hr];exact QaI.from (QaI.err rfl (hf.mono (fun _ _=>PMc.st)) ⟨bb,hz,rfl,hcc⟩) (Fr.of_below (Qal _))⟩
  have HM2:=Qaa (HMD.out.st' hs hf)
  have HF2:=Qaa (hf.mono (fun _ _=>PMc.st (xb:=xb)))
  have HRR:=Qaa hr
  have HGB2:=Qaa (HGB.out w2 HF2.out)
  have HK2:=Qaa (Qav HM2.out HF2.out)
  clear hs hf h2 hr
  refine ⟨⟨(HK2.out).1,(HK2.out).2 2,(HK2.out).2 4,(HK2.out).2 6,HGB2.out⟩,wpAnyH_done (by kernel_rfl) ?_ _⟩
  try simp only [Act.put,List.setIfInBounds_toArray,List.set_cons_zero,List.set_cons_succ]
  go_wp2
  go_end0
  rw [HR.out,HRR.out]
  exact QaI.from (QaI.ok rfl HF2.out HM2.out) (Fr.of_below (Qal _))
 ·rw [decide_eq_true tt] at e4
  rw [decide_eq_false (by omega)] at e2 e3
  clear t1 t24 tt hax ha
  go_enter Tryz.func134,Tryz.ntmps134
  go_wp2_with (go_at_call 139;refine (QbF _ _).mono ?_;rintro e w' ⟨rfl,hww⟩;rw [hww];clear hww)
  refine wp_region_held (S:=fun w'=>w'.cell? ⟨xb,0,none⟩=some (.pointer (some ⟨sb,0,none⟩))∧w'.cell? ⟨w.heap.size,2,none⟩=some (.int .i64 i.tag)∧w'.cell? ⟨w.heap.size,4,none⟩=some (.slice (some ⟨g,0,none⟩) i.a.length ac)∧w'.cell? ⟨w.heap.size,6,none⟩=some (.int .i64 i.at_)∧w'.cell? ⟨g,0,none⟩=some (.string (Qag x))) (by kernel_rfl) ?_
  have hS:(w.alloc (.cells #[.int .i64 i.op,.int .i64 i.n,.int .i64 i.tag,.bool i.oct,.slice (some ⟨g,0,none⟩) i.a.length ac,.slice ba i.b.length bc,.int .i64 i.at_] 147)).drew.cell? ⟨xb,0,none⟩=some (.pointer (some ⟨sb,0,none⟩))∧(w.alloc (.cells #[.int .i64 i.op,.int .i64 i.n,.int .i64 i.tag,.bool i.oct,.slice (some ⟨g,0,none⟩) i.a.length ac,.slice ba i.b.length bc,.int .i64 i.at_] 147)).drew.cell? ⟨w.heap.size,2,none⟩=some (.int .i64 i.tag)∧(w.alloc (.cells #[.int .i64 i.op,.int .i64 i.n,.int .i64 i.tag,.bool i.oct,.slice (some ⟨g,0,none⟩) i.a.length ac,.slice ba i.b.length bc,.int .i64 i.at_] 147)).drew.cell? ⟨w.heap.size,4,none⟩=some (.slice (some ⟨g,0,none⟩) i.a.length ac)∧(w.alloc (.cells #[.int .i64 i.op,.int .i64 i.n,.int .i64 i.tag,.bool i.oct,.slice (some ⟨g,0,none⟩) i.a.length ac,.slice ba i.b.length bc,.int .i64 i.at_] 147)).drew.cell? ⟨w.heap.size,6,none⟩=some (.int .i64 i.at_)∧(w.alloc (.cells #[.int .i64 i.op,.int .i64 i.n,.int .i64 i.tag,.bool i.oct,.slice (some ⟨g,0,none⟩) i.a.length ac,.slice ba i.b.length bc,.int .i64 i.at_] 147)).drew.cell? ⟨g,0,none⟩=some (.string (Qag x)):=⟨(Qav HMD.out (Fr.refl _ _)).1,(Qav HMD.out (Fr.refl _ _)).2 2,(Qav HMD.out (Fr.refl _ _)).2 4,(Qav HMD.out (Fr.refl _ _)).2 6,HGB.out _ (Fr.refl _ _)⟩
  refine QaA 0 29 (.pointer (some ⟨xb,0,none⟩)) rfl hS (fun w' ⟨s1,s2,s3,s4,s5⟩=>by go_simp) ?_
  simp only [pt,List.set_cons_zero,List.set_cons_succ]
  refine QaA 1 30 (.pointer (some ⟨xb,0,none⟩)) rfl hS (fun w' ⟨s1,s2,s3,s4,s5⟩=>by go_simp) ?_
  simp only [pt,List.set_cons_zero,List.set_cons_succ]
  refine QaA 2 31 (.pointer (some ⟨xb,0,none⟩)) rfl hS (fun w' ⟨s1,s2,s3,s4,s5⟩=>by go_simp) ?_
  simp only [pt,List.set_cons_zero,List.set_cons_succ]
  refine QaA 3 32 (.pointer (some ⟨sb,0,none⟩)) rfl hS (fun w' ⟨s1,s2,s3,s4,s5⟩=>by go_simp) ?_
  simp only [pt,List.set_cons_zero,List.set_cons_succ]
  refine QaA 4 33 (.pointer (some ⟨w.heap.size,2,none⟩)) rfl hS (fun w' ⟨s1,s2,s3,s4,s5⟩=>by go_simp) ?_
  simp only [pt,List.set_cons_zero,List.set_cons_succ]
  refine QaA 5 34 (.int .i64 i.tag) rfl hS (fun w' ⟨s1,s2,s3,s4,s5⟩=>by go_simp) ?_
  simp only [pt,List.set_cons_zero,List.set_cons_succ]
  refine QaA 6 35 (.pointer (some ⟨w.heap.size,4,none⟩)) rfl hS (fun w' ⟨s1,s2,s3,s4,s5⟩=>by go_simp) ?_
  simp only [pt,List.set_cons_zero,List.set_cons_succ]
  refine QaA 7 36 (.slice (some ⟨g,0,none⟩) i.a.length ac) rfl hS (fun w' ⟨s1,s2,s3,s4,s5⟩=>by go_simp) ?_
  simp only [pt,List.set_cons_zero,List.set_cons_succ]
  refine QaA 8 37 (.pointer (some ⟨g,0,none⟩)) rfl hS (fun w' ⟨s1,s2,s3,s4,s5⟩=>by go_simp) ?_
  simp only [pt,List.set_cons_zero,List.set_cons_succ]
  refine QaA 9 38 (.string (Qag x)) rfl hS (fun w' ⟨s1,s2,s3,s4,s5⟩=>by go_simp) ?_
  simp only [pt,List.set_cons_zero,List.set_cons_succ]
  refine QaA 10 39 (.pointer (some ⟨w.heap.size,6,none⟩)) rfl hS (fun w' ⟨s1,s2,s3,s4,s5⟩=>by go_simp) ?_
  simp only [pt,List.set_cons_zero,List.set_cons_succ]
  refine QaA 11 40 (.int .i64 i.at_) rfl hS (fun w' ⟨s1,s2,s3,s4,s5⟩=>by go_simp) ?_
  simp only [pt,List.set_cons_zero,List.set_cons_succ]
  clear hS
  refine wpAnyH_all (rs:=[12]) (by kernel_rfl) (by decide) (fun j hj=>?_)
  simp only [List.mem_singleton] at hj
  subst hj
  refine QaG rfl (by rfl) ?_
  go_simp
  refine HAC.out.mono ?_
  intro e w2 h2
  rcases h2.cases with ⟨hf,⟨s',hr,rfl,hs⟩ | ⟨f,hr,bb,hz,rfl,hcc⟩⟩
  rotate_left
  ·exact ⟨rfl,by rw [HR.out,hr];exact QaI.from (QaI.err rfl (hf.mono (fun _ _=>PMc.st)) ⟨bb,hz,rfl,hcc⟩) (Fr.of_below (Qal _))⟩
  have HM2:=Qaa (HMD.out.st' hs hf)
  have HF2:=Qaa (hf.mono (fun _ _=>PMc.st (xb:=xb)))
  have HRR:=Qaa hr
  have HGB2:=Qaa (HGB.out w2 HF2.out)
  have HK2:=Qaa (Qav HM2.out HF2.out)
  clear hs hf h2 hr
  refine ⟨⟨(HK2.out).1,(HK2.out).2 2,(HK2.out).2 4,(HK2.out).2 6,HGB2.out⟩,wpAnyH_done (by kernel_rfl) ?_ _⟩
  try simp only [Act.put,List.setIfInBounds_toArray,List.set_cons_zero,List.set_cons_succ]
  go_wp2
  go_end0
  rw [HR.out,HRR.out]
  exact QaI.from (QaI.ok rfl HF2.out HM2.out) (Fr.of_below (Qal _))
end
end Go.Proofs.YtbiclelojbfnbabGreatDoor
