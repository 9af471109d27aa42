import Derived.Test.YtbiclelojbfnbaaGreatDoorMJump
namespace Go.Proofs.YtbiclelojbfnbaaGreatDoor
set_option linter.unusedVariables false
set_option linter.unusedSimpArgs false
set_option maxRecDepth 100000
set_option maxHeartbeats 4000000
open Go.RowKit
attribute [local go_sem ↓] Go.wp_at_zero Go.wp_at_succ
theorem neqNil (W:World):(binOp .neq 392 .nilFunc .nilFunc).run Tryz.prog W=.ok (.bool false) W:=by kernel_rfl
theorem neqFn (W:World) (f:Fn) (a b:Array Value):(binOp .neq 392 (.func f a b) .nilFunc).run Tryz.prog W=.ok (.bool true) W:=by kernel_rfl
theorem by_any (tag:Int) (oct:Bool) (w:World) :
  Calls Tryz.prog 270 #[.int .i64 tag,.bool oct] w fun e w'=>(∃ wv,e=.returned wv∧((1≤tag∧tag≤3∧WayV w' tag oct wv)∨(¬ (1≤tag∧tag≤3)∧wv=.nilFunc)))∧Below w.heap.size w w':=by
 cases oct
 ·exact byS tag w
 ·exact byO tag w
theorem MAt.pt {w:World} {B xb sb:Nat} {M:Msg} {m:MS} {count:Nat} (h:MAt w B xb sb M m count):w.cell? ⟨xb,0,none⟩=some (.pointer (some ⟨sb,0,none⟩)):=by
 obtain ⟨kv,h⟩:=h;exact blk_cell h.blk 0
theorem MAt.sat {w:World} {B xb sb:Nat} {M:Msg} {m:MS} {count:Nat} (h:MAt w B xb sb M m count):SAt w B sb M m.st:=by
 obtain ⟨kv,h⟩:=h;exact h.st
theorem MAt.st' {w w':World} {B xb sb:Nat} {M:Msg} {m:MS} {count:Nat} (h:MAt w B xb sb M m count) {s:SS} (hs:SAt w' B sb M s) (hf:Fr (PSt B) w w'):MAt w' B xb sb M (stL m s) count:=by
 obtain ⟨kv,h⟩:=h;exact ⟨kv,h.st' hs hf⟩
theorem ask_gen (fn:FuncId) (vals:List (List UInt8)) (p:Nat) (i:Ins) (av bv:Value) (B xb sb:Nat) (M:Msg) (m:MS) (count:Nat) (w:World) (h:MAt w B xb sb M m count) (ho:InsOk w i av bv) (hp:w.heap[p]?=some (.cells #[.func (.func fn) #[] #[]] 329)) (hcf:∀ args W,(callFunc fn args).run Tryz.prog W=.ok (.enter fn args) W) (hask:∀ wv av bv W,WayV W i.tag i.oct wv→SAt W B sb M m.st→InsOk W i av bv→Calls Tryz.prog fn #[.pointer (some ⟨sb,0,none⟩),wv,av,bv] W fun e w'=>e=.returned (.bool (askL m.st i.tag i.oct vals i.b).1)∧SAt w' B sb M (askL m.st i.tag i.oct vals i.b).2∧Fr (PSt B) W w') :
  Calls Tryz.prog 269 #[.pointer (some ⟨xb,0,none⟩),insV i av bv,.pointer (some ⟨p,0,none⟩)] w (MPost (doAsk vals i m) B xb sb M count w):=by
 obtain ⟨aa,ac,hav⟩:=ho.a.len
 obtain ⟨ba,bc,hbv⟩:=ho.b.len
 subst hav hbv
 have HM:=hide h
 have HO:=hide ho
 have HP:=hide hp
 have hxl:xb < w.heap.size:=cell_lt h.now
 have hpl:=blk_lt hp
 have HR0:Hid (¬ (1≤i.tag∧i.tag≤3)→doAsk vals i m=.error (12,(m.now:Int))):=fun h=>by unfold doAsk failL;rw [if_neg h]
 have HR:Hid ((1≤i.tag∧i.tag≤3)→doAsk vals i m=putL (askL m.st i.tag i.oct vals i.b).1 (stL m (askL m.st i.tag i.oct vals i.b).2)):=fun h=>by unfold doAsk askPut;rw [if_pos h]
 have hnt:=neqNil
 have hnf:=neqFn
 clear h ho hp
 unfold insV
 go_enter Tryz.func269,Tryz.ntmps269
 go_wp2_with fail
 refine (by_any i.tag i.oct _).mono ?_
 rintro e w1 ⟨⟨wv,rfl,hcase⟩,hb1⟩
 have HB1:=hide (((Below.refl w.heap.size w).alloc (Nat.le_refl _) _).trans (hb1.mono (by simp)))
 have hbx:=blk_below (blk_new w (.cells #[.int .i64 i.op,.int .i64 i.n,.int .i64 i.tag,.bool i.oct,.slice aa i.a.length ac,.slice ba i.b.length bc,.int .i64 i.at_] 62)) hb1
 rcases hcase with ⟨ht1,ht3,hw⟩ | ⟨ht,rfl⟩
 rotate_left
 ·have hnow:=(HM.out.below HB1.out).now
  have HT:=hide ht
  clear hb1 hbx ht
  go_wp2_with (go_at_call 199;refine (must_no _ _ _ hnow).mono ?_;rintro e w' ⟨⟨bb,hz,rfl,hcc⟩,hb⟩)
  exact ⟨rfl,by rw [HR0.out HT.out];exact MPost.from (MPost.err rfl (Fr.of_below hb) ⟨bb,hz,rfl,hcc⟩) (Fr.of_below HB1.out)⟩
 have HR1:=hide (HR.out ⟨ht1,ht3⟩)
 have HW:=hide hw
 obtain ⟨F,fb,hfn⟩:=hw.fn
 subst hfn
 have p1:w1.cell? ⟨p,0,none⟩=some (.func (.func fn) #[] #[]):=blk_cell (blk_below HP.out HB1.out) 0
 have q4:w1.cell? ⟨w.heap.size,4,none⟩=some (.slice aa i.a.length ac):=blk_cell hbx 4
 have q5:w1.cell? ⟨w.heap.size,5,none⟩=some (.slice ba i.b.length bc):=blk_cell hbx 5
 have x0:=(HM.out.below HB1.out).pt
 have hpt1:=HM.out.below HB1.out
 obtain ⟨kv0,hMI0⟩:=hpt1
 have HKK:Hid (∀ W:World,Fr (PMc B xb) w1.drew W→W.cell? ⟨xb,0,none⟩=some (.pointer (some ⟨sb,0,none⟩))→W.cell? ⟨p,0,none⟩=some (.func (.func fn) #[] #[])∧W.cell? ⟨xb,0,none⟩=some (.pointer (some ⟨sb,0,none⟩))∧W.cell? ⟨w.heap.size,4,none⟩=some (.slice aa i.a.length ac)∧W.cell? ⟨w.heap.size,5,none⟩=some (.slice ba i.b.length bc)):=fun W hf hx=>by
  have h1:=hf.block p _ (blk_below HP.out (below_drew1 HB1.out)) (PMc.not (by decide) (by decide) (by decide) (by decide))
  have h2:=hf.block w.heap.size _ (show w1.drew.heap[w.heap.size]?=_ from hbx) (PMc.not (by decide) (by decide) (by decide) (by decide))
  exact ⟨blk_cell h1 0,hx,blk_cell h2 4,blk_cell h2 5⟩
 clear hMI0
 have HAK:=hide (hask (.func (.func F) #[] fb) (.slice aa i.a.length ac) (.slice ba i.b.length bc) w1.drew (HW.out.below (below_drew1 (Below.refl _ _))) ((HM.out.below (below_drew1 HB1.out)).sat) (HO.out.below (below_drew1 HB1.out)))
 generalize askL m.st i.tag i.oct vals i.b=r at *
 obtain ⟨rb,rs⟩:=r
 dsimp only at HR1 HAK
 clear hb1 hbx hw HR HR0 hask
 go_wp2_with (go_at_call 199;refine (must_true _ _).mono ?_;rintro e w' ⟨rfl,hww⟩;rw [hww];clear hww)
 refine wp_region_held (S:=fun w'=>w'.cell? ⟨p,0,none⟩=some (.func (.func fn) #[] #[])∧w'.cell? ⟨xb,0,none⟩=some (.pointer (some ⟨sb,0,none⟩))∧w'.cell? ⟨w.heap.size,4,none⟩=some (.slice aa i.a.length ac)∧w'.cell? ⟨w.heap.size,5,none⟩=some (.slice ba i.b.length bc)) (by kernel_rfl) ?_
 have hS:=HKK.out w1.drew (Fr.refl _ _) x0
 refine wpAnyH_take (i:=0) (v:=.pointer (some ⟨xb,0,none⟩)) rfl (by kernel_rfl) (by kernel_rfl) (by kernel_rfl) (fun _ _ _ h=>h) (Or.inl ⟨by rfl,?_⟩) hS ?_
 ·intro w' hSw;obtain ⟨s1,s2,s3,s4⟩:=hSw;go_simp
 change wpAnyH _ _ _ _ _ _ _ (Act.put _ (some 15) _) _
 simp only [Act.put,List.setIfInBounds_toArray,List.set_cons_zero,List.set_cons_succ]
 refine wpAnyH_take (i:=1) (v:=.func (.func fn) #[] #[]) rfl (by kernel_rfl) (by kernel_rfl) (by kernel_rfl) (fun _ _ _ h=>h) (Or.inl ⟨by rfl,?_⟩) hS ?_
 ·intro w' hSw;obtain ⟨s1,s2,s3,s4⟩:=hSw;go_simp
 change wpAnyH _ _ _ _ _ _ _ (Act.put _ (some 16) _) _
 simp only [Act.put,List.setIfInBounds_toArray,List.set_cons_zero,List.set_cons_succ]
 refine wpAnyH_take (i:=2) (v:=.pointer (some ⟨xb,0,none⟩)) rfl (by kernel_rfl) (by kernel_rfl) (by kernel_rfl) (fun _ _ _ h=>h) (Or.inl ⟨by rfl,?_⟩) hS ?_
 ·intro w' hSw;obtain ⟨s1,s2,s3,s4⟩:=hSw;go_simp
 change wpAnyH _ _ _ _ _ _ _ (Act.put _ (some 17) _) _
 simp only [Act.put,List.setIfInBounds_toArray,List.set_cons_zero,List.set_cons_succ]
 refine wpAnyH_take (i:=3) (v:=.pointer (some ⟨xb,0,none⟩)) rfl (by kernel_rfl) (by kernel_rfl) (by kernel_rfl) (fun _ _ _ h=>h) (Or.inl ⟨by rfl,?_⟩) hS ?_
 ·intro w' hSw;obtain ⟨s1,s2,s3,s4⟩:=hSw;go_simp
 change wpAnyH _ _ _ _ _ _ _ (Act.put _ (some 18) _) _
 simp only [Act.put,List.setIfInBounds_toArray,List.set_cons_zero,List.set_cons_succ]
 refine wpAnyH_take (i:=4) (v:=.pointer (some ⟨xb,0,none⟩)) rfl (by kernel_rfl) (by kernel_rfl) (by kernel_rfl) (fun _ _ _ h=>h) (Or.inl ⟨by rfl,?_⟩) hS ?_
 ·intro w' hSw;obtain ⟨s1,s2,s3,s4⟩:=hSw;go_simp
 change wpAnyH _ _ _ _ _ _ _ (Act.put _ (some 19) _) _
 simp only [Act.put,List.setIfInBounds_toArray,List.set_cons_zero,List.set_cons_succ]
 refine wpAnyH_take (i:=5) (v:=.pointer (some ⟨sb,0,none⟩)) rfl (by kernel_rfl) (by kernel_rfl) (by kernel_rfl) (fun _ _ _ h=>h) (Or.inl ⟨by rfl,?_⟩) hS ?_
 ·intro w' hSw;obtain ⟨s1,s2,s3,s4⟩:=hSw;go_simp
 change wpAnyH _ _ _ _ _ _ _ (Act.put _ (some 20) _) _
 simp only [Act.put,List.setIfInBounds_toArray,List.set_cons_zero,List.set_cons_succ]
 refine wpAnyH_take (i:=6) (v:=.func (.func F) #[] fb) rfl (by kernel_rfl) (by kernel_rfl) (by kernel_rfl) (fun _ _ _ h=>h) (Or.inl ⟨by rfl,?_⟩) hS ?_
 ·intro w' hSw;obtain ⟨s1,s2,s3,s4⟩:=hSw;go_simp
 change wpAnyH _ _ _ _ _ _ _ (Act.put _ (some 21) _) _
 simp only [Act.put,List.setIfInBounds_toArray,List.set_cons_zero,List.set_cons_succ]
 refine wpAnyH_take (i:=7) (v:=.pointer (some ⟨w.heap.size,4,none⟩)) rfl (by kernel_rfl) (by kernel_rfl) (by kernel_rfl) (fun _ _ _ h=>h) (Or.inl ⟨by rfl,?_⟩) hS ?_
 ·intro w' hSw;obtain ⟨s1,s2,s3,s4⟩:=hSw;go_simp
 change wpAnyH _ _ _ _ _ _ _ (Act.put _ (some 22) _) _
 simp only [Act.put,List.setIfInBounds_toArray,List.set_cons_zero,List.set_cons_succ]
 refine wpAnyH_take (i:=8) (v:=.slice aa i.a.length ac) rfl (by kernel_rfl) (by kernel_rfl) (by kernel_rfl) (fun _ _ _ h=>h) (Or.inl ⟨by rfl,?_⟩) hS ?_
 ·intro w' hSw;obtain ⟨s1,s2,s3,s4⟩:=hSw;go_simp
 change wpAnyH _ _ _ _ _ _ _ (Act.put _ (some 23) _) _
 simp only [Act.put,List.setIfInBounds_toArray,List.set_cons_zero,List.set_cons_succ]
 refine wpAnyH_take (i:=9) (v:=.pointer (some ⟨w.heap.size,5,none⟩)) rfl (by kernel_rfl) (by kernel_rfl) (by kernel_rfl) (fun _ _ _ h=>h) (Or.inl ⟨by rfl,?_⟩) hS ?_
 ·intro w' hSw;obtain ⟨s1,s2,s3,s4⟩:=hSw;go_simp
 change wpAnyH _ _ _ _ _ _ _ (Act.put _ (some 24) _) _
 simp only [Act.put,List.setIfInBounds_toArray,List.set_cons_zero,List.set_cons_succ]
 refine wpAnyH_take (i:=10) (v:=.slice ba i.b.length bc) rfl (by kernel_rfl) (by kernel_rfl) (by kernel_rfl) (fun _ _ _ h=>h) (Or.inl ⟨by rfl,?_⟩) hS ?_
 ·intro w' hSw;obtain ⟨s1,s2,s3,s4⟩:=hSw;go_simp
 change wpAnyH _ _ _ _ _ _ _ (Act.put _ (some 25) _) _
 simp only [Act.put,List.setIfInBounds_toArray,List.set_cons_zero,List.set_cons_succ]
 refine wpAnyH_all (rs:=[11]) (by kernel_rfl) (by decide) (fun j hj=>?_)
 simp only [List.mem_singleton] at hj
 subst hj
 refine wpOp_of rfl (by rfl) ?_
 clear hS
 go_simp
 refine HAK.out.mono ?_
 rintro e w2 ⟨rfl,hs2,hf2⟩
 have HM2:=hide ((HM.out.below (below_drew1 HB1.out)).st' hs2 hf2)
 have HF2:=hide hf2
 have HK2:=hide (HKK.out w2 (hf2.mono (fun _ _=>PMc.st)) HM2.out.pt)
 clear hs2 hf2
 refine ⟨HK2.out,?_⟩
 try simp only [Act.put,List.setIfInBounds_toArray,List.set_cons_zero,List.set_cons_succ]
 refine wpAnyH_all (rs:=[12]) (by kernel_rfl) (by decide) (fun j hj=>?_)
 simp only [List.mem_singleton] at hj
 subst hj
 refine wpOp_of rfl (by rfl) ?_
 go_simp
 refine (put_any rb B xb sb M (stL m rs) count w2 HM2.out).mono ?_
 intro e w3 h3
 rcases h3.cases with ⟨hf,⟨m',hr,rfl,hm⟩ | ⟨f,hr,bb,hz,rfl,hcc⟩⟩
 rotate_left
 ·exact ⟨rfl,by rw [HR1.out];exact MPost.from h3 ((Fr.of_below (below_drew1 HB1.out)).trans (HF2.out.mono (fun _ _=>PMc.st)))⟩
 have H3:=hide h3
 have HK3:=hide (HKK.out w3 ((HF2.out.mono (fun _ _=>PMc.st)).trans hf) hm.pt)
 clear hm hf h3
 refine ⟨HK3.out,wpAnyH_done (by kernel_rfl) ?_ _⟩
 try simp only [Act.put,List.setIfInBounds_toArray,List.set_cons_zero,List.set_cons_succ]
 go_wp2
 go_end0
 rw [HR1.out]
 exact MPost.from H3.out ((Fr.of_below (below_drew1 HB1.out)).trans (HF2.out.mono (fun _ _=>PMc.st)))
theorem fields_way (p:Nat) (i:Ins) (av bv:Value) (B xb sb:Nat) (M:Msg) (m:MS) (count:Nat) (w:World) (h:MAt w B xb sb M m count) (ho:InsOk w i av bv) (hp:w.heap[p]?=some (.cells #[.func (.func 189) #[] #[]] 329)) :
  Calls Tryz.prog 269 #[.pointer (some ⟨xb,0,none⟩),insV i av bv,.pointer (some ⟨p,0,none⟩)] w (MPost (doAsk (fieldsL M (i.a.map (expL m.st))) i m) B xb sb M count w):=
 ask_gen 189 (fieldsL M (i.a.map (expL m.st))) p i av bv B xb sb M m count w h ho hp (fun _ _=>by kernel_rfl) (fun wv av bv W hw hs hi=>fields_ask i.tag i.oct B sb M m.st i.a i.b wv av bv W hw hs hi.a hi.b hi.al hi.bl hi.an hi.bn)
theorem envelope_way (p:Nat) (i:Ins) (av bv:Value) (B xb sb:Nat) (M:Msg) (m:MS) (count:Nat) (w:World) (h:MAt w B xb sb M m count) (ho:InsOk w i av bv) (hp:w.heap[p]?=some (.cells #[.func (.func 190) #[] #[]] 329)) :
  Calls Tryz.prog 269 #[.pointer (some ⟨xb,0,none⟩),insV i av bv,.pointer (some ⟨p,0,none⟩)] w (MPost (doAsk (envL M i.a) i m) B xb sb M count w):=
 ask_gen 190 (envL M i.a) p i av bv B xb sb M m count w h ho hp (fun _ _=>by kernel_rfl) (fun wv av bv W hw hs hi=>envelope_ask i.tag i.oct B sb M m.st i.a i.b wv av bv W hw hs hi.a hi.b hi.al hi.bl hi.an hi.bn)
theorem strings_way (p:Nat) (i:Ins) (av bv:Value) (B xb sb:Nat) (M:Msg) (m:MS) (count:Nat) (w:World) (h:MAt w B xb sb M m count) (ho:InsOk w i av bv) (hp:w.heap[p]?=some (.cells #[.func (.func 191) #[] #[]] 329)) :
  Calls Tryz.prog 269 #[.pointer (some ⟨xb,0,none⟩),insV i av bv,.pointer (some ⟨p,0,none⟩)] w (MPost (doAsk (i.a.map (expL m.st)) i m) B xb sb M count w):=
 ask_gen 191 (i.a.map (expL m.st)) p i av bv B xb sb M m count w h ho hp (fun _ _=>by kernel_rfl) (fun wv av bv W hw hs hi=>strings_ask i.tag i.oct B sb M m.st i.a i.b wv av bv W hw hs hi.a hi.b hi.al hi.bl hi.an hi.bn)
end Go.Proofs.YtbiclelojbfnbaaGreatDoor
