import Derived.Test.YtbiclelojbfnbaaGreatDoorZTests4
namespace Go.Proofs.YtbiclelojbfnbaaGreatDoor
set_option linter.unusedVariables false
set_option linter.unusedSimpArgs false
set_option maxRecDepth 100000
set_option maxHeartbeats 4000000
section
open Go.RowKit
attribute [local go_sem ↓] Go.wp_at_zero Go.wp_at_succ
theorem TxtAt.alloc {w:World} {g:Nat} {zs:List (List UInt8)} (h:TxtAt w g zs) (o:Obj):TxtAt (w.alloc o) g zs:=h.below ((Below.refl _ _).alloc (Nat.le_refl _) _)
theorem TxtAt.drew {w:World} {g:Nat} {zs:List (List UInt8)} (h:TxtAt w g zs):TxtAt w.drew g zs:=h
abbrev QoL:Obj:=.cells #[.string ⟨#[]⟩,.int .i64 0,.int .i64 0,.int .i64 0] 382
theorem Qtn (hw:List UInt8) (hp:Nat) (d:Int) (b:Nat) (t:ByteArray) (s:PS) (rv:Value) (mc mt:Nat) (w:World) (h:RC w b t s rv mc mt) :
 Calls Tryz.prog 171 #[.pointer (some ⟨b,0,none⟩),QcJ hw hp,.int .i64 d] w (Qau (sizeL t.data.toList hp s) b t rv mc mt w (fun x w' v=>v=.iface 382 (.agg #[.string (Qad hw),.int .i64 hp,.int .i64 x.tag,.int .i64 x.num]))):=by
 have H:=Qab h
 have hlt:=h.at_.lt
 have hn0:¬ w.heap.size=b:=by omega
 have hn1:¬ w.heap.size+1=b:=by omega
 have hn2:¬ w.heap.size+1+1=b:=by omega
 clear h
 unfold QcJ
 go_enter Tryz.func171,Tryz.ntmps171
 go_upto_region 1 with fail
 go_cut [7] (fun v wc=>∃ (T:Nat) (y:Nat×PS),v=.pointer (some ⟨T,0,none⟩)∧passL t.data.toList [QcY,QbY] s=.ok y∧RC wc b t y.2 rv mc mt∧Mod b w wc∧w.heap.size≤T∧wc.heap[T]?=some (.cells #[.string (Qad hw),.int .i64 hp,.int .i64 y.1,.int .i64 0] 382))
 case first=>
  go_region_with (first | (go_at_call 257;refine (QhE _).mono ?_;rintro e w' ⟨rfl,rfl⟩;skip) | (go_at_call 243;refine (QcX b _ 2 2 [QcY,QbY] t s rv mc mt _ (by first | exact ((H.out.alloc _).alloc _).drew | exact (((H.out.alloc _).alloc _).alloc _).drew) (by first | exact (QbK _ _ (by simp)).drew | exact ((QbK _ _ (by simp)).alloc _).drew) rfl (by decide)).mono ?_;intro e w1 h1;rcases h1.cases with ⟨y,v,hy,rfl,hv,hc,hm⟩ | ⟨f,hf,⟨bb,hz,rfl,hcc⟩,hm⟩;rotate_left;exact ⟨rfl,Qau.err (Qaf hf) (by first | exact (((Mod.refl b w).alloc _).alloc _).trans (QaV hm) | exact ((((Mod.refl b w).alloc _).alloc _).alloc _).trans (QaV hm)) ⟨bb,by simp at hz;omega,rfl,hcc⟩⟩;unfold QjS at hv;subst hv;have hhb:=QaS (g:=w.heap.size) (o:=.cells #[.string (Qad hw),.int .i64 hp] 266) (by first | exact Qac (Qay _ _) | exact Qac (Qac (Qay _ _))) (QaV hm) hn0;have hh0:w1.cell? ⟨w.heap.size,0,none⟩=some (.string (Qad hw)):=Qaa hhb 0;have hh1:w1.cell? ⟨w.heap.size,1,none⟩=some (.int .i64 hp):=Qaa hhb 1;clear hhb;(first | (have tb:=QaS (g:=w.heap.size+1) (o:=QoL) (Qac (QaD (by simp))) (QaV hm) hn1;have t0:w1.cell? ⟨w.heap.size+1,0,none⟩=some (.string ⟨#[]⟩):=Qaa tb 0;have t1:w1.cell? ⟨w.heap.size+1,1,none⟩=some (.int .i64 0):=Qaa tb 1;have t2:w1.cell? ⟨w.heap.size+1,2,none⟩=some (.int .i64 0):=Qaa tb 2;have t3:w1.cell? ⟨w.heap.size+1,3,none⟩=some (.int .i64 0):=Qaa tb 3;have tf:=Qap tb;have TB:=Qab tb;clear tb) | (have tb:=QaS (g:=w.heap.size+1+1) (o:=QoL) (QaD (by simp)) (QaV hm) hn2;have t0:w1.cell? ⟨w.heap.size+1+1,0,none⟩=some (.string ⟨#[]⟩):=Qaa tb 0;have t1:w1.cell? ⟨w.heap.size+1+1,1,none⟩=some (.int .i64 0):=Qaa tb 1;have t2:w1.cell? ⟨w.heap.size+1+1,2,none⟩=some (.int .i64 0):=Qaa tb 2;have t3:w1.cell? ⟨w.heap.size+1+1,3,none⟩=some (.int .i64 0):=Qaa tb 3;have tf:=Qap tb;have TB:=Qab tb;clear tb) | skip);have hzz:=hm.size;simp at hzz;have hz9:w.heap.size < w1.heap.size:=(by omega);have hh0a:∀ o,(w1.alloc o).cell? ⟨w.heap.size,0,none⟩=some (.string (Qad hw)):=(fun o=>by rw [World.cell?_alloc_past _ _ _ hz9];exact hh0);have hh1a:∀ o,(w1.alloc o).cell? ⟨w.heap.size,1,none⟩=some (.int .i64 hp):=(fun o=>by rw [World.cell?_alloc_past _ _ _ hz9];exact hh1);have HY:=Qab hy;have HC:=Qab hc;have HMM:Hid (Mod b w w1):=(by first | exact (((Mod.refl b w).alloc _).alloc _).trans (QaV hm) | exact ((((Mod.refl b w).alloc _).alloc _).alloc _).trans (QaV hm));clear h1 hy hc hm;skip))
  all_goals (go_wp2_with fail;go_meet)
  all_goals first
   | exact ⟨_,y,rfl,HY.out,HC.out.alloc _,HMM.out.alloc _,by omega,Qay _ _⟩
   | exact ⟨_,y,rfl,HY.out,(((HC.out.setNew (by omega) _ _).setNew (by omega) _ _).setNew (by omega) _ _).setNew (by omega) _ _,(((HMM.out.setNew (by omega) _ _).setNew (by omega) _ _).setNew (by omega) _ _).setNew (by omega) _ _,by omega,Qah _ _ _ _ _ _ (Qah _ _ _ _ _ _ (Qah _ _ _ _ _ _ (Qah _ _ _ _ _ _ TB.out)))⟩
 case rest=>
  obtain ⟨T,y,rfl,hy,hc,hm,hT,hb⟩:=hcut
  have hlt2:=QaH hb
  have h1:wc.cell? ⟨b,1,none⟩=some (.int .i64 y.2.1.kind):=hc.at_.cell 1
  have h5:wc.cell? ⟨b,5,none⟩=some (.int .i64 y.2.1.num):=hc.at_.cell 5
  have t3:wc.cell? ⟨T,3,none⟩=some (.int .i64 0):=Qaa hb 3
  have tf:=Qap hb
  have HY:=Qab hy
  have HC:=Qab hc
  have HM:=Qab hm
  have HB:=Qab hb
  clear hy hc hm hb
  by_cases hk:y.2.1.kind=4
  rotate_left
  ·have hk':((y.2.1.kind:Int) == 4)=false:=by simp;omega
   have HK:=Qab hk
   clear hk
   go_wp2_with fail
   refine (Qbr b 4 _ _ t y.2.1 y.2.2 rv mc mt _ HC.out.at_ rfl rfl).mono ?_
   rintro e w1 ⟨⟨bb,hz,rfl,hcc⟩,hm⟩
   exact ⟨rfl,Qau.err ((Qae HY.out).trans (if_neg HK.out)) (HM.out.trans (Mod.of_below hm)) ⟨bb,Nat.le_trans HM.out.size hz,rfl,hcc⟩⟩
  have hk':((y.2.1.kind:Int) == 4)=true:=by simp;omega
  have HK:=Qab hk
  clear hk
  go_wp2_with fail
  refine (QaI b _ _ _ rfl).mono ?_
  rintro e w' ⟨rfl,hww⟩
  subst hww
  go_wp2_with fail
  refine (Qc1 b t y.2 rv mc mt _ (HC.out.setNew (by omega) _ _)).mono ?_
  rintro e w2 (⟨z,hz,rfl,hc2,hm2⟩ | ⟨f2,hf2,⟨bb,hz,rfl,hcc⟩,hm2⟩)
  rotate_left
  ·exact ⟨rfl,Qau.err ((Qae HY.out).trans ((if_pos HK.out).trans (Qbj hf2))) ((HM.out.setNew hT _ _).trans hm2) ⟨bb,Nat.le_trans (HM.out.setNew hT _ _).size hz,rfl,hcc⟩⟩
  have hb2:=QaS (Qah _ T 3 (.int .i64 y.2.1.num) _ _ HB.out) hm2 (by omega)
  have q0:w2.cell? ⟨T,0,none⟩=some (.string (Qad hw)):=Qaa hb2 0
  have q1:w2.cell? ⟨T,1,none⟩=some (.int .i64 hp):=Qaa hb2 1
  have q2:w2.cell? ⟨T,2,none⟩=some (.int .i64 y.1):=Qaa hb2 2
  have q3:w2.cell? ⟨T,3,none⟩=some (.int .i64 y.2.1.num):=Qaa hb2 3
  have HM2:=Qab ((HM.out.setNew hT 3 (.int .i64 y.2.1.num)).trans hm2)
  have HC2:=Qab hc2
  have HZ:=Qab hz
  clear hb2 hm2 hc2 hz tf t3 h1 h5
  go_wp2
  go_ret
  exact Qau.ok ((Qae HY.out).trans ((if_pos HK.out).trans (Qa0 HZ.out))) HM2.out rfl HC2.out
end
section
open Go.RowKit
attribute [local go_sem ↓] Go.wp_at_zero Go.wp_at_succ
theorem Qs3 (hw:List UInt8) (hp:Nat) (d:Int) (b:Nat) (t:ByteArray) (s:PS) (rv:Value) (mc mt:Nat) (w:World) (h:RC w b t s rv mc mt) :
 Calls Tryz.prog 152 #[.pointer (some ⟨b,0,none⟩),QcJ hw hp,.int .i64 d] w (Qau (passL t.data.toList [[59]] s) b t rv mc mt w (fun _ _ v=>v=.iface 318 (.agg #[.string (Qad hw),.int .i64 hp,.int .i64 1,.string ⟨#[]⟩]))):=by
 have H:=Qab h
 have hlt:=h.at_.lt
 clear h
 unfold QcJ
 go_enter Tryz.func152,Tryz.ntmps152
 go_wp2_with fail
 have HP:=Qab (QcX b (w.heap.size+1) 1 1 [[59]] t s rv mc mt _ ((H.out.alloc (.cells #[.string (Qad hw),.int .i64 hp] 266)).alloc (.cells (QaN [[59]]).toArray 9)) (QbK _ _ (by simp)) rfl (by decide))
 refine HP.out.mono ?_
 intro e w1 h1
 rcases h1.cases with ⟨y,v,hy,rfl,hv,hc,hm⟩ | ⟨f,hf,⟨bb,hz,rfl,hcc⟩,hm⟩
 rotate_left
 ·exact ⟨rfl,Qau.err hf ((((Mod.refl b w).alloc _).alloc _).trans hm) ⟨bb,by simp at hz;omega,rfl,hcc⟩⟩
 unfold QjS at hv
 subst hv
 have hhb:=QaS (g:=w.heap.size) (o:=.cells #[.string (Qad hw),.int .i64 hp] 266) (Qac (Qay _ _)) hm (by omega)
 have hh0:w1.cell? ⟨w.heap.size,0,none⟩=some (.string (Qad hw)):=Qaa hhb 0
 have hh1:w1.cell? ⟨w.heap.size,1,none⟩=some (.int .i64 hp):=Qaa hhb 1
 have HY:=Qab hy
 have HC:=Qab hc
 have HM:=Qab ((((Mod.refl b w).alloc _).alloc _).trans hm)
 clear h1 hy hc hm hhb HP
 go_wp2
 go_ret
 exact Qau.ok HY.out HM.out rfl HC.out
theorem Qng (hw:List UInt8) (hp:Nat) (d:Int) (b:Nat) (t:ByteArray) (s:PS) (rv:Value) (mc mt:Nat) (w:World) (h:RC w b t s rv mc mt) :
 Calls Tryz.prog 153 #[.pointer (some ⟨b,0,none⟩),QcJ hw hp,.int .i64 d] w (Qau (passL t.data.toList [[59]] s) b t rv mc mt w (fun _ _ v=>v=.iface 336 (.agg #[.string (Qad hw),.int .i64 hp]))):=by
 have H:=Qab h
 have hlt:=h.at_.lt
 clear h
 unfold QcJ
 go_enter Tryz.func153,Tryz.ntmps153
 go_wp2_with fail
 have HP:=Qab (QcX b (w.heap.size+1) 1 1 [[59]] t s rv mc mt _ ((H.out.alloc (.cells #[.string (Qad hw),.int .i64 hp] 266)).alloc (.cells (QaN [[59]]).toArray 9)) (QbK _ _ (by simp)) rfl (by decide))
 refine HP.out.mono ?_
 intro e w1 h1
 rcases h1.cases with ⟨y,v,hy,rfl,hv,hc,hm⟩ | ⟨f,hf,⟨bb,hz,rfl,hcc⟩,hm⟩
 rotate_left
 ·exact ⟨rfl,Qau.err hf ((((Mod.refl b w).alloc _).alloc _).trans hm) ⟨bb,by simp at hz;omega,rfl,hcc⟩⟩
 unfold QjS at hv
 subst hv
 have hhb:=QaS (g:=w.heap.size) (o:=.cells #[.string (Qad hw),.int .i64 hp] 266) (Qac (Qay _ _)) hm (by omega)
 have hh0:w1.cell? ⟨w.heap.size,0,none⟩=some (.string (Qad hw)):=Qaa hhb 0
 have hh1:w1.cell? ⟨w.heap.size,1,none⟩=some (.int .i64 hp):=Qaa hhb 1
 have HY:=Qab hy
 have HC:=Qab hc
 have HM:=Qab ((((Mod.refl b w).alloc _).alloc _).trans hm)
 clear h1 hy hc hm hhb HP
 go_wp2
 go_ret
 exact Qau.ok HY.out HM.out rfl HC.out
theorem QsS (hw:List UInt8) (hp:Nat) (d:Int) (b:Nat) (t:ByteArray) (s:PS) (rv:Value) (mc mt:Nat) (w:World) (h:RC w b t s rv mc mt) :
 Calls Tryz.prog 154 #[.pointer (some ⟨b,0,none⟩),QcJ hw hp,.int .i64 d] w (Qau (passL t.data.toList [[59]] s) b t rv mc mt w (fun _ _ v=>v=.iface 337 (.agg #[.string (Qad hw),.int .i64 hp]))):=by
 have H:=Qab h
 have hlt:=h.at_.lt
 clear h
 unfold QcJ
 go_enter Tryz.func154,Tryz.ntmps154
 go_wp2_with fail
 have HP:=Qab (QcX b (w.heap.size+1) 1 1 [[59]] t s rv mc mt _ ((H.out.alloc (.cells #[.string (Qad hw),.int .i64 hp] 266)).alloc (.cells (QaN [[59]]).toArray 9)) (QbK _ _ (by simp)) rfl (by decide))
 refine HP.out.mono ?_
 intro e w1 h1
 rcases h1.cases with ⟨y,v,hy,rfl,hv,hc,hm⟩ | ⟨f,hf,⟨bb,hz,rfl,hcc⟩,hm⟩
 rotate_left
 ·exact ⟨rfl,Qau.err hf ((((Mod.refl b w).alloc _).alloc _).trans hm) ⟨bb,by simp at hz;omega,rfl,hcc⟩⟩
 unfold QjS at hv
 subst hv
 have hhb:=QaS (g:=w.heap.size) (o:=.cells #[.string (Qad hw),.int .i64 hp] 266) (Qac (Qay _ _)) hm (by omega)
 have hh0:w1.cell? ⟨w.heap.size,0,none⟩=some (.string (Qad hw)):=Qaa hhb 0
 have hh1:w1.cell? ⟨w.heap.size,1,none⟩=some (.int .i64 hp):=Qaa hhb 1
 have HY:=Qab hy
 have HC:=Qab hc
 have HM:=Qab ((((Mod.refl b w).alloc _).alloc _).trans hm)
 clear h1 hy hc hm hhb HP
 go_wp2
 go_ret
 exact Qau.ok HY.out HM.out rfl HC.out
end
section
open Go.RowKit
attribute [local go_sem ↓] Go.wp_at_zero Go.wp_at_succ
def Qvr (l:List UInt8) (s:PS):Except Flt (List UInt8×PS):=QaT (stringL l (fun _=>0) s) fun x s1=>semi l s1 x
theorem Qky (hw:List UInt8) (hp:Nat) (d:Int) (pr pk kd:Nat) (b:Nat) (t:ByteArray) (s:PS) (rv:Value) (mc mt:Nat) (w:World) (h:RC w b t s rv mc mt) (hpr:Qmt w pr b) (hpk:w.cell? ⟨pk,0,none⟩=some (.int .i64 kd)) (hpkb:pk≠b) :
 Calls Tryz.prog 244 #[QcJ hw hp,.int .i64 d,.pointer (some ⟨pr,0,none⟩),.pointer (some ⟨pk,0,none⟩)] w (Qau (Qvr t.data.toList s) b t rv mc mt w (fun x _ v=>v=.iface 318 (.agg #[.string (Qad hw),.int .i64 hp,.int .i64 kd,.string (Qad x)]))):=by
 have hlt:=hpr.lt
 have hb:=h.at_.lt
 have h':(w.alloc (.cells #[.string (Qad hw),.int .i64 hp] 266)).cell? ⟨pr,0,none⟩=some (.pointer (some ⟨b,0,none⟩)):=by rw [World.cell?_alloc_past _ _ _ hlt];exact hpr.1
 have H:=Qab h
 have HPR:=Qab hpr
 have HPK:=Qab hpk
 clear h hpr
 unfold QcJ
 go_enter Tryz.func244,Tryz.ntmps244
 go_wp2_with fail
 refine (QdM b t s rv mc mt _ (H.out.alloc _)).mono ?_
 intro e w1 h1
 rcases h1.cases with ⟨y,v,hy,rfl,hv,hc,hm⟩ | ⟨f,hf,⟨bb,hz,rfl,hcc⟩,hm⟩
 rotate_left
 ·exact ⟨rfl,Qau.err (Qaf hf) (((Mod.refl b w).alloc _).trans hm) ⟨bb,by simp at hz;omega,rfl,hcc⟩⟩
 unfold Qq4 at hv
 subst hv
 have HY:=Qab hy
 have HC:=Qab hc
 have HM:=Qab (((Mod.refl b w).alloc (.cells #[.string (Qad hw),.int .i64 hp] 266)).trans hm)
 have HH:=Qab (QaS (g:=w.heap.size) (Qay w (.cells #[.string (Qad hw),.int .i64 hp] 266)) hm (by omega))
 have hp1:=(HPR.out.mod HM.out).1
 clear h1 hy hc hm h' hpk
 go_wp2_with fail
 have HP:=Qab (QcX b w1.heap.size 1 1 [[59]] t y.2 rv mc mt _ (HC.out.alloc (.cells (QaN [[59]]).toArray 9)) (QbK _ _ rfl) rfl (by decide))
 refine HP.out.mono ?_
 intro e w2 h2
 rcases h2.cases with ⟨y2,v2,hy2,rfl,hv2,hc2,hm2⟩ | ⟨f,hf,⟨bb,hz,rfl,hcc⟩,hm2⟩
 rotate_left
 ·exact ⟨rfl,Qau.err ((Qae HY.out).trans (Qaf hf)) ((HM.out.alloc _).trans hm2) ⟨bb,Nat.le_trans (HM.out.alloc _).size hz,rfl,hcc⟩⟩
 unfold QjS at hv2
 subst hv2
 have hhb:=QaS (Qac HH.out) hm2 (by omega)
 have hh0:w2.cell? ⟨w.heap.size,0,none⟩=some (.string (Qad hw)):=Qaa hhb 0
 have hh1:w2.cell? ⟨w.heap.size,1,none⟩=some (.int .i64 hp):=Qaa hhb 1
 have HY2:=Qab hy2
 have HC2:=Qab hc2
 have HM2:=Qab ((HM.out.alloc (.cells (QaN [[59]]).toArray 9)).trans hm2)
 have hk2:=QbX HPK.out HM2.out hpkb
 clear h2 hy2 hc2 hm2 hhb HP hp1
 go_wp2
 go_ret
 exact Qau.ok ((Qae HY.out).trans (Qae HY2.out)) HM2.out rfl HC2.out
end
section
open Go.RowKit
theorem Tryz.infoCommand:(Tryz.prog.info? 201).map (fun i=>(i.zero,i.size,i.bytes))=some (some .nilIface,1,16):=by kernel_rfl
def blX {α:Type} (X:Nat→Prop) (P:(Nat→Prop)→α→World→Value→Prop) (xs:List α) (w:World) (v:Value):Prop:=
 (xs=[]∧v=.slice none 0 0)∨(xs≠[]∧trX X P xs w v)
theorem blX.keep {α:Type} {X:Nat→Prop} {P:(Nat→Prop)→α→World→Value→Prop} (hP:TreeP P) {xs:List α} {w w':World} {v:Value} (h:blX X P xs w v) (hm:AbvX X w w'):blX X P xs w' v:=by
 rcases h with h | ⟨h1,h2⟩
 ·exact Or.inl h
 ·exact Or.inr ⟨h1,h2.keep hP hm⟩
theorem blX.weak {α:Type} {X Y:Nat→Prop} {P:(Nat→Prop)→α→World→Value→Prop} (hP:TreeP P) {xs:List α} {w:World} {v:Value} (h:blX X P xs w v) (hB:∀ k,X k→k < w.heap.size→Y k):blX Y P xs w v:=by
 rcases h with h | ⟨h1,h2⟩
 ·exact Or.inl h
 ·exact Or.inr ⟨h1,trX.weak hP h1 h2 hB⟩
theorem blX.of_owns {α:Type} {P:(Nat→Prop)→α→World→Value→Prop} (hP:TreeP P) {w:World} {base n:Nat} {e:TypeId} {v:Value} {xs:List α} {vs:List Value} (h:w.ownsRow base e 1 v n vs) (hn:n=xs.length) (hnil:xs=[]→v=.slice none 0 0) (hr:QjN (fun a u=>QgE P base w v a u) xs vs):blX (fromB base) P xs w v:=by
 by_cases hx:xs=[]
 ·exact Or.inl ⟨hx,hnil hx⟩
 ·exact Or.inr ⟨hx,trX.of_owns hP h hn hx hr⟩
theorem blX.form {α:Type} {X:Nat→Prop} {P:(Nat→Prop)→α→World→Value→Prop} {xs:List α} {w:World} {v:Value} (h:blX X P xs w v):∃ a n c,v=.slice a n c:=by
 rcases h with ⟨_,h⟩ | ⟨_,h⟩
 ·exact ⟨_,_,_,h⟩
 ·obtain ⟨g,n,c,h⟩:=h.form
  exact ⟨_,_,_,h⟩
theorem QhL {α:Type} {l:List UInt8} {sub:PS→Except Flt (α×PS)} {f:Nat} {acc:List α} {s:PS} {e:Flt} (h:mayL l [[125]] s=.error e):blockMore l sub (f+1) acc s=.error e:=by rw [blockMore];exact Qaf h
theorem Qlh {α:Type} {l:List UInt8} {sub:PS→Except Flt (α×PS)} {f:Nat} {acc:List α} {s:PS} {y:Nat×PS} (h:mayL l [[125]] s=.ok y) (h1:¬ y.1=0):blockMore l sub (f+1) acc s=.ok (acc,y.2):=by rw [blockMore,Qae h,if_neg h1]
theorem QhM {α:Type} {l:List UInt8} {sub:PS→Except Flt (α×PS)} {f:Nat} {acc:List α} {s:PS} {y:Nat×PS} {e:Flt} (h:mayL l [[125]] s=.ok y) (h1:y.1=0) (h2:sub y.2=.error e):blockMore l sub (f+1) acc s=.error e:=by rw [blockMore,Qae h,if_pos h1];exact Qaf h2
theorem Qmu {α:Type} {l:List UInt8} {sub:PS→Except Flt (α×PS)} {f:Nat} {acc:List α} {s:PS} {y:Nat×PS} {z:α×PS} (h:mayL l [[125]] s=.ok y) (h1:y.1=0) (h2:sub y.2=.ok z):blockMore l sub (f+1) acc s=blockMore l sub f (acc++[z.1]) z.2:=by rw [blockMore,Qae h,if_pos h1];exact Qae h2
theorem QtL:∀ z∈([[125]]:List (List UInt8)),z≠[]:=by decide
theorem Qlq {α:Type} (sub:PS→Except Flt (α×PS)) (P:(Nat→Prop)→α→World→Value→Prop) (d:Int) (b F:Nat) (t:ByteArray) (s:PS) (rv:Value) (mc mt:Nat) (w:World) (h:RC w b t s rv mc mt) (hF:2*t.size+1 < F) (hP:TreeP P) (hS:SubMu t.size sub) (ho:QeM 174 w b t rv mc mt d sub P) :
 Calls Tryz.prog 250 #[.pointer (some ⟨b,0,none⟩),.int .i64 d] w (Qau (blockL t.data.toList F sub s) b t rv mc mt w (blX (fromB w.heap.size) P)):=by
 have H:=Qab h
 have HO:=Qab ho
 have HP:=Qab hP
 have HSM:=Qab hS
 have hlt:=h.at_.lt
 clear h ho hP hS
 obtain ⟨i0,hi,hz0,hz1,hz2⟩:=info_parts Tryz.infoCommand
 go_enter Tryz.func250,Tryz.ntmps250
 go_wp2_with fail
 have hp1:=Qab (QcX b w.heap.size 1 1 [[123]] t s rv mc mt _ (H.out.alloc (.cells (QaN [[123]]).toArray 9)) (QbK _ _ rfl) rfl (by decide))
 refine hp1.out.mono ?_
 intro e w1 h1
 rcases h1.cases with ⟨y,v,hy,rfl,hv,hc,hm⟩ | ⟨f,hf,⟨bb,hz,rfl,hcc⟩,hm⟩
 rotate_left
 ·exact ⟨rfl,Qau.err (Qaf hf) (((Mod.refl b w).alloc _).trans hm) ⟨bb,by simp at hz;omega,rfl,hcc⟩⟩
 unfold QjS at hv
 subst hv
 have HY:=Qab hy
 have HC:=Qab hc
 have HM1:=Qab (((Mod.refl b w).alloc (.cells (QaN [[123]]).toArray 9)).trans hm)
 have hmuL:=HC.out.mu_le
 have hmuF:=HC.out.mu_lt hF
 clear h1 hy hc hm hp1
 go_wp2_with fail
 go_loopw [5] (fun v wr=>∃ (s':PS) (acc:List α) (vs:List Value) (f:Nat),wr.ownsRow w.heap.size 201 1 v acc.length vs∧QjN (fun a u=>QgE P w.heap.size wr v a u) acc vs∧(acc=[]→v=.slice none 0 0)∧RC wr b t s' rv mc mt∧Mod b w wr∧mu t.size s' < f∧acc.length+mu t.size s'≤1300∧blockL t.data.toList F sub s=blockMore t.data.toList sub f acc s') (fun _ wr=>muW wr b t.size)
 case atStart=>
  exact ⟨y.2,[],[],F,World.ownsRow_nil _ _ _ _,trivial,fun _=>rfl,HC.out,HM1.out,hmuF,by simp;omega,Qae HY.out⟩
 case round=>
  obtain ⟨s',acc,vs,f,hown,hrow,hnil,hrc,hmod,hf,hbd,hsp⟩:=hrel
  obtain ⟨f,rfl⟩:∃ g,f=g+1:=⟨f - 1,by omega⟩
  have HR:=Qab hrc
  have HMr:=Qab hmod
  have HSP:=Qab hsp
  have HOW:=Qab hown
  have HRW:=Qab hrow
  have HNL:=Qab hnil
  have hwr:w.heap.size≤wr.heap.size:=hmod.size
  clear hrc hmod hsp hown hrow hnil HC HY hmuL hmuF
  go_wp2_with fail
  refine (Qhc b wr.heap.size 1 1 [[125]] t s' rv mc mt _ (HR.out.alloc _) (Qa8 wr [[125]] _ _ rfl) rfl (by decide)).mono ?_
  intro e w3 h3
  rcases h3.cases with ⟨y3,v3,hy3,rfl,hv3,hc3,hm3⟩ | ⟨f3,hf3,⟨bb,hz,rfl,hcc⟩,hm3⟩
  rotate_left
  ·exact ⟨rfl,Qau.err (HSP.out.trans (QhL hf3)) ((HMr.out.alloc _).trans hm3) ⟨bb,by simp at hz;omega,rfl,hcc⟩⟩
  have hmu3:=QiA (l:=t.data.toList) (by simpa using HR.out.le) HR.out.e0 QtL hy3
  rw [bal] at hmu3
  replace hmu3:=hmu3.1
  have hA3:=((Mod.refl b wr).alloc (.cells #[.string ⟨#[125]⟩] 9)).trans hm3
  have HM3:=Qab (HMr.out.trans hA3)
  have HY3:=Qab hy3
  have HC3:=Qab hc3
  have HO3:=Qab (Qbu (b:=b) HOW.out hA3 (by omega))
  have HW3:=Qab (HRW.out.imp (fun a u hu=>QgE.mod HP.out (b:=b) (w':=w3) hu hA3 (by omega)))
  unfold QjS at hv3
  subst hv3
  clear h3 hy3 hc3 hm3 hA3
  by_cases h1:y3.1=0
  rotate_left
  ·have h1':((y3.1:Int) == 0)=false:=by simp;omega
   have H1:=Qab h1
   have HT:=Qab (blX.of_owns HP.out HO3.out rfl HNL.out HW3.out)
   clear h1
   go_wp2
   go_ret
   exact Qau.ok (HSP.out.trans (Qlh HY3.out H1.out)) HM3.out HT.out HC3.out
  have h1':((y3.1:Int) == 0)=true:=by simp;omega
  have H1:=Qab h1
  clear h1
  go_wp2_with fail
  refine (HO.out _ y3.2 HM3.out HC3.out).mono ?_
  intro e w4 h4
  rcases h4.cases with ⟨z4,v4,hy4,rfl,hv4,hc4,hm4⟩ | ⟨f4,hf4,⟨bb,hz,rfl,hcc⟩,hm4⟩
  rotate_left
  ·exact ⟨rfl,Qau.err (HSP.out.trans (QhM HY3.out H1.out hf4)) (HM3.out.trans hm4) ⟨bb,Nat.le_trans HM3.out.size hz,rfl,hcc⟩⟩
  have hmu4:=HSM.out y3.2 z4 HC3.out.le HC3.out.e0 hy4
  have HV4:=Qab hv4
  obtain ⟨ty4,x4,rfl⟩:=HP.out.form _ _ _ _ hv4
  have HM4:=Qab (HM3.out.trans hm4)
  have HY4:=Qab hy4
  have HC4:=Qab hc4
  have hown4:=Qbu (b:=b) HO3.out hm4 (by omega)
  have HW4:=Qab (HW3.out.imp (fun a u hu=>QgE.mod HP.out (b:=b) (w':=w4) hu hm4 (by omega)))
  have hlt3:=Qab (fun k hk=>(HO3.out.lt k hk).2)
  have HG4:=Qab (QgE.new HP.out (base:=w.heap.size) HV4.out HM3.out.size hlt3.out)
  have hz4:w.heap.size≤w4.heap.size:=HM4.out.size
  clear h4 hy4 hc4 hm4 hv4
  go_wp2_with (at_builtin;refine wpList_append_own_at _ rfl _ _ 95 rfl w.heap.size 201 i0 .nilIface 1 16 Tryz.underlying95 hi hz0 hz1 hz2 rfl (by decide) _ _ _ rfl (hown4.alloc _) ⟨w4.heap.size,0,none⟩ 1 1 [.iface ty4 x4] rfl rfl ?c1 ?c2 ?c3 ?c4 ?c5 ?_)
  case c1=>
   intro j u hj
   match j,hj with
   | 0,hj=>simp at hj;subst hj;simp [Addr.add]
  case c2=>intro u hu;simp at hu;subst hu;rfl
  case c3=>unfold maxLen;omega
  case c4=>omega
  case c5=>simp;omega
  ·intro v' w5 hown5 hgrow _ hat
   have hrow:∀ k,(u5).ownBlock=some k→w.heap.size≤k:=fun k hk=>(hown4.lt k hk).1
   have HM5:=Qab ((HM4.out.alloc (Obj.cells #[.iface ty4 x4] 201)).grown hgrow (fun k hk=>by have:=hrow k hk;omega))
   have HC5:=Qab ((HC4.out.alloc (Obj.cells #[.iface ty4 x4] 201)).grown hgrow (fun k hk=>by have:=hrow k hk;omega))
   have HO5:=Qab hown5
   have HR5:=Qab (QjN.snoc (P:=fun a u=>QgE P w.heap.size w5 v' a u) (HG4.out.grown HP.out hgrow hat) (HW4.out.imp (fun a u hu=>QgE.grown HP.out hu hgrow hat)))
   have hmw:muW w5 b t.size < muW wr b t.size:=by rw [HC5.out.muEq,HR.out.muEq];omega
   have HMW:=Qab hmw
   clear hown5 hgrow hmw hown4 hrow hat
   go_wp2
   go_roundw
   case rel=>exact ⟨z4.2,acc++[z4.1],vs++[.iface ty4 x4],f,by simpa using HO5.out,HR5.out,fun hh=>absurd hh (by simp),HC5.out,HM5.out,by omega,by simp;omega,HSP.out.trans (Qmu HY3.out H1.out HY4.out)⟩
   case measure=>exact HMW.out
end
end Go.Proofs.YtbiclelojbfnbaaGreatDoor
