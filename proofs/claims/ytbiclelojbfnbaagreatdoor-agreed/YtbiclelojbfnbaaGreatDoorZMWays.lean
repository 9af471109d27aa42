import Derived.Laws.EntriesVeiled
import Derived.Test.YtbiclelojbfnbaaGreatDoorZCLand
import Derived.Test.YtbiclelojbfnbaaGreatDoorZMPut
import Derived.Test.YtbiclelojbfnbaaGreatDoorReaderD
import Derived.Test.YtbiclelojbfnbaaGreatDoorZSMatch
namespace Go.Proofs.YtbiclelojbfnbaaGreatDoor
set_option linter.unusedVariables false
set_option linter.unusedSimpArgs false
set_option maxRecDepth 100000
set_option maxHeartbeats 4000000
section
open Go.RowKit
attribute [local go_sem ↓] Go.wp_at_zero Go.wp_at_succ
def MapIsI (es:Array MapEntry) (f:Int→Option Value):Prop:=
 (∀ e∈es.toList,∃ x,e.key=.int .i64 x∧f x=some e.val)∧∀ x v,f x=some v→∃ e∈es.toList,e.key=.int .i64 x
theorem MapIsI.keys {es:Array MapEntry} {f:Int→Option Value} (h:MapIsI es f):∀ e∈es.toList,MapKept.IsKey (.int .i64) e.key:=fun e he=>by
 obtain ⟨x,hx,_⟩:=h.1 e he
 rw [hx];rfl
theorem MapIsI.empty:MapIsI #[] (fun _=>none):=⟨fun e he=>by simp at he,fun x v h=>by cases h⟩
theorem MapIsI.push {es:Array MapEntry} {f g:Int→Option Value} (h:MapIsI es f) {x:Int} {v:Value} {c:Nat} (hn:f x=none) (hx:g x=some v) (hg:∀ z,z≠x→g z=f z):MapIsI (es.push ⟨.int .i64 x,v,c⟩) g:=by
 refine ⟨fun e he=>?_,fun z u hz=>?_⟩
 ·simp only [Array.toList_push,List.mem_append,List.mem_singleton] at he
  rcases he with he | he
  ·obtain ⟨z,h1,h2⟩:=h.1 e he
   have:z≠x:=fun e=>by rw [e,hn] at h2;cases h2
   exact ⟨z,h1,by rw [hg z this];exact h2⟩
  ·subst he;exact ⟨x,rfl,hx⟩
 ·by_cases e:z=x
  ·exact ⟨⟨.int .i64 x,v,c⟩,by simp,by rw [e]⟩
  ·rw [hg z e] at hz
   obtain ⟨y,hy,hk⟩:=h.2 z u hz
   exact ⟨y,by simp [hy],hk⟩
theorem MapIsI.congr {es:Array MapEntry} {f g:Int→Option Value} (h:MapIsI es f) (e:∀ x,f x=g x):MapIsI es g:=by
 have:f=g:=funext e
 rw [← this];exact h
theorem run_insertI {T K E:TypeId} (hT:Tryz.prog.underlying T=some (.map K E)) (hK:Tryz.prog.underlying K=some (.int .i64)) {w:World} {m:Nat} {es:Array MapEntry} {c:Nat} {f:Int→Option Value} {x:Int} (hm:w.heap[m]?=some (.map es c)) (hf:MapIsI es f) (hx:f x=none) (v:Value) :
  (Instr.mapUpdate T (.map (some m)) (.int .i64 x) v).run Tryz.prog w=.ok () (mapSet w m (.map (es.push ⟨.int .i64 x,v,c⟩) (c+1))):=by
 have hk:MapKept.IsKey (.int .i64) (.int .i64 x):=rfl
 rcases MapKept.findNow_spec hk es.toList 0 hf.keys with ⟨h1,_⟩ | ⟨j,e,h1,h2,h3⟩
 ·simp [Instr.mapUpdate,run_underlying hT,MapKept.run_getObj_map hm,MapKept.run_checkKey hK hk,MapKept.run_findKey hK h1,MapKept.run_setObj_map _ hm,Result.andThen,mapSet]
 ·obtain ⟨z,hz,hz2⟩:=hf.1 e (List.mem_of_getElem? h2)
  rw [h3] at hz
  have:x=z:=by simpa using hz
  subst this
  rw [hx] at hz2;cases hz2
theorem run_lookI {T K E:TypeId} (hT:Tryz.prog.underlying T=some (.map K E)) (hK:Tryz.prog.underlying K=some (.int .i64)) (hE:∀ W,(zeroValue E).run Tryz.prog W=.ok .nilFunc W) {w:World} {m:Nat} {es:Array MapEntry} {c:Nat} {f:Int→Option Value} (hm:w.heap[m]?=some (.map es c)) (hf:MapIsI es f) (x:Int) :
  (Instr.lookup T (.map (some m)) (.int .i64 x) false).run Tryz.prog w=.ok ((f x).getD .nilFunc) w:=by
 have hk:MapKept.IsKey (.int .i64) (.int .i64 x):=rfl
 rcases MapKept.findNow_spec hk es.toList 0 hf.keys with ⟨h1,h2⟩ | ⟨j,e,h1,h2,h3⟩
 ·have hn:f x=none:=by
   cases hfx:f x with
   | none=>rfl
   | some v=>
    obtain ⟨e,he,hke⟩:=hf.2 x v hfx
    exact absurd hke (h2 e he)
  rw [hn]
  simp [Instr.lookup,run_underlying hT,MapKept.run_getObj_map hm,MapKept.run_checkKey hK hk,MapKept.run_findKey hK h1,hE,Result.andThen]
 ·obtain ⟨z,hz,hz2⟩:=hf.1 e (List.mem_of_getElem? h2)
  rw [h3] at hz
  have:x=z:=by simpa using hz
  subst this
  rw [hz2]
  simp [Instr.lookup,run_underlying hT,MapKept.run_getObj_map hm,MapKept.run_checkKey hK hk,MapKept.run_findKey hK h1,Result.andThen]
def UnAt (w:World) (B:Nat) (lk:Value) (hf:Nat) (v:Value):Prop:=
 ∃ p q,v=.func (.func 354) #[] #[.pointer (some ⟨p,0,none⟩),.pointer (some ⟨q,0,none⟩)]∧B≤p∧B≤q∧w.heap[q]?=some (.cells #[lk] 198)∧w.heap[p]?=some (.cells #[.func (.func hf) #[] #[]] 417)
theorem UnAt.keep {w w':World} {B hf:Nat} {lk v:Value} (h:UnAt w B lk hf v) (hk:∀ k cs ty,B≤k→w.heap[k]?=some (.cells cs ty)→w'.heap[k]?=some (.cells cs ty)):UnAt w' B lk hf v:=by
 obtain ⟨p,q,hv,hp,hq,h1,h2⟩:=h
 exact ⟨p,q,hv,hp,hq,hk q _ _ hq h1,hk p _ _ hp h2⟩
def by2V (b:Nat):Value:=.func (.func 325) #[] #[.pointer (some ⟨b,0,none⟩)]
def fB (b:Nat) (L:Nat→Bool) (u11 u13:Value) (k:Int):Option Value:=
 if k=1 then (if L 3 then some u11 else none) else if k=2 then (if L 6 then some u13 else none) else if k=3 then (if L 8 then some (by2V b) else none) else none
structure JB (lk:Value) (b:Nat) (W:World) (L:Nat→Bool) (u6 u9 u11 u13 u15:Value) (w:World):Prop where
 bl:Below W.heap.size W w
 c3:L 3=true→L 2=true
 c6:L 6=true→L 5=true
 c30:L 3=true→L 0=true
 c60:L 6=true→L 0=true
 c80:L 8=true→L 0=true
 a2:L 2=true→UnAt w W.heap.size lk 323 u11
 a5:L 5=true→UnAt w W.heap.size lk 324 u13
 mp:L 0=true→∃ m es c,u9=.map (some m)∧W.heap.size≤m∧w.heap[m]?=some (.map es c)∧MapIsI es (fB b L u11 u13)
 m9:L 9=true→u15=u9∧L 0=true∧L 3=true∧L 6=true∧L 8=true∧L 2=true∧L 5=true
 m10:L 10=true→u6=u15∧L 9=true
theorem below_mapSet {B m:Nat} {W w:World} {o:Obj} (h:Below B W w) (hm:B≤m):Below B W (mapSet w m o):=
 ⟨h.os,h.tape,h.output,by rw [mapSet_size];exact h.size,fun k hk=>by rw [mapSet_other (by omega)];exact h.block k hk⟩
theorem not_yet {a b:Bool} (h:a=true→b=true) (hb:b=false):a=false:=by
 cases a with
 | false=>rfl
 | true=>rw [h rfl] at hb;cases hb
section
variable {lk:Value} {b:Nat} {W:World} {L:Nat→Bool} {u6 u9 u11 u13 u15:Value} {w:World}
theorem fB_up (i:Nat) (h:i≠3∧i≠6∧i≠8) (k:Int):fB b (up L i) u11 u13 k=fB b L u11 u13 k:=by
 unfold fB
 rw [up_other L (Ne.symm h.1),up_other L (Ne.symm h.2.1),up_other L (Ne.symm h.2.2)]
theorem JB.s0 (J:JB lk b W L u6 u9 u11 u13 u15 w) (h0:L 0=false):JB lk b W (up L 0) u6 (.map (some w.heap.size)) u11 u13 u15 (w.alloc (Obj.map #[] 0)):=by
 have hk:∀ k cs ty,W.heap.size≤k→w.heap[k]?=some (.cells cs ty)→(w.alloc (Obj.map #[] 0)).heap[k]?=some (.cells cs ty):=fun k cs ty _ h=>blk_alloc h
 have n3:=not_yet J.c30 h0
 have n6:=not_yet J.c60 h0
 have n8:=not_yet J.c80 h0
 have hz:=J.bl.size
 exact ⟨J.bl.alloc hz _,
  fun h=>up_old _ (J.c3 (by rwa [up_other L (by decide)] at h)),
  fun h=>up_old _ (J.c6 (by rwa [up_other L (by decide)] at h)),
  fun h=>absurd (by rwa [up_other L (by decide)] at h:L 3=true) (by rw [n3];decide),
  fun h=>absurd (by rwa [up_other L (by decide)] at h:L 6=true) (by rw [n6];decide),
  fun h=>absurd (by rwa [up_other L (by decide)] at h:L 8=true) (by rw [n8];decide),
  fun h=>(J.a2 (by rwa [up_other L (by decide)] at h)).keep hk,
  fun h=>(J.a5 (by rwa [up_other L (by decide)] at h)).keep hk,
  fun _=>⟨w.heap.size,#[],0,rfl,hz,blk_new _ _,MapIsI.empty.congr (fun k=>by rw [fB_up 0 (by decide)];unfold fB;simp only [n3,n6,n8];simp)⟩,
  fun h=>absurd (J.m9 (by rwa [up_other L (by decide)] at h)).2.1 (by rw [h0];decide),
  fun h=>absurd (J.m9 (J.m10 (by rwa [up_other L (by decide)] at h)).2).2.1 (by rw [h0];decide)⟩
theorem JB.s2 (J:JB lk b W L u6 u9 u11 u13 u15 w) (h0:L 2=false):JB lk b W (up L 2) u6 u9 (.func (.func 354) #[] #[.pointer (some ⟨w.heap.size+1,0,none⟩),.pointer (some ⟨w.heap.size,0,none⟩)]) u13 u15 ((w.alloc (.cells #[lk] 198)).alloc (.cells #[.func (.func 323) #[] #[]] 417)):=by
 have hk:∀ k cs ty,W.heap.size≤k→w.heap[k]?=some (.cells cs ty)→((w.alloc (.cells #[lk] 198)).alloc (.cells #[.func (.func 323) #[] #[]] 417)).heap[k]?=some (.cells cs ty):=fun k cs ty _ h=>blk_alloc (blk_alloc h)
 have hkm:∀ (m:Nat) (es:Array MapEntry) (c:Nat),w.heap[m]?=some (Obj.map es c)→((w.alloc (.cells #[lk] 198)).alloc (.cells #[.func (.func 323) #[] #[]] 417)).heap[m]?=some (Obj.map es c):=fun m es c h=>blk_alloc (blk_alloc h)
 have nn:=not_yet J.c3 h0
 have hz:=J.bl.size
 have hfe:∀ v k,fB b (up L 2) v u13 k=fB b L u11 u13 k:=fun v k=>by
  rw [fB_up 2 (by decide)]
  unfold fB
  simp only [nn,Bool.false_eq_true,if_false]
 exact ⟨(J.bl.alloc hz _).alloc (by simp;omega) _,
  fun h=>absurd (by rwa [up_other L (by decide)] at h:L 3=true) (by rw [nn];decide),
  fun h=>up_old _ (J.c6 (by rwa [up_other L (by decide)] at h)),
  fun h=>up_old _ (J.c30 (by rwa [up_other L (by decide)] at h)),
  fun h=>up_old _ (J.c60 (by rwa [up_other L (by decide)] at h)),
  fun h=>up_old _ (J.c80 (by rwa [up_other L (by decide)] at h)),
  fun _=>⟨w.heap.size+1,w.heap.size,rfl,by omega,hz,blk_alloc (blk_new _ _),blk_newAt (by simp)⟩,
  fun h=>(J.a5 (by rwa [up_other L (by decide)] at h)).keep hk,
  fun h=>by obtain ⟨m,es,c,e1,e2,e3,e4⟩:=J.mp (by rwa [up_other L (by decide)] at h);exact ⟨m,es,c,e1,e2,hkm m es c e3,e4.congr (fun k=>(hfe _ k).symm)⟩,
  fun h=>by obtain ⟨e1,e2,e3,e4,e5,e6,e7⟩:=J.m9 (by rwa [up_other L (by decide)] at h);exact ⟨e1,up_old _ e2,up_old _ e3,up_old _ e4,up_old _ e5,up_old _ e6,up_old _ e7⟩,
  fun h=>by obtain ⟨e1,e2⟩:=J.m10 (by rwa [up_other L (by decide)] at h);exact ⟨e1,up_old _ e2⟩⟩
theorem JB.s5 (J:JB lk b W L u6 u9 u11 u13 u15 w) (h0:L 5=false):JB lk b W (up L 5) u6 u9 u11 (.func (.func 354) #[] #[.pointer (some ⟨w.heap.size+1,0,none⟩),.pointer (some ⟨w.heap.size,0,none⟩)]) u15 ((w.alloc (.cells #[lk] 198)).alloc (.cells #[.func (.func 324) #[] #[]] 417)):=by
 have hk:∀ k cs ty,W.heap.size≤k→w.heap[k]?=some (.cells cs ty)→((w.alloc (.cells #[lk] 198)).alloc (.cells #[.func (.func 324) #[] #[]] 417)).heap[k]?=some (.cells cs ty):=fun k cs ty _ h=>blk_alloc (blk_alloc h)
 have hkm:∀ (m:Nat) (es:Array MapEntry) (c:Nat),w.heap[m]?=some (Obj.map es c)→((w.alloc (.cells #[lk] 198)).alloc (.cells #[.func (.func 324) #[] #[]] 417)).heap[m]?=some (Obj.map es c):=fun m es c h=>blk_alloc (blk_alloc h)
 have nn:=not_yet J.c6 h0
 have hz:=J.bl.size
 have hfe:∀ v k,fB b (up L 5) u11 v k=fB b L u11 u13 k:=fun v k=>by
  rw [fB_up 5 (by decide)]
  unfold fB
  simp only [nn,Bool.false_eq_true,if_false]
 exact ⟨(J.bl.alloc hz _).alloc (by simp;omega) _,
  fun h=>up_old _ (J.c3 (by rwa [up_other L (by decide)] at h)),
  fun h=>absurd (by rwa [up_other L (by decide)] at h:L 6=true) (by rw [nn];decide),
  fun h=>up_old _ (J.c30 (by rwa [up_other L (by decide)] at h)),
  fun h=>up_old _ (J.c60 (by rwa [up_other L (by decide)] at h)),
  fun h=>up_old _ (J.c80 (by rwa [up_other L (by decide)] at h)),
  fun h=>(J.a2 (by rwa [up_other L (by decide)] at h)).keep hk,
  fun _=>⟨w.heap.size+1,w.heap.size,rfl,by omega,hz,blk_alloc (blk_new _ _),blk_newAt (by simp)⟩,
  fun h=>by obtain ⟨m,es,c,e1,e2,e3,e4⟩:=J.mp (by rwa [up_other L (by decide)] at h);exact ⟨m,es,c,e1,e2,hkm m es c e3,e4.congr (fun k=>(hfe _ k).symm)⟩,
  fun h=>by obtain ⟨e1,e2,e3,e4,e5,e6,e7⟩:=J.m9 (by rwa [up_other L (by decide)] at h);exact ⟨e1,up_old _ e2,up_old _ e3,up_old _ e4,up_old _ e5,up_old _ e6,up_old _ e7⟩,
  fun h=>by obtain ⟨e1,e2⟩:=J.m10 (by rwa [up_other L (by decide)] at h);exact ⟨e1,up_old _ e2⟩⟩
theorem JB.s3 (J:JB lk b W L u6 u9 u11 u13 u15 w) (h0:L 3=false) (h1:L 0=true) (h2:L 2=true):∃ m es c,u9=.map (some m)∧w.heap[m]?=some (.map es c)∧MapIsI es (fB b L u11 u13)∧fB b L u11 u13 1=none∧JB lk b W (up L 3) u6 u9 u11 u13 u15 (mapSet w m (.map (es.push ⟨.int .i64 1,u11,c⟩) (c+1))):=by
 obtain ⟨m,es,c,h3,h4,h5,h6⟩:=J.mp h1
 have hn:fB b L u11 u13 1=none:=by unfold fB;simp [h0]
 have hx:fB b (up L 3) u11 u13 1=some u11:=by unfold fB;simp [up_same]
 have hg:∀ z,z≠1→fB b (up L 3) u11 u13 z=fB b L u11 u13 z:=fun z hz=>by
  unfold fB
  simp only [if_neg hz,up_other L (show (3:Nat)≠99 by decide),up_other L (show (6:Nat)≠3 by decide),up_other L (show (8:Nat)≠3 by decide)]
 have hk:∀ k cs ty,W.heap.size≤k→w.heap[k]?=some (.cells cs ty)→(mapSet w m (.map (es.push ⟨.int .i64 1,u11,c⟩) (c+1))).heap[k]?=some (.cells cs ty):=fun k cs ty _ h=>by
  rw [mapSet_other (fun e=>by rw [e,h5] at h;cases h)];exact h
 refine ⟨m,es,c,h3,h5,h6,hn,?_⟩
 exact ⟨below_mapSet J.bl h4,
  fun _=>up_old _ h2,
  fun h=>up_old _ (J.c6 (by rwa [up_other L (by decide)] at h)),
  fun _=>up_old _ h1,
  fun h=>up_old _ (J.c60 (by rwa [up_other L (by decide)] at h)),
  fun h=>up_old _ (J.c80 (by rwa [up_other L (by decide)] at h)),
  fun h=>(J.a2 (by rwa [up_other L (by decide)] at h)).keep hk,
  fun h=>(J.a5 (by rwa [up_other L (by decide)] at h)).keep hk,
  fun _=>⟨m,_,_,h3,h4,mapSet_same h5,h6.push hn hx hg⟩,
  fun h=>by obtain ⟨e1,e2,e3,e4,e5,e6,e7⟩:=J.m9 (by rwa [up_other L (by decide)] at h);exact ⟨e1,up_old _ e2,up_old _ e3,up_old _ e4,up_old _ e5,up_old _ e6,up_old _ e7⟩,
  fun h=>by obtain ⟨e1,e2⟩:=J.m10 (by rwa [up_other L (by decide)] at h);exact ⟨e1,up_old _ e2⟩⟩
theorem JB.s6 (J:JB lk b W L u6 u9 u11 u13 u15 w) (h0:L 6=false) (h1:L 0=true) (h2:L 5=true):∃ m es c,u9=.map (some m)∧w.heap[m]?=some (.map es c)∧MapIsI es (fB b L u11 u13)∧fB b L u11 u13 2=none∧JB lk b W (up L 6) u6 u9 u11 u13 u15 (mapSet w m (.map (es.push ⟨.int .i64 2,u13,c⟩) (c+1))):=by
 obtain ⟨m,es,c,h3,h4,h5,h6⟩:=J.mp h1
 have hn:fB b L u11 u13 2=none:=by unfold fB;simp [h0]
 have hx:fB b (up L 6) u11 u13 2=some u13:=by unfold fB;simp [up_same]
 have hg:∀ z,z≠2→fB b (up L 6) u11 u13 z=fB b L u11 u13 z:=fun z hz=>by
  unfold fB
  simp only [if_neg hz,up_other L (show (3:Nat)≠6 by decide),up_other L (show (6:Nat)≠99 by decide),up_other L (show (8:Nat)≠6 by decide)]
 have hk:∀ k cs ty,W.heap.size≤k→w.heap[k]?=some (.cells cs ty)→(mapSet w m (.map (es.push ⟨.int .i64 2,u13,c⟩) (c+1))).heap[k]?=some (.cells cs ty):=fun k cs ty _ h=>by
  rw [mapSet_other (fun e=>by rw [e,h5] at h;cases h)];exact h
 refine ⟨m,es,c,h3,h5,h6,hn,?_⟩
 exact ⟨below_mapSet J.bl h4,
  fun h=>up_old _ (J.c3 (by rwa [up_other L (by decide)] at h)),
  fun _=>up_old _ h2,
  fun h=>up_old _ (J.c30 (by rwa [up_other L (by decide)] at h)),
  fun _=>up_old _ h1,
  fun h=>up_old _ (J.c80 (by rwa [up_other L (by decide)] at h)),
  fun h=>(J.a2 (by rwa [up_other L (by decide)] at h)).keep hk,
  fun h=>(J.a5 (by rwa [up_other L (by decide)] at h)).keep hk,
  fun _=>⟨m,_,_,h3,h4,mapSet_same h5,h6.push hn hx hg⟩,
  fun h=>by obtain ⟨e1,e2,e3,e4,e5,e6,e7⟩:=J.m9 (by rwa [up_other L (by decide)] at h);exact ⟨e1,up_old _ e2,up_old _ e3,up_old _ e4,up_old _ e5,up_old _ e6,up_old _ e7⟩,
  fun h=>by obtain ⟨e1,e2⟩:=J.m10 (by rwa [up_other L (by decide)] at h);exact ⟨e1,up_old _ e2⟩⟩
theorem JB.s8 (J:JB lk b W L u6 u9 u11 u13 u15 w) (h0:L 8=false) (h1:L 0=true) :∃ m es c,u9=.map (some m)∧w.heap[m]?=some (.map es c)∧MapIsI es (fB b L u11 u13)∧fB b L u11 u13 3=none∧JB lk b W (up L 8) u6 u9 u11 u13 u15 (mapSet w m (.map (es.push ⟨.int .i64 3,(by2V b),c⟩) (c+1))):=by
 obtain ⟨m,es,c,h3,h4,h5,h6⟩:=J.mp h1
 have hn:fB b L u11 u13 3=none:=by unfold fB;simp [h0]
 have hx:fB b (up L 8) u11 u13 3=some (by2V b):=by unfold fB;simp [up_same]
 have hg:∀ z,z≠3→fB b (up L 8) u11 u13 z=fB b L u11 u13 z:=fun z hz=>by
  unfold fB
  simp only [if_neg hz,up_other L (show (3:Nat)≠8 by decide),up_other L (show (6:Nat)≠8 by decide),up_other L (show (8:Nat)≠99 by decide)]
 have hk:∀ k cs ty,W.heap.size≤k→w.heap[k]?=some (.cells cs ty)→(mapSet w m (.map (es.push ⟨.int .i64 3,(by2V b),c⟩) (c+1))).heap[k]?=some (.cells cs ty):=fun k cs ty _ h=>by
  rw [mapSet_other (fun e=>by rw [e,h5] at h;cases h)];exact h
 refine ⟨m,es,c,h3,h5,h6,hn,?_⟩
 exact ⟨below_mapSet J.bl h4,
  fun h=>up_old _ (J.c3 (by rwa [up_other L (by decide)] at h)),
  fun h=>up_old _ (J.c6 (by rwa [up_other L (by decide)] at h)),
  fun h=>up_old _ (J.c30 (by rwa [up_other L (by decide)] at h)),
  fun h=>up_old _ (J.c60 (by rwa [up_other L (by decide)] at h)),
  fun _=>up_old _ h1,
  fun h=>(J.a2 (by rwa [up_other L (by decide)] at h)).keep hk,
  fun h=>(J.a5 (by rwa [up_other L (by decide)] at h)).keep hk,
  fun _=>⟨m,_,_,h3,h4,mapSet_same h5,h6.push hn hx hg⟩,
  fun h=>by obtain ⟨e1,e2,e3,e4,e5,e6,e7⟩:=J.m9 (by rwa [up_other L (by decide)] at h);exact ⟨e1,up_old _ e2,up_old _ e3,up_old _ e4,up_old _ e5,up_old _ e6,up_old _ e7⟩,
  fun h=>by obtain ⟨e1,e2⟩:=J.m10 (by rwa [up_other L (by decide)] at h);exact ⟨e1,up_old _ e2⟩⟩
theorem JB.s9 (J:JB lk b W L u6 u9 u11 u13 u15 w) (h0:L 9=false) (i0:L 0=true) (i3:L 3=true) (i6:L 6=true) (i8:L 8=true) (i2:L 2=true) (i5:L 5=true):JB lk b W (up L 9) u6 u9 u11 u13 u9 w:=by
 have hk:∀ k cs ty,W.heap.size≤k→w.heap[k]?=some (.cells cs ty)→w.heap[k]?=some (.cells cs ty):=fun k cs ty _ h=>h
 have hkm:∀ (m:Nat) (es:Array MapEntry) (c:Nat),w.heap[m]?=some (Obj.map es c)→w.heap[m]?=some (Obj.map es c):=fun m es c h=>h
 exact ⟨J.bl,
  fun h=>up_old _ (J.c3 (by rwa [up_other L (by decide)] at h)),
  fun h=>up_old _ (J.c6 (by rwa [up_other L (by decide)] at h)),
  fun h=>up_old _ (J.c30 (by rwa [up_other L (by decide)] at h)),
  fun h=>up_old _ (J.c60 (by rwa [up_other L (by decide)] at h)),
  fun h=>up_old _ (J.c80 (by rwa [up_other L (by decide)] at h)),
  fun h=>(J.a2 (by rwa [up_other L (by decide)] at h)).keep hk,
  fun h=>(J.a5 (by rwa [up_other L (by decide)] at h)).keep hk,
  fun h=>by obtain ⟨m,es,c,e1,e2,e3,e4⟩:=J.mp (by rwa [up_other L (by decide)] at h);exact ⟨m,es,c,e1,e2,hkm m es c e3,e4.congr (fun k=>(fB_up 9 (by decide) k).symm)⟩,
  fun _=>⟨rfl,up_old _ i0,up_old _ i3,up_old _ i6,up_old _ i8,up_old _ i2,up_old _ i5⟩,
  fun h=>absurd (J.m10 (by rwa [up_other L (by decide)] at h)).2 (by rw [h0];decide)⟩
theorem JB.s10 (J:JB lk b W L u6 u9 u11 u13 u15 w) (h0:L 10=false) (i9:L 9=true):JB lk b W (up L 10) u15 u9 u11 u13 u15 w:=by
 have hk:∀ k cs ty,W.heap.size≤k→w.heap[k]?=some (.cells cs ty)→w.heap[k]?=some (.cells cs ty):=fun k cs ty _ h=>h
 have hkm:∀ (m:Nat) (es:Array MapEntry) (c:Nat),w.heap[m]?=some (Obj.map es c)→w.heap[m]?=some (Obj.map es c):=fun m es c h=>h
 exact ⟨J.bl,
  fun h=>up_old _ (J.c3 (by rwa [up_other L (by decide)] at h)),
  fun h=>up_old _ (J.c6 (by rwa [up_other L (by decide)] at h)),
  fun h=>up_old _ (J.c30 (by rwa [up_other L (by decide)] at h)),
  fun h=>up_old _ (J.c60 (by rwa [up_other L (by decide)] at h)),
  fun h=>up_old _ (J.c80 (by rwa [up_other L (by decide)] at h)),
  fun h=>(J.a2 (by rwa [up_other L (by decide)] at h)).keep hk,
  fun h=>(J.a5 (by rwa [up_other L (by decide)] at h)).keep hk,
  fun h=>by obtain ⟨m,es,c,e1,e2,e3,e4⟩:=J.mp (by rwa [up_other L (by decide)] at h);exact ⟨m,es,c,e1,e2,hkm m es c e3,e4.congr (fun k=>(fB_up 10 (by decide) k).symm)⟩,
  fun h=>by obtain ⟨e1,e2,e3,e4,e5,e6,e7⟩:=J.m9 (by rwa [up_other L (by decide)] at h);exact ⟨e1,up_old _ e2,up_old _ e3,up_old _ e4,up_old _ e5,up_old _ e6,up_old _ e7⟩,
  fun _=>⟨rfl,up_old _ i9⟩⟩
end
theorem Tryz.zeroWay:∀ W,(zeroValue 392).run Tryz.prog W=.ok .nilFunc W:=fun W=>by kernel_rfl
theorem comparatorS (w:World):Calls Tryz.prog 321 #[.bool false] w fun e w'=>e=.returned (.func (.func 247) #[] #[])∧w'=w:=comparator_any false w
theorem untoldS (hf:Nat) (w:World) :
  Calls Tryz.prog 322 #[(.func (.func 247) #[] #[]),.func (.func hf) #[] #[]] w fun e w'=>e=.returned (.func (.func 354) #[] #[.pointer (some ⟨w.heap.size+1,0,none⟩),.pointer (some ⟨w.heap.size,0,none⟩)])∧w'=(w.alloc (.cells #[(.func (.func 247) #[] #[])] 198)).alloc (.cells #[.func (.func hf) #[] #[]] 417):=by
 have hmf:∀ (fn:Fn) (first cap:Array Value) (w:World),(Instr.makeFunc fn first cap).run Tryz.prog w=.ok (.func fn first cap) w:=fun _ _ _ _=>rfl
 go_enter Tryz.func322,Tryz.ntmps322
 go_wp2
 go_ret
 exact ⟨rfl,rfl⟩
def tmBS (tag:Int) (b:Nat) (u6 u9 u11 u13 u15:Value):Act:=
 { tmps:=#[.int .i64 tag,.bool false,undef,undef,.nilFunc,.pointer (some ⟨b,0,none⟩),u6,.bool false,(.func (.func 247) #[] #[]),u9,(.func (.func 247) #[] #[]),u11,(.func (.func 247) #[] #[]),u13,by2V b,u15,undef,undef,undef],defers:=[] }
def JJBS (tag:Int) (b:Nat) (W:World) (l:Array Bool) (a:Act) (w:World):Prop:=
 l.size=11∧(∀ i∈[1,4,7],l.getD i false=true)∧∃ u6 u9 u11 u13 u15,a=tmBS tag b u6 u9 u11 u13 u15∧JB (.func (.func 247) #[] #[]) b W (fun j=>l.getD j false) u6 u9 u11 u13 u15 w
theorem JJBS.next {tag:Int} {b:Nat} {W:World} {l:Array Bool} {i:Nat} {u6 u9 u11 u13 u15:Value} {w:World} (hl:l.size=11) (ht:∀ i∈[1,4,7],l.getD i false=true) (hi:i < 11) (J:JB (.func (.func 247) #[] #[]) b W (up (fun j=>l.getD j false) i) u6 u9 u11 u13 u15 w):JJBS tag b W (l.setIfInBounds i true) (tmBS tag b u6 u9 u11 u13 u15) w:=
 ⟨by simp [hl],fun k hk=>getD_set_true (ht k hk),u6,u9,u11,u13,u15,rfl,by rw [getD_up (by omega)];exact J⟩
theorem byS (tag:Int) (w:World) :
  Calls Tryz.prog 270 #[.int .i64 tag,.bool false] w fun e w'=>(∃ wv,e=.returned wv∧((1≤tag∧tag≤3∧WayV w' tag false wv)∨(¬ (1≤tag∧tag≤3)∧wv=.nilFunc)))∧Below w.heap.size w w':=by
 have hmf:∀ (fn:Fn) (first cap:Array Value) (w:World),(Instr.makeFunc fn first cap).run Tryz.prog w=.ok (.func fn first cap) w:=fun _ _ _ _=>rfl
 have hmm:∀ (w:World),(Instr.makeMap 438 none).run Tryz.prog w=.ok (.map (some w.heap.size)) (w.alloc (Obj.map #[] 0)):=fun _=>rfl
 go_enter Tryz.func270,Tryz.ntmps270
 go_wp2_with (go_at_call 321;refine (comparatorS _).mono ?_;rintro e w' ⟨rfl,hww⟩;subst w')
 obtain ⟨W,hW⟩:∃ W,W=w.alloc (.cells #[(.func (.func 247) #[] #[])] 198):=⟨_,rfl⟩
 have hWb:W.heap[w.heap.size]?=some (.cells #[(.func (.func 247) #[] #[])] 198):=by rw [hW];exact blk_new _ _
 have hWB:Below w.heap.size w W:=by rw [hW];exact (Below.refl _ _).alloc (Nat.le_refl _) _
 have hWl:=blk_lt hWb
 rw [← hW]
 clear hW
 refine wp_region_held (S:=fun w'=>w'.cell? ⟨w.heap.size,0,none⟩=some (.func (.func 247) #[] #[])) (by kernel_rfl) ?_
 have hS:({ W with drawn:=W.drawn+1 }:World).cell? ⟨w.heap.size,0,none⟩=some (.func (.func 247) #[] #[]):=blk_cell (w:={ W with drawn:=W.drawn+1 }) hWb 0
 refine wpAnyH_take (i:=1) (v:=(.func (.func 247) #[] #[])) rfl (by kernel_rfl) (by kernel_rfl) (by kernel_rfl) (fun _ _ _ h=>h) (Or.inl ⟨by rfl,?_⟩) hS ?_
 ·intro w' hSw;(try dsimp only at hSw);(try unfold by2V);go_simp
 change wpAnyH _ _ _ _ _ _ _ (Act.put _ (some 10) _) _
 simp only [Act.put,List.setIfInBounds_toArray,List.set_cons_zero,List.set_cons_succ]
 refine wpAnyH_take (i:=4) (v:=(.func (.func 247) #[] #[])) rfl (by kernel_rfl) (by kernel_rfl) (by kernel_rfl) (fun _ _ _ h=>h) (Or.inl ⟨by rfl,?_⟩) hS ?_
 ·intro w' hSw;(try dsimp only at hSw);(try unfold by2V);go_simp
 change wpAnyH _ _ _ _ _ _ _ (Act.put _ (some 12) _) _
 simp only [Act.put,List.setIfInBounds_toArray,List.set_cons_zero,List.set_cons_succ]
 refine wpAnyH_take (i:=7) (v:=(by2V w.heap.size)) rfl (by kernel_rfl) (by kernel_rfl) (by kernel_rfl) (fun _ _ _ h=>h) (Or.inl ⟨by rfl,?_⟩) hS ?_
 ·intro w' hSw;(try dsimp only at hSw);(try unfold by2V);go_simp
 change wpAnyH _ _ _ _ _ _ _ (Act.put _ (some 14) _) _
 simp only [Act.put,List.setIfInBounds_toArray,List.set_cons_zero,List.set_cons_succ]
 refine wpAnyH_inv (JJBS tag w.heap.size W) (fun l a w' h=>by rw [h.1];rfl) (fun l a w' h=>?hSS) (fun l a w' i h hi=>?hstep) (fun l a w' h hr=>?hdone) _ _ _ _ (by decide) ?hinit
 case hSS=>
  obtain ⟨_,_,_,_,_,_,_,_,J⟩:=h
  exact blk_cell (blk_below hWb J.bl) 0
 case hinit=>
  refine ⟨rfl,by decide,undef,undef,undef,undef,undef,rfl,?_⟩
  exact ⟨below_drew1 (Below.refl _ _),fun h=>absurd h (by decide),fun h=>absurd h (by decide),fun h=>absurd h (by decide),fun h=>absurd h (by decide),fun h=>absurd h (by decide),fun h=>absurd h (by decide),fun h=>absurd h (by decide),fun h=>absurd h (by decide),fun h=>absurd h (by decide),fun h=>absurd h (by decide)⟩
 case hdone=>
  obtain ⟨hl,htk,u6,u9,u11,u13,u15,rfl,J⟩:=h
  have hal:=ready_nil_all hl (by kernel_rfl) hr
  obtain ⟨e10,_⟩:=J.m10 (hal 10 (by decide))
  obtain ⟨e9,h0,h3,h6,h8,h2,h5⟩:=J.m9 (hal 9 (by decide))
  obtain ⟨m,es,c,e1,hm1,hm2,hf⟩:=J.mp h0
  subst e10 e9 e1
  have hlk:=run_lookI Tryz.underlying438 Tryz.underlying3 Tryz.zeroWay hm2 hf tag
  have HB:=hide (hWB.trans (J.bl.mono hWB.size))
  have HA2:=hide (J.a2 h2)
  have HA5:=hide (J.a5 h5)
  have HWc:Hid (w'.cell? ⟨w.heap.size,0,none⟩=some (.func (.func 247) #[] #[])):=blk_cell (blk_below hWb J.bl) 0
  have hfv:fB w.heap.size (fun j=>l.getD j false) u11 u13 tag=if tag=1 then some u11 else if tag=2 then some u13 else if tag=3 then some (by2V w.heap.size) else none:=by
   unfold fB
   rw [if_pos h3,if_pos h6,if_pos h8]
  rw [hfv] at hlk
  clear J hal hr htk hl hS hm2 hf h0 h3 h6 h8 h2 h5 hfv
  unfold tmBS
  by_cases t1:tag=1
  ·subst t1
   rw [if_pos rfl] at hlk
   obtain ⟨p,q,rfl,hp,hq,b1,b2⟩:=HA2.out
   have HV:Hid (WayV w' 1 false (.func (.func 354) #[] #[.pointer (some ⟨p,0,none⟩),.pointer (some ⟨q,0,none⟩)])):=Or.inr ⟨p,q,rfl,blk_cell b1 0,Or.inl ⟨rfl,blk_cell b2 0⟩⟩
   clear b1 b2
   simp only [Option.getD_some] at hlk
   go_wp2
   go_ret
   exact ⟨⟨_,rfl,Or.inl ⟨by decide,by decide,HV.out⟩⟩,HB.out⟩
  by_cases t2:tag=2
  ·subst t2
   rw [if_neg t1,if_pos rfl] at hlk
   obtain ⟨p,q,rfl,hp,hq,b1,b2⟩:=HA5.out
   have HV:Hid (WayV w' 2 false (.func (.func 354) #[] #[.pointer (some ⟨p,0,none⟩),.pointer (some ⟨q,0,none⟩)])):=Or.inr ⟨p,q,rfl,blk_cell b1 0,Or.inr ⟨rfl,blk_cell b2 0⟩⟩
   clear b1 b2
   simp only [Option.getD_some] at hlk
   go_wp2
   go_ret
   exact ⟨⟨_,rfl,Or.inl ⟨by decide,by decide,HV.out⟩⟩,HB.out⟩
  by_cases t3:tag=3
  ·subst t3
   rw [if_neg t1,if_neg t2,if_pos rfl] at hlk
   have HV:Hid (WayV w' 3 false (by2V w.heap.size)):=Or.inl ⟨rfl,w.heap.size,rfl,HWc.out⟩
   simp only [Option.getD_some] at hlk
   unfold by2V at hlk HV ⊢
   go_wp2
   go_ret
   exact ⟨⟨_,rfl,Or.inl ⟨by decide,by decide,HV.out⟩⟩,HB.out⟩
  ·rw [if_neg t1,if_neg t2,if_neg t3] at hlk
   simp only [Option.getD_none] at hlk
   have hno:¬ (1≤tag∧tag≤3):=by omega
   clear t1 t2 t3
   go_wp2
   go_ret
   exact ⟨⟨_,rfl,Or.inr ⟨hno,rfl⟩⟩,HB.out⟩
 case hstep=>
  obtain ⟨hl,htk,u6,u9,u11,u13,u15,rfl,J⟩:=h
  obtain ⟨h0,o,ho,hall⟩:=mem_ready.1 hi
  have hi11:i < 11:=(Array.getElem?_eq_some_iff.1 ho).1
  have h0':l.getD i false=false:=by
   have:i < l.size:=by omega
   simp [this] at h0 ⊢
   exact h0
  clear h0
  rcases (by omega:i=0∨i=1∨i=2∨i=3∨i=4∨i=5∨i=6∨i=7∨i=8∨i=9∨i=10) with hh | hh | hh | hh | hh | hh | hh | hh | hh | hh | hh <;> subst hh
  ·clear ho hall hi
   refine wpOp_of rfl (by rfl) ?_
   unfold tmBS
   go_simp
   exact JJBS.next hl htk (by decide) (J.s0 h0')
  ·rw [htk 1 (by decide)] at h0';cases h0'
  ·clear ho hall hi
   refine wpOp_of rfl (by rfl) ?_
   unfold tmBS
   go_simp
   refine (untoldS _ _).mono ?_
   rintro e w2 ⟨rfl,rfl⟩
   exact JJBS.next hl htk (by decide) (J.s2 h0')
  ·have ho2:=Option.some.inj (show some _=some o from ho)
   subst ho2
   have h1:=hall { on:=0,ground:=.data } (by simp) rfl
   have h2:=hall { on:=2,ground:=.data } (by simp) rfl
   clear ho hall hi
   obtain ⟨m,es,c,rfl,hm,hf,hn,J'⟩:=J.s3 h0' h1 h2
   have hrun:(Instr.mapUpdate 438 (.map (some m)) (.int .i64 1) u11).run Tryz.prog w'=.ok () _:=run_insertI Tryz.underlying438 Tryz.underlying3 hm hf hn _
   refine wpOp_of rfl (by rfl) ?_
   unfold tmBS
   go_simp
   exact JJBS.next hl htk (by decide) J'
  ·rw [htk 4 (by decide)] at h0';cases h0'
  ·clear ho hall hi
   refine wpOp_of rfl (by rfl) ?_
   unfold tmBS
   go_simp
   refine (untoldS _ _).mono ?_
   rintro e w2 ⟨rfl,rfl⟩
   exact JJBS.next hl htk (by decide) (J.s5 h0')
  ·have ho2:=Option.some.inj (show some _=some o from ho)
   subst ho2
   have h1:=hall { on:=0,ground:=.data } (by simp) rfl
   have h2:=hall { on:=5,ground:=.data } (by simp) rfl
   clear ho hall hi
   obtain ⟨m,es,c,rfl,hm,hf,hn,J'⟩:=J.s6 h0' h1 h2
   have hrun:(Instr.mapUpdate 438 (.map (some m)) (.int .i64 2) u13).run Tryz.prog w'=.ok () _:=run_insertI Tryz.underlying438 Tryz.underlying3 hm hf hn _
   refine wpOp_of rfl (by rfl) ?_
   unfold tmBS
   go_simp
   exact JJBS.next hl htk (by decide) J'
  ·rw [htk 7 (by decide)] at h0';cases h0'
  ·have ho2:=Option.some.inj (show some _=some o from ho)
   subst ho2
   have h1:=hall { on:=0,ground:=.data } (by simp) rfl
   clear ho hall hi
   obtain ⟨m,es,c,rfl,hm,hf,hn,J'⟩:=J.s8 h0' h1
   have hrun:(Instr.mapUpdate 438 (.map (some m)) (.int .i64 3) (by2V w.heap.size)).run Tryz.prog w'=.ok () _:=run_insertI Tryz.underlying438 Tryz.underlying3 hm hf hn _
   refine wpOp_of rfl (by rfl) ?_
   unfold tmBS
   go_simp
   exact JJBS.next hl htk (by decide) J'
  ·have ho2:=Option.some.inj (show some _=some o from ho)
   subst ho2
   have i0:=hall { on:=0,ground:=.data } (by simp) rfl
   have i2:=hall { on:=2,ground:=.data } (by simp) rfl
   have i3:=hall { on:=3,ground:=.data } (by simp) rfl
   have i5:=hall { on:=5,ground:=.data } (by simp) rfl
   have i6:=hall { on:=6,ground:=.data } (by simp) rfl
   have i8:=hall { on:=8,ground:=.data } (by simp) rfl
   clear ho hall hi
   refine wpOp_of rfl (by rfl) ?_
   unfold tmBS
   go_simp
   exact JJBS.next hl htk (by decide) (J.s9 h0' i0 i3 i6 i8 i2 i5)
  ·have ho2:=Option.some.inj (show some _=some o from ho)
   subst ho2
   have i9:=hall { on:=9,ground:=.data } (by simp) rfl
   clear ho hall hi
   refine wpOp_of rfl (by rfl) ?_
   unfold tmBS
   go_simp
   exact JJBS.next hl htk (by decide) (J.s10 h0' i9)
theorem comparatorO (w:World):Calls Tryz.prog 321 #[.bool true] w fun e w'=>e=.returned (.func (.func 353) #[] #[])∧w'=w:=comparator_any true w
theorem untoldO (hf:Nat) (w:World) :
  Calls Tryz.prog 322 #[(.func (.func 353) #[] #[]),.func (.func hf) #[] #[]] w fun e w'=>e=.returned (.func (.func 354) #[] #[.pointer (some ⟨w.heap.size+1,0,none⟩),.pointer (some ⟨w.heap.size,0,none⟩)])∧w'=(w.alloc (.cells #[(.func (.func 353) #[] #[])] 198)).alloc (.cells #[.func (.func hf) #[] #[]] 417):=by
 have hmf:∀ (fn:Fn) (first cap:Array Value) (w:World),(Instr.makeFunc fn first cap).run Tryz.prog w=.ok (.func fn first cap) w:=fun _ _ _ _=>rfl
 go_enter Tryz.func322,Tryz.ntmps322
 go_wp2
 go_ret
 exact ⟨rfl,rfl⟩
def tmBO (tag:Int) (b:Nat) (u6 u9 u11 u13 u15:Value):Act:=
 { tmps:=#[.int .i64 tag,.bool true,undef,undef,.nilFunc,.pointer (some ⟨b,0,none⟩),u6,.bool true,(.func (.func 353) #[] #[]),u9,(.func (.func 353) #[] #[]),u11,(.func (.func 353) #[] #[]),u13,by2V b,u15,undef,undef,undef],defers:=[] }
def JJBO (tag:Int) (b:Nat) (W:World) (l:Array Bool) (a:Act) (w:World):Prop:=
 l.size=11∧(∀ i∈[1,4,7],l.getD i false=true)∧∃ u6 u9 u11 u13 u15,a=tmBO tag b u6 u9 u11 u13 u15∧JB (.func (.func 353) #[] #[]) b W (fun j=>l.getD j false) u6 u9 u11 u13 u15 w
theorem JJBO.next {tag:Int} {b:Nat} {W:World} {l:Array Bool} {i:Nat} {u6 u9 u11 u13 u15:Value} {w:World} (hl:l.size=11) (ht:∀ i∈[1,4,7],l.getD i false=true) (hi:i < 11) (J:JB (.func (.func 353) #[] #[]) b W (up (fun j=>l.getD j false) i) u6 u9 u11 u13 u15 w):JJBO tag b W (l.setIfInBounds i true) (tmBO tag b u6 u9 u11 u13 u15) w:=
 ⟨by simp [hl],fun k hk=>getD_set_true (ht k hk),u6,u9,u11,u13,u15,rfl,by rw [getD_up (by omega)];exact J⟩
theorem byO (tag:Int) (w:World) :
  Calls Tryz.prog 270 #[.int .i64 tag,.bool true] w fun e w'=>(∃ wv,e=.returned wv∧((1≤tag∧tag≤3∧WayV w' tag true wv)∨(¬ (1≤tag∧tag≤3)∧wv=.nilFunc)))∧Below w.heap.size w w':=by
 have hmf:∀ (fn:Fn) (first cap:Array Value) (w:World),(Instr.makeFunc fn first cap).run Tryz.prog w=.ok (.func fn first cap) w:=fun _ _ _ _=>rfl
 have hmm:∀ (w:World),(Instr.makeMap 438 none).run Tryz.prog w=.ok (.map (some w.heap.size)) (w.alloc (Obj.map #[] 0)):=fun _=>rfl
 go_enter Tryz.func270,Tryz.ntmps270
 go_wp2_with (go_at_call 321;refine (comparatorO _).mono ?_;rintro e w' ⟨rfl,hww⟩;subst w')
 obtain ⟨W,hW⟩:∃ W,W=w.alloc (.cells #[(.func (.func 353) #[] #[])] 198):=⟨_,rfl⟩
 have hWb:W.heap[w.heap.size]?=some (.cells #[(.func (.func 353) #[] #[])] 198):=by rw [hW];exact blk_new _ _
 have hWB:Below w.heap.size w W:=by rw [hW];exact (Below.refl _ _).alloc (Nat.le_refl _) _
 have hWl:=blk_lt hWb
 rw [← hW]
 clear hW
 refine wp_region_held (S:=fun w'=>w'.cell? ⟨w.heap.size,0,none⟩=some (.func (.func 353) #[] #[])) (by kernel_rfl) ?_
 have hS:({ W with drawn:=W.drawn+1 }:World).cell? ⟨w.heap.size,0,none⟩=some (.func (.func 353) #[] #[]):=blk_cell (w:={ W with drawn:=W.drawn+1 }) hWb 0
 refine wpAnyH_take (i:=1) (v:=(.func (.func 353) #[] #[])) rfl (by kernel_rfl) (by kernel_rfl) (by kernel_rfl) (fun _ _ _ h=>h) (Or.inl ⟨by rfl,?_⟩) hS ?_
 ·intro w' hSw;(try dsimp only at hSw);(try unfold by2V);go_simp
 change wpAnyH _ _ _ _ _ _ _ (Act.put _ (some 10) _) _
 simp only [Act.put,List.setIfInBounds_toArray,List.set_cons_zero,List.set_cons_succ]
 refine wpAnyH_take (i:=4) (v:=(.func (.func 353) #[] #[])) rfl (by kernel_rfl) (by kernel_rfl) (by kernel_rfl) (fun _ _ _ h=>h) (Or.inl ⟨by rfl,?_⟩) hS ?_
 ·intro w' hSw;(try dsimp only at hSw);(try unfold by2V);go_simp
 change wpAnyH _ _ _ _ _ _ _ (Act.put _ (some 12) _) _
 simp only [Act.put,List.setIfInBounds_toArray,List.set_cons_zero,List.set_cons_succ]
 refine wpAnyH_take (i:=7) (v:=(by2V w.heap.size)) rfl (by kernel_rfl) (by kernel_rfl) (by kernel_rfl) (fun _ _ _ h=>h) (Or.inl ⟨by rfl,?_⟩) hS ?_
 ·intro w' hSw;(try dsimp only at hSw);(try unfold by2V);go_simp
 change wpAnyH _ _ _ _ _ _ _ (Act.put _ (some 14) _) _
 simp only [Act.put,List.setIfInBounds_toArray,List.set_cons_zero,List.set_cons_succ]
 refine wpAnyH_inv (JJBO tag w.heap.size W) (fun l a w' h=>by rw [h.1];rfl) (fun l a w' h=>?hSS) (fun l a w' i h hi=>?hstep) (fun l a w' h hr=>?hdone) _ _ _ _ (by decide) ?hinit
 case hSS=>
  obtain ⟨_,_,_,_,_,_,_,_,J⟩:=h
  exact blk_cell (blk_below hWb J.bl) 0
 case hinit=>
  refine ⟨rfl,by decide,undef,undef,undef,undef,undef,rfl,?_⟩
  exact ⟨below_drew1 (Below.refl _ _),fun h=>absurd h (by decide),fun h=>absurd h (by decide),fun h=>absurd h (by decide),fun h=>absurd h (by decide),fun h=>absurd h (by decide),fun h=>absurd h (by decide),fun h=>absurd h (by decide),fun h=>absurd h (by decide),fun h=>absurd h (by decide),fun h=>absurd h (by decide)⟩
 case hdone=>
  obtain ⟨hl,htk,u6,u9,u11,u13,u15,rfl,J⟩:=h
  have hal:=ready_nil_all hl (by kernel_rfl) hr
  obtain ⟨e10,_⟩:=J.m10 (hal 10 (by decide))
  obtain ⟨e9,h0,h3,h6,h8,h2,h5⟩:=J.m9 (hal 9 (by decide))
  obtain ⟨m,es,c,e1,hm1,hm2,hf⟩:=J.mp h0
  subst e10 e9 e1
  have hlk:=run_lookI Tryz.underlying438 Tryz.underlying3 Tryz.zeroWay hm2 hf tag
  have HB:=hide (hWB.trans (J.bl.mono hWB.size))
  have HA2:=hide (J.a2 h2)
  have HA5:=hide (J.a5 h5)
  have HWc:Hid (w'.cell? ⟨w.heap.size,0,none⟩=some (.func (.func 353) #[] #[])):=blk_cell (blk_below hWb J.bl) 0
  have hfv:fB w.heap.size (fun j=>l.getD j false) u11 u13 tag=if tag=1 then some u11 else if tag=2 then some u13 else if tag=3 then some (by2V w.heap.size) else none:=by
   unfold fB
   rw [if_pos h3,if_pos h6,if_pos h8]
  rw [hfv] at hlk
  clear J hal hr htk hl hS hm2 hf h0 h3 h6 h8 h2 h5 hfv
  unfold tmBO
  by_cases t1:tag=1
  ·subst t1
   rw [if_pos rfl] at hlk
   obtain ⟨p,q,rfl,hp,hq,b1,b2⟩:=HA2.out
   have HV:Hid (WayV w' 1 true (.func (.func 354) #[] #[.pointer (some ⟨p,0,none⟩),.pointer (some ⟨q,0,none⟩)])):=Or.inr ⟨p,q,rfl,blk_cell b1 0,Or.inl ⟨rfl,blk_cell b2 0⟩⟩
   clear b1 b2
   simp only [Option.getD_some] at hlk
   go_wp2
   go_ret
   exact ⟨⟨_,rfl,Or.inl ⟨by decide,by decide,HV.out⟩⟩,HB.out⟩
  by_cases t2:tag=2
  ·subst t2
   rw [if_neg t1,if_pos rfl] at hlk
   obtain ⟨p,q,rfl,hp,hq,b1,b2⟩:=HA5.out
   have HV:Hid (WayV w' 2 true (.func (.func 354) #[] #[.pointer (some ⟨p,0,none⟩),.pointer (some ⟨q,0,none⟩)])):=Or.inr ⟨p,q,rfl,blk_cell b1 0,Or.inr ⟨rfl,blk_cell b2 0⟩⟩
   clear b1 b2
   simp only [Option.getD_some] at hlk
   go_wp2
   go_ret
   exact ⟨⟨_,rfl,Or.inl ⟨by decide,by decide,HV.out⟩⟩,HB.out⟩
  by_cases t3:tag=3
  ·subst t3
   rw [if_neg t1,if_neg t2,if_pos rfl] at hlk
   have HV:Hid (WayV w' 3 true (by2V w.heap.size)):=Or.inl ⟨rfl,w.heap.size,rfl,HWc.out⟩
   simp only [Option.getD_some] at hlk
   unfold by2V at hlk HV ⊢
   go_wp2
   go_ret
   exact ⟨⟨_,rfl,Or.inl ⟨by decide,by decide,HV.out⟩⟩,HB.out⟩
  ·rw [if_neg t1,if_neg t2,if_neg t3] at hlk
   simp only [Option.getD_none] at hlk
   have hno:¬ (1≤tag∧tag≤3):=by omega
   clear t1 t2 t3
   go_wp2
   go_ret
   exact ⟨⟨_,rfl,Or.inr ⟨hno,rfl⟩⟩,HB.out⟩
 case hstep=>
  obtain ⟨hl,htk,u6,u9,u11,u13,u15,rfl,J⟩:=h
  obtain ⟨h0,o,ho,hall⟩:=mem_ready.1 hi
  have hi11:i < 11:=(Array.getElem?_eq_some_iff.1 ho).1
  have h0':l.getD i false=false:=by
   have:i < l.size:=by omega
   simp [this] at h0 ⊢
   exact h0
  clear h0
  rcases (by omega:i=0∨i=1∨i=2∨i=3∨i=4∨i=5∨i=6∨i=7∨i=8∨i=9∨i=10) with hh | hh | hh | hh | hh | hh | hh | hh | hh | hh | hh <;> subst hh
  ·clear ho hall hi
   refine wpOp_of rfl (by rfl) ?_
   unfold tmBO
   go_simp
   exact JJBO.next hl htk (by decide) (J.s0 h0')
  ·rw [htk 1 (by decide)] at h0';cases h0'
  ·clear ho hall hi
   refine wpOp_of rfl (by rfl) ?_
   unfold tmBO
   go_simp
   refine (untoldO _ _).mono ?_
   rintro e w2 ⟨rfl,rfl⟩
   exact JJBO.next hl htk (by decide) (J.s2 h0')
  ·have ho2:=Option.some.inj (show some _=some o from ho)
   subst ho2
   have h1:=hall { on:=0,ground:=.data } (by simp) rfl
   have h2:=hall { on:=2,ground:=.data } (by simp) rfl
   clear ho hall hi
   obtain ⟨m,es,c,rfl,hm,hf,hn,J'⟩:=J.s3 h0' h1 h2
   have hrun:(Instr.mapUpdate 438 (.map (some m)) (.int .i64 1) u11).run Tryz.prog w'=.ok () _:=run_insertI Tryz.underlying438 Tryz.underlying3 hm hf hn _
   refine wpOp_of rfl (by rfl) ?_
   unfold tmBO
   go_simp
   exact JJBO.next hl htk (by decide) J'
  ·rw [htk 4 (by decide)] at h0';cases h0'
  ·clear ho hall hi
   refine wpOp_of rfl (by rfl) ?_
   unfold tmBO
   go_simp
   refine (untoldO _ _).mono ?_
   rintro e w2 ⟨rfl,rfl⟩
   exact JJBO.next hl htk (by decide) (J.s5 h0')
  ·have ho2:=Option.some.inj (show some _=some o from ho)
   subst ho2
   have h1:=hall { on:=0,ground:=.data } (by simp) rfl
   have h2:=hall { on:=5,ground:=.data } (by simp) rfl
   clear ho hall hi
   obtain ⟨m,es,c,rfl,hm,hf,hn,J'⟩:=J.s6 h0' h1 h2
   have hrun:(Instr.mapUpdate 438 (.map (some m)) (.int .i64 2) u13).run Tryz.prog w'=.ok () _:=run_insertI Tryz.underlying438 Tryz.underlying3 hm hf hn _
   refine wpOp_of rfl (by rfl) ?_
   unfold tmBO
   go_simp
   exact JJBO.next hl htk (by decide) J'
  ·rw [htk 7 (by decide)] at h0';cases h0'
  ·have ho2:=Option.some.inj (show some _=some o from ho)
   subst ho2
   have h1:=hall { on:=0,ground:=.data } (by simp) rfl
   clear ho hall hi
   obtain ⟨m,es,c,rfl,hm,hf,hn,J'⟩:=J.s8 h0' h1
   have hrun:(Instr.mapUpdate 438 (.map (some m)) (.int .i64 3) (by2V w.heap.size)).run Tryz.prog w'=.ok () _:=run_insertI Tryz.underlying438 Tryz.underlying3 hm hf hn _
   refine wpOp_of rfl (by rfl) ?_
   unfold tmBO
   go_simp
   exact JJBO.next hl htk (by decide) J'
  ·have ho2:=Option.some.inj (show some _=some o from ho)
   subst ho2
   have i0:=hall { on:=0,ground:=.data } (by simp) rfl
   have i2:=hall { on:=2,ground:=.data } (by simp) rfl
   have i3:=hall { on:=3,ground:=.data } (by simp) rfl
   have i5:=hall { on:=5,ground:=.data } (by simp) rfl
   have i6:=hall { on:=6,ground:=.data } (by simp) rfl
   have i8:=hall { on:=8,ground:=.data } (by simp) rfl
   clear ho hall hi
   refine wpOp_of rfl (by rfl) ?_
   unfold tmBO
   go_simp
   exact JJBO.next hl htk (by decide) (J.s9 h0' i0 i3 i6 i8 i2 i5)
  ·have ho2:=Option.some.inj (show some _=some o from ho)
   subst ho2
   have i9:=hall { on:=9,ground:=.data } (by simp) rfl
   clear ho hall hi
   refine wpOp_of rfl (by rfl) ?_
   unfold tmBO
   go_simp
   exact JJBO.next hl htk (by decide) (J.s10 h0' i9)
end
section
open Go.RowKit
attribute [local go_sem ↓] Go.wp_at_zero Go.wp_at_succ
theorem MAt.box {w:World} {B xb sb:Nat} {M:Msg} {m:MS} {count:Nat} (h:MAt w B xb sb M m count) (o:Obj):MAt (w.alloc o) B xb sb M m count:=h.below ((Below.refl _ _).alloc (Nat.le_refl _) _)
theorem MAt.now {w:World} {B xb sb:Nat} {M:Msg} {m:MS} {count:Nat} (h:MAt w B xb sb M m count):w.cell? ⟨xb,2,none⟩=some (.int .i64 (m.now:Int)):=by
 obtain ⟨kv,h⟩:=h;exact blk_cell h.blk 2
theorem fr_box {P:Nat→Obj→Prop} (w:World) (o:Obj):Fr P w (w.alloc o):=(Fr.refl _ w).alloc o
theorem push_way (i:Ins) (av bv:Value) (B xb sb:Nat) (M:Msg) (m:MS) (count:Nat) (w:World) (h:MAt w B xb sb M m count) (ho:InsOk w i av bv) :
  Calls Tryz.prog 184 #[.pointer (some ⟨xb,0,none⟩),insV i av bv] w (MPost (doPush i m) B xb sb M count w):=by
 have HM:=hide h
 obtain ⟨aa,ac,rfl⟩:=ho.a.len
 obtain ⟨ba,bc,rfl⟩:=ho.b.len
 have hxl:xb < w.heap.size:=cell_lt h.now
 have hnow:=(h.box (.cells (insCells i (.slice aa i.a.length ac) (.slice ba i.b.length bc)) 62)).now
 unfold insCells at hnow
 have e0:=intEq i.n 0
 have e1:=intEq i.n 1
 clear h ho
 unfold insV
 by_cases h01:i.n=0∨i.n=1
 ·have HR:Hid (doPush i m=putL (decide (i.n=1)) m):=by show _=_;unfold doPush;rw [if_pos h01]
  rcases h01 with h0 | h1
  ·rw [decide_eq_true h0] at e0
   rw [decide_eq_false (by omega)] at e1 HR
   clear h0
   go_enter Tryz.func184,Tryz.ntmps184
   go_wp2_with (go_at_call 199;refine (must_true _ _).mono ?_;rintro e w' ⟨rfl,hww⟩;rw [hww];clear hww)
   refine (put_any false B xb sb M m count _ (HM.out.box _)).mono ?_
   intro e w1 h1
   rcases h1.cases with ⟨hf,⟨m',hr,rfl,hm⟩ | ⟨f,hr,bb,hz,rfl,hcc⟩⟩
   ·have H1:=hide h1
    clear hm hf h1
    go_wp2
    go_end0
    rw [HR.out]
    exact H1.out.from (fr_box _ _)
   ·exact ⟨rfl,by rw [HR.out];exact MPost.from h1 (fr_box _ _)⟩
  ·rw [decide_eq_true h1] at e1 HR
   rw [decide_eq_false (by omega)] at e0
   clear h1
   go_enter Tryz.func184,Tryz.ntmps184
   go_wp2_with (go_at_call 199;refine (must_true _ _).mono ?_;rintro e w' ⟨rfl,hww⟩;rw [hww];clear hww)
   refine (put_any true B xb sb M m count _ (HM.out.box _)).mono ?_
   intro e w1 h1
   rcases h1.cases with ⟨hf,⟨m',hr,rfl,hm⟩ | ⟨f,hr,bb,hz,rfl,hcc⟩⟩
   ·have H1:=hide h1
    clear hm hf h1
    go_wp2
    go_end0
    rw [HR.out]
    exact H1.out.from (fr_box _ _)
   ·exact ⟨rfl,by rw [HR.out];exact MPost.from h1 (fr_box _ _)⟩
 ·have HR:Hid (doPush i m=.error (12,(m.now:Int))):=by show _=_;unfold doPush failL;rw [if_neg h01]
  rw [decide_eq_false (by omega)] at e0
  rw [decide_eq_false (by omega)] at e1
  clear h01
  go_enter Tryz.func184,Tryz.ntmps184
  go_wp2_with (go_at_call 199;refine (must_no _ _ _ hnow).mono ?_;rintro e w' ⟨⟨bb,hz,rfl,hcc⟩,hb⟩)
  exact ⟨rfl,by rw [HR.out];exact MPost.from (MPost.err rfl (Fr.of_below hb) ⟨bb,hz,rfl,hcc⟩) (fr_box _ _)⟩
theorem turn_way (i:Ins) (av bv:Value) (B xb sb:Nat) (M:Msg) (m:MS) (count:Nat) (w:World) (h:MAt w B xb sb M m count) (ho:InsOk w i av bv) :
  Calls Tryz.prog 185 #[.pointer (some ⟨xb,0,none⟩),insV i av bv] w (MPost (doNot m) B xb sb M count w):=by
 have HM:=hide h
 obtain ⟨aa,ac,rfl⟩:=ho.a.len
 obtain ⟨ba,bc,rfl⟩:=ho.b.len
 clear h ho
 unfold insV
 by_cases h0:m.stack=[]
 ·have HR:Hid (doNot m=.error (12,(m.now:Int))):=by show _=_;unfold doNot failL;rw [if_pos h0]
  go_enter Tryz.func185,Tryz.ntmps185
  go_wp2_with fail
  refine (take_none B xb sb M m count _ (HM.out.box _) h0).mono ?_
  rintro e w1 ⟨⟨bb,hz,rfl,hcc⟩,hb⟩
  refine ⟨rfl,?_⟩
  rw [HR.out]
  exact MPost.from (MPost.err rfl (Fr.of_below hb) ⟨bb,hz,rfl,hcc⟩) (fr_box _ _)
 ·have HR:Hid (doNot m=putL (!topL m) (popL m)):=by show _=_;unfold doNot;rw [if_neg h0]
  go_enter Tryz.func185,Tryz.ntmps185
  go_wp2_with fail
  refine (take_some B xb sb M m count _ (HM.out.box _) h0).mono ?_
  rintro e w1 ⟨rfl,hm1,hf1⟩
  have HM1:=hide hm1
  have HF1:=hide ((fr_box _ _).trans hf1)
  clear hm1 hf1
  go_wp2_with fail
  refine (put_any (!topL m) B xb sb M (popL m) count _ HM1.out).mono ?_
  intro e w2 h2
  rcases h2.cases with ⟨hf,⟨m',hr,rfl,hm⟩ | ⟨f,hr,bb,hz,rfl,hcc⟩⟩
  ·have H2:=hide h2
   clear hm hf h2
   go_wp2
   go_end0
   rw [HR.out]
   exact H2.out.from HF1.out
  ·exact ⟨rfl,by rw [HR.out];exact MPost.from h2 HF1.out⟩
theorem MI.go {w:World} {B xb sb:Nat} {M:Msg} {m:MS} {count:Nat} {kv:Value} (h:MI w B xb sb M m count kv) (k:Nat) (hk:k≤count):MAt (w.setCell ⟨xb,3,none⟩ (.int .i64 (k:Int))) B xb sb M (goL m k) count∧Fr (PMc B xb) w (w.setCell ⟨xb,3,none⟩ (.int .i64 (k:Int))):=by
 have hfin:=h.set 3 (.int .i64 (k:Int)) (goL m k) kv rfl rfl (owns_setOther h.stack h.row _ _) h.sl h.nw hk
 exact ⟨⟨_,hfin.1⟩,hfin.2.mono (fun _ _=>PMc.k)⟩
theorem jump_way (i:Ins) (av bv:Value) (B xb sb:Nat) (M:Msg) (m:MS) (count:Nat) (w:World) (h:MAt w B xb sb M m count) (ho:InsOk w i av bv) :
  Calls Tryz.prog 186 #[.pointer (some ⟨xb,0,none⟩),insV i av bv] w (MPost (doJump count i m) B xb sb M count w):=by
 obtain ⟨aa,ac,rfl⟩:=ho.a.len
 obtain ⟨ba,bc,rfl⟩:=ho.b.len
 have HM:=hide h
 have hxl:xb < w.heap.size:=cell_lt h.now
 clear ho
 unfold insV
 cases hmay:mayL' count m i.n
 ·have HR:Hid (doJump count i m=.error (12,(m.now:Int))):=by show _=_;unfold doJump failL;rw [hmay];rfl
  clear h
  go_enter Tryz.func186,Tryz.ntmps186
  go_wp2_with fail
  refine (mayPass_any i.n B xb sb M m count _ (HM.out.box _)).mono ?_
  rintro e w1 ⟨rfl,hb1⟩
  rw [hmay]
  have HB1:=hide (((Below.refl w.heap.size w).alloc (Nat.le_refl _) _).trans (hb1.mono (by simp)))
  have hnow:=(HM.out.below HB1.out).now
  clear hb1
  go_wp2_with (go_at_call 199;refine (must_no _ _ _ hnow).mono ?_;rintro e w' ⟨⟨bb,hz,rfl,hcc⟩,hb⟩)
  exact ⟨rfl,by rw [HR.out];exact MPost.from (MPost.err rfl (Fr.of_below hb) ⟨bb,hz,rfl,hcc⟩) (Fr.of_below HB1.out)⟩
 ·have hle:=may_le hmay
  have HR:Hid (doJump count i m=.ok (goL m (m.next+i.n.toNat))):=by show _=_;unfold doJump;rw [hmay];rfl
  have hnn:0≤i.n:=by unfold mayL' at hmay;simp at hmay;exact hmay.1
  obtain ⟨kv,hMI0⟩:=h
  have hcl:=hMI0.cl
  clear hMI0
  go_enter Tryz.func186,Tryz.ntmps186
  go_wp2_with fail
  refine (mayPass_any i.n B xb sb M m count _ (HM.out.box _)).mono ?_
  rintro e w1 ⟨rfl,hb1⟩
  rw [hmay]
  have HB1:=hide (((Below.refl w.heap.size w).alloc (Nat.le_refl _) _).trans (hb1.mono (by simp)))
  obtain ⟨kv,hMI⟩:=HM.out.below HB1.out
  have hbx:=blk_below (blk_new w (.cells #[.int .i64 i.op,.int .i64 i.n,.int .i64 i.tag,.bool i.oct,.slice aa i.a.length ac,.slice ba i.b.length bc,.int .i64 i.at_] 62)) hb1
  have q1:w1.cell? ⟨w.heap.size,1,none⟩=some (.int .i64 i.n):=blk_cell hbx 1
  have c3:w1.cell? ⟨xb,3,none⟩=some (.int .i64 (m.next:Int)):=blk_cell hMI.blk 3
  have f3:=blk_frozen hMI.blk
  obtain ⟨d,hd⟩:∃ d:Nat,i.n=(d:Int):=⟨i.n.toNat,by omega⟩
  rw [hd] at q1 HR hle
  rw [Int.toNat_natCast] at HR hle
  have hsum:IntKind.i64.wrap ((m.next:Int)+(d:Int))=(m.next:Int)+(d:Int):=by rw [IntKind.wrap_i64];omega
  have HMI:=hide hMI
  have hne:¬ w.heap.size=xb:=by omega
  have hne':¬ xb=w.heap.size:=by omega
  have HG:=hide (hMI.go (m.next+d) hle)
  have HGD:=hide ((hMI.below (below_drew1 (Below.refl _ _))).go (m.next+d) hle)
  clear hb1 hMI hbx hd hnn hmay
  go_wp2_with (go_at_call 199;refine (must_true _ _).mono ?_;rintro e w' ⟨rfl,hww⟩;rw [hww];clear hww)
  go_region
  all_goals go_wp2
  all_goals go_end0
  all_goals first
   | exact MPost.from (MPost.ok HR.out HG.out.2.drew (HG.out.1.below (below_drew1 (Below.refl _ _)))) (Fr.of_below HB1.out)
   | exact MPost.from (MPost.ok HR.out ((Fr.of_below (below_drew1 (Below.refl _ _))).trans HGD.out.2) HGD.out.1) (Fr.of_below HB1.out)
end
end Go.Proofs.YtbiclelojbfnbaaGreatDoor
