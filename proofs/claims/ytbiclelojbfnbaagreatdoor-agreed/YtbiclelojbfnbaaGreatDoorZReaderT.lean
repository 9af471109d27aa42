import Derived.MapFrom
import Derived.Orders
import Derived.OrdersHeld
import Derived.Test.YtbiclelojbfnbaaGreatDoorZWText
namespace Go.Proofs.YtbiclelojbfnbaaGreatDoor
set_option linter.unusedVariables false
set_option linter.unusedSimpArgs false
set_option maxRecDepth 100000
set_option maxHeartbeats 4000000
section
open Go.RowKit
def MapIs (es:Array MapEntry) (f:List UInt8→Option Value):Prop:=
 (∀ e∈es.toList,∃ x,e.key=.string (strA x)∧f x=some e.val)∧∀ x v,f x=some v→∃ e∈es.toList,e.key=.string (strA x)
theorem MapIs.keys {es:Array MapEntry} {f:List UInt8→Option Value} (h:MapIs es f):∀ e∈es.toList,MapKept.IsKey .string e.key:=fun e he=>by
 obtain ⟨x,hx,_⟩:=h.1 e he
 rw [hx];trivial
theorem MapIs.empty:MapIs #[] (fun _=>none):=⟨fun e he=>by simp at he,fun x v h=>by cases h⟩
theorem MapIs.push {es:Array MapEntry} {f g:List UInt8→Option Value} (h:MapIs es f) {x:List UInt8} {v:Value} {c:Nat} (hn:f x=none) (hx:g x=some v) (hg:∀ z,z≠x→g z=f z):MapIs (es.push ⟨.string (strA x),v,c⟩) g:=by
 refine ⟨fun e he=>?_,fun z u hz=>?_⟩
 ·simp only [Array.toList_push,List.mem_append,List.mem_singleton] at he
  rcases he with he | he
  ·obtain ⟨z,h1,h2⟩:=h.1 e he
   have:z≠x:=fun e=>by rw [e,hn] at h2;cases h2
   exact ⟨z,h1,by rw [hg z this];exact h2⟩
  ·subst he;exact ⟨x,rfl,hx⟩
 ·by_cases e:z=x
  ·exact ⟨⟨.string (strA x),v,c⟩,by simp,by rw [e]⟩
  ·rw [hg z e] at hz
   obtain ⟨y,hy,hk⟩:=h.2 z u hz
   exact ⟨y,by simp [hy],hk⟩
theorem MapIs.congr {es:Array MapEntry} {f g:List UInt8→Option Value} (h:MapIs es f) (e:∀ x,f x=g x):MapIs es g:=by
 have:f=g:=funext e
 rw [← this];exact h
def mapSet (w:World) (m:Nat) (o:Obj):World:={ w with heap:=w.heap.setIfInBounds m o }
theorem run_insert_new {T K E:TypeId} (hT:Tryz.prog.underlying T=some (.map K E)) (hK:Tryz.prog.underlying K=some .string) {w:World} {m:Nat} {es:Array MapEntry} {c:Nat} {f:List UInt8→Option Value} {x:List UInt8} (hm:w.heap[m]?=some (.map es c)) (hf:MapIs es f) (hx:f x=none) (v:Value) :
  (Instr.mapUpdate T (.map (some m)) (.string (strA x)) v).run Tryz.prog w=.ok () (mapSet w m (.map (es.push ⟨.string (strA x),v,c⟩) (c+1))):=by
 have hk:MapKept.IsKey .string (.string (strA x)):=trivial
 rcases MapKept.findNow_spec hk es.toList 0 hf.keys with ⟨h1,_⟩ | ⟨j,e,h1,h2,h3⟩
 ·simp [Instr.mapUpdate,run_underlying hT,MapKept.run_getObj_map hm,MapKept.run_checkKey hK hk,MapKept.run_findKey hK h1,MapKept.run_setObj_map _ hm,Result.andThen,mapSet]
 ·obtain ⟨z,hz,hz2⟩:=hf.1 e (List.mem_of_getElem? h2)
  rw [h3] at hz
  have:x=z:=strA_inj (by simpa using hz)
  subst this
  rw [hx] at hz2;cases hz2
theorem mapSet_same {w:World} {m:Nat} {o o':Obj} (h:w.heap[m]?=some o):(mapSet w m o').heap[m]?=some o':=by
 have:=blk_lt h
 simp [mapSet,this]
theorem mapSet_other {w:World} {m k:Nat} {o':Obj} (h:k≠m):(mapSet w m o').heap[k]?=w.heap[k]?:=by
 simp [mapSet,Array.getElem?_setIfInBounds_ne (Ne.symm h)]
theorem mapSet_size {w:World} {m:Nat} {o':Obj}:(mapSet w m o').heap.size=w.heap.size:=by simp [mapSet]
theorem lookOk_of {T K E:TypeId} (hT:Tryz.prog.underlying T=some (.map K E)) (hK:Tryz.prog.underlying K=some .string) (hE:∀ W,(zeroValue E).run Tryz.prog W=.ok .nilFunc W) {w:World} {m:Nat} {es:Array MapEntry} {c:Nat} {f:List UInt8→Option Value} (hm:w.heap[m]?=some (.map es c)) (hf:MapIs es f):LookOk w T m f:=by
 intro W x hW
 rw [hm] at hW
 have hk:MapKept.IsKey .string (.string (strA x)):=trivial
 rcases MapKept.findNow_spec hk es.toList 0 hf.keys with ⟨h1,h2⟩ | ⟨j,e,h1,h2,h3⟩
 ·have hn:f x=none:=by
   cases hfx:f x with
   | none=>rfl
   | some v=>
    obtain ⟨e,he,hke⟩:=hf.2 x v hfx
    exact absurd hke (h2 e he)
  rw [hn]
  simp [Instr.lookup,run_underlying hT,MapKept.run_getObj_map hW,MapKept.run_checkKey hK hk,MapKept.run_findKey hK h1,hE,Result.andThen]
 ·obtain ⟨z,hz,hz2⟩:=hf.1 e (List.mem_of_getElem? h2)
  rw [h3] at hz
  have:x=z:=strA_inj (by simpa using hz)
  subst this
  rw [hz2]
  simp [Instr.lookup,run_underlying hT,MapKept.run_getObj_map hW,MapKept.run_checkKey hK hk,MapKept.run_findKey hK h1,Result.andThen]
end
section
open Go.RowKit
attribute [local go_sem ↓] Go.wp_at_zero Go.wp_at_succ
theorem Tryz.infoFnC:(Tryz.prog.info? 261).map (fun i=>(i.zero,i.size,i.bytes))=some (some .nilFunc,1,8):=by kernel_rfl
theorem Tryz.infoFnT:(Tryz.prog.info? 263).map (fun i=>(i.zero,i.size,i.bytes))=some (some .nilFunc,1,8):=by kernel_rfl
theorem zeroFnC (W:World):(zeroValue 261).run Tryz.prog W=.ok .nilFunc W:=by
 obtain ⟨i0,hi,hz0,hz1,hz2⟩:=info_parts Tryz.infoFnC
 simp [zeroValue,typeInfo,Sem.run,hi,hz0]
theorem zeroFnT (W:World):(zeroValue 263).run Tryz.prog W=.ok .nilFunc W:=by
 obtain ⟨i0,hi,hz0,hz1,hz2⟩:=info_parts Tryz.infoFnT
 simp [zeroValue,typeInfo,Sem.run,hi,hz0]
theorem act_any (r:Value) (b:Nat) (kd:Int) (w:World) (hr:r=.pointer (some ⟨b,0,none⟩)) :
  Calls Tryz.prog 155 #[r,.int .i64 kd] w fun e w'=>e=.returned (.func (.func 244) #[] #[.pointer (some ⟨w.heap.size,0,none⟩),.pointer (some ⟨w.heap.size+1,0,none⟩)])∧w'=(w.alloc (.cells #[r] 182)).alloc (.cells #[.int .i64 kd] 3):=by
 subst hr
 have hmf:∀ (fn:Fn) (first cap:Array Value) (w:World),(Instr.makeFunc fn first cap).run Tryz.prog w=.ok (.func fn first cap) w:=fun _ _ _ _=>rfl
 go_enter Tryz.func155,Tryz.ntmps155
 go_wp2
 go_ret
 exact ⟨rfl,rfl⟩
theorem truth_any (h:Bool) (w:World) :
  Calls Tryz.prog 158 #[.bool h] w fun e w'=>e=.returned (.func (.func 251) #[] #[.pointer (some ⟨w.heap.size,0,none⟩)])∧w'=w.alloc (.cells #[.bool h] 4):=by
 have hmf:∀ (fn:Fn) (first cap:Array Value) (w:World),(Instr.makeFunc fn first cap).run Tryz.prog w=.ok (.func fn first cap) w:=fun _ _ _ _=>rfl
 go_enter Tryz.func158,Tryz.ntmps158
 go_wp2
 go_ret
 exact ⟨rfl,rfl⟩
end
section
open Go.RowKit
def up (L:Nat→Bool) (i:Nat):Nat→Bool:=fun j=>if j=i then true else L j
theorem up_same (L:Nat→Bool) (i:Nat):up L i i=true:=by simp [up]
theorem up_other (L:Nat→Bool) {i j:Nat} (h:j≠i):up L i j=L j:=by simp [up,h]
theorem up_old (L:Nat→Bool) {i j:Nat} (h:L j=true):up L i j=true:=by unfold up;split <;> simp [h]
theorem ud {L:Nat→Bool} {i j:Nat} (h:up L i j=true) (hd:j≠i:=by decide):L j=true:=by rwa [up_other L hd] at h
theorem ui {L:Nat→Bool} {i j k:Nat} (hi:L j=true→L k=true) (hd:j≠i:=by decide) (h:up L i j=true):up L i k=true:=up_old _ (hi (ud h hd))
theorem nf {L:Nat→Bool} {j k:Nat} (hi:L j=true→L k=true) (h0:L k=false):L j=false:=by
 cases hh:L j with
 | false=>rfl
 | true=>have:=hi hh;rw [h0] at this;cases this
def rdObj (t:ByteArray) (mv mv2:Value):Obj:=.cells #[.string t,.int .i64 0,.int .i64 0,.string ⟨#[]⟩,.string ⟨#[]⟩,.int .i64 0,.int .i64 0,.slice none 0 0,mv,mv2] 260
def ActAt (w:World) (b B kd:Nat) (v:Value):Prop:=
 ∃ p q,v=.func (.func 244) #[] #[.pointer (some ⟨p,0,none⟩),.pointer (some ⟨q,0,none⟩)]∧B≤p∧B≤q∧w.heap[p]?=some (.cells #[.pointer (some ⟨b,0,none⟩)] 182)∧w.heap[q]?=some (.cells #[.int .i64 kd] 3)
theorem ActAt.keep {w w':World} {b B kd:Nat} {v:Value} (h:ActAt w b B kd v) (hk:∀ k cs ty,B≤k→w.heap[k]?=some (.cells cs ty)→w'.heap[k]?=some (.cells cs ty)):ActAt w' b B kd v:=by
 obtain ⟨p,q,hv,hp,hq,h1,h2⟩:=h
 exact ⟨p,q,hv,hp,hq,hk p _ _ hp h1,hk q _ _ hq h2⟩
def fC (b:Nat) (L:Nat→Bool) (u16 u18 u20:Value) (x:List UInt8):Option Value:=
 match whichL cmdNames x with
 | 1=>if L 4 then some (.func (.func 152) #[.pointer (some ⟨b,0,none⟩)] #[]) else none
 | 2=>if L 7 then some (.func (.func 153) #[.pointer (some ⟨b,0,none⟩)] #[]) else none
 | 3=>if L 10 then some (.func (.func 154) #[.pointer (some ⟨b,0,none⟩)] #[]) else none
 | 4=>if L 13 then some (u16) else none
 | 5=>if L 16 then some (u18) else none
 | 6=>if L 19 then some (u20) else none
 | 7=>if L 22 then some (.func (.func 156) #[.pointer (some ⟨b,0,none⟩)] #[]) else none
 | 8=>if L 25 then some (.func (.func 157) #[.pointer (some ⟨b,0,none⟩)] #[]) else none
 | _=>none
structure JC (t:ByteArray) (b:Nat) (W:World) (mv2:Value) (L:Nat→Bool) (u8 u16 u18 u20 u25 u26 u27:Value) (w:World):Prop where
 hb:b < W.heap.size
 mod:Mod b W w
 rd:w.heap[b]?=some (rdObj t (if L 29 then u25 else Value.map none) mv2)
 cm4:L 4=true→L 1=true
 cm7:L 7=true→L 1=true
 cm10:L 10=true→L 1=true
 cm13:L 13=true→L 1=true
 cm16:L 16=true→L 1=true
 cm19:L 19=true→L 1=true
 cm22:L 22=true→L 1=true
 cm25:L 25=true→L 1=true
 cv13:L 13=true→L 12=true
 cv16:L 16=true→L 15=true
 cv19:L 19=true→L 18=true
 a12:L 12=true→ActAt w b W.heap.size 2 u16
 a15:L 15=true→ActAt w b W.heap.size 3 u18
 a18:L 18=true→ActAt w b W.heap.size 4 u20
 mp:L 1=true→∃ m es c,u8=.map (some m)∧W.heap.size≤m∧w.heap[m]?=some (.map es c)∧MapIs es (fC b L u16 u18 u20)
 m26:L 26=true→u25=u8∧L 1=true∧L 4=true∧L 7=true∧L 10=true∧L 13=true∧L 16=true∧L 19=true∧L 22=true∧L 25=true
 m27:L 27=true→u26=.pointer (some ⟨b,0,none⟩)
 m28:L 28=true→u27=.pointer (some ⟨b,8,none⟩)
 m29:L 29=true→L 26=true
theorem mod_mapSet {b m:Nat} {W w:World} {o:Obj} (h:Mod b W w) (hm:W.heap.size≤m):Mod b W (mapSet w m o):=
 ⟨h.os,h.tape,h.output,by rw [mapSet_size];exact h.size,fun k hk hn=>by rw [mapSet_other (by omega)];exact h.block k hk hn⟩
section
variable {t:ByteArray} {b:Nat} {W:World} {mv2:Value} {L:Nat→Bool} {u8 u16 u18 u20 u25 u26 u27:Value} {w:World}
theorem fC_up (i:Nat) (h:i≠4∧i≠7∧i≠10∧i≠13∧i≠16∧i≠19∧i≠22∧i≠25) (x:List UInt8):fC b (up L i) u16 u18 u20 x=fC b L u16 u18 u20 x:=by
 obtain ⟨h0,h1,h2,h3,h4,h5,h6,h7⟩:=h
 unfold fC
 simp only [up_other L (Ne.symm h0),up_other L (Ne.symm h1),up_other L (Ne.symm h2),up_other L (Ne.symm h3),up_other L (Ne.symm h4),up_other L (Ne.symm h5),up_other L (Ne.symm h6),up_other L (Ne.symm h7)]
theorem JC.m26u (J:JC t b W mv2 L u8 u16 u18 u20 u25 u26 u27 w) {i:Nat} (h:L 26=true):u25=u8∧up L i 1=true∧up L i 4=true∧up L i 7=true∧up L i 10=true∧up L i 13=true∧up L i 16=true∧up L i 19=true∧up L i 22=true∧up L i 25=true:=by
 obtain ⟨e1,e2,e3,e4,e5,e6,e7,e8,e9,e10⟩:=J.m26 h
 exact ⟨e1,up_old _ e2,up_old _ e3,up_old _ e4,up_old _ e5,up_old _ e6,up_old _ e7,up_old _ e8,up_old _ e9,up_old _ e10⟩
theorem JC.s1 (J:JC t b W mv2 L u8 u16 u18 u20 u25 u26 u27 w) (h0:L 1=false):JC t b W mv2 (up L 1) (.map (some w.heap.size)) u16 u18 u20 u25 u26 u27 (w.alloc (Obj.map #[] 0)):=by
 have hk:∀ k cs ty,W.heap.size≤k→w.heap[k]?=some (.cells cs ty)→(w.alloc (Obj.map #[] 0)).heap[k]?=some (.cells cs ty):=fun k cs ty _ h=>blk_alloc h
 have hkb:(w.alloc (Obj.map #[] 0)).heap[b]?=some (rdObj t (if L 29 then u25 else Value.map none) mv2):=blk_alloc J.rd
 have n4:L 4=false:=nf J.cm4 h0
 have n7:L 7=false:=nf J.cm7 h0
 have n10:L 10=false:=nf J.cm10 h0
 have n13:L 13=false:=nf J.cm13 h0
 have n16:L 16=false:=nf J.cm16 h0
 have n19:L 19=false:=nf J.cm19 h0
 have n22:L 22=false:=nf J.cm22 h0
 have n25:L 25=false:=nf J.cm25 h0
 exact ⟨J.hb,J.mod.trans ((Mod.refl b w).alloc _),by rw [up_other L (by decide)];exact hkb,ui J.cm4,ui J.cm7,ui J.cm10,ui J.cm13,ui J.cm16,ui J.cm19,ui J.cm22,ui J.cm25,ui J.cv13,ui J.cv16,ui J.cv19,fun h=>(J.a12 (ud h)).keep hk,fun h=>(J.a15 (ud h)).keep hk,fun h=>(J.a18 (ud h)).keep hk,fun _=>⟨w.heap.size,#[],0,rfl,J.mod.size,blk_new _ _,MapIs.empty.congr (fun x=>by rw [fC_up 1 (by decide)];unfold fC;simp only [n4,n7,n10,n13,n16,n19,n22,n25];split <;> rfl)⟩,fun h=>absurd (J.m26 (ud h)).2.1 (by rw [h0];decide),fun h=>J.m27 (ud h),fun h=>J.m28 (ud h),ui J.m29⟩
theorem JC.s12 (J:JC t b W mv2 L u8 u16 u18 u20 u25 u26 u27 w) (h0:L 12=false):JC t b W mv2 (up L 12) u8 (.func (.func 244) #[] #[.pointer (some ⟨w.heap.size,0,none⟩),.pointer (some ⟨w.heap.size+1,0,none⟩)]) u18 u20 u25 u26 u27 ((w.alloc (.cells #[.pointer (some ⟨b,0,none⟩)] 182)).alloc (.cells #[.int .i64 2] 3)):=by
 have hk:∀ k cs ty,W.heap.size≤k→w.heap[k]?=some (.cells cs ty)→((w.alloc (.cells #[.pointer (some ⟨b,0,none⟩)] 182)).alloc (.cells #[.int .i64 2] 3)).heap[k]?=some (.cells cs ty):=fun k cs ty _ h=>blk_alloc (blk_alloc h)
 have hkm:∀ (m:Nat) (es:Array MapEntry) (c:Nat),w.heap[m]?=some (Obj.map es c)→((w.alloc (.cells #[.pointer (some ⟨b,0,none⟩)] 182)).alloc (.cells #[.int .i64 2] 3)).heap[m]?=some (Obj.map es c):=fun m es c h=>blk_alloc (blk_alloc h)
 have hkb:((w.alloc (.cells #[.pointer (some ⟨b,0,none⟩)] 182)).alloc (.cells #[.int .i64 2] 3)).heap[b]?=some (rdObj t (if L 29 then u25 else Value.map none) mv2):=blk_alloc (blk_alloc J.rd)
 have hn:L 13=false:=nf J.cv13 h0
 have hsz:=J.mod.size
 exact ⟨J.hb,J.mod.trans (((Mod.refl b w).alloc _).alloc _),by rw [up_other L (by decide)];exact hkb,ui J.cm4,ui J.cm7,ui J.cm10,ui J.cm13,ui J.cm16,ui J.cm19,ui J.cm22,ui J.cm25,ui J.cv13,ui J.cv16,ui J.cv19,fun _=>⟨w.heap.size,w.heap.size+1,rfl,hsz,by omega,blk_alloc (blk_new _ _),blk_newAt (by simp)⟩,fun h=>(J.a15 (ud h)).keep hk,fun h=>(J.a18 (ud h)).keep hk,fun h=>by obtain ⟨m,es,c,h3,h4,h5,h6⟩:=J.mp (ud h);exact ⟨m,es,c,h3,h4,hkm m _ _ h5,h6.congr (fun x=>by rw [fC_up 12 (by decide)];unfold fC;simp only [hn,Bool.false_eq_true,if_false])⟩,fun h=>J.m26u (ud h),fun h=>J.m27 (ud h),fun h=>J.m28 (ud h),ui J.m29⟩
theorem JC.s15 (J:JC t b W mv2 L u8 u16 u18 u20 u25 u26 u27 w) (h0:L 15=false):JC t b W mv2 (up L 15) u8 u16 (.func (.func 244) #[] #[.pointer (some ⟨w.heap.size,0,none⟩),.pointer (some ⟨w.heap.size+1,0,none⟩)]) u20 u25 u26 u27 ((w.alloc (.cells #[.pointer (some ⟨b,0,none⟩)] 182)).alloc (.cells #[.int .i64 3] 3)):=by
 have hk:∀ k cs ty,W.heap.size≤k→w.heap[k]?=some (.cells cs ty)→((w.alloc (.cells #[.pointer (some ⟨b,0,none⟩)] 182)).alloc (.cells #[.int .i64 3] 3)).heap[k]?=some (.cells cs ty):=fun k cs ty _ h=>blk_alloc (blk_alloc h)
 have hkm:∀ (m:Nat) (es:Array MapEntry) (c:Nat),w.heap[m]?=some (Obj.map es c)→((w.alloc (.cells #[.pointer (some ⟨b,0,none⟩)] 182)).alloc (.cells #[.int .i64 3] 3)).heap[m]?=some (Obj.map es c):=fun m es c h=>blk_alloc (blk_alloc h)
 have hkb:((w.alloc (.cells #[.pointer (some ⟨b,0,none⟩)] 182)).alloc (.cells #[.int .i64 3] 3)).heap[b]?=some (rdObj t (if L 29 then u25 else Value.map none) mv2):=blk_alloc (blk_alloc J.rd)
 have hn:L 16=false:=nf J.cv16 h0
 have hsz:=J.mod.size
 exact ⟨J.hb,J.mod.trans (((Mod.refl b w).alloc _).alloc _),by rw [up_other L (by decide)];exact hkb,ui J.cm4,ui J.cm7,ui J.cm10,ui J.cm13,ui J.cm16,ui J.cm19,ui J.cm22,ui J.cm25,ui J.cv13,ui J.cv16,ui J.cv19,fun h=>(J.a12 (ud h)).keep hk,fun _=>⟨w.heap.size,w.heap.size+1,rfl,hsz,by omega,blk_alloc (blk_new _ _),blk_newAt (by simp)⟩,fun h=>(J.a18 (ud h)).keep hk,fun h=>by obtain ⟨m,es,c,h3,h4,h5,h6⟩:=J.mp (ud h);exact ⟨m,es,c,h3,h4,hkm m _ _ h5,h6.congr (fun x=>by rw [fC_up 15 (by decide)];unfold fC;simp only [hn,Bool.false_eq_true,if_false])⟩,fun h=>J.m26u (ud h),fun h=>J.m27 (ud h),fun h=>J.m28 (ud h),ui J.m29⟩
theorem JC.s18 (J:JC t b W mv2 L u8 u16 u18 u20 u25 u26 u27 w) (h0:L 18=false):JC t b W mv2 (up L 18) u8 u16 u18 (.func (.func 244) #[] #[.pointer (some ⟨w.heap.size,0,none⟩),.pointer (some ⟨w.heap.size+1,0,none⟩)]) u25 u26 u27 ((w.alloc (.cells #[.pointer (some ⟨b,0,none⟩)] 182)).alloc (.cells #[.int .i64 4] 3)):=by
 have hk:∀ k cs ty,W.heap.size≤k→w.heap[k]?=some (.cells cs ty)→((w.alloc (.cells #[.pointer (some ⟨b,0,none⟩)] 182)).alloc (.cells #[.int .i64 4] 3)).heap[k]?=some (.cells cs ty):=fun k cs ty _ h=>blk_alloc (blk_alloc h)
 have hkm:∀ (m:Nat) (es:Array MapEntry) (c:Nat),w.heap[m]?=some (Obj.map es c)→((w.alloc (.cells #[.pointer (some ⟨b,0,none⟩)] 182)).alloc (.cells #[.int .i64 4] 3)).heap[m]?=some (Obj.map es c):=fun m es c h=>blk_alloc (blk_alloc h)
 have hkb:((w.alloc (.cells #[.pointer (some ⟨b,0,none⟩)] 182)).alloc (.cells #[.int .i64 4] 3)).heap[b]?=some (rdObj t (if L 29 then u25 else Value.map none) mv2):=blk_alloc (blk_alloc J.rd)
 have hn:L 19=false:=nf J.cv19 h0
 have hsz:=J.mod.size
 exact ⟨J.hb,J.mod.trans (((Mod.refl b w).alloc _).alloc _),by rw [up_other L (by decide)];exact hkb,ui J.cm4,ui J.cm7,ui J.cm10,ui J.cm13,ui J.cm16,ui J.cm19,ui J.cm22,ui J.cm25,ui J.cv13,ui J.cv16,ui J.cv19,fun h=>(J.a12 (ud h)).keep hk,fun h=>(J.a15 (ud h)).keep hk,fun _=>⟨w.heap.size,w.heap.size+1,rfl,hsz,by omega,blk_alloc (blk_new _ _),blk_newAt (by simp)⟩,fun h=>by obtain ⟨m,es,c,h3,h4,h5,h6⟩:=J.mp (ud h);exact ⟨m,es,c,h3,h4,hkm m _ _ h5,h6.congr (fun x=>by rw [fC_up 18 (by decide)];unfold fC;simp only [hn,Bool.false_eq_true,if_false])⟩,fun h=>J.m26u (ud h),fun h=>J.m27 (ud h),fun h=>J.m28 (ud h),ui J.m29⟩
theorem JC.s4 (J:JC t b W mv2 L u8 u16 u18 u20 u25 u26 u27 w) (h0:L 4=false) (h1:L 1=true):∃ m es c,u8=.map (some m)∧w.heap[m]?=some (.map es c)∧MapIs es (fC b L u16 u18 u20)∧fC b L u16 u18 u20 kKeep=none∧JC t b W mv2 (up L 4) u8 u16 u18 u20 u25 u26 u27 (mapSet w m (.map (es.push ⟨.string (strA kKeep),.func (.func 152) #[.pointer (some ⟨b,0,none⟩)] #[],c⟩) (c+1))):=by
 obtain ⟨m,es,c,h3,h4,h5,h6⟩:=J.mp h1
 have hn:fC b L u16 u18 u20 kKeep=none:=by unfold fC;rw [show whichL cmdNames kKeep=1 from by decide];simp only [h0];rfl
 have hx:fC b (up L 4) u16 u18 u20 kKeep=some (.func (.func 152) #[.pointer (some ⟨b,0,none⟩)] #[]):=by unfold fC;rw [show whichL cmdNames kKeep=1 from by decide];simp only [up_same];rfl
 have hg:∀ z,z≠kKeep→fC b (up L 4) u16 u18 u20 z=fC b L u16 u18 u20 z:=fun z hz=>by
  have hw:whichL cmdNames z≠1:=fun e=>hz (by have:=whichL_get cmdNames z 0 e;simpa [cmdNames] using this.symm)
  unfold fC
  split <;> first | (rename_i e;exact absurd e hw) | simp only [up_other L (by decide)] | rfl
 have hmb:m≠b:=by have:=J.hb;omega
 have hk:∀ k cs ty,W.heap.size≤k→w.heap[k]?=some (.cells cs ty)→(mapSet w m (.map (es.push ⟨.string (strA kKeep),.func (.func 152) #[.pointer (some ⟨b,0,none⟩)] #[],c⟩) (c+1))).heap[k]?=some (.cells cs ty):=fun k cs ty _ h=>by
  rw [mapSet_other (fun e=>by rw [e,h5] at h;cases h)];exact h
 have hkb:(mapSet w m (.map (es.push ⟨.string (strA kKeep),.func (.func 152) #[.pointer (some ⟨b,0,none⟩)] #[],c⟩) (c+1))).heap[b]?=some (rdObj t (if L 29 then u25 else Value.map none) mv2):=by rw [mapSet_other (Ne.symm hmb)];exact J.rd
 refine ⟨m,es,c,h3,h5,h6,hn,?_⟩
 exact ⟨J.hb,mod_mapSet J.mod h4,by rw [up_other L (by decide)];exact hkb,fun _=>up_old _ h1,ui J.cm7,ui J.cm10,ui J.cm13,ui J.cm16,ui J.cm19,ui J.cm22,ui J.cm25,ui J.cv13,ui J.cv16,ui J.cv19,fun h=>(J.a12 (ud h)).keep hk,fun h=>(J.a15 (ud h)).keep hk,fun h=>(J.a18 (ud h)).keep hk,fun _=>⟨m,_,_,h3,h4,mapSet_same h5,h6.push hn hx hg⟩,fun h=>J.m26u (ud h),fun h=>J.m27 (ud h),fun h=>J.m28 (ud h),ui J.m29⟩
theorem JC.s7 (J:JC t b W mv2 L u8 u16 u18 u20 u25 u26 u27 w) (h0:L 7=false) (h1:L 1=true):∃ m es c,u8=.map (some m)∧w.heap[m]?=some (.map es c)∧MapIs es (fC b L u16 u18 u20)∧fC b L u16 u18 u20 kDiscard=none∧JC t b W mv2 (up L 7) u8 u16 u18 u20 u25 u26 u27 (mapSet w m (.map (es.push ⟨.string (strA kDiscard),.func (.func 153) #[.pointer (some ⟨b,0,none⟩)] #[],c⟩) (c+1))):=by
 obtain ⟨m,es,c,h3,h4,h5,h6⟩:=J.mp h1
 have hn:fC b L u16 u18 u20 kDiscard=none:=by unfold fC;rw [show whichL cmdNames kDiscard=2 from by decide];simp only [h0];rfl
 have hx:fC b (up L 7) u16 u18 u20 kDiscard=some (.func (.func 153) #[.pointer (some ⟨b,0,none⟩)] #[]):=by unfold fC;rw [show whichL cmdNames kDiscard=2 from by decide];simp only [up_same];rfl
 have hg:∀ z,z≠kDiscard→fC b (up L 7) u16 u18 u20 z=fC b L u16 u18 u20 z:=fun z hz=>by
  have hw:whichL cmdNames z≠2:=fun e=>hz (by have:=whichL_get cmdNames z 1 e;simpa [cmdNames] using this.symm)
  unfold fC
  split <;> first | (rename_i e;exact absurd e hw) | simp only [up_other L (by decide)] | rfl
 have hmb:m≠b:=by have:=J.hb;omega
 have hk:∀ k cs ty,W.heap.size≤k→w.heap[k]?=some (.cells cs ty)→(mapSet w m (.map (es.push ⟨.string (strA kDiscard),.func (.func 153) #[.pointer (some ⟨b,0,none⟩)] #[],c⟩) (c+1))).heap[k]?=some (.cells cs ty):=fun k cs ty _ h=>by
  rw [mapSet_other (fun e=>by rw [e,h5] at h;cases h)];exact h
 have hkb:(mapSet w m (.map (es.push ⟨.string (strA kDiscard),.func (.func 153) #[.pointer (some ⟨b,0,none⟩)] #[],c⟩) (c+1))).heap[b]?=some (rdObj t (if L 29 then u25 else Value.map none) mv2):=by rw [mapSet_other (Ne.symm hmb)];exact J.rd
 refine ⟨m,es,c,h3,h5,h6,hn,?_⟩
 exact ⟨J.hb,mod_mapSet J.mod h4,by rw [up_other L (by decide)];exact hkb,ui J.cm4,fun _=>up_old _ h1,ui J.cm10,ui J.cm13,ui J.cm16,ui J.cm19,ui J.cm22,ui J.cm25,ui J.cv13,ui J.cv16,ui J.cv19,fun h=>(J.a12 (ud h)).keep hk,fun h=>(J.a15 (ud h)).keep hk,fun h=>(J.a18 (ud h)).keep hk,fun _=>⟨m,_,_,h3,h4,mapSet_same h5,h6.push hn hx hg⟩,fun h=>J.m26u (ud h),fun h=>J.m27 (ud h),fun h=>J.m28 (ud h),ui J.m29⟩
theorem JC.s10 (J:JC t b W mv2 L u8 u16 u18 u20 u25 u26 u27 w) (h0:L 10=false) (h1:L 1=true):∃ m es c,u8=.map (some m)∧w.heap[m]?=some (.map es c)∧MapIs es (fC b L u16 u18 u20)∧fC b L u16 u18 u20 kStop=none∧JC t b W mv2 (up L 10) u8 u16 u18 u20 u25 u26 u27 (mapSet w m (.map (es.push ⟨.string (strA kStop),.func (.func 154) #[.pointer (some ⟨b,0,none⟩)] #[],c⟩) (c+1))):=by
 obtain ⟨m,es,c,h3,h4,h5,h6⟩:=J.mp h1
 have hn:fC b L u16 u18 u20 kStop=none:=by unfold fC;rw [show whichL cmdNames kStop=3 from by decide];simp only [h0];rfl
 have hx:fC b (up L 10) u16 u18 u20 kStop=some (.func (.func 154) #[.pointer (some ⟨b,0,none⟩)] #[]):=by unfold fC;rw [show whichL cmdNames kStop=3 from by decide];simp only [up_same];rfl
 have hg:∀ z,z≠kStop→fC b (up L 10) u16 u18 u20 z=fC b L u16 u18 u20 z:=fun z hz=>by
  have hw:whichL cmdNames z≠3:=fun e=>hz (by have:=whichL_get cmdNames z 2 e;simpa [cmdNames] using this.symm)
  unfold fC
  split <;> first | (rename_i e;exact absurd e hw) | simp only [up_other L (by decide)] | rfl
 have hmb:m≠b:=by have:=J.hb;omega
 have hk:∀ k cs ty,W.heap.size≤k→w.heap[k]?=some (.cells cs ty)→(mapSet w m (.map (es.push ⟨.string (strA kStop),.func (.func 154) #[.pointer (some ⟨b,0,none⟩)] #[],c⟩) (c+1))).heap[k]?=some (.cells cs ty):=fun k cs ty _ h=>by
  rw [mapSet_other (fun e=>by rw [e,h5] at h;cases h)];exact h
 have hkb:(mapSet w m (.map (es.push ⟨.string (strA kStop),.func (.func 154) #[.pointer (some ⟨b,0,none⟩)] #[],c⟩) (c+1))).heap[b]?=some (rdObj t (if L 29 then u25 else Value.map none) mv2):=by rw [mapSet_other (Ne.symm hmb)];exact J.rd
 refine ⟨m,es,c,h3,h5,h6,hn,?_⟩
 exact ⟨J.hb,mod_mapSet J.mod h4,by rw [up_other L (by decide)];exact hkb,ui J.cm4,ui J.cm7,fun _=>up_old _ h1,ui J.cm13,ui J.cm16,ui J.cm19,ui J.cm22,ui J.cm25,ui J.cv13,ui J.cv16,ui J.cv19,fun h=>(J.a12 (ud h)).keep hk,fun h=>(J.a15 (ud h)).keep hk,fun h=>(J.a18 (ud h)).keep hk,fun _=>⟨m,_,_,h3,h4,mapSet_same h5,h6.push hn hx hg⟩,fun h=>J.m26u (ud h),fun h=>J.m27 (ud h),fun h=>J.m28 (ud h),ui J.m29⟩
theorem JC.s13 (J:JC t b W mv2 L u8 u16 u18 u20 u25 u26 u27 w) (h0:L 13=false) (h1:L 1=true) (h2:L 12=true):∃ m es c,u8=.map (some m)∧w.heap[m]?=some (.map es c)∧MapIs es (fC b L u16 u18 u20)∧fC b L u16 u18 u20 kFileinto=none∧JC t b W mv2 (up L 13) u8 u16 u18 u20 u25 u26 u27 (mapSet w m (.map (es.push ⟨.string (strA kFileinto),u16,c⟩) (c+1))):=by
 obtain ⟨m,es,c,h3,h4,h5,h6⟩:=J.mp h1
 have hn:fC b L u16 u18 u20 kFileinto=none:=by unfold fC;rw [show whichL cmdNames kFileinto=4 from by decide];simp only [h0];rfl
 have hx:fC b (up L 13) u16 u18 u20 kFileinto=some (u16):=by unfold fC;rw [show whichL cmdNames kFileinto=4 from by decide];simp only [up_same];rfl
 have hg:∀ z,z≠kFileinto→fC b (up L 13) u16 u18 u20 z=fC b L u16 u18 u20 z:=fun z hz=>by
  have hw:whichL cmdNames z≠4:=fun e=>hz (by have:=whichL_get cmdNames z 3 e;simpa [cmdNames] using this.symm)
  unfold fC
  split <;> first | (rename_i e;exact absurd e hw) | simp only [up_other L (by decide)] | rfl
 have hmb:m≠b:=by have:=J.hb;omega
 have hk:∀ k cs ty,W.heap.size≤k→w.heap[k]?=some (.cells cs ty)→(mapSet w m (.map (es.push ⟨.string (strA kFileinto),u16,c⟩) (c+1))).heap[k]?=some (.cells cs ty):=fun k cs ty _ h=>by
  rw [mapSet_other (fun e=>by rw [e,h5] at h;cases h)];exact h
 have hkb:(mapSet w m (.map (es.push ⟨.string (strA kFileinto),u16,c⟩) (c+1))).heap[b]?=some (rdObj t (if L 29 then u25 else Value.map none) mv2):=by rw [mapSet_other (Ne.symm hmb)];exact J.rd
 refine ⟨m,es,c,h3,h5,h6,hn,?_⟩
 exact ⟨J.hb,mod_mapSet J.mod h4,by rw [up_other L (by decide)];exact hkb,ui J.cm4,ui J.cm7,ui J.cm10,fun _=>up_old _ h1,ui J.cm16,ui J.cm19,ui J.cm22,ui J.cm25,fun _=>up_old _ h2,ui J.cv16,ui J.cv19,fun h=>(J.a12 (ud h)).keep hk,fun h=>(J.a15 (ud h)).keep hk,fun h=>(J.a18 (ud h)).keep hk,fun _=>⟨m,_,_,h3,h4,mapSet_same h5,h6.push hn hx hg⟩,fun h=>J.m26u (ud h),fun h=>J.m27 (ud h),fun h=>J.m28 (ud h),ui J.m29⟩
theorem JC.s16 (J:JC t b W mv2 L u8 u16 u18 u20 u25 u26 u27 w) (h0:L 16=false) (h1:L 1=true) (h2:L 15=true):∃ m es c,u8=.map (some m)∧w.heap[m]?=some (.map es c)∧MapIs es (fC b L u16 u18 u20)∧fC b L u16 u18 u20 kRedirect=none∧JC t b W mv2 (up L 16) u8 u16 u18 u20 u25 u26 u27 (mapSet w m (.map (es.push ⟨.string (strA kRedirect),u18,c⟩) (c+1))):=by
 obtain ⟨m,es,c,h3,h4,h5,h6⟩:=J.mp h1
 have hn:fC b L u16 u18 u20 kRedirect=none:=by unfold fC;rw [show whichL cmdNames kRedirect=5 from by decide];simp only [h0];rfl
 have hx:fC b (up L 16) u16 u18 u20 kRedirect=some (u18):=by unfold fC;rw [show whichL cmdNames kRedirect=5 from by decide];simp only [up_same];rfl
 have hg:∀ z,z≠kRedirect→fC b (up L 16) u16 u18 u20 z=fC b L u16 u18 u20 z:=fun z hz=>by
  have hw:whichL cmdNames z≠5:=fun e=>hz (by have:=whichL_get cmdNames z 4 e;simpa [cmdNames] using this.symm)
  unfold fC
  split <;> first | (rename_i e;exact absurd e hw) | simp only [up_other L (by decide)] | rfl
 have hmb:m≠b:=by have:=J.hb;omega
 have hk:∀ k cs ty,W.heap.size≤k→w.heap[k]?=some (.cells cs ty)→(mapSet w m (.map (es.push ⟨.string (strA kRedirect),u18,c⟩) (c+1))).heap[k]?=some (.cells cs ty):=fun k cs ty _ h=>by
  rw [mapSet_other (fun e=>by rw [e,h5] at h;cases h)];exact h
 have hkb:(mapSet w m (.map (es.push ⟨.string (strA kRedirect),u18,c⟩) (c+1))).heap[b]?=some (rdObj t (if L 29 then u25 else Value.map none) mv2):=by rw [mapSet_other (Ne.symm hmb)];exact J.rd
 refine ⟨m,es,c,h3,h5,h6,hn,?_⟩
 exact ⟨J.hb,mod_mapSet J.mod h4,by rw [up_other L (by decide)];exact hkb,ui J.cm4,ui J.cm7,ui J.cm10,ui J.cm13,fun _=>up_old _ h1,ui J.cm19,ui J.cm22,ui J.cm25,ui J.cv13,fun _=>up_old _ h2,ui J.cv19,fun h=>(J.a12 (ud h)).keep hk,fun h=>(J.a15 (ud h)).keep hk,fun h=>(J.a18 (ud h)).keep hk,fun _=>⟨m,_,_,h3,h4,mapSet_same h5,h6.push hn hx hg⟩,fun h=>J.m26u (ud h),fun h=>J.m27 (ud h),fun h=>J.m28 (ud h),ui J.m29⟩
theorem JC.s19 (J:JC t b W mv2 L u8 u16 u18 u20 u25 u26 u27 w) (h0:L 19=false) (h1:L 1=true) (h2:L 18=true):∃ m es c,u8=.map (some m)∧w.heap[m]?=some (.map es c)∧MapIs es (fC b L u16 u18 u20)∧fC b L u16 u18 u20 kReject=none∧JC t b W mv2 (up L 19) u8 u16 u18 u20 u25 u26 u27 (mapSet w m (.map (es.push ⟨.string (strA kReject),u20,c⟩) (c+1))):=by
 obtain ⟨m,es,c,h3,h4,h5,h6⟩:=J.mp h1
 have hn:fC b L u16 u18 u20 kReject=none:=by unfold fC;rw [show whichL cmdNames kReject=6 from by decide];simp only [h0];rfl
 have hx:fC b (up L 19) u16 u18 u20 kReject=some (u20):=by unfold fC;rw [show whichL cmdNames kReject=6 from by decide];simp only [up_same];rfl
 have hg:∀ z,z≠kReject→fC b (up L 19) u16 u18 u20 z=fC b L u16 u18 u20 z:=fun z hz=>by
  have hw:whichL cmdNames z≠6:=fun e=>hz (by have:=whichL_get cmdNames z 5 e;simpa [cmdNames] using this.symm)
  unfold fC
  split <;> first | (rename_i e;exact absurd e hw) | simp only [up_other L (by decide)] | rfl
 have hmb:m≠b:=by have:=J.hb;omega
 have hk:∀ k cs ty,W.heap.size≤k→w.heap[k]?=some (.cells cs ty)→(mapSet w m (.map (es.push ⟨.string (strA kReject),u20,c⟩) (c+1))).heap[k]?=some (.cells cs ty):=fun k cs ty _ h=>by
  rw [mapSet_other (fun e=>by rw [e,h5] at h;cases h)];exact h
 have hkb:(mapSet w m (.map (es.push ⟨.string (strA kReject),u20,c⟩) (c+1))).heap[b]?=some (rdObj t (if L 29 then u25 else Value.map none) mv2):=by rw [mapSet_other (Ne.symm hmb)];exact J.rd
 refine ⟨m,es,c,h3,h5,h6,hn,?_⟩
 exact ⟨J.hb,mod_mapSet J.mod h4,by rw [up_other L (by decide)];exact hkb,ui J.cm4,ui J.cm7,ui J.cm10,ui J.cm13,ui J.cm16,fun _=>up_old _ h1,ui J.cm22,ui J.cm25,ui J.cv13,ui J.cv16,fun _=>up_old _ h2,fun h=>(J.a12 (ud h)).keep hk,fun h=>(J.a15 (ud h)).keep hk,fun h=>(J.a18 (ud h)).keep hk,fun _=>⟨m,_,_,h3,h4,mapSet_same h5,h6.push hn hx hg⟩,fun h=>J.m26u (ud h),fun h=>J.m27 (ud h),fun h=>J.m28 (ud h),ui J.m29⟩
theorem JC.s22 (J:JC t b W mv2 L u8 u16 u18 u20 u25 u26 u27 w) (h0:L 22=false) (h1:L 1=true):∃ m es c,u8=.map (some m)∧w.heap[m]?=some (.map es c)∧MapIs es (fC b L u16 u18 u20)∧fC b L u16 u18 u20 kSet=none∧JC t b W mv2 (up L 22) u8 u16 u18 u20 u25 u26 u27 (mapSet w m (.map (es.push ⟨.string (strA kSet),.func (.func 156) #[.pointer (some ⟨b,0,none⟩)] #[],c⟩) (c+1))):=by
 obtain ⟨m,es,c,h3,h4,h5,h6⟩:=J.mp h1
 have hn:fC b L u16 u18 u20 kSet=none:=by unfold fC;rw [show whichL cmdNames kSet=7 from by decide];simp only [h0];rfl
 have hx:fC b (up L 22) u16 u18 u20 kSet=some (.func (.func 156) #[.pointer (some ⟨b,0,none⟩)] #[]):=by unfold fC;rw [show whichL cmdNames kSet=7 from by decide];simp only [up_same];rfl
 have hg:∀ z,z≠kSet→fC b (up L 22) u16 u18 u20 z=fC b L u16 u18 u20 z:=fun z hz=>by
  have hw:whichL cmdNames z≠7:=fun e=>hz (by have:=whichL_get cmdNames z 6 e;simpa [cmdNames] using this.symm)
  unfold fC
  split <;> first | (rename_i e;exact absurd e hw) | simp only [up_other L (by decide)] | rfl
 have hmb:m≠b:=by have:=J.hb;omega
 have hk:∀ k cs ty,W.heap.size≤k→w.heap[k]?=some (.cells cs ty)→(mapSet w m (.map (es.push ⟨.string (strA kSet),.func (.func 156) #[.pointer (some ⟨b,0,none⟩)] #[],c⟩) (c+1))).heap[k]?=some (.cells cs ty):=fun k cs ty _ h=>by
  rw [mapSet_other (fun e=>by rw [e,h5] at h;cases h)];exact h
 have hkb:(mapSet w m (.map (es.push ⟨.string (strA kSet),.func (.func 156) #[.pointer (some ⟨b,0,none⟩)] #[],c⟩) (c+1))).heap[b]?=some (rdObj t (if L 29 then u25 else Value.map none) mv2):=by rw [mapSet_other (Ne.symm hmb)];exact J.rd
 refine ⟨m,es,c,h3,h5,h6,hn,?_⟩
 exact ⟨J.hb,mod_mapSet J.mod h4,by rw [up_other L (by decide)];exact hkb,ui J.cm4,ui J.cm7,ui J.cm10,ui J.cm13,ui J.cm16,ui J.cm19,fun _=>up_old _ h1,ui J.cm25,ui J.cv13,ui J.cv16,ui J.cv19,fun h=>(J.a12 (ud h)).keep hk,fun h=>(J.a15 (ud h)).keep hk,fun h=>(J.a18 (ud h)).keep hk,fun _=>⟨m,_,_,h3,h4,mapSet_same h5,h6.push hn hx hg⟩,fun h=>J.m26u (ud h),fun h=>J.m27 (ud h),fun h=>J.m28 (ud h),ui J.m29⟩
theorem JC.s25 (J:JC t b W mv2 L u8 u16 u18 u20 u25 u26 u27 w) (h0:L 25=false) (h1:L 1=true):∃ m es c,u8=.map (some m)∧w.heap[m]?=some (.map es c)∧MapIs es (fC b L u16 u18 u20)∧fC b L u16 u18 u20 kIf=none∧JC t b W mv2 (up L 25) u8 u16 u18 u20 u25 u26 u27 (mapSet w m (.map (es.push ⟨.string (strA kIf),.func (.func 157) #[.pointer (some ⟨b,0,none⟩)] #[],c⟩) (c+1))):=by
 obtain ⟨m,es,c,h3,h4,h5,h6⟩:=J.mp h1
 have hn:fC b L u16 u18 u20 kIf=none:=by unfold fC;rw [show whichL cmdNames kIf=8 from by decide];simp only [h0];rfl
 have hx:fC b (up L 25) u16 u18 u20 kIf=some (.func (.func 157) #[.pointer (some ⟨b,0,none⟩)] #[]):=by unfold fC;rw [show whichL cmdNames kIf=8 from by decide];simp only [up_same];rfl
 have hg:∀ z,z≠kIf→fC b (up L 25) u16 u18 u20 z=fC b L u16 u18 u20 z:=fun z hz=>by
  have hw:whichL cmdNames z≠8:=fun e=>hz (by have:=whichL_get cmdNames z 7 e;simpa [cmdNames] using this.symm)
  unfold fC
  split <;> first | (rename_i e;exact absurd e hw) | simp only [up_other L (by decide)] | rfl
 have hmb:m≠b:=by have:=J.hb;omega
 have hk:∀ k cs ty,W.heap.size≤k→w.heap[k]?=some (.cells cs ty)→(mapSet w m (.map (es.push ⟨.string (strA kIf),.func (.func 157) #[.pointer (some ⟨b,0,none⟩)] #[],c⟩) (c+1))).heap[k]?=some (.cells cs ty):=fun k cs ty _ h=>by
  rw [mapSet_other (fun e=>by rw [e,h5] at h;cases h)];exact h
 have hkb:(mapSet w m (.map (es.push ⟨.string (strA kIf),.func (.func 157) #[.pointer (some ⟨b,0,none⟩)] #[],c⟩) (c+1))).heap[b]?=some (rdObj t (if L 29 then u25 else Value.map none) mv2):=by rw [mapSet_other (Ne.symm hmb)];exact J.rd
 refine ⟨m,es,c,h3,h5,h6,hn,?_⟩
 exact ⟨J.hb,mod_mapSet J.mod h4,by rw [up_other L (by decide)];exact hkb,ui J.cm4,ui J.cm7,ui J.cm10,ui J.cm13,ui J.cm16,ui J.cm19,ui J.cm22,fun _=>up_old _ h1,ui J.cv13,ui J.cv16,ui J.cv19,fun h=>(J.a12 (ud h)).keep hk,fun h=>(J.a15 (ud h)).keep hk,fun h=>(J.a18 (ud h)).keep hk,fun _=>⟨m,_,_,h3,h4,mapSet_same h5,h6.push hn hx hg⟩,fun h=>J.m26u (ud h),fun h=>J.m27 (ud h),fun h=>J.m28 (ud h),ui J.m29⟩
theorem JC.s26 (J:JC t b W mv2 L u8 u16 u18 u20 u25 u26 u27 w) (h0:L 26=false) (h1:L 1=true) (hi4:L 4=true) (hi7:L 7=true) (hi10:L 10=true) (hi13:L 13=true) (hi16:L 16=true) (hi19:L 19=true) (hi22:L 22=true) (hi25:L 25=true):JC t b W mv2 (up L 26) u8 u16 u18 u20 u8 u26 u27 w:=by
 have n29:L 29=false:=nf J.m29 h0
 have hk:∀ k cs ty,W.heap.size≤k→w.heap[k]?=some (.cells cs ty)→w.heap[k]?=some (.cells cs ty):=fun k cs ty _ h=>h
 have hkm:∀ (m:Nat) (es:Array MapEntry) (c:Nat),w.heap[m]?=some (Obj.map es c)→w.heap[m]?=some (Obj.map es c):=fun m es c h=>h
 exact ⟨J.hb,J.mod.trans (Mod.refl b w),by have:=J.rd;rw [n29] at this;rw [up_other L (by decide),n29];exact this,ui J.cm4,ui J.cm7,ui J.cm10,ui J.cm13,ui J.cm16,ui J.cm19,ui J.cm22,ui J.cm25,ui J.cv13,ui J.cv16,ui J.cv19,fun h=>(J.a12 (ud h)).keep hk,fun h=>(J.a15 (ud h)).keep hk,fun h=>(J.a18 (ud h)).keep hk,fun h=>by obtain ⟨m,es,c,h3,h4,h5,h6⟩:=J.mp (ud h);exact ⟨m,es,c,h3,h4,hkm m _ _ h5,h6.congr (fun x=>(fC_up 26 (by decide) x).symm)⟩,fun _=>⟨rfl,up_old _ h1,up_old _ hi4,up_old _ hi7,up_old _ hi10,up_old _ hi13,up_old _ hi16,up_old _ hi19,up_old _ hi22,up_old _ hi25⟩,fun h=>J.m27 (ud h),fun h=>J.m28 (ud h),ui J.m29⟩
theorem JC.s27 (J:JC t b W mv2 L u8 u16 u18 u20 u25 u26 u27 w) (h0:L 27=false):JC t b W mv2 (up L 27) u8 u16 u18 u20 u25 (.pointer (some ⟨b,0,none⟩)) u27 w:=by
 have hk:∀ k cs ty,W.heap.size≤k→w.heap[k]?=some (.cells cs ty)→w.heap[k]?=some (.cells cs ty):=fun k cs ty _ h=>h
 have hkm:∀ (m:Nat) (es:Array MapEntry) (c:Nat),w.heap[m]?=some (Obj.map es c)→w.heap[m]?=some (Obj.map es c):=fun m es c h=>h
 exact ⟨J.hb,J.mod.trans (Mod.refl b w),by rw [up_other L (by decide)];exact J.rd,ui J.cm4,ui J.cm7,ui J.cm10,ui J.cm13,ui J.cm16,ui J.cm19,ui J.cm22,ui J.cm25,ui J.cv13,ui J.cv16,ui J.cv19,fun h=>(J.a12 (ud h)).keep hk,fun h=>(J.a15 (ud h)).keep hk,fun h=>(J.a18 (ud h)).keep hk,fun h=>by obtain ⟨m,es,c,h3,h4,h5,h6⟩:=J.mp (ud h);exact ⟨m,es,c,h3,h4,hkm m _ _ h5,h6.congr (fun x=>(fC_up 27 (by decide) x).symm)⟩,fun h=>J.m26u (ud h),fun _=>rfl,fun h=>J.m28 (ud h),ui J.m29⟩
theorem JC.s28 (J:JC t b W mv2 L u8 u16 u18 u20 u25 u26 u27 w) (h0:L 28=false):JC t b W mv2 (up L 28) u8 u16 u18 u20 u25 u26 (.pointer (some ⟨b,8,none⟩)) w:=by
 have hk:∀ k cs ty,W.heap.size≤k→w.heap[k]?=some (.cells cs ty)→w.heap[k]?=some (.cells cs ty):=fun k cs ty _ h=>h
 have hkm:∀ (m:Nat) (es:Array MapEntry) (c:Nat),w.heap[m]?=some (Obj.map es c)→w.heap[m]?=some (Obj.map es c):=fun m es c h=>h
 exact ⟨J.hb,J.mod.trans (Mod.refl b w),by rw [up_other L (by decide)];exact J.rd,ui J.cm4,ui J.cm7,ui J.cm10,ui J.cm13,ui J.cm16,ui J.cm19,ui J.cm22,ui J.cm25,ui J.cv13,ui J.cv16,ui J.cv19,fun h=>(J.a12 (ud h)).keep hk,fun h=>(J.a15 (ud h)).keep hk,fun h=>(J.a18 (ud h)).keep hk,fun h=>by obtain ⟨m,es,c,h3,h4,h5,h6⟩:=J.mp (ud h);exact ⟨m,es,c,h3,h4,hkm m _ _ h5,h6.congr (fun x=>(fC_up 28 (by decide) x).symm)⟩,fun h=>J.m26u (ud h),fun h=>J.m27 (ud h),fun _=>rfl,ui J.m29⟩
theorem JC.s29 (J:JC t b W mv2 L u8 u16 u18 u20 u25 u26 u27 w) (h0:L 29=false) (h26:L 26=true):JC t b W mv2 (up L 29) u8 u16 u18 u20 u25 u26 u27 (w.setCell ⟨b,8,none⟩ u25):=by
 have hb:=J.hb
 have hk:∀ k cs ty,W.heap.size≤k→w.heap[k]?=some (.cells cs ty)→(w.setCell ⟨b,8,none⟩ u25).heap[k]?=some (.cells cs ty):=fun k cs ty hk h=>by rw [Below.heap_setCell _ _ _ _ (show k≠b by omega)];exact h
 have hkm:∀ (m:Nat) (es:Array MapEntry) (c:Nat),w.heap[m]?=some (Obj.map es c)→(w.setCell ⟨b,8,none⟩ u25).heap[m]?=some (Obj.map es c):=fun m es c h=>by
  have hr:=J.rd
  rw [Below.heap_setCell _ _ _ _ (show m≠b from fun e=>by rw [e,hr] at h;cases h)];exact h
 exact ⟨J.hb,J.mod.setCell 8 u25,by rw [up_same];exact heap_setCell_at _ _ _ _ _ _ J.rd,ui J.cm4,ui J.cm7,ui J.cm10,ui J.cm13,ui J.cm16,ui J.cm19,ui J.cm22,ui J.cm25,ui J.cv13,ui J.cv16,ui J.cv19,fun h=>(J.a12 (ud h)).keep hk,fun h=>(J.a15 (ud h)).keep hk,fun h=>(J.a18 (ud h)).keep hk,fun h=>by obtain ⟨m,es,c,h3,h4,h5,h6⟩:=J.mp (ud h);exact ⟨m,es,c,h3,h4,hkm m _ _ h5,h6.congr (fun x=>(fC_up 29 (by decide) x).symm)⟩,fun h=>J.m26u (ud h),fun h=>J.m27 (ud h),fun h=>J.m28 (ud h),fun _=>up_old _ h26⟩
theorem JC.done (J:JC t b W mv2 L u8 u16 u18 u20 u25 u26 u27 w) (hall:∀ i,i < 30→L i=true):∃ m p1 k1 p2 k2 p3 k3,w.heap[b]?=some (rdObj t (.map (some m)) mv2)∧CMap w b m p1 k1 p2 k2 p3 k3∧Mod b W w∧W.heap.size≤m:=by
 obtain ⟨m,es,c,h3,h4,h5,h6⟩:=J.mp (hall 1 (by decide))
 obtain ⟨p1,k1,e1,hp1,hk1,hp1',hk1'⟩:=J.a12 (hall 12 (by decide))
 obtain ⟨p2,k2,e2,hp2,hk2,hp2',hk2'⟩:=J.a15 (hall 15 (by decide))
 obtain ⟨p3,k3,e3,hp3,hk3,hp3',hk3'⟩:=J.a18 (hall 18 (by decide))
 have hb:=J.hb
 have hr:=J.rd
 rw [hall 29 (by decide),if_pos rfl,(J.m26 (hall 26 (by decide))).1,h3] at hr
 have hf:MapIs es (cmdFn b p1 k1 p2 k2 p3 k3):=h6.congr (fun x=>by
  subst e1 e2 e3
  unfold fC cmdFn
  simp only [hall 4 (by decide),hall 7 (by decide),hall 10 (by decide),hall 13 (by decide),hall 16 (by decide),hall 19 (by decide),hall 22 (by decide),hall 25 (by decide),if_true]
  all_goals (
   generalize whichL cmdNames x=i
   match i with
   | 0 | 1 | 2 | 3 | 4 | 5 | 6 | 7 | 8=>rfl
   | n+9=>rfl))
 exact ⟨m,p1,k1,p2,k2,p3,k3,hr,⟨lookOk_of (K:=9) (E:=261) Tryz.underlying257 Tryz.underlying9 zeroFnC h5 hf,⟨blk_cell hp1' 0,by omega⟩,blk_cell hk1' 0,⟨blk_cell hp2' 0,by omega⟩,blk_cell hk2' 0,⟨blk_cell hp3' 0,by omega⟩,blk_cell hk3' 0,by omega,by omega,by omega,by omega,blk_lt h5⟩,J.mod,h4⟩
end
theorem wpAnyH_inv {P:Program} {md:Region.Mode} {ops:Array Oper} {Q:Exit→Act→World→Prop} {S:World→Prop} (J:Array Bool→Act→World→Prop)
  (hsz:∀ l a w,J l a w→l.size=ops.size) (hS:∀ l a w,J l a w→S w)
  (hstep:∀ l a w i,J l a w→i∈Region.ready md ops l→wpOp P ops Q i (fun a' w'=>J (l.setIfInBounds i true) a' w') a w)
  (hdone:∀ l a w,J l a w→Region.ready md ops l=[]→Q .normal a w) :
  ∀ (fuel:Nat) (l:Array Bool) (a:Act) (w:World),l.toList.count false≤fuel→J l a w→wpAnyH P md ops Q S fuel l a w
 | 0,l,a,w,hf,hJ=>by
  have hr:Region.ready md ops l=[]:=by
   rw [List.eq_nil_iff_forall_not_mem]
   intro i hi
   obtain ⟨h0,o,ho,_⟩:=mem_ready.1 hi
   have hlt:i < l.size:=by rw [hsz l a w hJ];exact (Array.getElem?_eq_some_iff.1 ho).1
   have:l[i]=false:=by simpa [hlt] using h0
   have hm:false∈l.toList:=by rw [← this];simp
   have:=List.count_pos_iff.2 hm
   omega
  exact ⟨hr,hdone l a w hJ hr⟩
 | fuel+1,l,a,w,hf,hJ=>by
  refine ⟨hdone l a w hJ,fun i hi=>wpOp_mono (fun a' w' h=>⟨hS _ _ _ h,?_⟩) (hstep l a w i hJ hi)⟩
  refine wpAnyH_inv J hsz hS hstep hdone fuel _ a' w' ?_ h
  obtain ⟨h0,o,ho,_⟩:=mem_ready.1 hi
  have hlt:i < l.size:=by rw [hsz l a w hJ];exact (Array.getElem?_eq_some_iff.1 ho).1
  have hv:l[i]=false:=by simpa [hlt] using h0
  have e:(l.setIfInBounds i true).toList=l.toList.set i true:=by simp
  rw [e]
  have hc:=List.count_set (a:=true) (b:=false) (l:=l.toList) (i:=i) (h:=by simpa using hlt)
  have hv':l.toList[i]'(by simpa using hlt)=false:=by simpa using hv
  rw [hv'] at hc
  simp only [beq_self_eq_true,if_true,show ((true:Bool) == false)=false from rfl,Bool.false_eq_true,if_false] at hc
  have hm:false∈l.toList:=by rw [← hv'];simp
  have:=List.count_pos_iff.2 hm
  omega
theorem ready_nil_all {md:Region.Mode} {ops:Array Oper} {l:Array Bool} (hl:l.size=ops.size) (hd:((List.range ops.size).all fun i=>(ops[i]?).all fun o=>o.after.all fun e=>decide (e.on < i))=true) (hr:Region.ready md ops l=[]):∀ i,i < ops.size→l.getD i false=true:=by
 intro i
 induction i using Nat.strongRecOn with
 | _ i ih=>
  intro hi
  apply Classical.byContradiction
  intro hn
  have hm:i∈Region.ready md ops l:=by
   refine mem_ready.2 ⟨?_,ops[i],by simp [hi],fun e he _=>?_⟩
   ·have:i < l.size:=by omega
    simp [this] at hn ⊢
    exact hn
   ·have h1:=List.all_eq_true.1 hd i (List.mem_range.2 hi)
    rw [Array.getElem?_eq_getElem hi] at h1
    simp only [Option.all_some] at h1
    have h2:=Array.all_eq_true_iff_forall_mem.1 h1 e he
    have h3:e.on < i:=of_decide_eq_true h2
    exact ih e.on h3 (by omega)
  rw [hr] at hm
  cases hm
theorem wpOp_of {P:Program} {ops:Array Oper} {Q:Exit→Act→World→Prop} {i:Nat} {o:Oper} {K:Act→World→Prop} {a:Act} {w:World} (ho:ops[i]?=some o) (hw:Region.wanted o (yielded ops a.tmps)=true) (h:o.wp P a w K Q):wpOp P ops Q i K a w:=by
 unfold wpOp
 rw [ho]
 dsimp only
 rw [if_pos hw]
 exact Or.inl h
end
section
open Go.RowKit
def TruthAt (w:World) (B:Nat) (h:Bool) (v:Value):Prop:=
 ∃ p,v=.func (.func 251) #[] #[.pointer (some ⟨p,0,none⟩)]∧B≤p∧w.heap[p]?=some (.cells #[.bool h] 4)
theorem TruthAt.keep {w w':World} {B:Nat} {h:Bool} {v:Value} (hh:TruthAt w B h v) (hk:∀ k cs ty,B≤k→w.heap[k]?=some (.cells cs ty)→w'.heap[k]?=some (.cells cs ty)):TruthAt w' B h v:=by
 obtain ⟨p,hv,hp,h1⟩:=hh
 exact ⟨p,hv,hp,hk p _ _ hp h1⟩
def fT (b:Nat) (L:Nat→Bool) (u30 u31:Value) (x:List UInt8):Option Value:=
 match whichL testNames x with
 | 1=>if L 3 then some (u30) else none
 | 2=>if L 5 then some (u31) else none
 | 3=>if L 8 then some (.func (.func 159) #[.pointer (some ⟨b,0,none⟩)] #[]) else none
 | 4=>if L 10 then some (.func (.func 160) #[] #[.pointer (some ⟨b+1,0,none⟩)]) else none
 | 5=>if L 12 then some (.func (.func 162) #[] #[.pointer (some ⟨b+1,0,none⟩)]) else none
 | 6=>if L 14 then some (.func (.func 163) #[] #[.pointer (some ⟨b+1,0,none⟩)]) else none
 | 7=>if L 16 then some (.func (.func 166) #[] #[.pointer (some ⟨b+1,0,none⟩)]) else none
 | 8=>if L 18 then some (.func (.func 169) #[] #[.pointer (some ⟨b+1,0,none⟩)]) else none
 | 9=>if L 21 then some (.func (.func 170) #[.pointer (some ⟨b,0,none⟩)] #[]) else none
 | 10=>if L 24 then some (.func (.func 171) #[.pointer (some ⟨b,0,none⟩)] #[]) else none
 | _=>none
structure JT (t:ByteArray) (b:Nat) (W:World) (mv1:Value) (L:Nat→Bool) (u29 u30 u31 u43 u44 u45:Value) (w:World):Prop where
 hb:b < W.heap.size
 mod:Mod b W w
 rd:w.heap[b]?=some (rdObj t mv1 (if L 28 then u43 else Value.map none))
 cm3:L 3=true→L 1=true
 cm5:L 5=true→L 1=true
 cm8:L 8=true→L 1=true
 cm10:L 10=true→L 1=true
 cm12:L 12=true→L 1=true
 cm14:L 14=true→L 1=true
 cm16:L 16=true→L 1=true
 cm18:L 18=true→L 1=true
 cm21:L 21=true→L 1=true
 cm24:L 24=true→L 1=true
 cv3:L 3=true→L 2=true
 cv5:L 5=true→L 4=true
 a2:L 2=true→TruthAt w W.heap.size true u30
 a4:L 4=true→TruthAt w W.heap.size false u31
 mp:L 1=true→∃ m es c,u29=.map (some m)∧W.heap.size≤m∧w.heap[m]?=some (.map es c)∧MapIs es (fT b L u30 u31)
 m25:L 25=true→u43=u29∧L 1=true∧L 3=true∧L 5=true∧L 8=true∧L 10=true∧L 12=true∧L 14=true∧L 16=true∧L 18=true∧L 21=true∧L 24=true
 m26:L 26=true→u44=.pointer (some ⟨b,0,none⟩)
 m27:L 27=true→u45=.pointer (some ⟨b,9,none⟩)
 m28:L 28=true→L 25=true
section
variable {t:ByteArray} {b:Nat} {W:World} {mv1:Value} {L:Nat→Bool} {u29 u30 u31 u43 u44 u45:Value} {w:World}
theorem fT_up (i:Nat) (h:i≠3∧i≠5∧i≠8∧i≠10∧i≠12∧i≠14∧i≠16∧i≠18∧i≠21∧i≠24) (x:List UInt8):fT b (up L i) u30 u31 x=fT b L u30 u31 x:=by
 obtain ⟨h0,h1,h2,h3,h4,h5,h6,h7,h8,h9⟩:=h
 unfold fT
 simp only [up_other L (Ne.symm h0),up_other L (Ne.symm h1),up_other L (Ne.symm h2),up_other L (Ne.symm h3),up_other L (Ne.symm h4),up_other L (Ne.symm h5),up_other L (Ne.symm h6),up_other L (Ne.symm h7),up_other L (Ne.symm h8),up_other L (Ne.symm h9)]
theorem JT.m25u (J:JT t b W mv1 L u29 u30 u31 u43 u44 u45 w) {i:Nat} (h:L 25=true):u43=u29∧up L i 1=true∧up L i 3=true∧up L i 5=true∧up L i 8=true∧up L i 10=true∧up L i 12=true∧up L i 14=true∧up L i 16=true∧up L i 18=true∧up L i 21=true∧up L i 24=true:=by
 obtain ⟨e1,e2,e3,e4,e5,e6,e7,e8,e9,e10,e11,e12⟩:=J.m25 h
 exact ⟨e1,up_old _ e2,up_old _ e3,up_old _ e4,up_old _ e5,up_old _ e6,up_old _ e7,up_old _ e8,up_old _ e9,up_old _ e10,up_old _ e11,up_old _ e12⟩
theorem JT.s1 (J:JT t b W mv1 L u29 u30 u31 u43 u44 u45 w) (h0:L 1=false):JT t b W mv1 (up L 1) (.map (some w.heap.size)) u30 u31 u43 u44 u45 (w.alloc (Obj.map #[] 0)):=by
 have hk:∀ k cs ty,W.heap.size≤k→w.heap[k]?=some (.cells cs ty)→(w.alloc (Obj.map #[] 0)).heap[k]?=some (.cells cs ty):=fun k cs ty _ h=>blk_alloc h
 have hkb:(w.alloc (Obj.map #[] 0)).heap[b]?=some (rdObj t mv1 (if L 28 then u43 else Value.map none)):=blk_alloc J.rd
 have n3:L 3=false:=nf J.cm3 h0
 have n5:L 5=false:=nf J.cm5 h0
 have n8:L 8=false:=nf J.cm8 h0
 have n10:L 10=false:=nf J.cm10 h0
 have n12:L 12=false:=nf J.cm12 h0
 have n14:L 14=false:=nf J.cm14 h0
 have n16:L 16=false:=nf J.cm16 h0
 have n18:L 18=false:=nf J.cm18 h0
 have n21:L 21=false:=nf J.cm21 h0
 have n24:L 24=false:=nf J.cm24 h0
 exact ⟨J.hb,J.mod.trans ((Mod.refl b w).alloc _),by rw [up_other L (by decide)];exact hkb,ui J.cm3,ui J.cm5,ui J.cm8,ui J.cm10,ui J.cm12,ui J.cm14,ui J.cm16,ui J.cm18,ui J.cm21,ui J.cm24,ui J.cv3,ui J.cv5,fun h=>(J.a2 (ud h)).keep hk,fun h=>(J.a4 (ud h)).keep hk,fun _=>⟨w.heap.size,#[],0,rfl,J.mod.size,blk_new _ _,MapIs.empty.congr (fun x=>by rw [fT_up 1 (by decide)];unfold fT;simp only [n3,n5,n8,n10,n12,n14,n16,n18,n21,n24];split <;> rfl)⟩,fun h=>absurd (J.m25 (ud h)).2.1 (by rw [h0];decide),fun h=>J.m26 (ud h),fun h=>J.m27 (ud h),ui J.m28⟩
theorem JT.s2 (J:JT t b W mv1 L u29 u30 u31 u43 u44 u45 w) (h0:L 2=false):JT t b W mv1 (up L 2) u29 (.func (.func 251) #[] #[.pointer (some ⟨w.heap.size,0,none⟩)]) u31 u43 u44 u45 (w.alloc (.cells #[.bool true] 4)):=by
 have hk:∀ k cs ty,W.heap.size≤k→w.heap[k]?=some (.cells cs ty)→(w.alloc (.cells #[.bool true] 4)).heap[k]?=some (.cells cs ty):=fun k cs ty _ h=>blk_alloc h
 have hkm:∀ (m:Nat) (es:Array MapEntry) (c:Nat),w.heap[m]?=some (Obj.map es c)→(w.alloc (.cells #[.bool true] 4)).heap[m]?=some (Obj.map es c):=fun m es c h=>blk_alloc h
 have hkb:(w.alloc (.cells #[.bool true] 4)).heap[b]?=some (rdObj t mv1 (if L 28 then u43 else Value.map none)):=blk_alloc J.rd
 have hn:L 3=false:=nf J.cv3 h0
 have hsz:=J.mod.size
 exact ⟨J.hb,J.mod.trans ((Mod.refl b w).alloc _),by rw [up_other L (by decide)];exact hkb,ui J.cm3,ui J.cm5,ui J.cm8,ui J.cm10,ui J.cm12,ui J.cm14,ui J.cm16,ui J.cm18,ui J.cm21,ui J.cm24,ui J.cv3,ui J.cv5,fun _=>⟨w.heap.size,rfl,hsz,blk_new _ _⟩,fun h=>(J.a4 (ud h)).keep hk,fun h=>by obtain ⟨m,es,c,h3,h4,h5,h6⟩:=J.mp (ud h);exact ⟨m,es,c,h3,h4,hkm m _ _ h5,h6.congr (fun x=>by rw [fT_up 2 (by decide)];unfold fT;simp only [hn,Bool.false_eq_true,if_false])⟩,fun h=>J.m25u (ud h),fun h=>J.m26 (ud h),fun h=>J.m27 (ud h),ui J.m28⟩
theorem JT.s4 (J:JT t b W mv1 L u29 u30 u31 u43 u44 u45 w) (h0:L 4=false):JT t b W mv1 (up L 4) u29 u30 (.func (.func 251) #[] #[.pointer (some ⟨w.heap.size,0,none⟩)]) u43 u44 u45 (w.alloc (.cells #[.bool false] 4)):=by
 have hk:∀ k cs ty,W.heap.size≤k→w.heap[k]?=some (.cells cs ty)→(w.alloc (.cells #[.bool false] 4)).heap[k]?=some (.cells cs ty):=fun k cs ty _ h=>blk_alloc h
 have hkm:∀ (m:Nat) (es:Array MapEntry) (c:Nat),w.heap[m]?=some (Obj.map es c)→(w.alloc (.cells #[.bool false] 4)).heap[m]?=some (Obj.map es c):=fun m es c h=>blk_alloc h
 have hkb:(w.alloc (.cells #[.bool false] 4)).heap[b]?=some (rdObj t mv1 (if L 28 then u43 else Value.map none)):=blk_alloc J.rd
 have hn:L 5=false:=nf J.cv5 h0
 have hsz:=J.mod.size
 exact ⟨J.hb,J.mod.trans ((Mod.refl b w).alloc _),by rw [up_other L (by decide)];exact hkb,ui J.cm3,ui J.cm5,ui J.cm8,ui J.cm10,ui J.cm12,ui J.cm14,ui J.cm16,ui J.cm18,ui J.cm21,ui J.cm24,ui J.cv3,ui J.cv5,fun h=>(J.a2 (ud h)).keep hk,fun _=>⟨w.heap.size,rfl,hsz,blk_new _ _⟩,fun h=>by obtain ⟨m,es,c,h3,h4,h5,h6⟩:=J.mp (ud h);exact ⟨m,es,c,h3,h4,hkm m _ _ h5,h6.congr (fun x=>by rw [fT_up 4 (by decide)];unfold fT;simp only [hn,Bool.false_eq_true,if_false])⟩,fun h=>J.m25u (ud h),fun h=>J.m26 (ud h),fun h=>J.m27 (ud h),ui J.m28⟩
theorem JT.s3 (J:JT t b W mv1 L u29 u30 u31 u43 u44 u45 w) (h0:L 3=false) (h1:L 1=true) (h2:L 2=true):∃ m es c,u29=.map (some m)∧w.heap[m]?=some (.map es c)∧MapIs es (fT b L u30 u31)∧fT b L u30 u31 kTrue=none∧JT t b W mv1 (up L 3) u29 u30 u31 u43 u44 u45 (mapSet w m (.map (es.push ⟨.string (strA kTrue),u30,c⟩) (c+1))):=by
 obtain ⟨m,es,c,h3,h4,h5,h6⟩:=J.mp h1
 have hn:fT b L u30 u31 kTrue=none:=by unfold fT;rw [show whichL testNames kTrue=1 from by decide];simp only [h0];rfl
 have hx:fT b (up L 3) u30 u31 kTrue=some (u30):=by unfold fT;rw [show whichL testNames kTrue=1 from by decide];simp only [up_same];rfl
 have hg:∀ z,z≠kTrue→fT b (up L 3) u30 u31 z=fT b L u30 u31 z:=fun z hz=>by
  have hw:whichL testNames z≠1:=fun e=>hz (by have:=whichL_get testNames z 0 e;simpa [testNames] using this.symm)
  unfold fT
  split <;> first | (rename_i e;exact absurd e hw) | simp only [up_other L (by decide)] | rfl
 have hmb:m≠b:=by have:=J.hb;omega
 have hk:∀ k cs ty,W.heap.size≤k→w.heap[k]?=some (.cells cs ty)→(mapSet w m (.map (es.push ⟨.string (strA kTrue),u30,c⟩) (c+1))).heap[k]?=some (.cells cs ty):=fun k cs ty _ h=>by
  rw [mapSet_other (fun e=>by rw [e,h5] at h;cases h)];exact h
 have hkb:(mapSet w m (.map (es.push ⟨.string (strA kTrue),u30,c⟩) (c+1))).heap[b]?=some (rdObj t mv1 (if L 28 then u43 else Value.map none)):=by rw [mapSet_other (Ne.symm hmb)];exact J.rd
 refine ⟨m,es,c,h3,h5,h6,hn,?_⟩
 exact ⟨J.hb,mod_mapSet J.mod h4,by rw [up_other L (by decide)];exact hkb,fun _=>up_old _ h1,ui J.cm5,ui J.cm8,ui J.cm10,ui J.cm12,ui J.cm14,ui J.cm16,ui J.cm18,ui J.cm21,ui J.cm24,fun _=>up_old _ h2,ui J.cv5,fun h=>(J.a2 (ud h)).keep hk,fun h=>(J.a4 (ud h)).keep hk,fun _=>⟨m,_,_,h3,h4,mapSet_same h5,h6.push hn hx hg⟩,fun h=>J.m25u (ud h),fun h=>J.m26 (ud h),fun h=>J.m27 (ud h),ui J.m28⟩
theorem JT.s5 (J:JT t b W mv1 L u29 u30 u31 u43 u44 u45 w) (h0:L 5=false) (h1:L 1=true) (h2:L 4=true):∃ m es c,u29=.map (some m)∧w.heap[m]?=some (.map es c)∧MapIs es (fT b L u30 u31)∧fT b L u30 u31 kFalse=none∧JT t b W mv1 (up L 5) u29 u30 u31 u43 u44 u45 (mapSet w m (.map (es.push ⟨.string (strA kFalse),u31,c⟩) (c+1))):=by
 obtain ⟨m,es,c,h3,h4,h5,h6⟩:=J.mp h1
 have hn:fT b L u30 u31 kFalse=none:=by unfold fT;rw [show whichL testNames kFalse=2 from by decide];simp only [h0];rfl
 have hx:fT b (up L 5) u30 u31 kFalse=some (u31):=by unfold fT;rw [show whichL testNames kFalse=2 from by decide];simp only [up_same];rfl
 have hg:∀ z,z≠kFalse→fT b (up L 5) u30 u31 z=fT b L u30 u31 z:=fun z hz=>by
  have hw:whichL testNames z≠2:=fun e=>hz (by have:=whichL_get testNames z 1 e;simpa [testNames] using this.symm)
  unfold fT
  split <;> first | (rename_i e;exact absurd e hw) | simp only [up_other L (by decide)] | rfl
 have hmb:m≠b:=by have:=J.hb;omega
 have hk:∀ k cs ty,W.heap.size≤k→w.heap[k]?=some (.cells cs ty)→(mapSet w m (.map (es.push ⟨.string (strA kFalse),u31,c⟩) (c+1))).heap[k]?=some (.cells cs ty):=fun k cs ty _ h=>by
  rw [mapSet_other (fun e=>by rw [e,h5] at h;cases h)];exact h
 have hkb:(mapSet w m (.map (es.push ⟨.string (strA kFalse),u31,c⟩) (c+1))).heap[b]?=some (rdObj t mv1 (if L 28 then u43 else Value.map none)):=by rw [mapSet_other (Ne.symm hmb)];exact J.rd
 refine ⟨m,es,c,h3,h5,h6,hn,?_⟩
 exact ⟨J.hb,mod_mapSet J.mod h4,by rw [up_other L (by decide)];exact hkb,ui J.cm3,fun _=>up_old _ h1,ui J.cm8,ui J.cm10,ui J.cm12,ui J.cm14,ui J.cm16,ui J.cm18,ui J.cm21,ui J.cm24,ui J.cv3,fun _=>up_old _ h2,fun h=>(J.a2 (ud h)).keep hk,fun h=>(J.a4 (ud h)).keep hk,fun _=>⟨m,_,_,h3,h4,mapSet_same h5,h6.push hn hx hg⟩,fun h=>J.m25u (ud h),fun h=>J.m26 (ud h),fun h=>J.m27 (ud h),ui J.m28⟩
theorem JT.s8 (J:JT t b W mv1 L u29 u30 u31 u43 u44 u45 w) (h0:L 8=false) (h1:L 1=true):∃ m es c,u29=.map (some m)∧w.heap[m]?=some (.map es c)∧MapIs es (fT b L u30 u31)∧fT b L u30 u31 kNot=none∧JT t b W mv1 (up L 8) u29 u30 u31 u43 u44 u45 (mapSet w m (.map (es.push ⟨.string (strA kNot),.func (.func 159) #[.pointer (some ⟨b,0,none⟩)] #[],c⟩) (c+1))):=by
 obtain ⟨m,es,c,h3,h4,h5,h6⟩:=J.mp h1
 have hn:fT b L u30 u31 kNot=none:=by unfold fT;rw [show whichL testNames kNot=3 from by decide];simp only [h0];rfl
 have hx:fT b (up L 8) u30 u31 kNot=some (.func (.func 159) #[.pointer (some ⟨b,0,none⟩)] #[]):=by unfold fT;rw [show whichL testNames kNot=3 from by decide];simp only [up_same];rfl
 have hg:∀ z,z≠kNot→fT b (up L 8) u30 u31 z=fT b L u30 u31 z:=fun z hz=>by
  have hw:whichL testNames z≠3:=fun e=>hz (by have:=whichL_get testNames z 2 e;simpa [testNames] using this.symm)
  unfold fT
  split <;> first | (rename_i e;exact absurd e hw) | simp only [up_other L (by decide)] | rfl
 have hmb:m≠b:=by have:=J.hb;omega
 have hk:∀ k cs ty,W.heap.size≤k→w.heap[k]?=some (.cells cs ty)→(mapSet w m (.map (es.push ⟨.string (strA kNot),.func (.func 159) #[.pointer (some ⟨b,0,none⟩)] #[],c⟩) (c+1))).heap[k]?=some (.cells cs ty):=fun k cs ty _ h=>by
  rw [mapSet_other (fun e=>by rw [e,h5] at h;cases h)];exact h
 have hkb:(mapSet w m (.map (es.push ⟨.string (strA kNot),.func (.func 159) #[.pointer (some ⟨b,0,none⟩)] #[],c⟩) (c+1))).heap[b]?=some (rdObj t mv1 (if L 28 then u43 else Value.map none)):=by rw [mapSet_other (Ne.symm hmb)];exact J.rd
 refine ⟨m,es,c,h3,h5,h6,hn,?_⟩
 exact ⟨J.hb,mod_mapSet J.mod h4,by rw [up_other L (by decide)];exact hkb,ui J.cm3,ui J.cm5,fun _=>up_old _ h1,ui J.cm10,ui J.cm12,ui J.cm14,ui J.cm16,ui J.cm18,ui J.cm21,ui J.cm24,ui J.cv3,ui J.cv5,fun h=>(J.a2 (ud h)).keep hk,fun h=>(J.a4 (ud h)).keep hk,fun _=>⟨m,_,_,h3,h4,mapSet_same h5,h6.push hn hx hg⟩,fun h=>J.m25u (ud h),fun h=>J.m26 (ud h),fun h=>J.m27 (ud h),ui J.m28⟩
theorem JT.s10 (J:JT t b W mv1 L u29 u30 u31 u43 u44 u45 w) (h0:L 10=false) (h1:L 1=true):∃ m es c,u29=.map (some m)∧w.heap[m]?=some (.map es c)∧MapIs es (fT b L u30 u31)∧fT b L u30 u31 kAllof=none∧JT t b W mv1 (up L 10) u29 u30 u31 u43 u44 u45 (mapSet w m (.map (es.push ⟨.string (strA kAllof),.func (.func 160) #[] #[.pointer (some ⟨b+1,0,none⟩)],c⟩) (c+1))):=by
 obtain ⟨m,es,c,h3,h4,h5,h6⟩:=J.mp h1
 have hn:fT b L u30 u31 kAllof=none:=by unfold fT;rw [show whichL testNames kAllof=4 from by decide];simp only [h0];rfl
 have hx:fT b (up L 10) u30 u31 kAllof=some (.func (.func 160) #[] #[.pointer (some ⟨b+1,0,none⟩)]):=by unfold fT;rw [show whichL testNames kAllof=4 from by decide];simp only [up_same];rfl
 have hg:∀ z,z≠kAllof→fT b (up L 10) u30 u31 z=fT b L u30 u31 z:=fun z hz=>by
  have hw:whichL testNames z≠4:=fun e=>hz (by have:=whichL_get testNames z 3 e;simpa [testNames] using this.symm)
  unfold fT
  split <;> first | (rename_i e;exact absurd e hw) | simp only [up_other L (by decide)] | rfl
 have hmb:m≠b:=by have:=J.hb;omega
 have hk:∀ k cs ty,W.heap.size≤k→w.heap[k]?=some (.cells cs ty)→(mapSet w m (.map (es.push ⟨.string (strA kAllof),.func (.func 160) #[] #[.pointer (some ⟨b+1,0,none⟩)],c⟩) (c+1))).heap[k]?=some (.cells cs ty):=fun k cs ty _ h=>by
  rw [mapSet_other (fun e=>by rw [e,h5] at h;cases h)];exact h
 have hkb:(mapSet w m (.map (es.push ⟨.string (strA kAllof),.func (.func 160) #[] #[.pointer (some ⟨b+1,0,none⟩)],c⟩) (c+1))).heap[b]?=some (rdObj t mv1 (if L 28 then u43 else Value.map none)):=by rw [mapSet_other (Ne.symm hmb)];exact J.rd
 refine ⟨m,es,c,h3,h5,h6,hn,?_⟩
 exact ⟨J.hb,mod_mapSet J.mod h4,by rw [up_other L (by decide)];exact hkb,ui J.cm3,ui J.cm5,ui J.cm8,fun _=>up_old _ h1,ui J.cm12,ui J.cm14,ui J.cm16,ui J.cm18,ui J.cm21,ui J.cm24,ui J.cv3,ui J.cv5,fun h=>(J.a2 (ud h)).keep hk,fun h=>(J.a4 (ud h)).keep hk,fun _=>⟨m,_,_,h3,h4,mapSet_same h5,h6.push hn hx hg⟩,fun h=>J.m25u (ud h),fun h=>J.m26 (ud h),fun h=>J.m27 (ud h),ui J.m28⟩
theorem JT.s12 (J:JT t b W mv1 L u29 u30 u31 u43 u44 u45 w) (h0:L 12=false) (h1:L 1=true):∃ m es c,u29=.map (some m)∧w.heap[m]?=some (.map es c)∧MapIs es (fT b L u30 u31)∧fT b L u30 u31 kAnyof=none∧JT t b W mv1 (up L 12) u29 u30 u31 u43 u44 u45 (mapSet w m (.map (es.push ⟨.string (strA kAnyof),.func (.func 162) #[] #[.pointer (some ⟨b+1,0,none⟩)],c⟩) (c+1))):=by
 obtain ⟨m,es,c,h3,h4,h5,h6⟩:=J.mp h1
 have hn:fT b L u30 u31 kAnyof=none:=by unfold fT;rw [show whichL testNames kAnyof=5 from by decide];simp only [h0];rfl
 have hx:fT b (up L 12) u30 u31 kAnyof=some (.func (.func 162) #[] #[.pointer (some ⟨b+1,0,none⟩)]):=by unfold fT;rw [show whichL testNames kAnyof=5 from by decide];simp only [up_same];rfl
 have hg:∀ z,z≠kAnyof→fT b (up L 12) u30 u31 z=fT b L u30 u31 z:=fun z hz=>by
  have hw:whichL testNames z≠5:=fun e=>hz (by have:=whichL_get testNames z 4 e;simpa [testNames] using this.symm)
  unfold fT
  split <;> first | (rename_i e;exact absurd e hw) | simp only [up_other L (by decide)] | rfl
 have hmb:m≠b:=by have:=J.hb;omega
 have hk:∀ k cs ty,W.heap.size≤k→w.heap[k]?=some (.cells cs ty)→(mapSet w m (.map (es.push ⟨.string (strA kAnyof),.func (.func 162) #[] #[.pointer (some ⟨b+1,0,none⟩)],c⟩) (c+1))).heap[k]?=some (.cells cs ty):=fun k cs ty _ h=>by
  rw [mapSet_other (fun e=>by rw [e,h5] at h;cases h)];exact h
 have hkb:(mapSet w m (.map (es.push ⟨.string (strA kAnyof),.func (.func 162) #[] #[.pointer (some ⟨b+1,0,none⟩)],c⟩) (c+1))).heap[b]?=some (rdObj t mv1 (if L 28 then u43 else Value.map none)):=by rw [mapSet_other (Ne.symm hmb)];exact J.rd
 refine ⟨m,es,c,h3,h5,h6,hn,?_⟩
 exact ⟨J.hb,mod_mapSet J.mod h4,by rw [up_other L (by decide)];exact hkb,ui J.cm3,ui J.cm5,ui J.cm8,ui J.cm10,fun _=>up_old _ h1,ui J.cm14,ui J.cm16,ui J.cm18,ui J.cm21,ui J.cm24,ui J.cv3,ui J.cv5,fun h=>(J.a2 (ud h)).keep hk,fun h=>(J.a4 (ud h)).keep hk,fun _=>⟨m,_,_,h3,h4,mapSet_same h5,h6.push hn hx hg⟩,fun h=>J.m25u (ud h),fun h=>J.m26 (ud h),fun h=>J.m27 (ud h),ui J.m28⟩
theorem JT.s14 (J:JT t b W mv1 L u29 u30 u31 u43 u44 u45 w) (h0:L 14=false) (h1:L 1=true):∃ m es c,u29=.map (some m)∧w.heap[m]?=some (.map es c)∧MapIs es (fT b L u30 u31)∧fT b L u30 u31 kHeader=none∧JT t b W mv1 (up L 14) u29 u30 u31 u43 u44 u45 (mapSet w m (.map (es.push ⟨.string (strA kHeader),.func (.func 163) #[] #[.pointer (some ⟨b+1,0,none⟩)],c⟩) (c+1))):=by
 obtain ⟨m,es,c,h3,h4,h5,h6⟩:=J.mp h1
 have hn:fT b L u30 u31 kHeader=none:=by unfold fT;rw [show whichL testNames kHeader=6 from by decide];simp only [h0];rfl
 have hx:fT b (up L 14) u30 u31 kHeader=some (.func (.func 163) #[] #[.pointer (some ⟨b+1,0,none⟩)]):=by unfold fT;rw [show whichL testNames kHeader=6 from by decide];simp only [up_same];rfl
 have hg:∀ z,z≠kHeader→fT b (up L 14) u30 u31 z=fT b L u30 u31 z:=fun z hz=>by
  have hw:whichL testNames z≠6:=fun e=>hz (by have:=whichL_get testNames z 5 e;simpa [testNames] using this.symm)
  unfold fT
  split <;> first | (rename_i e;exact absurd e hw) | simp only [up_other L (by decide)] | rfl
 have hmb:m≠b:=by have:=J.hb;omega
 have hk:∀ k cs ty,W.heap.size≤k→w.heap[k]?=some (.cells cs ty)→(mapSet w m (.map (es.push ⟨.string (strA kHeader),.func (.func 163) #[] #[.pointer (some ⟨b+1,0,none⟩)],c⟩) (c+1))).heap[k]?=some (.cells cs ty):=fun k cs ty _ h=>by
  rw [mapSet_other (fun e=>by rw [e,h5] at h;cases h)];exact h
 have hkb:(mapSet w m (.map (es.push ⟨.string (strA kHeader),.func (.func 163) #[] #[.pointer (some ⟨b+1,0,none⟩)],c⟩) (c+1))).heap[b]?=some (rdObj t mv1 (if L 28 then u43 else Value.map none)):=by rw [mapSet_other (Ne.symm hmb)];exact J.rd
 refine ⟨m,es,c,h3,h5,h6,hn,?_⟩
 exact ⟨J.hb,mod_mapSet J.mod h4,by rw [up_other L (by decide)];exact hkb,ui J.cm3,ui J.cm5,ui J.cm8,ui J.cm10,ui J.cm12,fun _=>up_old _ h1,ui J.cm16,ui J.cm18,ui J.cm21,ui J.cm24,ui J.cv3,ui J.cv5,fun h=>(J.a2 (ud h)).keep hk,fun h=>(J.a4 (ud h)).keep hk,fun _=>⟨m,_,_,h3,h4,mapSet_same h5,h6.push hn hx hg⟩,fun h=>J.m25u (ud h),fun h=>J.m26 (ud h),fun h=>J.m27 (ud h),ui J.m28⟩
theorem JT.s16 (J:JT t b W mv1 L u29 u30 u31 u43 u44 u45 w) (h0:L 16=false) (h1:L 1=true):∃ m es c,u29=.map (some m)∧w.heap[m]?=some (.map es c)∧MapIs es (fT b L u30 u31)∧fT b L u30 u31 kEnvelope=none∧JT t b W mv1 (up L 16) u29 u30 u31 u43 u44 u45 (mapSet w m (.map (es.push ⟨.string (strA kEnvelope),.func (.func 166) #[] #[.pointer (some ⟨b+1,0,none⟩)],c⟩) (c+1))):=by
 obtain ⟨m,es,c,h3,h4,h5,h6⟩:=J.mp h1
 have hn:fT b L u30 u31 kEnvelope=none:=by unfold fT;rw [show whichL testNames kEnvelope=7 from by decide];simp only [h0];rfl
 have hx:fT b (up L 16) u30 u31 kEnvelope=some (.func (.func 166) #[] #[.pointer (some ⟨b+1,0,none⟩)]):=by unfold fT;rw [show whichL testNames kEnvelope=7 from by decide];simp only [up_same];rfl
 have hg:∀ z,z≠kEnvelope→fT b (up L 16) u30 u31 z=fT b L u30 u31 z:=fun z hz=>by
  have hw:whichL testNames z≠7:=fun e=>hz (by have:=whichL_get testNames z 6 e;simpa [testNames] using this.symm)
  unfold fT
  split <;> first | (rename_i e;exact absurd e hw) | simp only [up_other L (by decide)] | rfl
 have hmb:m≠b:=by have:=J.hb;omega
 have hk:∀ k cs ty,W.heap.size≤k→w.heap[k]?=some (.cells cs ty)→(mapSet w m (.map (es.push ⟨.string (strA kEnvelope),.func (.func 166) #[] #[.pointer (some ⟨b+1,0,none⟩)],c⟩) (c+1))).heap[k]?=some (.cells cs ty):=fun k cs ty _ h=>by
  rw [mapSet_other (fun e=>by rw [e,h5] at h;cases h)];exact h
 have hkb:(mapSet w m (.map (es.push ⟨.string (strA kEnvelope),.func (.func 166) #[] #[.pointer (some ⟨b+1,0,none⟩)],c⟩) (c+1))).heap[b]?=some (rdObj t mv1 (if L 28 then u43 else Value.map none)):=by rw [mapSet_other (Ne.symm hmb)];exact J.rd
 refine ⟨m,es,c,h3,h5,h6,hn,?_⟩
 exact ⟨J.hb,mod_mapSet J.mod h4,by rw [up_other L (by decide)];exact hkb,ui J.cm3,ui J.cm5,ui J.cm8,ui J.cm10,ui J.cm12,ui J.cm14,fun _=>up_old _ h1,ui J.cm18,ui J.cm21,ui J.cm24,ui J.cv3,ui J.cv5,fun h=>(J.a2 (ud h)).keep hk,fun h=>(J.a4 (ud h)).keep hk,fun _=>⟨m,_,_,h3,h4,mapSet_same h5,h6.push hn hx hg⟩,fun h=>J.m25u (ud h),fun h=>J.m26 (ud h),fun h=>J.m27 (ud h),ui J.m28⟩
theorem JT.s18 (J:JT t b W mv1 L u29 u30 u31 u43 u44 u45 w) (h0:L 18=false) (h1:L 1=true):∃ m es c,u29=.map (some m)∧w.heap[m]?=some (.map es c)∧MapIs es (fT b L u30 u31)∧fT b L u30 u31 kString=none∧JT t b W mv1 (up L 18) u29 u30 u31 u43 u44 u45 (mapSet w m (.map (es.push ⟨.string (strA kString),.func (.func 169) #[] #[.pointer (some ⟨b+1,0,none⟩)],c⟩) (c+1))):=by
 obtain ⟨m,es,c,h3,h4,h5,h6⟩:=J.mp h1
 have hn:fT b L u30 u31 kString=none:=by unfold fT;rw [show whichL testNames kString=8 from by decide];simp only [h0];rfl
 have hx:fT b (up L 18) u30 u31 kString=some (.func (.func 169) #[] #[.pointer (some ⟨b+1,0,none⟩)]):=by unfold fT;rw [show whichL testNames kString=8 from by decide];simp only [up_same];rfl
 have hg:∀ z,z≠kString→fT b (up L 18) u30 u31 z=fT b L u30 u31 z:=fun z hz=>by
  have hw:whichL testNames z≠8:=fun e=>hz (by have:=whichL_get testNames z 7 e;simpa [testNames] using this.symm)
  unfold fT
  split <;> first | (rename_i e;exact absurd e hw) | simp only [up_other L (by decide)] | rfl
 have hmb:m≠b:=by have:=J.hb;omega
 have hk:∀ k cs ty,W.heap.size≤k→w.heap[k]?=some (.cells cs ty)→(mapSet w m (.map (es.push ⟨.string (strA kString),.func (.func 169) #[] #[.pointer (some ⟨b+1,0,none⟩)],c⟩) (c+1))).heap[k]?=some (.cells cs ty):=fun k cs ty _ h=>by
  rw [mapSet_other (fun e=>by rw [e,h5] at h;cases h)];exact h
 have hkb:(mapSet w m (.map (es.push ⟨.string (strA kString),.func (.func 169) #[] #[.pointer (some ⟨b+1,0,none⟩)],c⟩) (c+1))).heap[b]?=some (rdObj t mv1 (if L 28 then u43 else Value.map none)):=by rw [mapSet_other (Ne.symm hmb)];exact J.rd
 refine ⟨m,es,c,h3,h5,h6,hn,?_⟩
 exact ⟨J.hb,mod_mapSet J.mod h4,by rw [up_other L (by decide)];exact hkb,ui J.cm3,ui J.cm5,ui J.cm8,ui J.cm10,ui J.cm12,ui J.cm14,ui J.cm16,fun _=>up_old _ h1,ui J.cm21,ui J.cm24,ui J.cv3,ui J.cv5,fun h=>(J.a2 (ud h)).keep hk,fun h=>(J.a4 (ud h)).keep hk,fun _=>⟨m,_,_,h3,h4,mapSet_same h5,h6.push hn hx hg⟩,fun h=>J.m25u (ud h),fun h=>J.m26 (ud h),fun h=>J.m27 (ud h),ui J.m28⟩
theorem JT.s21 (J:JT t b W mv1 L u29 u30 u31 u43 u44 u45 w) (h0:L 21=false) (h1:L 1=true):∃ m es c,u29=.map (some m)∧w.heap[m]?=some (.map es c)∧MapIs es (fT b L u30 u31)∧fT b L u30 u31 kExists=none∧JT t b W mv1 (up L 21) u29 u30 u31 u43 u44 u45 (mapSet w m (.map (es.push ⟨.string (strA kExists),.func (.func 170) #[.pointer (some ⟨b,0,none⟩)] #[],c⟩) (c+1))):=by
 obtain ⟨m,es,c,h3,h4,h5,h6⟩:=J.mp h1
 have hn:fT b L u30 u31 kExists=none:=by unfold fT;rw [show whichL testNames kExists=9 from by decide];simp only [h0];rfl
 have hx:fT b (up L 21) u30 u31 kExists=some (.func (.func 170) #[.pointer (some ⟨b,0,none⟩)] #[]):=by unfold fT;rw [show whichL testNames kExists=9 from by decide];simp only [up_same];rfl
 have hg:∀ z,z≠kExists→fT b (up L 21) u30 u31 z=fT b L u30 u31 z:=fun z hz=>by
  have hw:whichL testNames z≠9:=fun e=>hz (by have:=whichL_get testNames z 8 e;simpa [testNames] using this.symm)
  unfold fT
  split <;> first | (rename_i e;exact absurd e hw) | simp only [up_other L (by decide)] | rfl
 have hmb:m≠b:=by have:=J.hb;omega
 have hk:∀ k cs ty,W.heap.size≤k→w.heap[k]?=some (.cells cs ty)→(mapSet w m (.map (es.push ⟨.string (strA kExists),.func (.func 170) #[.pointer (some ⟨b,0,none⟩)] #[],c⟩) (c+1))).heap[k]?=some (.cells cs ty):=fun k cs ty _ h=>by
  rw [mapSet_other (fun e=>by rw [e,h5] at h;cases h)];exact h
 have hkb:(mapSet w m (.map (es.push ⟨.string (strA kExists),.func (.func 170) #[.pointer (some ⟨b,0,none⟩)] #[],c⟩) (c+1))).heap[b]?=some (rdObj t mv1 (if L 28 then u43 else Value.map none)):=by rw [mapSet_other (Ne.symm hmb)];exact J.rd
 refine ⟨m,es,c,h3,h5,h6,hn,?_⟩
 exact ⟨J.hb,mod_mapSet J.mod h4,by rw [up_other L (by decide)];exact hkb,ui J.cm3,ui J.cm5,ui J.cm8,ui J.cm10,ui J.cm12,ui J.cm14,ui J.cm16,ui J.cm18,fun _=>up_old _ h1,ui J.cm24,ui J.cv3,ui J.cv5,fun h=>(J.a2 (ud h)).keep hk,fun h=>(J.a4 (ud h)).keep hk,fun _=>⟨m,_,_,h3,h4,mapSet_same h5,h6.push hn hx hg⟩,fun h=>J.m25u (ud h),fun h=>J.m26 (ud h),fun h=>J.m27 (ud h),ui J.m28⟩
theorem JT.s24 (J:JT t b W mv1 L u29 u30 u31 u43 u44 u45 w) (h0:L 24=false) (h1:L 1=true):∃ m es c,u29=.map (some m)∧w.heap[m]?=some (.map es c)∧MapIs es (fT b L u30 u31)∧fT b L u30 u31 kSize=none∧JT t b W mv1 (up L 24) u29 u30 u31 u43 u44 u45 (mapSet w m (.map (es.push ⟨.string (strA kSize),.func (.func 171) #[.pointer (some ⟨b,0,none⟩)] #[],c⟩) (c+1))):=by
 obtain ⟨m,es,c,h3,h4,h5,h6⟩:=J.mp h1
 have hn:fT b L u30 u31 kSize=none:=by unfold fT;rw [show whichL testNames kSize=10 from by decide];simp only [h0];rfl
 have hx:fT b (up L 24) u30 u31 kSize=some (.func (.func 171) #[.pointer (some ⟨b,0,none⟩)] #[]):=by unfold fT;rw [show whichL testNames kSize=10 from by decide];simp only [up_same];rfl
 have hg:∀ z,z≠kSize→fT b (up L 24) u30 u31 z=fT b L u30 u31 z:=fun z hz=>by
  have hw:whichL testNames z≠10:=fun e=>hz (by have:=whichL_get testNames z 9 e;simpa [testNames] using this.symm)
  unfold fT
  split <;> first | (rename_i e;exact absurd e hw) | simp only [up_other L (by decide)] | rfl
 have hmb:m≠b:=by have:=J.hb;omega
 have hk:∀ k cs ty,W.heap.size≤k→w.heap[k]?=some (.cells cs ty)→(mapSet w m (.map (es.push ⟨.string (strA kSize),.func (.func 171) #[.pointer (some ⟨b,0,none⟩)] #[],c⟩) (c+1))).heap[k]?=some (.cells cs ty):=fun k cs ty _ h=>by
  rw [mapSet_other (fun e=>by rw [e,h5] at h;cases h)];exact h
 have hkb:(mapSet w m (.map (es.push ⟨.string (strA kSize),.func (.func 171) #[.pointer (some ⟨b,0,none⟩)] #[],c⟩) (c+1))).heap[b]?=some (rdObj t mv1 (if L 28 then u43 else Value.map none)):=by rw [mapSet_other (Ne.symm hmb)];exact J.rd
 refine ⟨m,es,c,h3,h5,h6,hn,?_⟩
 exact ⟨J.hb,mod_mapSet J.mod h4,by rw [up_other L (by decide)];exact hkb,ui J.cm3,ui J.cm5,ui J.cm8,ui J.cm10,ui J.cm12,ui J.cm14,ui J.cm16,ui J.cm18,ui J.cm21,fun _=>up_old _ h1,ui J.cv3,ui J.cv5,fun h=>(J.a2 (ud h)).keep hk,fun h=>(J.a4 (ud h)).keep hk,fun _=>⟨m,_,_,h3,h4,mapSet_same h5,h6.push hn hx hg⟩,fun h=>J.m25u (ud h),fun h=>J.m26 (ud h),fun h=>J.m27 (ud h),ui J.m28⟩
theorem JT.s25 (J:JT t b W mv1 L u29 u30 u31 u43 u44 u45 w) (h0:L 25=false) (h1:L 1=true) (hi3:L 3=true) (hi5:L 5=true) (hi8:L 8=true) (hi10:L 10=true) (hi12:L 12=true) (hi14:L 14=true) (hi16:L 16=true) (hi18:L 18=true) (hi21:L 21=true) (hi24:L 24=true):JT t b W mv1 (up L 25) u29 u30 u31 u29 u44 u45 w:=by
 have n28:L 28=false:=nf J.m28 h0
 have hk:∀ k cs ty,W.heap.size≤k→w.heap[k]?=some (.cells cs ty)→w.heap[k]?=some (.cells cs ty):=fun k cs ty _ h=>h
 have hkm:∀ (m:Nat) (es:Array MapEntry) (c:Nat),w.heap[m]?=some (Obj.map es c)→w.heap[m]?=some (Obj.map es c):=fun m es c h=>h
 exact ⟨J.hb,J.mod,by have:=J.rd;rw [n28] at this;rw [up_other L (by decide),n28];exact this,ui J.cm3,ui J.cm5,ui J.cm8,ui J.cm10,ui J.cm12,ui J.cm14,ui J.cm16,ui J.cm18,ui J.cm21,ui J.cm24,ui J.cv3,ui J.cv5,fun h=>(J.a2 (ud h)).keep hk,fun h=>(J.a4 (ud h)).keep hk,fun h=>by obtain ⟨m,es,c,h3,h4,h5,h6⟩:=J.mp (ud h);exact ⟨m,es,c,h3,h4,hkm m _ _ h5,h6.congr (fun x=>(fT_up 25 (by decide) x).symm)⟩,fun _=>⟨rfl,up_old _ h1,up_old _ hi3,up_old _ hi5,up_old _ hi8,up_old _ hi10,up_old _ hi12,up_old _ hi14,up_old _ hi16,up_old _ hi18,up_old _ hi21,up_old _ hi24⟩,fun h=>J.m26 (ud h),fun h=>J.m27 (ud h),ui J.m28⟩
theorem JT.s26 (J:JT t b W mv1 L u29 u30 u31 u43 u44 u45 w) (h0:L 26=false):JT t b W mv1 (up L 26) u29 u30 u31 u43 (.pointer (some ⟨b,0,none⟩)) u45 w:=by
 have hk:∀ k cs ty,W.heap.size≤k→w.heap[k]?=some (.cells cs ty)→w.heap[k]?=some (.cells cs ty):=fun k cs ty _ h=>h
 have hkm:∀ (m:Nat) (es:Array MapEntry) (c:Nat),w.heap[m]?=some (Obj.map es c)→w.heap[m]?=some (Obj.map es c):=fun m es c h=>h
 exact ⟨J.hb,J.mod,by rw [up_other L (by decide)];exact J.rd,ui J.cm3,ui J.cm5,ui J.cm8,ui J.cm10,ui J.cm12,ui J.cm14,ui J.cm16,ui J.cm18,ui J.cm21,ui J.cm24,ui J.cv3,ui J.cv5,fun h=>(J.a2 (ud h)).keep hk,fun h=>(J.a4 (ud h)).keep hk,fun h=>by obtain ⟨m,es,c,h3,h4,h5,h6⟩:=J.mp (ud h);exact ⟨m,es,c,h3,h4,hkm m _ _ h5,h6.congr (fun x=>(fT_up 26 (by decide) x).symm)⟩,fun h=>J.m25u (ud h),fun _=>rfl,fun h=>J.m27 (ud h),ui J.m28⟩
theorem JT.s27 (J:JT t b W mv1 L u29 u30 u31 u43 u44 u45 w) (h0:L 27=false):JT t b W mv1 (up L 27) u29 u30 u31 u43 u44 (.pointer (some ⟨b,9,none⟩)) w:=by
 have hk:∀ k cs ty,W.heap.size≤k→w.heap[k]?=some (.cells cs ty)→w.heap[k]?=some (.cells cs ty):=fun k cs ty _ h=>h
 have hkm:∀ (m:Nat) (es:Array MapEntry) (c:Nat),w.heap[m]?=some (Obj.map es c)→w.heap[m]?=some (Obj.map es c):=fun m es c h=>h
 exact ⟨J.hb,J.mod,by rw [up_other L (by decide)];exact J.rd,ui J.cm3,ui J.cm5,ui J.cm8,ui J.cm10,ui J.cm12,ui J.cm14,ui J.cm16,ui J.cm18,ui J.cm21,ui J.cm24,ui J.cv3,ui J.cv5,fun h=>(J.a2 (ud h)).keep hk,fun h=>(J.a4 (ud h)).keep hk,fun h=>by obtain ⟨m,es,c,h3,h4,h5,h6⟩:=J.mp (ud h);exact ⟨m,es,c,h3,h4,hkm m _ _ h5,h6.congr (fun x=>(fT_up 27 (by decide) x).symm)⟩,fun h=>J.m25u (ud h),fun h=>J.m26 (ud h),fun _=>rfl,ui J.m28⟩
theorem JT.s28 (J:JT t b W mv1 L u29 u30 u31 u43 u44 u45 w) (h0:L 28=false) (h25:L 25=true):JT t b W mv1 (up L 28) u29 u30 u31 u43 u44 u45 (w.setCell ⟨b,9,none⟩ u43):=by
 have hb:=J.hb
 have hk:∀ k cs ty,W.heap.size≤k→w.heap[k]?=some (.cells cs ty)→(w.setCell ⟨b,9,none⟩ u43).heap[k]?=some (.cells cs ty):=fun k cs ty hk h=>by rw [Below.heap_setCell _ _ _ _ (show k≠b by omega)];exact h
 have hkm:∀ (m:Nat) (es:Array MapEntry) (c:Nat),w.heap[m]?=some (Obj.map es c)→(w.setCell ⟨b,9,none⟩ u43).heap[m]?=some (Obj.map es c):=fun m es c h=>by
  have hr:=J.rd
  rw [Below.heap_setCell _ _ _ _ (show m≠b from fun e=>by rw [e,hr] at h;cases h)];exact h
 exact ⟨J.hb,J.mod.setCell 9 u43,by rw [up_same];exact heap_setCell_at _ _ _ _ _ _ J.rd,ui J.cm3,ui J.cm5,ui J.cm8,ui J.cm10,ui J.cm12,ui J.cm14,ui J.cm16,ui J.cm18,ui J.cm21,ui J.cm24,ui J.cv3,ui J.cv5,fun h=>(J.a2 (ud h)).keep hk,fun h=>(J.a4 (ud h)).keep hk,fun h=>by obtain ⟨m,es,c,h3,h4,h5,h6⟩:=J.mp (ud h);exact ⟨m,es,c,h3,h4,hkm m _ _ h5,h6.congr (fun x=>(fT_up 28 (by decide) x).symm)⟩,fun h=>J.m25u (ud h),fun h=>J.m26 (ud h),fun h=>J.m27 (ud h),fun _=>up_old _ h25⟩
theorem JT.done (J:JT t b W mv1 L u29 u30 u31 u43 u44 u45 w) (hall:∀ i,i < 29→L i=true) (hpr:PrAt W (b+1) b):∃ m pt pf,w.heap[b]?=some (rdObj t mv1 (.map (some m)))∧TMap w b m (b+1) pt pf∧Mod b W w∧W.heap.size≤m:=by
 obtain ⟨m,es,c,h3,h4,h5,h6⟩:=J.mp (hall 1 (by decide))
 obtain ⟨pt,e1,hp1,hp1'⟩:=J.a2 (hall 2 (by decide))
 obtain ⟨pf,e2,hp2,hp2'⟩:=J.a4 (hall 4 (by decide))
 have hb:=J.hb
 have hr:=J.rd
 rw [hall 28 (by decide),if_pos rfl,(J.m25 (hall 25 (by decide))).1,h3] at hr
 have hf:MapIs es (testFn b (b+1) pt pf):=h6.congr (fun x=>by
  subst e1 e2
  unfold fT testFn
  simp only [hall 3 (by decide),hall 5 (by decide),hall 8 (by decide),hall 10 (by decide),hall 12 (by decide),hall 14 (by decide),hall 16 (by decide),hall 18 (by decide),hall 21 (by decide),hall 24 (by decide),if_true]
  generalize whichL testNames x=i
  match i with
  | 0 | 1 | 2 | 3 | 4 | 5 | 6 | 7 | 8 | 9 | 10=>rfl
  | n+11=>rfl)
 exact ⟨m,pt,pf,hr,⟨lookOk_of (K:=9) (E:=263) Tryz.underlying258 Tryz.underlying9 zeroFnT h5 hf,hpr.mod J.mod,blk_cell hp1' 0,blk_cell hp2' 0,by omega,by omega,by omega,blk_lt h5⟩,J.mod,h4⟩
end
end
end Go.Proofs.YtbiclelojbfnbaaGreatDoor
