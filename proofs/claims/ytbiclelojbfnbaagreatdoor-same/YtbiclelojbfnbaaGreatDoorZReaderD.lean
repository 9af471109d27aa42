import Derived.OrdersHeld
import Derived.Test.YtbiclelojbfnbaaGreatDoorZMapLit
import Derived.Test.YtbiclelojbfnbaaGreatDoorZTake
namespace Go.Proofs.YtbiclelojbfnbaaGreatDoor
set_option linter.unusedVariables false
set_option linter.unusedSimpArgs false
set_option maxRecDepth 100000
set_option maxHeartbeats 4000000
section
open Go.RowKit
attribute [local go_sem ↓] Go.wp_at_zero Go.wp_at_succ
theorem Tryz.infoFnC:(Tryz.prog.info? 261).map (fun i=>(i.zero,i.size,i.bytes))=some (some .nilFunc,1,8):=by kernel_rfl
theorem Tryz.infoFnT:(Tryz.prog.info? 263).map (fun i=>(i.zero,i.size,i.bytes))=some (some .nilFunc,1,8):=by kernel_rfl
theorem Qub (W:World):(zeroValue 261).run Tryz.prog W=.ok .nilFunc W:=by
 obtain ⟨i0,hi,hz0,hz1,hz2⟩:=info_parts Tryz.infoFnC
 simp [zeroValue,typeInfo,Sem.run,hi,hz0]
theorem QuE (W:World):(zeroValue 263).run Tryz.prog W=.ok .nilFunc W:=by
 obtain ⟨i0,hi,hz0,hz1,hz2⟩:=info_parts Tryz.infoFnT
 simp [zeroValue,typeInfo,Sem.run,hi,hz0]
theorem QnI (r:Value) (b:Nat) (kd:Int) (w:World) (hr:r=.pointer (some ⟨b,0,none⟩)) :
 Calls Tryz.prog 155 #[r,.int .i64 kd] w fun e w'=>e=.returned (.func (.func 244) #[] #[.pointer (some ⟨w.heap.size,0,none⟩),.pointer (some ⟨w.heap.size+1,0,none⟩)])∧w'=(w.alloc (.cells #[r] 182)).alloc (.cells #[.int .i64 kd] 3):=by
 subst hr
 have hmf:∀ (fn:Fn) (first cap:Array Value) (w:World),(Instr.makeFunc fn first cap).run Tryz.prog w=.ok (.func fn first cap) w:=fun _ _ _ _=>rfl
 go_enter Tryz.func155,Tryz.ntmps155
 go_wp2
 go_ret
 exact ⟨rfl,rfl⟩
theorem Ql6 (h:Bool) (w:World) :
 Calls Tryz.prog 158 #[.bool h] w fun e w'=>e=.returned (.func (.func 251) #[] #[.pointer (some ⟨w.heap.size,0,none⟩)])∧w'=w.alloc (.cells #[.bool h] 4):=by
 have hmf:∀ (fn:Fn) (first cap:Array Value) (w:World),(Instr.makeFunc fn first cap).run Tryz.prog w=.ok (.func fn first cap) w:=fun _ _ _ _=>rfl
 go_enter Tryz.func158,Tryz.ntmps158
 go_wp2
 go_ret
 exact ⟨rfl,rfl⟩
end
section
open Go.RowKit
def up (L:Nat→Bool) (i:Nat):Nat→Bool:=fun j=>if j=i then true else L j
theorem QbP (L:Nat→Bool) (i:Nat):up L i i=true:=by simp [up]
theorem Qag (L:Nat→Bool) {i j:Nat} (h:j≠i):up L i j=L j:=by simp [up,h]
theorem Qan (L:Nat→Bool) {i j:Nat} (h:L j=true):up L i j=true:=by unfold up;split <;> simp [h]
theorem ud {L:Nat→Bool} {i j:Nat} (h:up L i j=true) (hd:j≠i:=by decide):L j=true:=by rwa [Qag L hd] at h
theorem ui {L:Nat→Bool} {i j k:Nat} (hi:L j=true→L k=true) (hd:j≠i:=by decide) (h:up L i j=true):up L i k=true:=Qan _ (hi (ud h hd))
theorem nf {L:Nat→Bool} {j k:Nat} (hi:L j=true→L k=true) (h0:L k=false):L j=false:=by
 cases hh:L j with
 | false=>rfl
 | true=>have:=hi hh;rw [h0] at this;cases this
def Qcu (t:ByteArray) (mv mv2:Value):Obj:=.cells #[.string t,.int .i64 0,.int .i64 0,.string ⟨#[]⟩,.string ⟨#[]⟩,.int .i64 0,.int .i64 0,.slice none 0 0,mv,mv2] 260
def Qqm (w:World) (b B kd:Nat) (v:Value):Prop:=
 ∃ p q,v=.func (.func 244) #[] #[.pointer (some ⟨p,0,none⟩),.pointer (some ⟨q,0,none⟩)]∧B≤p∧B≤q∧w.heap[p]?=some (.cells #[.pointer (some ⟨b,0,none⟩)] 182)∧w.heap[q]?=some (.cells #[.int .i64 kd] 3)
theorem Qqm.keep {w w':World} {b B kd:Nat} {v:Value} (h:Qqm w b B kd v) (hk:∀ k cs ty,B≤k→w.heap[k]?=some (.cells cs ty)→w'.heap[k]?=some (.cells cs ty)):Qqm w' b B kd v:=by
 obtain ⟨p,q,hv,hp,hq,h1,h2⟩:=h
 exact ⟨p,q,hv,hp,hq,hk p _ _ hp h1,hk q _ _ hq h2⟩
def fC (b:Nat) (L:Nat→Bool) (u16 u18 u20:Value) (x:List UInt8):Option Value:=
 match whichL cmdNames x with
 | 1=>if L 4 then some (.func (.func 152) #[.pointer (some ⟨b,0,none⟩)] #[]) else none
 | 2=>if L 7 then some (.func (.func 153) #[.pointer (some ⟨b,0,none⟩)] #[]) else none
 | 3=>if L 10 then some (.func (.func 154) #[.pointer (some ⟨b,0,none⟩)] #[]) else none
 | 4=>if L 13 then some (u16) else none
 | 5=>if L 16 then some (u18) else none
 | 6=>if L 19 then some (u20) else none
 | 7=>if L 22 then some (.func (.func 156) #[.pointer (some ⟨b,0,none⟩)] #[]) else none
 | 8=>if L 25 then some (.func (.func 157) #[.pointer (some ⟨b,0,none⟩)] #[]) else none
 | _=>none
structure JC (t:ByteArray) (b:Nat) (W:World) (mv2:Value) (L:Nat→Bool) (u8 u16 u18 u20 u25 u26 u27:Value) (w:World):Prop where
 hb:b < W.heap.size
 mod:Mod b W w
 rd:w.heap[b]?=some (Qcu t (if L 29 then u25 else Value.map none) mv2)
 cm4:L 4=true→L 1=true
 cm7:L 7=true→L 1=true
 cm10:L 10=true→L 1=true
 cm13:L 13=true→L 1=true
 cm16:L 16=true→L 1=true
 cm19:L 19=true→L 1=true
 cm22:L 22=true→L 1=true
 cm25:L 25=true→L 1=true
 cv13:L 13=true→L 12=true
 cv16:L 16=true→L 15=true
 cv19:L 19=true→L 18=true
 a12:L 12=true→Qqm w b W.heap.size 2 u16
 a15:L 15=true→Qqm w b W.heap.size 3 u18
 a18:L 18=true→Qqm w b W.heap.size 4 u20
 mp:L 1=true→∃ m es c,u8=.map (some m)∧W.heap.size≤m∧w.heap[m]?=some (.map es c)∧Qcn es (fC b L u16 u18 u20)
 m26:L 26=true→u25=u8∧L 1=true∧L 4=true∧L 7=true∧L 10=true∧L 13=true∧L 16=true∧L 19=true∧L 22=true∧L 25=true
 m27:L 27=true→u26=.pointer (some ⟨b,0,none⟩)
 m28:L 28=true→u27=.pointer (some ⟨b,8,none⟩)
 m29:L 29=true→L 26=true
theorem Qbq {b m:Nat} {W w:World} {o:Obj} (h:Mod b W w) (hm:W.heap.size≤m):Mod b W (QaQ w m o):=
 ⟨h.os,h.tape,h.output,by rw [QiG];exact h.size,fun k hk hn=>by rw [Qaq (by omega)];exact h.block k hk hn⟩
section
variable {t:ByteArray} {b:Nat} {W:World} {mv2:Value} {L:Nat→Bool} {u8 u16 u18 u20 u25 u26 u27:Value} {w:World}
theorem Qlu (i:Nat) (h:i≠4∧i≠7∧i≠10∧i≠13∧i≠16∧i≠19∧i≠22∧i≠25) (x:List UInt8):fC b (up L i) u16 u18 u20 x=fC b L u16 u18 u20 x:=by
 obtain ⟨h0,h1,h2,h3,h4,h5,h6,h7⟩:=h
 unfold fC
 simp only [Qag L (Ne.symm h0),Qag L (Ne.symm h1),Qag L (Ne.symm h2),Qag L (Ne.symm h3),Qag L (Ne.symm h4),Qag L (Ne.symm h5),Qag L (Ne.symm h6),Qag L (Ne.symm h7)]
theorem JC.m26u (J:JC t b W mv2 L u8 u16 u18 u20 u25 u26 u27 w) {i:Nat} (h:L 26=true):u25=u8∧up L i 1=true∧up L i 4=true∧up L i 7=true∧up L i 10=true∧up L i 13=true∧up L i 16=true∧up L i 19=true∧up L i 22=true∧up L i 25=true:=by
 obtain ⟨e1,e2,e3,e4,e5,e6,e7,e8,e9,e10⟩:=J.m26 h
 exact ⟨e1,Qan _ e2,Qan _ e3,Qan _ e4,Qan _ e5,Qan _ e6,Qan _ e7,Qan _ e8,Qan _ e9,Qan _ e10⟩
theorem JC.s1 (J:JC t b W mv2 L u8 u16 u18 u20 u25 u26 u27 w) (h0:L 1=false):JC t b W mv2 (up L 1) (.map (some w.heap.size)) u16 u18 u20 u25 u26 u27 (w.alloc (Obj.map #[] 0)):=by
 have hk:∀ k cs ty,W.heap.size≤k→w.heap[k]?=some (.cells cs ty)→(w.alloc (Obj.map #[] 0)).heap[k]?=some (.cells cs ty):=fun k cs ty _ h=>Qac h
 have hkb:(w.alloc (Obj.map #[] 0)).heap[b]?=some (Qcu t (if L 29 then u25 else Value.map none) mv2):=Qac J.rd
 have n4:L 4=false:=nf J.cm4 h0
 have n7:L 7=false:=nf J.cm7 h0
 have n10:L 10=false:=nf J.cm10 h0
 have n13:L 13=false:=nf J.cm13 h0
 have n16:L 16=false:=nf J.cm16 h0
 have n19:L 19=false:=nf J.cm19 h0
 have n22:L 22=false:=nf J.cm22 h0
 have n25:L 25=false:=nf J.cm25 h0
 exact ⟨J.hb,J.mod.trans ((Mod.refl b w).alloc _),by rw [Qag L (by decide)];exact hkb,ui J.cm4,ui J.cm7,ui J.cm10,ui J.cm13,ui J.cm16,ui J.cm19,ui J.cm22,ui J.cm25,ui J.cv13,ui J.cv16,ui J.cv19,fun h=>(J.a12 (ud h)).keep hk,fun h=>(J.a15 (ud h)).keep hk,fun h=>(J.a18 (ud h)).keep hk,fun _=>⟨w.heap.size,#[],0,rfl,J.mod.size,Qay _ _,Qcn.empty.congr (fun x=>by rw [Qlu 1 (by decide)];unfold fC;simp only [n4,n7,n10,n13,n16,n19,n22,n25];split <;> rfl)⟩,fun h=>absurd (J.m26 (ud h)).2.1 (by rw [h0];decide),fun h=>J.m27 (ud h),fun h=>J.m28 (ud h),ui J.m29⟩
theorem JC.s12 (J:JC t b W mv2 L u8 u16 u18 u20 u25 u26 u27 w) (h0:L 12=false):JC t b W mv2 (up L 12) u8 (.func (.func 244) #[] #[.pointer (some ⟨w.heap.size,0,none⟩),.pointer (some ⟨w.heap.size+1,0,none⟩)]) u18 u20 u25 u26 u27 ((w.alloc (.cells #[.pointer (some ⟨b,0,none⟩)] 182)).alloc (.cells #[.int .i64 2] 3)):=by
 have hk:∀ k cs ty,W.heap.size≤k→w.heap[k]?=some (.cells cs ty)→((w.alloc (.cells #[.pointer (some ⟨b,0,none⟩)] 182)).alloc (.cells #[.int .i64 2] 3)).heap[k]?=some (.cells cs ty):=fun k cs ty _ h=>Qac (Qac h)
 have hkm:∀ (m:Nat) (es:Array MapEntry) (c:Nat),w.heap[m]?=some (Obj.map es c)→((w.alloc (.cells #[.pointer (some ⟨b,0,none⟩)] 182)).alloc (.cells #[.int .i64 2] 3)).heap[m]?=some (Obj.map es c):=fun m es c h=>Qac (Qac h)
 have hkb:((w.alloc (.cells #[.pointer (some ⟨b,0,none⟩)] 182)).alloc (.cells #[.int .i64 2] 3)).heap[b]?=some (Qcu t (if L 29 then u25 else Value.map none) mv2):=Qac (Qac J.rd)
 have hn:L 13=false:=nf J.cv13 h0
 have hsz:=J.mod.size
 exact ⟨J.hb,J.mod.trans (((Mod.refl b w).alloc _).alloc _),by rw [Qag L (by decide)];exact hkb,ui J.cm4,ui J.cm7,ui J.cm10,ui J.cm13,ui J.cm16,ui J.cm19,ui J.cm22,ui J.cm25,ui J.cv13,ui J.cv16,ui J.cv19,fun _=>⟨w.heap.size,w.heap.size+1,rfl,hsz,by omega,Qac (Qay _ _),QaD (by simp)⟩,fun h=>(J.a15 (ud h)).keep hk,fun h=>(J.a18 (ud h)).keep hk,fun h=>by obtain ⟨m,es,c,h3,h4,h5,h6⟩:=J.mp (ud h);exact ⟨m,es,c,h3,h4,hkm m _ _ h5,h6.congr (fun x=>by rw [Qlu 12 (by decide)];unfold fC;simp only [hn,Bool.false_eq_true,if_false])⟩,fun h=>J.m26u (ud h),fun h=>J.m27 (ud h),fun h=>J.m28 (ud h),ui J.m29⟩
theorem JC.s15 (J:JC t b W mv2 L u8 u16 u18 u20 u25 u26 u27 w) (h0:L 15=false):JC t b W mv2 (up L 15) u8 u16 (.func (.func 244) #[] #[.pointer (some ⟨w.heap.size,0,none⟩),.pointer (some ⟨w.heap.size+1,0,none⟩)]) u20 u25 u26 u27 ((w.alloc (.cells #[.pointer (some ⟨b,0,none⟩)] 182)).alloc (.cells #[.int .i64 3] 3)):=by
 have hk:∀ k cs ty,W.heap.size≤k→w.heap[k]?=some (.cells cs ty)→((w.alloc (.cells #[.pointer (some ⟨b,0,none⟩)] 182)).alloc (.cells #[.int .i64 3] 3)).heap[k]?=some (.cells cs ty):=fun k cs ty _ h=>Qac (Qac h)
 have hkm:∀ (m:Nat) (es:Array MapEntry) (c:Nat),w.heap[m]?=some (Obj.map es c)→((w.alloc (.cells #[.pointer (some ⟨b,0,none⟩)] 182)).alloc (.cells #[.int .i64 3] 3)).heap[m]?=some (Obj.map es c):=fun m es c h=>Qac (Qac h)
 have hkb:((w.alloc (.cells #[.pointer (some ⟨b,0,none⟩)] 182)).alloc (.cells #[.int .i64 3] 3)).heap[b]?=some (Qcu t (if L 29 then u25 else Value.map none) mv2):=Qac (Qac J.rd)
 have hn:L 16=false:=nf J.cv16 h0
 have hsz:=J.mod.size
 exact ⟨J.hb,J.mod.trans (((Mod.refl b w).alloc _).alloc _),by rw [Qag L (by decide)];exact hkb,ui J.cm4,ui J.cm7,ui J.cm10,ui J.cm13,ui J.cm16,ui J.cm19,ui J.cm22,ui J.cm25,ui J.cv13,ui J.cv16,ui J.cv19,fun h=>(J.a12 (ud h)).keep hk,fun _=>⟨w.heap.size,w.heap.size+1,rfl,hsz,by omega,Qac (Qay _ _),QaD (by simp)⟩,fun h=>(J.a18 (ud h)).keep hk,fun h=>by obtain ⟨m,es,c,h3,h4,h5,h6⟩:=J.mp (ud h);exact ⟨m,es,c,h3,h4,hkm m _ _ h5,h6.congr (fun x=>by rw [Qlu 15 (by decide)];unfold fC;simp only [hn,Bool.false_eq_true,if_false])⟩,fun h=>J.m26u (ud h),fun h=>J.m27 (ud h),fun h=>J.m28 (ud h),ui J.m29⟩
theorem JC.s18 (J:JC t b W mv2 L u8 u16 u18 u20 u25 u26 u27 w) (h0:L 18=false):JC t b W mv2 (up L 18) u8 u16 u18 (.func (.func 244) #[] #[.pointer (some ⟨w.heap.size,0,none⟩),.pointer (some ⟨w.heap.size+1,0,none⟩)]) u25 u26 u27 ((w.alloc (.cells #[.pointer (some ⟨b,0,none⟩)] 182)).alloc (.cells #[.int .i64 4] 3)):=by
 have hk:∀ k cs ty,W.heap.size≤k→w.heap[k]?=some (.cells cs ty)→((w.alloc (.cells #[.pointer (some ⟨b,0,none⟩)] 182)).alloc (.cells #[.int .i64 4] 3)).heap[k]?=some (.cells cs ty):=fun k cs ty _ h=>Qac (Qac h)
 have hkm:∀ (m:Nat) (es:Array MapEntry) (c:Nat),w.heap[m]?=some (Obj.map es c)→((w.alloc (.cells #[.pointer (some ⟨b,0,none⟩)] 182)).alloc (.cells #[.int .i64 4] 3)).heap[m]?=some (Obj.map es c):=fun m es c h=>Qac (Qac h)
 have hkb:((w.alloc (.cells #[.pointer (some ⟨b,0,none⟩)] 182)).alloc (.cells #[.int .i64 4] 3)).heap[b]?=some (Qcu t (if L 29 then u25 else Value.map none) mv2):=Qac (Qac J.rd)
 have hn:L 19=false:=nf J.cv19 h0
 have hsz:=J.mod.size
 exact ⟨J.hb,J.mod.trans (((Mod.refl b w).alloc _).alloc _),by rw [Qag L (by decide)];exact hkb,ui J.cm4,ui J.cm7,ui J.cm10,ui J.cm13,ui J.cm16,ui J.cm19,ui J.cm22,ui J.cm25,ui J.cv13,ui J.cv16,ui J.cv19,fun h=>(J.a12 (ud h)).keep hk,fun h=>(J.a15 (ud h)).keep hk,fun _=>⟨w.heap.size,w.heap.size+1,rfl,hsz,by omega,Qac (Qay _ _),QaD (by simp)⟩,fun h=>by obtain ⟨m,es,c,h3,h4,h5,h6⟩:=J.mp (ud h);exact ⟨m,es,c,h3,h4,hkm m _ _ h5,h6.congr (fun x=>by rw [Qlu 18 (by decide)];unfold fC;simp only [hn,Bool.false_eq_true,if_false])⟩,fun h=>J.m26u (ud h),fun h=>J.m27 (ud h),fun h=>J.m28 (ud h),ui J.m29⟩
theorem JC.s4 (J:JC t b W mv2 L u8 u16 u18 u20 u25 u26 u27 w) (h0:L 4=false) (h1:L 1=true):∃ m es c,u8=.map (some m)∧w.heap[m]?=some (.map es c)∧Qcn es (fC b L u16 u18 u20)∧fC b L u16 u18 u20 Qfa=none∧JC t b W mv2 (up L 4) u8 u16 u18 u20 u25 u26 u27 (QaQ w m (.map (es.push ⟨.string (Qad Qfa),.func (.func 152) #[.pointer (some ⟨b,0,none⟩)] #[],c⟩) (c+1))):=by
 obtain ⟨m,es,c,h3,h4,h5,h6⟩:=J.mp h1
 have hn:fC b L u16 u18 u20 Qfa=none:=by unfold fC;rw [show whichL cmdNames Qfa=1 from by decide];simp only [h0];rfl
 have hx:fC b (up L 4) u16 u18 u20 Qfa=some (.func (.func 152) #[.pointer (some ⟨b,0,none⟩)] #[]):=by unfold fC;rw [show whichL cmdNames Qfa=1 from by decide];simp only [QbP];rfl
 have hg:∀ z,z≠Qfa→fC b (up L 4) u16 u18 u20 z=fC b L u16 u18 u20 z:=fun z hz=>by
  have hw:whichL cmdNames z≠1:=fun e=>hz (by have:=QaG cmdNames z 0 e;simpa [cmdNames] using this.symm)
  unfold fC
  split <;> first | (rename_i e;exact absurd e hw) | simp only [Qag L (by decide)] | rfl
 have hmb:m≠b:=by have:=J.hb;omega
 have hk:∀ k cs ty,W.heap.size≤k→w.heap[k]?=some (.cells cs ty)→(QaQ w m (.map (es.push ⟨.string (Qad Qfa),.func (.func 152) #[.pointer (some ⟨b,0,none⟩)] #[],c⟩) (c+1))).heap[k]?=some (.cells cs ty):=fun k cs ty _ h=>by
  rw [Qaq (fun e=>by rw [e,h5] at h;cases h)];exact h
 have hkb:(QaQ w m (.map (es.push ⟨.string (Qad Qfa),.func (.func 152) #[.pointer (some ⟨b,0,none⟩)] #[],c⟩) (c+1))).heap[b]?=some (Qcu t (if L 29 then u25 else Value.map none) mv2):=by rw [Qaq (Ne.symm hmb)];exact J.rd
 refine ⟨m,es,c,h3,h5,h6,hn,?_⟩
 exact ⟨J.hb,Qbq J.mod h4,by rw [Qag L (by decide)];exact hkb,fun _=>Qan _ h1,ui J.cm7,ui J.cm10,ui J.cm13,ui J.cm16,ui J.cm19,ui J.cm22,ui J.cm25,ui J.cv13,ui J.cv16,ui J.cv19,fun h=>(J.a12 (ud h)).keep hk,fun h=>(J.a15 (ud h)).keep hk,fun h=>(J.a18 (ud h)).keep hk,fun _=>⟨m,_,_,h3,h4,Qa2 h5,h6.push hn hx hg⟩,fun h=>J.m26u (ud h),fun h=>J.m27 (ud h),fun h=>J.m28 (ud h),ui J.m29⟩
theorem JC.s7 (J:JC t b W mv2 L u8 u16 u18 u20 u25 u26 u27 w) (h0:L 7=false) (h1:L 1=true):∃ m es c,u8=.map (some m)∧w.heap[m]?=some (.map es c)∧Qcn es (fC b L u16 u18 u20)∧fC b L u16 u18 u20 QbV=none∧JC t b W mv2 (up L 7) u8 u16 u18 u20 u25 u26 u27 (QaQ w m (.map (es.push ⟨.string (Qad QbV),.func (.func 153) #[.pointer (some ⟨b,0,none⟩)] #[],c⟩) (c+1))):=by
 obtain ⟨m,es,c,h3,h4,h5,h6⟩:=J.mp h1
 have hn:fC b L u16 u18 u20 QbV=none:=by unfold fC;rw [show whichL cmdNames QbV=2 from by decide];simp only [h0];rfl
 have hx:fC b (up L 7) u16 u18 u20 QbV=some (.func (.func 153) #[.pointer (some ⟨b,0,none⟩)] #[]):=by unfold fC;rw [show whichL cmdNames QbV=2 from by decide];simp only [QbP];rfl
 have hg:∀ z,z≠QbV→fC b (up L 7) u16 u18 u20 z=fC b L u16 u18 u20 z:=fun z hz=>by
  have hw:whichL cmdNames z≠2:=fun e=>hz (by have:=QaG cmdNames z 1 e;simpa [cmdNames] using this.symm)
  unfold fC
  split <;> first | (rename_i e;exact absurd e hw) | simp only [Qag L (by decide)] | rfl
 have hmb:m≠b:=by have:=J.hb;omega
 have hk:∀ k cs ty,W.heap.size≤k→w.heap[k]?=some (.cells cs ty)→(QaQ w m (.map (es.push ⟨.string (Qad QbV),.func (.func 153) #[.pointer (some ⟨b,0,none⟩)] #[],c⟩) (c+1))).heap[k]?=some (.cells cs ty):=fun k cs ty _ h=>by
  rw [Qaq (fun e=>by rw [e,h5] at h;cases h)];exact h
 have hkb:(QaQ w m (.map (es.push ⟨.string (Qad QbV),.func (.func 153) #[.pointer (some ⟨b,0,none⟩)] #[],c⟩) (c+1))).heap[b]?=some (Qcu t (if L 29 then u25 else Value.map none) mv2):=by rw [Qaq (Ne.symm hmb)];exact J.rd
 refine ⟨m,es,c,h3,h5,h6,hn,?_⟩
 exact ⟨J.hb,Qbq J.mod h4,by rw [Qag L (by decide)];exact hkb,ui J.cm4,fun _=>Qan _ h1,ui J.cm10,ui J.cm13,ui J.cm16,ui J.cm19,ui J.cm22,ui J.cm25,ui J.cv13,ui J.cv16,ui J.cv19,fun h=>(J.a12 (ud h)).keep hk,fun h=>(J.a15 (ud h)).keep hk,fun h=>(J.a18 (ud h)).keep hk,fun _=>⟨m,_,_,h3,h4,Qa2 h5,h6.push hn hx hg⟩,fun h=>J.m26u (ud h),fun h=>J.m27 (ud h),fun h=>J.m28 (ud h),ui J.m29⟩
theorem JC.s10 (J:JC t b W mv2 L u8 u16 u18 u20 u25 u26 u27 w) (h0:L 10=false) (h1:L 1=true):∃ m es c,u8=.map (some m)∧w.heap[m]?=some (.map es c)∧Qcn es (fC b L u16 u18 u20)∧fC b L u16 u18 u20 Qe3=none∧JC t b W mv2 (up L 10) u8 u16 u18 u20 u25 u26 u27 (QaQ w m (.map (es.push ⟨.string (Qad Qe3),.func (.func 154) #[.pointer (some ⟨b,0,none⟩)] #[],c⟩) (c+1))):=by
 obtain ⟨m,es,c,h3,h4,h5,h6⟩:=J.mp h1
 have hn:fC b L u16 u18 u20 Qe3=none:=by unfold fC;rw [show whichL cmdNames Qe3=3 from by decide];simp only [h0];rfl
 have hx:fC b (up L 10) u16 u18 u20 Qe3=some (.func (.func 154) #[.pointer (some ⟨b,0,none⟩)] #[]):=by unfold fC;rw [show whichL cmdNames Qe3=3 from by decide];simp only [QbP];rfl
 have hg:∀ z,z≠Qe3→fC b (up L 10) u16 u18 u20 z=fC b L u16 u18 u20 z:=fun z hz=>by
  have hw:whichL cmdNames z≠3:=fun e=>hz (by have:=QaG cmdNames z 2 e;simpa [cmdNames] using this.symm)
  unfold fC
  split <;> first | (rename_i e;exact absurd e hw) | simp only [Qag L (by decide)] | rfl
 have hmb:m≠b:=by have:=J.hb;omega
 have hk:∀ k cs ty,W.heap.size≤k→w.heap[k]?=some (.cells cs ty)→(QaQ w m (.map (es.push ⟨.string (Qad Qe3),.func (.func 154) #[.pointer (some ⟨b,0,none⟩)] #[],c⟩) (c+1))).heap[k]?=some (.cells cs ty):=fun k cs ty _ h=>by
  rw [Qaq (fun e=>by rw [e,h5] at h;cases h)];exact h
 have hkb:(QaQ w m (.map (es.push ⟨.string (Qad Qe3),.func (.func 154) #[.pointer (some ⟨b,0,none⟩)] #[],c⟩) (c+1))).heap[b]?=some (Qcu t (if L 29 then u25 else Value.map none) mv2):=by rw [Qaq (Ne.symm hmb)];exact J.rd
 refine ⟨m,es,c,h3,h5,h6,hn,?_⟩
 exact ⟨J.hb,Qbq J.mod h4,by rw [Qag L (by decide)];exact hkb,ui J.cm4,ui J.cm7,fun _=>Qan _ h1,ui J.cm13,ui J.cm16,ui J.cm19,ui J.cm22,ui J.cm25,ui J.cv13,ui J.cv16,ui J.cv19,fun h=>(J.a12 (ud h)).keep hk,fun h=>(J.a15 (ud h)).keep hk,fun h=>(J.a18 (ud h)).keep hk,fun _=>⟨m,_,_,h3,h4,Qa2 h5,h6.push hn hx hg⟩,fun h=>J.m26u (ud h),fun h=>J.m27 (ud h),fun h=>J.m28 (ud h),ui J.m29⟩
theorem JC.s13 (J:JC t b W mv2 L u8 u16 u18 u20 u25 u26 u27 w) (h0:L 13=false) (h1:L 1=true) (h2:L 12=true):∃ m es c,u8=.map (some m)∧w.heap[m]?=some (.map es c)∧Qcn es (fC b L u16 u18 u20)∧fC b L u16 u18 u20 QaK=none∧JC t b W mv2 (up L 13) u8 u16 u18 u20 u25 u26 u27 (QaQ w m (.map (es.push ⟨.string (Qad QaK),u16,c⟩) (c+1))):=by
 obtain ⟨m,es,c,h3,h4,h5,h6⟩:=J.mp h1
 have hn:fC b L u16 u18 u20 QaK=none:=by unfold fC;rw [show whichL cmdNames QaK=4 from by decide];simp only [h0];rfl
 have hx:fC b (up L 13) u16 u18 u20 QaK=some (u16):=by unfold fC;rw [show whichL cmdNames QaK=4 from by decide];simp only [QbP];rfl
 have hg:∀ z,z≠QaK→fC b (up L 13) u16 u18 u20 z=fC b L u16 u18 u20 z:=fun z hz=>by
  have hw:whichL cmdNames z≠4:=fun e=>hz (by have:=QaG cmdNames z 3 e;simpa [cmdNames] using this.symm)
  unfold fC
  split <;> first | (rename_i e;exact absurd e hw) | simp only [Qag L (by decide)] | rfl
 have hmb:m≠b:=by have:=J.hb;omega
 have hk:∀ k cs ty,W.heap.size≤k→w.heap[k]?=some (.cells cs ty)→(QaQ w m (.map (es.push ⟨.string (Qad QaK),u16,c⟩) (c+1))).heap[k]?=some (.cells cs ty):=fun k cs ty _ h=>by
  rw [Qaq (fun e=>by rw [e,h5] at h;cases h)];exact h
 have hkb:(QaQ w m (.map (es.push ⟨.string (Qad QaK),u16,c⟩) (c+1))).heap[b]?=some (Qcu t (if L 29 then u25 else Value.map none) mv2):=by rw [Qaq (Ne.symm hmb)];exact J.rd
 refine ⟨m,es,c,h3,h5,h6,hn,?_⟩
 exact ⟨J.hb,Qbq J.mod h4,by rw [Qag L (by decide)];exact hkb,ui J.cm4,ui J.cm7,ui J.cm10,fun _=>Qan _ h1,ui J.cm16,ui J.cm19,ui J.cm22,ui J.cm25,fun _=>Qan _ h2,ui J.cv16,ui J.cv19,fun h=>(J.a12 (ud h)).keep hk,fun h=>(J.a15 (ud h)).keep hk,fun h=>(J.a18 (ud h)).keep hk,fun _=>⟨m,_,_,h3,h4,Qa2 h5,h6.push hn hx hg⟩,fun h=>J.m26u (ud h),fun h=>J.m27 (ud h),fun h=>J.m28 (ud h),ui J.m29⟩
theorem JC.s16 (J:JC t b W mv2 L u8 u16 u18 u20 u25 u26 u27 w) (h0:L 16=false) (h1:L 1=true) (h2:L 15=true):∃ m es c,u8=.map (some m)∧w.heap[m]?=some (.map es c)∧Qcn es (fC b L u16 u18 u20)∧fC b L u16 u18 u20 Qbk=none∧JC t b W mv2 (up L 16) u8 u16 u18 u20 u25 u26 u27 (QaQ w m (.map (es.push ⟨.string (Qad Qbk),u18,c⟩) (c+1))):=by
 obtain ⟨m,es,c,h3,h4,h5,h6⟩:=J.mp h1
 have hn:fC b L u16 u18 u20 Qbk=none:=by unfold fC;rw [show whichL cmdNames Qbk=5 from by decide];simp only [h0];rfl
 have hx:fC b (up L 16) u16 u18 u20 Qbk=some (u18):=by unfold fC;rw [show whichL cmdNames Qbk=5 from by decide];simp only [QbP];rfl
 have hg:∀ z,z≠Qbk→fC b (up L 16) u16 u18 u20 z=fC b L u16 u18 u20 z:=fun z hz=>by
  have hw:whichL cmdNames z≠5:=fun e=>hz (by have:=QaG cmdNames z 4 e;simpa [cmdNames] using this.symm)
  unfold fC
  split <;> first | (rename_i e;exact absurd e hw) | simp only [Qag L (by decide)] | rfl
 have hmb:m≠b:=by have:=J.hb;omega
 have hk:∀ k cs ty,W.heap.size≤k→w.heap[k]?=some (.cells cs ty)→(QaQ w m (.map (es.push ⟨.string (Qad Qbk),u18,c⟩) (c+1))).heap[k]?=some (.cells cs ty):=fun k cs ty _ h=>by
  rw [Qaq (fun e=>by rw [e,h5] at h;cases h)];exact h
 have hkb:(QaQ w m (.map (es.push ⟨.string (Qad Qbk),u18,c⟩) (c+1))).heap[b]?=some (Qcu t (if L 29 then u25 else Value.map none) mv2):=by rw [Qaq (Ne.symm hmb)];exact J.rd
 refine ⟨m,es,c,h3,h5,h6,hn,?_⟩
 exact ⟨J.hb,Qbq J.mod h4,by rw [Qag L (by decide)];exact hkb,ui J.cm4,ui J.cm7,ui J.cm10,ui J.cm13,fun _=>Qan _ h1,ui J.cm19,ui J.cm22,ui J.cm25,ui J.cv13,fun _=>Qan _ h2,ui J.cv19,fun h=>(J.a12 (ud h)).keep hk,fun h=>(J.a15 (ud h)).keep hk,fun h=>(J.a18 (ud h)).keep hk,fun _=>⟨m,_,_,h3,h4,Qa2 h5,h6.push hn hx hg⟩,fun h=>J.m26u (ud h),fun h=>J.m27 (ud h),fun h=>J.m28 (ud h),ui J.m29⟩
theorem JC.s19 (J:JC t b W mv2 L u8 u16 u18 u20 u25 u26 u27 w) (h0:L 19=false) (h1:L 1=true) (h2:L 18=true):∃ m es c,u8=.map (some m)∧w.heap[m]?=some (.map es c)∧Qcn es (fC b L u16 u18 u20)∧fC b L u16 u18 u20 Qbb=none∧JC t b W mv2 (up L 19) u8 u16 u18 u20 u25 u26 u27 (QaQ w m (.map (es.push ⟨.string (Qad Qbb),u20,c⟩) (c+1))):=by
 obtain ⟨m,es,c,h3,h4,h5,h6⟩:=J.mp h1
 have hn:fC b L u16 u18 u20 Qbb=none:=by unfold fC;rw [show whichL cmdNames Qbb=6 from by decide];simp only [h0];rfl
 have hx:fC b (up L 19) u16 u18 u20 Qbb=some (u20):=by unfold fC;rw [show whichL cmdNames Qbb=6 from by decide];simp only [QbP];rfl
 have hg:∀ z,z≠Qbb→fC b (up L 19) u16 u18 u20 z=fC b L u16 u18 u20 z:=fun z hz=>by
  have hw:whichL cmdNames z≠6:=fun e=>hz (by have:=QaG cmdNames z 5 e;simpa [cmdNames] using this.symm)
  unfold fC
  split <;> first | (rename_i e;exact absurd e hw) | simp only [Qag L (by decide)] | rfl
 have hmb:m≠b:=by have:=J.hb;omega
 have hk:∀ k cs ty,W.heap.size≤k→w.heap[k]?=some (.cells cs ty)→(QaQ w m (.map (es.push ⟨.string (Qad Qbb),u20,c⟩) (c+1))).heap[k]?=some (.cells cs ty):=fun k cs ty _ h=>by
  rw [Qaq (fun e=>by rw [e,h5] at h;cases h)];exact h
 have hkb:(QaQ w m (.map (es.push ⟨.string (Qad Qbb),u20,c⟩) (c+1))).heap[b]?=some (Qcu t (if L 29 then u25 else Value.map none) mv2):=by rw [Qaq (Ne.symm hmb)];exact J.rd
 refine ⟨m,es,c,h3,h5,h6,hn,?_⟩
 exact ⟨J.hb,Qbq J.mod h4,by rw [Qag L (by decide)];exact hkb,ui J.cm4,ui J.cm7,ui J.cm10,ui J.cm13,ui J.cm16,fun _=>Qan _ h1,ui J.cm22,ui J.cm25,ui J.cv13,ui J.cv16,fun _=>Qan _ h2,fun h=>(J.a12 (ud h)).keep hk,fun h=>(J.a15 (ud h)).keep hk,fun h=>(J.a18 (ud h)).keep hk,fun _=>⟨m,_,_,h3,h4,Qa2 h5,h6.push hn hx hg⟩,fun h=>J.m26u (ud h),fun h=>J.m27 (ud h),fun h=>J.m28 (ud h),ui J.m29⟩
theorem JC.s22 (J:JC t b W mv2 L u8 u16 u18 u20 u25 u26 u27 w) (h0:L 22=false) (h1:L 1=true):∃ m es c,u8=.map (some m)∧w.heap[m]?=some (.map es c)∧Qcn es (fC b L u16 u18 u20)∧fC b L u16 u18 u20 Qgh=none∧JC t b W mv2 (up L 22) u8 u16 u18 u20 u25 u26 u27 (QaQ w m (.map (es.push ⟨.string (Qad Qgh),.func (.func 156) #[.pointer (some ⟨b,0,none⟩)] #[],c⟩) (c+1))):=by
 obtain ⟨m,es,c,h3,h4,h5,h6⟩:=J.mp h1
 have hn:fC b L u16 u18 u20 Qgh=none:=by unfold fC;rw [show whichL cmdNames Qgh=7 from by decide];simp only [h0];rfl
 have hx:fC b (up L 22) u16 u18 u20 Qgh=some (.func (.func 156) #[.pointer (some ⟨b,0,none⟩)] #[]):=by unfold fC;rw [show whichL cmdNames Qgh=7 from by decide];simp only [QbP];rfl
 have hg:∀ z,z≠Qgh→fC b (up L 22) u16 u18 u20 z=fC b L u16 u18 u20 z:=fun z hz=>by
  have hw:whichL cmdNames z≠7:=fun e=>hz (by have:=QaG cmdNames z 6 e;simpa [cmdNames] using this.symm)
  unfold fC
  split <;> first | (rename_i e;exact absurd e hw) | simp only [Qag L (by decide)] | rfl
 have hmb:m≠b:=by have:=J.hb;omega
 have hk:∀ k cs ty,W.heap.size≤k→w.heap[k]?=some (.cells cs ty)→(QaQ w m (.map (es.push ⟨.string (Qad Qgh),.func (.func 156) #[.pointer (some ⟨b,0,none⟩)] #[],c⟩) (c+1))).heap[k]?=some (.cells cs ty):=fun k cs ty _ h=>by
  rw [Qaq (fun e=>by rw [e,h5] at h;cases h)];exact h
 have hkb:(QaQ w m (.map (es.push ⟨.string (Qad Qgh),.func (.func 156) #[.pointer (some ⟨b,0,none⟩)] #[],c⟩) (c+1))).heap[b]?=some (Qcu t (if L 29 then u25 else Value.map none) mv2):=by rw [Qaq (Ne.symm hmb)];exact J.rd
 refine ⟨m,es,c,h3,h5,h6,hn,?_⟩
 exact ⟨J.hb,Qbq J.mod h4,by rw [Qag L (by decide)];exact hkb,ui J.cm4,ui J.cm7,ui J.cm10,ui J.cm13,ui J.cm16,ui J.cm19,fun _=>Qan _ h1,ui J.cm25,ui J.cv13,ui J.cv16,ui J.cv19,fun h=>(J.a12 (ud h)).keep hk,fun h=>(J.a15 (ud h)).keep hk,fun h=>(J.a18 (ud h)).keep hk,fun _=>⟨m,_,_,h3,h4,Qa2 h5,h6.push hn hx hg⟩,fun h=>J.m26u (ud h),fun h=>J.m27 (ud h),fun h=>J.m28 (ud h),ui J.m29⟩
theorem JC.s25 (J:JC t b W mv2 L u8 u16 u18 u20 u25 u26 u27 w) (h0:L 25=false) (h1:L 1=true):∃ m es c,u8=.map (some m)∧w.heap[m]?=some (.map es c)∧Qcn es (fC b L u16 u18 u20)∧fC b L u16 u18 u20 kIf=none∧JC t b W mv2 (up L 25) u8 u16 u18 u20 u25 u26 u27 (QaQ w m (.map (es.push ⟨.string (Qad kIf),.func (.func 157) #[.pointer (some ⟨b,0,none⟩)] #[],c⟩) (c+1))):=by
 obtain ⟨m,es,c,h3,h4,h5,h6⟩:=J.mp h1
 have hn:fC b L u16 u18 u20 kIf=none:=by unfold fC;rw [show whichL cmdNames kIf=8 from by decide];simp only [h0];rfl
 have hx:fC b (up L 25) u16 u18 u20 kIf=some (.func (.func 157) #[.pointer (some ⟨b,0,none⟩)] #[]):=by unfold fC;rw [show whichL cmdNames kIf=8 from by decide];simp only [QbP];rfl
 have hg:∀ z,z≠kIf→fC b (up L 25) u16 u18 u20 z=fC b L u16 u18 u20 z:=fun z hz=>by
  have hw:whichL cmdNames z≠8:=fun e=>hz (by have:=QaG cmdNames z 7 e;simpa [cmdNames] using this.symm)
  unfold fC
  split <;> first | (rename_i e;exact absurd e hw) | simp only [Qag L (by decide)] | rfl
 have hmb:m≠b:=by have:=J.hb;omega
 have hk:∀ k cs ty,W.heap.size≤k→w.heap[k]?=some (.cells cs ty)→(QaQ w m (.map (es.push ⟨.string (Qad kIf),.func (.func 157) #[.pointer (some ⟨b,0,none⟩)] #[],c⟩) (c+1))).heap[k]?=some (.cells cs ty):=fun k cs ty _ h=>by
  rw [Qaq (fun e=>by rw [e,h5] at h;cases h)];exact h
 have hkb:(QaQ w m (.map (es.push ⟨.string (Qad kIf),.func (.func 157) #[.pointer (some ⟨b,0,none⟩)] #[],c⟩) (c+1))).heap[b]?=some (Qcu t (if L 29 then u25 else Value.map none) mv2):=by rw [Qaq (Ne.symm hmb)];exact J.rd
 refine ⟨m,es,c,h3,h5,h6,hn,?_⟩
 exact ⟨J.hb,Qbq J.mod h4,by rw [Qag L (by decide)];exact hkb,ui J.cm4,ui J.cm7,ui J.cm10,ui J.cm13,ui J.cm16,ui J.cm19,ui J.cm22,fun _=>Qan _ h1,ui J.cv13,ui J.cv16,ui J.cv19,fun h=>(J.a12 (ud h)).keep hk,fun h=>(J.a15 (ud h)).keep hk,fun h=>(J.a18 (ud h)).keep hk,fun _=>⟨m,_,_,h3,h4,Qa2 h5,h6.push hn hx hg⟩,fun h=>J.m26u (ud h),fun h=>J.m27 (ud h),fun h=>J.m28 (ud h),ui J.m29⟩
theorem JC.s26 (J:JC t b W mv2 L u8 u16 u18 u20 u25 u26 u27 w) (h0:L 26=false) (h1:L 1=true) (hi4:L 4=true) (hi7:L 7=true) (hi10:L 10=true) (hi13:L 13=true) (hi16:L 16=true) (hi19:L 19=true) (hi22:L 22=true) (hi25:L 25=true):JC t b W mv2 (up L 26) u8 u16 u18 u20 u8 u26 u27 w:=by
 have n29:L 29=false:=nf J.m29 h0
 have hk:∀ k cs ty,W.heap.size≤k→w.heap[k]?=some (.cells cs ty)→w.heap[k]?=some (.cells cs ty):=fun k cs ty _ h=>h
 have hkm:∀ (m:Nat) (es:Array MapEntry) (c:Nat),w.heap[m]?=some (Obj.map es c)→w.heap[m]?=some (Obj.map es c):=fun m es c h=>h
 exact ⟨J.hb,J.mod.trans (Mod.refl b w),by have:=J.rd;rw [n29] at this;rw [Qag L (by decide),n29];exact this,ui J.cm4,ui J.cm7,ui J.cm10,ui J.cm13,ui J.cm16,ui J.cm19,ui J.cm22,ui J.cm25,ui J.cv13,ui J.cv16,ui J.cv19,fun h=>(J.a12 (ud h)).keep hk,fun h=>(J.a15 (ud h)).keep hk,fun h=>(J.a18 (ud h)).keep hk,fun h=>by obtain ⟨m,es,c,h3,h4,h5,h6⟩:=J.mp (ud h);exact ⟨m,es,c,h3,h4,hkm m _ _ h5,h6.congr (fun x=>(Qlu 26 (by decide) x).symm)⟩,fun _=>⟨rfl,Qan _ h1,Qan _ hi4,Qan _ hi7,Qan _ hi10,Qan _ hi13,Qan _ hi16,Qan _ hi19,Qan _ hi22,Qan _ hi25⟩,fun h=>J.m27 (ud h),fun h=>J.m28 (ud h),ui J.m29⟩
theorem JC.s27 (J:JC t b W mv2 L u8 u16 u18 u20 u25 u26 u27 w) (h0:L 27=false):JC t b W mv2 (up L 27) u8 u16 u18 u20 u25 (.pointer (some ⟨b,0,none⟩)) u27 w:=by
 have hk:∀ k cs ty,W.heap.size≤k→w.heap[k]?=some (.cells cs ty)→w.heap[k]?=some (.cells cs ty):=fun k cs ty _ h=>h
 have hkm:∀ (m:Nat) (es:Array MapEntry) (c:Nat),w.heap[m]?=some (Obj.map es c)→w.heap[m]?=some (Obj.map es c):=fun m es c h=>h
 exact ⟨J.hb,J.mod.trans (Mod.refl b w),by rw [Qag L (by decide)];exact J.rd,ui J.cm4,ui J.cm7,ui J.cm10,ui J.cm13,ui J.cm16,ui J.cm19,ui J.cm22,ui J.cm25,ui J.cv13,ui J.cv16,ui J.cv19,fun h=>(J.a12 (ud h)).keep hk,fun h=>(J.a15 (ud h)).keep hk,fun h=>(J.a18 (ud h)).keep hk,fun h=>by obtain ⟨m,es,c,h3,h4,h5,h6⟩:=J.mp (ud h);exact ⟨m,es,c,h3,h4,hkm m _ _ h5,h6.congr (fun x=>(Qlu 27 (by decide) x).symm)⟩,fun h=>J.m26u (ud h),fun _=>rfl,fun h=>J.m28 (ud h),ui J.m29⟩
theorem JC.s28 (J:JC t b W mv2 L u8 u16 u18 u20 u25 u26 u27 w) (h0:L 28=false):JC t b W mv2 (up L 28) u8 u16 u18 u20 u25 u26 (.pointer (some ⟨b,8,none⟩)) w:=by
 have hk:∀ k cs ty,W.heap.size≤k→w.heap[k]?=some (.cells cs ty)→w.heap[k]?=some (.cells cs ty):=fun k cs ty _ h=>h
 have hkm:∀ (m:Nat) (es:Array MapEntry) (c:Nat),w.heap[m]?=some (Obj.map es c)→w.heap[m]?=some (Obj.map es c):=fun m es c h=>h
 exact ⟨J.hb,J.mod.trans (Mod.refl b w),by rw [Qag L (by decide)];exact J.rd,ui J.cm4,ui J.cm7,ui J.cm10,ui J.cm13,ui J.cm16,ui J.cm19,ui J.cm22,ui J.cm25,ui J.cv13,ui J.cv16,ui J.cv19,fun h=>(J.a12 (ud h)).keep hk,fun h=>(J.a15 (ud h)).keep hk,fun h=>(J.a18 (ud h)).keep hk,fun h=>by obtain ⟨m,es,c,h3,h4,h5,h6⟩:=J.mp (ud h);exact ⟨m,es,c,h3,h4,hkm m _ _ h5,h6.congr (fun x=>(Qlu 28 (by decide) x).symm)⟩,fun h=>J.m26u (ud h),fun h=>J.m27 (ud h),fun _=>rfl,ui J.m29⟩
theorem JC.s29 (J:JC t b W mv2 L u8 u16 u18 u20 u25 u26 u27 w) (h0:L 29=false) (h26:L 26=true):JC t b W mv2 (up L 29) u8 u16 u18 u20 u25 u26 u27 (w.setCell ⟨b,8,none⟩ u25):=by
 have hb:=J.hb
 have hk:∀ k cs ty,W.heap.size≤k→w.heap[k]?=some (.cells cs ty)→(w.setCell ⟨b,8,none⟩ u25).heap[k]?=some (.cells cs ty):=fun k cs ty hk h=>by rw [Below.heap_setCell _ _ _ _ (show k≠b by omega)];exact h
 have hkm:∀ (m:Nat) (es:Array MapEntry) (c:Nat),w.heap[m]?=some (Obj.map es c)→(w.setCell ⟨b,8,none⟩ u25).heap[m]?=some (Obj.map es c):=fun m es c h=>by
  have hr:=J.rd
  rw [Below.heap_setCell _ _ _ _ (show m≠b from fun e=>by rw [e,hr] at h;cases h)];exact h
 exact ⟨J.hb,J.mod.setCell 8 u25,by rw [QbP];exact Qah _ _ _ _ _ _ J.rd,ui J.cm4,ui J.cm7,ui J.cm10,ui J.cm13,ui J.cm16,ui J.cm19,ui J.cm22,ui J.cm25,ui J.cv13,ui J.cv16,ui J.cv19,fun h=>(J.a12 (ud h)).keep hk,fun h=>(J.a15 (ud h)).keep hk,fun h=>(J.a18 (ud h)).keep hk,fun h=>by obtain ⟨m,es,c,h3,h4,h5,h6⟩:=J.mp (ud h);exact ⟨m,es,c,h3,h4,hkm m _ _ h5,h6.congr (fun x=>(Qlu 29 (by decide) x).symm)⟩,fun h=>J.m26u (ud h),fun h=>J.m27 (ud h),fun h=>J.m28 (ud h),fun _=>Qan _ h26⟩
theorem JC.done (J:JC t b W mv2 L u8 u16 u18 u20 u25 u26 u27 w) (hall:∀ i,i < 30→L i=true):∃ m p1 k1 p2 k2 p3 k3,w.heap[b]?=some (Qcu t (.map (some m)) mv2)∧Qqt w b m p1 k1 p2 k2 p3 k3∧Mod b W w∧W.heap.size≤m:=by
 obtain ⟨m,es,c,h3,h4,h5,h6⟩:=J.mp (hall 1 (by decide))
 obtain ⟨p1,k1,e1,hp1,hk1,hp1',hk1'⟩:=J.a12 (hall 12 (by decide))
 obtain ⟨p2,k2,e2,hp2,hk2,hp2',hk2'⟩:=J.a15 (hall 15 (by decide))
 obtain ⟨p3,k3,e3,hp3,hk3,hp3',hk3'⟩:=J.a18 (hall 18 (by decide))
 have hb:=J.hb
 have hr:=J.rd
 rw [hall 29 (by decide),if_pos rfl,(J.m26 (hall 26 (by decide))).1,h3] at hr
 have hf:Qcn es (cmdFn b p1 k1 p2 k2 p3 k3):=h6.congr (fun x=>by
  subst e1 e2 e3
  unfold fC cmdFn
  simp only [hall 4 (by decide),hall 7 (by decide),hall 10 (by decide),hall 13 (by decide),hall 16 (by decide),hall 19 (by decide),hall 22 (by decide),hall 25 (by decide),if_true]
  all_goals (
   generalize whichL cmdNames x=i
   match i with
   | 0 | 1 | 2 | 3 | 4 | 5 | 6 | 7 | 8=>rfl
   | n+9=>rfl))
 exact ⟨m,p1,k1,p2,k2,p3,k3,hr,⟨QmR (K:=9) (E:=261) Tryz.underlying257 Tryz.underlying9 Qub h5 hf,⟨Qaa hp1' 0,by omega⟩,Qaa hk1' 0,⟨Qaa hp2' 0,by omega⟩,Qaa hk2' 0,⟨Qaa hp3' 0,by omega⟩,Qaa hk3' 0,by omega,by omega,by omega,by omega,QaH h5⟩,J.mod,h4⟩
end
theorem Qfx {P:Program} {md:Region.Mode} {ops:Array Oper} {Q:Exit→Act→World→Prop} {S:World→Prop} (J:Array Bool→Act→World→Prop)
 (hsz:∀ l a w,J l a w→l.size=ops.size) (hS:∀ l a w,J l a w→S w)
 (hstep:∀ l a w i,J l a w→i∈Region.ready md ops l→wpOp P ops Q i (fun a' w'=>J (l.setIfInBounds i true) a' w') a w)
 (hdone:∀ l a w,J l a w→Region.ready md ops l=[]→Q .normal a w) :
 ∀ (fuel:Nat) (l:Array Bool) (a:Act) (w:World),l.toList.count false≤fuel→J l a w→wpAnyH P md ops Q S fuel l a w
 | 0,l,a,w,hf,hJ=>by
  have hr:Region.ready md ops l=[]:=by
   rw [List.eq_nil_iff_forall_not_mem]
   intro i hi
   obtain ⟨h0,o,ho,_⟩:=mem_ready.1 hi
   have hlt:i < l.size:=by rw [hsz l a w hJ];exact (Array.getElem?_eq_some_iff.1 ho).1
   have:l[i]=false:=by simpa [hlt] using h0
   have hm:false∈l.toList:=by rw [← this];simp
   have:=List.count_pos_iff.2 hm
   omega
  exact ⟨hr,hdone l a w hJ hr⟩
 | fuel+1,l,a,w,hf,hJ=>by
  refine ⟨hdone l a w hJ,fun i hi=>wpOp_mono (fun a' w' h=>⟨hS _ _ _ h,?_⟩) (hstep l a w i hJ hi)⟩
  refine Qfx J hsz hS hstep hdone fuel _ a' w' ?_ h
  obtain ⟨h0,o,ho,_⟩:=mem_ready.1 hi
  have hlt:i < l.size:=by rw [hsz l a w hJ];exact (Array.getElem?_eq_some_iff.1 ho).1
  have hv:l[i]=false:=by simpa [hlt] using h0
  have e:(l.setIfInBounds i true).toList=l.toList.set i true:=by simp
  rw [e]
  have hc:=List.count_set (a:=true) (b:=false) (l:=l.toList) (i:=i) (h:=by simpa using hlt)
  have hv':l.toList[i]'(by simpa using hlt)=false:=by simpa using hv
  rw [hv'] at hc
  simp only [beq_self_eq_true,if_true,show ((true:Bool) == false)=false from rfl,Bool.false_eq_true,if_false] at hc
  have hm:false∈l.toList:=by rw [← hv'];simp
  have:=List.count_pos_iff.2 hm
  omega
theorem Qel {md:Region.Mode} {ops:Array Oper} {l:Array Bool} (hl:l.size=ops.size) (hd:((List.range ops.size).all fun i=>(ops[i]?).all fun o=>o.after.all fun e=>decide (e.on < i))=true) (hr:Region.ready md ops l=[]):∀ i,i < ops.size→l.getD i false=true:=by
 intro i
 induction i using Nat.strongRecOn with
 | _ i ih=>
  intro hi
  apply Classical.byContradiction
  intro hn
  have hm:i∈Region.ready md ops l:=by
   refine mem_ready.2 ⟨?_,ops[i],by simp [hi],fun e he _=>?_⟩
   ·have:i < l.size:=by omega
    simp [this] at hn ⊢
    exact hn
   ·have h1:=List.all_eq_true.1 hd i (List.mem_range.2 hi)
    rw [Array.getElem?_eq_getElem hi] at h1
    simp only [Option.all_some] at h1
    have h2:=Array.all_eq_true_iff_forall_mem.1 h1 e he
    have h3:e.on < i:=of_decide_eq_true h2
    exact ih e.on h3 (by omega)
  rw [hr] at hm
  cases hm
theorem QaO {P:Program} {ops:Array Oper} {Q:Exit→Act→World→Prop} {i:Nat} {o:Oper} {K:Act→World→Prop} {a:Act} {w:World} (ho:ops[i]?=some o) (hw:Region.wanted o (yielded ops a.tmps)=true) (h:o.wp P a w K Q):wpOp P ops Q i K a w:=by
 unfold wpOp
 rw [ho]
 dsimp only
 rw [if_pos hw]
 exact Or.inl h
end
section
open Go.RowKit
def Qi2 (w:World) (B:Nat) (h:Bool) (v:Value):Prop:=
 ∃ p,v=.func (.func 251) #[] #[.pointer (some ⟨p,0,none⟩)]∧B≤p∧w.heap[p]?=some (.cells #[.bool h] 4)
theorem Qi2.keep {w w':World} {B:Nat} {h:Bool} {v:Value} (hh:Qi2 w B h v) (hk:∀ k cs ty,B≤k→w.heap[k]?=some (.cells cs ty)→w'.heap[k]?=some (.cells cs ty)):Qi2 w' B h v:=by
 obtain ⟨p,hv,hp,h1⟩:=hh
 exact ⟨p,hv,hp,hk p _ _ hp h1⟩
def fT (b:Nat) (L:Nat→Bool) (u30 u31:Value) (x:List UInt8):Option Value:=
 match whichL testNames x with
 | 1=>if L 3 then some (u30) else none
 | 2=>if L 5 then some (u31) else none
 | 3=>if L 8 then some (.func (.func 159) #[.pointer (some ⟨b,0,none⟩)] #[]) else none
 | 4=>if L 10 then some (.func (.func 160) #[] #[.pointer (some ⟨b+1,0,none⟩)]) else none
 | 5=>if L 12 then some (.func (.func 162) #[] #[.pointer (some ⟨b+1,0,none⟩)]) else none
 | 6=>if L 14 then some (.func (.func 163) #[] #[.pointer (some ⟨b+1,0,none⟩)]) else none
 | 7=>if L 16 then some (.func (.func 166) #[] #[.pointer (some ⟨b+1,0,none⟩)]) else none
 | 8=>if L 18 then some (.func (.func 169) #[] #[.pointer (some ⟨b+1,0,none⟩)]) else none
 | 9=>if L 21 then some (.func (.func 170) #[.pointer (some ⟨b,0,none⟩)] #[]) else none
 | 10=>if L 24 then some (.func (.func 171) #[.pointer (some ⟨b,0,none⟩)] #[]) else none
 | _=>none
structure JT (t:ByteArray) (b:Nat) (W:World) (mv1:Value) (L:Nat→Bool) (u29 u30 u31 u43 u44 u45:Value) (w:World):Prop where
 hb:b < W.heap.size
 mod:Mod b W w
 rd:w.heap[b]?=some (Qcu t mv1 (if L 28 then u43 else Value.map none))
 cm3:L 3=true→L 1=true
 cm5:L 5=true→L 1=true
 cm8:L 8=true→L 1=true
 cm10:L 10=true→L 1=true
 cm12:L 12=true→L 1=true
 cm14:L 14=true→L 1=true
 cm16:L 16=true→L 1=true
 cm18:L 18=true→L 1=true
 cm21:L 21=true→L 1=true
 cm24:L 24=true→L 1=true
 cv3:L 3=true→L 2=true
 cv5:L 5=true→L 4=true
 a2:L 2=true→Qi2 w W.heap.size true u30
 a4:L 4=true→Qi2 w W.heap.size false u31
 mp:L 1=true→∃ m es c,u29=.map (some m)∧W.heap.size≤m∧w.heap[m]?=some (.map es c)∧Qcn es (fT b L u30 u31)
 m25:L 25=true→u43=u29∧L 1=true∧L 3=true∧L 5=true∧L 8=true∧L 10=true∧L 12=true∧L 14=true∧L 16=true∧L 18=true∧L 21=true∧L 24=true
 m26:L 26=true→u44=.pointer (some ⟨b,0,none⟩)
 m27:L 27=true→u45=.pointer (some ⟨b,9,none⟩)
 m28:L 28=true→L 25=true
section
variable {t:ByteArray} {b:Nat} {W:World} {mv1:Value} {L:Nat→Bool} {u29 u30 u31 u43 u44 u45:Value} {w:World}
theorem QnJ (i:Nat) (h:i≠3∧i≠5∧i≠8∧i≠10∧i≠12∧i≠14∧i≠16∧i≠18∧i≠21∧i≠24) (x:List UInt8):fT b (up L i) u30 u31 x=fT b L u30 u31 x:=by
 obtain ⟨h0,h1,h2,h3,h4,h5,h6,h7,h8,h9⟩:=h
 unfold fT
 simp only [Qag L (Ne.symm h0),Qag L (Ne.symm h1),Qag L (Ne.symm h2),Qag L (Ne.symm h3),Qag L (Ne.symm h4),Qag L (Ne.symm h5),Qag L (Ne.symm h6),Qag L (Ne.symm h7),Qag L (Ne.symm h8),Qag L (Ne.symm h9)]
theorem JT.m25u (J:JT t b W mv1 L u29 u30 u31 u43 u44 u45 w) {i:Nat} (h:L 25=true):u43=u29∧up L i 1=true∧up L i 3=true∧up L i 5=true∧up L i 8=true∧up L i 10=true∧up L i 12=true∧up L i 14=true∧up L i 16=true∧up L i 18=true∧up L i 21=true∧up L i 24=true:=by
 obtain ⟨e1,e2,e3,e4,e5,e6,e7,e8,e9,e10,e11,e12⟩:=J.m25 h
 exact ⟨e1,Qan _ e2,Qan _ e3,Qan _ e4,Qan _ e5,Qan _ e6,Qan _ e7,Qan _ e8,Qan _ e9,Qan _ e10,Qan _ e11,Qan _ e12⟩
theorem JT.s1 (J:JT t b W mv1 L u29 u30 u31 u43 u44 u45 w) (h0:L 1=false):JT t b W mv1 (up L 1) (.map (some w.heap.size)) u30 u31 u43 u44 u45 (w.alloc (Obj.map #[] 0)):=by
 have hk:∀ k cs ty,W.heap.size≤k→w.heap[k]?=some (.cells cs ty)→(w.alloc (Obj.map #[] 0)).heap[k]?=some (.cells cs ty):=fun k cs ty _ h=>Qac h
 have hkb:(w.alloc (Obj.map #[] 0)).heap[b]?=some (Qcu t mv1 (if L 28 then u43 else Value.map none)):=Qac J.rd
 have n3:L 3=false:=nf J.cm3 h0
 have n5:L 5=false:=nf J.cm5 h0
 have n8:L 8=false:=nf J.cm8 h0
 have n10:L 10=false:=nf J.cm10 h0
 have n12:L 12=false:=nf J.cm12 h0
 have n14:L 14=false:=nf J.cm14 h0
 have n16:L 16=false:=nf J.cm16 h0
 have n18:L 18=false:=nf J.cm18 h0
 have n21:L 21=false:=nf J.cm21 h0
 have n24:L 24=false:=nf J.cm24 h0
 exact ⟨J.hb,J.mod.trans ((Mod.refl b w).alloc _),by rw [Qag L (by decide)];exact hkb,ui J.cm3,ui J.cm5,ui J.cm8,ui J.cm10,ui J.cm12,ui J.cm14,ui J.cm16,ui J.cm18,ui J.cm21,ui J.cm24,ui J.cv3,ui J.cv5,fun h=>(J.a2 (ud h)).keep hk,fun h=>(J.a4 (ud h)).keep hk,fun _=>⟨w.heap.size,#[],0,rfl,J.mod.size,Qay _ _,Qcn.empty.congr (fun x=>by rw [QnJ 1 (by decide)];unfold fT;simp only [n3,n5,n8,n10,n12,n14,n16,n18,n21,n24];split <;> rfl)⟩,fun h=>absurd (J.m25 (ud h)).2.1 (by rw [h0];decide),fun h=>J.m26 (ud h),fun h=>J.m27 (ud h),ui J.m28⟩
theorem JT.s2 (J:JT t b W mv1 L u29 u30 u31 u43 u44 u45 w) (h0:L 2=false):JT t b W mv1 (up L 2) u29 (.func (.func 251) #[] #[.pointer (some ⟨w.heap.size,0,none⟩)]) u31 u43 u44 u45 (w.alloc (.cells #[.bool true] 4)):=by
 have hk:∀ k cs ty,W.heap.size≤k→w.heap[k]?=some (.cells cs ty)→(w.alloc (.cells #[.bool true] 4)).heap[k]?=some (.cells cs ty):=fun k cs ty _ h=>Qac h
 have hkm:∀ (m:Nat) (es:Array MapEntry) (c:Nat),w.heap[m]?=some (Obj.map es c)→(w.alloc (.cells #[.bool true] 4)).heap[m]?=some (Obj.map es c):=fun m es c h=>Qac h
 have hkb:(w.alloc (.cells #[.bool true] 4)).heap[b]?=some (Qcu t mv1 (if L 28 then u43 else Value.map none)):=Qac J.rd
 have hn:L 3=false:=nf J.cv3 h0
 have hsz:=J.mod.size
 exact ⟨J.hb,J.mod.trans ((Mod.refl b w).alloc _),by rw [Qag L (by decide)];exact hkb,ui J.cm3,ui J.cm5,ui J.cm8,ui J.cm10,ui J.cm12,ui J.cm14,ui J.cm16,ui J.cm18,ui J.cm21,ui J.cm24,ui J.cv3,ui J.cv5,fun _=>⟨w.heap.size,rfl,hsz,Qay _ _⟩,fun h=>(J.a4 (ud h)).keep hk,fun h=>by obtain ⟨m,es,c,h3,h4,h5,h6⟩:=J.mp (ud h);exact ⟨m,es,c,h3,h4,hkm m _ _ h5,h6.congr (fun x=>by rw [QnJ 2 (by decide)];unfold fT;simp only [hn,Bool.false_eq_true,if_false])⟩,fun h=>J.m25u (ud h),fun h=>J.m26 (ud h),fun h=>J.m27 (ud h),ui J.m28⟩
theorem JT.s4 (J:JT t b W mv1 L u29 u30 u31 u43 u44 u45 w) (h0:L 4=false):JT t b W mv1 (up L 4) u29 u30 (.func (.func 251) #[] #[.pointer (some ⟨w.heap.size,0,none⟩)]) u43 u44 u45 (w.alloc (.cells #[.bool false] 4)):=by
 have hk:∀ k cs ty,W.heap.size≤k→w.heap[k]?=some (.cells cs ty)→(w.alloc (.cells #[.bool false] 4)).heap[k]?=some (.cells cs ty):=fun k cs ty _ h=>Qac h
 have hkm:∀ (m:Nat) (es:Array MapEntry) (c:Nat),w.heap[m]?=some (Obj.map es c)→(w.alloc (.cells #[.bool false] 4)).heap[m]?=some (Obj.map es c):=fun m es c h=>Qac h
 have hkb:(w.alloc (.cells #[.bool false] 4)).heap[b]?=some (Qcu t mv1 (if L 28 then u43 else Value.map none)):=Qac J.rd
 have hn:L 5=false:=nf J.cv5 h0
 have hsz:=J.mod.size
 exact ⟨J.hb,J.mod.trans ((Mod.refl b w).alloc _),by rw [Qag L (by decide)];exact hkb,ui J.cm3,ui J.cm5,ui J.cm8,ui J.cm10,ui J.cm12,ui J.cm14,ui J.cm16,ui J.cm18,ui J.cm21,ui J.cm24,ui J.cv3,ui J.cv5,fun h=>(J.a2 (ud h)).keep hk,fun _=>⟨w.heap.size,rfl,hsz,Qay _ _⟩,fun h=>by obtain ⟨m,es,c,h3,h4,h5,h6⟩:=J.mp (ud h);exact ⟨m,es,c,h3,h4,hkm m _ _ h5,h6.congr (fun x=>by rw [QnJ 4 (by decide)];unfold fT;simp only [hn,Bool.false_eq_true,if_false])⟩,fun h=>J.m25u (ud h),fun h=>J.m26 (ud h),fun h=>J.m27 (ud h),ui J.m28⟩
theorem JT.s3 (J:JT t b W mv1 L u29 u30 u31 u43 u44 u45 w) (h0:L 3=false) (h1:L 1=true) (h2:L 2=true):∃ m es c,u29=.map (some m)∧w.heap[m]?=some (.map es c)∧Qcn es (fT b L u30 u31)∧fT b L u30 u31 Qe5=none∧JT t b W mv1 (up L 3) u29 u30 u31 u43 u44 u45 (QaQ w m (.map (es.push ⟨.string (Qad Qe5),u30,c⟩) (c+1))):=by
 obtain ⟨m,es,c,h3,h4,h5,h6⟩:=J.mp h1
 have hn:fT b L u30 u31 Qe5=none:=by unfold fT;rw [show whichL testNames Qe5=1 from by decide];simp only [h0];rfl
 have hx:fT b (up L 3) u30 u31 Qe5=some (u30):=by unfold fT;rw [show whichL testNames Qe5=1 from by decide];simp only [QbP];rfl
 have hg:∀ z,z≠Qe5→fT b (up L 3) u30 u31 z=fT b L u30 u31 z:=fun z hz=>by
  have hw:whichL testNames z≠1:=fun e=>hz (by have:=QaG testNames z 0 e;simpa [testNames] using this.symm)
  unfold fT
  split <;> first | (rename_i e;exact absurd e hw) | simp only [Qag L (by decide)] | rfl
 have hmb:m≠b:=by have:=J.hb;omega
 have hk:∀ k cs ty,W.heap.size≤k→w.heap[k]?=some (.cells cs ty)→(QaQ w m (.map (es.push ⟨.string (Qad Qe5),u30,c⟩) (c+1))).heap[k]?=some (.cells cs ty):=fun k cs ty _ h=>by
  rw [Qaq (fun e=>by rw [e,h5] at h;cases h)];exact h
 have hkb:(QaQ w m (.map (es.push ⟨.string (Qad Qe5),u30,c⟩) (c+1))).heap[b]?=some (Qcu t mv1 (if L 28 then u43 else Value.map none)):=by rw [Qaq (Ne.symm hmb)];exact J.rd
 refine ⟨m,es,c,h3,h5,h6,hn,?_⟩
 exact ⟨J.hb,Qbq J.mod h4,by rw [Qag L (by decide)];exact hkb,fun _=>Qan _ h1,ui J.cm5,ui J.cm8,ui J.cm10,ui J.cm12,ui J.cm14,ui J.cm16,ui J.cm18,ui J.cm21,ui J.cm24,fun _=>Qan _ h2,ui J.cv5,fun h=>(J.a2 (ud h)).keep hk,fun h=>(J.a4 (ud h)).keep hk,fun _=>⟨m,_,_,h3,h4,Qa2 h5,h6.push hn hx hg⟩,fun h=>J.m25u (ud h),fun h=>J.m26 (ud h),fun h=>J.m27 (ud h),ui J.m28⟩
theorem JT.s5 (J:JT t b W mv1 L u29 u30 u31 u43 u44 u45 w) (h0:L 5=false) (h1:L 1=true) (h2:L 4=true):∃ m es c,u29=.map (some m)∧w.heap[m]?=some (.map es c)∧Qcn es (fT b L u30 u31)∧fT b L u30 u31 Qdf=none∧JT t b W mv1 (up L 5) u29 u30 u31 u43 u44 u45 (QaQ w m (.map (es.push ⟨.string (Qad Qdf),u31,c⟩) (c+1))):=by
 obtain ⟨m,es,c,h3,h4,h5,h6⟩:=J.mp h1
 have hn:fT b L u30 u31 Qdf=none:=by unfold fT;rw [show whichL testNames Qdf=2 from by decide];simp only [h0];rfl
 have hx:fT b (up L 5) u30 u31 Qdf=some (u31):=by unfold fT;rw [show whichL testNames Qdf=2 from by decide];simp only [QbP];rfl
 have hg:∀ z,z≠Qdf→fT b (up L 5) u30 u31 z=fT b L u30 u31 z:=fun z hz=>by
  have hw:whichL testNames z≠2:=fun e=>hz (by have:=QaG testNames z 1 e;simpa [testNames] using this.symm)
  unfold fT
  split <;> first | (rename_i e;exact absurd e hw) | simp only [Qag L (by decide)] | rfl
 have hmb:m≠b:=by have:=J.hb;omega
 have hk:∀ k cs ty,W.heap.size≤k→w.heap[k]?=some (.cells cs ty)→(QaQ w m (.map (es.push ⟨.string (Qad Qdf),u31,c⟩) (c+1))).heap[k]?=some (.cells cs ty):=fun k cs ty _ h=>by
  rw [Qaq (fun e=>by rw [e,h5] at h;cases h)];exact h
 have hkb:(QaQ w m (.map (es.push ⟨.string (Qad Qdf),u31,c⟩) (c+1))).heap[b]?=some (Qcu t mv1 (if L 28 then u43 else Value.map none)):=by rw [Qaq (Ne.symm hmb)];exact J.rd
 refine ⟨m,es,c,h3,h5,h6,hn,?_⟩
 exact ⟨J.hb,Qbq J.mod h4,by rw [Qag L (by decide)];exact hkb,ui J.cm3,fun _=>Qan _ h1,ui J.cm8,ui J.cm10,ui J.cm12,ui J.cm14,ui J.cm16,ui J.cm18,ui J.cm21,ui J.cm24,ui J.cv3,fun _=>Qan _ h2,fun h=>(J.a2 (ud h)).keep hk,fun h=>(J.a4 (ud h)).keep hk,fun _=>⟨m,_,_,h3,h4,Qa2 h5,h6.push hn hx hg⟩,fun h=>J.m25u (ud h),fun h=>J.m26 (ud h),fun h=>J.m27 (ud h),ui J.m28⟩
theorem JT.s8 (J:JT t b W mv1 L u29 u30 u31 u43 u44 u45 w) (h0:L 8=false) (h1:L 1=true):∃ m es c,u29=.map (some m)∧w.heap[m]?=some (.map es c)∧Qcn es (fT b L u30 u31)∧fT b L u30 u31 kNot=none∧JT t b W mv1 (up L 8) u29 u30 u31 u43 u44 u45 (QaQ w m (.map (es.push ⟨.string (Qad kNot),.func (.func 159) #[.pointer (some ⟨b,0,none⟩)] #[],c⟩) (c+1))):=by
 obtain ⟨m,es,c,h3,h4,h5,h6⟩:=J.mp h1
 have hn:fT b L u30 u31 kNot=none:=by unfold fT;rw [show whichL testNames kNot=3 from by decide];simp only [h0];rfl
 have hx:fT b (up L 8) u30 u31 kNot=some (.func (.func 159) #[.pointer (some ⟨b,0,none⟩)] #[]):=by unfold fT;rw [show whichL testNames kNot=3 from by decide];simp only [QbP];rfl
 have hg:∀ z,z≠kNot→fT b (up L 8) u30 u31 z=fT b L u30 u31 z:=fun z hz=>by
  have hw:whichL testNames z≠3:=fun e=>hz (by have:=QaG testNames z 2 e;simpa [testNames] using this.symm)
  unfold fT
  split <;> first | (rename_i e;exact absurd e hw) | simp only [Qag L (by decide)] | rfl
 have hmb:m≠b:=by have:=J.hb;omega
 have hk:∀ k cs ty,W.heap.size≤k→w.heap[k]?=some (.cells cs ty)→(QaQ w m (.map (es.push ⟨.string (Qad kNot),.func (.func 159) #[.pointer (some ⟨b,0,none⟩)] #[],c⟩) (c+1))).heap[k]?=some (.cells cs ty):=fun k cs ty _ h=>by
  rw [Qaq (fun e=>by rw [e,h5] at h;cases h)];exact h
 have hkb:(QaQ w m (.map (es.push ⟨.string (Qad kNot),.func (.func 159) #[.pointer (some ⟨b,0,none⟩)] #[],c⟩) (c+1))).heap[b]?=some (Qcu t mv1 (if L 28 then u43 else Value.map none)):=by rw [Qaq (Ne.symm hmb)];exact J.rd
 refine ⟨m,es,c,h3,h5,h6,hn,?_⟩
 exact ⟨J.hb,Qbq J.mod h4,by rw [Qag L (by decide)];exact hkb,ui J.cm3,ui J.cm5,fun _=>Qan _ h1,ui J.cm10,ui J.cm12,ui J.cm14,ui J.cm16,ui J.cm18,ui J.cm21,ui J.cm24,ui J.cv3,ui J.cv5,fun h=>(J.a2 (ud h)).keep hk,fun h=>(J.a4 (ud h)).keep hk,fun _=>⟨m,_,_,h3,h4,Qa2 h5,h6.push hn hx hg⟩,fun h=>J.m25u (ud h),fun h=>J.m26 (ud h),fun h=>J.m27 (ud h),ui J.m28⟩
theorem JT.s10 (J:JT t b W mv1 L u29 u30 u31 u43 u44 u45 w) (h0:L 10=false) (h1:L 1=true):∃ m es c,u29=.map (some m)∧w.heap[m]?=some (.map es c)∧Qcn es (fT b L u30 u31)∧fT b L u30 u31 Qcy=none∧JT t b W mv1 (up L 10) u29 u30 u31 u43 u44 u45 (QaQ w m (.map (es.push ⟨.string (Qad Qcy),.func (.func 160) #[] #[.pointer (some ⟨b+1,0,none⟩)],c⟩) (c+1))):=by
 obtain ⟨m,es,c,h3,h4,h5,h6⟩:=J.mp h1
 have hn:fT b L u30 u31 Qcy=none:=by unfold fT;rw [show whichL testNames Qcy=4 from by decide];simp only [h0];rfl
 have hx:fT b (up L 10) u30 u31 Qcy=some (.func (.func 160) #[] #[.pointer (some ⟨b+1,0,none⟩)]):=by unfold fT;rw [show whichL testNames Qcy=4 from by decide];simp only [QbP];rfl
 have hg:∀ z,z≠Qcy→fT b (up L 10) u30 u31 z=fT b L u30 u31 z:=fun z hz=>by
  have hw:whichL testNames z≠4:=fun e=>hz (by have:=QaG testNames z 3 e;simpa [testNames] using this.symm)
  unfold fT
  split <;> first | (rename_i e;exact absurd e hw) | simp only [Qag L (by decide)] | rfl
 have hmb:m≠b:=by have:=J.hb;omega
 have hk:∀ k cs ty,W.heap.size≤k→w.heap[k]?=some (.cells cs ty)→(QaQ w m (.map (es.push ⟨.string (Qad Qcy),.func (.func 160) #[] #[.pointer (some ⟨b+1,0,none⟩)],c⟩) (c+1))).heap[k]?=some (.cells cs ty):=fun k cs ty _ h=>by
  rw [Qaq (fun e=>by rw [e,h5] at h;cases h)];exact h
 have hkb:(QaQ w m (.map (es.push ⟨.string (Qad Qcy),.func (.func 160) #[] #[.pointer (some ⟨b+1,0,none⟩)],c⟩) (c+1))).heap[b]?=some (Qcu t mv1 (if L 28 then u43 else Value.map none)):=by rw [Qaq (Ne.symm hmb)];exact J.rd
 refine ⟨m,es,c,h3,h5,h6,hn,?_⟩
 exact ⟨J.hb,Qbq J.mod h4,by rw [Qag L (by decide)];exact hkb,ui J.cm3,ui J.cm5,ui J.cm8,fun _=>Qan _ h1,ui J.cm12,ui J.cm14,ui J.cm16,ui J.cm18,ui J.cm21,ui J.cm24,ui J.cv3,ui J.cv5,fun h=>(J.a2 (ud h)).keep hk,fun h=>(J.a4 (ud h)).keep hk,fun _=>⟨m,_,_,h3,h4,Qa2 h5,h6.push hn hx hg⟩,fun h=>J.m25u (ud h),fun h=>J.m26 (ud h),fun h=>J.m27 (ud h),ui J.m28⟩
theorem JT.s12 (J:JT t b W mv1 L u29 u30 u31 u43 u44 u45 w) (h0:L 12=false) (h1:L 1=true):∃ m es c,u29=.map (some m)∧w.heap[m]?=some (.map es c)∧Qcn es (fT b L u30 u31)∧fT b L u30 u31 QcA=none∧JT t b W mv1 (up L 12) u29 u30 u31 u43 u44 u45 (QaQ w m (.map (es.push ⟨.string (Qad QcA),.func (.func 162) #[] #[.pointer (some ⟨b+1,0,none⟩)],c⟩) (c+1))):=by
 obtain ⟨m,es,c,h3,h4,h5,h6⟩:=J.mp h1
 have hn:fT b L u30 u31 QcA=none:=by unfold fT;rw [show whichL testNames QcA=5 from by decide];simp only [h0];rfl
 have hx:fT b (up L 12) u30 u31 QcA=some (.func (.func 162) #[] #[.pointer (some ⟨b+1,0,none⟩)]):=by unfold fT;rw [show whichL testNames QcA=5 from by decide];simp only [QbP];rfl
 have hg:∀ z,z≠QcA→fT b (up L 12) u30 u31 z=fT b L u30 u31 z:=fun z hz=>by
  have hw:whichL testNames z≠5:=fun e=>hz (by have:=QaG testNames z 4 e;simpa [testNames] using this.symm)
  unfold fT
  split <;> first | (rename_i e;exact absurd e hw) | simp only [Qag L (by decide)] | rfl
 have hmb:m≠b:=by have:=J.hb;omega
 have hk:∀ k cs ty,W.heap.size≤k→w.heap[k]?=some (.cells cs ty)→(QaQ w m (.map (es.push ⟨.string (Qad QcA),.func (.func 162) #[] #[.pointer (some ⟨b+1,0,none⟩)],c⟩) (c+1))).heap[k]?=some (.cells cs ty):=fun k cs ty _ h=>by
  rw [Qaq (fun e=>by rw [e,h5] at h;cases h)];exact h
 have hkb:(QaQ w m (.map (es.push ⟨.string (Qad QcA),.func (.func 162) #[] #[.pointer (some ⟨b+1,0,none⟩)],c⟩) (c+1))).heap[b]?=some (Qcu t mv1 (if L 28 then u43 else Value.map none)):=by rw [Qaq (Ne.symm hmb)];exact J.rd
 refine ⟨m,es,c,h3,h5,h6,hn,?_⟩
 exact ⟨J.hb,Qbq J.mod h4,by rw [Qag L (by decide)];exact hkb,ui J.cm3,ui J.cm5,ui J.cm8,ui J.cm10,fun _=>Qan _ h1,ui J.cm14,ui J.cm16,ui J.cm18,ui J.cm21,ui J.cm24,ui J.cv3,ui J.cv5,fun h=>(J.a2 (ud h)).keep hk,fun h=>(J.a4 (ud h)).keep hk,fun _=>⟨m,_,_,h3,h4,Qa2 h5,h6.push hn hx hg⟩,fun h=>J.m25u (ud h),fun h=>J.m26 (ud h),fun h=>J.m27 (ud h),ui J.m28⟩
theorem JT.s14 (J:JT t b W mv1 L u29 u30 u31 u43 u44 u45 w) (h0:L 14=false) (h1:L 1=true):∃ m es c,u29=.map (some m)∧w.heap[m]?=some (.map es c)∧Qcn es (fT b L u30 u31)∧fT b L u30 u31 QbT=none∧JT t b W mv1 (up L 14) u29 u30 u31 u43 u44 u45 (QaQ w m (.map (es.push ⟨.string (Qad QbT),.func (.func 163) #[] #[.pointer (some ⟨b+1,0,none⟩)],c⟩) (c+1))):=by
 obtain ⟨m,es,c,h3,h4,h5,h6⟩:=J.mp h1
 have hn:fT b L u30 u31 QbT=none:=by unfold fT;rw [show whichL testNames QbT=6 from by decide];simp only [h0];rfl
 have hx:fT b (up L 14) u30 u31 QbT=some (.func (.func 163) #[] #[.pointer (some ⟨b+1,0,none⟩)]):=by unfold fT;rw [show whichL testNames QbT=6 from by decide];simp only [QbP];rfl
 have hg:∀ z,z≠QbT→fT b (up L 14) u30 u31 z=fT b L u30 u31 z:=fun z hz=>by
  have hw:whichL testNames z≠6:=fun e=>hz (by have:=QaG testNames z 5 e;simpa [testNames] using this.symm)
  unfold fT
  split <;> first | (rename_i e;exact absurd e hw) | simp only [Qag L (by decide)] | rfl
 have hmb:m≠b:=by have:=J.hb;omega
 have hk:∀ k cs ty,W.heap.size≤k→w.heap[k]?=some (.cells cs ty)→(QaQ w m (.map (es.push ⟨.string (Qad QbT),.func (.func 163) #[] #[.pointer (some ⟨b+1,0,none⟩)],c⟩) (c+1))).heap[k]?=some (.cells cs ty):=fun k cs ty _ h=>by
  rw [Qaq (fun e=>by rw [e,h5] at h;cases h)];exact h
 have hkb:(QaQ w m (.map (es.push ⟨.string (Qad QbT),.func (.func 163) #[] #[.pointer (some ⟨b+1,0,none⟩)],c⟩) (c+1))).heap[b]?=some (Qcu t mv1 (if L 28 then u43 else Value.map none)):=by rw [Qaq (Ne.symm hmb)];exact J.rd
 refine ⟨m,es,c,h3,h5,h6,hn,?_⟩
 exact ⟨J.hb,Qbq J.mod h4,by rw [Qag L (by decide)];exact hkb,ui J.cm3,ui J.cm5,ui J.cm8,ui J.cm10,ui J.cm12,fun _=>Qan _ h1,ui J.cm16,ui J.cm18,ui J.cm21,ui J.cm24,ui J.cv3,ui J.cv5,fun h=>(J.a2 (ud h)).keep hk,fun h=>(J.a4 (ud h)).keep hk,fun _=>⟨m,_,_,h3,h4,Qa2 h5,h6.push hn hx hg⟩,fun h=>J.m25u (ud h),fun h=>J.m26 (ud h),fun h=>J.m27 (ud h),ui J.m28⟩
theorem JT.s16 (J:JT t b W mv1 L u29 u30 u31 u43 u44 u45 w) (h0:L 16=false) (h1:L 1=true):∃ m es c,u29=.map (some m)∧w.heap[m]?=some (.map es c)∧Qcn es (fT b L u30 u31)∧fT b L u30 u31 QaM=none∧JT t b W mv1 (up L 16) u29 u30 u31 u43 u44 u45 (QaQ w m (.map (es.push ⟨.string (Qad QaM),.func (.func 166) #[] #[.pointer (some ⟨b+1,0,none⟩)],c⟩) (c+1))):=by
 obtain ⟨m,es,c,h3,h4,h5,h6⟩:=J.mp h1
 have hn:fT b L u30 u31 QaM=none:=by unfold fT;rw [show whichL testNames QaM=7 from by decide];simp only [h0];rfl
 have hx:fT b (up L 16) u30 u31 QaM=some (.func (.func 166) #[] #[.pointer (some ⟨b+1,0,none⟩)]):=by unfold fT;rw [show whichL testNames QaM=7 from by decide];simp only [QbP];rfl
 have hg:∀ z,z≠QaM→fT b (up L 16) u30 u31 z=fT b L u30 u31 z:=fun z hz=>by
  have hw:whichL testNames z≠7:=fun e=>hz (by have:=QaG testNames z 6 e;simpa [testNames] using this.symm)
  unfold fT
  split <;> first | (rename_i e;exact absurd e hw) | simp only [Qag L (by decide)] | rfl
 have hmb:m≠b:=by have:=J.hb;omega
 have hk:∀ k cs ty,W.heap.size≤k→w.heap[k]?=some (.cells cs ty)→(QaQ w m (.map (es.push ⟨.string (Qad QaM),.func (.func 166) #[] #[.pointer (some ⟨b+1,0,none⟩)],c⟩) (c+1))).heap[k]?=some (.cells cs ty):=fun k cs ty _ h=>by
  rw [Qaq (fun e=>by rw [e,h5] at h;cases h)];exact h
 have hkb:(QaQ w m (.map (es.push ⟨.string (Qad QaM),.func (.func 166) #[] #[.pointer (some ⟨b+1,0,none⟩)],c⟩) (c+1))).heap[b]?=some (Qcu t mv1 (if L 28 then u43 else Value.map none)):=by rw [Qaq (Ne.symm hmb)];exact J.rd
 refine ⟨m,es,c,h3,h5,h6,hn,?_⟩
 exact ⟨J.hb,Qbq J.mod h4,by rw [Qag L (by decide)];exact hkb,ui J.cm3,ui J.cm5,ui J.cm8,ui J.cm10,ui J.cm12,ui J.cm14,fun _=>Qan _ h1,ui J.cm18,ui J.cm21,ui J.cm24,ui J.cv3,ui J.cv5,fun h=>(J.a2 (ud h)).keep hk,fun h=>(J.a4 (ud h)).keep hk,fun _=>⟨m,_,_,h3,h4,Qa2 h5,h6.push hn hx hg⟩,fun h=>J.m25u (ud h),fun h=>J.m26 (ud h),fun h=>J.m27 (ud h),ui J.m28⟩
theorem JT.s18 (J:JT t b W mv1 L u29 u30 u31 u43 u44 u45 w) (h0:L 18=false) (h1:L 1=true):∃ m es c,u29=.map (some m)∧w.heap[m]?=some (.map es c)∧Qcn es (fT b L u30 u31)∧fT b L u30 u31 Qby=none∧JT t b W mv1 (up L 18) u29 u30 u31 u43 u44 u45 (QaQ w m (.map (es.push ⟨.string (Qad Qby),.func (.func 169) #[] #[.pointer (some ⟨b+1,0,none⟩)],c⟩) (c+1))):=by
 obtain ⟨m,es,c,h3,h4,h5,h6⟩:=J.mp h1
 have hn:fT b L u30 u31 Qby=none:=by unfold fT;rw [show whichL testNames Qby=8 from by decide];simp only [h0];rfl
 have hx:fT b (up L 18) u30 u31 Qby=some (.func (.func 169) #[] #[.pointer (some ⟨b+1,0,none⟩)]):=by unfold fT;rw [show whichL testNames Qby=8 from by decide];simp only [QbP];rfl
 have hg:∀ z,z≠Qby→fT b (up L 18) u30 u31 z=fT b L u30 u31 z:=fun z hz=>by
  have hw:whichL testNames z≠8:=fun e=>hz (by have:=QaG testNames z 7 e;simpa [testNames] using this.symm)
  unfold fT
  split <;> first | (rename_i e;exact absurd e hw) | simp only [Qag L (by decide)] | rfl
 have hmb:m≠b:=by have:=J.hb;omega
 have hk:∀ k cs ty,W.heap.size≤k→w.heap[k]?=some (.cells cs ty)→(QaQ w m (.map (es.push ⟨.string (Qad Qby),.func (.func 169) #[] #[.pointer (some ⟨b+1,0,none⟩)],c⟩) (c+1))).heap[k]?=some (.cells cs ty):=fun k cs ty _ h=>by
  rw [Qaq (fun e=>by rw [e,h5] at h;cases h)];exact h
 have hkb:(QaQ w m (.map (es.push ⟨.string (Qad Qby),.func (.func 169) #[] #[.pointer (some ⟨b+1,0,none⟩)],c⟩) (c+1))).heap[b]?=some (Qcu t mv1 (if L 28 then u43 else Value.map none)):=by rw [Qaq (Ne.symm hmb)];exact J.rd
 refine ⟨m,es,c,h3,h5,h6,hn,?_⟩
 exact ⟨J.hb,Qbq J.mod h4,by rw [Qag L (by decide)];exact hkb,ui J.cm3,ui J.cm5,ui J.cm8,ui J.cm10,ui J.cm12,ui J.cm14,ui J.cm16,fun _=>Qan _ h1,ui J.cm21,ui J.cm24,ui J.cv3,ui J.cv5,fun h=>(J.a2 (ud h)).keep hk,fun h=>(J.a4 (ud h)).keep hk,fun _=>⟨m,_,_,h3,h4,Qa2 h5,h6.push hn hx hg⟩,fun h=>J.m25u (ud h),fun h=>J.m26 (ud h),fun h=>J.m27 (ud h),ui J.m28⟩
theorem JT.s21 (J:JT t b W mv1 L u29 u30 u31 u43 u44 u45 w) (h0:L 21=false) (h1:L 1=true):∃ m es c,u29=.map (some m)∧w.heap[m]?=some (.map es c)∧Qcn es (fT b L u30 u31)∧fT b L u30 u31 QbG=none∧JT t b W mv1 (up L 21) u29 u30 u31 u43 u44 u45 (QaQ w m (.map (es.push ⟨.string (Qad QbG),.func (.func 170) #[.pointer (some ⟨b,0,none⟩)] #[],c⟩) (c+1))):=by
 obtain ⟨m,es,c,h3,h4,h5,h6⟩:=J.mp h1
 have hn:fT b L u30 u31 QbG=none:=by unfold fT;rw [show whichL testNames QbG=9 from by decide];simp only [h0];rfl
 have hx:fT b (up L 21) u30 u31 QbG=some (.func (.func 170) #[.pointer (some ⟨b,0,none⟩)] #[]):=by unfold fT;rw [show whichL testNames QbG=9 from by decide];simp only [QbP];rfl
 have hg:∀ z,z≠QbG→fT b (up L 21) u30 u31 z=fT b L u30 u31 z:=fun z hz=>by
  have hw:whichL testNames z≠9:=fun e=>hz (by have:=QaG testNames z 8 e;simpa [testNames] using this.symm)
  unfold fT
  split <;> first | (rename_i e;exact absurd e hw) | simp only [Qag L (by decide)] | rfl
 have hmb:m≠b:=by have:=J.hb;omega
 have hk:∀ k cs ty,W.heap.size≤k→w.heap[k]?=some (.cells cs ty)→(QaQ w m (.map (es.push ⟨.string (Qad QbG),.func (.func 170) #[.pointer (some ⟨b,0,none⟩)] #[],c⟩) (c+1))).heap[k]?=some (.cells cs ty):=fun k cs ty _ h=>by
  rw [Qaq (fun e=>by rw [e,h5] at h;cases h)];exact h
 have hkb:(QaQ w m (.map (es.push ⟨.string (Qad QbG),.func (.func 170) #[.pointer (some ⟨b,0,none⟩)] #[],c⟩) (c+1))).heap[b]?=some (Qcu t mv1 (if L 28 then u43 else Value.map none)):=by rw [Qaq (Ne.symm hmb)];exact J.rd
 refine ⟨m,es,c,h3,h5,h6,hn,?_⟩
 exact ⟨J.hb,Qbq J.mod h4,by rw [Qag L (by decide)];exact hkb,ui J.cm3,ui J.cm5,ui J.cm8,ui J.cm10,ui J.cm12,ui J.cm14,ui J.cm16,ui J.cm18,fun _=>Qan _ h1,ui J.cm24,ui J.cv3,ui J.cv5,fun h=>(J.a2 (ud h)).keep hk,fun h=>(J.a4 (ud h)).keep hk,fun _=>⟨m,_,_,h3,h4,Qa2 h5,h6.push hn hx hg⟩,fun h=>J.m25u (ud h),fun h=>J.m26 (ud h),fun h=>J.m27 (ud h),ui J.m28⟩
theorem JT.s24 (J:JT t b W mv1 L u29 u30 u31 u43 u44 u45 w) (h0:L 24=false) (h1:L 1=true):∃ m es c,u29=.map (some m)∧w.heap[m]?=some (.map es c)∧Qcn es (fT b L u30 u31)∧fT b L u30 u31 QdC=none∧JT t b W mv1 (up L 24) u29 u30 u31 u43 u44 u45 (QaQ w m (.map (es.push ⟨.string (Qad QdC),.func (.func 171) #[.pointer (some ⟨b,0,none⟩)] #[],c⟩) (c+1))):=by
 obtain ⟨m,es,c,h3,h4,h5,h6⟩:=J.mp h1
 have hn:fT b L u30 u31 QdC=none:=by unfold fT;rw [show whichL testNames QdC=10 from by decide];simp only [h0];rfl
 have hx:fT b (up L 24) u30 u31 QdC=some (.func (.func 171) #[.pointer (some ⟨b,0,none⟩)] #[]):=by unfold fT;rw [show whichL testNames QdC=10 from by decide];simp only [QbP];rfl
 have hg:∀ z,z≠QdC→fT b (up L 24) u30 u31 z=fT b L u30 u31 z:=fun z hz=>by
  have hw:whichL testNames z≠10:=fun e=>hz (by have:=QaG testNames z 9 e;simpa [testNames] using this.symm)
  unfold fT
  split <;> first | (rename_i e;exact absurd e hw) | simp only [Qag L (by decide)] | rfl
 have hmb:m≠b:=by have:=J.hb;omega
 have hk:∀ k cs ty,W.heap.size≤k→w.heap[k]?=some (.cells cs ty)→(QaQ w m (.map (es.push ⟨.string (Qad QdC),.func (.func 171) #[.pointer (some ⟨b,0,none⟩)] #[],c⟩) (c+1))).heap[k]?=some (.cells cs ty):=fun k cs ty _ h=>by
  rw [Qaq (fun e=>by rw [e,h5] at h;cases h)];exact h
 have hkb:(QaQ w m (.map (es.push ⟨.string (Qad QdC),.func (.func 171) #[.pointer (some ⟨b,0,none⟩)] #[],c⟩) (c+1))).heap[b]?=some (Qcu t mv1 (if L 28 then u43 else Value.map none)):=by rw [Qaq (Ne.symm hmb)];exact J.rd
 refine ⟨m,es,c,h3,h5,h6,hn,?_⟩
 exact ⟨J.hb,Qbq J.mod h4,by rw [Qag L (by decide)];exact hkb,ui J.cm3,ui J.cm5,ui J.cm8,ui J.cm10,ui J.cm12,ui J.cm14,ui J.cm16,ui J.cm18,ui J.cm21,fun _=>Qan _ h1,ui J.cv3,ui J.cv5,fun h=>(J.a2 (ud h)).keep hk,fun h=>(J.a4 (ud h)).keep hk,fun _=>⟨m,_,_,h3,h4,Qa2 h5,h6.push hn hx hg⟩,fun h=>J.m25u (ud h),fun h=>J.m26 (ud h),fun h=>J.m27 (ud h),ui J.m28⟩
theorem JT.s25 (J:JT t b W mv1 L u29 u30 u31 u43 u44 u45 w) (h0:L 25=false) (h1:L 1=true) (hi3:L 3=true) (hi5:L 5=true) (hi8:L 8=true) (hi10:L 10=true) (hi12:L 12=true) (hi14:L 14=true) (hi16:L 16=true) (hi18:L 18=true) (hi21:L 21=true) (hi24:L 24=true):JT t b W mv1 (up L 25) u29 u30 u31 u29 u44 u45 w:=by
 have n28:L 28=false:=nf J.m28 h0
 have hk:∀ k cs ty,W.heap.size≤k→w.heap[k]?=some (.cells cs ty)→w.heap[k]?=some (.cells cs ty):=fun k cs ty _ h=>h
 have hkm:∀ (m:Nat) (es:Array MapEntry) (c:Nat),w.heap[m]?=some (Obj.map es c)→w.heap[m]?=some (Obj.map es c):=fun m es c h=>h
 exact ⟨J.hb,J.mod,by have:=J.rd;rw [n28] at this;rw [Qag L (by decide),n28];exact this,ui J.cm3,ui J.cm5,ui J.cm8,ui J.cm10,ui J.cm12,ui J.cm14,ui J.cm16,ui J.cm18,ui J.cm21,ui J.cm24,ui J.cv3,ui J.cv5,fun h=>(J.a2 (ud h)).keep hk,fun h=>(J.a4 (ud h)).keep hk,fun h=>by obtain ⟨m,es,c,h3,h4,h5,h6⟩:=J.mp (ud h);exact ⟨m,es,c,h3,h4,hkm m _ _ h5,h6.congr (fun x=>(QnJ 25 (by decide) x).symm)⟩,fun _=>⟨rfl,Qan _ h1,Qan _ hi3,Qan _ hi5,Qan _ hi8,Qan _ hi10,Qan _ hi12,Qan _ hi14,Qan _ hi16,Qan _ hi18,Qan _ hi21,Qan _ hi24⟩,fun h=>J.m26 (ud h),fun h=>J.m27 (ud h),ui J.m28⟩
theorem JT.s26 (J:JT t b W mv1 L u29 u30 u31 u43 u44 u45 w) (h0:L 26=false):JT t b W mv1 (up L 26) u29 u30 u31 u43 (.pointer (some ⟨b,0,none⟩)) u45 w:=by
 have hk:∀ k cs ty,W.heap.size≤k→w.heap[k]?=some (.cells cs ty)→w.heap[k]?=some (.cells cs ty):=fun k cs ty _ h=>h
 have hkm:∀ (m:Nat) (es:Array MapEntry) (c:Nat),w.heap[m]?=some (Obj.map es c)→w.heap[m]?=some (Obj.map es c):=fun m es c h=>h
 exact ⟨J.hb,J.mod,by rw [Qag L (by decide)];exact J.rd,ui J.cm3,ui J.cm5,ui J.cm8,ui J.cm10,ui J.cm12,ui J.cm14,ui J.cm16,ui J.cm18,ui J.cm21,ui J.cm24,ui J.cv3,ui J.cv5,fun h=>(J.a2 (ud h)).keep hk,fun h=>(J.a4 (ud h)).keep hk,fun h=>by obtain ⟨m,es,c,h3,h4,h5,h6⟩:=J.mp (ud h);exact ⟨m,es,c,h3,h4,hkm m _ _ h5,h6.congr (fun x=>(QnJ 26 (by decide) x).symm)⟩,fun h=>J.m25u (ud h),fun _=>rfl,fun h=>J.m27 (ud h),ui J.m28⟩
theorem JT.s27 (J:JT t b W mv1 L u29 u30 u31 u43 u44 u45 w) (h0:L 27=false):JT t b W mv1 (up L 27) u29 u30 u31 u43 u44 (.pointer (some ⟨b,9,none⟩)) w:=by
 have hk:∀ k cs ty,W.heap.size≤k→w.heap[k]?=some (.cells cs ty)→w.heap[k]?=some (.cells cs ty):=fun k cs ty _ h=>h
 have hkm:∀ (m:Nat) (es:Array MapEntry) (c:Nat),w.heap[m]?=some (Obj.map es c)→w.heap[m]?=some (Obj.map es c):=fun m es c h=>h
 exact ⟨J.hb,J.mod,by rw [Qag L (by decide)];exact J.rd,ui J.cm3,ui J.cm5,ui J.cm8,ui J.cm10,ui J.cm12,ui J.cm14,ui J.cm16,ui J.cm18,ui J.cm21,ui J.cm24,ui J.cv3,ui J.cv5,fun h=>(J.a2 (ud h)).keep hk,fun h=>(J.a4 (ud h)).keep hk,fun h=>by obtain ⟨m,es,c,h3,h4,h5,h6⟩:=J.mp (ud h);exact ⟨m,es,c,h3,h4,hkm m _ _ h5,h6.congr (fun x=>(QnJ 27 (by decide) x).symm)⟩,fun h=>J.m25u (ud h),fun h=>J.m26 (ud h),fun _=>rfl,ui J.m28⟩
theorem JT.s28 (J:JT t b W mv1 L u29 u30 u31 u43 u44 u45 w) (h0:L 28=false) (h25:L 25=true):JT t b W mv1 (up L 28) u29 u30 u31 u43 u44 u45 (w.setCell ⟨b,9,none⟩ u43):=by
 have hb:=J.hb
 have hk:∀ k cs ty,W.heap.size≤k→w.heap[k]?=some (.cells cs ty)→(w.setCell ⟨b,9,none⟩ u43).heap[k]?=some (.cells cs ty):=fun k cs ty hk h=>by rw [Below.heap_setCell _ _ _ _ (show k≠b by omega)];exact h
 have hkm:∀ (m:Nat) (es:Array MapEntry) (c:Nat),w.heap[m]?=some (Obj.map es c)→(w.setCell ⟨b,9,none⟩ u43).heap[m]?=some (Obj.map es c):=fun m es c h=>by
  have hr:=J.rd
  rw [Below.heap_setCell _ _ _ _ (show m≠b from fun e=>by rw [e,hr] at h;cases h)];exact h
 exact ⟨J.hb,J.mod.setCell 9 u43,by rw [QbP];exact Qah _ _ _ _ _ _ J.rd,ui J.cm3,ui J.cm5,ui J.cm8,ui J.cm10,ui J.cm12,ui J.cm14,ui J.cm16,ui J.cm18,ui J.cm21,ui J.cm24,ui J.cv3,ui J.cv5,fun h=>(J.a2 (ud h)).keep hk,fun h=>(J.a4 (ud h)).keep hk,fun h=>by obtain ⟨m,es,c,h3,h4,h5,h6⟩:=J.mp (ud h);exact ⟨m,es,c,h3,h4,hkm m _ _ h5,h6.congr (fun x=>(QnJ 28 (by decide) x).symm)⟩,fun h=>J.m25u (ud h),fun h=>J.m26 (ud h),fun h=>J.m27 (ud h),fun _=>Qan _ h25⟩
theorem JT.done (J:JT t b W mv1 L u29 u30 u31 u43 u44 u45 w) (hall:∀ i,i < 29→L i=true) (hpr:Qmt W (b+1) b):∃ m pt pf,w.heap[b]?=some (Qcu t mv1 (.map (some m)))∧Qn2 w b m (b+1) pt pf∧Mod b W w∧W.heap.size≤m:=by
 obtain ⟨m,es,c,h3,h4,h5,h6⟩:=J.mp (hall 1 (by decide))
 obtain ⟨pt,e1,hp1,hp1'⟩:=J.a2 (hall 2 (by decide))
 obtain ⟨pf,e2,hp2,hp2'⟩:=J.a4 (hall 4 (by decide))
 have hb:=J.hb
 have hr:=J.rd
 rw [hall 28 (by decide),if_pos rfl,(J.m25 (hall 25 (by decide))).1,h3] at hr
 have hf:Qcn es (testFn b (b+1) pt pf):=h6.congr (fun x=>by
  subst e1 e2
  unfold fT testFn
  simp only [hall 3 (by decide),hall 5 (by decide),hall 8 (by decide),hall 10 (by decide),hall 12 (by decide),hall 14 (by decide),hall 16 (by decide),hall 18 (by decide),hall 21 (by decide),hall 24 (by decide),if_true]
  generalize whichL testNames x=i
  match i with
  | 0 | 1 | 2 | 3 | 4 | 5 | 6 | 7 | 8 | 9 | 10=>rfl
  | n+11=>rfl)
 exact ⟨m,pt,pf,hr,⟨QmR (K:=9) (E:=263) Tryz.underlying258 Tryz.underlying9 QuE h5 hf,hpr.mod J.mod,Qaa hp1' 0,Qaa hp2' 0,by omega,by omega,by omega,QaH h5⟩,J.mod,h4⟩
end
end
section
open Go.RowKit
attribute [local go_sem ↓] Go.wp_at_zero Go.wp_at_succ
theorem QoB {l:Array Bool} {i:Nat} (h:i < l.size):(fun j=>(l.setIfInBounds i true).getD j false)=up (fun j=>l.getD j false) i:=by
 funext j
 unfold up
 by_cases e:j=i
 ·subst e;simp [h]
 ·rw [if_neg e];exact getD_set_ne false (Ne.symm e)
def tmC (t:ByteArray) (b:Nat) (u8 u16 u18 u20 u25 u26 u27:Value):Act:=
 { tmps:=#[.string t,undef,.pointer none,.pointer (some ⟨b+1,0,none⟩),.string t,.agg #[.string t,.int .i64 0,.int .i64 0,.string ⟨#[]⟩,.string ⟨#[]⟩,.int .i64 0,.int .i64 0,.slice none 0 0,.map none,.map none],(.pointer (some ⟨b,0,none⟩)),(.pointer (some ⟨b,0,none⟩)),u8,(.pointer (some ⟨b,0,none⟩)),(.func (.func 152) #[.pointer (some ⟨b,0,none⟩)] #[]),(.pointer (some ⟨b,0,none⟩)),(.func (.func 153) #[.pointer (some ⟨b,0,none⟩)] #[]),(.pointer (some ⟨b,0,none⟩)),(.func (.func 154) #[.pointer (some ⟨b,0,none⟩)] #[]),(.pointer (some ⟨b,0,none⟩)),u16,(.pointer (some ⟨b,0,none⟩)),u18,(.pointer (some ⟨b,0,none⟩)),u20,(.pointer (some ⟨b,0,none⟩)),(.func (.func 156) #[.pointer (some ⟨b,0,none⟩)] #[]),(.pointer (some ⟨b,0,none⟩)),(.func (.func 157) #[.pointer (some ⟨b,0,none⟩)] #[]),u25,u26,u27,undef,undef,undef,undef,undef,undef,undef,undef,undef,undef,undef,undef,undef,undef,undef,undef,undef,undef,undef],defers:=[] }
def JJC (t:ByteArray) (b:Nat) (W:World) (l:Array Bool) (a:Act) (w:World):Prop:=
 l.size=30∧(∀ i∈[0,2,3,5,6,8,9,11,14,17,20,21,23,24],l.getD i false=true)∧∃ u8 u16 u18 u20 u25 u26 u27,a=tmC t b u8 u16 u18 u20 u25 u26 u27∧JC t b W (.map none) (fun j=>l.getD j false) u8 u16 u18 u20 u25 u26 u27 w
theorem JJC.next {t:ByteArray} {b:Nat} {W:World} {l:Array Bool} {i:Nat} {u8 u16 u18 u20 u25 u26 u27:Value} {w:World} (hl:l.size=30) (ht:∀ i∈[0,2,3,5,6,8,9,11,14,17,20,21,23,24],l.getD i false=true) (hi:i < 30) (J:JC t b W (.map none) (up (fun j=>l.getD j false) i) u8 u16 u18 u20 u25 u26 u27 w):JJC t b W (l.setIfInBounds i true) (tmC t b u8 u16 u18 u20 u25 u26 u27) w:=
 ⟨by simp [hl],fun k hk=>getD_set_true (ht k hk),u8,u16,u18,u20,u25,u26,u27,rfl,by rw [QoB (by omega)];exact J⟩
def QtT (t:ByteArray) (w:World) (e:Ending) (w':World):Prop:=∃ mc mt pr pt pf p1 k1 p2 k2 p3 k3,e=.returned (.pointer (some ⟨w.heap.size,0,none⟩))∧RC w' w.heap.size t ps0 (.slice none 0 0) mc mt∧Qn2 w' w.heap.size mt pr pt pf∧Qqt w' w.heap.size mc p1 k1 p2 k2 p3 k3∧Below w.heap.size w w'
def tmT (t:ByteArray) (b:Nat) (u8 u16 u18 u20 u25 u26 u27 u29 u30 u31 u43 u44 u45:Value):Act:=
 { tmps:=#[.string t,undef,.pointer none,.pointer (some ⟨b+1,0,none⟩),.string t,.agg #[.string t,.int .i64 0,.int .i64 0,.string ⟨#[]⟩,.string ⟨#[]⟩,.int .i64 0,.int .i64 0,.slice none 0 0,.map none,.map none],(.pointer (some ⟨b,0,none⟩)),(.pointer (some ⟨b,0,none⟩)),u8,(.pointer (some ⟨b,0,none⟩)),(.func (.func 152) #[.pointer (some ⟨b,0,none⟩)] #[]),(.pointer (some ⟨b,0,none⟩)),(.func (.func 153) #[.pointer (some ⟨b,0,none⟩)] #[]),(.pointer (some ⟨b,0,none⟩)),(.func (.func 154) #[.pointer (some ⟨b,0,none⟩)] #[]),(.pointer (some ⟨b,0,none⟩)),u16,(.pointer (some ⟨b,0,none⟩)),u18,(.pointer (some ⟨b,0,none⟩)),u20,(.pointer (some ⟨b,0,none⟩)),(.func (.func 156) #[.pointer (some ⟨b,0,none⟩)] #[]),(.pointer (some ⟨b,0,none⟩)),(.func (.func 157) #[.pointer (some ⟨b,0,none⟩)] #[]),u25,u26,u27,(.pointer (some ⟨b,0,none⟩)),u29,u30,u31,(.pointer (some ⟨b,0,none⟩)),(.func (.func 159) #[.pointer (some ⟨b,0,none⟩)] #[]),(.func (.func 160) #[] #[.pointer (some ⟨b+1,0,none⟩)]),(.func (.func 162) #[] #[.pointer (some ⟨b+1,0,none⟩)]),(.func (.func 163) #[] #[.pointer (some ⟨b+1,0,none⟩)]),(.func (.func 166) #[] #[.pointer (some ⟨b+1,0,none⟩)]),(.func (.func 169) #[] #[.pointer (some ⟨b+1,0,none⟩)]),(.pointer (some ⟨b,0,none⟩)),(.func (.func 170) #[.pointer (some ⟨b,0,none⟩)] #[]),(.pointer (some ⟨b,0,none⟩)),(.func (.func 171) #[.pointer (some ⟨b,0,none⟩)] #[]),u43,u44,u45,undef],defers:=[] }
def JJT (t:ByteArray) (b:Nat) (W:World) (mv1:Value) (u8 u16 u18 u20 u25 u26 u27:Value) (l:Array Bool) (a:Act) (w:World):Prop:=
 l.size=29∧(∀ i∈[0,6,7,9,11,13,15,17,19,20,22,23],l.getD i false=true)∧∃ u29 u30 u31 u43 u44 u45,a=tmT t b u8 u16 u18 u20 u25 u26 u27 u29 u30 u31 u43 u44 u45∧JT t b W mv1 (fun j=>l.getD j false) u29 u30 u31 u43 u44 u45 w
theorem JJT.next {t:ByteArray} {b:Nat} {W:World} {mv1:Value} {l:Array Bool} {i:Nat} {u8 u16 u18 u20 u25 u26 u27 u29 u30 u31 u43 u44 u45:Value} {w:World} (hl:l.size=29) (ht:∀ i∈[0,6,7,9,11,13,15,17,19,20,22,23],l.getD i false=true) (hi:i < 29) (J:JT t b W mv1 (up (fun j=>l.getD j false) i) u29 u30 u31 u43 u44 u45 w):JJT t b W mv1 u8 u16 u18 u20 u25 u26 u27 (l.setIfInBounds i true) (tmT t b u8 u16 u18 u20 u25 u26 u27 u29 u30 u31 u43 u44 u45) w:=
 ⟨by simp [hl],fun k hk=>getD_set_true (ht k hk),u29,u30,u31,u43,u44,u45,rfl,by rw [QoB (by omega)];exact J⟩
theorem Qma {w w':World} {o o':Obj} (h:Mod w.heap.size ((w.alloc o).alloc o') w'):Below w.heap.size w w':=
 ⟨h.os,h.tape,h.output,by have:=h.size;simp at this;omega,fun k hk=>by
  rw [h.block k (by simp;omega) (by omega),Below.heap_alloc _ _ _ (by simp;omega),Below.heap_alloc _ _ _ hk]⟩
theorem Qkk (t:ByteArray) (w:World) (ht:t.size≤600) (hm1:∃ m,w.cell? ⟨1,0,none⟩=some (.int .i64 m)) :
 Calls Tryz.prog 104 #[.string t] w (QtT t w):=by
 have hmf:∀ (fn:Fn) (first cap:Array Value) (w:World),(Instr.makeFunc fn first cap).run Tryz.prog w=.ok (.func fn first cap) w:=fun _ _ _ _=>rfl
 go_enter Tryz.func104,Tryz.ntmps104
 go_wp2_with fail
 refine wp_region_held (S:=fun w'=>w'.cell? ⟨w.heap.size+1,0,none⟩=some (.pointer (some ⟨w.heap.size,0,none⟩))) (by kernel_rfl) ?_
 have hS:({ ((w.alloc (Qcu t (.map none) (.map none))).alloc (.cells #[.pointer (some ⟨w.heap.size,0,none⟩)] 182)) with drawn:=((w.alloc (Qcu t (.map none) (.map none))).alloc (.cells #[.pointer (some ⟨w.heap.size,0,none⟩)] 182)).drawn+1 }:World).cell? ⟨w.heap.size+1,0,none⟩=some (.pointer (some ⟨w.heap.size,0,none⟩)):=Qaa (QaD (by simp)) 0
 refine QaE 0 7 (.pointer (some ⟨w.heap.size,0,none⟩)) rfl hS (fun w' hSw=>by (try dsimp only at hSw);go_simp) ?_
 simp only [pt,List.set_cons_zero,List.set_cons_succ]
 refine QaE 2 9 (.pointer (some ⟨w.heap.size,0,none⟩)) rfl hS (fun w' hSw=>by (try dsimp only at hSw);go_simp) ?_
 simp only [pt,List.set_cons_zero,List.set_cons_succ]
 refine QaE 3 10 (.func (.func 152) #[.pointer (some ⟨w.heap.size,0,none⟩)] #[]) rfl hS (fun w' hSw=>by (try dsimp only at hSw);go_simp) ?_
 simp only [pt,List.set_cons_zero,List.set_cons_succ]
 refine QaE 5 11 (.pointer (some ⟨w.heap.size,0,none⟩)) rfl hS (fun w' hSw=>by (try dsimp only at hSw);go_simp) ?_
 simp only [pt,List.set_cons_zero,List.set_cons_succ]
 refine QaE 6 12 (.func (.func 153) #[.pointer (some ⟨w.heap.size,0,none⟩)] #[]) rfl hS (fun w' hSw=>by (try dsimp only at hSw);go_simp) ?_
 simp only [pt,List.set_cons_zero,List.set_cons_succ]
 refine QaE 8 13 (.pointer (some ⟨w.heap.size,0,none⟩)) rfl hS (fun w' hSw=>by (try dsimp only at hSw);go_simp) ?_
 simp only [pt,List.set_cons_zero,List.set_cons_succ]
 refine QaE 9 14 (.func (.func 154) #[.pointer (some ⟨w.heap.size,0,none⟩)] #[]) rfl hS (fun w' hSw=>by (try dsimp only at hSw);go_simp) ?_
 simp only [pt,List.set_cons_zero,List.set_cons_succ]
 refine QaE 11 15 (.pointer (some ⟨w.heap.size,0,none⟩)) rfl hS (fun w' hSw=>by (try dsimp only at hSw);go_simp) ?_
 simp only [pt,List.set_cons_zero,List.set_cons_succ]
 refine QaE 14 17 (.pointer (some ⟨w.heap.size,0,none⟩)) rfl hS (fun w' hSw=>by (try dsimp only at hSw);go_simp) ?_
 simp only [pt,List.set_cons_zero,List.set_cons_succ]
 refine QaE 17 19 (.pointer (some ⟨w.heap.size,0,none⟩)) rfl hS (fun w' hSw=>by (try dsimp only at hSw);go_simp) ?_
 simp only [pt,List.set_cons_zero,List.set_cons_succ]
 refine QaE 20 21 (.pointer (some ⟨w.heap.size,0,none⟩)) rfl hS (fun w' hSw=>by (try dsimp only at hSw);go_simp) ?_
 simp only [pt,List.set_cons_zero,List.set_cons_succ]
 refine QaE 21 22 (.func (.func 156) #[.pointer (some ⟨w.heap.size,0,none⟩)] #[]) rfl hS (fun w' hSw=>by (try dsimp only at hSw);go_simp) ?_
 simp only [pt,List.set_cons_zero,List.set_cons_succ]
 refine QaE 23 23 (.pointer (some ⟨w.heap.size,0,none⟩)) rfl hS (fun w' hSw=>by (try dsimp only at hSw);go_simp) ?_
 simp only [pt,List.set_cons_zero,List.set_cons_succ]
 refine QaE 24 24 (.func (.func 157) #[.pointer (some ⟨w.heap.size,0,none⟩)] #[]) rfl hS (fun w' hSw=>by (try dsimp only at hSw);go_simp) ?_
 simp only [pt,List.set_cons_zero,List.set_cons_succ]
 refine Qfx (JJC t w.heap.size ((w.alloc (Qcu t (.map none) (.map none))).alloc (.cells #[.pointer (some ⟨w.heap.size,0,none⟩)] 182))) (fun l a w' h=>by rw [h.1];rfl) (fun l a w' h=>?hSS) (fun l a w' i h hi=>?hstep) (fun l a w' h hr=>?hdone) _ _ _ _ (by decide) ?hinit
 case hSS=>
  obtain ⟨_,_,_,_,_,_,_,_,_,_,J⟩:=h
  exact QbX (Qaa (QaD (by simp)) 0) J.mod (by omega)
 case hinit=>
  refine ⟨rfl,by decide,undef,undef,undef,undef,undef,undef,undef,rfl,?_⟩
  exact ⟨by simp;omega,(Mod.refl _ _).drew,Qac (Qay _ _),fun h=>absurd h (by decide),fun h=>absurd h (by decide),fun h=>absurd h (by decide),fun h=>absurd h (by decide),fun h=>absurd h (by decide),fun h=>absurd h (by decide),fun h=>absurd h (by decide),fun h=>absurd h (by decide),fun h=>absurd h (by decide),fun h=>absurd h (by decide),fun h=>absurd h (by decide),fun h=>absurd h (by decide),fun h=>absurd h (by decide),fun h=>absurd h (by decide),fun h=>absurd h (by decide),fun h=>absurd h (by decide),fun h=>absurd h (by decide),fun h=>absurd h (by decide),fun h=>absurd h (by decide)⟩
 case hdone=>
  obtain ⟨hl,htk,u8,u16,u18,u20,u25,u26,u27,rfl,J⟩:=h
  have hal:=Qel hl (by kernel_rfl) hr
  obtain ⟨m,p1,k1,p2,k2,p3,k3,hrd,hcm,hmod,hWm⟩:=J.done hal
  clear J hal hr htk hl hS
  unfold tmC
  go_wp2_with fail
  have hpr:Qmt w' (w.heap.size+1) w.heap.size:=⟨QbX (Qaa (QaD (by simp)) 0) hmod (by omega),by omega⟩
  have hbW:=QaH hrd
  have HRD:=Qab hrd
  have HCM:=Qab hcm
  have HMOD:=Qab hmod
  have HPR:=Qab hpr
  clear hrd hcm hmod hpr
  refine wp_region_held (S:=fun w2=>w2.cell? ⟨w.heap.size+1,0,none⟩=some (.pointer (some ⟨w.heap.size,0,none⟩))) (by kernel_rfl) ?_
  have hS:({ w' with drawn:=w'.drawn+1 }:World).cell? ⟨w.heap.size+1,0,none⟩=some (.pointer (some ⟨w.heap.size,0,none⟩)):=HPR.out.1
  refine QaE 0 28 (.pointer (some ⟨w.heap.size,0,none⟩)) rfl hS (fun w' hSw=>by (try dsimp only at hSw);go_simp) ?_
  simp only [pt,List.set_cons_zero,List.set_cons_succ]
  refine QaE 6 32 (.pointer (some ⟨w.heap.size,0,none⟩)) rfl hS (fun w' hSw=>by (try dsimp only at hSw);go_simp) ?_
  simp only [pt,List.set_cons_zero,List.set_cons_succ]
  refine QaE 7 33 (.func (.func 159) #[.pointer (some ⟨w.heap.size,0,none⟩)] #[]) rfl hS (fun w' hSw=>by (try dsimp only at hSw);go_simp) ?_
  simp only [pt,List.set_cons_zero,List.set_cons_succ]
  refine QaE 9 34 (.func (.func 160) #[] #[.pointer (some ⟨w.heap.size+1,0,none⟩)]) rfl hS (fun w' hSw=>by (try dsimp only at hSw);go_simp) ?_
  simp only [pt,List.set_cons_zero,List.set_cons_succ]
  refine QaE 11 35 (.func (.func 162) #[] #[.pointer (some ⟨w.heap.size+1,0,none⟩)]) rfl hS (fun w' hSw=>by (try dsimp only at hSw);go_simp) ?_
  simp only [pt,List.set_cons_zero,List.set_cons_succ]
  refine QaE 13 36 (.func (.func 163) #[] #[.pointer (some ⟨w.heap.size+1,0,none⟩)]) rfl hS (fun w' hSw=>by (try dsimp only at hSw);go_simp) ?_
  simp only [pt,List.set_cons_zero,List.set_cons_succ]
  refine QaE 15 37 (.func (.func 166) #[] #[.pointer (some ⟨w.heap.size+1,0,none⟩)]) rfl hS (fun w' hSw=>by (try dsimp only at hSw);go_simp) ?_
  simp only [pt,List.set_cons_zero,List.set_cons_succ]
  refine QaE 17 38 (.func (.func 169) #[] #[.pointer (some ⟨w.heap.size+1,0,none⟩)]) rfl hS (fun w' hSw=>by (try dsimp only at hSw);go_simp) ?_
  simp only [pt,List.set_cons_zero,List.set_cons_succ]
  refine QaE 19 39 (.pointer (some ⟨w.heap.size,0,none⟩)) rfl hS (fun w' hSw=>by (try dsimp only at hSw);go_simp) ?_
  simp only [pt,List.set_cons_zero,List.set_cons_succ]
  refine QaE 20 40 (.func (.func 170) #[.pointer (some ⟨w.heap.size,0,none⟩)] #[]) rfl hS (fun w' hSw=>by (try dsimp only at hSw);go_simp) ?_
  simp only [pt,List.set_cons_zero,List.set_cons_succ]
  refine QaE 22 41 (.pointer (some ⟨w.heap.size,0,none⟩)) rfl hS (fun w' hSw=>by (try dsimp only at hSw);go_simp) ?_
  simp only [pt,List.set_cons_zero,List.set_cons_succ]
  refine QaE 23 42 (.func (.func 171) #[.pointer (some ⟨w.heap.size,0,none⟩)] #[]) rfl hS (fun w' hSw=>by (try dsimp only at hSw);go_simp) ?_
  simp only [pt,List.set_cons_zero,List.set_cons_succ]
  refine Qfx (JJT t w.heap.size w' (.map (some m)) u8 u16 u18 u20 u25 u26 u27) (fun l a w' h=>by rw [h.1];rfl) (fun l a w' h=>?hSS2) (fun l a w2 i h hi=>?hstep2) (fun l a w2 h hr=>?hdone2) _ _ _ _ (by decide) ?hinit2
  case hSS2=>
   obtain ⟨_,_,_,_,_,_,_,_,_,J⟩:=h
   exact QbX HPR.out.1 J.mod (by omega)
  case hinit2=>
   refine ⟨rfl,by decide,undef,undef,undef,undef,undef,undef,rfl,?_⟩
   exact ⟨hbW,(Mod.refl _ _).drew,HRD.out,fun h=>absurd h (by decide),fun h=>absurd h (by decide),fun h=>absurd h (by decide),fun h=>absurd h (by decide),fun h=>absurd h (by decide),fun h=>absurd h (by decide),fun h=>absurd h (by decide),fun h=>absurd h (by decide),fun h=>absurd h (by decide),fun h=>absurd h (by decide),fun h=>absurd h (by decide),fun h=>absurd h (by decide),fun h=>absurd h (by decide),fun h=>absurd h (by decide),fun h=>absurd h (by decide),fun h=>absurd h (by decide),fun h=>absurd h (by decide),fun h=>absurd h (by decide),fun h=>absurd h (by decide)⟩
  case hdone2=>
   obtain ⟨hl,htk,u29,u30,u31,u43,u44,u45,rfl,J⟩:=h
   have hal:=Qel hl (by kernel_rfl) hr
   obtain ⟨mt,pt,pf,hrd,htm,hmod,_⟩:=J.done hal HPR.out
   have hc0:=(HPR.out.mod hmod).1
   have HFIN:Hid (QtT t w (.returned (.pointer (some ⟨w.heap.size,0,none⟩))) w2):=by
    have hbl:=Qma (HMOD.out.trans hmod)
    obtain ⟨mm,hmm⟩:=hm1
    have h1lt:=Qax hmm
    exact ⟨m,mt,w.heap.size+1,pt,pf,p1,k1,p2,k2,p3,k3,rfl,⟨hrd,Nat.zero_le _,⟨mm,by rw [hbl.cell (p:=⟨1,0,none⟩) h1lt];exact hmm⟩,h1lt,ht,⟨Nat.zero_le _,by decide⟩,fun _=>rfl,fun _ c r e=>by cases e⟩,htm,HCM.out.mod hmod,hbl⟩
   clear J hal hr htk hl hS hrd htm hmod
   unfold tmT
   go_wp2
   go_ret
   exact HFIN.out
  case hstep2=>
   obtain ⟨hl,htk,u29,u30,u31,u43,u44,u45,rfl,J⟩:=h
   obtain ⟨h0,o,ho,hall⟩:=mem_ready.1 hi
   have hi30:i < 29:=(Array.getElem?_eq_some_iff.1 ho).1
   have h0':l.getD i false=false:=by
    have:i < l.size:=by omega
    simp [this] at h0 ⊢
    exact h0
   clear h0
   rcases (by omega:i=0∨i=1∨i=2∨i=3∨i=4∨i=5∨i=6∨i=7∨i=8∨i=9∨i=10∨i=11∨i=12∨i=13∨i=14∨i=15∨i=16∨i=17∨i=18∨i=19∨i=20∨i=21∨i=22∨i=23∨i=24∨i=25∨i=26∨i=27∨i=28) with hh | hh | hh | hh | hh | hh | hh | hh | hh | hh | hh | hh | hh | hh | hh | hh | hh | hh | hh | hh | hh | hh | hh | hh | hh | hh | hh | hh | hh <;> subst hh
   ·rw [htk 0 (by decide)] at h0';cases h0'
   ·clear ho hall hi
    refine QaO rfl (by rfl) ?_
    unfold tmT
    go_simp
    exact JJT.next hl htk (by decide) (J.s1 h0')
   ·clear ho hall hi
    refine QaO rfl (by rfl) ?_
    unfold tmT
    go_simp
    refine (Ql6 true _).mono ?_
    rintro e w3 ⟨rfl,rfl⟩
    exact JJT.next hl htk (by decide) (J.s2 h0')
   ·have ho2:=Option.some.inj (show some _=some o from ho)
    subst ho2
    have h1:=hall { on:=1,ground:=.data } (by simp) rfl
    have h2:=hall { on:=2,ground:=.data } (by simp) rfl
    clear ho hall hi
    obtain ⟨m2,es,c,rfl,hm,hf,hn,J'⟩:=J.s3 h0' h1 h2
    have hrun:(Instr.mapUpdate 258 (.map (some m2)) (.string ⟨#[116,114,117,101]⟩) (u30)).run Tryz.prog w2=.ok () _:=QaR Tryz.underlying258 Tryz.underlying9 hm hf hn _
    refine QaO rfl (by rfl) ?_
    unfold tmT
    go_simp
    exact JJT.next hl htk (by decide) J'
   ·clear ho hall hi
    refine QaO rfl (by rfl) ?_
    unfold tmT
    go_simp
    refine (Ql6 false _).mono ?_
    rintro e w3 ⟨rfl,rfl⟩
    exact JJT.next hl htk (by decide) (J.s4 h0')
   ·have ho2:=Option.some.inj (show some _=some o from ho)
    subst ho2
    have h1:=hall { on:=1,ground:=.data } (by simp) rfl
    have h2:=hall { on:=4,ground:=.data } (by simp) rfl
    clear ho hall hi
    obtain ⟨m2,es,c,rfl,hm,hf,hn,J'⟩:=J.s5 h0' h1 h2
    have hrun:(Instr.mapUpdate 258 (.map (some m2)) (.string ⟨#[102,97,108,115,101]⟩) (u31)).run Tryz.prog w2=.ok () _:=QaR Tryz.underlying258 Tryz.underlying9 hm hf hn _
    refine QaO rfl (by rfl) ?_
    unfold tmT
    go_simp
    exact JJT.next hl htk (by decide) J'
   ·rw [htk 6 (by decide)] at h0';cases h0'
   ·rw [htk 7 (by decide)] at h0';cases h0'
   ·have ho2:=Option.some.inj (show some _=some o from ho)
    subst ho2
    have h1:=hall { on:=1,ground:=.data } (by simp) rfl
    clear ho hall hi
    obtain ⟨m2,es,c,rfl,hm,hf,hn,J'⟩:=J.s8 h0' h1
    have hrun:(Instr.mapUpdate 258 (.map (some m2)) (.string ⟨#[110,111,116]⟩) (.func (.func 159) #[.pointer (some ⟨w.heap.size,0,none⟩)] #[])).run Tryz.prog w2=.ok () _:=QaR Tryz.underlying258 Tryz.underlying9 hm hf hn _
    refine QaO rfl (by rfl) ?_
    unfold tmT
    go_simp
    exact JJT.next hl htk (by decide) J'
   ·rw [htk 9 (by decide)] at h0';cases h0'
   ·have ho2:=Option.some.inj (show some _=some o from ho)
    subst ho2
    have h1:=hall { on:=1,ground:=.data } (by simp) rfl
    clear ho hall hi
    obtain ⟨m2,es,c,rfl,hm,hf,hn,J'⟩:=J.s10 h0' h1
    have hrun:(Instr.mapUpdate 258 (.map (some m2)) (.string ⟨#[97,108,108,111,102]⟩) (.func (.func 160) #[] #[.pointer (some ⟨w.heap.size+1,0,none⟩)])).run Tryz.prog w2=.ok () _:=QaR Tryz.underlying258 Tryz.underlying9 hm hf hn _
    refine QaO rfl (by rfl) ?_
    unfold tmT
    go_simp
    exact JJT.next hl htk (by decide) J'
   ·rw [htk 11 (by decide)] at h0';cases h0'
   ·have ho2:=Option.some.inj (show some _=some o from ho)
    subst ho2
    have h1:=hall { on:=1,ground:=.data } (by simp) rfl
    clear ho hall hi
    obtain ⟨m2,es,c,rfl,hm,hf,hn,J'⟩:=J.s12 h0' h1
    have hrun:(Instr.mapUpdate 258 (.map (some m2)) (.string ⟨#[97,110,121,111,102]⟩) (.func (.func 162) #[] #[.pointer (some ⟨w.heap.size+1,0,none⟩)])).run Tryz.prog w2=.ok () _:=QaR Tryz.underlying258 Tryz.underlying9 hm hf hn _
    refine QaO rfl (by rfl) ?_
    unfold tmT
    go_simp
    exact JJT.next hl htk (by decide) J'
   ·rw [htk 13 (by decide)] at h0';cases h0'
   ·have ho2:=Option.some.inj (show some _=some o from ho)
    subst ho2
    have h1:=hall { on:=1,ground:=.data } (by simp) rfl
    clear ho hall hi
    obtain ⟨m2,es,c,rfl,hm,hf,hn,J'⟩:=J.s14 h0' h1
    have hrun:(Instr.mapUpdate 258 (.map (some m2)) (.string ⟨#[104,101,97,100,101,114]⟩) (.func (.func 163) #[] #[.pointer (some ⟨w.heap.size+1,0,none⟩)])).run Tryz.prog w2=.ok () _:=QaR Tryz.underlying258 Tryz.underlying9 hm hf hn _
    refine QaO rfl (by rfl) ?_
    unfold tmT
    go_simp
    exact JJT.next hl htk (by decide) J'
   ·rw [htk 15 (by decide)] at h0';cases h0'
   ·have ho2:=Option.some.inj (show some _=some o from ho)
    subst ho2
    have h1:=hall { on:=1,ground:=.data } (by simp) rfl
    clear ho hall hi
    obtain ⟨m2,es,c,rfl,hm,hf,hn,J'⟩:=J.s16 h0' h1
    have hrun:(Instr.mapUpdate 258 (.map (some m2)) (.string ⟨#[101,110,118,101,108,111,112,101]⟩) (.func (.func 166) #[] #[.pointer (some ⟨w.heap.size+1,0,none⟩)])).run Tryz.prog w2=.ok () _:=QaR Tryz.underlying258 Tryz.underlying9 hm hf hn _
    refine QaO rfl (by rfl) ?_
    unfold tmT
    go_simp
    exact JJT.next hl htk (by decide) J'
   ·rw [htk 17 (by decide)] at h0';cases h0'
   ·have ho2:=Option.some.inj (show some _=some o from ho)
    subst ho2
    have h1:=hall { on:=1,ground:=.data } (by simp) rfl
    clear ho hall hi
    obtain ⟨m2,es,c,rfl,hm,hf,hn,J'⟩:=J.s18 h0' h1
    have hrun:(Instr.mapUpdate 258 (.map (some m2)) (.string ⟨#[115,116,114,105,110,103]⟩) (.func (.func 169) #[] #[.pointer (some ⟨w.heap.size+1,0,none⟩)])).run Tryz.prog w2=.ok () _:=QaR Tryz.underlying258 Tryz.underlying9 hm hf hn _
    refine QaO rfl (by rfl) ?_
    unfold tmT
    go_simp
    exact JJT.next hl htk (by decide) J'
   ·rw [htk 19 (by decide)] at h0';cases h0'
   ·rw [htk 20 (by decide)] at h0';cases h0'
   ·have ho2:=Option.some.inj (show some _=some o from ho)
    subst ho2
    have h1:=hall { on:=1,ground:=.data } (by simp) rfl
    clear ho hall hi
    obtain ⟨m2,es,c,rfl,hm,hf,hn,J'⟩:=J.s21 h0' h1
    have hrun:(Instr.mapUpdate 258 (.map (some m2)) (.string ⟨#[101,120,105,115,116,115]⟩) (.func (.func 170) #[.pointer (some ⟨w.heap.size,0,none⟩)] #[])).run Tryz.prog w2=.ok () _:=QaR Tryz.underlying258 Tryz.underlying9 hm hf hn _
    refine QaO rfl (by rfl) ?_
    unfold tmT
    go_simp
    exact JJT.next hl htk (by decide) J'
   ·rw [htk 22 (by decide)] at h0';cases h0'
   ·rw [htk 23 (by decide)] at h0';cases h0'
   ·have ho2:=Option.some.inj (show some _=some o from ho)
    subst ho2
    have h1:=hall { on:=1,ground:=.data } (by simp) rfl
    clear ho hall hi
    obtain ⟨m2,es,c,rfl,hm,hf,hn,J'⟩:=J.s24 h0' h1
    have hrun:(Instr.mapUpdate 258 (.map (some m2)) (.string ⟨#[115,105,122,101]⟩) (.func (.func 171) #[.pointer (some ⟨w.heap.size,0,none⟩)] #[])).run Tryz.prog w2=.ok () _:=QaR Tryz.underlying258 Tryz.underlying9 hm hf hn _
    refine QaO rfl (by rfl) ?_
    unfold tmT
    go_simp
    exact JJT.next hl htk (by decide) J'
   ·have ho2:=Option.some.inj (show some _=some o from ho)
    subst ho2
    have h1:=hall { on:=1,ground:=.data } (by simp) rfl
    have hi3:=hall { on:=3,ground:=.data } (by simp) rfl
    have hi5:=hall { on:=5,ground:=.data } (by simp) rfl
    have hi8:=hall { on:=8,ground:=.data } (by simp) rfl
    have hi10:=hall { on:=10,ground:=.data } (by simp) rfl
    have hi12:=hall { on:=12,ground:=.data } (by simp) rfl
    have hi14:=hall { on:=14,ground:=.data } (by simp) rfl
    have hi16:=hall { on:=16,ground:=.data } (by simp) rfl
    have hi18:=hall { on:=18,ground:=.data } (by simp) rfl
    have hi21:=hall { on:=21,ground:=.data } (by simp) rfl
    have hi24:=hall { on:=24,ground:=.data } (by simp) rfl
    clear ho hall hi
    refine QaO rfl (by rfl) ?_
    unfold tmT
    go_simp
    exact JJT.next hl htk (by decide) (J.s25 h0' h1 hi3 hi5 hi8 hi10 hi12 hi14 hi16 hi18 hi21 hi24)
   ·clear ho hall hi
    refine QaO rfl (by rfl) ?_
    unfold tmT
    go_simp
    exact JJT.next hl htk (by decide) (J.s26 h0')
   ·have ho2:=Option.some.inj (show some _=some o from ho)
    subst ho2
    have h1:=hall { on:=26,ground:=.data } (by simp) rfl
    obtain rfl:=J.m26 h1
    clear ho hall hi
    refine QaO rfl (by rfl) ?_
    unfold tmT
    go_simp
    exact JJT.next hl htk (by decide) (J.s27 h0')
   ·have ho2:=Option.some.inj (show some _=some o from ho)
    subst ho2
    have h27:=hall { on:=27,ground:=.data } (by simp) rfl
    have h25:=hall { on:=25,ground:=.data } (by simp) rfl
    obtain rfl:=J.m27 h27
    obtain ⟨rfl,h1,_⟩:=J.m25 h25
    obtain ⟨m2,es,c,rfl,_,_,_⟩:=J.mp h1
    clear ho hall hi
    have hr:=J.rd
    unfold Qcu at hr
    have hc9:w2.cell? ⟨w.heap.size,9,none⟩=some _:=Qaa hr 9
    rw [show (l.getD 28 false)=false from h0'] at hc9
    have hfz:=Qap hr
    refine QaO rfl (by rfl) ?_
    unfold tmT
    go_simp
    exact JJT.next hl htk (by decide) (J.s28 h0' h25)
 case hstep=>
  obtain ⟨hl,htk,u8,u16,u18,u20,u25,u26,u27,rfl,J⟩:=h
  obtain ⟨h0,o,ho,hall⟩:=mem_ready.1 hi
  have hi30:i < 30:=(Array.getElem?_eq_some_iff.1 ho).1
  have h0':l.getD i false=false:=by
   have:i < l.size:=by omega
   simp [this] at h0 ⊢
   exact h0
  clear h0
  rcases (by omega:i=0∨i=1∨i=2∨i=3∨i=4∨i=5∨i=6∨i=7∨i=8∨i=9∨i=10∨i=11∨i=12∨i=13∨i=14∨i=15∨i=16∨i=17∨i=18∨i=19∨i=20∨i=21∨i=22∨i=23∨i=24∨i=25∨i=26∨i=27∨i=28∨i=29) with hh | hh | hh | hh | hh | hh | hh | hh | hh | hh | hh | hh | hh | hh | hh | hh | hh | hh | hh | hh | hh | hh | hh | hh | hh | hh | hh | hh | hh | hh <;> subst hh
  ·rw [htk 0 (by decide)] at h0';cases h0'
  ·clear ho hall hi
   refine QaO rfl (by rfl) ?_
   unfold tmC
   go_simp
   exact JJC.next hl htk (by decide) (J.s1 h0')
  ·rw [htk 2 (by decide)] at h0';cases h0'
  ·rw [htk 3 (by decide)] at h0';cases h0'
  ·have ho2:=Option.some.inj (show some _=some o from ho)
   subst ho2
   have h1:=hall { on:=1,ground:=.data } (by simp) rfl
   clear ho hall hi
   obtain ⟨m,es,c,rfl,hm,hf,hn,J'⟩:=J.s4 h0' h1
   have hrun:(Instr.mapUpdate 257 (.map (some m)) (.string ⟨#[107,101,101,112]⟩) (.func (.func 152) #[.pointer (some ⟨w.heap.size,0,none⟩)] #[])).run Tryz.prog w'=.ok () _:=QaR Tryz.underlying257 Tryz.underlying9 hm hf hn _
   refine QaO rfl (by rfl) ?_
   unfold tmC
   go_simp
   exact JJC.next hl htk (by decide) J'
  ·rw [htk 5 (by decide)] at h0';cases h0'
  ·rw [htk 6 (by decide)] at h0';cases h0'
  ·have ho2:=Option.some.inj (show some _=some o from ho)
   subst ho2
   have h1:=hall { on:=1,ground:=.data } (by simp) rfl
   clear ho hall hi
   obtain ⟨m,es,c,rfl,hm,hf,hn,J'⟩:=J.s7 h0' h1
   have hrun:(Instr.mapUpdate 257 (.map (some m)) (.string ⟨#[100,105,115,99,97,114,100]⟩) (.func (.func 153) #[.pointer (some ⟨w.heap.size,0,none⟩)] #[])).run Tryz.prog w'=.ok () _:=QaR Tryz.underlying257 Tryz.underlying9 hm hf hn _
   refine QaO rfl (by rfl) ?_
   unfold tmC
   go_simp
   exact JJC.next hl htk (by decide) J'
  ·rw [htk 8 (by decide)] at h0';cases h0'
  ·rw [htk 9 (by decide)] at h0';cases h0'
  ·have ho2:=Option.some.inj (show some _=some o from ho)
   subst ho2
   have h1:=hall { on:=1,ground:=.data } (by simp) rfl
   clear ho hall hi
   obtain ⟨m,es,c,rfl,hm,hf,hn,J'⟩:=J.s10 h0' h1
   have hrun:(Instr.mapUpdate 257 (.map (some m)) (.string ⟨#[115,116,111,112]⟩) (.func (.func 154) #[.pointer (some ⟨w.heap.size,0,none⟩)] #[])).run Tryz.prog w'=.ok () _:=QaR Tryz.underlying257 Tryz.underlying9 hm hf hn _
   refine QaO rfl (by rfl) ?_
   unfold tmC
   go_simp
   exact JJC.next hl htk (by decide) J'
  ·rw [htk 11 (by decide)] at h0';cases h0'
  ·clear ho hall hi
   refine QaO rfl (by rfl) ?_
   unfold tmC
   go_simp
   refine (QnI _ w.heap.size 2 _ rfl).mono ?_
   rintro e w2 ⟨rfl,rfl⟩
   exact JJC.next hl htk (by decide) (J.s12 h0')
  ·have ho2:=Option.some.inj (show some _=some o from ho)
   subst ho2
   have h1:=hall { on:=1,ground:=.data } (by simp) rfl
   have h2:=hall { on:=12,ground:=.data } (by simp) rfl
   clear ho hall hi
   obtain ⟨m,es,c,rfl,hm,hf,hn,J'⟩:=J.s13 h0' h1 h2
   have hrun:(Instr.mapUpdate 257 (.map (some m)) (.string ⟨#[102,105,108,101,105,110,116,111]⟩) (u16)).run Tryz.prog w'=.ok () _:=QaR Tryz.underlying257 Tryz.underlying9 hm hf hn _
   refine QaO rfl (by rfl) ?_
   unfold tmC
   go_simp
   exact JJC.next hl htk (by decide) J'
  ·rw [htk 14 (by decide)] at h0';cases h0'
  ·clear ho hall hi
   refine QaO rfl (by rfl) ?_
   unfold tmC
   go_simp
   refine (QnI _ w.heap.size 3 _ rfl).mono ?_
   rintro e w2 ⟨rfl,rfl⟩
   exact JJC.next hl htk (by decide) (J.s15 h0')
  ·have ho2:=Option.some.inj (show some _=some o from ho)
   subst ho2
   have h1:=hall { on:=1,ground:=.data } (by simp) rfl
   have h2:=hall { on:=15,ground:=.data } (by simp) rfl
   clear ho hall hi
   obtain ⟨m,es,c,rfl,hm,hf,hn,J'⟩:=J.s16 h0' h1 h2
   have hrun:(Instr.mapUpdate 257 (.map (some m)) (.string ⟨#[114,101,100,105,114,101,99,116]⟩) (u18)).run Tryz.prog w'=.ok () _:=QaR Tryz.underlying257 Tryz.underlying9 hm hf hn _
   refine QaO rfl (by rfl) ?_
   unfold tmC
   go_simp
   exact JJC.next hl htk (by decide) J'
  ·rw [htk 17 (by decide)] at h0';cases h0'
  ·clear ho hall hi
   refine QaO rfl (by rfl) ?_
   unfold tmC
   go_simp
   refine (QnI _ w.heap.size 4 _ rfl).mono ?_
   rintro e w2 ⟨rfl,rfl⟩
   exact JJC.next hl htk (by decide) (J.s18 h0')
  ·have ho2:=Option.some.inj (show some _=some o from ho)
   subst ho2
   have h1:=hall { on:=1,ground:=.data } (by simp) rfl
   have h2:=hall { on:=18,ground:=.data } (by simp) rfl
   clear ho hall hi
   obtain ⟨m,es,c,rfl,hm,hf,hn,J'⟩:=J.s19 h0' h1 h2
   have hrun:(Instr.mapUpdate 257 (.map (some m)) (.string ⟨#[114,101,106,101,99,116]⟩) (u20)).run Tryz.prog w'=.ok () _:=QaR Tryz.underlying257 Tryz.underlying9 hm hf hn _
   refine QaO rfl (by rfl) ?_
   unfold tmC
   go_simp
   exact JJC.next hl htk (by decide) J'
  ·rw [htk 20 (by decide)] at h0';cases h0'
  ·rw [htk 21 (by decide)] at h0';cases h0'
  ·have ho2:=Option.some.inj (show some _=some o from ho)
   subst ho2
   have h1:=hall { on:=1,ground:=.data } (by simp) rfl
   clear ho hall hi
   obtain ⟨m,es,c,rfl,hm,hf,hn,J'⟩:=J.s22 h0' h1
   have hrun:(Instr.mapUpdate 257 (.map (some m)) (.string ⟨#[115,101,116]⟩) (.func (.func 156) #[.pointer (some ⟨w.heap.size,0,none⟩)] #[])).run Tryz.prog w'=.ok () _:=QaR Tryz.underlying257 Tryz.underlying9 hm hf hn _
   refine QaO rfl (by rfl) ?_
   unfold tmC
   go_simp
   exact JJC.next hl htk (by decide) J'
  ·rw [htk 23 (by decide)] at h0';cases h0'
  ·rw [htk 24 (by decide)] at h0';cases h0'
  ·have ho2:=Option.some.inj (show some _=some o from ho)
   subst ho2
   have h1:=hall { on:=1,ground:=.data } (by simp) rfl
   clear ho hall hi
   obtain ⟨m,es,c,rfl,hm,hf,hn,J'⟩:=J.s25 h0' h1
   have hrun:(Instr.mapUpdate 257 (.map (some m)) (.string ⟨#[105,102]⟩) (.func (.func 157) #[.pointer (some ⟨w.heap.size,0,none⟩)] #[])).run Tryz.prog w'=.ok () _:=QaR Tryz.underlying257 Tryz.underlying9 hm hf hn _
   refine QaO rfl (by rfl) ?_
   unfold tmC
   go_simp
   exact JJC.next hl htk (by decide) J'
  ·have ho2:=Option.some.inj (show some _=some o from ho)
   subst ho2
   have h1:=hall { on:=1,ground:=.data } (by simp) rfl
   have hi4:=hall { on:=4,ground:=.data } (by simp) rfl
   have hi7:=hall { on:=7,ground:=.data } (by simp) rfl
   have hi10:=hall { on:=10,ground:=.data } (by simp) rfl
   have hi13:=hall { on:=13,ground:=.data } (by simp) rfl
   have hi16:=hall { on:=16,ground:=.data } (by simp) rfl
   have hi19:=hall { on:=19,ground:=.data } (by simp) rfl
   have hi22:=hall { on:=22,ground:=.data } (by simp) rfl
   have hi25:=hall { on:=25,ground:=.data } (by simp) rfl
   clear ho hall hi
   refine QaO rfl (by rfl) ?_
   unfold tmC
   go_simp
   exact JJC.next hl htk (by decide) (J.s26 h0' h1 hi4 hi7 hi10 hi13 hi16 hi19 hi22 hi25)
  ·clear ho hall hi
   refine QaO rfl (by rfl) ?_
   unfold tmC
   go_simp
   exact JJC.next hl htk (by decide) (J.s27 h0')
  ·have ho2:=Option.some.inj (show some _=some o from ho)
   subst ho2
   have h1:=hall { on:=27,ground:=.data } (by simp) rfl
   obtain rfl:=J.m27 h1
   clear ho hall hi
   refine QaO rfl (by rfl) ?_
   unfold tmC
   go_simp
   exact JJC.next hl htk (by decide) (J.s28 h0')
  ·have ho2:=Option.some.inj (show some _=some o from ho)
   subst ho2
   have h28:=hall { on:=28,ground:=.data } (by simp) rfl
   have h26:=hall { on:=26,ground:=.data } (by simp) rfl
   obtain rfl:=J.m28 h28
   obtain ⟨rfl,h1,_⟩:=J.m26 h26
   obtain ⟨m,es,c,rfl,_,_,_⟩:=J.mp h1
   clear ho hall hi
   have hr:=J.rd
   unfold Qcu at hr
   have hc8:w'.cell? ⟨w.heap.size,8,none⟩=some _:=Qaa hr 8
   rw [show (l.getD 29 false)=false from h0'] at hc8
   have hfz:=Qap hr
   refine QaO rfl (by rfl) ?_
   unfold tmC
   go_simp
   exact JJC.next hl htk (by decide) (J.s29 h0' h26)
end
end Go.Proofs.YtbiclelojbfnbaaGreatDoor
