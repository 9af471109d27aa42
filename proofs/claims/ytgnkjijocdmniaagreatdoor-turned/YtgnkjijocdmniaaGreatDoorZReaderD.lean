import Derived.MapFrom
import Derived.Orders
import Derived.Test.YtgnkjijocdmniaaGreatDoorZWText
namespace Go.Proofs.YtgnkjijocdmniaaGreatDoor
set_option linter.unusedVariables false
set_option linter.unusedSimpArgs false
set_option maxRecDepth 100000
set_option maxHeartbeats 4000000
open Go.Proofs.Tryz
section
open Go.RowKit
def Qcq (es:Array MapEntry) (f:L8→Option Value):Prop:=
 (∀ e∈es.toList,∃ x,e.key=.string (Qaf x)∧f x=some e.val)∧∀ x v,f x=some v→∃ e∈es.toList,e.key=.string (Qaf x)
theorem Qcq.keys{es:Array MapEntry}{f:L8->Option Value}(h:Qcq es f):∀ e∈es.toList,MapKept.IsKey .string e.key:=fun e he=>by
 obtain⟨x,hx,_⟩:=h.1 e he;rw[hx];trivial
theorem Qcq.empty:Qcq #[] (fun _=>none):=⟨fun e he=>by simp at he,fun x v h=>by cases h⟩
theorem Qcq.push{es:Array MapEntry}{f g:L8->Option Value}(h:Qcq es f){x:L8}{v:Value}{c:Nat}(hn:f x=none)(hx:g x=some v)(hg:∀ z,z≠x->g z=f z):Qcq (es.push ⟨.string (Qaf x),v,c⟩) g:=by
 refine⟨fun e he=>?_,fun z u hz=>?_⟩
 ·simp only[Array.toList_push,List.mem_append,List.mem_singleton]at he;rcases he with he|he
  ·obtain⟨z,h1,h2⟩:=h.1 e he;have:z≠x:=fun e=>by rw[e,hn]at h2;cases h2
   exact⟨z,h1,by rw[hg z this];exact h2⟩
  ·subst he;exact⟨x,rfl,hx⟩
 ·by_cases e:z=x
  ·exact⟨⟨.string (Qaf x),v,c⟩,by simp,by rw[e]⟩
  ·rw[hg z e]at hz;obtain⟨y,hy,hk⟩:=h.2 z u hz;exact⟨y,by simp[hy],hk⟩
theorem Qcq.congr{es:Array MapEntry}{f g:L8->Option Value}(h:Qcq es f)(e:∀ x,f x=g x):Qcq es g:=by
 have:f=g:=funext e;rw[<-this];exact h
def QaR (w:World) (m:Nat) (o:Obj):World:={ w with heap:=w.heap.setIfInBounds m o }
theorem QaT{T K E:TypeId}(hT:Tryz.prog.underlying T=some (.map K E))(hK:Tryz.prog.underlying K=some .string){w:World}{m:Nat}{es:Array MapEntry}{c:Nat}{f:L8->Option Value}{x:L8}(hm:w.heap[m]?=some (.map es c))(hf:Qcq es f)(hx:f x=none)(v:Value) :
 (Instr.mapUpdate T (.map (some m)) (.string (Qaf x)) v).run Tryz.prog w=.ok () (QaR w m (.map (es.push ⟨.string (Qaf x),v,c⟩) (c+1))):=by
 have hk:MapKept.IsKey .string (.string (Qaf x)):=trivial;rcases MapKept.findNow_spec hk es.toList 0 hf.keys with⟨h1,_⟩ | ⟨j,e,h1,h2,h3⟩
 ·simp[Instr.mapUpdate,run_underlying hT,MapKept.run_getObj_map hm,MapKept.run_checkKey hK hk,MapKept.run_findKey hK h1,MapKept.run_setObj_map _ hm,Result.andThen,QaR]
 ·obtain⟨z,hz,aa⟩:=hf.1 e (List.mem_of_getElem? h2);rw[h3]at hz;have:x=z:=QiV (by simpa using hz);subst this;rw[hx]at aa;cases aa
theorem Qa3{w:World}{m:Nat}{o o':Obj}(h:w.heap[m]?=some o):(QaR w m o').heap[m]?=some o':=by
 have:=QaI h;simp[QaR,this]
theorem Qan{w:World}{m k:Nat}{o':Obj}(h:k≠m):(QaR w m o').heap[k]?=w.heap[k]?:=by
 simp[QaR,Array.getElem?_setIfInBounds_ne (Ne.symm h)]
theorem Qks{w:World}{m:Nat}{o':Obj}:(QaR w m o').heap.size=w.heap.size:=by simp[QaR]
theorem Qm8{T K E:TypeId}(hT:Tryz.prog.underlying T=some (.map K E))(hK:Tryz.prog.underlying K=some .string)(hE:∀ W,(zeroValue E).run Tryz.prog W=.ok .nilFunc W){w:World}{m:Nat}{es:Array MapEntry}{c:Nat}{f:L8->Option Value}(hm:w.heap[m]?=some (.map es c))(hf:Qcq es f):Qum w T m f:=by
 intro W x hW;rw[hm]at hW;have hk:MapKept.IsKey .string (.string (Qaf x)):=trivial;rcases MapKept.findNow_spec hk es.toList 0 hf.keys with⟨h1,h2⟩ | ⟨j,e,h1,h2,h3⟩
 ·have hn:f x=none:=by
   cases hfx:f x with
   |none=>rfl
   |some v=>
    obtain⟨e,he,aa⟩:=hf.2 x v hfx;exact absurd aa (h2 e he)
  rw[hn];simp[Instr.lookup,run_underlying hT,MapKept.run_getObj_map hW,MapKept.run_checkKey hK hk,MapKept.run_findKey hK h1,hE,Result.andThen]
 ·obtain⟨z,hz,ab⟩:=hf.1 e (List.mem_of_getElem? h2);rw[h3]at hz;have:x=z:=QiV (by simpa using hz);subst this;rw[ab];simp[Instr.lookup,run_underlying hT,MapKept.run_getObj_map hW,MapKept.run_checkKey hK hk,MapKept.run_findKey hK h1,Result.andThen]
end
section
open Go.RowKit
attribute [local go_sem ↓] Go.wp_at_zero Go.wp_at_succ
theorem Tryz.infoFnC:(Tryz.prog.info? 211).map (fun i=>(i.zero,i.size,i.bytes))=some (some .nilFunc,1,8):=by kernel_rfl
theorem Tryz.infoFnT:(Tryz.prog.info? 213).map (fun i=>(i.zero,i.size,i.bytes))=some (some .nilFunc,1,8):=by kernel_rfl
theorem Qw3(W:World):(zeroValue 211).run Tryz.prog W=.ok .nilFunc W:=by
 obtain⟨i0,hi,aa,hz1,hz2⟩:=info_parts Tryz.infoFnC;simp[zeroValue,typeInfo,Sem.run,hi,aa]
theorem QwX(W:World):(zeroValue 213).run Tryz.prog W=.ok .nilFunc W:=by
 obtain⟨i0,hi,aa,hz1,hz2⟩:=info_parts Tryz.infoFnT;simp[zeroValue,typeInfo,Sem.run,hi,aa]
theorem Qqs(r:Value)(b:Nat)(kd:Int)(w:World)(hr:r=.pointer (some ⟨b,0,none⟩)) :
 Calls Tryz.prog 124 #[r,.int .i64 kd] w fun e w'=>e=.returned (.func (.func 178) #[] #[.pointer (some ⟨w.heap.size,0,none⟩),.pointer (some ⟨w.heap.size+1,0,none⟩)])/\w'=(w.alloc (.cells #[r] 161)).alloc (.cells #[.int .i64 kd] 3):=by
 subst hr;have hmf:∀(fn:Fn) (first cap:Array Value) (w:World),(Instr.makeFunc fn first cap).run Tryz.prog w=.ok (.func fn first cap) w:=fun _ _ _ _=>rfl
 go_enter func124,ntmps124;go_wp2;go_ret;exact⟨rfl,rfl⟩
theorem QnJ(h:Bool)(w:World) :
 Calls Tryz.prog 127 #[.bool h] w fun e w'=>e=.returned (.func (.func 185) #[] #[.pointer (some ⟨w.heap.size,0,none⟩)])/\w'=w.alloc (.cells #[.bool h] 4):=by
 have hmf:∀(fn:Fn) (first cap:Array Value) (w:World),(Instr.makeFunc fn first cap).run Tryz.prog w=.ok (.func fn first cap) w:=fun _ _ _ _=>rfl
 go_enter func127,ntmps127;go_wp2;go_ret;exact⟨rfl,rfl⟩
end
section
open Go.RowKit
def up (L:Nat→Bool) (i:Nat):Nat→Bool:=fun j=>if j=i then true else L j
theorem QbQ(L:Nat->Bool)(i:Nat):up L i i=true:=by simp[up]
theorem Qag(L:Nat->Bool){i j:Nat}(h:j≠i):up L i j=L j:=by simp[up,h]
theorem Qai(L:Nat->Bool){i j:Nat}(h:L j=true):up L i j=true:=by unfold up;split<;>simp[h]
theorem ud{L:Nat->Bool}{i j:Nat}(h:up L i j=true)(hd:j≠i:=by decide):L j=true:=by rwa [Qag L hd]at h
theorem ui{L:Nat->Bool}{i j k:Nat}(hi:L j=true->L k=true)(hd:j≠i:=by decide)(h:up L i j=true):up L i k=true:=Qai _ (hi (ud h hd))
theorem nf{L:Nat->Bool}{j k:Nat}(hi:L j=true->L k=true)(h0:L k=false):L j=false:=by
 cases hh:L j with
 |false=>rfl
 |true=>have:=hi hh;rw[h0]at this;cases this
def Qcy (t:ByteArray) (mv mv2:Value):Obj:=.cells #[.string t,.int .i64 0,.int .i64 0,.string ⟨#[]⟩,.string ⟨#[]⟩,.int .i64 0,.int .i64 0,.slice none 0 0,mv,mv2] 210
def QsY (w:World) (b B kd:Nat) (v:Value):Prop:=
 ∃ p q,v=.func (.func 178) #[] #[.pointer (some ⟨p,0,none⟩),.pointer (some ⟨q,0,none⟩)]∧B≤p∧B≤q∧w.heap[p]?=some (.cells #[.pointer (some ⟨b,0,none⟩)] 161)∧w.heap[q]?=some (.cells #[.int .i64 kd] 3)
theorem QsY.keep{w w':World}{b B kd:Nat}{v:Value}(h:QsY w b B kd v)(hk:∀ k cs ty,B<=k->w.heap[k]?=some (.cells cs ty)->w'.heap[k]?=some (.cells cs ty)):QsY w' b B kd v:=by
 obtain⟨p,q,hv,hp,hq,h1,h2⟩:=h;exact⟨p,q,hv,hp,hq,hk p _ _ hp h1,hk q _ _ hq h2⟩
def fC (b:Nat) (L:Nat→Bool) (u16 u18 u20:Value) (x:L8):Option Value:=
 match wL cNs x with
 | 1=>if L 4 then some (.func (.func 121) #[.pointer (some ⟨b,0,none⟩)] #[]) else none
 | 2=>if L 7 then some (.func (.func 122) #[.pointer (some ⟨b,0,none⟩)] #[]) else none
 | 3=>if L 10 then some (.func (.func 123) #[.pointer (some ⟨b,0,none⟩)] #[]) else none
 | 4=>if L 13 then some (u16) else none
 | 5=>if L 16 then some (u18) else none
 | 6=>if L 19 then some (u20) else none
 | 7=>if L 22 then some (.func (.func 125) #[.pointer (some ⟨b,0,none⟩)] #[]) else none
 | 8=>if L 25 then some (.func (.func 126) #[.pointer (some ⟨b,0,none⟩)] #[]) else none
 | _=>none
structure JC (t:ByteArray) (b:Nat) (W:World) (mv2:Value) (L:Nat→Bool) (u8 u16 u18 u20 u25 u26 u27:Value) (w:World):Prop where
 hb:b < W.heap.size
 mod:Mod b W w
 rd:w.heap[b]?=some (Qcy t (if L 29 then u25 else Value.map none) mv2)
 cm4:L 4=true→L 1=true
 cm7:L 7=true→L 1=true
 cm10:L 10=true→L 1=true
 cm13:L 13=true→L 1=true
 cm16:L 16=true→L 1=true
 cm19:L 19=true→L 1=true
 cm22:L 22=true→L 1=true
 cm25:L 25=true→L 1=true
 cv13:L 13=true→L 12=true
 cv16:L 16=true→L 15=true
 cv19:L 19=true→L 18=true
 a12:L 12=true→QsY w b W.heap.size 2 u16
 a15:L 15=true→QsY w b W.heap.size 3 u18
 a18:L 18=true→QsY w b W.heap.size 4 u20
 mp:L 1=true→∃ m es c,u8=.map (some m)∧W.heap.size≤m∧w.heap[m]?=some (.map es c)∧Qcq es (fC b L u16 u18 u20)
 m26:L 26=true→u25=u8∧L 1=true∧L 4=true∧L 7=true∧L 10=true∧L 13=true∧L 16=true∧L 19=true∧L 22=true∧L 25=true
 m27:L 27=true→u26=.pointer (some ⟨b,0,none⟩)
 m28:L 28=true→u27=.pointer (some ⟨b,8,none⟩)
 m29:L 29=true→L 26=true
theorem Qbj{b m:Nat}{W w:World}{o:Obj}(h:Mod b W w)(hm:W.heap.size<=m):Mod b W (QaR w m o):=
 ⟨h.os,h.tape,h.output,by rw[Qks];exact h.size,fun k hk hn=>by rw[Qan (by omega)];exact h.block k hk hn⟩
section
variable {t:ByteArray} {b:Nat} {W:World} {mv2:Value} {L:Nat→Bool} {u8 u16 u18 u20 u25 u26 u27:Value} {w:World}
theorem QnB(i:Nat)(h:i≠4/\i≠7/\i≠10/\i≠13/\i≠16/\i≠19/\i≠22/\i≠25)(x:L8):fC b (up L i) u16 u18 u20 x=fC b L u16 u18 u20 x:=by
 obtain⟨h0,h1,h2,h3,h4,h5,h6,h7⟩:=h;unfold fC;simp only[Qag L (Ne.symm h0),Qag L (Ne.symm h1),Qag L (Ne.symm h2),Qag L (Ne.symm h3),Qag L (Ne.symm h4),Qag L (Ne.symm h5),Qag L (Ne.symm h6),Qag L (Ne.symm h7)]
theorem JC.m26u(J:JC t b W mv2 L u8 u16 u18 u20 u25 u26 u27 w){i:Nat}(h:L 26=true):u25=u8/\up L i 1=true/\up L i 4=true/\up L i 7=true/\up L i 10=true/\up L i 13=true/\up L i 16=true/\up L i 19=true/\up L i 22=true/\up L i 25=true:=by
 obtain⟨e1,e2,e3,e4,e5,e6,e7,e8,e9,aa⟩:=J.m26 h;exact⟨e1,Qai _ e2,Qai _ e3,Qai _ e4,Qai _ e5,Qai _ e6,Qai _ e7,Qai _ e8,Qai _ e9,Qai _ aa⟩
theorem JC.s1(J:JC t b W mv2 L u8 u16 u18 u20 u25 u26 u27 w)(h0:L 1=false):JC t b W mv2 (up L 1) (.map (some w.heap.size)) u16 u18 u20 u25 u26 u27 (w.alloc (Obj.map #[] 0)):=by
 have hk:∀ k cs ty,W.heap.size<=k->w.heap[k]?=some (.cells cs ty)->(w.alloc (Obj.map #[] 0)).heap[k]?=some (.cells cs ty):=fun k cs ty _ h=>Qae h
 have aa:(w.alloc (Obj.map #[] 0)).heap[b]?=some (Qcy t (if L 29 then u25 else Value.map none) mv2):=Qae J.rd;have n4:L 4=false:=nf J.cm4 h0;have n7:L 7=false:=nf J.cm7 h0;have ab:L 10=false:=nf J.cm10 h0;have ac:L 13=false:=nf J.cm13 h0;have ad:L 16=false:=nf J.cm16 h0;have ae:L 19=false:=nf J.cm19 h0;have af:L 22=false:=nf J.cm22 h0;have ag:L 25=false:=nf J.cm25 h0;exact⟨J.hb,J.mod.trans ((Mod.refl b w).alloc _),by rw[Qag L (by decide)];exact aa,ui J.cm4,ui J.cm7,ui J.cm10,ui J.cm13,ui J.cm16,ui J.cm19,ui J.cm22,ui J.cm25,ui J.cv13,ui J.cv16,ui J.cv19,fun h=>(J.a12 (ud h)).keep hk,fun h=>(J.a15 (ud h)).keep hk,fun h=>(J.a18 (ud h)).keep hk,fun _=>⟨w.heap.size,#[],0,rfl,J.mod.size,Qat _ _,Qcq.empty.congr (fun x=>by rw[QnB 1 (by decide)];unfold fC;simp only[n4,n7,ab,ac,ad,ae,af,ag];split<;>rfl)⟩,fun h=>absurd (J.m26 (ud h)).2.1 (by rw[h0];decide),fun h=>J.m27 (ud h),fun h=>J.m28 (ud h),ui J.m29⟩
theorem JC.s12(J:JC t b W mv2 L u8 u16 u18 u20 u25 u26 u27 w)(h0:L 12=false):JC t b W mv2 (up L 12) u8 (.func (.func 178) #[] #[.pointer (some ⟨w.heap.size,0,none⟩),.pointer (some ⟨w.heap.size+1,0,none⟩)]) u18 u20 u25 u26 u27 ((w.alloc (.cells #[.pointer (some ⟨b,0,none⟩)] 161)).alloc (.cells #[.int .i64 2] 3)):=by
 have hk:∀ k cs ty,W.heap.size<=k->w.heap[k]?=some (.cells cs ty)->((w.alloc (.cells #[.pointer (some ⟨b,0,none⟩)] 161)).alloc (.cells #[.int .i64 2] 3)).heap[k]?=some (.cells cs ty):=fun k cs ty _ h=>Qae (Qae h)
 have ab:∀(m:Nat) (es:Array MapEntry) (c:Nat),w.heap[m]?=some (Obj.map es c)->((w.alloc (.cells #[.pointer (some ⟨b,0,none⟩)] 161)).alloc (.cells #[.int .i64 2] 3)).heap[m]?=some (Obj.map es c):=fun m es c h=>Qae (Qae h)
 have aa:((w.alloc (.cells #[.pointer (some ⟨b,0,none⟩)] 161)).alloc (.cells #[.int .i64 2] 3)).heap[b]?=some (Qcy t (if L 29 then u25 else Value.map none) mv2):=Qae (Qae J.rd);have hn:L 13=false:=nf J.cv13 h0;have ac:=J.mod.size;exact⟨J.hb,J.mod.trans (((Mod.refl b w).alloc _).alloc _),by rw[Qag L (by decide)];exact aa,ui J.cm4,ui J.cm7,ui J.cm10,ui J.cm13,ui J.cm16,ui J.cm19,ui J.cm22,ui J.cm25,ui J.cv13,ui J.cv16,ui J.cv19,fun _=>⟨w.heap.size,w.heap.size+1,rfl,ac,by omega,Qae (Qat _ _),Qaw (by simp)⟩,fun h=>(J.a15 (ud h)).keep hk,fun h=>(J.a18 (ud h)).keep hk,fun h=>by obtain⟨m,es,c,h3,h4,h5,h6⟩:=J.mp (ud h);exact⟨m,es,c,h3,h4,ab m _ _ h5,h6.congr (fun x=>by rw[QnB 12 (by decide)];unfold fC;simp only[hn,Bool.false_eq_true,if_false])⟩,fun h=>J.m26u (ud h),fun h=>J.m27 (ud h),fun h=>J.m28 (ud h),ui J.m29⟩
theorem JC.s15(J:JC t b W mv2 L u8 u16 u18 u20 u25 u26 u27 w)(h0:L 15=false):JC t b W mv2 (up L 15) u8 u16 (.func (.func 178) #[] #[.pointer (some ⟨w.heap.size,0,none⟩),.pointer (some ⟨w.heap.size+1,0,none⟩)]) u20 u25 u26 u27 ((w.alloc (.cells #[.pointer (some ⟨b,0,none⟩)] 161)).alloc (.cells #[.int .i64 3] 3)):=by
 have hk:∀ k cs ty,W.heap.size<=k->w.heap[k]?=some (.cells cs ty)->((w.alloc (.cells #[.pointer (some ⟨b,0,none⟩)] 161)).alloc (.cells #[.int .i64 3] 3)).heap[k]?=some (.cells cs ty):=fun k cs ty _ h=>Qae (Qae h)
 have ab:∀(m:Nat) (es:Array MapEntry) (c:Nat),w.heap[m]?=some (Obj.map es c)->((w.alloc (.cells #[.pointer (some ⟨b,0,none⟩)] 161)).alloc (.cells #[.int .i64 3] 3)).heap[m]?=some (Obj.map es c):=fun m es c h=>Qae (Qae h)
 have aa:((w.alloc (.cells #[.pointer (some ⟨b,0,none⟩)] 161)).alloc (.cells #[.int .i64 3] 3)).heap[b]?=some (Qcy t (if L 29 then u25 else Value.map none) mv2):=Qae (Qae J.rd);have hn:L 16=false:=nf J.cv16 h0;have ac:=J.mod.size;exact⟨J.hb,J.mod.trans (((Mod.refl b w).alloc _).alloc _),by rw[Qag L (by decide)];exact aa,ui J.cm4,ui J.cm7,ui J.cm10,ui J.cm13,ui J.cm16,ui J.cm19,ui J.cm22,ui J.cm25,ui J.cv13,ui J.cv16,ui J.cv19,fun h=>(J.a12 (ud h)).keep hk,fun _=>⟨w.heap.size,w.heap.size+1,rfl,ac,by omega,Qae (Qat _ _),Qaw (by simp)⟩,fun h=>(J.a18 (ud h)).keep hk,fun h=>by obtain⟨m,es,c,h3,h4,h5,h6⟩:=J.mp (ud h);exact⟨m,es,c,h3,h4,ab m _ _ h5,h6.congr (fun x=>by rw[QnB 15 (by decide)];unfold fC;simp only[hn,Bool.false_eq_true,if_false])⟩,fun h=>J.m26u (ud h),fun h=>J.m27 (ud h),fun h=>J.m28 (ud h),ui J.m29⟩
theorem JC.s18(J:JC t b W mv2 L u8 u16 u18 u20 u25 u26 u27 w)(h0:L 18=false):JC t b W mv2 (up L 18) u8 u16 u18 (.func (.func 178) #[] #[.pointer (some ⟨w.heap.size,0,none⟩),.pointer (some ⟨w.heap.size+1,0,none⟩)]) u25 u26 u27 ((w.alloc (.cells #[.pointer (some ⟨b,0,none⟩)] 161)).alloc (.cells #[.int .i64 4] 3)):=by
 have hk:∀ k cs ty,W.heap.size<=k->w.heap[k]?=some (.cells cs ty)->((w.alloc (.cells #[.pointer (some ⟨b,0,none⟩)] 161)).alloc (.cells #[.int .i64 4] 3)).heap[k]?=some (.cells cs ty):=fun k cs ty _ h=>Qae (Qae h)
 have ab:∀(m:Nat) (es:Array MapEntry) (c:Nat),w.heap[m]?=some (Obj.map es c)->((w.alloc (.cells #[.pointer (some ⟨b,0,none⟩)] 161)).alloc (.cells #[.int .i64 4] 3)).heap[m]?=some (Obj.map es c):=fun m es c h=>Qae (Qae h)
 have aa:((w.alloc (.cells #[.pointer (some ⟨b,0,none⟩)] 161)).alloc (.cells #[.int .i64 4] 3)).heap[b]?=some (Qcy t (if L 29 then u25 else Value.map none) mv2):=Qae (Qae J.rd);have hn:L 19=false:=nf J.cv19 h0;have ac:=J.mod.size;exact⟨J.hb,J.mod.trans (((Mod.refl b w).alloc _).alloc _),by rw[Qag L (by decide)];exact aa,ui J.cm4,ui J.cm7,ui J.cm10,ui J.cm13,ui J.cm16,ui J.cm19,ui J.cm22,ui J.cm25,ui J.cv13,ui J.cv16,ui J.cv19,fun h=>(J.a12 (ud h)).keep hk,fun h=>(J.a15 (ud h)).keep hk,fun _=>⟨w.heap.size,w.heap.size+1,rfl,ac,by omega,Qae (Qat _ _),Qaw (by simp)⟩,fun h=>by obtain⟨m,es,c,h3,h4,h5,h6⟩:=J.mp (ud h);exact⟨m,es,c,h3,h4,ab m _ _ h5,h6.congr (fun x=>by rw[QnB 18 (by decide)];unfold fC;simp only[hn,Bool.false_eq_true,if_false])⟩,fun h=>J.m26u (ud h),fun h=>J.m27 (ud h),fun h=>J.m28 (ud h),ui J.m29⟩
theorem JC.s4(J:JC t b W mv2 L u8 u16 u18 u20 u25 u26 u27 w)(h0:L 4=false)(h1:L 1=true):∃ m es c,u8=.map (some m)/\w.heap[m]?=some (.map es c)/\Qcq es (fC b L u16 u18 u20)/\fC b L u16 u18 u20 Qfk=none/\JC t b W mv2 (up L 4) u8 u16 u18 u20 u25 u26 u27 (QaR w m (.map (es.push ⟨.string (Qaf Qfk),.func (.func 121) #[.pointer (some ⟨b,0,none⟩)] #[],c⟩) (c+1))):=by
 obtain⟨m,es,c,h3,h4,h5,h6⟩:=J.mp h1;have hn:fC b L u16 u18 u20 Qfk=none:=by unfold fC;rw[show wL cNs Qfk=1 from by decide];simp only[h0];rfl
 have hx:fC b (up L 4) u16 u18 u20 Qfk=some (.func (.func 121) #[.pointer (some ⟨b,0,none⟩)] #[]):=by unfold fC;rw[show wL cNs Qfk=1 from by decide];simp only[QbQ];rfl
 have hg:∀ z,z≠Qfk->fC b (up L 4) u16 u18 u20 z=fC b L u16 u18 u20 z:=fun z hz=>by
  have hw:wL cNs z≠1:=fun e=>hz (by have:=QaA cNs z 0 e;simpa[cNs]using this.symm)
  unfold fC;split<;>first|(rename_i e;exact absurd e hw)|simp only[Qag L (by decide)]|rfl
 have ab:m≠b:=by have:=J.hb;omega
 have hk:∀ k cs ty,W.heap.size<=k->w.heap[k]?=some (.cells cs ty)->(QaR w m (.map (es.push ⟨.string (Qaf Qfk),.func (.func 121) #[.pointer (some ⟨b,0,none⟩)] #[],c⟩) (c+1))).heap[k]?=some (.cells cs ty):=fun k cs ty _ h=>by
  rw[Qan (fun e=>by rw[e,h5]at h;cases h)];exact h
 have aa:(QaR w m (.map (es.push ⟨.string (Qaf Qfk),.func (.func 121) #[.pointer (some ⟨b,0,none⟩)] #[],c⟩) (c+1))).heap[b]?=some (Qcy t (if L 29 then u25 else Value.map none) mv2):=by rw[Qan (Ne.symm ab)];exact J.rd
 refine⟨m,es,c,h3,h5,h6,hn,?_⟩;exact⟨J.hb,Qbj J.mod h4,by rw[Qag L (by decide)];exact aa,fun _=>Qai _ h1,ui J.cm7,ui J.cm10,ui J.cm13,ui J.cm16,ui J.cm19,ui J.cm22,ui J.cm25,ui J.cv13,ui J.cv16,ui J.cv19,fun h=>(J.a12 (ud h)).keep hk,fun h=>(J.a15 (ud h)).keep hk,fun h=>(J.a18 (ud h)).keep hk,fun _=>⟨m,_,_,h3,h4,Qa3 h5,h6.push hn hx hg⟩,fun h=>J.m26u (ud h),fun h=>J.m27 (ud h),fun h=>J.m28 (ud h),ui J.m29⟩
theorem JC.s7(J:JC t b W mv2 L u8 u16 u18 u20 u25 u26 u27 w)(h0:L 7=false)(h1:L 1=true):∃ m es c,u8=.map (some m)/\w.heap[m]?=some (.map es c)/\Qcq es (fC b L u16 u18 u20)/\fC b L u16 u18 u20 Qb0=none/\JC t b W mv2 (up L 7) u8 u16 u18 u20 u25 u26 u27 (QaR w m (.map (es.push ⟨.string (Qaf Qb0),.func (.func 122) #[.pointer (some ⟨b,0,none⟩)] #[],c⟩) (c+1))):=by
 obtain⟨m,es,c,h3,h4,h5,h6⟩:=J.mp h1;have hn:fC b L u16 u18 u20 Qb0=none:=by unfold fC;rw[show wL cNs Qb0=2 from by decide];simp only[h0];rfl
 have hx:fC b (up L 7) u16 u18 u20 Qb0=some (.func (.func 122) #[.pointer (some ⟨b,0,none⟩)] #[]):=by unfold fC;rw[show wL cNs Qb0=2 from by decide];simp only[QbQ];rfl
 have hg:∀ z,z≠Qb0->fC b (up L 7) u16 u18 u20 z=fC b L u16 u18 u20 z:=fun z hz=>by
  have hw:wL cNs z≠2:=fun e=>hz (by have:=QaA cNs z 1 e;simpa[cNs]using this.symm)
  unfold fC;split<;>first|(rename_i e;exact absurd e hw)|simp only[Qag L (by decide)]|rfl
 have ab:m≠b:=by have:=J.hb;omega
 have hk:∀ k cs ty,W.heap.size<=k->w.heap[k]?=some (.cells cs ty)->(QaR w m (.map (es.push ⟨.string (Qaf Qb0),.func (.func 122) #[.pointer (some ⟨b,0,none⟩)] #[],c⟩) (c+1))).heap[k]?=some (.cells cs ty):=fun k cs ty _ h=>by
  rw[Qan (fun e=>by rw[e,h5]at h;cases h)];exact h
 have aa:(QaR w m (.map (es.push ⟨.string (Qaf Qb0),.func (.func 122) #[.pointer (some ⟨b,0,none⟩)] #[],c⟩) (c+1))).heap[b]?=some (Qcy t (if L 29 then u25 else Value.map none) mv2):=by rw[Qan (Ne.symm ab)];exact J.rd
 refine⟨m,es,c,h3,h5,h6,hn,?_⟩;exact⟨J.hb,Qbj J.mod h4,by rw[Qag L (by decide)];exact aa,ui J.cm4,fun _=>Qai _ h1,ui J.cm10,ui J.cm13,ui J.cm16,ui J.cm19,ui J.cm22,ui J.cm25,ui J.cv13,ui J.cv16,ui J.cv19,fun h=>(J.a12 (ud h)).keep hk,fun h=>(J.a15 (ud h)).keep hk,fun h=>(J.a18 (ud h)).keep hk,fun _=>⟨m,_,_,h3,h4,Qa3 h5,h6.push hn hx hg⟩,fun h=>J.m26u (ud h),fun h=>J.m27 (ud h),fun h=>J.m28 (ud h),ui J.m29⟩
theorem JC.s10(J:JC t b W mv2 L u8 u16 u18 u20 u25 u26 u27 w)(h0:L 10=false)(h1:L 1=true):∃ m es c,u8=.map (some m)/\w.heap[m]?=some (.map es c)/\Qcq es (fC b L u16 u18 u20)/\fC b L u16 u18 u20 Qd6=none/\JC t b W mv2 (up L 10) u8 u16 u18 u20 u25 u26 u27 (QaR w m (.map (es.push ⟨.string (Qaf Qd6),.func (.func 123) #[.pointer (some ⟨b,0,none⟩)] #[],c⟩) (c+1))):=by
 obtain⟨m,es,c,h3,h4,h5,h6⟩:=J.mp h1;have hn:fC b L u16 u18 u20 Qd6=none:=by unfold fC;rw[show wL cNs Qd6=3 from by decide];simp only[h0];rfl
 have hx:fC b (up L 10) u16 u18 u20 Qd6=some (.func (.func 123) #[.pointer (some ⟨b,0,none⟩)] #[]):=by unfold fC;rw[show wL cNs Qd6=3 from by decide];simp only[QbQ];rfl
 have hg:∀ z,z≠Qd6->fC b (up L 10) u16 u18 u20 z=fC b L u16 u18 u20 z:=fun z hz=>by
  have hw:wL cNs z≠3:=fun e=>hz (by have:=QaA cNs z 2 e;simpa[cNs]using this.symm)
  unfold fC;split<;>first|(rename_i e;exact absurd e hw)|simp only[Qag L (by decide)]|rfl
 have ab:m≠b:=by have:=J.hb;omega
 have hk:∀ k cs ty,W.heap.size<=k->w.heap[k]?=some (.cells cs ty)->(QaR w m (.map (es.push ⟨.string (Qaf Qd6),.func (.func 123) #[.pointer (some ⟨b,0,none⟩)] #[],c⟩) (c+1))).heap[k]?=some (.cells cs ty):=fun k cs ty _ h=>by
  rw[Qan (fun e=>by rw[e,h5]at h;cases h)];exact h
 have aa:(QaR w m (.map (es.push ⟨.string (Qaf Qd6),.func (.func 123) #[.pointer (some ⟨b,0,none⟩)] #[],c⟩) (c+1))).heap[b]?=some (Qcy t (if L 29 then u25 else Value.map none) mv2):=by rw[Qan (Ne.symm ab)];exact J.rd
 refine⟨m,es,c,h3,h5,h6,hn,?_⟩;exact⟨J.hb,Qbj J.mod h4,by rw[Qag L (by decide)];exact aa,ui J.cm4,ui J.cm7,fun _=>Qai _ h1,ui J.cm13,ui J.cm16,ui J.cm19,ui J.cm22,ui J.cm25,ui J.cv13,ui J.cv16,ui J.cv19,fun h=>(J.a12 (ud h)).keep hk,fun h=>(J.a15 (ud h)).keep hk,fun h=>(J.a18 (ud h)).keep hk,fun _=>⟨m,_,_,h3,h4,Qa3 h5,h6.push hn hx hg⟩,fun h=>J.m26u (ud h),fun h=>J.m27 (ud h),fun h=>J.m28 (ud h),ui J.m29⟩
theorem JC.s13(J:JC t b W mv2 L u8 u16 u18 u20 u25 u26 u27 w)(h0:L 13=false)(h1:L 1=true)(h2:L 12=true):∃ m es c,u8=.map (some m)/\w.heap[m]?=some (.map es c)/\Qcq es (fC b L u16 u18 u20)/\fC b L u16 u18 u20 QaO=none/\JC t b W mv2 (up L 13) u8 u16 u18 u20 u25 u26 u27 (QaR w m (.map (es.push ⟨.string (Qaf QaO),u16,c⟩) (c+1))):=by
 obtain⟨m,es,c,h3,h4,h5,h6⟩:=J.mp h1;have hn:fC b L u16 u18 u20 QaO=none:=by unfold fC;rw[show wL cNs QaO=4 from by decide];simp only[h0];rfl
 have hx:fC b (up L 13) u16 u18 u20 QaO=some (u16):=by unfold fC;rw[show wL cNs QaO=4 from by decide];simp only[QbQ];rfl
 have hg:∀ z,z≠QaO->fC b (up L 13) u16 u18 u20 z=fC b L u16 u18 u20 z:=fun z hz=>by
  have hw:wL cNs z≠4:=fun e=>hz (by have:=QaA cNs z 3 e;simpa[cNs]using this.symm)
  unfold fC;split<;>first|(rename_i e;exact absurd e hw)|simp only[Qag L (by decide)]|rfl
 have ab:m≠b:=by have:=J.hb;omega
 have hk:∀ k cs ty,W.heap.size<=k->w.heap[k]?=some (.cells cs ty)->(QaR w m (.map (es.push ⟨.string (Qaf QaO),u16,c⟩) (c+1))).heap[k]?=some (.cells cs ty):=fun k cs ty _ h=>by
  rw[Qan (fun e=>by rw[e,h5]at h;cases h)];exact h
 have aa:(QaR w m (.map (es.push ⟨.string (Qaf QaO),u16,c⟩) (c+1))).heap[b]?=some (Qcy t (if L 29 then u25 else Value.map none) mv2):=by rw[Qan (Ne.symm ab)];exact J.rd
 refine⟨m,es,c,h3,h5,h6,hn,?_⟩;exact⟨J.hb,Qbj J.mod h4,by rw[Qag L (by decide)];exact aa,ui J.cm4,ui J.cm7,ui J.cm10,fun _=>Qai _ h1,ui J.cm16,ui J.cm19,ui J.cm22,ui J.cm25,fun _=>Qai _ h2,ui J.cv16,ui J.cv19,fun h=>(J.a12 (ud h)).keep hk,fun h=>(J.a15 (ud h)).keep hk,fun h=>(J.a18 (ud h)).keep hk,fun _=>⟨m,_,_,h3,h4,Qa3 h5,h6.push hn hx hg⟩,fun h=>J.m26u (ud h),fun h=>J.m27 (ud h),fun h=>J.m28 (ud h),ui J.m29⟩
theorem JC.s16(J:JC t b W mv2 L u8 u16 u18 u20 u25 u26 u27 w)(h0:L 16=false)(h1:L 1=true)(h2:L 15=true):∃ m es c,u8=.map (some m)/\w.heap[m]?=some (.map es c)/\Qcq es (fC b L u16 u18 u20)/\fC b L u16 u18 u20 Qbl=none/\JC t b W mv2 (up L 16) u8 u16 u18 u20 u25 u26 u27 (QaR w m (.map (es.push ⟨.string (Qaf Qbl),u18,c⟩) (c+1))):=by
 obtain⟨m,es,c,h3,h4,h5,h6⟩:=J.mp h1;have hn:fC b L u16 u18 u20 Qbl=none:=by unfold fC;rw[show wL cNs Qbl=5 from by decide];simp only[h0];rfl
 have hx:fC b (up L 16) u16 u18 u20 Qbl=some (u18):=by unfold fC;rw[show wL cNs Qbl=5 from by decide];simp only[QbQ];rfl
 have hg:∀ z,z≠Qbl->fC b (up L 16) u16 u18 u20 z=fC b L u16 u18 u20 z:=fun z hz=>by
  have hw:wL cNs z≠5:=fun e=>hz (by have:=QaA cNs z 4 e;simpa[cNs]using this.symm)
  unfold fC;split<;>first|(rename_i e;exact absurd e hw)|simp only[Qag L (by decide)]|rfl
 have ab:m≠b:=by have:=J.hb;omega
 have hk:∀ k cs ty,W.heap.size<=k->w.heap[k]?=some (.cells cs ty)->(QaR w m (.map (es.push ⟨.string (Qaf Qbl),u18,c⟩) (c+1))).heap[k]?=some (.cells cs ty):=fun k cs ty _ h=>by
  rw[Qan (fun e=>by rw[e,h5]at h;cases h)];exact h
 have aa:(QaR w m (.map (es.push ⟨.string (Qaf Qbl),u18,c⟩) (c+1))).heap[b]?=some (Qcy t (if L 29 then u25 else Value.map none) mv2):=by rw[Qan (Ne.symm ab)];exact J.rd
 refine⟨m,es,c,h3,h5,h6,hn,?_⟩;exact⟨J.hb,Qbj J.mod h4,by rw[Qag L (by decide)];exact aa,ui J.cm4,ui J.cm7,ui J.cm10,ui J.cm13,fun _=>Qai _ h1,ui J.cm19,ui J.cm22,ui J.cm25,ui J.cv13,fun _=>Qai _ h2,ui J.cv19,fun h=>(J.a12 (ud h)).keep hk,fun h=>(J.a15 (ud h)).keep hk,fun h=>(J.a18 (ud h)).keep hk,fun _=>⟨m,_,_,h3,h4,Qa3 h5,h6.push hn hx hg⟩,fun h=>J.m26u (ud h),fun h=>J.m27 (ud h),fun h=>J.m28 (ud h),ui J.m29⟩
theorem JC.s19(J:JC t b W mv2 L u8 u16 u18 u20 u25 u26 u27 w)(h0:L 19=false)(h1:L 1=true)(h2:L 18=true):∃ m es c,u8=.map (some m)/\w.heap[m]?=some (.map es c)/\Qcq es (fC b L u16 u18 u20)/\fC b L u16 u18 u20 Qbc=none/\JC t b W mv2 (up L 19) u8 u16 u18 u20 u25 u26 u27 (QaR w m (.map (es.push ⟨.string (Qaf Qbc),u20,c⟩) (c+1))):=by
 obtain⟨m,es,c,h3,h4,h5,h6⟩:=J.mp h1;have hn:fC b L u16 u18 u20 Qbc=none:=by unfold fC;rw[show wL cNs Qbc=6 from by decide];simp only[h0];rfl
 have hx:fC b (up L 19) u16 u18 u20 Qbc=some (u20):=by unfold fC;rw[show wL cNs Qbc=6 from by decide];simp only[QbQ];rfl
 have hg:∀ z,z≠Qbc->fC b (up L 19) u16 u18 u20 z=fC b L u16 u18 u20 z:=fun z hz=>by
  have hw:wL cNs z≠6:=fun e=>hz (by have:=QaA cNs z 5 e;simpa[cNs]using this.symm)
  unfold fC;split<;>first|(rename_i e;exact absurd e hw)|simp only[Qag L (by decide)]|rfl
 have ab:m≠b:=by have:=J.hb;omega
 have hk:∀ k cs ty,W.heap.size<=k->w.heap[k]?=some (.cells cs ty)->(QaR w m (.map (es.push ⟨.string (Qaf Qbc),u20,c⟩) (c+1))).heap[k]?=some (.cells cs ty):=fun k cs ty _ h=>by
  rw[Qan (fun e=>by rw[e,h5]at h;cases h)];exact h
 have aa:(QaR w m (.map (es.push ⟨.string (Qaf Qbc),u20,c⟩) (c+1))).heap[b]?=some (Qcy t (if L 29 then u25 else Value.map none) mv2):=by rw[Qan (Ne.symm ab)];exact J.rd
 refine⟨m,es,c,h3,h5,h6,hn,?_⟩;exact⟨J.hb,Qbj J.mod h4,by rw[Qag L (by decide)];exact aa,ui J.cm4,ui J.cm7,ui J.cm10,ui J.cm13,ui J.cm16,fun _=>Qai _ h1,ui J.cm22,ui J.cm25,ui J.cv13,ui J.cv16,fun _=>Qai _ h2,fun h=>(J.a12 (ud h)).keep hk,fun h=>(J.a15 (ud h)).keep hk,fun h=>(J.a18 (ud h)).keep hk,fun _=>⟨m,_,_,h3,h4,Qa3 h5,h6.push hn hx hg⟩,fun h=>J.m26u (ud h),fun h=>J.m27 (ud h),fun h=>J.m28 (ud h),ui J.m29⟩
theorem JC.s22(J:JC t b W mv2 L u8 u16 u18 u20 u25 u26 u27 w)(h0:L 22=false)(h1:L 1=true):∃ m es c,u8=.map (some m)/\w.heap[m]?=some (.map es c)/\Qcq es (fC b L u16 u18 u20)/\fC b L u16 u18 u20 QhB=none/\JC t b W mv2 (up L 22) u8 u16 u18 u20 u25 u26 u27 (QaR w m (.map (es.push ⟨.string (Qaf QhB),.func (.func 125) #[.pointer (some ⟨b,0,none⟩)] #[],c⟩) (c+1))):=by
 obtain⟨m,es,c,h3,h4,h5,h6⟩:=J.mp h1;have hn:fC b L u16 u18 u20 QhB=none:=by unfold fC;rw[show wL cNs QhB=7 from by decide];simp only[h0];rfl
 have hx:fC b (up L 22) u16 u18 u20 QhB=some (.func (.func 125) #[.pointer (some ⟨b,0,none⟩)] #[]):=by unfold fC;rw[show wL cNs QhB=7 from by decide];simp only[QbQ];rfl
 have hg:∀ z,z≠QhB->fC b (up L 22) u16 u18 u20 z=fC b L u16 u18 u20 z:=fun z hz=>by
  have hw:wL cNs z≠7:=fun e=>hz (by have:=QaA cNs z 6 e;simpa[cNs]using this.symm)
  unfold fC;split<;>first|(rename_i e;exact absurd e hw)|simp only[Qag L (by decide)]|rfl
 have ab:m≠b:=by have:=J.hb;omega
 have hk:∀ k cs ty,W.heap.size<=k->w.heap[k]?=some (.cells cs ty)->(QaR w m (.map (es.push ⟨.string (Qaf QhB),.func (.func 125) #[.pointer (some ⟨b,0,none⟩)] #[],c⟩) (c+1))).heap[k]?=some (.cells cs ty):=fun k cs ty _ h=>by
  rw[Qan (fun e=>by rw[e,h5]at h;cases h)];exact h
 have aa:(QaR w m (.map (es.push ⟨.string (Qaf QhB),.func (.func 125) #[.pointer (some ⟨b,0,none⟩)] #[],c⟩) (c+1))).heap[b]?=some (Qcy t (if L 29 then u25 else Value.map none) mv2):=by rw[Qan (Ne.symm ab)];exact J.rd
 refine⟨m,es,c,h3,h5,h6,hn,?_⟩;exact⟨J.hb,Qbj J.mod h4,by rw[Qag L (by decide)];exact aa,ui J.cm4,ui J.cm7,ui J.cm10,ui J.cm13,ui J.cm16,ui J.cm19,fun _=>Qai _ h1,ui J.cm25,ui J.cv13,ui J.cv16,ui J.cv19,fun h=>(J.a12 (ud h)).keep hk,fun h=>(J.a15 (ud h)).keep hk,fun h=>(J.a18 (ud h)).keep hk,fun _=>⟨m,_,_,h3,h4,Qa3 h5,h6.push hn hx hg⟩,fun h=>J.m26u (ud h),fun h=>J.m27 (ud h),fun h=>J.m28 (ud h),ui J.m29⟩
theorem JC.s25(J:JC t b W mv2 L u8 u16 u18 u20 u25 u26 u27 w)(h0:L 25=false)(h1:L 1=true):∃ m es c,u8=.map (some m)/\w.heap[m]?=some (.map es c)/\Qcq es (fC b L u16 u18 u20)/\fC b L u16 u18 u20 kIf=none/\JC t b W mv2 (up L 25) u8 u16 u18 u20 u25 u26 u27 (QaR w m (.map (es.push ⟨.string (Qaf kIf),.func (.func 126) #[.pointer (some ⟨b,0,none⟩)] #[],c⟩) (c+1))):=by
 obtain⟨m,es,c,h3,h4,h5,h6⟩:=J.mp h1;have hn:fC b L u16 u18 u20 kIf=none:=by unfold fC;rw[show wL cNs kIf=8 from by decide];simp only[h0];rfl
 have hx:fC b (up L 25) u16 u18 u20 kIf=some (.func (.func 126) #[.pointer (some ⟨b,0,none⟩)] #[]):=by unfold fC;rw[show wL cNs kIf=8 from by decide];simp only[QbQ];rfl
 have hg:∀ z,z≠kIf->fC b (up L 25) u16 u18 u20 z=fC b L u16 u18 u20 z:=fun z hz=>by
  have hw:wL cNs z≠8:=fun e=>hz (by have:=QaA cNs z 7 e;simpa[cNs]using this.symm)
  unfold fC;split<;>first|(rename_i e;exact absurd e hw)|simp only[Qag L (by decide)]|rfl
 have ab:m≠b:=by have:=J.hb;omega
 have hk:∀ k cs ty,W.heap.size<=k->w.heap[k]?=some (.cells cs ty)->(QaR w m (.map (es.push ⟨.string (Qaf kIf),.func (.func 126) #[.pointer (some ⟨b,0,none⟩)] #[],c⟩) (c+1))).heap[k]?=some (.cells cs ty):=fun k cs ty _ h=>by
  rw[Qan (fun e=>by rw[e,h5]at h;cases h)];exact h
 have aa:(QaR w m (.map (es.push ⟨.string (Qaf kIf),.func (.func 126) #[.pointer (some ⟨b,0,none⟩)] #[],c⟩) (c+1))).heap[b]?=some (Qcy t (if L 29 then u25 else Value.map none) mv2):=by rw[Qan (Ne.symm ab)];exact J.rd
 refine⟨m,es,c,h3,h5,h6,hn,?_⟩;exact⟨J.hb,Qbj J.mod h4,by rw[Qag L (by decide)];exact aa,ui J.cm4,ui J.cm7,ui J.cm10,ui J.cm13,ui J.cm16,ui J.cm19,ui J.cm22,fun _=>Qai _ h1,ui J.cv13,ui J.cv16,ui J.cv19,fun h=>(J.a12 (ud h)).keep hk,fun h=>(J.a15 (ud h)).keep hk,fun h=>(J.a18 (ud h)).keep hk,fun _=>⟨m,_,_,h3,h4,Qa3 h5,h6.push hn hx hg⟩,fun h=>J.m26u (ud h),fun h=>J.m27 (ud h),fun h=>J.m28 (ud h),ui J.m29⟩
theorem JC.s26(J:JC t b W mv2 L u8 u16 u18 u20 u25 u26 u27 w)(h0:L 26=false)(h1:L 1=true)(ah:L 4=true)(ai:L 7=true)(aa:L 10=true)(ab:L 13=true)(ac:L 16=true)(ad:L 19=true)(ae:L 22=true)(af:L 25=true):JC t b W mv2 (up L 26) u8 u16 u18 u20 u8 u26 u27 w:=by
 have ag:L 29=false:=nf J.m29 h0;have hk:∀ k cs ty,W.heap.size<=k->w.heap[k]?=some (.cells cs ty)->w.heap[k]?=some (.cells cs ty):=fun k cs ty _ h=>h
 have aj:∀(m:Nat) (es:Array MapEntry) (c:Nat),w.heap[m]?=some (Obj.map es c)->w.heap[m]?=some (Obj.map es c):=fun m es c h=>h
 exact⟨J.hb,J.mod.trans (Mod.refl b w),by have:=J.rd;rw[ag]at this;rw[Qag L (by decide),ag];exact this,ui J.cm4,ui J.cm7,ui J.cm10,ui J.cm13,ui J.cm16,ui J.cm19,ui J.cm22,ui J.cm25,ui J.cv13,ui J.cv16,ui J.cv19,fun h=>(J.a12 (ud h)).keep hk,fun h=>(J.a15 (ud h)).keep hk,fun h=>(J.a18 (ud h)).keep hk,fun h=>by obtain⟨m,es,c,h3,h4,h5,h6⟩:=J.mp (ud h);exact⟨m,es,c,h3,h4,aj m _ _ h5,h6.congr (fun x=>(QnB 26 (by decide) x).symm)⟩,fun _=>⟨rfl,Qai _ h1,Qai _ ah,Qai _ ai,Qai _ aa,Qai _ ab,Qai _ ac,Qai _ ad,Qai _ ae,Qai _ af⟩,fun h=>J.m27 (ud h),fun h=>J.m28 (ud h),ui J.m29⟩
theorem JC.s27(J:JC t b W mv2 L u8 u16 u18 u20 u25 u26 u27 w)(h0:L 27=false):JC t b W mv2 (up L 27) u8 u16 u18 u20 u25 (.pointer (some ⟨b,0,none⟩)) u27 w:=by
 have hk:∀ k cs ty,W.heap.size<=k->w.heap[k]?=some (.cells cs ty)->w.heap[k]?=some (.cells cs ty):=fun k cs ty _ h=>h
 have aa:∀(m:Nat) (es:Array MapEntry) (c:Nat),w.heap[m]?=some (Obj.map es c)->w.heap[m]?=some (Obj.map es c):=fun m es c h=>h
 exact⟨J.hb,J.mod.trans (Mod.refl b w),by rw[Qag L (by decide)];exact J.rd,ui J.cm4,ui J.cm7,ui J.cm10,ui J.cm13,ui J.cm16,ui J.cm19,ui J.cm22,ui J.cm25,ui J.cv13,ui J.cv16,ui J.cv19,fun h=>(J.a12 (ud h)).keep hk,fun h=>(J.a15 (ud h)).keep hk,fun h=>(J.a18 (ud h)).keep hk,fun h=>by obtain⟨m,es,c,h3,h4,h5,h6⟩:=J.mp (ud h);exact⟨m,es,c,h3,h4,aa m _ _ h5,h6.congr (fun x=>(QnB 27 (by decide) x).symm)⟩,fun h=>J.m26u (ud h),fun _=>rfl,fun h=>J.m28 (ud h),ui J.m29⟩
theorem JC.s28(J:JC t b W mv2 L u8 u16 u18 u20 u25 u26 u27 w)(h0:L 28=false):JC t b W mv2 (up L 28) u8 u16 u18 u20 u25 u26 (.pointer (some ⟨b,8,none⟩)) w:=by
 have hk:∀ k cs ty,W.heap.size<=k->w.heap[k]?=some (.cells cs ty)->w.heap[k]?=some (.cells cs ty):=fun k cs ty _ h=>h
 have aa:∀(m:Nat) (es:Array MapEntry) (c:Nat),w.heap[m]?=some (Obj.map es c)->w.heap[m]?=some (Obj.map es c):=fun m es c h=>h
 exact⟨J.hb,J.mod.trans (Mod.refl b w),by rw[Qag L (by decide)];exact J.rd,ui J.cm4,ui J.cm7,ui J.cm10,ui J.cm13,ui J.cm16,ui J.cm19,ui J.cm22,ui J.cm25,ui J.cv13,ui J.cv16,ui J.cv19,fun h=>(J.a12 (ud h)).keep hk,fun h=>(J.a15 (ud h)).keep hk,fun h=>(J.a18 (ud h)).keep hk,fun h=>by obtain⟨m,es,c,h3,h4,h5,h6⟩:=J.mp (ud h);exact⟨m,es,c,h3,h4,aa m _ _ h5,h6.congr (fun x=>(QnB 28 (by decide) x).symm)⟩,fun h=>J.m26u (ud h),fun h=>J.m27 (ud h),fun _=>rfl,ui J.m29⟩
theorem JC.s29(J:JC t b W mv2 L u8 u16 u18 u20 u25 u26 u27 w)(h0:L 29=false)(aa:L 26=true):JC t b W mv2 (up L 29) u8 u16 u18 u20 u25 u26 u27 (w.setCell ⟨b,8,none⟩ u25):=by
 have hb:=J.hb;have hk:∀ k cs ty,W.heap.size<=k->w.heap[k]?=some (.cells cs ty)->(w.setCell ⟨b,8,none⟩ u25).heap[k]?=some (.cells cs ty):=fun k cs ty hk h=>by rw[Below.heap_setCell _ _ _ _ (show k≠b by omega)];exact h
 have ab:∀(m:Nat) (es:Array MapEntry) (c:Nat),w.heap[m]?=some (Obj.map es c)->(w.setCell ⟨b,8,none⟩ u25).heap[m]?=some (Obj.map es c):=fun m es c h=>by
  have hr:=J.rd;rw[Below.heap_setCell _ _ _ _ (show m≠b from fun e=>by rw[e,hr]at h;cases h)];exact h
 exact⟨J.hb,J.mod.setCell 8 u25,by rw[QbQ];exact Qah _ _ _ _ _ _ J.rd,ui J.cm4,ui J.cm7,ui J.cm10,ui J.cm13,ui J.cm16,ui J.cm19,ui J.cm22,ui J.cm25,ui J.cv13,ui J.cv16,ui J.cv19,fun h=>(J.a12 (ud h)).keep hk,fun h=>(J.a15 (ud h)).keep hk,fun h=>(J.a18 (ud h)).keep hk,fun h=>by obtain⟨m,es,c,h3,h4,h5,h6⟩:=J.mp (ud h);exact⟨m,es,c,h3,h4,ab m _ _ h5,h6.congr (fun x=>(QnB 29 (by decide) x).symm)⟩,fun h=>J.m26u (ud h),fun h=>J.m27 (ud h),fun h=>J.m28 (ud h),fun _=>Qai _ aa⟩
theorem JC.done(J:JC t b W mv2 L u8 u16 u18 u20 u25 u26 u27 w)(aa:∀ i,i<30->L i=true):∃ m p1 k1 p2 k2 p3 k3,w.heap[b]?=some (Qcy t (.map (some m)) mv2)/\QsJ w b m p1 k1 p2 k2 p3 k3/\Mod b W w/\W.heap.size<=m:=by
 obtain⟨m,es,c,h3,h4,h5,h6⟩:=J.mp (aa 1 (by decide));obtain⟨p1,k1,e1,hp1,hk1,ae,ab⟩:=J.a12 (aa 12 (by decide));obtain⟨p2,k2,e2,hp2,hk2,af,ac⟩:=J.a15 (aa 15 (by decide));obtain⟨p3,k3,e3,hp3,hk3,ag,ad⟩:=J.a18 (aa 18 (by decide));have hb:=J.hb;have hr:=J.rd;rw[aa 29 (by decide),if_pos rfl,(J.m26 (aa 26 (by decide))).1,h3]at hr
 have hf:Qcq es (cmdFn b p1 k1 p2 k2 p3 k3):=h6.congr (fun x=>by
  subst e1 e2 e3;unfold fC cmdFn;simp only[aa 4 (by decide),aa 7 (by decide),aa 10 (by decide),aa 13 (by decide),aa 16 (by decide),aa 19 (by decide),aa 22 (by decide),aa 25 (by decide),if_true]
  all_goals (
   generalize wL cNs x=i
   match i with
   |0|1|2|3|4|5|6|7|8=>rfl
   | n+9=>rfl))
 exact⟨m,p1,k1,p2,k2,p3,k3,hr,⟨Qm8 (K:=9) (E:=211) underlying207 underlying9 Qw3 h5 hf,⟨Qaa ae 0,by omega⟩,Qaa ab 0,⟨Qaa af 0,by omega⟩,Qaa ac 0,⟨Qaa ag 0,by omega⟩,Qaa ad 0,by omega,by omega,by omega,by omega,QaI h5⟩,J.mod,h4⟩
end
theorem QfX{P:Program}{md:Region.Mode}{ac:Array Oper}{Q:Exit->Act->World->Prop}{S:World->Prop}(J:Array Bool->Act->World->Prop)
 (ae:∀ l a w,J l a w->l.size=ac.size) (hS:∀ l a w,J l a w->S w)
 (ab:∀ l a w i,J l a w->i∈Region.ready md ac l->wpOp P ac Q i (fun a' w'=>J (l.setIfInBounds i true) a' w') a w)
 (aa:∀ l a w,J l a w->Region.ready md ac l=[]->Q .normal a w) :
 ∀(fuel:Nat) (l:Array Bool) (a:Act) (w:World),l.toList.count false<=fuel->J l a w->wpAnyH P md ac Q S fuel l a w
 |0,l,a,w,hf,hJ=>by
  have hr:Region.ready md ac l=[]:=by
   rw[List.eq_nil_iff_forall_not_mem];intro i hi;obtain⟨h0,o,ho,_⟩:=mem_ready.1 hi;have ad:i<l.size:=by rw[ae l a w hJ];exact(Array.getElem?_eq_some_iff.1 ho).1
   have:l[i]=false:=by simpa[ad]using h0
   have hm:false∈l.toList:=by rw[<-this];simp
   have:=List.count_pos_iff.2 hm;omega
  exact⟨hr,aa l a w hJ hr⟩
 |fuel+1,l,a,w,hf,hJ=>by
  refine⟨aa l a w hJ,fun i hi=>wpOp_mono (fun a' w' h=>⟨hS _ _ _ h,?_⟩) (ab l a w i hJ hi)⟩;refine QfX J ae hS ab aa fuel _ a' w' ?_ h;obtain⟨h0,o,ho,_⟩:=mem_ready.1 hi;have ad:i<l.size:=by rw[ae l a w hJ];exact(Array.getElem?_eq_some_iff.1 ho).1
  have hv:l[i]=false:=by simpa[ad]using h0
  have e:(l.setIfInBounds i true).toList=l.toList.set i true:=by simp
  rw[e];have hc:=List.count_set (a:=true) (b:=false) (l:=l.toList) (i:=i) (h:=by simpa using ad);have af:l.toList[i]'(by simpa using ad)=false:=by simpa using hv
  rw[af]at hc;simp only[beq_self_eq_true,if_true,show((true:Bool)==false)=false from rfl,Bool.false_eq_true,if_false]at hc;have hm:false∈l.toList:=by rw[<-af];simp
  have:=List.count_pos_iff.2 hm;omega
theorem QeQ{md:Region.Mode}{aa:Array Oper}{l:Array Bool}(hl:l.size=aa.size)(hd:((List.range aa.size).all fun i=>(aa[i]?).all fun o=>o.after.all fun e=>decide (e.on<i))=true)(hr:Region.ready md aa l=[]):∀ i,i<aa.size->l.getD i false=true:=by
 intro i
 induction i using Nat.strongRecOn with
 |_ i ih=>
  intro hi;apply Classical.byContradiction;intro hn
  have hm:i∈Region.ready md aa l:=by
   refine mem_ready.2 ⟨?_,aa[i],by simp[hi],fun e he _=>?_⟩
   ·have:i<l.size:=by omega
    simp[this]at hn ⊢;exact hn
   ·have h1:=List.all_eq_true.1 hd i (List.mem_range.2 hi);rw[Array.getElem?_eq_getElem hi]at h1;simp only[Option.all_some]at h1;have h2:=Array.all_eq_true_iff_forall_mem.1 h1 e he;have h3:e.on<i:=of_decide_eq_true h2;exact ih e.on h3 (by omega)
  rw[hr]at hm;cases hm
theorem QaP{P:Program}{aa:Array Oper}{Q:Exit->Act->World->Prop}{i:Nat}{o:Oper}{K:Act->World->Prop}{a:Act}{w:World}(ho:aa[i]?=some o)(hw:Region.wanted o (yielded aa a.tmps)=true)(h:o.wp P a w K Q):wpOp P aa Q i K a w:=by
 unfold wpOp;rw[ho];dsimp only;rw[if_pos hw];exact Or.inl h
def Qki (w:World) (B:Nat) (h:Bool) (v:Value):Prop:=
 ∃ p,v=.func (.func 185) #[] #[.pointer (some ⟨p,0,none⟩)]∧B≤p∧w.heap[p]?=some (.cells #[.bool h] 4)
theorem Qki.keep{w w':World}{B:Nat}{h:Bool}{v:Value}(hh:Qki w B h v)(hk:∀ k cs ty,B<=k->w.heap[k]?=some (.cells cs ty)->w'.heap[k]?=some (.cells cs ty)):Qki w' B h v:=by
 obtain⟨p,hv,hp,h1⟩:=hh;exact⟨p,hv,hp,hk p _ _ hp h1⟩
def fT (b:Nat) (L:Nat→Bool) (u30 u31:Value) (x:L8):Option Value:=
 match wL tNs x with
 | 1=>if L 3 then some (u30) else none
 | 2=>if L 5 then some (u31) else none
 | 3=>if L 8 then some (.func (.func 128) #[.pointer (some ⟨b,0,none⟩)] #[]) else none
 | 4=>if L 10 then some (.func (.func 129) #[] #[.pointer (some ⟨b+1,0,none⟩)]) else none
 | 5=>if L 12 then some (.func (.func 131) #[] #[.pointer (some ⟨b+1,0,none⟩)]) else none
 | 6=>if L 14 then some (.func (.func 132) #[] #[.pointer (some ⟨b+1,0,none⟩)]) else none
 | 7=>if L 16 then some (.func (.func 135) #[] #[.pointer (some ⟨b+1,0,none⟩)]) else none
 | 8=>if L 18 then some (.func (.func 138) #[] #[.pointer (some ⟨b+1,0,none⟩)]) else none
 | 9=>if L 21 then some (.func (.func 139) #[.pointer (some ⟨b,0,none⟩)] #[]) else none
 | 10=>if L 24 then some (.func (.func 140) #[.pointer (some ⟨b,0,none⟩)] #[]) else none
 | _=>none
structure JT (t:ByteArray) (b:Nat) (W:World) (mv1:Value) (L:Nat→Bool) (u29 u30 u31 u43 u44 u45:Value) (w:World):Prop where
 hb:b < W.heap.size
 mod:Mod b W w
 rd:w.heap[b]?=some (Qcy t mv1 (if L 28 then u43 else Value.map none))
 cm3:L 3=true→L 1=true
 cm5:L 5=true→L 1=true
 cm8:L 8=true→L 1=true
 cm10:L 10=true→L 1=true
 cm12:L 12=true→L 1=true
 cm14:L 14=true→L 1=true
 cm16:L 16=true→L 1=true
 cm18:L 18=true→L 1=true
 cm21:L 21=true→L 1=true
 cm24:L 24=true→L 1=true
 cv3:L 3=true→L 2=true
 cv5:L 5=true→L 4=true
 a2:L 2=true→Qki w W.heap.size true u30
 a4:L 4=true→Qki w W.heap.size false u31
 mp:L 1=true→∃ m es c,u29=.map (some m)∧W.heap.size≤m∧w.heap[m]?=some (.map es c)∧Qcq es (fT b L u30 u31)
 m25:L 25=true→u43=u29∧L 1=true∧L 3=true∧L 5=true∧L 8=true∧L 10=true∧L 12=true∧L 14=true∧L 16=true∧L 18=true∧L 21=true∧L 24=true
 m26:L 26=true→u44=.pointer (some ⟨b,0,none⟩)
 m27:L 27=true→u45=.pointer (some ⟨b,9,none⟩)
 m28:L 28=true→L 25=true
section
variable {t:ByteArray} {b:Nat} {W:World} {mv1:Value} {L:Nat→Bool} {u29 u30 u31 u43 u44 u45:Value} {w:World}
theorem Qqi(i:Nat)(h:i≠3/\i≠5/\i≠8/\i≠10/\i≠12/\i≠14/\i≠16/\i≠18/\i≠21/\i≠24)(x:L8):fT b (up L i) u30 u31 x=fT b L u30 u31 x:=by
 obtain⟨h0,h1,h2,h3,h4,h5,h6,h7,h8,h9⟩:=h;unfold fT;simp only[Qag L (Ne.symm h0),Qag L (Ne.symm h1),Qag L (Ne.symm h2),Qag L (Ne.symm h3),Qag L (Ne.symm h4),Qag L (Ne.symm h5),Qag L (Ne.symm h6),Qag L (Ne.symm h7),Qag L (Ne.symm h8),Qag L (Ne.symm h9)]
theorem JT.m25u(J:JT t b W mv1 L u29 u30 u31 u43 u44 u45 w){i:Nat}(h:L 25=true):u43=u29/\up L i 1=true/\up L i 3=true/\up L i 5=true/\up L i 8=true/\up L i 10=true/\up L i 12=true/\up L i 14=true/\up L i 16=true/\up L i 18=true/\up L i 21=true/\up L i 24=true:=by
 obtain⟨e1,e2,e3,e4,e5,e6,e7,e8,e9,aa,ab,ac⟩:=J.m25 h;exact⟨e1,Qai _ e2,Qai _ e3,Qai _ e4,Qai _ e5,Qai _ e6,Qai _ e7,Qai _ e8,Qai _ e9,Qai _ aa,Qai _ ab,Qai _ ac⟩
theorem JT.s1(J:JT t b W mv1 L u29 u30 u31 u43 u44 u45 w)(h0:L 1=false):JT t b W mv1 (up L 1) (.map (some w.heap.size)) u30 u31 u43 u44 u45 (w.alloc (Obj.map #[] 0)):=by
 have hk:∀ k cs ty,W.heap.size<=k->w.heap[k]?=some (.cells cs ty)->(w.alloc (Obj.map #[] 0)).heap[k]?=some (.cells cs ty):=fun k cs ty _ h=>Qae h
 have aa:(w.alloc (Obj.map #[] 0)).heap[b]?=some (Qcy t mv1 (if L 28 then u43 else Value.map none)):=Qae J.rd;have n3:L 3=false:=nf J.cm3 h0;have n5:L 5=false:=nf J.cm5 h0;have n8:L 8=false:=nf J.cm8 h0;have ab:L 10=false:=nf J.cm10 h0;have ac:L 12=false:=nf J.cm12 h0;have ad:L 14=false:=nf J.cm14 h0;have ae:L 16=false:=nf J.cm16 h0;have af:L 18=false:=nf J.cm18 h0;have ag:L 21=false:=nf J.cm21 h0;have ah:L 24=false:=nf J.cm24 h0;exact⟨J.hb,J.mod.trans ((Mod.refl b w).alloc _),by rw[Qag L (by decide)];exact aa,ui J.cm3,ui J.cm5,ui J.cm8,ui J.cm10,ui J.cm12,ui J.cm14,ui J.cm16,ui J.cm18,ui J.cm21,ui J.cm24,ui J.cv3,ui J.cv5,fun h=>(J.a2 (ud h)).keep hk,fun h=>(J.a4 (ud h)).keep hk,fun _=>⟨w.heap.size,#[],0,rfl,J.mod.size,Qat _ _,Qcq.empty.congr (fun x=>by rw[Qqi 1 (by decide)];unfold fT;simp only[n3,n5,n8,ab,ac,ad,ae,af,ag,ah];split<;>rfl)⟩,fun h=>absurd (J.m25 (ud h)).2.1 (by rw[h0];decide),fun h=>J.m26 (ud h),fun h=>J.m27 (ud h),ui J.m28⟩
theorem JT.s2(J:JT t b W mv1 L u29 u30 u31 u43 u44 u45 w)(h0:L 2=false):JT t b W mv1 (up L 2) u29 (.func (.func 185) #[] #[.pointer (some ⟨w.heap.size,0,none⟩)]) u31 u43 u44 u45 (w.alloc (.cells #[.bool true] 4)):=by
 have hk:∀ k cs ty,W.heap.size<=k->w.heap[k]?=some (.cells cs ty)->(w.alloc (.cells #[.bool true] 4)).heap[k]?=some (.cells cs ty):=fun k cs ty _ h=>Qae h
 have ab:∀(m:Nat) (es:Array MapEntry) (c:Nat),w.heap[m]?=some (Obj.map es c)->(w.alloc (.cells #[.bool true] 4)).heap[m]?=some (Obj.map es c):=fun m es c h=>Qae h
 have aa:(w.alloc (.cells #[.bool true] 4)).heap[b]?=some (Qcy t mv1 (if L 28 then u43 else Value.map none)):=Qae J.rd;have hn:L 3=false:=nf J.cv3 h0;have ac:=J.mod.size;exact⟨J.hb,J.mod.trans ((Mod.refl b w).alloc _),by rw[Qag L (by decide)];exact aa,ui J.cm3,ui J.cm5,ui J.cm8,ui J.cm10,ui J.cm12,ui J.cm14,ui J.cm16,ui J.cm18,ui J.cm21,ui J.cm24,ui J.cv3,ui J.cv5,fun _=>⟨w.heap.size,rfl,ac,Qat _ _⟩,fun h=>(J.a4 (ud h)).keep hk,fun h=>by obtain⟨m,es,c,h3,h4,h5,h6⟩:=J.mp (ud h);exact⟨m,es,c,h3,h4,ab m _ _ h5,h6.congr (fun x=>by rw[Qqi 2 (by decide)];unfold fT;simp only[hn,Bool.false_eq_true,if_false])⟩,fun h=>J.m25u (ud h),fun h=>J.m26 (ud h),fun h=>J.m27 (ud h),ui J.m28⟩
theorem JT.s4(J:JT t b W mv1 L u29 u30 u31 u43 u44 u45 w)(h0:L 4=false):JT t b W mv1 (up L 4) u29 u30 (.func (.func 185) #[] #[.pointer (some ⟨w.heap.size,0,none⟩)]) u43 u44 u45 (w.alloc (.cells #[.bool false] 4)):=by
 have hk:∀ k cs ty,W.heap.size<=k->w.heap[k]?=some (.cells cs ty)->(w.alloc (.cells #[.bool false] 4)).heap[k]?=some (.cells cs ty):=fun k cs ty _ h=>Qae h
 have ab:∀(m:Nat) (es:Array MapEntry) (c:Nat),w.heap[m]?=some (Obj.map es c)->(w.alloc (.cells #[.bool false] 4)).heap[m]?=some (Obj.map es c):=fun m es c h=>Qae h
 have aa:(w.alloc (.cells #[.bool false] 4)).heap[b]?=some (Qcy t mv1 (if L 28 then u43 else Value.map none)):=Qae J.rd;have hn:L 5=false:=nf J.cv5 h0;have ac:=J.mod.size;exact⟨J.hb,J.mod.trans ((Mod.refl b w).alloc _),by rw[Qag L (by decide)];exact aa,ui J.cm3,ui J.cm5,ui J.cm8,ui J.cm10,ui J.cm12,ui J.cm14,ui J.cm16,ui J.cm18,ui J.cm21,ui J.cm24,ui J.cv3,ui J.cv5,fun h=>(J.a2 (ud h)).keep hk,fun _=>⟨w.heap.size,rfl,ac,Qat _ _⟩,fun h=>by obtain⟨m,es,c,h3,h4,h5,h6⟩:=J.mp (ud h);exact⟨m,es,c,h3,h4,ab m _ _ h5,h6.congr (fun x=>by rw[Qqi 4 (by decide)];unfold fT;simp only[hn,Bool.false_eq_true,if_false])⟩,fun h=>J.m25u (ud h),fun h=>J.m26 (ud h),fun h=>J.m27 (ud h),ui J.m28⟩
theorem JT.s3(J:JT t b W mv1 L u29 u30 u31 u43 u44 u45 w)(h0:L 3=false)(h1:L 1=true)(h2:L 2=true):∃ m es c,u29=.map (some m)/\w.heap[m]?=some (.map es c)/\Qcq es (fT b L u30 u31)/\fT b L u30 u31 QfB=none/\JT t b W mv1 (up L 3) u29 u30 u31 u43 u44 u45 (QaR w m (.map (es.push ⟨.string (Qaf QfB),u30,c⟩) (c+1))):=by
 obtain⟨m,es,c,h3,h4,h5,h6⟩:=J.mp h1;have hn:fT b L u30 u31 QfB=none:=by unfold fT;rw[show wL tNs QfB=1 from by decide];simp only[h0];rfl
 have hx:fT b (up L 3) u30 u31 QfB=some (u30):=by unfold fT;rw[show wL tNs QfB=1 from by decide];simp only[QbQ];rfl
 have hg:∀ z,z≠QfB->fT b (up L 3) u30 u31 z=fT b L u30 u31 z:=fun z hz=>by
  have hw:wL tNs z≠1:=fun e=>hz (by have:=QaA tNs z 0 e;simpa[tNs]using this.symm)
  unfold fT;split<;>first|(rename_i e;exact absurd e hw)|simp only[Qag L (by decide)]|rfl
 have ab:m≠b:=by have:=J.hb;omega
 have hk:∀ k cs ty,W.heap.size<=k->w.heap[k]?=some (.cells cs ty)->(QaR w m (.map (es.push ⟨.string (Qaf QfB),u30,c⟩) (c+1))).heap[k]?=some (.cells cs ty):=fun k cs ty _ h=>by
  rw[Qan (fun e=>by rw[e,h5]at h;cases h)];exact h
 have aa:(QaR w m (.map (es.push ⟨.string (Qaf QfB),u30,c⟩) (c+1))).heap[b]?=some (Qcy t mv1 (if L 28 then u43 else Value.map none)):=by rw[Qan (Ne.symm ab)];exact J.rd
 refine⟨m,es,c,h3,h5,h6,hn,?_⟩;exact⟨J.hb,Qbj J.mod h4,by rw[Qag L (by decide)];exact aa,fun _=>Qai _ h1,ui J.cm5,ui J.cm8,ui J.cm10,ui J.cm12,ui J.cm14,ui J.cm16,ui J.cm18,ui J.cm21,ui J.cm24,fun _=>Qai _ h2,ui J.cv5,fun h=>(J.a2 (ud h)).keep hk,fun h=>(J.a4 (ud h)).keep hk,fun _=>⟨m,_,_,h3,h4,Qa3 h5,h6.push hn hx hg⟩,fun h=>J.m25u (ud h),fun h=>J.m26 (ud h),fun h=>J.m27 (ud h),ui J.m28⟩
theorem JT.s5(J:JT t b W mv1 L u29 u30 u31 u43 u44 u45 w)(h0:L 5=false)(h1:L 1=true)(h2:L 4=true):∃ m es c,u29=.map (some m)/\w.heap[m]?=some (.map es c)/\Qcq es (fT b L u30 u31)/\fT b L u30 u31 QcD=none/\JT t b W mv1 (up L 5) u29 u30 u31 u43 u44 u45 (QaR w m (.map (es.push ⟨.string (Qaf QcD),u31,c⟩) (c+1))):=by
 obtain⟨m,es,c,h3,h4,h5,h6⟩:=J.mp h1;have hn:fT b L u30 u31 QcD=none:=by unfold fT;rw[show wL tNs QcD=2 from by decide];simp only[h0];rfl
 have hx:fT b (up L 5) u30 u31 QcD=some (u31):=by unfold fT;rw[show wL tNs QcD=2 from by decide];simp only[QbQ];rfl
 have hg:∀ z,z≠QcD->fT b (up L 5) u30 u31 z=fT b L u30 u31 z:=fun z hz=>by
  have hw:wL tNs z≠2:=fun e=>hz (by have:=QaA tNs z 1 e;simpa[tNs]using this.symm)
  unfold fT;split<;>first|(rename_i e;exact absurd e hw)|simp only[Qag L (by decide)]|rfl
 have ab:m≠b:=by have:=J.hb;omega
 have hk:∀ k cs ty,W.heap.size<=k->w.heap[k]?=some (.cells cs ty)->(QaR w m (.map (es.push ⟨.string (Qaf QcD),u31,c⟩) (c+1))).heap[k]?=some (.cells cs ty):=fun k cs ty _ h=>by
  rw[Qan (fun e=>by rw[e,h5]at h;cases h)];exact h
 have aa:(QaR w m (.map (es.push ⟨.string (Qaf QcD),u31,c⟩) (c+1))).heap[b]?=some (Qcy t mv1 (if L 28 then u43 else Value.map none)):=by rw[Qan (Ne.symm ab)];exact J.rd
 refine⟨m,es,c,h3,h5,h6,hn,?_⟩;exact⟨J.hb,Qbj J.mod h4,by rw[Qag L (by decide)];exact aa,ui J.cm3,fun _=>Qai _ h1,ui J.cm8,ui J.cm10,ui J.cm12,ui J.cm14,ui J.cm16,ui J.cm18,ui J.cm21,ui J.cm24,ui J.cv3,fun _=>Qai _ h2,fun h=>(J.a2 (ud h)).keep hk,fun h=>(J.a4 (ud h)).keep hk,fun _=>⟨m,_,_,h3,h4,Qa3 h5,h6.push hn hx hg⟩,fun h=>J.m25u (ud h),fun h=>J.m26 (ud h),fun h=>J.m27 (ud h),ui J.m28⟩
theorem JT.s8(J:JT t b W mv1 L u29 u30 u31 u43 u44 u45 w)(h0:L 8=false)(h1:L 1=true):∃ m es c,u29=.map (some m)/\w.heap[m]?=some (.map es c)/\Qcq es (fT b L u30 u31)/\fT b L u30 u31 kNot=none/\JT t b W mv1 (up L 8) u29 u30 u31 u43 u44 u45 (QaR w m (.map (es.push ⟨.string (Qaf kNot),.func (.func 128) #[.pointer (some ⟨b,0,none⟩)] #[],c⟩) (c+1))):=by
 obtain⟨m,es,c,h3,h4,h5,h6⟩:=J.mp h1;have hn:fT b L u30 u31 kNot=none:=by unfold fT;rw[show wL tNs kNot=3 from by decide];simp only[h0];rfl
 have hx:fT b (up L 8) u30 u31 kNot=some (.func (.func 128) #[.pointer (some ⟨b,0,none⟩)] #[]):=by unfold fT;rw[show wL tNs kNot=3 from by decide];simp only[QbQ];rfl
 have hg:∀ z,z≠kNot->fT b (up L 8) u30 u31 z=fT b L u30 u31 z:=fun z hz=>by
  have hw:wL tNs z≠3:=fun e=>hz (by have:=QaA tNs z 2 e;simpa[tNs]using this.symm)
  unfold fT;split<;>first|(rename_i e;exact absurd e hw)|simp only[Qag L (by decide)]|rfl
 have ab:m≠b:=by have:=J.hb;omega
 have hk:∀ k cs ty,W.heap.size<=k->w.heap[k]?=some (.cells cs ty)->(QaR w m (.map (es.push ⟨.string (Qaf kNot),.func (.func 128) #[.pointer (some ⟨b,0,none⟩)] #[],c⟩) (c+1))).heap[k]?=some (.cells cs ty):=fun k cs ty _ h=>by
  rw[Qan (fun e=>by rw[e,h5]at h;cases h)];exact h
 have aa:(QaR w m (.map (es.push ⟨.string (Qaf kNot),.func (.func 128) #[.pointer (some ⟨b,0,none⟩)] #[],c⟩) (c+1))).heap[b]?=some (Qcy t mv1 (if L 28 then u43 else Value.map none)):=by rw[Qan (Ne.symm ab)];exact J.rd
 refine⟨m,es,c,h3,h5,h6,hn,?_⟩;exact⟨J.hb,Qbj J.mod h4,by rw[Qag L (by decide)];exact aa,ui J.cm3,ui J.cm5,fun _=>Qai _ h1,ui J.cm10,ui J.cm12,ui J.cm14,ui J.cm16,ui J.cm18,ui J.cm21,ui J.cm24,ui J.cv3,ui J.cv5,fun h=>(J.a2 (ud h)).keep hk,fun h=>(J.a4 (ud h)).keep hk,fun _=>⟨m,_,_,h3,h4,Qa3 h5,h6.push hn hx hg⟩,fun h=>J.m25u (ud h),fun h=>J.m26 (ud h),fun h=>J.m27 (ud h),ui J.m28⟩
theorem JT.s10(J:JT t b W mv1 L u29 u30 u31 u43 u44 u45 w)(h0:L 10=false)(h1:L 1=true):∃ m es c,u29=.map (some m)/\w.heap[m]?=some (.map es c)/\Qcq es (fT b L u30 u31)/\fT b L u30 u31 QbW=none/\JT t b W mv1 (up L 10) u29 u30 u31 u43 u44 u45 (QaR w m (.map (es.push ⟨.string (Qaf QbW),.func (.func 129) #[] #[.pointer (some ⟨b+1,0,none⟩)],c⟩) (c+1))):=by
 obtain⟨m,es,c,h3,h4,h5,h6⟩:=J.mp h1;have hn:fT b L u30 u31 QbW=none:=by unfold fT;rw[show wL tNs QbW=4 from by decide];simp only[h0];rfl
 have hx:fT b (up L 10) u30 u31 QbW=some (.func (.func 129) #[] #[.pointer (some ⟨b+1,0,none⟩)]):=by unfold fT;rw[show wL tNs QbW=4 from by decide];simp only[QbQ];rfl
 have hg:∀ z,z≠QbW->fT b (up L 10) u30 u31 z=fT b L u30 u31 z:=fun z hz=>by
  have hw:wL tNs z≠4:=fun e=>hz (by have:=QaA tNs z 3 e;simpa[tNs]using this.symm)
  unfold fT;split<;>first|(rename_i e;exact absurd e hw)|simp only[Qag L (by decide)]|rfl
 have ab:m≠b:=by have:=J.hb;omega
 have hk:∀ k cs ty,W.heap.size<=k->w.heap[k]?=some (.cells cs ty)->(QaR w m (.map (es.push ⟨.string (Qaf QbW),.func (.func 129) #[] #[.pointer (some ⟨b+1,0,none⟩)],c⟩) (c+1))).heap[k]?=some (.cells cs ty):=fun k cs ty _ h=>by
  rw[Qan (fun e=>by rw[e,h5]at h;cases h)];exact h
 have aa:(QaR w m (.map (es.push ⟨.string (Qaf QbW),.func (.func 129) #[] #[.pointer (some ⟨b+1,0,none⟩)],c⟩) (c+1))).heap[b]?=some (Qcy t mv1 (if L 28 then u43 else Value.map none)):=by rw[Qan (Ne.symm ab)];exact J.rd
 refine⟨m,es,c,h3,h5,h6,hn,?_⟩;exact⟨J.hb,Qbj J.mod h4,by rw[Qag L (by decide)];exact aa,ui J.cm3,ui J.cm5,ui J.cm8,fun _=>Qai _ h1,ui J.cm12,ui J.cm14,ui J.cm16,ui J.cm18,ui J.cm21,ui J.cm24,ui J.cv3,ui J.cv5,fun h=>(J.a2 (ud h)).keep hk,fun h=>(J.a4 (ud h)).keep hk,fun _=>⟨m,_,_,h3,h4,Qa3 h5,h6.push hn hx hg⟩,fun h=>J.m25u (ud h),fun h=>J.m26 (ud h),fun h=>J.m27 (ud h),ui J.m28⟩
theorem JT.s12(J:JT t b W mv1 L u29 u30 u31 u43 u44 u45 w)(h0:L 12=false)(h1:L 1=true):∃ m es c,u29=.map (some m)/\w.heap[m]?=some (.map es c)/\Qcq es (fT b L u30 u31)/\fT b L u30 u31 QbV=none/\JT t b W mv1 (up L 12) u29 u30 u31 u43 u44 u45 (QaR w m (.map (es.push ⟨.string (Qaf QbV),.func (.func 131) #[] #[.pointer (some ⟨b+1,0,none⟩)],c⟩) (c+1))):=by
 obtain⟨m,es,c,h3,h4,h5,h6⟩:=J.mp h1;have hn:fT b L u30 u31 QbV=none:=by unfold fT;rw[show wL tNs QbV=5 from by decide];simp only[h0];rfl
 have hx:fT b (up L 12) u30 u31 QbV=some (.func (.func 131) #[] #[.pointer (some ⟨b+1,0,none⟩)]):=by unfold fT;rw[show wL tNs QbV=5 from by decide];simp only[QbQ];rfl
 have hg:∀ z,z≠QbV->fT b (up L 12) u30 u31 z=fT b L u30 u31 z:=fun z hz=>by
  have hw:wL tNs z≠5:=fun e=>hz (by have:=QaA tNs z 4 e;simpa[tNs]using this.symm)
  unfold fT;split<;>first|(rename_i e;exact absurd e hw)|simp only[Qag L (by decide)]|rfl
 have ab:m≠b:=by have:=J.hb;omega
 have hk:∀ k cs ty,W.heap.size<=k->w.heap[k]?=some (.cells cs ty)->(QaR w m (.map (es.push ⟨.string (Qaf QbV),.func (.func 131) #[] #[.pointer (some ⟨b+1,0,none⟩)],c⟩) (c+1))).heap[k]?=some (.cells cs ty):=fun k cs ty _ h=>by
  rw[Qan (fun e=>by rw[e,h5]at h;cases h)];exact h
 have aa:(QaR w m (.map (es.push ⟨.string (Qaf QbV),.func (.func 131) #[] #[.pointer (some ⟨b+1,0,none⟩)],c⟩) (c+1))).heap[b]?=some (Qcy t mv1 (if L 28 then u43 else Value.map none)):=by rw[Qan (Ne.symm ab)];exact J.rd
 refine⟨m,es,c,h3,h5,h6,hn,?_⟩;exact⟨J.hb,Qbj J.mod h4,by rw[Qag L (by decide)];exact aa,ui J.cm3,ui J.cm5,ui J.cm8,ui J.cm10,fun _=>Qai _ h1,ui J.cm14,ui J.cm16,ui J.cm18,ui J.cm21,ui J.cm24,ui J.cv3,ui J.cv5,fun h=>(J.a2 (ud h)).keep hk,fun h=>(J.a4 (ud h)).keep hk,fun _=>⟨m,_,_,h3,h4,Qa3 h5,h6.push hn hx hg⟩,fun h=>J.m25u (ud h),fun h=>J.m26 (ud h),fun h=>J.m27 (ud h),ui J.m28⟩
theorem JT.s14(J:JT t b W mv1 L u29 u30 u31 u43 u44 u45 w)(h0:L 14=false)(h1:L 1=true):∃ m es c,u29=.map (some m)/\w.heap[m]?=some (.map es c)/\Qcq es (fT b L u30 u31)/\fT b L u30 u31 QbX=none/\JT t b W mv1 (up L 14) u29 u30 u31 u43 u44 u45 (QaR w m (.map (es.push ⟨.string (Qaf QbX),.func (.func 132) #[] #[.pointer (some ⟨b+1,0,none⟩)],c⟩) (c+1))):=by
 obtain⟨m,es,c,h3,h4,h5,h6⟩:=J.mp h1;have hn:fT b L u30 u31 QbX=none:=by unfold fT;rw[show wL tNs QbX=6 from by decide];simp only[h0];rfl
 have hx:fT b (up L 14) u30 u31 QbX=some (.func (.func 132) #[] #[.pointer (some ⟨b+1,0,none⟩)]):=by unfold fT;rw[show wL tNs QbX=6 from by decide];simp only[QbQ];rfl
 have hg:∀ z,z≠QbX->fT b (up L 14) u30 u31 z=fT b L u30 u31 z:=fun z hz=>by
  have hw:wL tNs z≠6:=fun e=>hz (by have:=QaA tNs z 5 e;simpa[tNs]using this.symm)
  unfold fT;split<;>first|(rename_i e;exact absurd e hw)|simp only[Qag L (by decide)]|rfl
 have ab:m≠b:=by have:=J.hb;omega
 have hk:∀ k cs ty,W.heap.size<=k->w.heap[k]?=some (.cells cs ty)->(QaR w m (.map (es.push ⟨.string (Qaf QbX),.func (.func 132) #[] #[.pointer (some ⟨b+1,0,none⟩)],c⟩) (c+1))).heap[k]?=some (.cells cs ty):=fun k cs ty _ h=>by
  rw[Qan (fun e=>by rw[e,h5]at h;cases h)];exact h
 have aa:(QaR w m (.map (es.push ⟨.string (Qaf QbX),.func (.func 132) #[] #[.pointer (some ⟨b+1,0,none⟩)],c⟩) (c+1))).heap[b]?=some (Qcy t mv1 (if L 28 then u43 else Value.map none)):=by rw[Qan (Ne.symm ab)];exact J.rd
 refine⟨m,es,c,h3,h5,h6,hn,?_⟩;exact⟨J.hb,Qbj J.mod h4,by rw[Qag L (by decide)];exact aa,ui J.cm3,ui J.cm5,ui J.cm8,ui J.cm10,ui J.cm12,fun _=>Qai _ h1,ui J.cm16,ui J.cm18,ui J.cm21,ui J.cm24,ui J.cv3,ui J.cv5,fun h=>(J.a2 (ud h)).keep hk,fun h=>(J.a4 (ud h)).keep hk,fun _=>⟨m,_,_,h3,h4,Qa3 h5,h6.push hn hx hg⟩,fun h=>J.m25u (ud h),fun h=>J.m26 (ud h),fun h=>J.m27 (ud h),ui J.m28⟩
theorem JT.s16(J:JT t b W mv1 L u29 u30 u31 u43 u44 u45 w)(h0:L 16=false)(h1:L 1=true):∃ m es c,u29=.map (some m)/\w.heap[m]?=some (.map es c)/\Qcq es (fT b L u30 u31)/\fT b L u30 u31 QaL=none/\JT t b W mv1 (up L 16) u29 u30 u31 u43 u44 u45 (QaR w m (.map (es.push ⟨.string (Qaf QaL),.func (.func 135) #[] #[.pointer (some ⟨b+1,0,none⟩)],c⟩) (c+1))):=by
 obtain⟨m,es,c,h3,h4,h5,h6⟩:=J.mp h1;have hn:fT b L u30 u31 QaL=none:=by unfold fT;rw[show wL tNs QaL=7 from by decide];simp only[h0];rfl
 have hx:fT b (up L 16) u30 u31 QaL=some (.func (.func 135) #[] #[.pointer (some ⟨b+1,0,none⟩)]):=by unfold fT;rw[show wL tNs QaL=7 from by decide];simp only[QbQ];rfl
 have hg:∀ z,z≠QaL->fT b (up L 16) u30 u31 z=fT b L u30 u31 z:=fun z hz=>by
  have hw:wL tNs z≠7:=fun e=>hz (by have:=QaA tNs z 6 e;simpa[tNs]using this.symm)
  unfold fT;split<;>first|(rename_i e;exact absurd e hw)|simp only[Qag L (by decide)]|rfl
 have ab:m≠b:=by have:=J.hb;omega
 have hk:∀ k cs ty,W.heap.size<=k->w.heap[k]?=some (.cells cs ty)->(QaR w m (.map (es.push ⟨.string (Qaf QaL),.func (.func 135) #[] #[.pointer (some ⟨b+1,0,none⟩)],c⟩) (c+1))).heap[k]?=some (.cells cs ty):=fun k cs ty _ h=>by
  rw[Qan (fun e=>by rw[e,h5]at h;cases h)];exact h
 have aa:(QaR w m (.map (es.push ⟨.string (Qaf QaL),.func (.func 135) #[] #[.pointer (some ⟨b+1,0,none⟩)],c⟩) (c+1))).heap[b]?=some (Qcy t mv1 (if L 28 then u43 else Value.map none)):=by rw[Qan (Ne.symm ab)];exact J.rd
 refine⟨m,es,c,h3,h5,h6,hn,?_⟩;exact⟨J.hb,Qbj J.mod h4,by rw[Qag L (by decide)];exact aa,ui J.cm3,ui J.cm5,ui J.cm8,ui J.cm10,ui J.cm12,ui J.cm14,fun _=>Qai _ h1,ui J.cm18,ui J.cm21,ui J.cm24,ui J.cv3,ui J.cv5,fun h=>(J.a2 (ud h)).keep hk,fun h=>(J.a4 (ud h)).keep hk,fun _=>⟨m,_,_,h3,h4,Qa3 h5,h6.push hn hx hg⟩,fun h=>J.m25u (ud h),fun h=>J.m26 (ud h),fun h=>J.m27 (ud h),ui J.m28⟩
theorem JT.s18(J:JT t b W mv1 L u29 u30 u31 u43 u44 u45 w)(h0:L 18=false)(h1:L 1=true):∃ m es c,u29=.map (some m)/\w.heap[m]?=some (.map es c)/\Qcq es (fT b L u30 u31)/\fT b L u30 u31 Qbx=none/\JT t b W mv1 (up L 18) u29 u30 u31 u43 u44 u45 (QaR w m (.map (es.push ⟨.string (Qaf Qbx),.func (.func 138) #[] #[.pointer (some ⟨b+1,0,none⟩)],c⟩) (c+1))):=by
 obtain⟨m,es,c,h3,h4,h5,h6⟩:=J.mp h1;have hn:fT b L u30 u31 Qbx=none:=by unfold fT;rw[show wL tNs Qbx=8 from by decide];simp only[h0];rfl
 have hx:fT b (up L 18) u30 u31 Qbx=some (.func (.func 138) #[] #[.pointer (some ⟨b+1,0,none⟩)]):=by unfold fT;rw[show wL tNs Qbx=8 from by decide];simp only[QbQ];rfl
 have hg:∀ z,z≠Qbx->fT b (up L 18) u30 u31 z=fT b L u30 u31 z:=fun z hz=>by
  have hw:wL tNs z≠8:=fun e=>hz (by have:=QaA tNs z 7 e;simpa[tNs]using this.symm)
  unfold fT;split<;>first|(rename_i e;exact absurd e hw)|simp only[Qag L (by decide)]|rfl
 have ab:m≠b:=by have:=J.hb;omega
 have hk:∀ k cs ty,W.heap.size<=k->w.heap[k]?=some (.cells cs ty)->(QaR w m (.map (es.push ⟨.string (Qaf Qbx),.func (.func 138) #[] #[.pointer (some ⟨b+1,0,none⟩)],c⟩) (c+1))).heap[k]?=some (.cells cs ty):=fun k cs ty _ h=>by
  rw[Qan (fun e=>by rw[e,h5]at h;cases h)];exact h
 have aa:(QaR w m (.map (es.push ⟨.string (Qaf Qbx),.func (.func 138) #[] #[.pointer (some ⟨b+1,0,none⟩)],c⟩) (c+1))).heap[b]?=some (Qcy t mv1 (if L 28 then u43 else Value.map none)):=by rw[Qan (Ne.symm ab)];exact J.rd
 refine⟨m,es,c,h3,h5,h6,hn,?_⟩;exact⟨J.hb,Qbj J.mod h4,by rw[Qag L (by decide)];exact aa,ui J.cm3,ui J.cm5,ui J.cm8,ui J.cm10,ui J.cm12,ui J.cm14,ui J.cm16,fun _=>Qai _ h1,ui J.cm21,ui J.cm24,ui J.cv3,ui J.cv5,fun h=>(J.a2 (ud h)).keep hk,fun h=>(J.a4 (ud h)).keep hk,fun _=>⟨m,_,_,h3,h4,Qa3 h5,h6.push hn hx hg⟩,fun h=>J.m25u (ud h),fun h=>J.m26 (ud h),fun h=>J.m27 (ud h),ui J.m28⟩
theorem JT.s21(J:JT t b W mv1 L u29 u30 u31 u43 u44 u45 w)(h0:L 21=false)(h1:L 1=true):∃ m es c,u29=.map (some m)/\w.heap[m]?=some (.map es c)/\Qcq es (fT b L u30 u31)/\fT b L u30 u31 QbK=none/\JT t b W mv1 (up L 21) u29 u30 u31 u43 u44 u45 (QaR w m (.map (es.push ⟨.string (Qaf QbK),.func (.func 139) #[.pointer (some ⟨b,0,none⟩)] #[],c⟩) (c+1))):=by
 obtain⟨m,es,c,h3,h4,h5,h6⟩:=J.mp h1;have hn:fT b L u30 u31 QbK=none:=by unfold fT;rw[show wL tNs QbK=9 from by decide];simp only[h0];rfl
 have hx:fT b (up L 21) u30 u31 QbK=some (.func (.func 139) #[.pointer (some ⟨b,0,none⟩)] #[]):=by unfold fT;rw[show wL tNs QbK=9 from by decide];simp only[QbQ];rfl
 have hg:∀ z,z≠QbK->fT b (up L 21) u30 u31 z=fT b L u30 u31 z:=fun z hz=>by
  have hw:wL tNs z≠9:=fun e=>hz (by have:=QaA tNs z 8 e;simpa[tNs]using this.symm)
  unfold fT;split<;>first|(rename_i e;exact absurd e hw)|simp only[Qag L (by decide)]|rfl
 have ab:m≠b:=by have:=J.hb;omega
 have hk:∀ k cs ty,W.heap.size<=k->w.heap[k]?=some (.cells cs ty)->(QaR w m (.map (es.push ⟨.string (Qaf QbK),.func (.func 139) #[.pointer (some ⟨b,0,none⟩)] #[],c⟩) (c+1))).heap[k]?=some (.cells cs ty):=fun k cs ty _ h=>by
  rw[Qan (fun e=>by rw[e,h5]at h;cases h)];exact h
 have aa:(QaR w m (.map (es.push ⟨.string (Qaf QbK),.func (.func 139) #[.pointer (some ⟨b,0,none⟩)] #[],c⟩) (c+1))).heap[b]?=some (Qcy t mv1 (if L 28 then u43 else Value.map none)):=by rw[Qan (Ne.symm ab)];exact J.rd
 refine⟨m,es,c,h3,h5,h6,hn,?_⟩;exact⟨J.hb,Qbj J.mod h4,by rw[Qag L (by decide)];exact aa,ui J.cm3,ui J.cm5,ui J.cm8,ui J.cm10,ui J.cm12,ui J.cm14,ui J.cm16,ui J.cm18,fun _=>Qai _ h1,ui J.cm24,ui J.cv3,ui J.cv5,fun h=>(J.a2 (ud h)).keep hk,fun h=>(J.a4 (ud h)).keep hk,fun _=>⟨m,_,_,h3,h4,Qa3 h5,h6.push hn hx hg⟩,fun h=>J.m25u (ud h),fun h=>J.m26 (ud h),fun h=>J.m27 (ud h),ui J.m28⟩
theorem JT.s24(J:JT t b W mv1 L u29 u30 u31 u43 u44 u45 w)(h0:L 24=false)(h1:L 1=true):∃ m es c,u29=.map (some m)/\w.heap[m]?=some (.map es c)/\Qcq es (fT b L u30 u31)/\fT b L u30 u31 Qd5=none/\JT t b W mv1 (up L 24) u29 u30 u31 u43 u44 u45 (QaR w m (.map (es.push ⟨.string (Qaf Qd5),.func (.func 140) #[.pointer (some ⟨b,0,none⟩)] #[],c⟩) (c+1))):=by
 obtain⟨m,es,c,h3,h4,h5,h6⟩:=J.mp h1;have hn:fT b L u30 u31 Qd5=none:=by unfold fT;rw[show wL tNs Qd5=10 from by decide];simp only[h0];rfl
 have hx:fT b (up L 24) u30 u31 Qd5=some (.func (.func 140) #[.pointer (some ⟨b,0,none⟩)] #[]):=by unfold fT;rw[show wL tNs Qd5=10 from by decide];simp only[QbQ];rfl
 have hg:∀ z,z≠Qd5->fT b (up L 24) u30 u31 z=fT b L u30 u31 z:=fun z hz=>by
  have hw:wL tNs z≠10:=fun e=>hz (by have:=QaA tNs z 9 e;simpa[tNs]using this.symm)
  unfold fT;split<;>first|(rename_i e;exact absurd e hw)|simp only[Qag L (by decide)]|rfl
 have ab:m≠b:=by have:=J.hb;omega
 have hk:∀ k cs ty,W.heap.size<=k->w.heap[k]?=some (.cells cs ty)->(QaR w m (.map (es.push ⟨.string (Qaf Qd5),.func (.func 140) #[.pointer (some ⟨b,0,none⟩)] #[],c⟩) (c+1))).heap[k]?=some (.cells cs ty):=fun k cs ty _ h=>by
  rw[Qan (fun e=>by rw[e,h5]at h;cases h)];exact h
 have aa:(QaR w m (.map (es.push ⟨.string (Qaf Qd5),.func (.func 140) #[.pointer (some ⟨b,0,none⟩)] #[],c⟩) (c+1))).heap[b]?=some (Qcy t mv1 (if L 28 then u43 else Value.map none)):=by rw[Qan (Ne.symm ab)];exact J.rd
 refine⟨m,es,c,h3,h5,h6,hn,?_⟩;exact⟨J.hb,Qbj J.mod h4,by rw[Qag L (by decide)];exact aa,ui J.cm3,ui J.cm5,ui J.cm8,ui J.cm10,ui J.cm12,ui J.cm14,ui J.cm16,ui J.cm18,ui J.cm21,fun _=>Qai _ h1,ui J.cv3,ui J.cv5,fun h=>(J.a2 (ud h)).keep hk,fun h=>(J.a4 (ud h)).keep hk,fun _=>⟨m,_,_,h3,h4,Qa3 h5,h6.push hn hx hg⟩,fun h=>J.m25u (ud h),fun h=>J.m26 (ud h),fun h=>J.m27 (ud h),ui J.m28⟩
theorem JT.s25(J:JT t b W mv1 L u29 u30 u31 u43 u44 u45 w)(h0:L 25=false)(h1:L 1=true)(ai:L 3=true)(aj:L 5=true)(ak:L 8=true)(aa:L 10=true)(ab:L 12=true)(ac:L 14=true)(ad:L 16=true)(ae:L 18=true)(af:L 21=true)(ag:L 24=true):JT t b W mv1 (up L 25) u29 u30 u31 u29 u44 u45 w:=by
 have ah:L 28=false:=nf J.m28 h0;have hk:∀ k cs ty,W.heap.size<=k->w.heap[k]?=some (.cells cs ty)->w.heap[k]?=some (.cells cs ty):=fun k cs ty _ h=>h
 have ao:∀(m:Nat) (es:Array MapEntry) (c:Nat),w.heap[m]?=some (Obj.map es c)->w.heap[m]?=some (Obj.map es c):=fun m es c h=>h
 exact⟨J.hb,J.mod,by have:=J.rd;rw[ah]at this;rw[Qag L (by decide),ah];exact this,ui J.cm3,ui J.cm5,ui J.cm8,ui J.cm10,ui J.cm12,ui J.cm14,ui J.cm16,ui J.cm18,ui J.cm21,ui J.cm24,ui J.cv3,ui J.cv5,fun h=>(J.a2 (ud h)).keep hk,fun h=>(J.a4 (ud h)).keep hk,fun h=>by obtain⟨m,es,c,h3,h4,h5,h6⟩:=J.mp (ud h);exact⟨m,es,c,h3,h4,ao m _ _ h5,h6.congr (fun x=>(Qqi 25 (by decide) x).symm)⟩,fun _=>⟨rfl,Qai _ h1,Qai _ ai,Qai _ aj,Qai _ ak,Qai _ aa,Qai _ ab,Qai _ ac,Qai _ ad,Qai _ ae,Qai _ af,Qai _ ag⟩,fun h=>J.m26 (ud h),fun h=>J.m27 (ud h),ui J.m28⟩
theorem JT.s26(J:JT t b W mv1 L u29 u30 u31 u43 u44 u45 w)(h0:L 26=false):JT t b W mv1 (up L 26) u29 u30 u31 u43 (.pointer (some ⟨b,0,none⟩)) u45 w:=by
 have hk:∀ k cs ty,W.heap.size<=k->w.heap[k]?=some (.cells cs ty)->w.heap[k]?=some (.cells cs ty):=fun k cs ty _ h=>h
 have aa:∀(m:Nat) (es:Array MapEntry) (c:Nat),w.heap[m]?=some (Obj.map es c)->w.heap[m]?=some (Obj.map es c):=fun m es c h=>h
 exact⟨J.hb,J.mod,by rw[Qag L (by decide)];exact J.rd,ui J.cm3,ui J.cm5,ui J.cm8,ui J.cm10,ui J.cm12,ui J.cm14,ui J.cm16,ui J.cm18,ui J.cm21,ui J.cm24,ui J.cv3,ui J.cv5,fun h=>(J.a2 (ud h)).keep hk,fun h=>(J.a4 (ud h)).keep hk,fun h=>by obtain⟨m,es,c,h3,h4,h5,h6⟩:=J.mp (ud h);exact⟨m,es,c,h3,h4,aa m _ _ h5,h6.congr (fun x=>(Qqi 26 (by decide) x).symm)⟩,fun h=>J.m25u (ud h),fun _=>rfl,fun h=>J.m27 (ud h),ui J.m28⟩
theorem JT.s27(J:JT t b W mv1 L u29 u30 u31 u43 u44 u45 w)(h0:L 27=false):JT t b W mv1 (up L 27) u29 u30 u31 u43 u44 (.pointer (some ⟨b,9,none⟩)) w:=by
 have hk:∀ k cs ty,W.heap.size<=k->w.heap[k]?=some (.cells cs ty)->w.heap[k]?=some (.cells cs ty):=fun k cs ty _ h=>h
 have aa:∀(m:Nat) (es:Array MapEntry) (c:Nat),w.heap[m]?=some (Obj.map es c)->w.heap[m]?=some (Obj.map es c):=fun m es c h=>h
 exact⟨J.hb,J.mod,by rw[Qag L (by decide)];exact J.rd,ui J.cm3,ui J.cm5,ui J.cm8,ui J.cm10,ui J.cm12,ui J.cm14,ui J.cm16,ui J.cm18,ui J.cm21,ui J.cm24,ui J.cv3,ui J.cv5,fun h=>(J.a2 (ud h)).keep hk,fun h=>(J.a4 (ud h)).keep hk,fun h=>by obtain⟨m,es,c,h3,h4,h5,h6⟩:=J.mp (ud h);exact⟨m,es,c,h3,h4,aa m _ _ h5,h6.congr (fun x=>(Qqi 27 (by decide) x).symm)⟩,fun h=>J.m25u (ud h),fun h=>J.m26 (ud h),fun _=>rfl,ui J.m28⟩
theorem JT.s28(J:JT t b W mv1 L u29 u30 u31 u43 u44 u45 w)(h0:L 28=false)(aa:L 25=true):JT t b W mv1 (up L 28) u29 u30 u31 u43 u44 u45 (w.setCell ⟨b,9,none⟩ u43):=by
 have hb:=J.hb;have hk:∀ k cs ty,W.heap.size<=k->w.heap[k]?=some (.cells cs ty)->(w.setCell ⟨b,9,none⟩ u43).heap[k]?=some (.cells cs ty):=fun k cs ty hk h=>by rw[Below.heap_setCell _ _ _ _ (show k≠b by omega)];exact h
 have ab:∀(m:Nat) (es:Array MapEntry) (c:Nat),w.heap[m]?=some (Obj.map es c)->(w.setCell ⟨b,9,none⟩ u43).heap[m]?=some (Obj.map es c):=fun m es c h=>by
  have hr:=J.rd;rw[Below.heap_setCell _ _ _ _ (show m≠b from fun e=>by rw[e,hr]at h;cases h)];exact h
 exact⟨J.hb,J.mod.setCell 9 u43,by rw[QbQ];exact Qah _ _ _ _ _ _ J.rd,ui J.cm3,ui J.cm5,ui J.cm8,ui J.cm10,ui J.cm12,ui J.cm14,ui J.cm16,ui J.cm18,ui J.cm21,ui J.cm24,ui J.cv3,ui J.cv5,fun h=>(J.a2 (ud h)).keep hk,fun h=>(J.a4 (ud h)).keep hk,fun h=>by obtain⟨m,es,c,h3,h4,h5,h6⟩:=J.mp (ud h);exact⟨m,es,c,h3,h4,ab m _ _ h5,h6.congr (fun x=>(Qqi 28 (by decide) x).symm)⟩,fun h=>J.m25u (ud h),fun h=>J.m26 (ud h),fun h=>J.m27 (ud h),fun _=>Qai _ aa⟩
theorem JT.done(J:JT t b W mv1 L u29 u30 u31 u43 u44 u45 w)(aa:∀ i,i<29->L i=true)(ad:Qm4 W (b+1) b):∃ m pt pf,w.heap[b]?=some (Qcy t mv1 (.map (some m)))/\Qo5 w b m (b+1) pt pf/\Mod b W w/\W.heap.size<=m:=by
 obtain⟨m,es,c,h3,h4,h5,h6⟩:=J.mp (aa 1 (by decide));obtain⟨pt,e1,hp1,ab⟩:=J.a2 (aa 2 (by decide));obtain⟨pf,e2,hp2,ac⟩:=J.a4 (aa 4 (by decide));have hb:=J.hb;have hr:=J.rd;rw[aa 28 (by decide),if_pos rfl,(J.m25 (aa 25 (by decide))).1,h3]at hr
 have hf:Qcq es (testFn b (b+1) pt pf):=h6.congr (fun x=>by
  subst e1 e2;unfold fT testFn;simp only[aa 3 (by decide),aa 5 (by decide),aa 8 (by decide),aa 10 (by decide),aa 12 (by decide),aa 14 (by decide),aa 16 (by decide),aa 18 (by decide),aa 21 (by decide),aa 24 (by decide),if_true];generalize wL tNs x=i
  match i with
  |0|1|2|3|4|5|6|7|8|9|10=>rfl
  | n+11=>rfl)
 exact⟨m,pt,pf,hr,⟨Qm8 (K:=9) (E:=213) underlying208 underlying9 QwX h5 hf,ad.mod J.mod,Qaa ab 0,Qaa ac 0,by omega,by omega,by omega,QaI h5⟩,J.mod,h4⟩
end
end
section
open Go.RowKit
attribute [local go_sem ↓] Go.wp_at_zero Go.wp_at_succ
theorem Qo0{l:Array Bool}{i:Nat}(h:i<l.size):(fun j=>(l.setIfInBounds i true).getD j false)=up (fun j=>l.getD j false) i:=by
 funext j;unfold up;by_cases e:j=i
 ·subst e;simp[h]
 ·rw[if_neg e];exact getD_set_ne false (Ne.symm e)
def tmC (t:ByteArray) (b:Nat) (u8 u16 u18 u20 u25 u26 u27:Value):Act:=
 { tmps:=#[.string t,undef,.pointer none,.pointer (some ⟨b+1,0,none⟩),.string t,.agg #[.string t,.int .i64 0,.int .i64 0,.string ⟨#[]⟩,.string ⟨#[]⟩,.int .i64 0,.int .i64 0,.slice none 0 0,.map none,.map none],(.pointer (some ⟨b,0,none⟩)),(.pointer (some ⟨b,0,none⟩)),u8,(.pointer (some ⟨b,0,none⟩)),(.func (.func 121) #[.pointer (some ⟨b,0,none⟩)] #[]),(.pointer (some ⟨b,0,none⟩)),(.func (.func 122) #[.pointer (some ⟨b,0,none⟩)] #[]),(.pointer (some ⟨b,0,none⟩)),(.func (.func 123) #[.pointer (some ⟨b,0,none⟩)] #[]),(.pointer (some ⟨b,0,none⟩)),u16,(.pointer (some ⟨b,0,none⟩)),u18,(.pointer (some ⟨b,0,none⟩)),u20,(.pointer (some ⟨b,0,none⟩)),(.func (.func 125) #[.pointer (some ⟨b,0,none⟩)] #[]),(.pointer (some ⟨b,0,none⟩)),(.func (.func 126) #[.pointer (some ⟨b,0,none⟩)] #[]),u25,u26,u27,undef,undef,undef,undef,undef,undef,undef,undef,undef,undef,undef,undef,undef,undef,undef,undef,undef,undef,undef],defers:=[] }
def JJC (t:ByteArray) (b:Nat) (W:World) (l:Array Bool) (a:Act) (w:World):Prop:=
 l.size=30∧(∀ i∈[0,2,3,5,6,8,9,11,14,17,20,21,23,24],l.getD i false=true)∧∃ u8 u16 u18 u20 u25 u26 u27,a=tmC t b u8 u16 u18 u20 u25 u26 u27∧JC t b W (.map none) (fun j=>l.getD j false) u8 u16 u18 u20 u25 u26 u27 w
theorem JJC.next{t:ByteArray}{b:Nat}{W:World}{l:Array Bool}{i:Nat}{u8 u16 u18 u20 u25 u26 u27:Value}{w:World}(hl:l.size=30)(ht:∀ i∈[0,2,3,5,6,8,9,11,14,17,20,21,23,24],l.getD i false=true)(hi:i<30)(J:JC t b W (.map none) (up (fun j=>l.getD j false) i) u8 u16 u18 u20 u25 u26 u27 w):JJC t b W (l.setIfInBounds i true) (tmC t b u8 u16 u18 u20 u25 u26 u27) w:=
 ⟨by simp[hl],fun k hk=>getD_set_true (ht k hk),u8,u16,u18,u20,u25,u26,u27,rfl,by rw[Qo0 (by omega)];exact J⟩
def QwA (t:ByteArray) (w:World) (e:Ending) (w':World):Prop:=∃ mc mt pr pt pf p1 k1 p2 k2 p3 k3,e=.returned (.pointer (some ⟨w.heap.size,0,none⟩))∧RC w' w.heap.size t ps0 (.slice none 0 0) mc mt∧Qo5 w' w.heap.size mt pr pt pf∧QsJ w' w.heap.size mc p1 k1 p2 k2 p3 k3∧Below w.heap.size w w'
def tmT (t:ByteArray) (b:Nat) (u8 u16 u18 u20 u25 u26 u27 u29 u30 u31 u43 u44 u45:Value):Act:=
 { tmps:=#[.string t,undef,.pointer none,.pointer (some ⟨b+1,0,none⟩),.string t,.agg #[.string t,.int .i64 0,.int .i64 0,.string ⟨#[]⟩,.string ⟨#[]⟩,.int .i64 0,.int .i64 0,.slice none 0 0,.map none,.map none],(.pointer (some ⟨b,0,none⟩)),(.pointer (some ⟨b,0,none⟩)),u8,(.pointer (some ⟨b,0,none⟩)),(.func (.func 121) #[.pointer (some ⟨b,0,none⟩)] #[]),(.pointer (some ⟨b,0,none⟩)),(.func (.func 122) #[.pointer (some ⟨b,0,none⟩)] #[]),(.pointer (some ⟨b,0,none⟩)),(.func (.func 123) #[.pointer (some ⟨b,0,none⟩)] #[]),(.pointer (some ⟨b,0,none⟩)),u16,(.pointer (some ⟨b,0,none⟩)),u18,(.pointer (some ⟨b,0,none⟩)),u20,(.pointer (some ⟨b,0,none⟩)),(.func (.func 125) #[.pointer (some ⟨b,0,none⟩)] #[]),(.pointer (some ⟨b,0,none⟩)),(.func (.func 126) #[.pointer (some ⟨b,0,none⟩)] #[]),u25,u26,u27,(.pointer (some ⟨b,0,none⟩)),u29,u30,u31,(.pointer (some ⟨b,0,none⟩)),(.func (.func 128) #[.pointer (some ⟨b,0,none⟩)] #[]),(.func (.func 129) #[] #[.pointer (some ⟨b+1,0,none⟩)]),(.func (.func 131) #[] #[.pointer (some ⟨b+1,0,none⟩)]),(.func (.func 132) #[] #[.pointer (some ⟨b+1,0,none⟩)]),(.func (.func 135) #[] #[.pointer (some ⟨b+1,0,none⟩)]),(.func (.func 138) #[] #[.pointer (some ⟨b+1,0,none⟩)]),(.pointer (some ⟨b,0,none⟩)),(.func (.func 139) #[.pointer (some ⟨b,0,none⟩)] #[]),(.pointer (some ⟨b,0,none⟩)),(.func (.func 140) #[.pointer (some ⟨b,0,none⟩)] #[]),u43,u44,u45,undef],defers:=[] }
def JJT (t:ByteArray) (b:Nat) (W:World) (mv1:Value) (u8 u16 u18 u20 u25 u26 u27:Value) (l:Array Bool) (a:Act) (w:World):Prop:=
 l.size=29∧(∀ i∈[0,6,7,9,11,13,15,17,19,20,22,23],l.getD i false=true)∧∃ u29 u30 u31 u43 u44 u45,a=tmT t b u8 u16 u18 u20 u25 u26 u27 u29 u30 u31 u43 u44 u45∧JT t b W mv1 (fun j=>l.getD j false) u29 u30 u31 u43 u44 u45 w
theorem JJT.next{t:ByteArray}{b:Nat}{W:World}{mv1:Value}{l:Array Bool}{i:Nat}{u8 u16 u18 u20 u25 u26 u27 u29 u30 u31 u43 u44 u45:Value}{w:World}(hl:l.size=29)(ht:∀ i∈[0,6,7,9,11,13,15,17,19,20,22,23],l.getD i false=true)(hi:i<29)(J:JT t b W mv1 (up (fun j=>l.getD j false) i) u29 u30 u31 u43 u44 u45 w):JJT t b W mv1 u8 u16 u18 u20 u25 u26 u27 (l.setIfInBounds i true) (tmT t b u8 u16 u18 u20 u25 u26 u27 u29 u30 u31 u43 u44 u45) w:=
 ⟨by simp[hl],fun k hk=>getD_set_true (ht k hk),u29,u30,u31,u43,u44,u45,rfl,by rw[Qo0 (by omega)];exact J⟩
theorem Qnn{w w':World}{o o':Obj}(h:Mod w.heap.size ((w.alloc o).alloc o') w'):Below w.heap.size w w':=
 ⟨h.os,h.tape,h.output,by have:=h.size;simp at this;omega,fun k hk=>by
  rw [h.block k (by simp;omega) (by omega),Below.heap_alloc _ _ _ (by simp;omega),Below.heap_alloc _ _ _ hk]⟩
theorem Ql1(t:ByteArray)(w:World)(ht:t.size<=600)(a5:∃ m,w.cell? ⟨1,0,none⟩=some (.int .i64 m)) :
 Calls Tryz.prog 89 #[.string t] w (QwA t w):=by
 have hmf:∀(fn:Fn) (first cap:Array Value) (w:World),(Instr.makeFunc fn first cap).run Tryz.prog w=.ok (.func fn first cap) w:=fun _ _ _ _=>rfl
 go_enter func89,ntmps89;go_wp2_with fail;refine wp_region_held (S:=fun w'=>w'.cell? ⟨w.heap.size+1,0,none⟩=some (.pointer (some ⟨w.heap.size,0,none⟩))) (by kernel_rfl) ?_;have hS:({ ((w.alloc (Qcy t (.map none) (.map none))).alloc (.cells #[.pointer (some ⟨w.heap.size,0,none⟩)] 161))with drawn:=((w.alloc (Qcy t (.map none) (.map none))).alloc (.cells #[.pointer (some ⟨w.heap.size,0,none⟩)] 161)).drawn+1 }:World).cell? ⟨w.heap.size+1,0,none⟩=some (.pointer (some ⟨w.heap.size,0,none⟩)):=Qaa (Qaw (by simp)) 0;refine Qax 0 7 (.pointer (some ⟨w.heap.size,0,none⟩)) rfl hS (fun w' hSw=>by(try dsimp only at hSw);go_simp) ?_;simp only[pt,sz,sc];refine Qax 2 9 (.pointer (some ⟨w.heap.size,0,none⟩)) rfl hS (fun w' hSw=>by(try dsimp only at hSw);go_simp) ?_;simp only[pt,sz,sc];refine Qax 3 10 (.func (.func 121) #[.pointer (some ⟨w.heap.size,0,none⟩)] #[]) rfl hS (fun w' hSw=>by(try dsimp only at hSw);go_simp) ?_;simp only[pt,sz,sc];refine Qax 5 11 (.pointer (some ⟨w.heap.size,0,none⟩)) rfl hS (fun w' hSw=>by(try dsimp only at hSw);go_simp) ?_;simp only[pt,sz,sc];refine Qax 6 12 (.func (.func 122) #[.pointer (some ⟨w.heap.size,0,none⟩)] #[]) rfl hS (fun w' hSw=>by(try dsimp only at hSw);go_simp) ?_;simp only[pt,sz,sc];refine Qax 8 13 (.pointer (some ⟨w.heap.size,0,none⟩)) rfl hS (fun w' hSw=>by(try dsimp only at hSw);go_simp) ?_;simp only[pt,sz,sc];refine Qax 9 14 (.func (.func 123) #[.pointer (some ⟨w.heap.size,0,none⟩)] #[]) rfl hS (fun w' hSw=>by(try dsimp only at hSw);go_simp) ?_;simp only[pt,sz,sc];refine Qax 11 15 (.pointer (some ⟨w.heap.size,0,none⟩)) rfl hS (fun w' hSw=>by(try dsimp only at hSw);go_simp) ?_;simp only[pt,sz,sc];refine Qax 14 17 (.pointer (some ⟨w.heap.size,0,none⟩)) rfl hS (fun w' hSw=>by(try dsimp only at hSw);go_simp) ?_;simp only[pt,sz,sc];refine Qax 17 19 (.pointer (some ⟨w.heap.size,0,none⟩)) rfl hS (fun w' hSw=>by(try dsimp only at hSw);go_simp) ?_;simp only[pt,sz,sc];refine Qax 20 21 (.pointer (some ⟨w.heap.size,0,none⟩)) rfl hS (fun w' hSw=>by(try dsimp only at hSw);go_simp) ?_;simp only[pt,sz,sc];refine Qax 21 22 (.func (.func 125) #[.pointer (some ⟨w.heap.size,0,none⟩)] #[]) rfl hS (fun w' hSw=>by(try dsimp only at hSw);go_simp) ?_;simp only[pt,sz,sc];refine Qax 23 23 (.pointer (some ⟨w.heap.size,0,none⟩)) rfl hS (fun w' hSw=>by(try dsimp only at hSw);go_simp) ?_;simp only[pt,sz,sc];refine Qax 24 24 (.func (.func 126) #[.pointer (some ⟨w.heap.size,0,none⟩)] #[]) rfl hS (fun w' hSw=>by(try dsimp only at hSw);go_simp) ?_;simp only[pt,sz,sc];refine QfX (JJC t w.heap.size ((w.alloc (Qcy t (.map none) (.map none))).alloc (.cells #[.pointer (some ⟨w.heap.size,0,none⟩)] 161))) (fun l a w' h=>by rw[h.1];rfl) (fun l a w' h=>?hSS) (fun l a w' i h hi=>?hstep) (fun l a w' h hr=>?hdone) _ _ _ _ (by decide) ?hinit
 case hSS=>
  obtain⟨_,_,_,_,_,_,_,_,_,_,J⟩:=h;exact Qb3 (Qaa (Qaw (by simp)) 0) J.mod (by omega)
 case hinit=>
  refine⟨rfl,by decide,undef,undef,undef,undef,undef,undef,undef,rfl,?_⟩;exact⟨by simp;omega,(Mod.refl _ _).drew,Qae (Qat _ _),fun h=>absurd h (by decide),fun h=>absurd h (by decide),fun h=>absurd h (by decide),fun h=>absurd h (by decide),fun h=>absurd h (by decide),fun h=>absurd h (by decide),fun h=>absurd h (by decide),fun h=>absurd h (by decide),fun h=>absurd h (by decide),fun h=>absurd h (by decide),fun h=>absurd h (by decide),fun h=>absurd h (by decide),fun h=>absurd h (by decide),fun h=>absurd h (by decide),fun h=>absurd h (by decide),fun h=>absurd h (by decide),fun h=>absurd h (by decide),fun h=>absurd h (by decide),fun h=>absurd h (by decide)⟩
 case hdone=>
  obtain⟨hl,ac,u8,aD,aE,aF,aN,aO,aP,rfl,J⟩:=h;have ak:=QeQ hl (by kernel_rfl) hr;obtain⟨m,p1,k1,p2,k2,p3,k3,ai,aJ,af,hWm⟩:=J.done ak;clear J ak hr ac hl hS;unfold tmC;go_wp2_with fail;have aL:Qm4 w' (w.heap.size+1) w.heap.size:=⟨Qb3 (Qaa (Qaw (by simp)) 0) af (by omega),by omega⟩;have aW:=QaI ai;have aT:=Qab ai;have aS:=Qab aJ;have aq:=Qab af;have ao:=Qab aL;clear ai aJ af aL;refine wp_region_held (S:=fun w2=>w2.cell? ⟨w.heap.size+1,0,none⟩=some (.pointer (some ⟨w.heap.size,0,none⟩))) (by kernel_rfl) ?_;have hS:({ w' with drawn:=w'.drawn+1 }:World).cell? ⟨w.heap.size+1,0,none⟩=some (.pointer (some ⟨w.heap.size,0,none⟩)):=ao.o.1;refine Qax 0 28 (.pointer (some ⟨w.heap.size,0,none⟩)) rfl hS (fun w' hSw=>by(try dsimp only at hSw);go_simp) ?_;simp only[pt,sz,sc];refine Qax 6 32 (.pointer (some ⟨w.heap.size,0,none⟩)) rfl hS (fun w' hSw=>by(try dsimp only at hSw);go_simp) ?_;simp only[pt,sz,sc];refine Qax 7 33 (.func (.func 128) #[.pointer (some ⟨w.heap.size,0,none⟩)] #[]) rfl hS (fun w' hSw=>by(try dsimp only at hSw);go_simp) ?_;simp only[pt,sz,sc];refine Qax 9 34 (.func (.func 129) #[] #[.pointer (some ⟨w.heap.size+1,0,none⟩)]) rfl hS (fun w' hSw=>by(try dsimp only at hSw);go_simp) ?_;simp only[pt,sz,sc];refine Qax 11 35 (.func (.func 131) #[] #[.pointer (some ⟨w.heap.size+1,0,none⟩)]) rfl hS (fun w' hSw=>by(try dsimp only at hSw);go_simp) ?_;simp only[pt,sz,sc];refine Qax 13 36 (.func (.func 132) #[] #[.pointer (some ⟨w.heap.size+1,0,none⟩)]) rfl hS (fun w' hSw=>by(try dsimp only at hSw);go_simp) ?_;simp only[pt,sz,sc];refine Qax 15 37 (.func (.func 135) #[] #[.pointer (some ⟨w.heap.size+1,0,none⟩)]) rfl hS (fun w' hSw=>by(try dsimp only at hSw);go_simp) ?_;simp only[pt,sz,sc];refine Qax 17 38 (.func (.func 138) #[] #[.pointer (some ⟨w.heap.size+1,0,none⟩)]) rfl hS (fun w' hSw=>by(try dsimp only at hSw);go_simp) ?_;simp only[pt,sz,sc];refine Qax 19 39 (.pointer (some ⟨w.heap.size,0,none⟩)) rfl hS (fun w' hSw=>by(try dsimp only at hSw);go_simp) ?_;simp only[pt,sz,sc];refine Qax 20 40 (.func (.func 139) #[.pointer (some ⟨w.heap.size,0,none⟩)] #[]) rfl hS (fun w' hSw=>by(try dsimp only at hSw);go_simp) ?_;simp only[pt,sz,sc];refine Qax 22 41 (.pointer (some ⟨w.heap.size,0,none⟩)) rfl hS (fun w' hSw=>by(try dsimp only at hSw);go_simp) ?_;simp only[pt,sz,sc];refine Qax 23 42 (.func (.func 140) #[.pointer (some ⟨w.heap.size,0,none⟩)] #[]) rfl hS (fun w' hSw=>by(try dsimp only at hSw);go_simp) ?_;simp only[pt,sz,sc];refine QfX (JJT t w.heap.size w' (.map (some m)) u8 aD aE aF aN aO aP) (fun l a w' h=>by rw[h.1];rfl) (fun l a w' h=>?hSS2) (fun l a w2 i h hi=>?hstep2) (fun l a w2 h hr=>?hdone2) _ _ _ _ (by decide) ?hinit2
  case hSS2=>
   obtain⟨_,_,_,_,_,_,_,_,_,J⟩:=h;exact Qb3 ao.o.1 J.mod (by omega)
  case hinit2=>
   refine⟨rfl,by decide,undef,undef,undef,undef,undef,undef,rfl,?_⟩;exact⟨aW,(Mod.refl _ _).drew,aT.o,fun h=>absurd h (by decide),fun h=>absurd h (by decide),fun h=>absurd h (by decide),fun h=>absurd h (by decide),fun h=>absurd h (by decide),fun h=>absurd h (by decide),fun h=>absurd h (by decide),fun h=>absurd h (by decide),fun h=>absurd h (by decide),fun h=>absurd h (by decide),fun h=>absurd h (by decide),fun h=>absurd h (by decide),fun h=>absurd h (by decide),fun h=>absurd h (by decide),fun h=>absurd h (by decide),fun h=>absurd h (by decide),fun h=>absurd h (by decide),fun h=>absurd h (by decide),fun h=>absurd h (by decide)⟩
  case hdone2=>
   obtain⟨hl,ac,a6,aQ,aR,a7,a8,a9,rfl,J⟩:=h;have ak:=QeQ hl (by kernel_rfl) hr;obtain⟨mt,pt,pf,ai,aM,af,_⟩:=J.done ak ao.o;have hc0:=(ao.o.mod af).1
   have ap:Hid (QwA t w (.returned (.pointer (some ⟨w.heap.size,0,none⟩))) w2):=by
    have aI:=Qnn (aq.o.trans af);obtain⟨mm,aK⟩:=a5;have aj:=Qau aK;exact⟨m,mt,w.heap.size+1,pt,pf,p1,k1,p2,k2,p3,k3,rfl,⟨ai,Nat.zero_le _,⟨mm,by rw[aI.cell (p:=⟨1,0,none⟩) aj];exact aK⟩,aj,ht,⟨Nat.zero_le _,by decide⟩,fun _=>rfl,fun _ c r e=>by cases e⟩,aM,aS.o.mod af,aI⟩
   clear J ak hr ac hl hS ai aM af;unfold tmT;go_wp2;go_ret;exact ap.o
  case hstep2=>
   obtain⟨hl,ac,a6,aQ,aR,a7,a8,a9,rfl,J⟩:=h;obtain⟨h0,o,ho,aa⟩:=mem_ready.1 hi;have aC:i<29:=(Array.getElem?_eq_some_iff.1 ho).1
   have ab:l.getD i false=false:=by
    have:i<l.size:=by omega
    simp[this]at h0 ⊢;exact h0
   clear h0;rcases(by omega:i=0\/i=1\/i=2\/i=3\/i=4\/i=5\/i=6\/i=7\/i=8\/i=9\/i=10\/i=11\/i=12\/i=13\/i=14\/i=15\/i=16\/i=17\/i=18\/i=19\/i=20\/i=21\/i=22\/i=23\/i=24\/i=25\/i=26\/i=27\/i=28)with hh|hh|hh|hh|hh|hh|hh|hh|hh|hh|hh|hh|hh|hh|hh|hh|hh|hh|hh|hh|hh|hh|hh|hh|hh|hh|hh|hh|hh<;>subst hh
   ·rw[ac 0 (by decide)]at ab;cases ab
   ·clear ho aa hi;refine QaP rfl (by rfl) ?_;unfold tmT;go_simp;exact JJT.next hl ac (by decide) (J.s1 ab)
   ·clear ho aa hi;refine QaP rfl (by rfl) ?_;unfold tmT;go_simp;refine(QnJ true _).mono ?_;rintro e w3 ⟨rfl,rfl⟩;exact JJT.next hl ac (by decide) (J.s2 ab)
   ·have ad:=Option.some.inj (show some _=some o from ho);subst ad;have h1:=aa { on:=1,ground:=.data } (by simp) rfl;have h2:=aa { on:=2,ground:=.data } (by simp) rfl;clear ho aa hi;obtain⟨m2,es,c,rfl,hm,hf,hn,J'⟩:=J.s3 ab h1 h2;have ae:(Instr.mapUpdate 208 (.map (some m2)) (.string ⟨#[116,114,117,101]⟩) (aQ)).run Tryz.prog w2=.ok () _:=QaT underlying208 underlying9 hm hf hn _;refine QaP rfl (by rfl) ?_;unfold tmT;go_simp;exact JJT.next hl ac (by decide) J'
   ·clear ho aa hi;refine QaP rfl (by rfl) ?_;unfold tmT;go_simp;refine(QnJ false _).mono ?_;rintro e w3 ⟨rfl,rfl⟩;exact JJT.next hl ac (by decide) (J.s4 ab)
   ·have ad:=Option.some.inj (show some _=some o from ho);subst ad;have h1:=aa { on:=1,ground:=.data } (by simp) rfl;have h2:=aa { on:=4,ground:=.data } (by simp) rfl;clear ho aa hi;obtain⟨m2,es,c,rfl,hm,hf,hn,J'⟩:=J.s5 ab h1 h2;have ae:(Instr.mapUpdate 208 (.map (some m2)) (.string ⟨#[102,97,108,115,101]⟩) (aR)).run Tryz.prog w2=.ok () _:=QaT underlying208 underlying9 hm hf hn _;refine QaP rfl (by rfl) ?_;unfold tmT;go_simp;exact JJT.next hl ac (by decide) J'
   ·rw[ac 6 (by decide)]at ab;cases ab
   ·rw[ac 7 (by decide)]at ab;cases ab
   ·have ad:=Option.some.inj (show some _=some o from ho);subst ad;have h1:=aa { on:=1,ground:=.data } (by simp) rfl;clear ho aa hi;obtain⟨m2,es,c,rfl,hm,hf,hn,J'⟩:=J.s8 ab h1;have ae:(Instr.mapUpdate 208 (.map (some m2)) (.string ⟨#[110,111,116]⟩) (.func (.func 128) #[.pointer (some ⟨w.heap.size,0,none⟩)] #[])).run Tryz.prog w2=.ok () _:=QaT underlying208 underlying9 hm hf hn _;refine QaP rfl (by rfl) ?_;unfold tmT;go_simp;exact JJT.next hl ac (by decide) J'
   ·rw[ac 9 (by decide)]at ab;cases ab
   ·have ad:=Option.some.inj (show some _=some o from ho);subst ad;have h1:=aa { on:=1,ground:=.data } (by simp) rfl;clear ho aa hi;obtain⟨m2,es,c,rfl,hm,hf,hn,J'⟩:=J.s10 ab h1;have ae:(Instr.mapUpdate 208 (.map (some m2)) (.string ⟨#[97,108,108,111,102]⟩) (.func (.func 129) #[] #[.pointer (some ⟨w.heap.size+1,0,none⟩)])).run Tryz.prog w2=.ok () _:=QaT underlying208 underlying9 hm hf hn _;refine QaP rfl (by rfl) ?_;unfold tmT;go_simp;exact JJT.next hl ac (by decide) J'
   ·rw[ac 11 (by decide)]at ab;cases ab
   ·have ad:=Option.some.inj (show some _=some o from ho);subst ad;have h1:=aa { on:=1,ground:=.data } (by simp) rfl;clear ho aa hi;obtain⟨m2,es,c,rfl,hm,hf,hn,J'⟩:=J.s12 ab h1;have ae:(Instr.mapUpdate 208 (.map (some m2)) (.string ⟨#[97,110,121,111,102]⟩) (.func (.func 131) #[] #[.pointer (some ⟨w.heap.size+1,0,none⟩)])).run Tryz.prog w2=.ok () _:=QaT underlying208 underlying9 hm hf hn _;refine QaP rfl (by rfl) ?_;unfold tmT;go_simp;exact JJT.next hl ac (by decide) J'
   ·rw[ac 13 (by decide)]at ab;cases ab
   ·have ad:=Option.some.inj (show some _=some o from ho);subst ad;have h1:=aa { on:=1,ground:=.data } (by simp) rfl;clear ho aa hi;obtain⟨m2,es,c,rfl,hm,hf,hn,J'⟩:=J.s14 ab h1;have ae:(Instr.mapUpdate 208 (.map (some m2)) (.string ⟨#[104,101,97,100,101,114]⟩) (.func (.func 132) #[] #[.pointer (some ⟨w.heap.size+1,0,none⟩)])).run Tryz.prog w2=.ok () _:=QaT underlying208 underlying9 hm hf hn _;refine QaP rfl (by rfl) ?_;unfold tmT;go_simp;exact JJT.next hl ac (by decide) J'
   ·rw[ac 15 (by decide)]at ab;cases ab
   ·have ad:=Option.some.inj (show some _=some o from ho);subst ad;have h1:=aa { on:=1,ground:=.data } (by simp) rfl;clear ho aa hi;obtain⟨m2,es,c,rfl,hm,hf,hn,J'⟩:=J.s16 ab h1;have ae:(Instr.mapUpdate 208 (.map (some m2)) (.string ⟨#[101,110,118,101,108,111,112,101]⟩) (.func (.func 135) #[] #[.pointer (some ⟨w.heap.size+1,0,none⟩)])).run Tryz.prog w2=.ok () _:=QaT underlying208 underlying9 hm hf hn _;refine QaP rfl (by rfl) ?_;unfold tmT;go_simp;exact JJT.next hl ac (by decide) J'
   ·rw[ac 17 (by decide)]at ab;cases ab
   ·have ad:=Option.some.inj (show some _=some o from ho);subst ad;have h1:=aa { on:=1,ground:=.data } (by simp) rfl;clear ho aa hi;obtain⟨m2,es,c,rfl,hm,hf,hn,J'⟩:=J.s18 ab h1;have ae:(Instr.mapUpdate 208 (.map (some m2)) (.string ⟨#[115,116,114,105,110,103]⟩) (.func (.func 138) #[] #[.pointer (some ⟨w.heap.size+1,0,none⟩)])).run Tryz.prog w2=.ok () _:=QaT underlying208 underlying9 hm hf hn _;refine QaP rfl (by rfl) ?_;unfold tmT;go_simp;exact JJT.next hl ac (by decide) J'
   ·rw[ac 19 (by decide)]at ab;cases ab
   ·rw[ac 20 (by decide)]at ab;cases ab
   ·have ad:=Option.some.inj (show some _=some o from ho);subst ad;have h1:=aa { on:=1,ground:=.data } (by simp) rfl;clear ho aa hi;obtain⟨m2,es,c,rfl,hm,hf,hn,J'⟩:=J.s21 ab h1;have ae:(Instr.mapUpdate 208 (.map (some m2)) (.string ⟨#[101,120,105,115,116,115]⟩) (.func (.func 139) #[.pointer (some ⟨w.heap.size,0,none⟩)] #[])).run Tryz.prog w2=.ok () _:=QaT underlying208 underlying9 hm hf hn _;refine QaP rfl (by rfl) ?_;unfold tmT;go_simp;exact JJT.next hl ac (by decide) J'
   ·rw[ac 22 (by decide)]at ab;cases ab
   ·rw[ac 23 (by decide)]at ab;cases ab
   ·have ad:=Option.some.inj (show some _=some o from ho);subst ad;have h1:=aa { on:=1,ground:=.data } (by simp) rfl;clear ho aa hi;obtain⟨m2,es,c,rfl,hm,hf,hn,J'⟩:=J.s24 ab h1;have ae:(Instr.mapUpdate 208 (.map (some m2)) (.string ⟨#[115,105,122,101]⟩) (.func (.func 140) #[.pointer (some ⟨w.heap.size,0,none⟩)] #[])).run Tryz.prog w2=.ok () _:=QaT underlying208 underlying9 hm hf hn _;refine QaP rfl (by rfl) ?_;unfold tmT;go_simp;exact JJT.next hl ac (by decide) J'
   ·have ad:=Option.some.inj (show some _=some o from ho);subst ad;have h1:=aa { on:=1,ground:=.data } (by simp) rfl;have a0:=aa { on:=3,ground:=.data } (by simp) rfl;have a2:=aa { on:=5,ground:=.data } (by simp) rfl;have a4:=aa { on:=8,ground:=.data } (by simp) rfl;have ag:=aa { on:=10,ground:=.data } (by simp) rfl;have ar:=aa { on:=12,ground:=.data } (by simp) rfl;have av:=aa { on:=14,ground:=.data } (by simp) rfl;have ah:=aa { on:=16,ground:=.data } (by simp) rfl;have aw:=aa { on:=18,ground:=.data } (by simp) rfl;have ay:=aa { on:=21,ground:=.data } (by simp) rfl;have aA:=aa { on:=24,ground:=.data } (by simp) rfl;clear ho aa hi;refine QaP rfl (by rfl) ?_;unfold tmT;go_simp;exact JJT.next hl ac (by decide) (J.s25 ab h1 a0 a2 a4 ag ar av ah aw ay aA)
   ·clear ho aa hi;refine QaP rfl (by rfl) ?_;unfold tmT;go_simp;exact JJT.next hl ac (by decide) (J.s26 ab)
   ·have ad:=Option.some.inj (show some _=some o from ho);subst ad;have h1:=aa { on:=26,ground:=.data } (by simp) rfl;obtain rfl:=J.m26 h1;clear ho aa hi;refine QaP rfl (by rfl) ?_;unfold tmT;go_simp;exact JJT.next hl ac (by decide) (J.s27 ab)
   ·have ad:=Option.some.inj (show some _=some o from ho);subst ad;have aU:=aa { on:=27,ground:=.data } (by simp) rfl;have aG:=aa { on:=25,ground:=.data } (by simp) rfl;obtain rfl:=J.m27 aU;obtain⟨rfl,h1,_⟩:=J.m25 aG;obtain⟨m2,es,c,rfl,_,_,_⟩:=J.mp h1;clear ho aa hi;have hr:=J.rd;unfold Qcy at hr;have aY:w2.cell? ⟨w.heap.size,9,none⟩=some _:=Qaa hr 9;rw[show(l.getD 28 false)=false from ab]at aY;have aZ:=Qao hr;refine QaP rfl (by rfl) ?_;unfold tmT;go_simp;exact JJT.next hl ac (by decide) (J.s28 ab aG)
 case hstep=>
  obtain⟨hl,ac,u8,aD,aE,aF,aN,aO,aP,rfl,J⟩:=h;obtain⟨h0,o,ho,aa⟩:=mem_ready.1 hi;have aC:i<30:=(Array.getElem?_eq_some_iff.1 ho).1
  have ab:l.getD i false=false:=by
   have:i<l.size:=by omega
   simp[this]at h0 ⊢;exact h0
  clear h0;rcases(by omega:i=0\/i=1\/i=2\/i=3\/i=4\/i=5\/i=6\/i=7\/i=8\/i=9\/i=10\/i=11\/i=12\/i=13\/i=14\/i=15\/i=16\/i=17\/i=18\/i=19\/i=20\/i=21\/i=22\/i=23\/i=24\/i=25\/i=26\/i=27\/i=28\/i=29)with hh|hh|hh|hh|hh|hh|hh|hh|hh|hh|hh|hh|hh|hh|hh|hh|hh|hh|hh|hh|hh|hh|hh|hh|hh|hh|hh|hh|hh|hh<;>subst hh
  ·rw[ac 0 (by decide)]at ab;cases ab
  ·clear ho aa hi;refine QaP rfl (by rfl) ?_;unfold tmC;go_simp;exact JJC.next hl ac (by decide) (J.s1 ab)
  ·rw[ac 2 (by decide)]at ab;cases ab
  ·rw[ac 3 (by decide)]at ab;cases ab
  ·have ad:=Option.some.inj (show some _=some o from ho);subst ad;have h1:=aa { on:=1,ground:=.data } (by simp) rfl;clear ho aa hi;obtain⟨m,es,c,rfl,hm,hf,hn,J'⟩:=J.s4 ab h1;have ae:(Instr.mapUpdate 207 (.map (some m)) (.string ⟨#[107,101,101,112]⟩) (.func (.func 121) #[.pointer (some ⟨w.heap.size,0,none⟩)] #[])).run Tryz.prog w'=.ok () _:=QaT underlying207 underlying9 hm hf hn _;refine QaP rfl (by rfl) ?_;unfold tmC;go_simp;exact JJC.next hl ac (by decide) J'
  ·rw[ac 5 (by decide)]at ab;cases ab
  ·rw[ac 6 (by decide)]at ab;cases ab
  ·have ad:=Option.some.inj (show some _=some o from ho);subst ad;have h1:=aa { on:=1,ground:=.data } (by simp) rfl;clear ho aa hi;obtain⟨m,es,c,rfl,hm,hf,hn,J'⟩:=J.s7 ab h1;have ae:(Instr.mapUpdate 207 (.map (some m)) (.string ⟨#[100,105,115,99,97,114,100]⟩) (.func (.func 122) #[.pointer (some ⟨w.heap.size,0,none⟩)] #[])).run Tryz.prog w'=.ok () _:=QaT underlying207 underlying9 hm hf hn _;refine QaP rfl (by rfl) ?_;unfold tmC;go_simp;exact JJC.next hl ac (by decide) J'
  ·rw[ac 8 (by decide)]at ab;cases ab
  ·rw[ac 9 (by decide)]at ab;cases ab
  ·have ad:=Option.some.inj (show some _=some o from ho);subst ad;have h1:=aa { on:=1,ground:=.data } (by simp) rfl;clear ho aa hi;obtain⟨m,es,c,rfl,hm,hf,hn,J'⟩:=J.s10 ab h1;have ae:(Instr.mapUpdate 207 (.map (some m)) (.string ⟨#[115,116,111,112]⟩) (.func (.func 123) #[.pointer (some ⟨w.heap.size,0,none⟩)] #[])).run Tryz.prog w'=.ok () _:=QaT underlying207 underlying9 hm hf hn _;refine QaP rfl (by rfl) ?_;unfold tmC;go_simp;exact JJC.next hl ac (by decide) J'
  ·rw[ac 11 (by decide)]at ab;cases ab
  ·clear ho aa hi;refine QaP rfl (by rfl) ?_;unfold tmC;go_simp;refine(Qqs _ w.heap.size 2 _ rfl).mono ?_;rintro e w2 ⟨rfl,rfl⟩;exact JJC.next hl ac (by decide) (J.s12 ab)
  ·have ad:=Option.some.inj (show some _=some o from ho);subst ad;have h1:=aa { on:=1,ground:=.data } (by simp) rfl;have h2:=aa { on:=12,ground:=.data } (by simp) rfl;clear ho aa hi;obtain⟨m,es,c,rfl,hm,hf,hn,J'⟩:=J.s13 ab h1 h2;have ae:(Instr.mapUpdate 207 (.map (some m)) (.string ⟨#[102,105,108,101,105,110,116,111]⟩) (aD)).run Tryz.prog w'=.ok () _:=QaT underlying207 underlying9 hm hf hn _;refine QaP rfl (by rfl) ?_;unfold tmC;go_simp;exact JJC.next hl ac (by decide) J'
  ·rw[ac 14 (by decide)]at ab;cases ab
  ·clear ho aa hi;refine QaP rfl (by rfl) ?_;unfold tmC;go_simp;refine(Qqs _ w.heap.size 3 _ rfl).mono ?_;rintro e w2 ⟨rfl,rfl⟩;exact JJC.next hl ac (by decide) (J.s15 ab)
  ·have ad:=Option.some.inj (show some _=some o from ho);subst ad;have h1:=aa { on:=1,ground:=.data } (by simp) rfl;have h2:=aa { on:=15,ground:=.data } (by simp) rfl;clear ho aa hi;obtain⟨m,es,c,rfl,hm,hf,hn,J'⟩:=J.s16 ab h1 h2;have ae:(Instr.mapUpdate 207 (.map (some m)) (.string ⟨#[114,101,100,105,114,101,99,116]⟩) (aE)).run Tryz.prog w'=.ok () _:=QaT underlying207 underlying9 hm hf hn _;refine QaP rfl (by rfl) ?_;unfold tmC;go_simp;exact JJC.next hl ac (by decide) J'
  ·rw[ac 17 (by decide)]at ab;cases ab
  ·clear ho aa hi;refine QaP rfl (by rfl) ?_;unfold tmC;go_simp;refine(Qqs _ w.heap.size 4 _ rfl).mono ?_;rintro e w2 ⟨rfl,rfl⟩;exact JJC.next hl ac (by decide) (J.s18 ab)
  ·have ad:=Option.some.inj (show some _=some o from ho);subst ad;have h1:=aa { on:=1,ground:=.data } (by simp) rfl;have h2:=aa { on:=18,ground:=.data } (by simp) rfl;clear ho aa hi;obtain⟨m,es,c,rfl,hm,hf,hn,J'⟩:=J.s19 ab h1 h2;have ae:(Instr.mapUpdate 207 (.map (some m)) (.string ⟨#[114,101,106,101,99,116]⟩) (aF)).run Tryz.prog w'=.ok () _:=QaT underlying207 underlying9 hm hf hn _;refine QaP rfl (by rfl) ?_;unfold tmC;go_simp;exact JJC.next hl ac (by decide) J'
  ·rw[ac 20 (by decide)]at ab;cases ab
  ·rw[ac 21 (by decide)]at ab;cases ab
  ·have ad:=Option.some.inj (show some _=some o from ho);subst ad;have h1:=aa { on:=1,ground:=.data } (by simp) rfl;clear ho aa hi;obtain⟨m,es,c,rfl,hm,hf,hn,J'⟩:=J.s22 ab h1;have ae:(Instr.mapUpdate 207 (.map (some m)) (.string ⟨#[115,101,116]⟩) (.func (.func 125) #[.pointer (some ⟨w.heap.size,0,none⟩)] #[])).run Tryz.prog w'=.ok () _:=QaT underlying207 underlying9 hm hf hn _;refine QaP rfl (by rfl) ?_;unfold tmC;go_simp;exact JJC.next hl ac (by decide) J'
  ·rw[ac 23 (by decide)]at ab;cases ab
  ·rw[ac 24 (by decide)]at ab;cases ab
  ·have ad:=Option.some.inj (show some _=some o from ho);subst ad;have h1:=aa { on:=1,ground:=.data } (by simp) rfl;clear ho aa hi;obtain⟨m,es,c,rfl,hm,hf,hn,J'⟩:=J.s25 ab h1;have ae:(Instr.mapUpdate 207 (.map (some m)) (.string ⟨#[105,102]⟩) (.func (.func 126) #[.pointer (some ⟨w.heap.size,0,none⟩)] #[])).run Tryz.prog w'=.ok () _:=QaT underlying207 underlying9 hm hf hn _;refine QaP rfl (by rfl) ?_;unfold tmC;go_simp;exact JJC.next hl ac (by decide) J'
  ·have ad:=Option.some.inj (show some _=some o from ho);subst ad;have h1:=aa { on:=1,ground:=.data } (by simp) rfl;have a1:=aa { on:=4,ground:=.data } (by simp) rfl;have a3:=aa { on:=7,ground:=.data } (by simp) rfl;have ag:=aa { on:=10,ground:=.data } (by simp) rfl;have au:=aa { on:=13,ground:=.data } (by simp) rfl;have ah:=aa { on:=16,ground:=.data } (by simp) rfl;have ax:=aa { on:=19,ground:=.data } (by simp) rfl;have az:=aa { on:=22,ground:=.data } (by simp) rfl;have aB:=aa { on:=25,ground:=.data } (by simp) rfl;clear ho aa hi;refine QaP rfl (by rfl) ?_;unfold tmC;go_simp;exact JJC.next hl ac (by decide) (J.s26 ab h1 a1 a3 ag au ah ax az aB)
  ·clear ho aa hi;refine QaP rfl (by rfl) ?_;unfold tmC;go_simp;exact JJC.next hl ac (by decide) (J.s27 ab)
  ·have ad:=Option.some.inj (show some _=some o from ho);subst ad;have h1:=aa { on:=27,ground:=.data } (by simp) rfl;obtain rfl:=J.m27 h1;clear ho aa hi;refine QaP rfl (by rfl) ?_;unfold tmC;go_simp;exact JJC.next hl ac (by decide) (J.s28 ab)
  ·have ad:=Option.some.inj (show some _=some o from ho);subst ad;have aV:=aa { on:=28,ground:=.data } (by simp) rfl;have aH:=aa { on:=26,ground:=.data } (by simp) rfl;obtain rfl:=J.m28 aV;obtain⟨rfl,h1,_⟩:=J.m26 aH;obtain⟨m,es,c,rfl,_,_,_⟩:=J.mp h1;clear ho aa hi;have hr:=J.rd;unfold Qcy at hr;have aX:w'.cell? ⟨w.heap.size,8,none⟩=some _:=Qaa hr 8;rw[show(l.getD 29 false)=false from ab]at aX;have aZ:=Qao hr;refine QaP rfl (by rfl) ?_;unfold tmC;go_simp;exact JJC.next hl ac (by decide) (J.s29 ab aH)
end
end Go.Proofs.YtgnkjijocdmniaaGreatDoor
