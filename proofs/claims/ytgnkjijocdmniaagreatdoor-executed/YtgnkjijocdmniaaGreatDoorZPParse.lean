import Derived.Test.YtgnkjijocdmniaaGreatDoorZCCode
import Derived.Test.YtgnkjijocdmniaaGreatDoorTold2
namespace Go.Proofs.YtgnkjijocdmniaaGreatDoor
set_option linter.unusedVariables false
set_option linter.unusedSimpArgs false
set_option maxRecDepth 100000
set_option maxHeartbeats 4000000
open Go.Proofs.Tryz
open Go.RowKit
attribute [local go_sem ↓] Go.wp_at_zero Go.wp_at_succ
variable{B b c i j k m:Nat}{L:Nat->Bool}{W w w':World}{a:Array MapEntry}{f:L8->Option Value}{l:Array Bool}{o o':Obj}{t:ByteArray}{v:Value}
def XD(es:Array MapEntry)(f:L8->Option Value):Prop:=
 (∀ e∈es.toList,∃ x,e.key=.string (sA x)/\f x=some e.val)/\∀ x v,f x=some v->∃ e∈es.toList,e.key=.string (sA x)
theorem XD.keys(h:XD a f):∀ e∈a.toList,MapKept.IsKey .string e.key:=fun e he=>by
 obtain⟨x,b,_⟩:=h.1 e he;rw[b];trivial
theorem XD.empty:XD #[] (fun _=>none):=⟨fun e he=>by simp at he,fun x v h=>by cases h⟩
theorem XD.push{b:Array MapEntry}{f g:L8->Option Value}(h:XD b f){x:L8}{v:Value}{c:Nat}(l:f x=none)(m:g x=some v)(d:∀ z,z≠x->g z=f z):XD (b.push ⟨.string (sA x),v,c⟩) g:=by
 refine⟨fun e he=>?_,fun z u i=>?_⟩
 ·simp only[Array.toList_push,List.mem_append,List.mem_singleton]at he;rcases he with he|he
  ·obtain⟨z,j,a⟩:=h.1 e he;have:z≠x:=fun e=>by rw[e,l]at a;cases a
   exact⟨z,j,by rw[d z this];exact a⟩
  ·subst he;exact⟨x,rfl,m⟩
 ·by_cases e:z=x
  ·exact⟨⟨.string (sA x),v,c⟩,by simp,by rw[e]⟩
  ·rw[d z e]at i;obtain⟨y,n,k⟩:=h.2 z u i;exact⟨y,by simp[n],k⟩
theorem XD.congr{g:L8->Option Value}(h:XD a f)(e:∀ x,f x=g x):XD a g:=by
 have:f=g:=funext e;rw[<-this];exact h
def Xp(w:World)(m:Nat)(o:Obj):World:={ w with heap:=w.heap.setIfInBounds m o }
theorem XP{T K E:TypeId}(q:prog.underlying T=some (.map K E))(d:prog.underlying K=some .string){x:L8}(k:w.heap[m]?=some (.map a c))(g:XD a f)(r:f x=none)(v:Value) :
 (Instr.mapUpdate T (.map (some m)) (.string (sA x)) v).run prog w=.ok () (Xp w m (.map (a.push ⟨.string (sA x),v,c⟩) (c+1))):=by
 have i:MapKept.IsKey .string (.string (sA x)):=trivial;rcases MapKept.findNow_spec i a.toList 0 g.keys with⟨b,_⟩ | ⟨j,e,b,o,p⟩
 ·simp[Instr.mapUpdate,run_underlying q,MapKept.run_getObj_map k,MapKept.run_checkKey d i,MapKept.run_findKey d b,MapKept.run_setObj_map _ k,Result.andThen,Xp]
 ·obtain⟨z,l,n⟩:=g.1 e (List.mem_of_getElem? o);rw[p]at l;have:x=z:=U9 (by simpa using l);subst this;rw[r]at n;cases n
theorem VP(h:w.heap[m]?=some o):(Xp w m o').heap[m]?=some o':=by
 have:=Qg h;simp[Xp,this]
theorem Kj(h:k≠m):(Xp w m o').heap[k]?=w.heap[k]?:=by
 simp[Xp,Array.getElem?_setIfInBounds_ne (Ne.symm h)]
theorem B3:(Xp w m o').heap.size=w.heap.size:=by simp[Xp]
theorem DI{T K E:TypeId}(n:prog.underlying T=some (.map K E))(a:prog.underlying K=some .string)(q:∀ W,(zeroValue E).run prog W=.ok .nilFunc W){b:Array MapEntry}(s:w.heap[m]?=some (.map b c))(k:XD b f):A9 w T m f:=by
 intro W x i;rw[s]at i;have l:MapKept.IsKey .string (.string (sA x)):=trivial;rcases MapKept.findNow_spec l b.toList 0 k.keys with⟨d,g⟩ | ⟨j,e,d,g,p⟩
 ·have t:f x=none:=by
   cases hfx:f x with
   |none=>rfl
   |some v=>
    obtain⟨e,he,r⟩:=k.2 x v hfx;exact absurd r (g e he)
  rw[t];simp[Instr.lookup,run_underlying n,MapKept.run_getObj_map i,MapKept.run_checkKey a l,MapKept.run_findKey a d,q,Result.andThen]
 ·obtain⟨z,o,u⟩:=k.1 e (List.mem_of_getElem? g);rw[p]at o;have:x=z:=U9 (by simpa using o);subst this;rw[u];simp[Instr.lookup,run_underlying n,MapKept.run_getObj_map i,MapKept.run_checkKey a l,MapKept.run_findKey a d,Result.andThen]
theorem Tryz.infoFnC:(prog.info? 211).map (fun i=>(i.zero,i.size,i.bytes))=some (some .nilFunc,1,8):=by kernel_rfl
theorem Tryz.infoFnT:(prog.info? 213).map (fun i=>(i.zero,i.size,i.bytes))=some (some .nilFunc,1,8):=by kernel_rfl
theorem Ti(W:World):(zeroValue 211).run prog W=.ok .nilFunc W:=by
 obtain⟨e,a,b,c,d⟩:=info_parts Tryz.infoFnC;simp[zeroValue,typeInfo,Sem.run,a,b]
theorem T8(W:World):(zeroValue 213).run prog W=.ok .nilFunc W:=by
 obtain⟨e,a,b,c,d⟩:=info_parts Tryz.infoFnT;simp[zeroValue,typeInfo,Sem.run,a,b]
theorem A2(r:Value)(b:Nat)(a:Int)(w:World)(c:r=.pointer (some ⟨b,0,none⟩)) :
 Calls prog 124 #[r,.int .i64 a] w fun e w'=>e=.returned (.func (.func 178) #[] #[.pointer (some ⟨w.heap.size,0,none⟩),.pointer (some ⟨w.heap.size+1,0,none⟩)])/\w'=(w.alloc (.cells #[r] 161)).alloc (.cells #[.int .i64 a] 3):=by
 subst c;have d:∀(fn:Fn) (first cap:Array Value) (w:World),(Instr.makeFunc fn first cap).run prog w=.ok (.func fn first cap) w:=fun _ _ _ _=>rfl
 go_enter func124,ntmps124;go_wp2;go_ret;exact⟨rfl,rfl⟩
theorem DJ(h:Bool)(w:World) :
 Calls prog 127 #[.bool h] w fun e w'=>e=.returned (.func (.func 185) #[] #[.pointer (some ⟨w.heap.size,0,none⟩)])/\w'=w.alloc (.cells #[.bool h] 4):=by
 have a:∀(fn:Fn) (first cap:Array Value) (w:World),(Instr.makeFunc fn first cap).run prog w=.ok (.func fn first cap) w:=fun _ _ _ _=>rfl
 go_enter func127,ntmps127;go_wp2;go_ret;exact⟨rfl,rfl⟩
def up(L:Nat->Bool)(i:Nat):Nat->Bool:=fun j=>if j=i then true else L j
theorem Xg(L:Nat->Bool)(i:Nat):up L i i=true:=by simp[up]
theorem Qm(L:Nat->Bool)(h:j≠i):up L i j=L j:=by simp[up,h]
theorem Qj(L:Nat->Bool)(h:L j=true):up L i j=true:=by unfold up;split<;>simp[h]
theorem ud(h:up L i j=true)(a:j≠i:=by decide):L j=true:=by rwa [Qm L a]at h
theorem ui(hi:L j=true->L k=true)(a:j≠i:=by decide)(h:up L i j=true):up L i k=true:=Qj _ (hi (ud h a))
theorem nf(hi:L j=true->L k=true)(a:L k=false):L j=false:=by
 cases hh:L j with
 |false=>rfl
 |true=>have:=hi hh;rw[a]at this;cases this
def Ym(t:ByteArray)(mv mv2:Value):Obj:=.cells #[.string t,.int .i64 0,.int .i64 0,.string ⟨#[]⟩,.string ⟨#[]⟩,.int .i64 0,.int .i64 0,.slice none 0 0,mv,mv2] 210
def Vs(w:World)(b B kd:Nat)(v:Value):Prop:=
 ∃ p q,v=.func (.func 178) #[] #[.pointer (some ⟨p,0,none⟩),.pointer (some ⟨q,0,none⟩)]/\B<=p/\B<=q/\w.heap[p]?=some (.cells #[.pointer (some ⟨b,0,none⟩)] 161)/\w.heap[q]?=some (.cells #[.int .i64 kd] 3)
theorem Vs.keep{e:Nat}(h:Vs w b B e v)(a:∀ k cs ty,B<=k->w.heap[k]?=some (.cells cs ty)->w'.heap[k]?=some (.cells cs ty)):Vs w' b B e v:=by
 obtain⟨p,q,i,c,d,f,g⟩:=h;exact⟨p,q,i,c,d,a p _ _ c f,a q _ _ d g⟩
def fC(b:Nat)(L:Nat->Bool)(u16 u18 u20:Value)(x:L8):Option Value:=
 match wL cNs x with
 |1=>if L 4 then some (.func (.func 121) #[.pointer (some ⟨b,0,none⟩)] #[])else none
 |2=>if L 7 then some (.func (.func 122) #[.pointer (some ⟨b,0,none⟩)] #[])else none
 |3=>if L 10 then some (.func (.func 123) #[.pointer (some ⟨b,0,none⟩)] #[])else none
 |4=>if L 13 then some (u16)else none
 |5=>if L 16 then some (u18)else none
 |6=>if L 19 then some (u20)else none
 |7=>if L 22 then some (.func (.func 125) #[.pointer (some ⟨b,0,none⟩)] #[])else none
 |8=>if L 25 then some (.func (.func 126) #[.pointer (some ⟨b,0,none⟩)] #[])else none
 |_=>none
structure JC (t:ByteArray) (b:Nat) (W:World) (mv2:Value) (L:Nat->Bool) (u8 u16 u18 u20 u25 u26 u27:Value) (w:World):Prop where
 hb:b < W.heap.size
 mod:Mod b W w
 rd:w.heap[b]?=some (Ym t (if L 29 then u25 else Value.map none) mv2)
 cm4:L 4=true->L 1=true
 cm7:L 7=true->L 1=true
 cm10:L 10=true->L 1=true
 cm13:L 13=true->L 1=true
 cm16:L 16=true->L 1=true
 cm19:L 19=true->L 1=true
 cm22:L 22=true->L 1=true
 cm25:L 25=true->L 1=true
 cv13:L 13=true->L 12=true
 cv16:L 16=true->L 15=true
 cv19:L 19=true->L 18=true
 a12:L 12=true->Vs w b W.heap.size 2 u16
 a15:L 15=true->Vs w b W.heap.size 3 u18
 a18:L 18=true->Vs w b W.heap.size 4 u20
 mp:L 1=true->∃ m es c,u8=.map (some m)∧W.heap.size<=m∧w.heap[m]?=some (.map es c)∧XD es (fC b L u16 u18 u20)
 m26:L 26=true->u25=u8∧L 1=true∧L 4=true∧L 7=true∧L 10=true∧L 13=true∧L 16=true∧L 19=true∧L 22=true∧L 25=true
 m27:L 27=true->u26=.pointer (some ⟨b,0,none⟩)
 m28:L 28=true->u27=.pointer (some ⟨b,8,none⟩)
 m29:L 29=true->L 26=true
theorem Ch(h:Mod b W w)(a:W.heap.size<=m):Mod b W (Xp w m o):=
 ⟨h.os,h.tape,h.output,by rw[B3];exact h.size,fun k hk hn=>by rw[Kj (by omega)];exact h.block k hk hn⟩
section
variable {t:ByteArray} {b:Nat} {W:World} {mv2:Value} {L:Nat->Bool} {u8 u16 u18 u20 u25 u26 u27:Value} {w:World}
theorem Ud(i:Nat)(h:i≠4/\i≠7/\i≠10/\i≠13/\i≠16/\i≠19/\i≠22/\i≠25)(x:L8):fC b (up L i) u16 u18 u20 x=fC b L u16 u18 u20 x:=by
 obtain⟨a,c,d,e,f,g,j,k⟩:=h;unfold fC;simp only[Qm L (Ne.symm a),Qm L (Ne.symm c),Qm L (Ne.symm d),Qm L (Ne.symm e),Qm L (Ne.symm f),Qm L (Ne.symm g),Qm L (Ne.symm j),Qm L (Ne.symm k)]
theorem JC.m26u(J:JC t b W mv2 L u8 u16 u18 u20 u25 u26 u27 w)(h:L 26=true):u25=u8/\up L i 1=true/\up L i 4=true/\up L i 7=true/\up L i 10=true/\up L i 13=true/\up L i 16=true/\up L i 19=true/\up L i 22=true/\up L i 25=true:=by
 obtain⟨a,d,e,f,g,j,k,l,m,c⟩:=J.m26 h;exact⟨a,Qj _ d,Qj _ e,Qj _ f,Qj _ g,Qj _ j,Qj _ k,Qj _ l,Qj _ m,Qj _ c⟩
theorem JC.s1(J:JC t b W mv2 L u8 u16 u18 u20 u25 u26 u27 w)(a:L 1=false):JC t b W mv2 (up L 1) (.map (some w.heap.size)) u16 u18 u20 u25 u26 u27 (w.alloc (Obj.map #[] 0)):=by
 have d:∀ k c e,W.heap.size<=k->w.heap[k]?=some (.cells c e)->(w.alloc (Obj.map #[] 0)).heap[k]?=some (.cells c e):=fun k c e _ h=>Qn h
 have f:(w.alloc (Obj.map #[] 0)).heap[b]?=some (Ym t (if L 29 then u25 else Value.map none) mv2):=Qn J.rd;have o:L 4=false:=nf J.cm4 a;have p:L 7=false:=nf J.cm7 a;have g:L 10=false:=nf J.cm10 a;have i:L 13=false:=nf J.cm13 a;have j:L 16=false:=nf J.cm16 a;have l:L 19=false:=nf J.cm19 a;have m:L 22=false:=nf J.cm22 a;have n:L 25=false:=nf J.cm25 a;exact⟨J.hb,J.mod.trans ((Mod.refl b w).alloc _),by rw[Qm L (by decide)];exact f,ui J.cm4,ui J.cm7,ui J.cm10,ui J.cm13,ui J.cm16,ui J.cm19,ui J.cm22,ui J.cm25,ui J.cv13,ui J.cv16,ui J.cv19,fun h=>(J.a12 (ud h)).keep d,fun h=>(J.a15 (ud h)).keep d,fun h=>(J.a18 (ud h)).keep d,fun _=>⟨w.heap.size,#[],0,rfl,J.mod.size,QC _ _,XD.empty.congr (fun x=>by rw[Ud 1 (by decide)];unfold fC;simp only[o,p,g,i,j,l,m,n];split<;>rfl)⟩,fun h=>absurd (J.m26 (ud h)).2.1 (by rw[a];decide),fun h=>J.m27 (ud h),fun h=>J.m28 (ud h),ui J.m29⟩
theorem JC.s12(J:JC t b W mv2 L u8 u16 u18 u20 u25 u26 u27 w)(g:L 12=false):JC t b W mv2 (up L 12) u8 (.func (.func 178) #[] #[.pointer (some ⟨w.heap.size,0,none⟩),.pointer (some ⟨w.heap.size+1,0,none⟩)]) u18 u20 u25 u26 u27 ((w.alloc (.cells #[.pointer (some ⟨b,0,none⟩)] 161)).alloc (.cells #[.int .i64 2] 3)):=by
 have f:∀ k d e,W.heap.size<=k->w.heap[k]?=some (.cells d e)->((w.alloc (.cells #[.pointer (some ⟨b,0,none⟩)] 161)).alloc (.cells #[.int .i64 2] 3)).heap[k]?=some (.cells d e):=fun k d e _ h=>Qn (Qn h)
 have p:∀(m:Nat) (a:Array MapEntry) (c:Nat),w.heap[m]?=some (Obj.map a c)->((w.alloc (.cells #[.pointer (some ⟨b,0,none⟩)] 161)).alloc (.cells #[.int .i64 2] 3)).heap[m]?=some (Obj.map a c):=fun m a c h=>Qn (Qn h)
 have o:((w.alloc (.cells #[.pointer (some ⟨b,0,none⟩)] 161)).alloc (.cells #[.int .i64 2] 3)).heap[b]?=some (Ym t (if L 29 then u25 else Value.map none) mv2):=Qn (Qn J.rd);have q:L 13=false:=nf J.cv13 g;have r:=J.mod.size;exact⟨J.hb,J.mod.trans (((Mod.refl b w).alloc _).alloc _),by rw[Qm L (by decide)];exact o,ui J.cm4,ui J.cm7,ui J.cm10,ui J.cm13,ui J.cm16,ui J.cm19,ui J.cm22,ui J.cm25,ui J.cv13,ui J.cv16,ui J.cv19,fun _=>⟨w.heap.size,w.heap.size+1,rfl,r,by omega,Qn (QC _ _),Q5 (by simp)⟩,fun h=>(J.a15 (ud h)).keep f,fun h=>(J.a18 (ud h)).keep f,fun h=>by obtain⟨m,a,c,i,j,l,n⟩:=J.mp (ud h);exact⟨m,a,c,i,j,p m _ _ l,n.congr (fun x=>by rw[Ud 12 (by decide)];unfold fC;simp only[q,Bool.false_eq_true,if_false])⟩,fun h=>J.m26u (ud h),fun h=>J.m27 (ud h),fun h=>J.m28 (ud h),ui J.m29⟩
theorem JC.s15(J:JC t b W mv2 L u8 u16 u18 u20 u25 u26 u27 w)(g:L 15=false):JC t b W mv2 (up L 15) u8 u16 (.func (.func 178) #[] #[.pointer (some ⟨w.heap.size,0,none⟩),.pointer (some ⟨w.heap.size+1,0,none⟩)]) u20 u25 u26 u27 ((w.alloc (.cells #[.pointer (some ⟨b,0,none⟩)] 161)).alloc (.cells #[.int .i64 3] 3)):=by
 have f:∀ k d e,W.heap.size<=k->w.heap[k]?=some (.cells d e)->((w.alloc (.cells #[.pointer (some ⟨b,0,none⟩)] 161)).alloc (.cells #[.int .i64 3] 3)).heap[k]?=some (.cells d e):=fun k d e _ h=>Qn (Qn h)
 have p:∀(m:Nat) (a:Array MapEntry) (c:Nat),w.heap[m]?=some (Obj.map a c)->((w.alloc (.cells #[.pointer (some ⟨b,0,none⟩)] 161)).alloc (.cells #[.int .i64 3] 3)).heap[m]?=some (Obj.map a c):=fun m a c h=>Qn (Qn h)
 have o:((w.alloc (.cells #[.pointer (some ⟨b,0,none⟩)] 161)).alloc (.cells #[.int .i64 3] 3)).heap[b]?=some (Ym t (if L 29 then u25 else Value.map none) mv2):=Qn (Qn J.rd);have q:L 16=false:=nf J.cv16 g;have r:=J.mod.size;exact⟨J.hb,J.mod.trans (((Mod.refl b w).alloc _).alloc _),by rw[Qm L (by decide)];exact o,ui J.cm4,ui J.cm7,ui J.cm10,ui J.cm13,ui J.cm16,ui J.cm19,ui J.cm22,ui J.cm25,ui J.cv13,ui J.cv16,ui J.cv19,fun h=>(J.a12 (ud h)).keep f,fun _=>⟨w.heap.size,w.heap.size+1,rfl,r,by omega,Qn (QC _ _),Q5 (by simp)⟩,fun h=>(J.a18 (ud h)).keep f,fun h=>by obtain⟨m,a,c,i,j,l,n⟩:=J.mp (ud h);exact⟨m,a,c,i,j,p m _ _ l,n.congr (fun x=>by rw[Ud 15 (by decide)];unfold fC;simp only[q,Bool.false_eq_true,if_false])⟩,fun h=>J.m26u (ud h),fun h=>J.m27 (ud h),fun h=>J.m28 (ud h),ui J.m29⟩
theorem JC.s18(J:JC t b W mv2 L u8 u16 u18 u20 u25 u26 u27 w)(g:L 18=false):JC t b W mv2 (up L 18) u8 u16 u18 (.func (.func 178) #[] #[.pointer (some ⟨w.heap.size,0,none⟩),.pointer (some ⟨w.heap.size+1,0,none⟩)]) u25 u26 u27 ((w.alloc (.cells #[.pointer (some ⟨b,0,none⟩)] 161)).alloc (.cells #[.int .i64 4] 3)):=by
 have f:∀ k d e,W.heap.size<=k->w.heap[k]?=some (.cells d e)->((w.alloc (.cells #[.pointer (some ⟨b,0,none⟩)] 161)).alloc (.cells #[.int .i64 4] 3)).heap[k]?=some (.cells d e):=fun k d e _ h=>Qn (Qn h)
 have p:∀(m:Nat) (a:Array MapEntry) (c:Nat),w.heap[m]?=some (Obj.map a c)->((w.alloc (.cells #[.pointer (some ⟨b,0,none⟩)] 161)).alloc (.cells #[.int .i64 4] 3)).heap[m]?=some (Obj.map a c):=fun m a c h=>Qn (Qn h)
 have o:((w.alloc (.cells #[.pointer (some ⟨b,0,none⟩)] 161)).alloc (.cells #[.int .i64 4] 3)).heap[b]?=some (Ym t (if L 29 then u25 else Value.map none) mv2):=Qn (Qn J.rd);have q:L 19=false:=nf J.cv19 g;have r:=J.mod.size;exact⟨J.hb,J.mod.trans (((Mod.refl b w).alloc _).alloc _),by rw[Qm L (by decide)];exact o,ui J.cm4,ui J.cm7,ui J.cm10,ui J.cm13,ui J.cm16,ui J.cm19,ui J.cm22,ui J.cm25,ui J.cv13,ui J.cv16,ui J.cv19,fun h=>(J.a12 (ud h)).keep f,fun h=>(J.a15 (ud h)).keep f,fun _=>⟨w.heap.size,w.heap.size+1,rfl,r,by omega,Qn (QC _ _),Q5 (by simp)⟩,fun h=>by obtain⟨m,a,c,i,j,l,n⟩:=J.mp (ud h);exact⟨m,a,c,i,j,p m _ _ l,n.congr (fun x=>by rw[Ud 18 (by decide)];unfold fC;simp only[q,Bool.false_eq_true,if_false])⟩,fun h=>J.m26u (ud h),fun h=>J.m27 (ud h),fun h=>J.m28 (ud h),ui J.m29⟩
def KP(t:ByteArray)(b:Nat)(W:World)(mv2:Value)(L:Nat->Bool)(u8 u16 u18 u20 u25 u26 u27:Value)(w:World)(i:Nat)(nm:L8)(v:Value):Prop:=
 ∃ m es c,u8=.map (some m)/\w.heap[m]?=some (.map es c)/\XD es (fC b L u16 u18 u20)/\fC b L u16 u18 u20 nm=none/\JC t b W mv2 (up L i) u8 u16 u18 u20 u25 u26 u27 (Xp w m (.map (es.push ⟨.string (sA nm),v,c⟩) (c+1)))
theorem JC.ins(J:JC t b W mv2 L u8 u16 u18 u20 u25 u26 u27 w){g:L8}(a:L 1=true)(s:fC b L u16 u18 u20 g=none)(D:fC b (up L i) u16 u18 u20 g=some v)(B:∀ z,z≠g->fC b (up L i) u16 u18 u20 z=fC b L u16 u18 u20 z)(u:up L i 13=true->up L i 12=true)(x:up L i 16=true->up L i 15=true)(y:up L i 19=true->up L i 18=true)(A:i ∉ [12,15,18,26,27,28,29]:=by decide):KP t b W mv2 L u8 u16 u18 u20 u25 u26 u27 w i g v:=by
 obtain⟨m,o,c,p,q,l,r⟩:=J.mp a;have C:m≠b:=by have:=J.hb;omega
 have f:∀ k j n,W.heap.size<=k->w.heap[k]?=some (.cells j n)->(Xp w m (.map (o.push ⟨.string (sA g),v,c⟩) (c+1))).heap[k]?=some (.cells j n):=fun k j n _ h=>by
  rw[Kj (fun e=>by rw[e,l]at h;cases h)];exact h
 have d:∀ k,k∈[12,15,18,26,27,28,29]->k≠i:=fun k f e=>A (e ▸ f)
 refine⟨m,o,c,p,l,r,s,J.hb,Ch J.mod q,by rw[Qm L (d 29 (by decide)),Kj (Ne.symm C)];exact J.rd,fun _=>Qj _ a,fun _=>Qj _ a,fun _=>Qj _ a,fun _=>Qj _ a,fun _=>Qj _ a,fun _=>Qj _ a,fun _=>Qj _ a,fun _=>Qj _ a,u,x,y,fun h=>(J.a12 (ud h (d _ (by decide)))).keep f,fun h=>(J.a15 (ud h (d _ (by decide)))).keep f,fun h=>(J.a18 (ud h (d _ (by decide)))).keep f,fun _=>⟨m,_,_,p,q,VP l,r.push s D B⟩,fun h=>J.m26u (ud h (d _ (by decide))),fun h=>J.m27 (ud h (d _ (by decide))),fun h=>J.m28 (ud h (d _ (by decide))),ui J.m29 (d _ (by decide))⟩
theorem JC.s4(J:JC t b W mv2 L u8 u16 u18 u20 u25 u26 u27 w)(a:L 4=false)(c:L 1=true):KP t b W mv2 L u8 u16 u18 u20 u25 u26 u27 w 4 KM (.func (.func 121) #[.pointer (some ⟨b,0,none⟩)] #[]):=by
 refine J.ins c ?_ ?_ (fun z f=>?_) (ui J.cv13) (ui J.cv16) (ui J.cv19)
 ·unfold fC;rw[show wL cNs KM=1 from by decide];simp only[a];rfl
 ·unfold fC;rw[show wL cNs KM=1 from by decide];simp only[Xg];rfl
 ·have d:wL cNs z≠1:=fun e=>f (by have:=Zk cNs z 0 e;simpa[cNs]using this.symm)
  unfold fC;split<;>first|(rename_i e;exact absurd e d)|simp only[Qm L (by decide)]|rfl
theorem JC.s7(J:JC t b W mv2 L u8 u16 u18 u20 u25 u26 u27 w)(a:L 7=false)(c:L 1=true):KP t b W mv2 L u8 u16 u18 u20 u25 u26 u27 w 7 Kt (.func (.func 122) #[.pointer (some ⟨b,0,none⟩)] #[]):=by
 refine J.ins c ?_ ?_ (fun z f=>?_) (ui J.cv13) (ui J.cv16) (ui J.cv19)
 ·unfold fC;rw[show wL cNs Kt=2 from by decide];simp only[a];rfl
 ·unfold fC;rw[show wL cNs Kt=2 from by decide];simp only[Xg];rfl
 ·have d:wL cNs z≠2:=fun e=>f (by have:=Zk cNs z 1 e;simpa[cNs]using this.symm)
  unfold fC;split<;>first|(rename_i e;exact absurd e d)|simp only[Qm L (by decide)]|rfl
theorem JC.s10(J:JC t b W mv2 L u8 u16 u18 u20 u25 u26 u27 w)(a:L 10=false)(c:L 1=true):KP t b W mv2 L u8 u16 u18 u20 u25 u26 u27 w 10 KH (.func (.func 123) #[.pointer (some ⟨b,0,none⟩)] #[]):=by
 refine J.ins c ?_ ?_ (fun z f=>?_) (ui J.cv13) (ui J.cv16) (ui J.cv19)
 ·unfold fC;rw[show wL cNs KH=3 from by decide];simp only[a];rfl
 ·unfold fC;rw[show wL cNs KH=3 from by decide];simp only[Xg];rfl
 ·have d:wL cNs z≠3:=fun e=>f (by have:=Zk cNs z 2 e;simpa[cNs]using this.symm)
  unfold fC;split<;>first|(rename_i e;exact absurd e d)|simp only[Qm L (by decide)]|rfl
theorem JC.s13(J:JC t b W mv2 L u8 u16 u18 u20 u25 u26 u27 w)(a:L 13=false)(c:L 1=true)(d:L 12=true):KP t b W mv2 L u8 u16 u18 u20 u25 u26 u27 w 13 ZB (u16):=by
 refine J.ins c ?_ ?_ (fun z g=>?_) (fun _=>Qj _ d) (ui J.cv16) (ui J.cv19)
 ·unfold fC;rw[show wL cNs ZB=4 from by decide];simp only[a];rfl
 ·unfold fC;rw[show wL cNs ZB=4 from by decide];simp only[Xg];rfl
 ·have f:wL cNs z≠4:=fun e=>g (by have:=Zk cNs z 3 e;simpa[cNs]using this.symm)
  unfold fC;split<;>first|(rename_i e;exact absurd e f)|simp only[Qm L (by decide)]|rfl
theorem JC.s16(J:JC t b W mv2 L u8 u16 u18 u20 u25 u26 u27 w)(a:L 16=false)(c:L 1=true)(d:L 15=true):KP t b W mv2 L u8 u16 u18 u20 u25 u26 u27 w 16 Kk (u18):=by
 refine J.ins c ?_ ?_ (fun z g=>?_) (ui J.cv13) (fun _=>Qj _ d) (ui J.cv19)
 ·unfold fC;rw[show wL cNs Kk=5 from by decide];simp only[a];rfl
 ·unfold fC;rw[show wL cNs Kk=5 from by decide];simp only[Xg];rfl
 ·have f:wL cNs z≠5:=fun e=>g (by have:=Zk cNs z 4 e;simpa[cNs]using this.symm)
  unfold fC;split<;>first|(rename_i e;exact absurd e f)|simp only[Qm L (by decide)]|rfl
theorem JC.s19(J:JC t b W mv2 L u8 u16 u18 u20 u25 u26 u27 w)(a:L 19=false)(c:L 1=true)(d:L 18=true):KP t b W mv2 L u8 u16 u18 u20 u25 u26 u27 w 19 ZD (u20):=by
 refine J.ins c ?_ ?_ (fun z g=>?_) (ui J.cv13) (ui J.cv16) (fun _=>Qj _ d)
 ·unfold fC;rw[show wL cNs ZD=6 from by decide];simp only[a];rfl
 ·unfold fC;rw[show wL cNs ZD=6 from by decide];simp only[Xg];rfl
 ·have f:wL cNs z≠6:=fun e=>g (by have:=Zk cNs z 5 e;simpa[cNs]using this.symm)
  unfold fC;split<;>first|(rename_i e;exact absurd e f)|simp only[Qm L (by decide)]|rfl
theorem JC.s22(J:JC t b W mv2 L u8 u16 u18 u20 u25 u26 u27 w)(a:L 22=false)(c:L 1=true):KP t b W mv2 L u8 u16 u18 u20 u25 u26 u27 w 22 Xy (.func (.func 125) #[.pointer (some ⟨b,0,none⟩)] #[]):=by
 refine J.ins c ?_ ?_ (fun z f=>?_) (ui J.cv13) (ui J.cv16) (ui J.cv19)
 ·unfold fC;rw[show wL cNs Xy=7 from by decide];simp only[a];rfl
 ·unfold fC;rw[show wL cNs Xy=7 from by decide];simp only[Xg];rfl
 ·have d:wL cNs z≠7:=fun e=>f (by have:=Zk cNs z 6 e;simpa[cNs]using this.symm)
  unfold fC;split<;>first|(rename_i e;exact absurd e d)|simp only[Qm L (by decide)]|rfl
theorem JC.s25(J:JC t b W mv2 L u8 u16 u18 u20 u25 u26 u27 w)(a:L 25=false)(c:L 1=true):KP t b W mv2 L u8 u16 u18 u20 u25 u26 u27 w 25 kIf (.func (.func 126) #[.pointer (some ⟨b,0,none⟩)] #[]):=by
 refine J.ins c ?_ ?_ (fun z f=>?_) (ui J.cv13) (ui J.cv16) (ui J.cv19)
 ·unfold fC;rw[show wL cNs kIf=8 from by decide];simp only[a];rfl
 ·unfold fC;rw[show wL cNs kIf=8 from by decide];simp only[Xg];rfl
 ·have d:wL cNs z≠8:=fun e=>f (by have:=Zk cNs z 7 e;simpa[cNs]using this.symm)
  unfold fC;split<;>first|(rename_i e;exact absurd e d)|simp only[Qm L (by decide)]|rfl
theorem JC.s26(J:JC t b W mv2 L u8 u16 u18 u20 u25 u26 u27 w)(i:L 26=false)(j:L 1=true)(z:L 4=true)(A:L 7=true)(q:L 10=true)(r:L 13=true)(s:L 16=true)(u:L 19=true)(v:L 22=true)(y:L 25=true):JC t b W mv2 (up L 26) u8 u16 u18 u20 u8 u26 u27 w:=by
 have g:L 29=false:=nf J.m29 i;have e:∀ k d f,W.heap.size<=k->w.heap[k]?=some (.cells d f)->w.heap[k]?=some (.cells d f):=fun k d f _ h=>h
 have B:∀(m:Nat) (a:Array MapEntry) (c:Nat),w.heap[m]?=some (Obj.map a c)->w.heap[m]?=some (Obj.map a c):=fun m a c h=>h
 exact⟨J.hb,J.mod.trans (Mod.refl b w),by have:=J.rd;rw[g]at this;rw[Qm L (by decide),g];exact this,ui J.cm4,ui J.cm7,ui J.cm10,ui J.cm13,ui J.cm16,ui J.cm19,ui J.cm22,ui J.cm25,ui J.cv13,ui J.cv16,ui J.cv19,fun h=>(J.a12 (ud h)).keep e,fun h=>(J.a15 (ud h)).keep e,fun h=>(J.a18 (ud h)).keep e,fun h=>by obtain⟨m,a,c,l,n,o,p⟩:=J.mp (ud h);exact⟨m,a,c,l,n,B m _ _ o,p.congr (fun x=>(Ud 26 (by decide) x).symm)⟩,fun _=>⟨rfl,Qj _ j,Qj _ z,Qj _ A,Qj _ q,Qj _ r,Qj _ s,Qj _ u,Qj _ v,Qj _ y⟩,fun h=>J.m27 (ud h),fun h=>J.m28 (ud h),ui J.m29⟩
theorem JC.s27(J:JC t b W mv2 L u8 u16 u18 u20 u25 u26 u27 w)(o:L 27=false):JC t b W mv2 (up L 27) u8 u16 u18 u20 u25 (.pointer (some ⟨b,0,none⟩)) u27 w:=by
 have e:∀ k d f,W.heap.size<=k->w.heap[k]?=some (.cells d f)->w.heap[k]?=some (.cells d f):=fun k d f _ h=>h
 have n:∀(m:Nat) (a:Array MapEntry) (c:Nat),w.heap[m]?=some (Obj.map a c)->w.heap[m]?=some (Obj.map a c):=fun m a c h=>h
 exact⟨J.hb,J.mod.trans (Mod.refl b w),by rw[Qm L (by decide)];exact J.rd,ui J.cm4,ui J.cm7,ui J.cm10,ui J.cm13,ui J.cm16,ui J.cm19,ui J.cm22,ui J.cm25,ui J.cv13,ui J.cv16,ui J.cv19,fun h=>(J.a12 (ud h)).keep e,fun h=>(J.a15 (ud h)).keep e,fun h=>(J.a18 (ud h)).keep e,fun h=>by obtain⟨m,a,c,g,i,j,l⟩:=J.mp (ud h);exact⟨m,a,c,g,i,n m _ _ j,l.congr (fun x=>(Ud 27 (by decide) x).symm)⟩,fun h=>J.m26u (ud h),fun _=>rfl,fun h=>J.m28 (ud h),ui J.m29⟩
theorem JC.s28(J:JC t b W mv2 L u8 u16 u18 u20 u25 u26 u27 w)(o:L 28=false):JC t b W mv2 (up L 28) u8 u16 u18 u20 u25 u26 (.pointer (some ⟨b,8,none⟩)) w:=by
 have e:∀ k d f,W.heap.size<=k->w.heap[k]?=some (.cells d f)->w.heap[k]?=some (.cells d f):=fun k d f _ h=>h
 have n:∀(m:Nat) (a:Array MapEntry) (c:Nat),w.heap[m]?=some (Obj.map a c)->w.heap[m]?=some (Obj.map a c):=fun m a c h=>h
 exact⟨J.hb,J.mod.trans (Mod.refl b w),by rw[Qm L (by decide)];exact J.rd,ui J.cm4,ui J.cm7,ui J.cm10,ui J.cm13,ui J.cm16,ui J.cm19,ui J.cm22,ui J.cm25,ui J.cv13,ui J.cv16,ui J.cv19,fun h=>(J.a12 (ud h)).keep e,fun h=>(J.a15 (ud h)).keep e,fun h=>(J.a18 (ud h)).keep e,fun h=>by obtain⟨m,a,c,g,i,j,l⟩:=J.mp (ud h);exact⟨m,a,c,g,i,n m _ _ j,l.congr (fun x=>(Ud 28 (by decide) x).symm)⟩,fun h=>J.m26u (ud h),fun h=>J.m27 (ud h),fun _=>rfl,ui J.m29⟩
theorem JC.s29(J:JC t b W mv2 L u8 u16 u18 u20 u25 u26 u27 w)(r:L 29=false)(i:L 26=true):JC t b W mv2 (up L 29) u8 u16 u18 u20 u25 u26 u27 (w.setCell ⟨b,8,none⟩ u25):=by
 have s:=J.hb;have d:∀ k f g,W.heap.size<=k->w.heap[k]?=some (.cells f g)->(w.setCell ⟨b,8,none⟩ u25).heap[k]?=some (.cells f g):=fun k f g d h=>by rw[QK (show k≠b by omega)];exact h
 have p:∀(m:Nat) (a:Array MapEntry) (c:Nat),w.heap[m]?=some (Obj.map a c)->(w.setCell ⟨b,8,none⟩ u25).heap[m]?=some (Obj.map a c):=fun m a c h=>by
  have q:=J.rd;rw[QK (show m≠b from fun e=>by rw[e,q]at h;cases h)];exact h
 exact⟨J.hb,J.mod.setCell 8 u25,by rw[Xg];exact Qt _ _ _ _ _ _ J.rd,ui J.cm4,ui J.cm7,ui J.cm10,ui J.cm13,ui J.cm16,ui J.cm19,ui J.cm22,ui J.cm25,ui J.cv13,ui J.cv16,ui J.cv19,fun h=>(J.a12 (ud h)).keep d,fun h=>(J.a15 (ud h)).keep d,fun h=>(J.a18 (ud h)).keep d,fun h=>by obtain⟨m,a,c,j,l,n,o⟩:=J.mp (ud h);exact⟨m,a,c,j,l,p m _ _ n,o.congr (fun x=>(Ud 29 (by decide) x).symm)⟩,fun h=>J.m26u (ud h),fun h=>J.m27 (ud h),fun h=>J.m28 (ud h),fun _=>Qj _ i⟩
theorem JC.done(J:JC t b W mv2 L u8 u16 u18 u20 u25 u26 u27 w)(a:∀ i,i<30->L i=true):∃ m p1 k1 p2 k2 p3 k3,w.heap[b]?=some (Ym t (.map (some m)) mv2)/\YZ w b m p1 k1 p2 k2 p3 k3/\Mod b W w/\W.heap.size<=m:=by
 obtain⟨m,es,c,k,l,d,h6⟩:=J.mp (a 1 (by decide));obtain⟨p1,k1,f,B,y,r,o⟩:=J.a12 (a 12 (by decide));obtain⟨p2,k2,g,C,z,s,p⟩:=J.a15 (a 15 (by decide));obtain⟨p3,k3,j,D,A,u,q⟩:=J.a18 (a 18 (by decide));have v:=J.hb;have e:=J.rd;rw[a 29 (by decide),if_pos rfl,(J.m26 (a 26 (by decide))).1,k]at e
 have hf:XD es (cmdFn b p1 k1 p2 k2 p3 k3):=h6.congr (fun x=>by
  subst f g j;unfold fC cmdFn;simp only[a 4 (by decide),a 7 (by decide),a 10 (by decide),a 13 (by decide),a 16 (by decide),a 19 (by decide),a 22 (by decide),a 25 (by decide),if_true]
  all_goals (
   generalize wL cNs x=i
   match i with
   |0|1|2|3|4|5|6|7|8=>rfl
   | n+9=>rfl))
 exact⟨m,p1,k1,p2,k2,p3,k3,e,⟨DI (K:=9) (E:=211) underlying207 underlying9 Ti d hf,⟨Qi r 0,by omega⟩,Qi o 0,⟨Qi s 0,by omega⟩,Qi p 0,⟨Qi u 0,by omega⟩,Qi q 0,by omega,by omega,by omega,by omega,Qg d⟩,J.mod,l⟩
end
theorem GM{P:Program}{g:Region.Mode}{c:Array Oper}{Q:Exit->Act->World->Prop}{S:World->Prop}(J:Array Bool->Act->World->Prop)
 (p:∀ l a w,J l a w->l.size=c.size) (q:∀ l a w,J l a w->S w)
 (t:∀ l a w i,J l a w->i∈Region.ready g c l->wpOp P c Q i (fun a' w'=>J (l.setIfInBounds i true) a' w') a w)
 (k:∀ l a w,J l a w->Region.ready g c l=[]->Q .normal a w) :
 ∀(fuel:Nat) (l:Array Bool) (a:Act) (w:World),l.toList.count false<=fuel->J l a w->wpAnyH P g c Q S fuel l a w
 |0,l,a,w,hf,hJ=>by
  have s:Region.ready g c l=[]:=by
   rw[List.eq_nil_iff_forall_not_mem];intro i f;obtain⟨j,o,n,_⟩:=mem_ready.1 f;have d:i<l.size:=by rw[p l a w hJ];exact(Array.getElem?_eq_some_iff.1 n).1
   have:l[i]=false:=by simpa[d]using j
   have m:false∈l.toList:=by rw[<-this];simp
   have:=List.count_pos_iff.2 m;omega
  exact⟨s,k l a w hJ s⟩
 |fuel+1,l,a,w,hf,hJ=>by
  refine⟨k l a w hJ,fun i f=>wpOp_mono (fun a' w' h=>⟨q _ _ _ h,?_⟩) (t l a w i hJ f)⟩;refine GM J p q t k fuel _ a' w' ?_ h;obtain⟨j,o,n,_⟩:=mem_ready.1 f;have d:i<l.size:=by rw[p l a w hJ];exact(Array.getElem?_eq_some_iff.1 n).1
  have v:l[i]=false:=by simpa[d]using j
  have e:(l.setIfInBounds i true).toList=l.toList.set i true:=by simp
  rw[e];have r:=List.count_set (a:=true) (b:=false) (l:=l.toList) (i:=i) (h:=by simpa using d);have u:l.toList[i]'(by simpa using d)=false:=by simpa using v
  rw[u]at r;simp only[beq_self_eq_true,if_true,show((true:Bool)==false)=false from rfl,Bool.false_eq_true,if_false]at r;have m:false∈l.toList:=by rw[<-u];simp
  have:=List.count_pos_iff.2 m;omega
theorem NC{g:Region.Mode}{a:Array Oper}(p:l.size=a.size)(m:((List.range a.size).all fun i=>(a[i]?).all fun o=>o.after.all fun e=>decide (e.on<i))=true)(n:Region.ready g a l=[]):∀ i,i<a.size->l.getD i false=true:=by
 intro i
 induction i using Nat.strongRecOn with
 |_ i ih=>
  intro c;apply Classical.byContradiction;intro f
  have d:i∈Region.ready g a l:=by
   refine mem_ready.2 ⟨?_,a[i],by simp[c],fun e he _=>?_⟩
   ·have:i<l.size:=by omega
    simp[this]at f ⊢;exact f
   ·have b:=List.all_eq_true.1 m i (List.mem_range.2 c);rw[Array.getElem?_eq_getElem c]at b;simp only[Option.all_some]at b;have j:=Array.all_eq_true_iff_forall_mem.1 b e he;have k:e.on<i:=of_decide_eq_true j;exact ih e.on k (by omega)
  rw[n]at d;cases d
theorem QW{P:Program}{b:Array Oper}{Q:Exit->Act->World->Prop}{o:Oper}{K:Act->World->Prop}{a:Act}(c:b[i]?=some o)(d:Region.wanted o (yielded b a.tmps)=true)(h:o.wp P a w K Q):wpOp P b Q i K a w:=by
 unfold wpOp;rw[c];dsimp only;rw[if_pos d];exact Qd h
def V6(w:World)(B:Nat)(h:Bool)(v:Value):Prop:=
 ∃ p,v=.func (.func 185) #[] #[.pointer (some ⟨p,0,none⟩)]/\B<=p/\w.heap[p]?=some (.cells #[.bool h] 4)
theorem V6.keep{h:Bool}(c:V6 w B h v)(d:∀ k cs ty,B<=k->w.heap[k]?=some (.cells cs ty)->w'.heap[k]?=some (.cells cs ty)):V6 w' B h v:=by
 obtain⟨p,e,a,b⟩:=c;exact⟨p,e,a,d p _ _ a b⟩
def fT(b:Nat)(L:Nat->Bool)(u30 u31:Value)(x:L8):Option Value:=
 match wL tNs x with
 |1=>if L 3 then some (u30)else none
 |2=>if L 5 then some (u31)else none
 |3=>if L 8 then some (.func (.func 128) #[.pointer (some ⟨b,0,none⟩)] #[])else none
 |4=>if L 10 then some (.func (.func 129) #[] #[.pointer (some ⟨b+1,0,none⟩)])else none
 |5=>if L 12 then some (.func (.func 131) #[] #[.pointer (some ⟨b+1,0,none⟩)])else none
 |6=>if L 14 then some (.func (.func 132) #[] #[.pointer (some ⟨b+1,0,none⟩)])else none
 |7=>if L 16 then some (.func (.func 135) #[] #[.pointer (some ⟨b+1,0,none⟩)])else none
 |8=>if L 18 then some (.func (.func 138) #[] #[.pointer (some ⟨b+1,0,none⟩)])else none
 |9=>if L 21 then some (.func (.func 139) #[.pointer (some ⟨b,0,none⟩)] #[])else none
 |10=>if L 24 then some (.func (.func 140) #[.pointer (some ⟨b,0,none⟩)] #[])else none
 |_=>none
structure JT (t:ByteArray) (b:Nat) (W:World) (mv1:Value) (L:Nat->Bool) (u29 u30 u31 u43 u44 u45:Value) (w:World):Prop where
 hb:b < W.heap.size
 mod:Mod b W w
 rd:w.heap[b]?=some (Ym t mv1 (if L 28 then u43 else Value.map none))
 cm3:L 3=true->L 1=true
 cm5:L 5=true->L 1=true
 cm8:L 8=true->L 1=true
 cm10:L 10=true->L 1=true
 cm12:L 12=true->L 1=true
 cm14:L 14=true->L 1=true
 cm16:L 16=true->L 1=true
 cm18:L 18=true->L 1=true
 cm21:L 21=true->L 1=true
 cm24:L 24=true->L 1=true
 cv3:L 3=true->L 2=true
 cv5:L 5=true->L 4=true
 a2:L 2=true->V6 w W.heap.size true u30
 a4:L 4=true->V6 w W.heap.size false u31
 mp:L 1=true->∃ m es c,u29=.map (some m)∧W.heap.size<=m∧w.heap[m]?=some (.map es c)∧XD es (fT b L u30 u31)
 m25:L 25=true->u43=u29∧L 1=true∧L 3=true∧L 5=true∧L 8=true∧L 10=true∧L 12=true∧L 14=true∧L 16=true∧L 18=true∧L 21=true∧L 24=true
 m26:L 26=true->u44=.pointer (some ⟨b,0,none⟩)
 m27:L 27=true->u45=.pointer (some ⟨b,9,none⟩)
 m28:L 28=true->L 25=true
section
variable {t:ByteArray} {b:Nat} {W:World} {mv1:Value} {L:Nat->Bool} {u29 u30 u31 u43 u44 u45:Value} {w:World}
theorem UQ(i:Nat)(h:i≠3/\i≠5/\i≠8/\i≠10/\i≠12/\i≠14/\i≠16/\i≠18/\i≠21/\i≠24)(x:L8):fT b (up L i) u30 u31 x=fT b L u30 u31 x:=by
 obtain⟨a,c,d,e,f,g,j,k,l,m⟩:=h;unfold fT;simp only[Qm L (Ne.symm a),Qm L (Ne.symm c),Qm L (Ne.symm d),Qm L (Ne.symm e),Qm L (Ne.symm f),Qm L (Ne.symm g),Qm L (Ne.symm j),Qm L (Ne.symm k),Qm L (Ne.symm l),Qm L (Ne.symm m)]
theorem JT.m25u(J:JT t b W mv1 L u29 u30 u31 u43 u44 u45 w)(h:L 25=true):u43=u29/\up L i 1=true/\up L i 3=true/\up L i 5=true/\up L i 8=true/\up L i 10=true/\up L i 12=true/\up L i 14=true/\up L i 16=true/\up L i 18=true/\up L i 21=true/\up L i 24=true:=by
 obtain⟨a,f,g,j,k,l,m,n,o,c,d,e⟩:=J.m25 h;exact⟨a,Qj _ f,Qj _ g,Qj _ j,Qj _ k,Qj _ l,Qj _ m,Qj _ n,Qj _ o,Qj _ c,Qj _ d,Qj _ e⟩
theorem JT.s1(J:JT t b W mv1 L u29 u30 u31 u43 u44 u45 w)(a:L 1=false):JT t b W mv1 (up L 1) (.map (some w.heap.size)) u30 u31 u43 u44 u45 (w.alloc (Obj.map #[] 0)):=by
 have e:∀ k c d,W.heap.size<=k->w.heap[k]?=some (.cells c d)->(w.alloc (Obj.map #[] 0)).heap[k]?=some (.cells c d):=fun k c d _ h=>Qn h
 have f:(w.alloc (Obj.map #[] 0)).heap[b]?=some (Ym t mv1 (if L 28 then u43 else Value.map none)):=Qn J.rd;have p:L 3=false:=nf J.cm3 a;have q:L 5=false:=nf J.cm5 a;have r:L 8=false:=nf J.cm8 a;have g:L 10=false:=nf J.cm10 a;have i:L 12=false:=nf J.cm12 a;have j:L 14=false:=nf J.cm14 a;have l:L 16=false:=nf J.cm16 a;have m:L 18=false:=nf J.cm18 a;have n:L 21=false:=nf J.cm21 a;have o:L 24=false:=nf J.cm24 a;exact⟨J.hb,J.mod.trans ((Mod.refl b w).alloc _),by rw[Qm L (by decide)];exact f,ui J.cm3,ui J.cm5,ui J.cm8,ui J.cm10,ui J.cm12,ui J.cm14,ui J.cm16,ui J.cm18,ui J.cm21,ui J.cm24,ui J.cv3,ui J.cv5,fun h=>(J.a2 (ud h)).keep e,fun h=>(J.a4 (ud h)).keep e,fun _=>⟨w.heap.size,#[],0,rfl,J.mod.size,QC _ _,XD.empty.congr (fun x=>by rw[UQ 1 (by decide)];unfold fT;simp only[p,q,r,g,i,j,l,m,n,o];split<;>rfl)⟩,fun h=>absurd (J.m25 (ud h)).2.1 (by rw[a];decide),fun h=>J.m26 (ud h),fun h=>J.m27 (ud h),ui J.m28⟩
theorem JT.s2(J:JT t b W mv1 L u29 u30 u31 u43 u44 u45 w)(f:L 2=false):JT t b W mv1 (up L 2) u29 (.func (.func 185) #[] #[.pointer (some ⟨w.heap.size,0,none⟩)]) u31 u43 u44 u45 (w.alloc (.cells #[.bool true] 4)):=by
 have n:∀ k d e,W.heap.size<=k->w.heap[k]?=some (.cells d e)->(w.alloc (.cells #[.bool true] 4)).heap[k]?=some (.cells d e):=fun k d e _ h=>Qn h
 have p:∀(m:Nat) (a:Array MapEntry) (c:Nat),w.heap[m]?=some (Obj.map a c)->(w.alloc (.cells #[.bool true] 4)).heap[m]?=some (Obj.map a c):=fun m a c h=>Qn h
 have o:(w.alloc (.cells #[.bool true] 4)).heap[b]?=some (Ym t mv1 (if L 28 then u43 else Value.map none)):=Qn J.rd;have q:L 3=false:=nf J.cv3 f;have r:=J.mod.size;exact⟨J.hb,J.mod.trans ((Mod.refl b w).alloc _),by rw[Qm L (by decide)];exact o,ui J.cm3,ui J.cm5,ui J.cm8,ui J.cm10,ui J.cm12,ui J.cm14,ui J.cm16,ui J.cm18,ui J.cm21,ui J.cm24,ui J.cv3,ui J.cv5,fun _=>⟨w.heap.size,rfl,r,QC _ _⟩,fun h=>(J.a4 (ud h)).keep n,fun h=>by obtain⟨m,a,c,g,i,j,l⟩:=J.mp (ud h);exact⟨m,a,c,g,i,p m _ _ j,l.congr (fun x=>by rw[UQ 2 (by decide)];unfold fT;simp only[q,Bool.false_eq_true,if_false])⟩,fun h=>J.m25u (ud h),fun h=>J.m26 (ud h),fun h=>J.m27 (ud h),ui J.m28⟩
theorem JT.s4(J:JT t b W mv1 L u29 u30 u31 u43 u44 u45 w)(f:L 4=false):JT t b W mv1 (up L 4) u29 u30 (.func (.func 185) #[] #[.pointer (some ⟨w.heap.size,0,none⟩)]) u43 u44 u45 (w.alloc (.cells #[.bool false] 4)):=by
 have n:∀ k d e,W.heap.size<=k->w.heap[k]?=some (.cells d e)->(w.alloc (.cells #[.bool false] 4)).heap[k]?=some (.cells d e):=fun k d e _ h=>Qn h
 have p:∀(m:Nat) (a:Array MapEntry) (c:Nat),w.heap[m]?=some (Obj.map a c)->(w.alloc (.cells #[.bool false] 4)).heap[m]?=some (Obj.map a c):=fun m a c h=>Qn h
 have o:(w.alloc (.cells #[.bool false] 4)).heap[b]?=some (Ym t mv1 (if L 28 then u43 else Value.map none)):=Qn J.rd;have q:L 5=false:=nf J.cv5 f;have r:=J.mod.size;exact⟨J.hb,J.mod.trans ((Mod.refl b w).alloc _),by rw[Qm L (by decide)];exact o,ui J.cm3,ui J.cm5,ui J.cm8,ui J.cm10,ui J.cm12,ui J.cm14,ui J.cm16,ui J.cm18,ui J.cm21,ui J.cm24,ui J.cv3,ui J.cv5,fun h=>(J.a2 (ud h)).keep n,fun _=>⟨w.heap.size,rfl,r,QC _ _⟩,fun h=>by obtain⟨m,a,c,g,i,j,l⟩:=J.mp (ud h);exact⟨m,a,c,g,i,p m _ _ j,l.congr (fun x=>by rw[UQ 4 (by decide)];unfold fT;simp only[q,Bool.false_eq_true,if_false])⟩,fun h=>J.m25u (ud h),fun h=>J.m26 (ud h),fun h=>J.m27 (ud h),ui J.m28⟩
def Jv(t:ByteArray)(b:Nat)(W:World)(mv1:Value)(L:Nat->Bool)(u29 u30 u31 u43 u44 u45:Value)(w:World)(i:Nat)(nm:L8)(v:Value):Prop:=
 ∃ m es c,u29=.map (some m)/\w.heap[m]?=some (.map es c)/\XD es (fT b L u30 u31)/\fT b L u30 u31 nm=none/\JT t b W mv1 (up L i) u29 u30 u31 u43 u44 u45 (Xp w m (.map (es.push ⟨.string (sA nm),v,c⟩) (c+1)))
theorem JT.ins(J:JT t b W mv1 L u29 u30 u31 u43 u44 u45 w){f:L8}(a:L 1=true)(s:fT b L u30 u31 f=none)(C:fT b (up L i) u30 u31 f=some v)(A:∀ z,z≠f->fT b (up L i) u30 u31 z=fT b L u30 u31 z)(u:up L i 3=true->up L i 2=true)(x:up L i 5=true->up L i 4=true)(y:i ∉ [2,4,25,26,27,28]:=by decide):Jv t b W mv1 L u29 u30 u31 u43 u44 u45 w i f v:=by
 obtain⟨m,o,c,p,q,l,r⟩:=J.mp a;have B:m≠b:=by have:=J.hb;omega
 have g:∀ k j n,W.heap.size<=k->w.heap[k]?=some (.cells j n)->(Xp w m (.map (o.push ⟨.string (sA f),v,c⟩) (c+1))).heap[k]?=some (.cells j n):=fun k j n _ h=>by
  rw[Kj (fun e=>by rw[e,l]at h;cases h)];exact h
 have d:∀ k,k∈[2,4,25,26,27,28]->k≠i:=fun k g e=>y (e ▸ g)
 refine⟨m,o,c,p,l,r,s,J.hb,Ch J.mod q,by rw[Qm L (d 28 (by decide)),Kj (Ne.symm B)];exact J.rd,fun _=>Qj _ a,fun _=>Qj _ a,fun _=>Qj _ a,fun _=>Qj _ a,fun _=>Qj _ a,fun _=>Qj _ a,fun _=>Qj _ a,fun _=>Qj _ a,fun _=>Qj _ a,fun _=>Qj _ a,u,x,fun h=>(J.a2 (ud h (d _ (by decide)))).keep g,fun h=>(J.a4 (ud h (d _ (by decide)))).keep g,fun _=>⟨m,_,_,p,q,VP l,r.push s C A⟩,fun h=>J.m25u (ud h (d _ (by decide))),fun h=>J.m26 (ud h (d _ (by decide))),fun h=>J.m27 (ud h (d _ (by decide))),ui J.m28 (d _ (by decide))⟩
theorem JT.s3(J:JT t b W mv1 L u29 u30 u31 u43 u44 u45 w)(a:L 3=false)(c:L 1=true)(d:L 2=true):Jv t b W mv1 L u29 u30 u31 u43 u44 u45 w 3 KF (u30):=by
 refine J.ins c ?_ ?_ (fun z g=>?_) (fun _=>Qj _ d) (ui J.cv5)
 ·unfold fT;rw[show wL tNs KF=1 from by decide];simp only[a];rfl
 ·unfold fT;rw[show wL tNs KF=1 from by decide];simp only[Xg];rfl
 ·have f:wL tNs z≠1:=fun e=>g (by have:=Zk tNs z 0 e;simpa[tNs]using this.symm)
  unfold fT;split<;>first|(rename_i e;exact absurd e f)|simp only[Qm L (by decide)]|rfl
theorem JT.s5(J:JT t b W mv1 L u29 u30 u31 u43 u44 u45 w)(a:L 5=false)(c:L 1=true)(d:L 4=true):Jv t b W mv1 L u29 u30 u31 u43 u44 u45 w 5 KD (u31):=by
 refine J.ins c ?_ ?_ (fun z g=>?_) (ui J.cv3) (fun _=>Qj _ d)
 ·unfold fT;rw[show wL tNs KD=2 from by decide];simp only[a];rfl
 ·unfold fT;rw[show wL tNs KD=2 from by decide];simp only[Xg];rfl
 ·have f:wL tNs z≠2:=fun e=>g (by have:=Zk tNs z 1 e;simpa[tNs]using this.symm)
  unfold fT;split<;>first|(rename_i e;exact absurd e f)|simp only[Qm L (by decide)]|rfl
theorem JT.s8(J:JT t b W mv1 L u29 u30 u31 u43 u44 u45 w)(a:L 8=false)(c:L 1=true):Jv t b W mv1 L u29 u30 u31 u43 u44 u45 w 8 KS (.func (.func 128) #[.pointer (some ⟨b,0,none⟩)] #[]):=by
 refine J.ins c ?_ ?_ (fun z f=>?_) (ui J.cv3) (ui J.cv5)
 ·unfold fT;rw[show wL tNs KS=3 from by decide];simp only[a];rfl
 ·unfold fT;rw[show wL tNs KS=3 from by decide];simp only[Xg];rfl
 ·have d:wL tNs z≠3:=fun e=>f (by have:=Zk tNs z 2 e;simpa[tNs]using this.symm)
  unfold fT;split<;>first|(rename_i e;exact absurd e d)|simp only[Qm L (by decide)]|rfl
theorem JT.s10(J:JT t b W mv1 L u29 u30 u31 u43 u44 u45 w)(a:L 10=false)(c:L 1=true):Jv t b W mv1 L u29 u30 u31 u43 u44 u45 w 10 Kx (.func (.func 129) #[] #[.pointer (some ⟨b+1,0,none⟩)]):=by
 refine J.ins c ?_ ?_ (fun z f=>?_) (ui J.cv3) (ui J.cv5)
 ·unfold fT;rw[show wL tNs Kx=4 from by decide];simp only[a];rfl
 ·unfold fT;rw[show wL tNs Kx=4 from by decide];simp only[Xg];rfl
 ·have d:wL tNs z≠4:=fun e=>f (by have:=Zk tNs z 3 e;simpa[tNs]using this.symm)
  unfold fT;split<;>first|(rename_i e;exact absurd e d)|simp only[Qm L (by decide)]|rfl
theorem JT.s12(J:JT t b W mv1 L u29 u30 u31 u43 u44 u45 w)(a:L 12=false)(c:L 1=true):Jv t b W mv1 L u29 u30 u31 u43 u44 u45 w 12 Kz (.func (.func 131) #[] #[.pointer (some ⟨b+1,0,none⟩)]):=by
 refine J.ins c ?_ ?_ (fun z f=>?_) (ui J.cv3) (ui J.cv5)
 ·unfold fT;rw[show wL tNs Kz=5 from by decide];simp only[a];rfl
 ·unfold fT;rw[show wL tNs Kz=5 from by decide];simp only[Xg];rfl
 ·have d:wL tNs z≠5:=fun e=>f (by have:=Zk tNs z 4 e;simpa[tNs]using this.symm)
  unfold fT;split<;>first|(rename_i e;exact absurd e d)|simp only[Qm L (by decide)]|rfl
theorem JT.s14(J:JT t b W mv1 L u29 u30 u31 u43 u44 u45 w)(a:L 14=false)(c:L 1=true):Jv t b W mv1 L u29 u30 u31 u43 u44 u45 w 14 JR (.func (.func 132) #[] #[.pointer (some ⟨b+1,0,none⟩)]):=by
 refine J.ins c ?_ ?_ (fun z f=>?_) (ui J.cv3) (ui J.cv5)
 ·unfold fT;rw[show wL tNs JR=6 from by decide];simp only[a];rfl
 ·unfold fT;rw[show wL tNs JR=6 from by decide];simp only[Xg];rfl
 ·have d:wL tNs z≠6:=fun e=>f (by have:=Zk tNs z 5 e;simpa[tNs]using this.symm)
  unfold fT;split<;>first|(rename_i e;exact absurd e d)|simp only[Qm L (by decide)]|rfl
theorem JT.s16(J:JT t b W mv1 L u29 u30 u31 u43 u44 u45 w)(a:L 16=false)(c:L 1=true):Jv t b W mv1 L u29 u30 u31 u43 u44 u45 w 16 QX (.func (.func 135) #[] #[.pointer (some ⟨b+1,0,none⟩)]):=by
 refine J.ins c ?_ ?_ (fun z f=>?_) (ui J.cv3) (ui J.cv5)
 ·unfold fT;rw[show wL tNs QX=7 from by decide];simp only[a];rfl
 ·unfold fT;rw[show wL tNs QX=7 from by decide];simp only[Xg];rfl
 ·have d:wL tNs z≠7:=fun e=>f (by have:=Zk tNs z 6 e;simpa[tNs]using this.symm)
  unfold fT;split<;>first|(rename_i e;exact absurd e d)|simp only[Qm L (by decide)]|rfl
theorem JT.s18(J:JT t b W mv1 L u29 u30 u31 u43 u44 u45 w)(a:L 18=false)(c:L 1=true):Jv t b W mv1 L u29 u30 u31 u43 u44 u45 w 18 Z4 (.func (.func 138) #[] #[.pointer (some ⟨b+1,0,none⟩)]):=by
 refine J.ins c ?_ ?_ (fun z f=>?_) (ui J.cv3) (ui J.cv5)
 ·unfold fT;rw[show wL tNs Z4=8 from by decide];simp only[a];rfl
 ·unfold fT;rw[show wL tNs Z4=8 from by decide];simp only[Xg];rfl
 ·have d:wL tNs z≠8:=fun e=>f (by have:=Zk tNs z 7 e;simpa[tNs]using this.symm)
  unfold fT;split<;>first|(rename_i e;exact absurd e d)|simp only[Qm L (by decide)]|rfl
theorem JT.s21(J:JT t b W mv1 L u29 u30 u31 u43 u44 u45 w)(a:L 21=false)(c:L 1=true):Jv t b W mv1 L u29 u30 u31 u43 u44 u45 w 21 Kw (.func (.func 139) #[.pointer (some ⟨b,0,none⟩)] #[]):=by
 refine J.ins c ?_ ?_ (fun z f=>?_) (ui J.cv3) (ui J.cv5)
 ·unfold fT;rw[show wL tNs Kw=9 from by decide];simp only[a];rfl
 ·unfold fT;rw[show wL tNs Kw=9 from by decide];simp only[Xg];rfl
 ·have d:wL tNs z≠9:=fun e=>f (by have:=Zk tNs z 8 e;simpa[tNs]using this.symm)
  unfold fT;split<;>first|(rename_i e;exact absurd e d)|simp only[Qm L (by decide)]|rfl
theorem JT.s24(J:JT t b W mv1 L u29 u30 u31 u43 u44 u45 w)(a:L 24=false)(c:L 1=true):Jv t b W mv1 L u29 u30 u31 u43 u44 u45 w 24 KI (.func (.func 140) #[.pointer (some ⟨b,0,none⟩)] #[]):=by
 refine J.ins c ?_ ?_ (fun z f=>?_) (ui J.cv3) (ui J.cv5)
 ·unfold fT;rw[show wL tNs KI=10 from by decide];simp only[a];rfl
 ·unfold fT;rw[show wL tNs KI=10 from by decide];simp only[Xg];rfl
 ·have d:wL tNs z≠10:=fun e=>f (by have:=Zk tNs z 9 e;simpa[tNs]using this.symm)
  unfold fT;split<;>first|(rename_i e;exact absurd e d)|simp only[Qm L (by decide)]|rfl
theorem JT.s25(J:JT t b W mv1 L u29 u30 u31 u43 u44 u45 w)(i:L 25=false)(j:L 1=true)(A:L 3=true)(B:L 5=true)(C:L 8=true)(q:L 10=true)(r:L 12=true)(s:L 14=true)(u:L 16=true)(v:L 18=true)(y:L 21=true)(z:L 24=true):JT t b W mv1 (up L 25) u29 u30 u31 u29 u44 u45 w:=by
 have g:L 28=false:=nf J.m28 i;have f:∀ k d e,W.heap.size<=k->w.heap[k]?=some (.cells d e)->w.heap[k]?=some (.cells d e):=fun k d e _ h=>h
 have D:∀(m:Nat) (a:Array MapEntry) (c:Nat),w.heap[m]?=some (Obj.map a c)->w.heap[m]?=some (Obj.map a c):=fun m a c h=>h
 exact⟨J.hb,J.mod,by have:=J.rd;rw[g]at this;rw[Qm L (by decide),g];exact this,ui J.cm3,ui J.cm5,ui J.cm8,ui J.cm10,ui J.cm12,ui J.cm14,ui J.cm16,ui J.cm18,ui J.cm21,ui J.cm24,ui J.cv3,ui J.cv5,fun h=>(J.a2 (ud h)).keep f,fun h=>(J.a4 (ud h)).keep f,fun h=>by obtain⟨m,a,c,l,n,o,p⟩:=J.mp (ud h);exact⟨m,a,c,l,n,D m _ _ o,p.congr (fun x=>(UQ 25 (by decide) x).symm)⟩,fun _=>⟨rfl,Qj _ j,Qj _ A,Qj _ B,Qj _ C,Qj _ q,Qj _ r,Qj _ s,Qj _ u,Qj _ v,Qj _ y,Qj _ z⟩,fun h=>J.m26 (ud h),fun h=>J.m27 (ud h),ui J.m28⟩
theorem JT.s26(J:JT t b W mv1 L u29 u30 u31 u43 u44 u45 w)(o:L 26=false):JT t b W mv1 (up L 26) u29 u30 u31 u43 (.pointer (some ⟨b,0,none⟩)) u45 w:=by
 have f:∀ k d e,W.heap.size<=k->w.heap[k]?=some (.cells d e)->w.heap[k]?=some (.cells d e):=fun k d e _ h=>h
 have n:∀(m:Nat) (a:Array MapEntry) (c:Nat),w.heap[m]?=some (Obj.map a c)->w.heap[m]?=some (Obj.map a c):=fun m a c h=>h
 exact⟨J.hb,J.mod,by rw[Qm L (by decide)];exact J.rd,ui J.cm3,ui J.cm5,ui J.cm8,ui J.cm10,ui J.cm12,ui J.cm14,ui J.cm16,ui J.cm18,ui J.cm21,ui J.cm24,ui J.cv3,ui J.cv5,fun h=>(J.a2 (ud h)).keep f,fun h=>(J.a4 (ud h)).keep f,fun h=>by obtain⟨m,a,c,g,i,j,l⟩:=J.mp (ud h);exact⟨m,a,c,g,i,n m _ _ j,l.congr (fun x=>(UQ 26 (by decide) x).symm)⟩,fun h=>J.m25u (ud h),fun _=>rfl,fun h=>J.m27 (ud h),ui J.m28⟩
theorem JT.s27(J:JT t b W mv1 L u29 u30 u31 u43 u44 u45 w)(o:L 27=false):JT t b W mv1 (up L 27) u29 u30 u31 u43 u44 (.pointer (some ⟨b,9,none⟩)) w:=by
 have f:∀ k d e,W.heap.size<=k->w.heap[k]?=some (.cells d e)->w.heap[k]?=some (.cells d e):=fun k d e _ h=>h
 have n:∀(m:Nat) (a:Array MapEntry) (c:Nat),w.heap[m]?=some (Obj.map a c)->w.heap[m]?=some (Obj.map a c):=fun m a c h=>h
 exact⟨J.hb,J.mod,by rw[Qm L (by decide)];exact J.rd,ui J.cm3,ui J.cm5,ui J.cm8,ui J.cm10,ui J.cm12,ui J.cm14,ui J.cm16,ui J.cm18,ui J.cm21,ui J.cm24,ui J.cv3,ui J.cv5,fun h=>(J.a2 (ud h)).keep f,fun h=>(J.a4 (ud h)).keep f,fun h=>by obtain⟨m,a,c,g,i,j,l⟩:=J.mp (ud h);exact⟨m,a,c,g,i,n m _ _ j,l.congr (fun x=>(UQ 27 (by decide) x).symm)⟩,fun h=>J.m25u (ud h),fun h=>J.m26 (ud h),fun _=>rfl,ui J.m28⟩
theorem JT.s28(J:JT t b W mv1 L u29 u30 u31 u43 u44 u45 w)(r:L 28=false)(i:L 25=true):JT t b W mv1 (up L 28) u29 u30 u31 u43 u44 u45 (w.setCell ⟨b,9,none⟩ u43):=by
 have s:=J.hb;have f:∀ k d g,W.heap.size<=k->w.heap[k]?=some (.cells d g)->(w.setCell ⟨b,9,none⟩ u43).heap[k]?=some (.cells d g):=fun k d g f h=>by rw[QK (show k≠b by omega)];exact h
 have p:∀(m:Nat) (a:Array MapEntry) (c:Nat),w.heap[m]?=some (Obj.map a c)->(w.setCell ⟨b,9,none⟩ u43).heap[m]?=some (Obj.map a c):=fun m a c h=>by
  have q:=J.rd;rw[QK (show m≠b from fun e=>by rw[e,q]at h;cases h)];exact h
 exact⟨J.hb,J.mod.setCell 9 u43,by rw[Xg];exact Qt _ _ _ _ _ _ J.rd,ui J.cm3,ui J.cm5,ui J.cm8,ui J.cm10,ui J.cm12,ui J.cm14,ui J.cm16,ui J.cm18,ui J.cm21,ui J.cm24,ui J.cv3,ui J.cv5,fun h=>(J.a2 (ud h)).keep f,fun h=>(J.a4 (ud h)).keep f,fun h=>by obtain⟨m,a,c,j,l,n,o⟩:=J.mp (ud h);exact⟨m,a,c,j,l,p m _ _ n,o.congr (fun x=>(UQ 28 (by decide) x).symm)⟩,fun h=>J.m25u (ud h),fun h=>J.m26 (ud h),fun h=>J.m27 (ud h),fun _=>Qj _ i⟩
theorem JT.done(J:JT t b W mv1 L u29 u30 u31 u43 u44 u45 w)(a:∀ i,i<29->L i=true)(p:Yd W (b+1) b):∃ m pt pf,w.heap[b]?=some (Ym t mv1 (.map (some m)))/\YB w b m (b+1) pt pf/\Mod b W w/\W.heap.size<=m:=by
 obtain⟨m,es,c,j,k,d,h6⟩:=J.mp (a 1 (by decide));obtain⟨pt,f,r,l⟩:=J.a2 (a 2 (by decide));obtain⟨pf,g,s,o⟩:=J.a4 (a 4 (by decide));have q:=J.hb;have e:=J.rd;rw[a 28 (by decide),if_pos rfl,(J.m25 (a 25 (by decide))).1,j]at e
 have hf:XD es (testFn b (b+1) pt pf):=h6.congr (fun x=>by
  subst f g;unfold fT testFn;simp only[a 3 (by decide),a 5 (by decide),a 8 (by decide),a 10 (by decide),a 12 (by decide),a 14 (by decide),a 16 (by decide),a 18 (by decide),a 21 (by decide),a 24 (by decide),if_true];generalize wL tNs x=i
  match i with
  |0|1|2|3|4|5|6|7|8|9|10=>rfl
  | n+11=>rfl)
 exact⟨m,pt,pf,e,⟨DI (K:=9) (E:=213) underlying208 underlying9 T8 d hf,p.mod J.mod,Qi l 0,Qi o 0,by omega,by omega,by omega,Qg d⟩,J.mod,k⟩
end
theorem A7(h:i<l.size):(fun j=>(l.setIfInBounds i true).getD j false)=up (fun j=>l.getD j false) i:=by
 funext j;unfold up;by_cases e:j=i
 ·subst e;simp[h]
 ·rw[if_neg e];exact getD_set_ne false (Ne.symm e)
def tmC(t:ByteArray)(b:Nat)(u8 u16 u18 u20 u25 u26 u27:Value):Act:=
 { tmps:=#[.string t,undef,.pointer none,.pointer (some ⟨b+1,0,none⟩),.string t,.agg #[.string t,.int .i64 0,.int .i64 0,.string ⟨#[]⟩,.string ⟨#[]⟩,.int .i64 0,.int .i64 0,.slice none 0 0,.map none,.map none],(.pointer (some ⟨b,0,none⟩)),(.pointer (some ⟨b,0,none⟩)),u8,(.pointer (some ⟨b,0,none⟩)),(.func (.func 121) #[.pointer (some ⟨b,0,none⟩)] #[]),(.pointer (some ⟨b,0,none⟩)),(.func (.func 122) #[.pointer (some ⟨b,0,none⟩)] #[]),(.pointer (some ⟨b,0,none⟩)),(.func (.func 123) #[.pointer (some ⟨b,0,none⟩)] #[]),(.pointer (some ⟨b,0,none⟩)),u16,(.pointer (some ⟨b,0,none⟩)),u18,(.pointer (some ⟨b,0,none⟩)),u20,(.pointer (some ⟨b,0,none⟩)),(.func (.func 125) #[.pointer (some ⟨b,0,none⟩)] #[]),(.pointer (some ⟨b,0,none⟩)),(.func (.func 126) #[.pointer (some ⟨b,0,none⟩)] #[]),u25,u26,u27,undef,undef,undef,undef,undef,undef,undef,undef,undef,undef,undef,undef,undef,undef,undef,undef,undef,undef,undef],defers:=[] }
def JJC(t:ByteArray)(b:Nat)(W:World)(l:Array Bool)(a:Act)(w:World):Prop:=
 l.size=30/\(∀ i∈[0,2,3,5,6,8,9,11,14,17,20,21,23,24],l.getD i false=true)/\∃ u8 u16 u18 u20 u25 u26 u27,a=tmC t b u8 u16 u18 u20 u25 u26 u27/\JC t b W (.map none) (fun j=>l.getD j false) u8 u16 u18 u20 u25 u26 u27 w
theorem JJC.next{u8 u16 u18 u20 u25 u26 u27:Value}(hl:l.size=30)(ht:∀ i∈[0,2,3,5,6,8,9,11,14,17,20,21,23,24],l.getD i false=true)(hi:i<30)(J:JC t b W (.map none) (up (fun j=>l.getD j false) i) u8 u16 u18 u20 u25 u26 u27 w):JJC t b W (l.setIfInBounds i true) (tmC t b u8 u16 u18 u20 u25 u26 u27) w:=
 ⟨by simp[hl],fun k hk=>getD_set_true (ht k hk),u8,u16,u18,u20,u25,u26,u27,rfl,by rw[A7 (by omega)];exact J⟩
def EZ(t:ByteArray)(w:World)(e:Ending)(w':World):Prop:=∃ mc mt pr pt pf p1 k1 p2 k2 p3 k3,e=.returned (.pointer (some ⟨w.heap.size,0,none⟩))/\RC w' w.heap.size t ps0 (.slice none 0 0) mc mt/\YB w' w.heap.size mt pr pt pf/\YZ w' w.heap.size mc p1 k1 p2 k2 p3 k3/\Below w.heap.size w w'
def tmT(t:ByteArray)(b:Nat)(u8 u16 u18 u20 u25 u26 u27 u29 u30 u31 u43 u44 u45:Value):Act:=
 { tmps:=#[.string t,undef,.pointer none,.pointer (some ⟨b+1,0,none⟩),.string t,.agg #[.string t,.int .i64 0,.int .i64 0,.string ⟨#[]⟩,.string ⟨#[]⟩,.int .i64 0,.int .i64 0,.slice none 0 0,.map none,.map none],(.pointer (some ⟨b,0,none⟩)),(.pointer (some ⟨b,0,none⟩)),u8,(.pointer (some ⟨b,0,none⟩)),(.func (.func 121) #[.pointer (some ⟨b,0,none⟩)] #[]),(.pointer (some ⟨b,0,none⟩)),(.func (.func 122) #[.pointer (some ⟨b,0,none⟩)] #[]),(.pointer (some ⟨b,0,none⟩)),(.func (.func 123) #[.pointer (some ⟨b,0,none⟩)] #[]),(.pointer (some ⟨b,0,none⟩)),u16,(.pointer (some ⟨b,0,none⟩)),u18,(.pointer (some ⟨b,0,none⟩)),u20,(.pointer (some ⟨b,0,none⟩)),(.func (.func 125) #[.pointer (some ⟨b,0,none⟩)] #[]),(.pointer (some ⟨b,0,none⟩)),(.func (.func 126) #[.pointer (some ⟨b,0,none⟩)] #[]),u25,u26,u27,(.pointer (some ⟨b,0,none⟩)),u29,u30,u31,(.pointer (some ⟨b,0,none⟩)),(.func (.func 128) #[.pointer (some ⟨b,0,none⟩)] #[]),(.func (.func 129) #[] #[.pointer (some ⟨b+1,0,none⟩)]),(.func (.func 131) #[] #[.pointer (some ⟨b+1,0,none⟩)]),(.func (.func 132) #[] #[.pointer (some ⟨b+1,0,none⟩)]),(.func (.func 135) #[] #[.pointer (some ⟨b+1,0,none⟩)]),(.func (.func 138) #[] #[.pointer (some ⟨b+1,0,none⟩)]),(.pointer (some ⟨b,0,none⟩)),(.func (.func 139) #[.pointer (some ⟨b,0,none⟩)] #[]),(.pointer (some ⟨b,0,none⟩)),(.func (.func 140) #[.pointer (some ⟨b,0,none⟩)] #[]),u43,u44,u45,undef],defers:=[] }
def JJT(t:ByteArray)(b:Nat)(W:World)(mv1:Value)(u8 u16 u18 u20 u25 u26 u27:Value)(l:Array Bool)(a:Act)(w:World):Prop:=
 l.size=29/\(∀ i∈[0,6,7,9,11,13,15,17,19,20,22,23],l.getD i false=true)/\∃ u29 u30 u31 u43 u44 u45,a=tmT t b u8 u16 u18 u20 u25 u26 u27 u29 u30 u31 u43 u44 u45/\JT t b W mv1 (fun j=>l.getD j false) u29 u30 u31 u43 u44 u45 w
theorem JJT.next{mv1:Value}{u8 u16 u18 u20 u25 u26 u27 u29 u30 u31 u43 u44 u45:Value}(hl:l.size=29)(ht:∀ i∈[0,6,7,9,11,13,15,17,19,20,22,23],l.getD i false=true)(hi:i<29)(J:JT t b W mv1 (up (fun j=>l.getD j false) i) u29 u30 u31 u43 u44 u45 w):JJT t b W mv1 u8 u16 u18 u20 u25 u26 u27 (l.setIfInBounds i true) (tmT t b u8 u16 u18 u20 u25 u26 u27 u29 u30 u31 u43 u44 u45) w:=
 ⟨by simp[hl],fun k hk=>getD_set_true (ht k hk),u29,u30,u31,u43,u44,u45,rfl,by rw[A7 (by omega)];exact J⟩
theorem IG(h:Mod w.heap.size ((w.alloc o).alloc o') w'):Below w.heap.size w w':=
 ⟨h.os,h.tape,h.output,by have:=h.size;simp at this;omega,fun k hk=>by
  rw [h.block k (by simp;omega) (by omega),Below.heap_alloc _ _ _ (by simp;omega),Below.heap_alloc _ _ _ hk]⟩
theorem HD(t:ByteArray)(w:World)(ht:t.size<=600)(aE:∃ m,w.cell? ⟨1,0,none⟩=some (.int .i64 m)) :
 Calls prog 89 #[.string t] w (EZ t w):=by
 have aH:∀(fn:Fn) (first cap:Array Value) (w:World),(Instr.makeFunc fn first cap).run prog w=.ok (.func fn first cap) w:=fun _ _ _ _=>rfl
 go_enter func89,ntmps89;go_wp2_with fail;refine wp_region_held (S:=fun q=>q.cell? ⟨w.heap.size+1,0,none⟩=some (.pointer (some ⟨w.heap.size,0,none⟩))) (by kernel_rfl) ?_;have A:({ ((w.alloc (Ym t (.map none) (.map none))).alloc (.cells #[.pointer (some ⟨w.heap.size,0,none⟩)] 161))with drawn:=((w.alloc (Ym t (.map none) (.map none))).alloc (.cells #[.pointer (some ⟨w.heap.size,0,none⟩)] 161)).drawn+1 }:World).cell? ⟨w.heap.size+1,0,none⟩=some (.pointer (some ⟨w.heap.size,0,none⟩)):=Qi (Q5 (by simp)) 0;refine Qx 0 7 (.pointer (some ⟨w.heap.size,0,none⟩)) rfl A (fun q j=>by(try dsimp only at j);go_simp) ?_;simp only[pt,sz,sc];refine Qx 2 9 (.pointer (some ⟨w.heap.size,0,none⟩)) rfl A (fun q j=>by(try dsimp only at j);go_simp) ?_;simp only[pt,sz,sc];refine Qx 3 10 (.func (.func 121) #[.pointer (some ⟨w.heap.size,0,none⟩)] #[]) rfl A (fun q j=>by(try dsimp only at j);go_simp) ?_;simp only[pt,sz,sc];refine Qx 5 11 (.pointer (some ⟨w.heap.size,0,none⟩)) rfl A (fun q j=>by(try dsimp only at j);go_simp) ?_;simp only[pt,sz,sc];refine Qx 6 12 (.func (.func 122) #[.pointer (some ⟨w.heap.size,0,none⟩)] #[]) rfl A (fun q j=>by(try dsimp only at j);go_simp) ?_;simp only[pt,sz,sc];refine Qx 8 13 (.pointer (some ⟨w.heap.size,0,none⟩)) rfl A (fun q j=>by(try dsimp only at j);go_simp) ?_;simp only[pt,sz,sc];refine Qx 9 14 (.func (.func 123) #[.pointer (some ⟨w.heap.size,0,none⟩)] #[]) rfl A (fun q j=>by(try dsimp only at j);go_simp) ?_;simp only[pt,sz,sc];refine Qx 11 15 (.pointer (some ⟨w.heap.size,0,none⟩)) rfl A (fun q j=>by(try dsimp only at j);go_simp) ?_;simp only[pt,sz,sc];refine Qx 14 17 (.pointer (some ⟨w.heap.size,0,none⟩)) rfl A (fun q j=>by(try dsimp only at j);go_simp) ?_;simp only[pt,sz,sc];refine Qx 17 19 (.pointer (some ⟨w.heap.size,0,none⟩)) rfl A (fun q j=>by(try dsimp only at j);go_simp) ?_;simp only[pt,sz,sc];refine Qx 20 21 (.pointer (some ⟨w.heap.size,0,none⟩)) rfl A (fun q j=>by(try dsimp only at j);go_simp) ?_;simp only[pt,sz,sc];refine Qx 21 22 (.func (.func 125) #[.pointer (some ⟨w.heap.size,0,none⟩)] #[]) rfl A (fun q j=>by(try dsimp only at j);go_simp) ?_;simp only[pt,sz,sc];refine Qx 23 23 (.pointer (some ⟨w.heap.size,0,none⟩)) rfl A (fun q j=>by(try dsimp only at j);go_simp) ?_;simp only[pt,sz,sc];refine Qx 24 24 (.func (.func 126) #[.pointer (some ⟨w.heap.size,0,none⟩)] #[]) rfl A (fun q j=>by(try dsimp only at j);go_simp) ?_;simp only[pt,sz,sc];refine GM (JJC t w.heap.size ((w.alloc (Ym t (.map none) (.map none))).alloc (.cells #[.pointer (some ⟨w.heap.size,0,none⟩)] 161))) (fun l a q h=>by rw[h.1];rfl) (fun l a q h=>?hSS) (fun l a q i h u=>?hstep) (fun l a q h F=>?hdone) _ _ _ _ (by decide) ?hinit
 case hSS=>
  obtain⟨_,_,_,_,_,_,_,_,_,_,J⟩:=h;exact X4 (Qi (Q5 (by simp)) 0) J.mod (by omega)
 case hinit=>
  refine⟨rfl,by decide,undef,undef,undef,undef,undef,undef,undef,rfl,?_⟩;exact⟨by simp;omega,(Mod.refl _ _).drew,Qn (QC _ _),Q4,Q4,Q4,Q4,Q4,Q4,Q4,Q4,Q4,Q4,Q4,Q4,Q4,Q4,Q4,Q4,Q4,Q4,Q4⟩
 case hdone=>
  obtain⟨s,f,u8,u16,u18,u20,u25,u26,u27,rfl,J⟩:=h;have M:=NC s (by kernel_rfl) F;obtain⟨m,p1,k1,p2,k2,p3,k3,L,W,H,aF⟩:=J.done M;clear J M F f s A;unfold tmC;go_wp2_with fail;have Y:Yd q (w.heap.size+1) w.heap.size:=⟨X4 (Qi (Q5 (by simp)) 0) H (by omega),by omega⟩;have ag:=Qg L;have ad:=I L;have aa:=I W;have ac:=I H;have N:=I Y;clear L W H Y;refine wp_region_held (S:=fun D=>D.cell? ⟨w.heap.size+1,0,none⟩=some (.pointer (some ⟨w.heap.size,0,none⟩))) (by kernel_rfl) ?_;have A:({ q with drawn:=q.drawn+1 }:World).cell? ⟨w.heap.size+1,0,none⟩=some (.pointer (some ⟨w.heap.size,0,none⟩)):=N.o.1;refine Qx 0 28 (.pointer (some ⟨w.heap.size,0,none⟩)) rfl A (fun q j=>by(try dsimp only at j);go_simp) ?_;simp only[pt,sz,sc];refine Qx 6 32 (.pointer (some ⟨w.heap.size,0,none⟩)) rfl A (fun q j=>by(try dsimp only at j);go_simp) ?_;simp only[pt,sz,sc];refine Qx 7 33 (.func (.func 128) #[.pointer (some ⟨w.heap.size,0,none⟩)] #[]) rfl A (fun q j=>by(try dsimp only at j);go_simp) ?_;simp only[pt,sz,sc];refine Qx 9 34 (.func (.func 129) #[] #[.pointer (some ⟨w.heap.size+1,0,none⟩)]) rfl A (fun q j=>by(try dsimp only at j);go_simp) ?_;simp only[pt,sz,sc];refine Qx 11 35 (.func (.func 131) #[] #[.pointer (some ⟨w.heap.size+1,0,none⟩)]) rfl A (fun q j=>by(try dsimp only at j);go_simp) ?_;simp only[pt,sz,sc];refine Qx 13 36 (.func (.func 132) #[] #[.pointer (some ⟨w.heap.size+1,0,none⟩)]) rfl A (fun q j=>by(try dsimp only at j);go_simp) ?_;simp only[pt,sz,sc];refine Qx 15 37 (.func (.func 135) #[] #[.pointer (some ⟨w.heap.size+1,0,none⟩)]) rfl A (fun q j=>by(try dsimp only at j);go_simp) ?_;simp only[pt,sz,sc];refine Qx 17 38 (.func (.func 138) #[] #[.pointer (some ⟨w.heap.size+1,0,none⟩)]) rfl A (fun q j=>by(try dsimp only at j);go_simp) ?_;simp only[pt,sz,sc];refine Qx 19 39 (.pointer (some ⟨w.heap.size,0,none⟩)) rfl A (fun q j=>by(try dsimp only at j);go_simp) ?_;simp only[pt,sz,sc];refine Qx 20 40 (.func (.func 139) #[.pointer (some ⟨w.heap.size,0,none⟩)] #[]) rfl A (fun q j=>by(try dsimp only at j);go_simp) ?_;simp only[pt,sz,sc];refine Qx 22 41 (.pointer (some ⟨w.heap.size,0,none⟩)) rfl A (fun q j=>by(try dsimp only at j);go_simp) ?_;simp only[pt,sz,sc];refine Qx 23 42 (.func (.func 140) #[.pointer (some ⟨w.heap.size,0,none⟩)] #[]) rfl A (fun q j=>by(try dsimp only at j);go_simp) ?_;simp only[pt,sz,sc];refine GM (JJT t w.heap.size q (.map (some m)) u8 u16 u18 u20 u25 u26 u27) (fun l a q h=>by rw[h.1];rfl) (fun l a q h=>?hSS2) (fun l a D i h u=>?hstep2) (fun l a D h F=>?hdone2) _ _ _ _ (by decide) ?hinit2
  case hSS2=>
   obtain⟨_,_,_,_,_,_,_,_,_,J⟩:=h;exact X4 N.o.1 J.mod (by omega)
  case hinit2=>
   refine⟨rfl,by decide,undef,undef,undef,undef,undef,undef,rfl,?_⟩;exact⟨ag,(Mod.refl _ _).drew,ad.o,Q4,Q4,Q4,Q4,Q4,Q4,Q4,Q4,Q4,Q4,Q4,Q4,Q4,Q4,Q4,Q4,Q4,Q4,Q4⟩
  case hdone2=>
   obtain⟨s,f,u29,u30,u31,u43,u44,u45,rfl,J⟩:=h;have M:=NC s (by kernel_rfl) F;obtain⟨mt,pt,pf,L,Z,H,_⟩:=J.done M N.o;have aG:=(N.o.mod H).1
   have ab:Hid (EZ t w (.returned (.pointer (some ⟨w.heap.size,0,none⟩))) D):=by
    have V:=IG (ac.o.trans H);obtain⟨mm,X⟩:=aE;have R:=Qq X;exact⟨m,mt,w.heap.size+1,pt,pf,p1,k1,p2,k2,p3,k3,rfl,⟨L,QE,⟨mm,by rw[V.cell (p:=⟨1,0,none⟩) R];exact X⟩,R,ht,⟨QE,by decide⟩,fun _=>rfl,fun _ c r e=>by cases e⟩,Z,aa.o.mod H,V⟩
   clear J M F f s A L Z H;unfold tmT;go_wp2;go_ret;exact ab.o
  case hstep2=>
   obtain⟨s,f,u29,u30,u31,u43,u44,u45,rfl,J⟩:=h;obtain⟨K,o,g,d⟩:=mem_ready.1 u;have az:i<29:=(Array.getElem?_eq_some_iff.1 g).1
   have b:l.getD i false=false:=by
    have:i<l.size:=by omega
    simp[this]at K ⊢;exact K
   clear K;rcases(by omega:i=0\/i=1\/i=2\/i=3\/i=4\/i=5\/i=6\/i=7\/i=8\/i=9\/i=10\/i=11\/i=12\/i=13\/i=14\/i=15\/i=16\/i=17\/i=18\/i=19\/i=20\/i=21\/i=22\/i=23\/i=24\/i=25\/i=26\/i=27\/i=28)with hh|hh|hh|hh|hh|hh|hh|hh|hh|hh|hh|hh|hh|hh|hh|hh|hh|hh|hh|hh|hh|hh|hh|hh|hh|hh|hh|hh|hh<;>subst hh
   ·rw[f 0 (by decide)]at b;cases b
   ·clear g d u;refine QW rfl (by rfl) ?_;unfold tmT;go_simp;exact JJT.next s f (by decide) (J.s1 b)
   ·clear g d u;refine QW rfl (by rfl) ?_;unfold tmT;go_simp;refine(DJ true _).mono ?_;rintro e w3 ⟨rfl,rfl⟩;exact JJT.next s f (by decide) (J.s2 b)
   ·have n:=Option.some.inj (show some _=some o from g);subst n;have k:=d { on:=1,ground:=.data } (by simp) rfl;have G:=d { on:=2,ground:=.data } (by simp) rfl;clear g d u;obtain⟨B,C,c,rfl,y,x,z,v⟩:=J.s3 b k G;have E:(Instr.mapUpdate 208 (.map (some B)) (.string ⟨#[116,114,117,101]⟩) (u30)).run prog D=.ok () _:=XP underlying208 underlying9 y x z _;refine QW rfl (by rfl) ?_;unfold tmT;go_simp;exact JJT.next s f (by decide) v
   ·clear g d u;refine QW rfl (by rfl) ?_;unfold tmT;go_simp;refine(DJ false _).mono ?_;rintro e w3 ⟨rfl,rfl⟩;exact JJT.next s f (by decide) (J.s4 b)
   ·have n:=Option.some.inj (show some _=some o from g);subst n;have k:=d { on:=1,ground:=.data } (by simp) rfl;have G:=d { on:=4,ground:=.data } (by simp) rfl;clear g d u;obtain⟨B,C,c,rfl,y,x,z,v⟩:=J.s5 b k G;have E:(Instr.mapUpdate 208 (.map (some B)) (.string ⟨#[102,97,108,115,101]⟩) (u31)).run prog D=.ok () _:=XP underlying208 underlying9 y x z _;refine QW rfl (by rfl) ?_;unfold tmT;go_simp;exact JJT.next s f (by decide) v
   ·rw[f 6 (by decide)]at b;cases b
   ·rw[f 7 (by decide)]at b;cases b
   ·have n:=Option.some.inj (show some _=some o from g);subst n;have k:=d { on:=1,ground:=.data } (by simp) rfl;clear g d u;obtain⟨B,C,c,rfl,y,x,z,v⟩:=J.s8 b k;have E:(Instr.mapUpdate 208 (.map (some B)) (.string ⟨#[110,111,116]⟩) (.func (.func 128) #[.pointer (some ⟨w.heap.size,0,none⟩)] #[])).run prog D=.ok () _:=XP underlying208 underlying9 y x z _;refine QW rfl (by rfl) ?_;unfold tmT;go_simp;exact JJT.next s f (by decide) v
   ·rw[f 9 (by decide)]at b;cases b
   ·have n:=Option.some.inj (show some _=some o from g);subst n;have k:=d { on:=1,ground:=.data } (by simp) rfl;clear g d u;obtain⟨B,C,c,rfl,y,x,z,v⟩:=J.s10 b k;have E:(Instr.mapUpdate 208 (.map (some B)) (.string ⟨#[97,108,108,111,102]⟩) (.func (.func 129) #[] #[.pointer (some ⟨w.heap.size+1,0,none⟩)])).run prog D=.ok () _:=XP underlying208 underlying9 y x z _;refine QW rfl (by rfl) ?_;unfold tmT;go_simp;exact JJT.next s f (by decide) v
   ·rw[f 11 (by decide)]at b;cases b
   ·have n:=Option.some.inj (show some _=some o from g);subst n;have k:=d { on:=1,ground:=.data } (by simp) rfl;clear g d u;obtain⟨B,C,c,rfl,y,x,z,v⟩:=J.s12 b k;have E:(Instr.mapUpdate 208 (.map (some B)) (.string ⟨#[97,110,121,111,102]⟩) (.func (.func 131) #[] #[.pointer (some ⟨w.heap.size+1,0,none⟩)])).run prog D=.ok () _:=XP underlying208 underlying9 y x z _;refine QW rfl (by rfl) ?_;unfold tmT;go_simp;exact JJT.next s f (by decide) v
   ·rw[f 13 (by decide)]at b;cases b
   ·have n:=Option.some.inj (show some _=some o from g);subst n;have k:=d { on:=1,ground:=.data } (by simp) rfl;clear g d u;obtain⟨B,C,c,rfl,y,x,z,v⟩:=J.s14 b k;have E:(Instr.mapUpdate 208 (.map (some B)) (.string ⟨#[104,101,97,100,101,114]⟩) (.func (.func 132) #[] #[.pointer (some ⟨w.heap.size+1,0,none⟩)])).run prog D=.ok () _:=XP underlying208 underlying9 y x z _;refine QW rfl (by rfl) ?_;unfold tmT;go_simp;exact JJT.next s f (by decide) v
   ·rw[f 15 (by decide)]at b;cases b
   ·have n:=Option.some.inj (show some _=some o from g);subst n;have k:=d { on:=1,ground:=.data } (by simp) rfl;clear g d u;obtain⟨B,C,c,rfl,y,x,z,v⟩:=J.s16 b k;have E:(Instr.mapUpdate 208 (.map (some B)) (.string ⟨#[101,110,118,101,108,111,112,101]⟩) (.func (.func 135) #[] #[.pointer (some ⟨w.heap.size+1,0,none⟩)])).run prog D=.ok () _:=XP underlying208 underlying9 y x z _;refine QW rfl (by rfl) ?_;unfold tmT;go_simp;exact JJT.next s f (by decide) v
   ·rw[f 17 (by decide)]at b;cases b
   ·have n:=Option.some.inj (show some _=some o from g);subst n;have k:=d { on:=1,ground:=.data } (by simp) rfl;clear g d u;obtain⟨B,C,c,rfl,y,x,z,v⟩:=J.s18 b k;have E:(Instr.mapUpdate 208 (.map (some B)) (.string ⟨#[115,116,114,105,110,103]⟩) (.func (.func 138) #[] #[.pointer (some ⟨w.heap.size+1,0,none⟩)])).run prog D=.ok () _:=XP underlying208 underlying9 y x z _;refine QW rfl (by rfl) ?_;unfold tmT;go_simp;exact JJT.next s f (by decide) v
   ·rw[f 19 (by decide)]at b;cases b
   ·rw[f 20 (by decide)]at b;cases b
   ·have n:=Option.some.inj (show some _=some o from g);subst n;have k:=d { on:=1,ground:=.data } (by simp) rfl;clear g d u;obtain⟨B,C,c,rfl,y,x,z,v⟩:=J.s21 b k;have E:(Instr.mapUpdate 208 (.map (some B)) (.string ⟨#[101,120,105,115,116,115]⟩) (.func (.func 139) #[.pointer (some ⟨w.heap.size,0,none⟩)] #[])).run prog D=.ok () _:=XP underlying208 underlying9 y x z _;refine QW rfl (by rfl) ?_;unfold tmT;go_simp;exact JJT.next s f (by decide) v
   ·rw[f 22 (by decide)]at b;cases b
   ·rw[f 23 (by decide)]at b;cases b
   ·have n:=Option.some.inj (show some _=some o from g);subst n;have k:=d { on:=1,ground:=.data } (by simp) rfl;clear g d u;obtain⟨B,C,c,rfl,y,x,z,v⟩:=J.s24 b k;have E:(Instr.mapUpdate 208 (.map (some B)) (.string ⟨#[115,105,122,101]⟩) (.func (.func 140) #[.pointer (some ⟨w.heap.size,0,none⟩)] #[])).run prog D=.ok () _:=XP underlying208 underlying9 y x z _;refine QW rfl (by rfl) ?_;unfold tmT;go_simp;exact JJT.next s f (by decide) v
   ·have n:=Option.some.inj (show some _=some o from g);subst n;have k:=d { on:=1,ground:=.data } (by simp) rfl;have ay:=d { on:=3,ground:=.data } (by simp) rfl;have aB:=d { on:=5,ground:=.data } (by simp) rfl;have aD:=d { on:=8,ground:=.data } (by simp) rfl;have P:=d { on:=10,ground:=.data } (by simp) rfl;have ak:=d { on:=12,ground:=.data } (by simp) rfl;have ap:=d { on:=14,ground:=.data } (by simp) rfl;have Q:=d { on:=16,ground:=.data } (by simp) rfl;have aq:=d { on:=18,ground:=.data } (by simp) rfl;have au:=d { on:=21,ground:=.data } (by simp) rfl;have aw:=d { on:=24,ground:=.data } (by simp) rfl;clear g d u;refine QW rfl (by rfl) ?_;unfold tmT;go_simp;exact JJT.next s f (by decide) (J.s25 b k ay aB aD P ak ap Q aq au aw)
   ·clear g d u;refine QW rfl (by rfl) ?_;unfold tmT;go_simp;exact JJT.next s f (by decide) (J.s26 b)
   ·have n:=Option.some.inj (show some _=some o from g);subst n;have k:=d { on:=26,ground:=.data } (by simp) rfl;obtain rfl:=J.m26 k;clear g d u;refine QW rfl (by rfl) ?_;unfold tmT;go_simp;exact JJT.next s f (by decide) (J.s27 b)
   ·have n:=Option.some.inj (show some _=some o from g);subst n;have ae:=d { on:=27,ground:=.data } (by simp) rfl;have T:=d { on:=25,ground:=.data } (by simp) rfl;obtain rfl:=J.m27 ae;obtain⟨rfl,k,_⟩:=J.m25 T;obtain⟨B,C,c,rfl,_,_,_⟩:=J.mp k;clear g d u;have F:=J.rd;unfold Ym at F;have ai:=Jk F;rw[show(l.getD 28 false)=false from b]at ai;have aj:=Qu F;refine QW rfl (by rfl) ?_;unfold tmT;go_simp;exact JJT.next s f (by decide) (J.s28 b T)
 case hstep=>
  obtain⟨s,f,u8,u16,u18,u20,u25,u26,u27,rfl,J⟩:=h;obtain⟨K,o,g,d⟩:=mem_ready.1 u;have az:i<30:=(Array.getElem?_eq_some_iff.1 g).1
  have b:l.getD i false=false:=by
   have:i<l.size:=by omega
   simp[this]at K ⊢;exact K
  clear K;rcases(by omega:i=0\/i=1\/i=2\/i=3\/i=4\/i=5\/i=6\/i=7\/i=8\/i=9\/i=10\/i=11\/i=12\/i=13\/i=14\/i=15\/i=16\/i=17\/i=18\/i=19\/i=20\/i=21\/i=22\/i=23\/i=24\/i=25\/i=26\/i=27\/i=28\/i=29)with hh|hh|hh|hh|hh|hh|hh|hh|hh|hh|hh|hh|hh|hh|hh|hh|hh|hh|hh|hh|hh|hh|hh|hh|hh|hh|hh|hh|hh|hh<;>subst hh
  ·rw[f 0 (by decide)]at b;cases b
  ·clear g d u;refine QW rfl (by rfl) ?_;unfold tmC;go_simp;exact JJC.next s f (by decide) (J.s1 b)
  ·rw[f 2 (by decide)]at b;cases b
  ·rw[f 3 (by decide)]at b;cases b
  ·have n:=Option.some.inj (show some _=some o from g);subst n;have k:=d { on:=1,ground:=.data } (by simp) rfl;clear g d u;obtain⟨m,C,c,rfl,y,x,z,v⟩:=J.s4 b k;have E:(Instr.mapUpdate 207 (.map (some m)) (.string ⟨#[107,101,101,112]⟩) (.func (.func 121) #[.pointer (some ⟨w.heap.size,0,none⟩)] #[])).run prog q=.ok () _:=XP underlying207 underlying9 y x z _;refine QW rfl (by rfl) ?_;unfold tmC;go_simp;exact JJC.next s f (by decide) v
  ·rw[f 5 (by decide)]at b;cases b
  ·rw[f 6 (by decide)]at b;cases b
  ·have n:=Option.some.inj (show some _=some o from g);subst n;have k:=d { on:=1,ground:=.data } (by simp) rfl;clear g d u;obtain⟨m,C,c,rfl,y,x,z,v⟩:=J.s7 b k;have E:(Instr.mapUpdate 207 (.map (some m)) (.string ⟨#[100,105,115,99,97,114,100]⟩) (.func (.func 122) #[.pointer (some ⟨w.heap.size,0,none⟩)] #[])).run prog q=.ok () _:=XP underlying207 underlying9 y x z _;refine QW rfl (by rfl) ?_;unfold tmC;go_simp;exact JJC.next s f (by decide) v
  ·rw[f 8 (by decide)]at b;cases b
  ·rw[f 9 (by decide)]at b;cases b
  ·have n:=Option.some.inj (show some _=some o from g);subst n;have k:=d { on:=1,ground:=.data } (by simp) rfl;clear g d u;obtain⟨m,C,c,rfl,y,x,z,v⟩:=J.s10 b k;have E:(Instr.mapUpdate 207 (.map (some m)) (.string ⟨#[115,116,111,112]⟩) (.func (.func 123) #[.pointer (some ⟨w.heap.size,0,none⟩)] #[])).run prog q=.ok () _:=XP underlying207 underlying9 y x z _;refine QW rfl (by rfl) ?_;unfold tmC;go_simp;exact JJC.next s f (by decide) v
  ·rw[f 11 (by decide)]at b;cases b
  ·clear g d u;refine QW rfl (by rfl) ?_;unfold tmC;go_simp;refine(A2 _ w.heap.size 2 _ rfl).mono ?_;rintro e D ⟨rfl,rfl⟩;exact JJC.next s f (by decide) (J.s12 b)
  ·have n:=Option.some.inj (show some _=some o from g);subst n;have k:=d { on:=1,ground:=.data } (by simp) rfl;have G:=d { on:=12,ground:=.data } (by simp) rfl;clear g d u;obtain⟨m,C,c,rfl,y,x,z,v⟩:=J.s13 b k G;have E:(Instr.mapUpdate 207 (.map (some m)) (.string ⟨#[102,105,108,101,105,110,116,111]⟩) (u16)).run prog q=.ok () _:=XP underlying207 underlying9 y x z _;refine QW rfl (by rfl) ?_;unfold tmC;go_simp;exact JJC.next s f (by decide) v
  ·rw[f 14 (by decide)]at b;cases b
  ·clear g d u;refine QW rfl (by rfl) ?_;unfold tmC;go_simp;refine(A2 _ w.heap.size 3 _ rfl).mono ?_;rintro e D ⟨rfl,rfl⟩;exact JJC.next s f (by decide) (J.s15 b)
  ·have n:=Option.some.inj (show some _=some o from g);subst n;have k:=d { on:=1,ground:=.data } (by simp) rfl;have G:=d { on:=15,ground:=.data } (by simp) rfl;clear g d u;obtain⟨m,C,c,rfl,y,x,z,v⟩:=J.s16 b k G;have E:(Instr.mapUpdate 207 (.map (some m)) (.string ⟨#[114,101,100,105,114,101,99,116]⟩) (u18)).run prog q=.ok () _:=XP underlying207 underlying9 y x z _;refine QW rfl (by rfl) ?_;unfold tmC;go_simp;exact JJC.next s f (by decide) v
  ·rw[f 17 (by decide)]at b;cases b
  ·clear g d u;refine QW rfl (by rfl) ?_;unfold tmC;go_simp;refine(A2 _ w.heap.size 4 _ rfl).mono ?_;rintro e D ⟨rfl,rfl⟩;exact JJC.next s f (by decide) (J.s18 b)
  ·have n:=Option.some.inj (show some _=some o from g);subst n;have k:=d { on:=1,ground:=.data } (by simp) rfl;have G:=d { on:=18,ground:=.data } (by simp) rfl;clear g d u;obtain⟨m,C,c,rfl,y,x,z,v⟩:=J.s19 b k G;have E:(Instr.mapUpdate 207 (.map (some m)) (.string ⟨#[114,101,106,101,99,116]⟩) (u20)).run prog q=.ok () _:=XP underlying207 underlying9 y x z _;refine QW rfl (by rfl) ?_;unfold tmC;go_simp;exact JJC.next s f (by decide) v
  ·rw[f 20 (by decide)]at b;cases b
  ·rw[f 21 (by decide)]at b;cases b
  ·have n:=Option.some.inj (show some _=some o from g);subst n;have k:=d { on:=1,ground:=.data } (by simp) rfl;clear g d u;obtain⟨m,C,c,rfl,y,x,z,v⟩:=J.s22 b k;have E:(Instr.mapUpdate 207 (.map (some m)) (.string ⟨#[115,101,116]⟩) (.func (.func 125) #[.pointer (some ⟨w.heap.size,0,none⟩)] #[])).run prog q=.ok () _:=XP underlying207 underlying9 y x z _;refine QW rfl (by rfl) ?_;unfold tmC;go_simp;exact JJC.next s f (by decide) v
  ·rw[f 23 (by decide)]at b;cases b
  ·rw[f 24 (by decide)]at b;cases b
  ·have n:=Option.some.inj (show some _=some o from g);subst n;have k:=d { on:=1,ground:=.data } (by simp) rfl;clear g d u;obtain⟨m,C,c,rfl,y,x,z,v⟩:=J.s25 b k;have E:(Instr.mapUpdate 207 (.map (some m)) (.string ⟨#[105,102]⟩) (.func (.func 126) #[.pointer (some ⟨w.heap.size,0,none⟩)] #[])).run prog q=.ok () _:=XP underlying207 underlying9 y x z _;refine QW rfl (by rfl) ?_;unfold tmC;go_simp;exact JJC.next s f (by decide) v
  ·have n:=Option.some.inj (show some _=some o from g);subst n;have k:=d { on:=1,ground:=.data } (by simp) rfl;have aA:=d { on:=4,ground:=.data } (by simp) rfl;have aC:=d { on:=7,ground:=.data } (by simp) rfl;have P:=d { on:=10,ground:=.data } (by simp) rfl;have ao:=d { on:=13,ground:=.data } (by simp) rfl;have Q:=d { on:=16,ground:=.data } (by simp) rfl;have ar:=d { on:=19,ground:=.data } (by simp) rfl;have av:=d { on:=22,ground:=.data } (by simp) rfl;have ax:=d { on:=25,ground:=.data } (by simp) rfl;clear g d u;refine QW rfl (by rfl) ?_;unfold tmC;go_simp;exact JJC.next s f (by decide) (J.s26 b k aA aC P ao Q ar av ax)
  ·clear g d u;refine QW rfl (by rfl) ?_;unfold tmC;go_simp;exact JJC.next s f (by decide) (J.s27 b)
  ·have n:=Option.some.inj (show some _=some o from g);subst n;have k:=d { on:=27,ground:=.data } (by simp) rfl;obtain rfl:=J.m27 k;clear g d u;refine QW rfl (by rfl) ?_;unfold tmC;go_simp;exact JJC.next s f (by decide) (J.s28 b)
  ·have n:=Option.some.inj (show some _=some o from g);subst n;have af:=d { on:=28,ground:=.data } (by simp) rfl;have U:=d { on:=26,ground:=.data } (by simp) rfl;obtain rfl:=J.m28 af;obtain⟨rfl,k,_⟩:=J.m26 U;obtain⟨m,C,c,rfl,_,_,_⟩:=J.mp k;clear g d u;have F:=J.rd;unfold Ym at F;have ah:=JG F;rw[show(l.getD 29 false)=false from b]at ah;have aj:=Qu F;refine QW rfl (by rfl) ?_;unfold tmC;go_simp;exact JJC.next s f (by decide) (J.s29 b U)
theorem FS(W:World)(v:Value)(a:TypeId):(Instr.typeAssert (.iface 125 v) a 125 true).run prog W=.ok (.tuple #[v,.bool true]) W:=by kernel_rfl
theorem CI(w:World):Calls prog 88 #[.nilIface] w fun e w'=>e=.returned (.pointer none)/\w'=w:=by
 go_enter func88,ntmps88;go_wp2;go_ret;exact⟨rfl,rfl⟩
theorem BV(a:Addr)(w:World):Calls prog 88 #[.iface 125 (.pointer (some a))] w fun e w'=>e=.returned (.pointer (some a))/\w'=w:=by
 go_enter func88,ntmps88;have b:=FS w (.pointer (some a));go_wp2;go_ret;exact⟨rfl,rfl⟩
theorem ML(p q:Addr)(w:World) :
 CallsD prog 87 #[.pointer (some p),.pointer (some q)] .returning w fun e u' w'=>e=.returned (.tuple #[])/\u'=.returning/\w'=w:=by
 refine callsD_of_wpS func87 rfl fun a c b=>?_
 apply wpS_seq;apply wpS_region;simp[wpOpsS,go_sem,recoverD,b,ntmps87,Exit.thenS];refine(CI w).mono ?_;rintro e w' ⟨rfl,rfl⟩;apply wpS_seq;apply wpS_region;simp[wpOpsS,go_sem,Exit.thenS];refine wpS_cond (t:=false) (by simp[Act.eval,Array.replicate]) ?_;simp only[Bool.false_eq_true,if_false];refine wpS_of_wp (wp_skip ?_);cases a;simp_all [bodyPostS,results,results87]
theorem FB(P Q:Nat)(l m n:Value)(a:Addr)(b:List PanicEntry)(w:World)(c:w.cell? ⟨P,0,none⟩=some l)(d:w.cell? ⟨P,1,none⟩=some m)(f:w.cell? ⟨Q,0,none⟩=some n)(i:∀ j,w.frozen? ⟨P,j,none⟩=false)(k:∀ j,w.frozen? ⟨Q,j,none⟩=false)(q:P≠Q) :
 CallsD prog 87 #[.pointer (some ⟨P,0,none⟩),.pointer (some ⟨Q,0,none⟩)] (.panicking ({ v:=.iface 125 (.pointer (some a)),recovered:=false }::b)) w fun e u' w'=>
  e=.returned (.tuple #[])/\u'=.panicking ({ v:=.iface 125 (.pointer (some a)),recovered:=true }::b)/\w'=((w.setCell ⟨P,0,none⟩ (.slice none 0 0)).setCell ⟨P,1,none⟩ (.slice none 0 0)).setCell ⟨Q,0,none⟩ (.iface 125 (.pointer (some a))):=by
 refine callsD_of_wpS func87 rfl fun p o g=>?_
 apply wpS_seq;apply wpS_region;simp[wpOpsS,go_sem,recoverD,g,ntmps87,Exit.thenS];refine(BV a w).mono ?_;rintro e w' ⟨rfl,rfl⟩;apply wpS_seq;apply wpS_region;simp[wpOpsS,go_sem,Exit.thenS];refine wpS_cond (t:=true) (by simp[Act.eval,Array.replicate]) ?_;simp only[if_true];apply wpS_region;simp[wpOpsS,go_sem,c,d,f,i,k,bodyPostS,results,results87]
def Bi(r:Qb (Qa×List (Zt 7)))(w:World)(e:Ending)(w':World):Prop:=
 Below w.heap.size w w'/\((∃ y tv,r=.ok y/\e=.returned (.tuple #[tv,.nilIface])/\Fe (fromB w.heap.size) y w' tv)\/(∃ f bb,r=.error f/\e=.returned (.tuple #[.agg #[.slice none 0 0,.slice none 0 0],.iface 125 (.pointer (some ⟨bb,0,none⟩))])/\w.heap.size<=bb/\w'.heap[bb]?=some (.cells #[.int .i64 f.err,.int .i64 f.pos] 130)))
theorem LB(t:ByteArray)(w:World)(ht:t.size<=600)(N:∃ m,w.cell? ⟨1,0,none⟩=some (.int .i64 m)) :
 Calls prog 59 #[.string t] w (Bi (prL t.data.toList) w):=by
 have ag:∀(fn:Fn) (first cap:Array Value) (w:World),(Instr.makeFunc fn first cap).run prog w=.ok (.func fn first cap) w:=fun _ _ _ _=>rfl
 have ah:¬(600:Int)<(t.size:Int):=by omega
 go_enter_defers func59,ntmps59;go_wp2_with fail;obtain⟨V,j⟩:=QF ((w.alloc (.cells #[.slice none 0 0,.slice none 0 0] 91)).alloc (.cells #[.nilIface] 84));have ae:V.heap.size=w.heap.size+1+1:=by rw[j];simp
 have K:V.heap[w.heap.size]?=some (.cells #[.slice none 0 0,.slice none 0 0] 91):=by rw[j];exact Qn (QC _ _)
 have L:V.heap[w.heap.size+1]?=some (.cells #[.nilIface] 84):=by rw[j];exact Q5 (by simp)
 have z:Below w.heap.size w V:=by rw[j];exact(Qp _).alloc (by simp) _
 have J:∃ m,V.cell? ⟨1,0,none⟩=some (.int .i64 m):=by
  obtain⟨m,M⟩:=N;exact⟨m,by rw[z.cell (p:=⟨1,0,none⟩) (Qq M)];exact M⟩
 rw[<-j];clear j;refine(HD t V ht J).mono ?_;rintro e q ⟨mc,mt,pr,pt,pf,p1,k1,p2,k2,p3,k3,rfl,B,D,A,d⟩;rw[ae]at B D A d;have c:=I z;have ab:=I B;have ad:=I D;have aa:=I A;have G:q.heap[w.heap.size]?=some (.cells #[.slice none 0 0,.slice none 0 0] 91):=by rw[d.block _ (by omega)];exact K
 have H:q.heap[w.heap.size+1]?=some (.cells #[.nilIface] 84):=by rw[d.block _ (by omega)];exact L
 have b:=I d;have E:=I G;have F:=I H;have ai:=d.size;clear z K L J N B D A d G H;go_wp2_with fail;refine(Oe (w.heap.size+1+1) t mc mt pr pt pf p1 k1 p2 k2 p3 k3 q ab.o ad.o aa.o).mono ?_;rintro e w2 ⟨a,⟨y,v,Q,rfl,hv⟩ | ⟨f,hf,⟨bb,hz,rfl,hcc⟩⟩⟩
 ·obtain⟨rv,lv,rfl,C,d⟩:=hv;have ac:=I C;have Z:=I d;obtain⟨T,W,U,rfl⟩:=C.form;obtain⟨la,S,R,rfl⟩:=d.form;have g:=QA E.o a (by omega);have i:=QA F.o a (by omega);have r:=Qk g;have s:=Qr g;have u:=Qk i;have X:=Qu g;have Y:=Qu i;have l:=I a;have HY:=I Q;clear a Q C d g i;go_wp2;have hB2:Below w.heap.size w w2:=⟨l.o.os.trans (b.o.os.trans c.o.os),l.o.tape.trans (b.o.tape.trans c.o.tape),l.o.output.trans (b.o.output.trans c.o.output),Qs c.o.size (Qs b.o.size l.o.size),fun k n=>by rw[l.o.block k (by omega) (by omega),b.o.block k (by omega),c.o.block k n]⟩;have x:¬ fromB q.heap.size w.heap.size:=by unfold fromB;omega
  have P:¬ fromB q.heap.size (w.heap.size+1):=by unfold fromB;omega
  have HFIN:Hid (Bi (prL t.data.toList) w (.returned (.tuple #[.agg #[.slice T W U,.slice la S R],.nilIface])) (((w2.setCell ⟨w.heap.size,0,none⟩ (.slice T W U)).setCell ⟨w.heap.size,1,none⟩ (.slice la S R)).setCell ⟨w.heap.size+1,0,none⟩ .nilIface)):=⟨((hB2.setCell Ql _).setCell Ql _).setCell (by show w.heap.size<=w.heap.size+1;omega) _,Qd ⟨y,_,HY.o,rfl,⟨_,_,rfl,(((ac.o.keep (AbvX.set x _ _)).keep (AbvX.set x _ _)).keep (AbvX.set P _ _)).weak (fun k n _=>by unfold fromB at *;omega),blX.weak (Xm 7) (((Z.o.keep (Xm 7) (AbvX.set x _ _)).keep (Xm 7) (AbvX.set x _ _)).keep (Xm 7) (AbvX.set P _ _)) (fun k n _=>by unfold fromB at *;omega)⟩⟩⟩;refine leaves_cons (f:=87) (args:=#[.pointer (some ⟨w.heap.size,0,none⟩),.pointer (some ⟨w.heap.size+1,0,none⟩)]) (by simp) (by simp[go_sem]) ?_;refine(ML ⟨w.heap.size,0,none⟩ ⟨w.heap.size+1,0,none⟩ _).mono ?_;rintro e u' af ⟨rfl,rfl,rfl⟩;simp[Leaves,settle,results,results59,go_sem,r,s,u];exact HFIN.o
 ·have g:=QA E.o a (by omega);have i:=QA F.o a (by omega);have r:=Qk g;have s:=Qr g;have u:=Qk i;have X:=Qu g;have Y:=Qu i;have hB2:Below w.heap.size w w2:=⟨a.os.trans (b.o.os.trans c.o.os),a.tape.trans (b.o.tape.trans c.o.tape),a.output.trans (b.o.output.trans c.o.output),Qs c.o.size (Qs b.o.size a.size),fun k n=>by rw[a.block k (by omega) (by omega),b.o.block k (by omega),c.o.block k n]⟩
  have HFIN:Hid (Bi (prL t.data.toList) w (.returned (.tuple #[.agg #[.slice none 0 0,.slice none 0 0],.iface 125 (.pointer (some ⟨bb,0,none⟩))])) (((w2.setCell ⟨w.heap.size,0,none⟩ (.slice none 0 0)).setCell ⟨w.heap.size,1,none⟩ (.slice none 0 0)).setCell ⟨w.heap.size+1,0,none⟩ (.iface 125 (.pointer (some ⟨bb,0,none⟩))))):=⟨((hB2.setCell Ql _).setCell Ql _).setCell (by show w.heap.size<=w.heap.size+1;omega) _,Qc ⟨f,bb,hf,rfl,by omega,by
   rw[QK (show bb≠w.heap.size+1 by omega),QK (show bb≠w.heap.size by omega),QK (show bb≠w.heap.size by omega)]
   exact hcc⟩⟩
  refine leaves_cons (f:=87) (args:=#[.pointer (some ⟨w.heap.size,0,none⟩),.pointer (some ⟨w.heap.size+1,0,none⟩)]) (by simp) (by simp[go_sem]) ?_;refine(FB w.heap.size (w.heap.size+1) _ _ _ ⟨bb,0,none⟩ [] _ r s u X Y (by omega)).mono ?_;rintro e u' af ⟨rfl,rfl,rfl⟩;simp[Leaves,settle,results,results59,go_sem,r,s,u];exact HFIN.o
theorem Mv(t:ByteArray)(w:World)(d:600<t.size) :
 Calls prog 59 #[.string t] w fun e w'=>e=.returned (.tuple #[.agg #[.slice none 0 0,.slice none 0 0],.iface 33 (.int .i64 1)])/\Below w.heap.size w w':=by
 have c:∀(fn:Fn) (first cap:Array Value) (w:World),(Instr.makeFunc fn first cap).run prog w=.ok (.func fn first cap) w:=fun _ _ _ _=>rfl
 have f:(600:Int)<(t.size:Int):=by omega
 go_enter_defers func59,ntmps59;go_wp2;have a:Below w.heap.size w ((w.alloc (.cells #[.slice none 0 0,.slice none 0 0] 91)).alloc (.cells #[.iface 33 (.int .i64 1)] 84)):=(Qp _).alloc (by simp) _;have b:=I a;clear a;simp[bodyPostD,Leaves,settle,results,results59,go_sem];exact b.o
def WA(r:Qb (Qa×List (Zt 7)))(w:World)(e:Ending)(w':World):Prop:=
 Below w.heap.size w w'/\((∃ y g rv lv,r=.ok y/\e=.returned (.tuple #[.pointer (some ⟨g,0,none⟩),.nilIface])/\w.heap.size<=g/\w'.heap[g]?=some (.cells #[rv,lv] 124)/\Yz (fromB w.heap.size) y.1 w' rv/\blX (fromB w.heap.size) (Yo 7) y.2 w' lv)\/(∃ f bb,r=.error f/\e=.returned (.tuple #[.pointer none,.iface 125 (.pointer (some ⟨bb,0,none⟩))])/\w.heap.size<=bb/\w'.heap[bb]?=some (.cells #[.int .i64 f.err,.int .i64 f.pos] 130)))
theorem In(t:ByteArray)(w:World)(H:t.size<=600)(G:∃ m,w.cell? ⟨1,0,none⟩=some (.int .i64 m)) :
 Calls prog 36 #[.string t] w (WA (prL t.data.toList) w):=by
 go_enter func36,ntmps36;go_wp2_with fail;refine(LB t w H G).mono ?_;rintro e i ⟨a,⟨y,N,q,rfl,J⟩ | ⟨f,j,p,rfl,g,n⟩⟩
 ·obtain⟨M,L,rfl,d,c⟩:=J;have b:=I a;have E:=I q;have D:=I d;have A:=I c;obtain⟨u,z,x,rfl⟩:=d.form;obtain⟨la,s,r,rfl⟩:=c.form;have g:=a.size;clear a q d c;go_wp2;refine bodyPost_ret (v:=.tuple #[.pointer (some ⟨i.heap.size+1,0,none⟩),.nilIface]) (by simp[results,results36,go_sem]) rfl ?_
  have l:∀ X,AbvX X i ((i.alloc (.cells #[.slice u z x,.slice la s r] 91)).alloc (.cells #[.slice u z x,.slice la s r] 124)):=fun X k _ F=>by
   rw[Below.heap_alloc _ _ _ (by simp;omega),Below.heap_alloc _ _ _ F]
  exact⟨(b.o.alloc g _).alloc (by simp;omega) _,Qd ⟨y,_,_,_,E.o,rfl,by omega,Q5 (by simp),D.o.keep (l _),A.o.keep (Xm 7) (l _)⟩⟩
 ·have b:=I a;have C:=I p;have B:=I n;have K:=a.size;clear a p n;go_wp2;refine bodyPost_ret (v:=.tuple #[.pointer none,.iface 125 (.pointer (some ⟨j,0,none⟩))]) (by simp[results,results36,go_sem]) rfl ?_;exact⟨b.o.alloc K _,Qc ⟨f,j,C.o,rfl,g,Qn B.o⟩⟩
section
open Go.RowKit Go.Extern.Stop Go.Stop Go.Extern
def AK(t:TypeId):Sem Value:=do Rtype.noPackHeld "Comparable" t;pure (.bool (<-typeInfo t).comparable)
theorem Tryz.cmpN(w:World):(ReflectliteType.method AK #[.agg #[.pointer (some ⟨5,33,none⟩)]]).run prog w=.ok (.bool true) w:=by kernel_rfl
theorem Sj(n:Int)(w:World) :
 Calls prog 61 #[.iface 33 (.int .i64 n),.iface 33 (.int .i64 n)] w fun e w'=>e=.returned (.bool true)/\w'=w:=by
 have c:=@run_callFunc_extern prog 95 _ ReflectliteType.typeOf func95 (by kernel_rfl) (by kernel_rfl) (by kernel_rfl) (by kernel_rfl);have b:=@run_callFunc_extern prog 331 _ (ReflectliteType.method AK) func331 (by kernel_rfl) (by kernel_rfl) (by kernel_rfl) (by kernel_rfl);have g:=Tryz.typeOfN;have a:=Tryz.cmpN;have f:=Tryz.methodComparable;have d:=Dm n w;go_enter func61,ntmps61;go_wp2;refine wp_loop_rounds 1 ?_;rw[rounds_succ];go_wp2;go_ret;exact⟨rfl,rfl⟩
theorem Sd(a:Nat)(n:Int)(w:World)(c:w.cell? ⟨a,0,none⟩=some (.int .i64 n)) :
 Calls prog 61 #[.iface 125 (.pointer (some ⟨a,0,none⟩)),.iface 33 (.int .i64 n)] w fun e w'=>e=.returned (.bool true)/\w'=w:=by
 have f:=@run_callFunc_extern prog 95 _ ReflectliteType.typeOf func95 (by kernel_rfl) (by kernel_rfl) (by kernel_rfl) (by kernel_rfl);have d:=@run_callFunc_extern prog 331 _ (ReflectliteType.method AK) func331 (by kernel_rfl) (by kernel_rfl) (by kernel_rfl) (by kernel_rfl);have m:=Tryz.typeOfN;have b:=Tryz.cmpN;have j:=Tryz.methodComparable;have l:=Tryz.noIsF;have o:=Tryz.hasUnwrapF;have k:=Tryz.methodUnwrap;have g:=Dm n w;have i:=run_eql_iface_types (P:=prog) 125 33 (.pointer (some ⟨a,0,none⟩)) (.int .i64 n) underlying84 (by decide) w;go_enter func61,ntmps61;go_wp2;refine wp_loop_rounds 2 ?_;rw[rounds_succ];go_wp2;rw[rounds_succ];go_wp2;go_ret;exact⟨rfl,rfl⟩
theorem Eg(w:World):Calls prog 37 #[.nilIface] w fun e w'=>e=.returned (.tuple #[.int .i64 0,.int .i64 (-1)])/\Below w.heap.size w w':=by
 go_enter func37,ntmps37;go_wp2;refine bodyPost_ret (v:=.tuple #[.int .i64 0,.int .i64 (-1)]) (by simp[results,results37,go_sem]) rfl ?_;exact⟨rfl,(Qp _).alloc (by simp) _⟩
theorem BM{t:Addr}(b c d e:Obj)(v:Value):Mod t.block w (((((w.alloc b).alloc c).alloc d).alloc e).setCell t v):=by
 have h:=((((Mod.refl t.block w).alloc b).alloc c).alloc d).alloc e;exact⟨h.os,h.tape,h.output,by simpa using h.size,fun k f a=>by rw[QK a];exact h.block k f a⟩
theorem Cp{t:Addr}{b:Value}(a:w.cell? t=some b)(d e f g:Obj)(v:Value):(((((w.alloc d).alloc e).alloc f).alloc g).setCell t v).cell? t=some v:=by
 have c:t.block<w.heap.size:=K1 a;refine World.cell?_setCell_same _ _ _ (?_:_=some b);rw[World.cell?_alloc_lt _ _ t (by simp;omega),World.cell?_alloc_lt _ _ t (by simp;omega),World.cell?_alloc_lt _ _ t (by simp;omega),World.cell?_alloc_lt _ _ t c];exact a
theorem Iv(e t:Addr)(b:Value)(w:World)(d:Xk w)(a:w.cell? t=some b)(c:w.frozen? t=false) :
 Calls prog 60 #[.iface 125 (.pointer (some e)),.iface 127 (.pointer (some t))] w fun ev w'=>ev=.returned (.bool true)/\Mod t.block w w'/\w'.cell? t=some (.pointer (some e)):=by
 refine(Th e t b w d a c).mono ?_;rintro ev w' ⟨rfl,rfl⟩;exact⟨rfl,BM _ _ _ _ _,Cp a _ _ _ _ _⟩
theorem LK(n:Int)(t:Addr)(b:Value)(w:World)(d:Xk w)(a:w.cell? t=some b)(c:w.frozen? t=false) :
 Calls prog 60 #[.iface 33 (.int .i64 n),.iface 131 (.pointer (some t))] w fun ev w'=>ev=.returned (.bool true)/\Mod t.block w w'/\w'.cell? t=some (.int .i64 n):=by
 refine(Wa n t b w d a c).mono ?_;rintro ev w' ⟨rfl,rfl⟩;exact⟨rfl,BM _ _ _ _ _,Cp a _ _ _ _ _⟩
theorem FP(n:Int)(t:Addr)(w:World)(a:Xk w) :
 Calls prog 60 #[.iface 33 (.int .i64 n),.iface 127 (.pointer (some t))] w fun ev w'=>ev=.returned (.bool false)/\Below w.heap.size w w':=by
 refine(Sk n t w a).mono ?_;rintro ev w' ⟨rfl,rfl⟩;exact⟨rfl,((Qp _).alloc (by simp) _).alloc (by simp;omega) _⟩
theorem Xk.below(h:Xk w)(a:Below w.heap.size w w'):Xk w':=by
 unfold Xk at h ⊢;rw[a.cell (p:=⟨0,0,none⟩) (K1 h)];exact h
theorem Xk.alloc{w:World}(h:Xk w)(o:Obj):Xk (w.alloc o):=h.below (Qp _)
theorem Cj(bb:Nat)(n pos:Int)(w:World)(i:Xk w)(d:w.cell? ⟨bb,0,none⟩=some (.int .i64 n))(f:w.cell? ⟨bb,1,none⟩=some (.int .i64 pos)) :
 Calls prog 37 #[.iface 125 (.pointer (some ⟨bb,0,none⟩))] w fun e w'=>e=.returned (.tuple #[.int .i64 n,.int .i64 pos])/\Below w.heap.size w w':=by
 have g:bb<w.heap.size:=K1 d;have q:=I i;have l:=I d;have m:=I f;clear i d f;go_enter func37,ntmps37;go_wp2_with fail;refine(Iv ⟨bb,0,none⟩ ⟨w.heap.size,0,none⟩ (.pointer none) _ ((q.o.alloc _).alloc _) (by simp) (by simp)).mono ?_;rintro e c ⟨rfl,j,u⟩;have a:Mod w.heap.size ((w.alloc (.cells #[.pointer none] 125)).alloc (.cells #[.int .i64 0] 33)) c:=j
 have r:c.cell? ⟨bb,0,none⟩=some (.int .i64 n):=by
  rw[a.cell (p:=⟨bb,0,none⟩) (by simp;omega) (by simp;omega),World.cell?_alloc_lt _ _ ⟨bb,0,none⟩ (by simp;omega),World.cell?_alloc_lt _ _ ⟨bb,0,none⟩ g];exact l.o
 have t:c.cell? ⟨bb,1,none⟩=some (.int .i64 pos):=by
  rw[a.cell (p:=⟨bb,1,none⟩) (by simp;omega) (by simp;omega),World.cell?_alloc_lt _ _ ⟨bb,1,none⟩ (by simp;omega),World.cell?_alloc_lt _ _ ⟨bb,1,none⟩ g];exact m.o
 have b:Hid (Below w.heap.size w c):=by
  refine⟨a.os,a.tape,a.output,?_,fun k s=>?_⟩
  ·have:=a.size;simp at this;omega
  ·rw[a.block k (by simp;omega) (by omega),Below.heap_alloc _ _ _ (by simp;omega),Below.heap_alloc _ _ _ s]
 clear j a;go_wp2_with fail;refine(Sd bb n c r).mono ?_;rintro e x ⟨rfl,rfl⟩;go_wp2_with fail;go_quiet (fail);go_wp2;refine bodyPost_ret (v:=.tuple #[.int .i64 n,.int .i64 pos]) (by simp[results,results37,go_sem]) rfl ?_;exact⟨rfl,b.o.os,b.o.tape,b.o.output,b.o.size,b.o.block⟩
theorem Oz(n:Int)(w:World)(f:Xk w) :
 Calls prog 37 #[.iface 33 (.int .i64 n)] w fun e w'=>e=.returned (.tuple #[.int .i64 n,.int .i64 (-1)])/\Below w.heap.size w w':=by
 have d:=I f;clear f;go_enter func37,ntmps37;go_wp2_with fail;refine(FP n ⟨w.heap.size,0,none⟩ _ ((d.o.alloc _).alloc _)).mono ?_;rintro e c ⟨rfl,a⟩
 have m:c.cell? ⟨w.heap.size+1,0,none⟩=some (.int .i64 0):=by
  rw[a.cell (p:=⟨w.heap.size+1,0,none⟩) (by simp)];simp
 have q:c.frozen? ⟨w.heap.size+1,0,none⟩=false:=by
  rw[a.frozen (p:=⟨w.heap.size+1,0,none⟩) (by simp)];simp
 have l:=I (((d.o.alloc (.cells #[.pointer none] 125)).alloc (.cells #[.int .i64 0] 33)).below a);have r:=a.size;have j:Hid (Below w.heap.size w c):=((Qp (.cells #[.pointer none] 125)).alloc (by simp) (.cells #[.int .i64 0] 33)).trans (a.mono (by simp;omega));clear a;simp at r;go_wp2_with fail;refine(LK n ⟨w.heap.size+1,0,none⟩ (.int .i64 0) c l.o m q).mono ?_;rintro e i ⟨rfl,g,s⟩;have k:Hid (Below w.heap.size w i):=j.o.trans (Mod.below (b:=w.heap.size+1) g (by omega) (by omega));clear g;go_wp2_with fail;refine(Sj n i).mono ?_;rintro e t ⟨rfl,rfl⟩;go_wp2;refine bodyPost_ret (v:=.tuple #[.int .i64 n,.int .i64 (-1)]) (by simp[results,results37,go_sem]) rfl ?_;exact⟨rfl,k.o⟩
end
theorem IH(t:ByteArray)(w:World)(c:600<t.size) :
 Calls prog 36 #[.string t] w fun e w'=>e=.returned (.tuple #[.pointer none,.iface 33 (.int .i64 1)])/\Below w.heap.size w w':=by
 go_enter func36,ntmps36;go_wp2_with fail;refine(Mv t w c).mono ?_;rintro e f ⟨rfl,a⟩;have b:=I a;have d:=a.size;clear a;go_wp2;refine bodyPost_ret (v:=.tuple #[.pointer none,.iface 33 (.int .i64 1)]) (by simp[results,results36,go_sem]) rfl ?_;exact⟨rfl,b.o.alloc d _⟩
def PP(t:ByteArray)(w:World)(e:Ending)(w':World):Prop:=
 Below w.heap.size w w'∧((600 < t.size∧e=.returned (.tuple #[.pointer none,.int .i64 1,.int .i64 (-1)]))∨
  (t.size<=600/\∃ y g rv lv,prL t.data.toList=.ok y/\e=.returned (.tuple #[.pointer (some ⟨g,0,none⟩),.int .i64 0,.int .i64 (-1)])/\w.heap.size<=g/\w'.heap[g]?=some (.cells #[rv,lv] 124)/\Yz (fromB w.heap.size) y.1 w' rv/\blX (fromB w.heap.size) (Yo 7) y.2 w' lv)\/
  (t.size<=600∧∃ f,prL t.data.toList=.error f∧e=.returned (.tuple #[.pointer none,.int .i64 f.err,.int .i64 f.pos])))
theorem Ok(t:ByteArray)(w:World)(S:∃ m,w.cell? ⟨1,0,none⟩=some (.int .i64 m))(D:Xk w) :
 Calls prog 19 #[.string t] w (PP t w):=by
 have u:=I D;clear D;rcases Nat.lt_or_ge 600 t.size with ht|ht
 ·go_enter func19,ntmps19;go_wp2_with fail;refine(IH t w ht).mono ?_;rintro e i ⟨rfl,c⟩;have d:=I c;have l:=c.size;clear c;go_wp2_with fail;refine(Oz 1 i (u.o.below d.o)).mono ?_;rintro e s ⟨rfl,b⟩;have j:=I (d.o.trans (b.mono l));clear b;go_wp2;refine bodyPost_ret (v:=.tuple #[.pointer none,.int .i64 1,.int .i64 (-1)]) (by simp[results,results19,go_sem]) rfl ?_;exact⟨j.o,Qd ⟨ht,rfl⟩⟩
 ·go_enter func19,ntmps19;go_wp2_with fail;refine(In t w ht S).mono ?_;rintro e i ⟨c,⟨y,g,U,T,F,rfl,G,B,E,A⟩ | ⟨f,p,C,rfl,G,q⟩⟩
  ·have d:=I c;have l:=c.size;have R:=I F;have n:=I B;have P:=I E;have H:=I A;clear c F B E A;go_wp2_with fail;refine(Eg i).mono ?_;rintro e s ⟨rfl,b⟩;have j:=I (d.o.trans (b.mono l));have V:=I (ZA (w:=i) (w':=s) (a:=⟨g,0,none⟩) (b.block g (Qg n.o)));have N:=I (b.block g (Qg n.o));have Q:=I (P.o.keep (fun k _ r=>b.block k r));have J:=I (H.o.keep (Xm 7) (fun k _ r=>b.block k r));clear b;go_wp2;refine bodyPost_ret (v:=.tuple #[.pointer (some ⟨g,0,none⟩),.int .i64 0,.int .i64 (-1)]) (by simp[results,results19,go_sem]) rfl ?_;exact⟨j.o,Qc (Qd ⟨ht,y,g,U,T,R.o,rfl,G,by rw[N.o];exact n.o,Q.o,J.o⟩)⟩
  ·have d:=I c;have l:=c.size;have M:=I C;have x:=Qk q;have z:=Qr q;have K:=I x;have L:=I z;clear c C q x z;go_wp2_with fail;refine(Cj p f.err f.pos i (u.o.below d.o) K.o L.o).mono ?_;rintro e s ⟨rfl,b⟩;have j:=I (d.o.trans (b.mono l));clear b;go_wp2;refine bodyPost_ret (v:=.tuple #[.pointer none,.int .i64 f.err,.int .i64 f.pos]) (by simp[results,results19,go_sem]) rfl ?_;exact⟨j.o,Qc (Qc ⟨ht,f,M.o,rfl⟩)⟩
end Go.Proofs.YtgnkjijocdmniaaGreatDoor
