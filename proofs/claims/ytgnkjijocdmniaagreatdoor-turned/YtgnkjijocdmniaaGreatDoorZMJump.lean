import Derived.Laws.EntriesVeiled
import Derived.Test.YtgnkjijocdmniaaGreatDoorZMPut
import Derived.Test.YtgnkjijocdmniaaGreatDoorZReaderD
namespace Go.Proofs.YtgnkjijocdmniaaGreatDoor
set_option linter.unusedVariables false
set_option linter.unusedSimpArgs false
set_option maxRecDepth 100000
set_option maxHeartbeats 4000000
open Go.Proofs.Tryz
section
open Go.RowKit
attribute [local go_sem ↓] Go.wp_at_zero Go.wp_at_succ
def Qdu (es:Array MapEntry) (f:Int→Option Value):Prop:=
 (∀ e∈es.toList,∃ x,e.key=.int .i64 x∧f x=some e.val)∧∀ x v,f x=some v→∃ e∈es.toList,e.key=.int .i64 x
theorem Qdu.keys{es:Array MapEntry}{f:Int->Option Value}(h:Qdu es f):∀ e∈es.toList,MapKept.IsKey (.int .i64) e.key:=fun e he=>by
 obtain⟨x,hx,_⟩:=h.1 e he;rw[hx];rfl
theorem Qdu.empty:Qdu #[] (fun _=>none):=⟨fun e he=>by simp at he,fun x v h=>by cases h⟩
theorem Qdu.push{es:Array MapEntry}{f g:Int->Option Value}(h:Qdu es f){x:Int}{v:Value}{c:Nat}(hn:f x=none)(hx:g x=some v)(hg:∀ z,z≠x->g z=f z):Qdu (es.push ⟨.int .i64 x,v,c⟩) g:=by
 refine⟨fun e he=>?_,fun z u hz=>?_⟩
 ·simp only[Array.toList_push,List.mem_append,List.mem_singleton]at he;rcases he with he|he
  ·obtain⟨z,h1,h2⟩:=h.1 e he;have:z≠x:=fun e=>by rw[e,hn]at h2;cases h2
   exact⟨z,h1,by rw[hg z this];exact h2⟩
  ·subst he;exact⟨x,rfl,hx⟩
 ·by_cases e:z=x
  ·exact⟨⟨.int .i64 x,v,c⟩,by simp,by rw[e]⟩
  ·rw[hg z e]at hz;obtain⟨y,hy,hk⟩:=h.2 z u hz;exact⟨y,by simp[hy],hk⟩
theorem Qdu.congr{es:Array MapEntry}{f g:Int->Option Value}(h:Qdu es f)(e:∀ x,f x=g x):Qdu es g:=by
 have:f=g:=funext e;rw[<-this];exact h
theorem QgG{T K E:TypeId}(hT:Tryz.prog.underlying T=some (.map K E))(hK:Tryz.prog.underlying K=some (.int .i64)){w:World}{m:Nat}{es:Array MapEntry}{c:Nat}{f:Int->Option Value}{x:Int}(hm:w.heap[m]?=some (.map es c))(hf:Qdu es f)(hx:f x=none)(v:Value) :
 (Instr.mapUpdate T (.map (some m)) (.int .i64 x) v).run Tryz.prog w=.ok () (QaR w m (.map (es.push ⟨.int .i64 x,v,c⟩) (c+1))):=by
 have hk:MapKept.IsKey (.int .i64) (.int .i64 x):=rfl;rcases MapKept.findNow_spec hk es.toList 0 hf.keys with⟨h1,_⟩ | ⟨j,e,h1,h2,h3⟩
 ·simp[Instr.mapUpdate,run_underlying hT,MapKept.run_getObj_map hm,MapKept.run_checkKey hK hk,MapKept.run_findKey hK h1,MapKept.run_setObj_map _ hm,Result.andThen,QaR]
 ·obtain⟨z,hz,aa⟩:=hf.1 e (List.mem_of_getElem? h2);rw[h3]at hz;have:x=z:=by simpa using hz
  subst this;rw[hx]at aa;cases aa
theorem Qtt{T K E:TypeId}(hT:Tryz.prog.underlying T=some (.map K E))(hK:Tryz.prog.underlying K=some (.int .i64))(hE:∀ W,(zeroValue E).run Tryz.prog W=.ok .nilFunc W){w:World}{m:Nat}{es:Array MapEntry}{c:Nat}{f:Int->Option Value}(hm:w.heap[m]?=some (.map es c))(hf:Qdu es f)(x:Int) :
 (Instr.lookup T (.map (some m)) (.int .i64 x) false).run Tryz.prog w=.ok ((f x).getD .nilFunc) w:=by
 have hk:MapKept.IsKey (.int .i64) (.int .i64 x):=rfl;rcases MapKept.findNow_spec hk es.toList 0 hf.keys with⟨h1,h2⟩ | ⟨j,e,h1,h2,h3⟩
 ·have hn:f x=none:=by
   cases hfx:f x with
   |none=>rfl
   |some v=>
    obtain⟨e,he,aa⟩:=hf.2 x v hfx;exact absurd aa (h2 e he)
  rw[hn];simp[Instr.lookup,run_underlying hT,MapKept.run_getObj_map hm,MapKept.run_checkKey hK hk,MapKept.run_findKey hK h1,hE,Result.andThen]
 ·obtain⟨z,hz,ab⟩:=hf.1 e (List.mem_of_getElem? h2);rw[h3]at hz;have:x=z:=by simpa using hz
  subst this;rw[ab];simp[Instr.lookup,run_underlying hT,MapKept.run_getObj_map hm,MapKept.run_checkKey hK hk,MapKept.run_findKey hK h1,Result.andThen]
def Qx7 (w:World) (B:Nat) (lk:Value) (hf:Nat) (v:Value):Prop:=
 ∃ p q,v=.func (.func 264) #[] #[.pointer (some ⟨p,0,none⟩),.pointer (some ⟨q,0,none⟩)]∧B≤p∧B≤q∧w.heap[q]?=some (.cells #[lk] 148)∧w.heap[p]?=some (.cells #[.func (.func hf) #[] #[]] 335)
theorem Qx7.keep{w w':World}{B hf:Nat}{lk v:Value}(h:Qx7 w B lk hf v)(hk:∀ k cs ty,B<=k->w.heap[k]?=some (.cells cs ty)->w'.heap[k]?=some (.cells cs ty)):Qx7 w' B lk hf v:=by
 obtain⟨p,q,hv,hp,hq,h1,h2⟩:=h;exact⟨p,q,hv,hp,hq,hk q _ _ hq h1,hk p _ _ hp h2⟩
def Qsh (b:Nat):Value:=.func (.func 245) #[] #[.pointer (some ⟨b,0,none⟩)]
def fB (b:Nat) (L:Nat→Bool) (u11 u13:Value) (k:Int):Option Value:=
 if k=1 then (if L 3 then some u11 else none) else if k=2 then (if L 6 then some u13 else none) else if k=3 then (if L 8 then some (Qsh b) else none) else none
structure JB (lk:Value) (b:Nat) (W:World) (L:Nat→Bool) (u6 u9 u11 u13 u15:Value) (w:World):Prop where
 bl:Below W.heap.size W w
 c3:L 3=true→L 2=true
 c6:L 6=true→L 5=true
 c30:L 3=true→L 0=true
 c60:L 6=true→L 0=true
 c80:L 8=true→L 0=true
 a2:L 2=true→Qx7 w W.heap.size lk 243 u11
 a5:L 5=true→Qx7 w W.heap.size lk 244 u13
 mp:L 0=true→∃ m es c,u9=.map (some m)∧W.heap.size≤m∧w.heap[m]?=some (.map es c)∧Qdu es (fB b L u11 u13)
 m9:L 9=true→u15=u9∧L 0=true∧L 3=true∧L 6=true∧L 8=true∧L 2=true∧L 5=true
 m10:L 10=true→u6=u15∧L 9=true
theorem QfL{B m:Nat}{W w:World}{o:Obj}(h:Below B W w)(hm:B<=m):Below B W (QaR w m o):=
 ⟨h.os,h.tape,h.output,by rw[Qks];exact h.size,fun k hk=>by rw[Qan (by omega)];exact h.block k hk⟩
theorem Qjo{a b:Bool}(h:a=true->b=true)(hb:b=false):a=false:=by
 cases a with
 |false=>rfl
 |true=>rw[h rfl]at hb;cases hb
section
variable {lk:Value} {b:Nat} {W:World} {L:Nat→Bool} {u6 u9 u11 u13 u15:Value} {w:World}
theorem QuK(i:Nat)(h:i≠3/\i≠6/\i≠8)(k:Int):fB b (up L i) u11 u13 k=fB b L u11 u13 k:=by
 unfold fB;rw[Qag L (Ne.symm h.1),Qag L (Ne.symm h.2.1),Qag L (Ne.symm h.2.2)]
theorem JB.s0(J:JB lk b W L u6 u9 u11 u13 u15 w)(h0:L 0=false):JB lk b W (up L 0) u6 (.map (some w.heap.size)) u11 u13 u15 (w.alloc (Obj.map #[] 0)):=by
 have hk:∀ k cs ty,W.heap.size<=k->w.heap[k]?=some (.cells cs ty)->(w.alloc (Obj.map #[] 0)).heap[k]?=some (.cells cs ty):=fun k cs ty _ h=>Qae h
 have n3:=Qjo J.c30 h0;have n6:=Qjo J.c60 h0;have n8:=Qjo J.c80 h0;have hz:=J.bl.size
 exact ⟨J.bl.alloc hz _,
  fun h=>Qai _ (J.c3 (by rwa [Qag L (by decide)]at h)),
  fun h=>Qai _ (J.c6 (by rwa [Qag L (by decide)]at h)),
  fun h=>absurd (by rwa [Qag L (by decide)]at h:L 3=true) (by rw[n3];decide),
  fun h=>absurd (by rwa [Qag L (by decide)]at h:L 6=true) (by rw[n6];decide),
  fun h=>absurd (by rwa [Qag L (by decide)]at h:L 8=true) (by rw[n8];decide),
  fun h=>(J.a2 (by rwa [Qag L (by decide)]at h)).keep hk,
  fun h=>(J.a5 (by rwa [Qag L (by decide)]at h)).keep hk,
  fun _=>⟨w.heap.size,#[],0,rfl,hz,Qat _ _,Qdu.empty.congr (fun k=>by rw[QuK 0 (by decide)];unfold fB;simp only[n3,n6,n8];simp)⟩,
  fun h=>absurd (J.m9 (by rwa [Qag L (by decide)]at h)).2.1 (by rw[h0];decide),
  fun h=>absurd (J.m9 (J.m10 (by rwa [Qag L (by decide)] at h)).2).2.1 (by rw [h0];decide)⟩
theorem JB.s2(J:JB lk b W L u6 u9 u11 u13 u15 w)(h0:L 2=false):JB lk b W (up L 2) u6 u9 (.func (.func 264) #[] #[.pointer (some ⟨w.heap.size+1,0,none⟩),.pointer (some ⟨w.heap.size,0,none⟩)]) u13 u15 ((w.alloc (.cells #[lk] 148)).alloc (.cells #[.func (.func 243) #[] #[]] 335)):=by
 have hk:∀ k cs ty,W.heap.size<=k->w.heap[k]?=some (.cells cs ty)->((w.alloc (.cells #[lk] 148)).alloc (.cells #[.func (.func 243) #[] #[]] 335)).heap[k]?=some (.cells cs ty):=fun k cs ty _ h=>Qae (Qae h)
 have ab:∀(m:Nat) (es:Array MapEntry) (c:Nat),w.heap[m]?=some (Obj.map es c)->((w.alloc (.cells #[lk] 148)).alloc (.cells #[.func (.func 243) #[] #[]] 335)).heap[m]?=some (Obj.map es c):=fun m es c h=>Qae (Qae h)
 have nn:=Qjo J.c3 h0;have hz:=J.bl.size
 have aa:∀ v k,fB b (up L 2) v u13 k=fB b L u11 u13 k:=fun v k=>by
  rw[QuK 2 (by decide)];unfold fB;simp only[nn,Bool.false_eq_true,if_false]
 exact ⟨(J.bl.alloc hz _).alloc (by simp;omega) _,
  fun h=>absurd (by rwa [Qag L (by decide)]at h:L 3=true) (by rw[nn];decide),
  fun h=>Qai _ (J.c6 (by rwa [Qag L (by decide)]at h)),
  fun h=>Qai _ (J.c30 (by rwa [Qag L (by decide)]at h)),
  fun h=>Qai _ (J.c60 (by rwa [Qag L (by decide)]at h)),
  fun h=>Qai _ (J.c80 (by rwa [Qag L (by decide)]at h)),
  fun _=>⟨w.heap.size+1,w.heap.size,rfl,by omega,hz,Qae (Qat _ _),Qaw (by simp)⟩,
  fun h=>(J.a5 (by rwa [Qag L (by decide)]at h)).keep hk,
  fun h=>by obtain⟨m,es,c,e1,e2,e3,e4⟩:=J.mp (by rwa [Qag L (by decide)]at h);exact⟨m,es,c,e1,e2,ab m es c e3,e4.congr (fun k=>(aa _ k).symm)⟩,
  fun h=>by obtain⟨e1,e2,e3,e4,e5,e6,e7⟩:=J.m9 (by rwa [Qag L (by decide)]at h);exact⟨e1,Qai _ e2,Qai _ e3,Qai _ e4,Qai _ e5,Qai _ e6,Qai _ e7⟩,
  fun h=>by obtain ⟨e1,e2⟩:=J.m10 (by rwa [Qag L (by decide)] at h);exact ⟨e1,Qai _ e2⟩⟩
theorem JB.s5(J:JB lk b W L u6 u9 u11 u13 u15 w)(h0:L 5=false):JB lk b W (up L 5) u6 u9 u11 (.func (.func 264) #[] #[.pointer (some ⟨w.heap.size+1,0,none⟩),.pointer (some ⟨w.heap.size,0,none⟩)]) u15 ((w.alloc (.cells #[lk] 148)).alloc (.cells #[.func (.func 244) #[] #[]] 335)):=by
 have hk:∀ k cs ty,W.heap.size<=k->w.heap[k]?=some (.cells cs ty)->((w.alloc (.cells #[lk] 148)).alloc (.cells #[.func (.func 244) #[] #[]] 335)).heap[k]?=some (.cells cs ty):=fun k cs ty _ h=>Qae (Qae h)
 have ab:∀(m:Nat) (es:Array MapEntry) (c:Nat),w.heap[m]?=some (Obj.map es c)->((w.alloc (.cells #[lk] 148)).alloc (.cells #[.func (.func 244) #[] #[]] 335)).heap[m]?=some (Obj.map es c):=fun m es c h=>Qae (Qae h)
 have nn:=Qjo J.c6 h0;have hz:=J.bl.size
 have aa:∀ v k,fB b (up L 5) u11 v k=fB b L u11 u13 k:=fun v k=>by
  rw[QuK 5 (by decide)];unfold fB;simp only[nn,Bool.false_eq_true,if_false]
 exact ⟨(J.bl.alloc hz _).alloc (by simp;omega) _,
  fun h=>Qai _ (J.c3 (by rwa [Qag L (by decide)]at h)),
  fun h=>absurd (by rwa [Qag L (by decide)]at h:L 6=true) (by rw[nn];decide),
  fun h=>Qai _ (J.c30 (by rwa [Qag L (by decide)]at h)),
  fun h=>Qai _ (J.c60 (by rwa [Qag L (by decide)]at h)),
  fun h=>Qai _ (J.c80 (by rwa [Qag L (by decide)]at h)),
  fun h=>(J.a2 (by rwa [Qag L (by decide)]at h)).keep hk,
  fun _=>⟨w.heap.size+1,w.heap.size,rfl,by omega,hz,Qae (Qat _ _),Qaw (by simp)⟩,
  fun h=>by obtain⟨m,es,c,e1,e2,e3,e4⟩:=J.mp (by rwa [Qag L (by decide)]at h);exact⟨m,es,c,e1,e2,ab m es c e3,e4.congr (fun k=>(aa _ k).symm)⟩,
  fun h=>by obtain⟨e1,e2,e3,e4,e5,e6,e7⟩:=J.m9 (by rwa [Qag L (by decide)]at h);exact⟨e1,Qai _ e2,Qai _ e3,Qai _ e4,Qai _ e5,Qai _ e6,Qai _ e7⟩,
  fun h=>by obtain ⟨e1,e2⟩:=J.m10 (by rwa [Qag L (by decide)] at h);exact ⟨e1,Qai _ e2⟩⟩
theorem JB.s3(J:JB lk b W L u6 u9 u11 u13 u15 w)(h0:L 3=false)(h1:L 0=true)(h2:L 2=true):∃ m es c,u9=.map (some m)/\w.heap[m]?=some (.map es c)/\Qdu es (fB b L u11 u13)/\fB b L u11 u13 1=none/\JB lk b W (up L 3) u6 u9 u11 u13 u15 (QaR w m (.map (es.push ⟨.int .i64 1,u11,c⟩) (c+1))):=by
 obtain⟨m,es,c,h3,h4,h5,h6⟩:=J.mp h1;have hn:fB b L u11 u13 1=none:=by unfold fB;simp[h0]
 have hx:fB b (up L 3) u11 u13 1=some u11:=by unfold fB;simp[QbQ]
 have hg:∀ z,z≠1->fB b (up L 3) u11 u13 z=fB b L u11 u13 z:=fun z hz=>by
  unfold fB;simp only[if_neg hz,Qag L (show(3:Nat)≠99 by decide),Qag L (show(6:Nat)≠3 by decide),Qag L (show(8:Nat)≠3 by decide)]
 have hk:∀ k cs ty,W.heap.size<=k->w.heap[k]?=some (.cells cs ty)->(QaR w m (.map (es.push ⟨.int .i64 1,u11,c⟩) (c+1))).heap[k]?=some (.cells cs ty):=fun k cs ty _ h=>by
  rw[Qan (fun e=>by rw[e,h5]at h;cases h)];exact h
 refine⟨m,es,c,h3,h5,h6,hn,?_⟩
 exact ⟨QfL J.bl h4,
  fun _=>Qai _ h2,
  fun h=>Qai _ (J.c6 (by rwa [Qag L (by decide)]at h)),
  fun _=>Qai _ h1,
  fun h=>Qai _ (J.c60 (by rwa [Qag L (by decide)]at h)),
  fun h=>Qai _ (J.c80 (by rwa [Qag L (by decide)]at h)),
  fun h=>(J.a2 (by rwa [Qag L (by decide)]at h)).keep hk,
  fun h=>(J.a5 (by rwa [Qag L (by decide)]at h)).keep hk,
  fun _=>⟨m,_,_,h3,h4,Qa3 h5,h6.push hn hx hg⟩,
  fun h=>by obtain⟨e1,e2,e3,e4,e5,e6,e7⟩:=J.m9 (by rwa [Qag L (by decide)]at h);exact⟨e1,Qai _ e2,Qai _ e3,Qai _ e4,Qai _ e5,Qai _ e6,Qai _ e7⟩,
  fun h=>by obtain ⟨e1,e2⟩:=J.m10 (by rwa [Qag L (by decide)] at h);exact ⟨e1,Qai _ e2⟩⟩
theorem JB.s6(J:JB lk b W L u6 u9 u11 u13 u15 w)(h0:L 6=false)(h1:L 0=true)(h2:L 5=true):∃ m es c,u9=.map (some m)/\w.heap[m]?=some (.map es c)/\Qdu es (fB b L u11 u13)/\fB b L u11 u13 2=none/\JB lk b W (up L 6) u6 u9 u11 u13 u15 (QaR w m (.map (es.push ⟨.int .i64 2,u13,c⟩) (c+1))):=by
 obtain⟨m,es,c,h3,h4,h5,h6⟩:=J.mp h1;have hn:fB b L u11 u13 2=none:=by unfold fB;simp[h0]
 have hx:fB b (up L 6) u11 u13 2=some u13:=by unfold fB;simp[QbQ]
 have hg:∀ z,z≠2->fB b (up L 6) u11 u13 z=fB b L u11 u13 z:=fun z hz=>by
  unfold fB;simp only[if_neg hz,Qag L (show(3:Nat)≠6 by decide),Qag L (show(6:Nat)≠99 by decide),Qag L (show(8:Nat)≠6 by decide)]
 have hk:∀ k cs ty,W.heap.size<=k->w.heap[k]?=some (.cells cs ty)->(QaR w m (.map (es.push ⟨.int .i64 2,u13,c⟩) (c+1))).heap[k]?=some (.cells cs ty):=fun k cs ty _ h=>by
  rw[Qan (fun e=>by rw[e,h5]at h;cases h)];exact h
 refine⟨m,es,c,h3,h5,h6,hn,?_⟩
 exact ⟨QfL J.bl h4,
  fun h=>Qai _ (J.c3 (by rwa [Qag L (by decide)]at h)),
  fun _=>Qai _ h2,
  fun h=>Qai _ (J.c30 (by rwa [Qag L (by decide)]at h)),
  fun _=>Qai _ h1,
  fun h=>Qai _ (J.c80 (by rwa [Qag L (by decide)]at h)),
  fun h=>(J.a2 (by rwa [Qag L (by decide)]at h)).keep hk,
  fun h=>(J.a5 (by rwa [Qag L (by decide)]at h)).keep hk,
  fun _=>⟨m,_,_,h3,h4,Qa3 h5,h6.push hn hx hg⟩,
  fun h=>by obtain⟨e1,e2,e3,e4,e5,e6,e7⟩:=J.m9 (by rwa [Qag L (by decide)]at h);exact⟨e1,Qai _ e2,Qai _ e3,Qai _ e4,Qai _ e5,Qai _ e6,Qai _ e7⟩,
  fun h=>by obtain ⟨e1,e2⟩:=J.m10 (by rwa [Qag L (by decide)] at h);exact ⟨e1,Qai _ e2⟩⟩
theorem JB.s8(J:JB lk b W L u6 u9 u11 u13 u15 w)(h0:L 8=false)(h1:L 0=true) :∃ m es c,u9=.map (some m)/\w.heap[m]?=some (.map es c)/\Qdu es (fB b L u11 u13)/\fB b L u11 u13 3=none/\JB lk b W (up L 8) u6 u9 u11 u13 u15 (QaR w m (.map (es.push ⟨.int .i64 3,(Qsh b),c⟩) (c+1))):=by
 obtain⟨m,es,c,h3,h4,h5,h6⟩:=J.mp h1;have hn:fB b L u11 u13 3=none:=by unfold fB;simp[h0]
 have hx:fB b (up L 8) u11 u13 3=some (Qsh b):=by unfold fB;simp[QbQ]
 have hg:∀ z,z≠3->fB b (up L 8) u11 u13 z=fB b L u11 u13 z:=fun z hz=>by
  unfold fB;simp only[if_neg hz,Qag L (show(3:Nat)≠8 by decide),Qag L (show(6:Nat)≠8 by decide),Qag L (show(8:Nat)≠99 by decide)]
 have hk:∀ k cs ty,W.heap.size<=k->w.heap[k]?=some (.cells cs ty)->(QaR w m (.map (es.push ⟨.int .i64 3,(Qsh b),c⟩) (c+1))).heap[k]?=some (.cells cs ty):=fun k cs ty _ h=>by
  rw[Qan (fun e=>by rw[e,h5]at h;cases h)];exact h
 refine⟨m,es,c,h3,h5,h6,hn,?_⟩
 exact ⟨QfL J.bl h4,
  fun h=>Qai _ (J.c3 (by rwa [Qag L (by decide)]at h)),
  fun h=>Qai _ (J.c6 (by rwa [Qag L (by decide)]at h)),
  fun h=>Qai _ (J.c30 (by rwa [Qag L (by decide)]at h)),
  fun h=>Qai _ (J.c60 (by rwa [Qag L (by decide)]at h)),
  fun _=>Qai _ h1,
  fun h=>(J.a2 (by rwa [Qag L (by decide)]at h)).keep hk,
  fun h=>(J.a5 (by rwa [Qag L (by decide)]at h)).keep hk,
  fun _=>⟨m,_,_,h3,h4,Qa3 h5,h6.push hn hx hg⟩,
  fun h=>by obtain⟨e1,e2,e3,e4,e5,e6,e7⟩:=J.m9 (by rwa [Qag L (by decide)]at h);exact⟨e1,Qai _ e2,Qai _ e3,Qai _ e4,Qai _ e5,Qai _ e6,Qai _ e7⟩,
  fun h=>by obtain ⟨e1,e2⟩:=J.m10 (by rwa [Qag L (by decide)] at h);exact ⟨e1,Qai _ e2⟩⟩
theorem JB.s9(J:JB lk b W L u6 u9 u11 u13 u15 w)(h0:L 9=false)(i0:L 0=true)(i3:L 3=true)(i6:L 6=true)(i8:L 8=true)(i2:L 2=true)(i5:L 5=true):JB lk b W (up L 9) u6 u9 u11 u13 u9 w:=by
 have hk:∀ k cs ty,W.heap.size<=k->w.heap[k]?=some (.cells cs ty)->w.heap[k]?=some (.cells cs ty):=fun k cs ty _ h=>h
 have aa:∀(m:Nat) (es:Array MapEntry) (c:Nat),w.heap[m]?=some (Obj.map es c)->w.heap[m]?=some (Obj.map es c):=fun m es c h=>h
 exact ⟨J.bl,
  fun h=>Qai _ (J.c3 (by rwa [Qag L (by decide)]at h)),
  fun h=>Qai _ (J.c6 (by rwa [Qag L (by decide)]at h)),
  fun h=>Qai _ (J.c30 (by rwa [Qag L (by decide)]at h)),
  fun h=>Qai _ (J.c60 (by rwa [Qag L (by decide)]at h)),
  fun h=>Qai _ (J.c80 (by rwa [Qag L (by decide)]at h)),
  fun h=>(J.a2 (by rwa [Qag L (by decide)]at h)).keep hk,
  fun h=>(J.a5 (by rwa [Qag L (by decide)]at h)).keep hk,
  fun h=>by obtain⟨m,es,c,e1,e2,e3,e4⟩:=J.mp (by rwa [Qag L (by decide)]at h);exact⟨m,es,c,e1,e2,aa m es c e3,e4.congr (fun k=>(QuK 9 (by decide) k).symm)⟩,
  fun _=>⟨rfl,Qai _ i0,Qai _ i3,Qai _ i6,Qai _ i8,Qai _ i2,Qai _ i5⟩,
  fun h=>absurd (J.m10 (by rwa [Qag L (by decide)] at h)).2 (by rw [h0];decide)⟩
theorem JB.s10(J:JB lk b W L u6 u9 u11 u13 u15 w)(h0:L 10=false)(i9:L 9=true):JB lk b W (up L 10) u15 u9 u11 u13 u15 w:=by
 have hk:∀ k cs ty,W.heap.size<=k->w.heap[k]?=some (.cells cs ty)->w.heap[k]?=some (.cells cs ty):=fun k cs ty _ h=>h
 have aa:∀(m:Nat) (es:Array MapEntry) (c:Nat),w.heap[m]?=some (Obj.map es c)->w.heap[m]?=some (Obj.map es c):=fun m es c h=>h
 exact ⟨J.bl,
  fun h=>Qai _ (J.c3 (by rwa [Qag L (by decide)]at h)),
  fun h=>Qai _ (J.c6 (by rwa [Qag L (by decide)]at h)),
  fun h=>Qai _ (J.c30 (by rwa [Qag L (by decide)]at h)),
  fun h=>Qai _ (J.c60 (by rwa [Qag L (by decide)]at h)),
  fun h=>Qai _ (J.c80 (by rwa [Qag L (by decide)]at h)),
  fun h=>(J.a2 (by rwa [Qag L (by decide)]at h)).keep hk,
  fun h=>(J.a5 (by rwa [Qag L (by decide)]at h)).keep hk,
  fun h=>by obtain⟨m,es,c,e1,e2,e3,e4⟩:=J.mp (by rwa [Qag L (by decide)]at h);exact⟨m,es,c,e1,e2,aa m es c e3,e4.congr (fun k=>(QuK 10 (by decide) k).symm)⟩,
  fun h=>by obtain⟨e1,e2,e3,e4,e5,e6,e7⟩:=J.m9 (by rwa [Qag L (by decide)]at h);exact⟨e1,Qai _ e2,Qai _ e3,Qai _ e4,Qai _ e5,Qai _ e6,Qai _ e7⟩,
  fun _=>⟨rfl,Qai _ i9⟩⟩
end
theorem Tryz.zeroWay:∀ W,(zeroValue 321).run Tryz.prog W=.ok .nilFunc W:=fun W=>by kernel_rfl
theorem QtM(fl:FuncId)(hf:Nat)(w:World) :
 Calls Tryz.prog 242 #[(.func (.func fl) #[] #[]),.func (.func hf) #[] #[]] w fun e w'=>e=.returned (.func (.func 264) #[] #[.pointer (some ⟨w.heap.size+1,0,none⟩),.pointer (some ⟨w.heap.size,0,none⟩)])/\w'=(w.alloc (.cells #[(.func (.func fl) #[] #[])] 148)).alloc (.cells #[.func (.func hf) #[] #[]] 335):=by
 have hmf:∀(fn:Fn) (first cap:Array Value) (w:World),(Instr.makeFunc fn first cap).run Tryz.prog w=.ok (.func fn first cap) w:=fun _ _ _ _=>rfl
 go_enter func242,ntmps242;go_wp2;go_ret;exact⟨rfl,rfl⟩
def QuT (u:Bool) (fl:FuncId) (tag:Int) (b:Nat) (u6 u9 u11 u13 u15:Value):Act:=
 { tmps:=#[.int .i64 tag,.bool u,undef,undef,.nilFunc,.pointer (some ⟨b,0,none⟩),u6,.bool u,(.func (.func fl) #[] #[]),u9,(.func (.func fl) #[] #[]),u11,(.func (.func fl) #[] #[]),u13,Qsh b,u15,undef,undef,undef],defers:=[] }
def Qtj (u:Bool) (fl:FuncId) (tag:Int) (b:Nat) (W:World) (l:Array Bool) (a:Act) (w:World):Prop:=
 l.size=11∧(∀ i∈[1,4,7],l.getD i false=true)∧∃ u6 u9 u11 u13 u15,a=QuT u fl tag b u6 u9 u11 u13 u15∧JB (.func (.func fl) #[] #[]) b W (fun j=>l.getD j false) u6 u9 u11 u13 u15 w
theorem Qtj.next{u:Bool}{fl:FuncId}{tag:Int}{b:Nat}{W:World}{l:Array Bool}{i:Nat}{u6 u9 u11 u13 u15:Value}{w:World}(hl:l.size=11)(ht:∀ i∈[1,4,7],l.getD i false=true)(hi:i<11)(J:JB (.func (.func fl) #[] #[]) b W (up (fun j=>l.getD j false) i) u6 u9 u11 u13 u15 w):Qtj u fl tag b W (l.setIfInBounds i true) (QuT u fl tag b u6 u9 u11 u13 u15) w:=
 ⟨by simp[hl],fun k hk=>getD_set_true (ht k hk),u6,u9,u11,u13,u15,rfl,by rw[Qo0 (by omega)];exact J⟩
theorem Qwv(u:Bool)(fl:FuncId)(ah:QmU u=.func (.func fl) #[] #[])(tag:Int)(w:World) :
 Calls Tryz.prog 204 #[.int .i64 tag,.bool u] w fun e w'=>(∃ wv,e=.returned wv/\((1<=tag/\tag<=3/\WayV w' tag u wv)\/(¬(1<=tag/\tag<=3)/\wv=.nilFunc)))/\Below w.heap.size w w':=by
 have hmf:∀(fn:Fn) (first cap:Array Value) (w:World),(Instr.makeFunc fn first cap).run Tryz.prog w=.ok (.func fn first cap) w:=fun _ _ _ _=>rfl
 have hmm:∀(w:World),(Instr.makeMap 349 none).run Tryz.prog w=.ok (.map (some w.heap.size)) (w.alloc (Obj.map #[] 0)):=fun _=>rfl
 go_enter func204,ntmps204;go_wp2_with (go_at_call 241;refine(QkW u _).mono ?_;rw[ah];rintro e w' ⟨rfl,hww⟩;subst w');obtain⟨W,hW⟩:∃ W,W=w.alloc (.cells #[(.func (.func fl) #[] #[])] 148):=⟨_,rfl⟩;have ag:W.heap[w.heap.size]?=some (.cells #[(.func (.func fl) #[] #[])] 148):=by rw[hW];exact Qat _ _
 have ao:Below w.heap.size w W:=by rw[hW];exact(Below.refl _ _).alloc (Nat.le_refl _) _
 have hWl:=QaI ag;rw[<-hW];clear hW;refine wp_region_held (S:=fun w'=>w'.cell? ⟨w.heap.size,0,none⟩=some (.func (.func fl) #[] #[])) (by kernel_rfl) ?_;have hS:({ W with drawn:=W.drawn+1 }:World).cell? ⟨w.heap.size,0,none⟩=some (.func (.func fl) #[] #[]):=Qaa (w:={ W with drawn:=W.drawn+1 }) ag 0;refine Qax 1 10 ((.func (.func fl) #[] #[])) rfl hS (fun w' hSw=>by(try dsimp only at hSw);(try unfold Qsh);go_simp) ?_;simp only[pt,sz,sc];refine Qax 4 12 ((.func (.func fl) #[] #[])) rfl hS (fun w' hSw=>by(try dsimp only at hSw);(try unfold Qsh);go_simp) ?_;simp only[pt,sz,sc];refine Qax 7 14 ((Qsh w.heap.size)) rfl hS (fun w' hSw=>by(try dsimp only at hSw);(try unfold Qsh);go_simp) ?_;simp only[pt,sz,sc];refine QfX (Qtj u fl tag w.heap.size W) (fun l a w' h=>by rw[h.1];rfl) (fun l a w' h=>?hSS) (fun l a w' i h hi=>?hstep) (fun l a w' h hr=>?hdone) _ _ _ _ (by decide) ?hinit
 case hSS=>
  obtain⟨_,_,_,_,_,_,_,_,J⟩:=h;exact Qaa (Qal ag J.bl) 0
 case hinit=>
  refine⟨rfl,by decide,undef,undef,undef,undef,undef,rfl,?_⟩;exact⟨Qar (Below.refl _ _),fun h=>absurd h (by decide),fun h=>absurd h (by decide),fun h=>absurd h (by decide),fun h=>absurd h (by decide),fun h=>absurd h (by decide),fun h=>absurd h (by decide),fun h=>absurd h (by decide),fun h=>absurd h (by decide),fun h=>absurd h (by decide),fun h=>absurd h (by decide)⟩
 case hdone=>
  obtain⟨hl,ac,u6,u9,ai,aj,ay,rfl,J⟩:=h;have ak:=QeQ hl (by kernel_rfl) hr;obtain⟨aw,_⟩:=J.m10 (ak 10 (by decide));obtain⟨e9,h0,h3,h6,h8,h2,h5⟩:=J.m9 (ak 9 (by decide));obtain⟨m,es,c,e1,hm1,aq,hf⟩:=J.mp h0;subst aw e9 e1;have ad:=Qtt underlying349 underlying3 Tryz.zeroWay aq hf tag;have HB:=Qab (ao.trans (J.bl.mono ao.size));have ar:=Qab (J.a2 h2);have au:=Qab (J.a5 h5);have av:Hid (w'.cell? ⟨w.heap.size,0,none⟩=some (.func (.func fl) #[] #[])):=Qaa (Qal ag J.bl) 0
  have ap:fB w.heap.size (fun j=>l.getD j false) ai aj tag=if tag=1 then some ai else if tag=2 then some aj else if tag=3 then some (Qsh w.heap.size)else none:=by
   unfold fB;rw[if_pos h3,if_pos h6,if_pos h8]
  rw[ap]at ad;clear J ak hr ac hl hS aq hf h0 h3 h6 h8 h2 h5 ap;unfold QuT;by_cases t1:tag=1
  ·subst t1;rw[if_pos rfl]at ad;obtain⟨p,q,rfl,hp,hq,b1,b2⟩:=ar.o;have HV:Hid (WayV w' 1 u (.func (.func 264) #[] #[.pointer (some ⟨p,0,none⟩),.pointer (some ⟨q,0,none⟩)])):=Or.inr ⟨p,q,rfl,by rw[ah];exact Qaa b1 0,Or.inl ⟨rfl,Qaa b2 0⟩⟩;clear b1 b2;simp only[Option.getD_some]at ad;go_wp2;go_ret;exact⟨⟨_,rfl,Or.inl ⟨by decide,by decide,HV.o⟩⟩,HB.o⟩
  by_cases t2:tag=2
  ·subst t2;rw[if_neg t1,if_pos rfl]at ad;obtain⟨p,q,rfl,hp,hq,b1,b2⟩:=au.o;have HV:Hid (WayV w' 2 u (.func (.func 264) #[] #[.pointer (some ⟨p,0,none⟩),.pointer (some ⟨q,0,none⟩)])):=Or.inr ⟨p,q,rfl,by rw[ah];exact Qaa b1 0,Or.inr ⟨rfl,Qaa b2 0⟩⟩;clear b1 b2;simp only[Option.getD_some]at ad;go_wp2;go_ret;exact⟨⟨_,rfl,Or.inl ⟨by decide,by decide,HV.o⟩⟩,HB.o⟩
  by_cases t3:tag=3
  ·subst t3;rw[if_neg t1,if_neg t2,if_pos rfl]at ad;have HV:Hid (WayV w' 3 u (Qsh w.heap.size)):=Or.inl ⟨rfl,w.heap.size,rfl,by rw[ah];exact av.o⟩;simp only[Option.getD_some]at ad;unfold Qsh at ad HV ⊢;go_wp2;go_ret;exact⟨⟨_,rfl,Or.inl ⟨by decide,by decide,HV.o⟩⟩,HB.o⟩
  ·rw[if_neg t1,if_neg t2,if_neg t3]at ad;simp only[Option.getD_none]at ad;have ax:¬(1<=tag/\tag<=3):=by omega
   clear t1 t2 t3;go_wp2;go_ret;exact⟨⟨_,rfl,Or.inr ⟨ax,rfl⟩⟩,HB.o⟩
 case hstep=>
  obtain⟨hl,ac,u6,u9,ai,aj,ay,rfl,J⟩:=h;obtain⟨h0,o,ho,aa⟩:=mem_ready.1 hi;have hi11:i<11:=(Array.getElem?_eq_some_iff.1 ho).1
  have ab:l.getD i false=false:=by
   have:i<l.size:=by omega
   simp[this]at h0 ⊢;exact h0
  clear h0;rcases(by omega:i=0\/i=1\/i=2\/i=3\/i=4\/i=5\/i=6\/i=7\/i=8\/i=9\/i=10)with hh|hh|hh|hh|hh|hh|hh|hh|hh|hh|hh<;>subst hh
  ·clear ho aa hi;refine QaP rfl (by rfl) ?_;unfold QuT;go_simp;exact Qtj.next hl ac (by decide) (J.s0 ab)
  ·rw[ac 1 (by decide)]at ab;cases ab
  ·clear ho aa hi;refine QaP rfl (by rfl) ?_;unfold QuT;go_simp;refine(QtM _ _ _).mono ?_;rintro e w2 ⟨rfl,rfl⟩;exact Qtj.next hl ac (by decide) (J.s2 ab)
  ·have ae:=Option.some.inj (show some _=some o from ho);subst ae;have h1:=aa { on:=0,ground:=.data } (by simp) rfl;have h2:=aa { on:=2,ground:=.data } (by simp) rfl;clear ho aa hi;obtain⟨m,es,c,rfl,hm,hf,hn,J'⟩:=J.s3 ab h1 h2;have af:(Instr.mapUpdate 349 (.map (some m)) (.int .i64 1) ai).run Tryz.prog w'=.ok () _:=QgG underlying349 underlying3 hm hf hn _;refine QaP rfl (by rfl) ?_;unfold QuT;go_simp;exact Qtj.next hl ac (by decide) J'
  ·rw[ac 4 (by decide)]at ab;cases ab
  ·clear ho aa hi;refine QaP rfl (by rfl) ?_;unfold QuT;go_simp;refine(QtM _ _ _).mono ?_;rintro e w2 ⟨rfl,rfl⟩;exact Qtj.next hl ac (by decide) (J.s5 ab)
  ·have ae:=Option.some.inj (show some _=some o from ho);subst ae;have h1:=aa { on:=0,ground:=.data } (by simp) rfl;have h2:=aa { on:=5,ground:=.data } (by simp) rfl;clear ho aa hi;obtain⟨m,es,c,rfl,hm,hf,hn,J'⟩:=J.s6 ab h1 h2;have af:(Instr.mapUpdate 349 (.map (some m)) (.int .i64 2) aj).run Tryz.prog w'=.ok () _:=QgG underlying349 underlying3 hm hf hn _;refine QaP rfl (by rfl) ?_;unfold QuT;go_simp;exact Qtj.next hl ac (by decide) J'
  ·rw[ac 7 (by decide)]at ab;cases ab
  ·have ae:=Option.some.inj (show some _=some o from ho);subst ae;have h1:=aa { on:=0,ground:=.data } (by simp) rfl;clear ho aa hi;obtain⟨m,es,c,rfl,hm,hf,hn,J'⟩:=J.s8 ab h1;have af:(Instr.mapUpdate 349 (.map (some m)) (.int .i64 3) (Qsh w.heap.size)).run Tryz.prog w'=.ok () _:=QgG underlying349 underlying3 hm hf hn _;refine QaP rfl (by rfl) ?_;unfold QuT;go_simp;exact Qtj.next hl ac (by decide) J'
  ·have ae:=Option.some.inj (show some _=some o from ho);subst ae;have i0:=aa { on:=0,ground:=.data } (by simp) rfl;have i2:=aa { on:=2,ground:=.data } (by simp) rfl;have i3:=aa { on:=3,ground:=.data } (by simp) rfl;have i5:=aa { on:=5,ground:=.data } (by simp) rfl;have i6:=aa { on:=6,ground:=.data } (by simp) rfl;have i8:=aa { on:=8,ground:=.data } (by simp) rfl;clear ho aa hi;refine QaP rfl (by rfl) ?_;unfold QuT;go_simp;exact Qtj.next hl ac (by decide) (J.s9 ab i0 i3 i6 i8 i2 i5)
  ·have ae:=Option.some.inj (show some _=some o from ho);subst ae;have i9:=aa { on:=9,ground:=.data } (by simp) rfl;clear ho aa hi;refine QaP rfl (by rfl) ?_;unfold QuT;go_simp;exact Qtj.next hl ac (by decide) (J.s10 ab i9)
theorem MAt.box{w:World}{B xb sb:Nat}{M:Msg}{m:MS}{count:Nat}(h:MAt w B xb sb M m count)(o:Obj):MAt (w.alloc o) B xb sb M m count:=h.below ((Below.refl _ _).alloc (Nat.le_refl _) _)
theorem MAt.now{w:World}{B xb sb:Nat}{M:Msg}{m:MS}{aa:Nat}(h:MAt w B xb sb M m aa):w.cell? ⟨xb,2,none⟩=some (.int .i64 (m.now:Int)):=by
 obtain⟨kv,h⟩:=h;exact Qaa h.blk 2
theorem Qda{P:Nat->Obj->Prop}(w:World)(o:Obj):Fr P w (w.alloc o):=(Fr.refl _ w).alloc o
theorem QvF(i:Ins)(av bv:Value)(B xb sb:Nat)(M:Msg)(m:MS)(ab:Nat)(w:World)(h:MAt w B xb sb M m ab)(ho:Qck w i av bv) :
 Calls Tryz.prog 153 #[.pointer (some ⟨xb,0,none⟩),QdI i av bv] w (QaQ (Qix i m) B xb sb M ab w):=by
 have HM:=Qab h;obtain⟨aa,ac,rfl⟩:=ho.a.len;obtain⟨ba,bc,rfl⟩:=ho.b.len;have hxl:xb<w.heap.size:=Qau h.now;have ad:=(h.box (.cells (QlP i (.slice aa i.a.length ac) (.slice ba i.b.length bc)) 63)).now;unfold QlP at ad;have e0:=Qfw i.n 0;have e1:=Qfw i.n 1;clear h ho;unfold QdI;by_cases h01:i.n=0\/i.n=1
 ·have HR:Hid (Qix i m=Qm0 (decide (i.n=1)) m):=by show _=_;unfold Qix;rw[if_pos h01]
  rcases h01 with h0|h1
  ·rw[decide_eq_true h0]at e0;rw[decide_eq_false (by omega)]at e1 HR;clear h0;go_enter func153,ntmps153;go_wp2_with (go_at_call 168;refine(QbS _ _).mono ?_;rintro e w' ⟨rfl,ae⟩;rw[ae];clear ae);refine(Qgw false B xb sb M m ab _ (HM.o.box _)).mono ?_;intro e w1 h1;rcases h1.cases with⟨hf,⟨m',hr,rfl,hm⟩ | ⟨f,hr,bb,hz,rfl,af⟩⟩
   ·have H1:=Qab h1;clear hm hf h1;go_wp2;go_end0;rw[HR.o];exact H1.o.from (Qda _ _)
   ·exact⟨rfl,by rw[HR.o];exact QaQ.from h1 (Qda _ _)⟩
  ·rw[decide_eq_true h1]at e1 HR;rw[decide_eq_false (by omega)]at e0;clear h1;go_enter func153,ntmps153;go_wp2_with (go_at_call 168;refine(QbS _ _).mono ?_;rintro e w' ⟨rfl,ae⟩;rw[ae];clear ae);refine(Qgw true B xb sb M m ab _ (HM.o.box _)).mono ?_;intro e w1 h1;rcases h1.cases with⟨hf,⟨m',hr,rfl,hm⟩ | ⟨f,hr,bb,hz,rfl,af⟩⟩
   ·have H1:=Qab h1;clear hm hf h1;go_wp2;go_end0;rw[HR.o];exact H1.o.from (Qda _ _)
   ·exact⟨rfl,by rw[HR.o];exact QaQ.from h1 (Qda _ _)⟩
 ·have HR:Hid (Qix i m=.error (12,(m.now:Int))):=by show _=_;unfold Qix Qc1;rw[if_neg h01]
  rw[decide_eq_false (by omega)]at e0;rw[decide_eq_false (by omega)]at e1;clear h01;go_enter func153,ntmps153;go_wp2_with (go_at_call 168;refine(QcE _ _ _ ad).mono ?_;rintro e w' ⟨⟨bb,hz,rfl,af⟩,hb⟩);exact⟨rfl,by rw[HR.o];exact QaQ.from (QaQ.err rfl (Fr.of_below hb) ⟨bb,hz,rfl,af⟩) (Qda _ _)⟩
theorem Qvb(i:Ins)(av bv:Value)(B xb sb:Nat)(M:Msg)(m:MS)(ab:Nat)(w:World)(h:MAt w B xb sb M m ab)(ho:Qck w i av bv) :
 Calls Tryz.prog 154 #[.pointer (some ⟨xb,0,none⟩),QdI i av bv] w (QaQ (Qnv m) B xb sb M ab w):=by
 have HM:=Qab h;obtain⟨aa,ac,rfl⟩:=ho.a.len;obtain⟨ba,bc,rfl⟩:=ho.b.len;clear h ho;unfold QdI;by_cases h0:m.stack=[]
 ·have HR:Hid (Qnv m=.error (12,(m.now:Int))):=by show _=_;unfold Qnv Qc1;rw[if_pos h0]
  go_enter func154,ntmps154;go_wp2_with fail;refine(Qot B xb sb M m ab _ (HM.o.box _) h0).mono ?_;rintro e w1 ⟨⟨bb,hz,rfl,ae⟩,hb⟩;refine⟨rfl,?_⟩;rw[HR.o];exact QaQ.from (QaQ.err rfl (Fr.of_below hb) ⟨bb,hz,rfl,ae⟩) (Qda _ _)
 ·have HR:Hid (Qnv m=Qm0 (!topL m) (Qrs m)):=by show _=_;unfold Qnv;rw[if_neg h0]
  go_enter func154,ntmps154;go_wp2_with fail;refine(Qnq B xb sb M m ab _ (HM.o.box _) h0).mono ?_;rintro e w1 ⟨rfl,ag,af⟩;have ah:=Qab ag;have ad:=Qab ((Qda _ _).trans af);clear ag af;go_wp2_with fail;refine(Qgw (!topL m) B xb sb M (Qrs m) ab _ ah.o).mono ?_;intro e w2 h2;rcases h2.cases with⟨hf,⟨m',hr,rfl,hm⟩ | ⟨f,hr,bb,hz,rfl,ae⟩⟩
  ·have H2:=Qab h2;clear hm hf h2;go_wp2;go_end0;rw[HR.o];exact H2.o.from ad.o
  ·exact⟨rfl,by rw[HR.o];exact QaQ.from h2 ad.o⟩
theorem MI.go{w:World}{B xb sb:Nat}{M:Msg}{m:MS}{aa:Nat}{kv:Value}(h:MI w B xb sb M m aa kv)(k:Nat)(hk:k<=aa):MAt (w.setCell ⟨xb,3,none⟩ (.int .i64 (k:Int))) B xb sb M (goL m k) aa/\Fr (PMc B xb) w (w.setCell ⟨xb,3,none⟩ (.int .i64 (k:Int))):=by
 have ab:=h.set 3 (.int .i64 (k:Int)) (goL m k) kv rfl rfl (Qcc h.stack h.row _ _) h.sl h.nw hk;exact⟨⟨_,ab.1⟩,ab.2.mono (fun _ _=>PMc.k)⟩
theorem Qwo(i:Ins)(av bv:Value)(B xb sb:Nat)(M:Msg)(m:MS)(ab:Nat)(w:World)(h:MAt w B xb sb M m ab)(ho:Qck w i av bv) :
 Calls Tryz.prog 155 #[.pointer (some ⟨xb,0,none⟩),QdI i av bv] w (QaQ (Qgm ab i m) B xb sb M ab w):=by
 obtain⟨aa,ac,rfl⟩:=ho.a.len;obtain⟨ba,bc,rfl⟩:=ho.b.len;have HM:=Qab h;have hxl:xb<w.heap.size:=Qau h.now;clear ho;unfold QdI;cases hmay:QiL ab m i.n
 ·have HR:Hid (Qgm ab i m=.error (12,(m.now:Int))):=by show _=_;unfold Qgm Qc1;rw[hmay];rfl
  clear h;go_enter func155,ntmps155;go_wp2_with fail;refine(QeD i.n B xb sb M m ab _ (HM.o.box _)).mono ?_;rintro e w1 ⟨rfl,af⟩;rw[hmay];have ad:=Qab (((Below.refl w.heap.size w).alloc (Nat.le_refl _) _).trans (af.mono (by simp)));have ai:=(HM.o.below ad.o).now;clear af;go_wp2_with (go_at_call 168;refine(QcE _ _ _ ai).mono ?_;rintro e w' ⟨⟨bb,hz,rfl,ap⟩,hb⟩);exact⟨rfl,by rw[HR.o];exact QaQ.from (QaQ.err rfl (Fr.of_below hb) ⟨bb,hz,rfl,ap⟩) (Fr.of_below ad.o)⟩
 ·have ah:=Qrx hmay;have HR:Hid (Qgm ab i m=.ok (goL m (m.next+i.n.toNat))):=by show _=_;unfold Qgm;rw[hmay];rfl
  have aq:0<=i.n:=by unfold QiL at hmay;simp at hmay;exact hmay.1
  obtain⟨kv,ag⟩:=h;have hcl:=ag.cl;clear ag;go_enter func155,ntmps155;go_wp2_with fail;refine(QeD i.n B xb sb M m ab _ (HM.o.box _)).mono ?_;rintro e w1 ⟨rfl,af⟩;rw[hmay];have ad:=Qab (((Below.refl w.heap.size w).alloc (Nat.le_refl _) _).trans (af.mono (by simp)));obtain⟨kv,ae⟩:=HM.o.below ad.o;have ak:=Qal (Qat w (.cells #[.int .i64 i.op,.int .i64 i.n,.int .i64 i.tag,.bool i.oct,.slice aa i.a.length ac,.slice ba i.b.length bc,.int .i64 i.at_] 63)) af;have q1:w1.cell? ⟨w.heap.size,1,none⟩=some (.int .i64 i.n):=Qaa ak 1;have c3:w1.cell? ⟨xb,3,none⟩=some (.int .i64 (m.next:Int)):=Qaa ae.blk 3;have f3:=Qao ae.blk;obtain⟨d,hd⟩:∃ d:Nat,i.n=(d:Int):=⟨i.n.toNat,by omega⟩;rw[hd]at q1 HR ah;rw[Int.toNat_natCast]at HR ah;have hsum:IntKind.i64.wrap ((m.next:Int)+(d:Int))=(m.next:Int)+(d:Int):=by rw[IntKind.wrap_i64];omega
  have HMI:=Qab ae;have hne:¬ w.heap.size=xb:=by omega
  have hne':¬ xb=w.heap.size:=by omega
  have HG:=Qab (ae.go (m.next+d) ah);have aj:=Qab ((ae.below (Qar (Below.refl _ _))).go (m.next+d) ah);clear af ae ak hd aq hmay;go_wp2_with (go_at_call 168;refine(QbS _ _).mono ?_;rintro e w' ⟨rfl,ao⟩;rw[ao];clear ao);go_region
  all_goals go_wp2
  all_goals go_end0
  all_goals first
   |exact QaQ.from (QaQ.ok HR.o HG.o.2.drew (HG.o.1.below (Qar (Below.refl _ _)))) (Fr.of_below ad.o)
   |exact QaQ.from (QaQ.ok HR.o ((Fr.of_below (Qar (Below.refl _ _))).trans aj.o.2) aj.o.1) (Fr.of_below ad.o)
theorem Qll(taken:Bool)(p:Nat)(i:Ins)(av bv:Value)(B xb sb:Nat)(M:Msg)(m:MS)(ab:Nat)(w:World)(h:MAt w B xb sb M m ab)(ho:Qck w i av bv)(hp:w.heap[p]?=some (.cells #[.bool taken] 4))(hpB:p<xb+7) :
 Calls Tryz.prog 202 #[.pointer (some ⟨xb,0,none⟩),QdI i av bv,.pointer (some ⟨p,0,none⟩)] w (QaQ (doCond taken ab i m) B xb sb M ab w):=by
 obtain⟨aa,ac,rfl⟩:=ho.a.len;obtain⟨ba,bc,rfl⟩:=ho.b.len;have HM:=Qab h;have hxl:xb<w.heap.size:=Qau h.now;have HP:=Qab hp;have hpl:=QaI hp;clear ho hp;unfold QdI;cases hmay:QiL ab m i.n
 ·have HR:Hid (doCond taken ab i m=.error (12,(m.now:Int))):=by show _=_;unfold doCond Qc1;rw[hmay];rfl
  clear h;go_enter func202,ntmps202;go_wp2_with fail;refine(QeD i.n B xb sb M m ab _ (HM.o.box _)).mono ?_;rintro e w1 ⟨rfl,ae⟩;rw[hmay];have HB1:=Qab (((Below.refl w.heap.size w).alloc (Nat.le_refl _) _).trans (ae.mono (by simp)));have ar:=(HM.o.below HB1.o).now;clear ae;go_wp2_with (go_at_call 168;refine(QcE _ _ _ ar).mono ?_;rintro e w' ⟨⟨bb,hz,rfl,ag⟩,hb⟩);exact⟨rfl,by rw[HR.o];exact QaQ.from (QaQ.err rfl (Fr.of_below hb) ⟨bb,hz,rfl,ag⟩) (Fr.of_below HB1.o)⟩
 have ak:=Qrx hmay;have aB:0<=i.n:=by unfold QiL at hmay;simp at hmay;exact hmay.1
 have hcl:ab<=400:=by obtain⟨kv,aq⟩:=h;exact aq.cl
 clear h;have aw:Hid (m.stack=[]->doCond taken ab i m=.error (12,(m.now:Int))):=fun h0=>by unfold doCond Qc1;rw[hmay,if_pos rfl,if_pos h0]
 have HR:Hid (m.stack≠[]->doCond taken ab i m=.ok (if topL m=taken then goL (Qrs m) (m.next+i.n.toNat)else Qrs m)):=fun h0=>by unfold doCond;rw[hmay,if_pos rfl,if_neg h0]
 go_enter func202,ntmps202;go_wp2_with fail;refine(QeD i.n B xb sb M m ab _ (HM.o.box _)).mono ?_;rintro e w1 ⟨rfl,ae⟩;rw[hmay];have HB1:=Qab (((Below.refl w.heap.size w).alloc (Nat.le_refl _) _).trans (ae.mono (by simp)));have p1:w1.cell? ⟨p,0,none⟩=some (.bool taken):=Qaa (Qal HP.o HB1.o) 0;have af:=Qal (Qat w (.cells #[.int .i64 i.op,.int .i64 i.n,.int .i64 i.tag,.bool i.oct,.slice aa i.a.length ac,.slice ba i.b.length bc,.int .i64 i.at_] 63)) ae;have az:=Qab af;have ap:=Qab (Qu9 B xb sb M m ab w1.drew ((HM.o.below HB1.o).below (Qar (Below.refl _ _))));obtain⟨d,hd⟩:∃ d:Nat,i.n=(d:Int):=⟨i.n.toNat,by omega⟩;rw[hd]at HR ak;rw[Int.toNat_natCast]at HR ak
 have ah:Hid (∀ w2:World,Fr (PMc B xb) w1.drew w2->w2.cell? ⟨p,0,none⟩=some (.bool taken)/\w2.cell? ⟨w.heap.size,1,none⟩=some (.int .i64 (d:Int))):=fun w2 hf=>by
  have h1:w2.heap[p]?=some (.cells #[.bool taken] 4):=hf.block p _ (Qal HP.o (Qar HB1.o)) (fun hh=>by
   have:=hh.2;unfold kO stO at this;simp at this
   omega)
  have h2:=hf.block w.heap.size _ (show w1.drew.heap[w.heap.size]?=_ from az.o) (PMc.not (by decide) (by decide) (by decide) (by decide));refine⟨Qaa h1 0,?_⟩;rw[Qaa h2,<-hd];rfl
 clear ae af hmay aB hd;obtain⟨tp,ax⟩:∃ tp,topL m=tp:=⟨_,rfl⟩;rw[ax]at HR ap;clear ax;go_wp2_with (go_at_call 168;refine(QbS _ _).mono ?_;rintro e w' ⟨rfl,ay⟩;rw[ay];clear ay);have hsum:IntKind.i64.wrap ((m.next:Int)+(d:Int))=(m.next:Int)+(d:Int):=by rw[IntKind.wrap_i64];omega
 have hne:¬ w.heap.size=xb:=by omega
 have hne':¬ xb=w.heap.size:=by omega
 by_cases hte:tp=taken
 ·subst hte;have ao:Hid (m.stack≠[]->doCond tp ab i m=.ok (goL (Qrs m) (m.next+d))):=fun h0=>by rw[HR.o h0,if_pos rfl]
  have aA:(tp==tp)=true:=by cases tp<;>rfl
  go_region_with (first|(go_at_call 200;refine ap.o.mono ?_;rintro e w2 (⟨h0,⟨bb,hz,rfl,ag⟩,hb⟩ | ⟨h0,rfl,hm2,hf2⟩);exact⟨rfl,by rw[aw.o h0];exact QaQ.from (QaQ.err rfl (Fr.of_below hb) ⟨bb,hz,rfl,ag⟩) (Fr.of_below (Qar HB1.o))⟩;obtain⟨kv,ad⟩:=hm2;have p2:=(ah.o w2 hf2).1;have q2:=(ah.o w2 hf2).2;have c3:w2.cell? ⟨xb,3,none⟩=some (.int .i64 (m.next:Int)):=Qaa ad.blk 3;have f3:=Qao ad.blk;have aj:=Qab ad;have ai:=Qab hf2;have H0:=Qab h0;clear ad hf2 h0;skip))
  all_goals go_wp2_with fail
  all_goals go_region
  all_goals go_wp2
  all_goals go_end0
  all_goals rw[ao.o H0.o]
  all_goals have HG:=aj.o.go (m.next+d) ak
  all_goals have au:=(aj.o.below (Qar (Below.refl _ _))).go (m.next+d) ak
  all_goals first
   |exact QaQ.from (QaQ.ok rfl (ai.o.trans HG.2.drew) (HG.1.below (Qar (Below.refl _ _)))) (Fr.of_below (Qar HB1.o))
   |exact QaQ.from (QaQ.ok rfl ((ai.o.drew).trans au.2) au.1) (Fr.of_below (Qar HB1.o))
 ·have ao:Hid (m.stack≠[]->doCond taken ab i m=.ok (Qrs m)):=fun h0=>by rw[HR.o h0,if_neg hte]
  have aA:(tp==taken)=false:=by cases tp<;>cases taken<;>first|rfl|exact absurd rfl hte
  clear hte;go_region_with (first|(go_at_call 200;refine ap.o.mono ?_;rintro e w2 (⟨h0,⟨bb,hz,rfl,ag⟩,hb⟩ | ⟨h0,rfl,hm2,hf2⟩);exact⟨rfl,by rw[aw.o h0];exact QaQ.from (QaQ.err rfl (Fr.of_below hb) ⟨bb,hz,rfl,ag⟩) (Fr.of_below (Qar HB1.o))⟩;obtain⟨kv,ad⟩:=hm2;have p2:=(ah.o w2 hf2).1;have q2:=(ah.o w2 hf2).2;have c3:w2.cell? ⟨xb,3,none⟩=some (.int .i64 (m.next:Int)):=Qaa ad.blk 3;have f3:=Qao ad.blk;have aj:=Qab ad;have ai:=Qab hf2;have H0:=Qab h0;clear ad hf2 h0;skip))
  all_goals go_wp2
  all_goals go_end0
  all_goals rw[ao.o H0.o]
  all_goals exact QaQ.from (QaQ.ok rfl ai.o ⟨_,aj.o⟩) (Fr.of_below (Qar HB1.o))
end
end Go.Proofs.YtgnkjijocdmniaaGreatDoor
