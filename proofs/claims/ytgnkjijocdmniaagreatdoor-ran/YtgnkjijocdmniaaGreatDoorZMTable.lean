import Derived.Laws.EntriesVeiled
import Derived.Test.YtgnkjijocdmniaaGreatDoorZLTold
namespace Go.Proofs.YtgnkjijocdmniaaGreatDoor
set_option linter.all false
set_option maxRecDepth 100000
set_option maxHeartbeats 4000000
open Go.Proofs.Tryz
open Go.RowKit
variable{A B b c g k q xb:Nat}{F av bv d e j v x y:Value}{M:Msg}{W w w':World}{a:Array MapEntry}{f:Int->Option Value}{i:Ins}{m:MS}{o:Obj}{tag:Int}{u:Bool}
section
attribute [local go_sem ↓] Zt Zu
def JF(es:Array MapEntry)(f:Int->Option Value):Prop:=
 (∀e∈es.toList,∃x,e.key=Qa x/\f x=some e.val)/\∀x v,f x=some v->∃e∈es.toList,e.key=Qa x
theorem JF.keys(h:JF a f):∀e∈a.toList,MapKept.IsKey (.int .i64) e.key:=fun e he=>by
 obtain⟨x,b,_⟩:=h.1 e he;rw[b];rfl
theorem JF.empty:JF #[] (fun _=>none):=⟨fun e he=>by simp at he,fun x v h=>by cases h⟩
theorem JF.push{b:Array MapEntry}{f g:Int->Option Value}(h:JF b f){x:Int}{v:Value}{c:Nat}(l:f x=none)(m:g x=some v)(d:∀z,z≠x->g z=f z):JF (b.push ⟨.int .i64 x,v,c⟩) g:=by
 refine⟨fun e he=>?_,fun z u i=>?_⟩
 .simp only[Array.toList_push,Z6,List.mem_singleton]at he;rcases he with he|he
  .obtain⟨z,j,a⟩:=h.1 e he;have:z≠x:=fun e=>by rw[e,l]at a;cases a
   exact⟨z,j,by rw[d z this];exact a⟩
  .subst he;exact⟨x,rfl,m⟩
 .by_cases e:z=x
  .exact⟨⟨.int .i64 x,v,c⟩,Qh,by rw[e]⟩
  .rw[d z e]at i;obtain⟨y,n,k⟩:=h.2 z u i;exact⟨y,by simp[n],k⟩
theorem JF.congr{g:Int->Option Value}(h:JF a f)(e:∀x,f x=g x):JF a g:=by
 have:f=g:=funext e;rw[<-this];exact h
theorem C9{T K E:TypeId}(q:prog.underlying T=some (.map K E))(d:prog.underlying K=some (.int .i64)){m:Nat}{x:Int}(k:w.heap[m]?=some (.map a c))(g:JF a f)(r:f x=none) :
 (Instr.mapUpdate T (.map (some m)) (Qa x) v).run prog w=.ok () (Yu w m (.map (a.push ⟨.int .i64 x,v,c⟩) (c+1))):=by
 have i:MapKept.IsKey (.int .i64) (Qa x):=rfl;rcases MapKept.findNow_spec i a.toList 0 g.keys with⟨b,_⟩ | ⟨j,e,b,o,p⟩
 .simp[Instr.mapUpdate,UV q,Gz k,GA d i,GC d b,MapKept.run_setObj_map _ k,Result.andThen,Yu]
 .obtain⟨z,l,n⟩:=g.1 e (Uv o);rw[p]at l;have:x=z:=by simpa using l
  subst this;rw[r]at n;cases n
theorem QuY{T K E:TypeId}(l:prog.underlying T=some (.map K E))(a:prog.underlying K=some (.int .i64))(q:∀W,(zeroValue E).run prog W=.ok .nilFunc W){m:Nat}{b:Array MapEntry}(n:w.heap[m]?=some (.map b c))(i:JF b f)(x:Int) :
 (Instr.lookup T (.map (some m)) (Qa x) false).run prog w=.ok ((f x).getD .nilFunc) w:=by
 have k:MapKept.IsKey (.int .i64) (Qa x):=rfl;rcases MapKept.findNow_spec k b.toList 0 i.keys with⟨d,g⟩ | ⟨j,e,d,g,p⟩
 .have s:f x=none:=by
   cases hfx:f x with
   |none=>rfl
   |some v=>
    obtain⟨e,he,r⟩:=i.2 x v hfx;exact absurd r (g e he)
  rw[s];simp[Instr.lookup,UV l,Gz n,GA a k,GC a d,q,Result.andThen]
 .obtain⟨z,o,t⟩:=i.1 e (Uv g);rw[p]at o;have:x=z:=by simpa using o
  subst this;rw[t];simp[Instr.lookup,UV l,Gz n,GA a k,GC a d,Result.andThen]
def Ae(w:World)(B:Nat)(lk:Value)(hf:Nat)(v:Value):Prop:=
 ∃p q,v=QA 264 #[] #[Qc p,Qc q]/\B<=p/\B<=q/\w.heap[q]?=some (Qe #[lk] 148)/\w.heap[p]?=some (Qe #[.func (.func hf) #[] #[]] 335)
theorem Ae.keep{a:Nat}(h:Ae w B e a v)(b:∀k cs ty,B<=k->w.heap[k]?=some (Qe cs ty)->w'.heap[k]?=some (Qe cs ty)):Ae w' B e a v:=by
 obtain⟨p,q,i,c,d,f,g⟩:=h;exact⟨p,q,i,c,d,b q _ _ d f,b p _ _ c g⟩
def KW(b:Nat):Value:=QA 245 #[] #[Qc b]
def fB(b:Nat)(L:Nat->Bool)(u11 u13:Value)(k:Int):Option Value:=
 if k=1 then(if L 3 then some u11 else none)else if k=2 then(if L 6 then some u13 else none)else if k=3 then(if L 8 then some (KW b)else none)else none
structure JB (lk:Value) (b:Nat) (W:World) (L:Nat->Bool) (u6 u9 u11 u13 u15:Value) (w:World):Prop where
 bl:Qo W w
 c3:L 3=true->L 2=true
 c6:L 6=true->L 5=true
 c30:L 3=true->L 0=true
 c60:L 6=true->L 0=true
 c80:L 8=true->L 0=true
 a2:L 2=true->Ae w W.heap.size lk 243 u11
 a5:L 5=true->Ae w W.heap.size lk 244 u13
 mp:L 0=true->∃m es c,u9=.map (some m)∧W.heap.size<=m∧w.heap[m]?=some (.map es c)∧JF es (fB b L u11 u13)
 m9:L 9=true->u15=u9∧L 0=true∧L 3=true∧L 6=true∧L 8=true∧L 2=true∧L 5=true
 m10:L 10=true->u6=u15∧L 9=true
theorem CT{m:Nat}(h:Below B W w)(a:B<=m):Below B W (Yu w m o):=
 ⟨h.os,h.tape,h.output,by rw[Hf];exact h.size,fun k hk=>by rw[Vu I];exact h.block k hk⟩
theorem AS{a b:Bool}(h:a=true->b=true)(c:b=false):a=false:=by
 cases a with
 |false=>rfl
 |true=>rw[h rfl]at c;cases c
section
variable {lk:Value} {b:Nat} {W:World} {L:Nat->Bool} {u6 u9 u11 u13 u15:Value} {w:World}
theorem AY(i:Nat)(h:i≠3/\i≠6/\i≠8)(k:Int):fB b (up L i) u11 u13 k=fB b L u11 u13 k:=by
 unfold fB;rw[QK L (Ne.symm h.1),QK L (Ne.symm h.2.1),QK L (Ne.symm h.2.2)]
theorem JB.s0(J:JB lk b W L u6 u9 u11 u13 u15 w)(h0:L 0=false):JB lk b W (up L 0) u6 (.map (some w.heap.size)) u11 u13 u15 (w.alloc (Obj.map #[] 0)):=by
 have d:∀k a c,W.heap.size<=k->w.heap[k]?=some (Qe a c)->(w.alloc (Obj.map #[] 0)).heap[k]?=some (Qe a c):=fun k a c _ h=>QJ h
 have e:=AS J.c30 h0;have f:=AS J.c60 h0;have g:=AS J.c80 h0;have hz:=J.bl.size
 exact ⟨J.bl.alloc hz _,
  fun h=>QD (J.c3 (by rwa [QK L Qb]at h)),
  fun h=>QD (J.c6 (by rwa [QK L Qb]at h)),
  fun h=>absurd (by rwa [QK L Qb]at h:L 3=true) (by rw[e];decide),
  fun h=>absurd (by rwa [QK L Qb]at h:L 6=true) (by rw[f];decide),
  fun h=>absurd (by rwa [QK L Qb]at h:L 8=true) (by rw[g];decide),
  fun h=>(J.a2 (by rwa [QK L Qb]at h)).keep d,
  fun h=>(J.a5 (by rwa [QK L Qb]at h)).keep d,
  fun _=>⟨w.heap.size,#[],0,rfl,hz,Q0,JF.empty.congr (fun k=>by rw[AY 0 Qb];unfold fB;simp only[e,f,g];simp)⟩,
  fun h=>absurd (J.m9 (by rwa [QK L Qb]at h)).2.1 (by rw[h0];decide),
  fun h=>absurd (J.m9 (J.m10 (by rwa [QK L Qb] at h)).2).2.1 (by rw [h0];decide)⟩
theorem JB.s2(J:JB lk b W L u6 u9 u11 u13 u15 w)(o:L 2=false):JB lk b W (up L 2) u6 u9 (QA 264 #[] #[(Qc (w.heap.size+1)),Qc w.heap.size]) u13 u15 ((w.alloc (Qe #[lk] 148)).alloc (Qe #[QA 243 #[] #[]] 335)):=by
 have q:∀k d g,W.heap.size<=k->w.heap[k]?=some (Qe d g)->((w.alloc (Qe #[lk] 148)).alloc (Qe #[QA 243 #[] #[]] 335)).heap[k]?=some (Qe d g):=fun k d g _ h=>QJ (QJ h)
 have r:∀(m:Nat) (a:Array MapEntry) (c:Nat),w.heap[m]?=some (Obj.map a c)->((w.alloc (Qe #[lk] 148)).alloc (Qe #[QA 243 #[] #[]] 335)).heap[m]?=some (Obj.map a c):=fun m a c h=>QJ (QJ h)
 have i:=AS J.c3 o;have hz:=J.bl.size
 have p:∀v k,fB b (up L 2) v u13 k=fB b L u11 u13 k:=fun v k=>by
  rw[AY 2 Qb];unfold fB;simp only[i,J2,if_false]
 exact ⟨(J.bl.alloc hz _).alloc (by simp;omega) _,
  fun h=>absurd (by rwa [QK L Qb]at h:L 3=true) (by rw[i];decide),
  fun h=>QD (J.c6 (by rwa [QK L Qb]at h)),
  fun h=>QD (J.c30 (by rwa [QK L Qb]at h)),
  fun h=>QD (J.c60 (by rwa [QK L Qb]at h)),
  fun h=>QD (J.c80 (by rwa [QK L Qb]at h)),
  fun _=>⟨w.heap.size+1,w.heap.size,rfl,I,hz,QJ (Q0),ZB Qh⟩,
  fun h=>(J.a5 (by rwa [QK L Qb]at h)).keep q,
  fun h=>by obtain⟨m,a,c,e1,e2,e,f⟩:=J.mp (by rwa [QK L Qb]at h);exact⟨m,a,c,e1,e2,r m a c e,f.congr (fun k=>(p _ k).symm)⟩,
  fun h=>by obtain⟨e1,e2,e,f,j,l,n⟩:=J.m9 (by rwa [QK L Qb]at h);exact⟨e1,QD e2,QD e,QD f,QD j,QD l,QD n⟩,
  fun h=>by obtain ⟨e1,e2⟩:=J.m10 (by rwa [QK L Qb] at h);exact ⟨e1,QD e2⟩⟩
theorem JB.s5(J:JB lk b W L u6 u9 u11 u13 u15 w)(o:L 5=false):JB lk b W (up L 5) u6 u9 u11 (QA 264 #[] #[(Qc (w.heap.size+1)),Qc w.heap.size]) u15 ((w.alloc (Qe #[lk] 148)).alloc (Qe #[QA 244 #[] #[]] 335)):=by
 have q:∀k d g,W.heap.size<=k->w.heap[k]?=some (Qe d g)->((w.alloc (Qe #[lk] 148)).alloc (Qe #[QA 244 #[] #[]] 335)).heap[k]?=some (Qe d g):=fun k d g _ h=>QJ (QJ h)
 have r:∀(m:Nat) (a:Array MapEntry) (c:Nat),w.heap[m]?=some (Obj.map a c)->((w.alloc (Qe #[lk] 148)).alloc (Qe #[QA 244 #[] #[]] 335)).heap[m]?=some (Obj.map a c):=fun m a c h=>QJ (QJ h)
 have i:=AS J.c6 o;have hz:=J.bl.size
 have p:∀v k,fB b (up L 5) u11 v k=fB b L u11 u13 k:=fun v k=>by
  rw[AY 5 Qb];unfold fB;simp only[i,J2,if_false]
 exact ⟨(J.bl.alloc hz _).alloc (by simp;omega) _,
  fun h=>QD (J.c3 (by rwa [QK L Qb]at h)),
  fun h=>absurd (by rwa [QK L Qb]at h:L 6=true) (by rw[i];decide),
  fun h=>QD (J.c30 (by rwa [QK L Qb]at h)),
  fun h=>QD (J.c60 (by rwa [QK L Qb]at h)),
  fun h=>QD (J.c80 (by rwa [QK L Qb]at h)),
  fun h=>(J.a2 (by rwa [QK L Qb]at h)).keep q,
  fun _=>⟨w.heap.size+1,w.heap.size,rfl,I,hz,QJ (Q0),ZB Qh⟩,
  fun h=>by obtain⟨m,a,c,e1,e2,e,f⟩:=J.mp (by rwa [QK L Qb]at h);exact⟨m,a,c,e1,e2,r m a c e,f.congr (fun k=>(p _ k).symm)⟩,
  fun h=>by obtain⟨e1,e2,e,f,j,l,n⟩:=J.m9 (by rwa [QK L Qb]at h);exact⟨e1,QD e2,QD e,QD f,QD j,QD l,QD n⟩,
  fun h=>by obtain ⟨e1,e2⟩:=J.m10 (by rwa [QK L Qb] at h);exact ⟨e1,QD e2⟩⟩
theorem JB.s3(J:JB lk b W L u6 u9 u11 u13 u15 w)(t:L 3=false)(g:L 0=true)(u:L 2=true):∃m es c,u9=.map (some m)/\w.heap[m]?=some (.map es c)/\JF es (fB b L u11 u13)/\fB b L u11 u13 1=none/\JB lk b W (up L 3) u6 u9 u11 u13 u15 (Yu w m (.map (es.push ⟨.int .i64 1,u11,c⟩) (c+1))):=by
 obtain⟨m,es,c,i,h4,d,j⟩:=J.mp g;have n:fB b L u11 u13 1=none:=by unfold fB;simp[t]
 have x:fB b (up L 3) u11 u13 1=some u11:=by unfold fB;simp[Yi]
 have v:∀z,z≠1->fB b (up L 3) u11 u13 z=fB b L u11 u13 z:=fun z y=>by
  unfold fB;simp only[Qg y,QK L (show(3:Nat)≠99 by decide),QK L (show(6:Nat)≠3 by decide),QK L (show(8:Nat)≠3 by decide)]
 have l:∀k a f,W.heap.size<=k->w.heap[k]?=some (Qe a f)->(Yu w m (.map (es.push ⟨.int .i64 1,u11,c⟩) (c+1))).heap[k]?=some (Qe a f):=fun k a f _ h=>by
  rw[Vu (fun e=>by rw[e,d]at h;cases h)];exact h
 refine⟨m,es,c,i,d,j,n,?_⟩
 exact ⟨CT J.bl h4,
  fun _=>QD u,
  fun h=>QD (J.c6 (by rwa [QK L Qb]at h)),
  fun _=>QD g,
  fun h=>QD (J.c60 (by rwa [QK L Qb]at h)),
  fun h=>QD (J.c80 (by rwa [QK L Qb]at h)),
  fun h=>(J.a2 (by rwa [QK L Qb]at h)).keep l,
  fun h=>(J.a5 (by rwa [QK L Qb]at h)).keep l,
  fun _=>⟨m,_,_,i,h4,Ay d,j.push n x v⟩,
  fun h=>by obtain⟨e1,e2,o,p,q,r,s⟩:=J.m9 (by rwa [QK L Qb]at h);exact⟨e1,QD e2,QD o,QD p,QD q,QD r,QD s⟩,
  fun h=>by obtain ⟨e1,e2⟩:=J.m10 (by rwa [QK L Qb] at h);exact ⟨e1,QD e2⟩⟩
theorem JB.s6(J:JB lk b W L u6 u9 u11 u13 u15 w)(t:L 6=false)(g:L 0=true)(u:L 5=true):∃m es c,u9=.map (some m)/\w.heap[m]?=some (.map es c)/\JF es (fB b L u11 u13)/\fB b L u11 u13 2=none/\JB lk b W (up L 6) u6 u9 u11 u13 u15 (Yu w m (.map (es.push ⟨.int .i64 2,u13,c⟩) (c+1))):=by
 obtain⟨m,es,c,i,h4,d,j⟩:=J.mp g;have n:fB b L u11 u13 2=none:=by unfold fB;simp[t]
 have x:fB b (up L 6) u11 u13 2=some u13:=by unfold fB;simp[Yi]
 have v:∀z,z≠2->fB b (up L 6) u11 u13 z=fB b L u11 u13 z:=fun z y=>by
  unfold fB;simp only[Qg y,QK L (show(3:Nat)≠6 by decide),QK L (show(6:Nat)≠99 by decide),QK L (show(8:Nat)≠6 by decide)]
 have l:∀k a f,W.heap.size<=k->w.heap[k]?=some (Qe a f)->(Yu w m (.map (es.push ⟨.int .i64 2,u13,c⟩) (c+1))).heap[k]?=some (Qe a f):=fun k a f _ h=>by
  rw[Vu (fun e=>by rw[e,d]at h;cases h)];exact h
 refine⟨m,es,c,i,d,j,n,?_⟩
 exact ⟨CT J.bl h4,
  fun h=>QD (J.c3 (by rwa [QK L Qb]at h)),
  fun _=>QD u,
  fun h=>QD (J.c30 (by rwa [QK L Qb]at h)),
  fun _=>QD g,
  fun h=>QD (J.c80 (by rwa [QK L Qb]at h)),
  fun h=>(J.a2 (by rwa [QK L Qb]at h)).keep l,
  fun h=>(J.a5 (by rwa [QK L Qb]at h)).keep l,
  fun _=>⟨m,_,_,i,h4,Ay d,j.push n x v⟩,
  fun h=>by obtain⟨e1,e2,o,p,q,r,s⟩:=J.m9 (by rwa [QK L Qb]at h);exact⟨e1,QD e2,QD o,QD p,QD q,QD r,QD s⟩,
  fun h=>by obtain ⟨e1,e2⟩:=J.m10 (by rwa [QK L Qb] at h);exact ⟨e1,QD e2⟩⟩
theorem JB.s8(J:JB lk b W L u6 u9 u11 u13 u15 w)(t:L 8=false)(g:L 0=true) :∃m es c,u9=.map (some m)/\w.heap[m]?=some (.map es c)/\JF es (fB b L u11 u13)/\fB b L u11 u13 3=none/\JB lk b W (up L 8) u6 u9 u11 u13 u15 (Yu w m (.map (es.push ⟨.int .i64 3,(KW b),c⟩) (c+1))):=by
 obtain⟨m,es,c,i,h4,d,j⟩:=J.mp g;have n:fB b L u11 u13 3=none:=by unfold fB;simp[t]
 have v:fB b (up L 8) u11 u13 3=some (KW b):=by unfold fB;simp[Yi]
 have u:∀z,z≠3->fB b (up L 8) u11 u13 z=fB b L u11 u13 z:=fun z x=>by
  unfold fB;simp only[Qg x,QK L (show(3:Nat)≠8 by decide),QK L (show(6:Nat)≠8 by decide),QK L (show(8:Nat)≠99 by decide)]
 have l:∀k a f,W.heap.size<=k->w.heap[k]?=some (Qe a f)->(Yu w m (.map (es.push ⟨.int .i64 3,(KW b),c⟩) (c+1))).heap[k]?=some (Qe a f):=fun k a f _ h=>by
  rw[Vu (fun e=>by rw[e,d]at h;cases h)];exact h
 refine⟨m,es,c,i,d,j,n,?_⟩
 exact ⟨CT J.bl h4,
  fun h=>QD (J.c3 (by rwa [QK L Qb]at h)),
  fun h=>QD (J.c6 (by rwa [QK L Qb]at h)),
  fun h=>QD (J.c30 (by rwa [QK L Qb]at h)),
  fun h=>QD (J.c60 (by rwa [QK L Qb]at h)),
  fun _=>QD g,
  fun h=>(J.a2 (by rwa [QK L Qb]at h)).keep l,
  fun h=>(J.a5 (by rwa [QK L Qb]at h)).keep l,
  fun _=>⟨m,_,_,i,h4,Ay d,j.push n v u⟩,
  fun h=>by obtain⟨e1,e2,o,p,q,r,s⟩:=J.m9 (by rwa [QK L Qb]at h);exact⟨e1,QD e2,QD o,QD p,QD q,QD r,QD s⟩,
  fun h=>by obtain ⟨e1,e2⟩:=J.m10 (by rwa [QK L Qb] at h);exact ⟨e1,QD e2⟩⟩
theorem JB.s9(J:JB lk b W L u6 u9 u11 u13 u15 w)(h0:L 9=false)(o:L 0=true)(q:L 3=true)(s:L 6=true)(t:L 8=true)(p:L 2=true)(r:L 5=true):JB lk b W (up L 9) u6 u9 u11 u13 u9 w:=by
 have f:∀k d e,W.heap.size<=k->w.heap[k]?=some (Qe d e)->w.heap[k]?=some (Qe d e):=fun k d e _ h=>h
 have n:∀(m:Nat) (a:Array MapEntry) (c:Nat),w.heap[m]?=some (Obj.map a c)->w.heap[m]?=some (Obj.map a c):=fun m a c h=>h
 exact ⟨J.bl,
  fun h=>QD (J.c3 (by rwa [QK L Qb]at h)),
  fun h=>QD (J.c6 (by rwa [QK L Qb]at h)),
  fun h=>QD (J.c30 (by rwa [QK L Qb]at h)),
  fun h=>QD (J.c60 (by rwa [QK L Qb]at h)),
  fun h=>QD (J.c80 (by rwa [QK L Qb]at h)),
  fun h=>(J.a2 (by rwa [QK L Qb]at h)).keep f,
  fun h=>(J.a5 (by rwa [QK L Qb]at h)).keep f,
  fun h=>by obtain⟨m,a,c,g,i,j,l⟩:=J.mp (by rwa [QK L Qb]at h);exact⟨m,a,c,g,i,n m a c j,l.congr (fun k=>(AY 9 Qb k).symm)⟩,
  fun _=>⟨rfl,QD o,QD q,QD s,QD t,QD p,QD r⟩,
  fun h=>absurd (J.m10 (by rwa [QK L Qb] at h)).2 (by rw [h0];decide)⟩
theorem JB.s10(J:JB lk b W L u6 u9 u11 u13 u15 w)(r:L 10=false)(i9:L 9=true):JB lk b W (up L 10) u15 u9 u11 u13 u15 w:=by
 have l:∀k d j,W.heap.size<=k->w.heap[k]?=some (Qe d j)->w.heap[k]?=some (Qe d j):=fun k d j _ h=>h
 have q:∀(m:Nat) (a:Array MapEntry) (c:Nat),w.heap[m]?=some (Obj.map a c)->w.heap[m]?=some (Obj.map a c):=fun m a c h=>h
 exact ⟨J.bl,
  fun h=>QD (J.c3 (by rwa [QK L Qb]at h)),
  fun h=>QD (J.c6 (by rwa [QK L Qb]at h)),
  fun h=>QD (J.c30 (by rwa [QK L Qb]at h)),
  fun h=>QD (J.c60 (by rwa [QK L Qb]at h)),
  fun h=>QD (J.c80 (by rwa [QK L Qb]at h)),
  fun h=>(J.a2 (by rwa [QK L Qb]at h)).keep l,
  fun h=>(J.a5 (by rwa [QK L Qb]at h)).keep l,
  fun h=>by obtain⟨m,a,c,e,f,g,i⟩:=J.mp (by rwa [QK L Qb]at h);exact⟨m,a,c,e,f,q m a c g,i.congr (fun k=>(AY 10 Qb k).symm)⟩,
  fun h=>by obtain⟨e,f,g,i,n,o,p⟩:=J.m9 (by rwa [QK L Qb]at h);exact⟨e,QD f,QD g,QD i,QD n,QD o,QD p⟩,
  fun _=>⟨rfl,QD i9⟩⟩
end
theorem Tryz.zeroWay:∀W,(zeroValue 321).run prog W=.ok .nilFunc W:=fun W=>Qm
theorem M_{a:FuncId}:Calls prog 242 #[(.func (.func a) #[] #[]),.func (.func b) #[] #[]] w fun e w'=>e=.returned (QA 264 #[] #[(Qc (w.heap.size+1)),Qc w.heap.size])/\w'=(w.alloc (Qe #[(.func (.func a) #[] #[])] 148)).alloc (Qe #[.func (.func b) #[] #[]] 335):=by
 go_enter func242,ntmps242;go_wp2;go_ret;exact⟨rfl,rfl⟩
def UN(u:Bool)(fl:FuncId)(tag:Int)(b:Nat)(u6 u9 u11 u13 u15:Value):Act:=
 { tmps:=#[Qa tag,.bool u,undef,undef,.nilFunc,Qc b,u6,.bool u,(.func (.func fl) #[] #[]),u9,(.func (.func fl) #[] #[]),u11,(.func (.func fl) #[] #[]),u13,KW b,u15,undef,undef,undef],defers:=[] }
def UP(u:Bool)(fl:FuncId)(tag:Int)(b:Nat)(W:World)(l:Array Bool)(a:Act)(w:World):Prop:=
 l.size=11/\(∀i∈[1,4,7],l.getD i false=true)/\∃u6 u9 u11 u13 u15,a=UN u fl tag b u6 u9 u11 u13 u15/\JB (.func (.func fl) #[] #[]) b W (fun j=>l.getD j false) u6 u9 u11 u13 u15 w
theorem UP.next{fl:FuncId}{l:Array Bool}{i:Nat}{u6 u9 u11 u13 u15:Value}(hl:l.size=11)(ht:∀i∈[1,4,7],l.getD i false=true)(hi:i<11)(J:JB (.func (.func fl) #[] #[]) b W (up (fun j=>l.getD j false) i) u6 u9 u11 u13 u15 w):UP u fl tag b W (l.setIfInBounds i true) (UN u fl tag b u6 u9 u11 u13 u15) w:=
 ⟨by simp[hl],fun k hk=>getD_set_true (ht k hk),u6,u9,u11,u13,u15,rfl,by rw[EJ I];exact J⟩
theorem OE{t:FuncId}(M:Ng u=.func (.func t) #[] #[]):Calls prog 204 #[Qa tag,.bool u] w fun e w'=>(∃wv,e=.returned wv/\((1<=tag/\tag<=3/\WayV w' tag u wv)\/(¬(1<=tag/\tag<=3)/\wv=.nilFunc)))/\Qo w w':=by
 have ai:∀(w:World),(Instr.makeMap 349 none).run prog w=.ok (.map (some w.heap.size)) (w.alloc (Obj.map #[] 0)):=fun _=>rfl
 go_enter func204,ntmps204;go_wp2_with (go_at_call 241;refine(RK u).mono ?_;rw[M];rintro e w' ⟨rfl,aj⟩;subst w');obtain⟨W,L⟩:=Q3 (w.alloc (Qe #[(.func (.func t) #[] #[])] 148));have P:W.heap[w.heap.size]?=some (Qe #[(.func (.func t) #[] #[])] 148):=by rw[L];exact Q0
 have X:Qo w W:=by rw[L];exact QH _
 rw[<-L];clear L;refine Uy (S:=fun w'=>w'.cell? (Ql w.heap.size 0)=some (.func (.func t) #[] #[])) Qm ?_;have K:=Qj (w:={ W with drawn:=W.drawn+1 }) P 0;refine QS 1 10 ((.func (.func t) #[] #[])) rfl K (fun w' E=>by(try dsimp only at E);(try unfold KW);go_simp) ?_;simp only[pt,sz,sc];refine QS 4 12 ((.func (.func t) #[] #[])) rfl K (fun w' E=>by(try dsimp only at E);(try unfold KW);go_simp) ?_;simp only[pt,sz,sc];refine QS 7 14 ((KW w.heap.size)) rfl K (fun w' E=>by(try dsimp only at E);(try unfold KW);go_simp) ?_;simp only[pt,sz,sc];refine BC (UP u t tag w.heap.size W) (fun l a w' h=>by rw[h.1];rfl) (fun l a w' h=>?hSS) (fun l a w' i h r=>?hstep) (fun l a w' h hr=>?hdone) _ _ _ _ Qb ?hinit
 case hSS=>
  obtain⟨_,_,_,_,_,_,_,_,J⟩:=h;exact Qj (Ze P J.bl) 0
 case hinit=>
  refine⟨rfl,Qb,undef,undef,undef,undef,undef,rfl,?_⟩;exact⟨Z9 (QO _ _),ZA,ZA,ZA,ZA,ZA,ZA,ZA,ZA,ZA,ZA⟩
 case hdone=>
  obtain⟨k,g,u6,u9,u11,u13,u15,rfl,J⟩:=h;have Q:=CD k Qm hr;obtain⟨ae,_⟩:=J.m10 (Q 10 Qb);obtain⟨e9,y,R,U,V,z,T⟩:=J.m9 (Q 9 Qb);obtain⟨m,N,c,e1,ah,Z,v⟩:=J.mp y;subst ae e9 e1;have n:=QuY underlying349 K8 Tryz.zeroWay Z v tag;have H:=O (X.trans (J.bl.mono X.size));have ab:=O (J.a2 z);have ac:=O (J.a5 T);have ad:Hid (w'.cell? (Ql w.heap.size 0)=some (.func (.func t) #[] #[])):=Qj (Ze P J.bl) 0
  have Y:fB w.heap.size (fun j=>l.getD j false) u11 u13 tag=if tag=1 then some u11 else if tag=2 then some u13 else if tag=3 then some (KW w.heap.size)else none:=by
   unfold fB;rw[Qi R,Qi U,Qi V]
  rw[Y]at n;clear J Q hr g k K Z v y R U V z T Y;unfold UN;by_cases t1:tag=1
  .subst t1;rw[Qi rfl]at n;obtain⟨p,q,rfl,hp,hq,B,C⟩:=ab.o;have x:Hid (WayV w' 1 u (QA 264 #[] #[Qc p,Qc q])):=Qr ⟨p,q,rfl,by rw[M];exact Qj B 0,Qt ⟨rfl,Qj C 0⟩⟩;clear B C;simp only[Vp]at n;go_wp2;go_ret;exact⟨⟨_,rfl,Qt ⟨Qb,Qb,x⟩⟩,H⟩
  by_cases t2:tag=2
  .subst t2;rw[Qg t1,Qi rfl]at n;obtain⟨p,q,rfl,hp,hq,B,C⟩:=ac.o;have x:Hid (WayV w' 2 u (QA 264 #[] #[Qc p,Qc q])):=Qr ⟨p,q,rfl,by rw[M];exact Qj B 0,Qr ⟨rfl,Qj C 0⟩⟩;clear B C;simp only[Vp]at n;go_wp2;go_ret;exact⟨⟨_,rfl,Qt ⟨Qb,Qb,x⟩⟩,H⟩
  by_cases t3:tag=3
  .subst t3;rw[Qg t1,Qg t2,Qi rfl]at n;have x:Hid (WayV w' 3 u (KW w.heap.size)):=Qt ⟨rfl,w.heap.size,rfl,by rw[M];exact ad⟩;simp only[Vp]at n;unfold KW at n x ⊢;go_wp2;go_ret;exact⟨⟨_,rfl,Qt ⟨Qb,Qb,x⟩⟩,H⟩
  .rw[Qg t1,Qg t2,Qg t3]at n;simp only[Option.getD_none]at n;have af:¬(1<=tag/\tag<=3):=I
   clear t1 t2 t3;go_wp2;go_ret;exact⟨⟨_,rfl,Qr ⟨af,rfl⟩⟩,H⟩
 case hstep=>
  obtain⟨k,g,u6,u9,u11,u13,u15,rfl,J⟩:=h;obtain⟨y,o,f,b⟩:=mem_ready.1 r;have ag:i<11:=(N'.1 f).1
  have d:l.getD i false=false:=by
   have:i<l.size:=I
   simp[this]at y ⊢;exact y
  clear y;rcases(by omega:i=0\/i=1\/i=2\/i=3\/i=4\/i=5\/i=6\/i=7\/i=8\/i=9\/i=10)with hh|hh|hh|hh|hh|hh|hh|hh|hh|hh|hh<;>subst hh
  .clear f b r;refine Zp rfl (by rfl) ?_;unfold UN;go_simp;exact UP.next k g Qb (J.s0 d)
  .rw[g 1 Qb]at d;cases d
  .clear f b r;refine Zp rfl (by rfl) ?_;unfold UN;go_simp;refine Qu (M_) ?_;exact UP.next k g Qb (J.s2 d)
  .have s:=ZK (show some _=some o from f);subst s;have D:=b { on:=0,ground:=.data } Qh rfl;have z:=b { on:=2,ground:=.data } Qh rfl;clear f b r;obtain⟨m,N,c,rfl,F,v,G,A⟩:=J.s3 d D z;have aa:(Instr.mapUpdate 349 (.map (some m)) (Qa 1) u11).run prog w'=.ok () _:=C9 underlying349 K8 F v G;refine Zp rfl (by rfl) ?_;unfold UN;go_simp;exact UP.next k g Qb A
  .rw[g 4 Qb]at d;cases d
  .clear f b r;refine Zp rfl (by rfl) ?_;unfold UN;go_simp;refine Qu (M_) ?_;exact UP.next k g Qb (J.s5 d)
  .have s:=ZK (show some _=some o from f);subst s;have D:=b { on:=0,ground:=.data } Qh rfl;have z:=b { on:=5,ground:=.data } Qh rfl;clear f b r;obtain⟨m,N,c,rfl,F,v,G,A⟩:=J.s6 d D z;have aa:(Instr.mapUpdate 349 (.map (some m)) (Qa 2) u13).run prog w'=.ok () _:=C9 underlying349 K8 F v G;refine Zp rfl (by rfl) ?_;unfold UN;go_simp;exact UP.next k g Qb A
  .rw[g 7 Qb]at d;cases d
  .have s:=ZK (show some _=some o from f);subst s;have D:=b { on:=0,ground:=.data } Qh rfl;clear f b r;obtain⟨m,N,c,rfl,F,v,G,A⟩:=J.s8 d D;have aa:(Instr.mapUpdate 349 (.map (some m)) (Qa 3) (KW w.heap.size)).run prog w'=.ok () _:=C9 underlying349 K8 F v G;refine Zp rfl (by rfl) ?_;unfold UN;go_simp;exact UP.next k g Qb A
  .have s:=ZK (show some _=some o from f);subst s;have i0:=b { on:=0,ground:=.data } Qh rfl;have i2:=b { on:=2,ground:=.data } Qh rfl;have i3:=b { on:=3,ground:=.data } Qh rfl;have i5:=b { on:=5,ground:=.data } Qh rfl;have i6:=b { on:=6,ground:=.data } Qh rfl;have i8:=b { on:=8,ground:=.data } Qh rfl;clear f b r;refine Zp rfl (by rfl) ?_;unfold UN;go_simp;exact UP.next k g Qb (J.s9 d i0 i3 i6 i8 i2 i5)
  .have s:=ZK (show some _=some o from f);subst s;have i9:=b { on:=9,ground:=.data } Qh rfl;clear f b r;refine Zp rfl (by rfl) ?_;unfold UN;go_simp;exact UP.next k g Qb (J.s10 d i9)
theorem MAt.box{sb:Nat}{count:Nat}(h:MAt w B xb sb M m count)(o:Obj):MAt (w.alloc o) B xb sb M m count:=h.below (QH _)
theorem MAt.now{w:World}{B xb b:Nat}{M:Msg}{m:MS}{a:Nat}(h:MAt w B xb b M m a):w.cell? (Ql xb 2)=some (Qa (m.now:Int)):=by
 obtain⟨c,h⟩:=h;exact Qj h.blk 2
theorem JW{P:Nat->Obj->Prop}:Fr P w (w.alloc o):=(Fr.refl _ w).alloc o
theorem QxK{j:Nat}(h:MAt w B xb j M m g)(t:Z_ w i x y):Calls prog 153 #[Qc xb,Zy i x y] w (QZ (G_ i m) B xb j M g w):=by
 have N:=O h;obtain⟨D,E,rfl⟩:=t.a.len;obtain⟨F,G,rfl⟩:=t.b.len;have A:=(h.box (Qe (D5 i (.slice D i.a.length E) (.slice F i.b.length G)) 63)).now;unfold D5 at A;have l:=JG i.n 0;have p:=JG i.n 1;clear h t;unfold Zy;by_cases h01:i.n=0\/i.n=1
 .have c:Hid (G_ i m=JM (decide (i.n=1)) m):=by show _=_;unfold G_;rw[Qi h01]
  rcases h01 with z|h1
  .rw[QU z]at l;rw[QB I]at p c;clear z;go_enter func153,ntmps153;go_wp2_with (go_at_call 168;refine Qv (Ua) ?_;rintro C d;rw[d];clear d);refine(NU false (N.o.box _)).mono ?_;intro e K h1;rcases h1.cases with⟨r,⟨J,u,rfl,s⟩ | ⟨f,u,k,v,rfl,q⟩⟩
   .have L:=O h1;clear s r h1;go_wp2;go_end0;rw[c.o];exact L.o.from (JW)
   .exact⟨rfl,by rw[c.o];exact QZ.from h1 (JW)⟩
  .rw[QU h1]at p c;rw[QB I]at l;clear h1;go_enter func153,ntmps153;go_wp2_with (go_at_call 168;refine Qv (Ua) ?_;rintro C d;rw[d];clear d);refine(NU true (N.o.box _)).mono ?_;intro e K h1;rcases h1.cases with⟨r,⟨J,u,rfl,s⟩ | ⟨f,u,k,v,rfl,q⟩⟩
   .have L:=O h1;clear s r h1;go_wp2;go_end0;rw[c.o];exact L.o.from (JW)
   .exact⟨rfl,by rw[c.o];exact QZ.from h1 (JW)⟩
 .have c:Hid (G_ i m=.error (12,(m.now:Int))):=by show _=_;unfold G_ XJ;rw[Qg h01]
  rw[QB I]at l;rw[QB I]at p;clear h01;go_enter func153,ntmps153;go_wp2_with (go_at_call 168;refine(Kk A).mono ?_;rintro e C ⟨⟨k,v,rfl,q⟩,H⟩);exact⟨rfl,by rw[c.o];exact QZ.from (QZ.err rfl (Fr.of_below H) ⟨k,v,rfl,q⟩) (JW)⟩
theorem QxR{n q:Value}(h:MAt w B xb g M m c)(k:Z_ w i n q):Calls prog 154 #[Qc xb,Zy i n q] w (QZ (Nf m) B xb g M c w):=by
 have J:=O h;obtain⟨C,D,rfl⟩:=k.a.len;obtain⟨E,F,rfl⟩:=k.b.len;clear h k;unfold Zy;by_cases h0:m.stack=[]
 .have j:Hid (Nf m=.error (12,(m.now:Int))):=by show _=_;unfold Nf XJ;rw[Qi h0]
  go_enter func154,ntmps154;go_wp2_with fail;refine(I1 (J.o.box _) h0).mono ?_;rintro e A ⟨⟨p,u,rfl,r⟩,v⟩;refine⟨rfl,?_⟩;rw[j.o];exact QZ.from (QZ.err rfl (Fr.of_below v) ⟨p,u,rfl,r⟩) (JW)
 .have j:Hid (Nf m=JM (!topL m) (KV m)):=by show _=_;unfold Nf;rw[Qg h0]
  go_enter func154,ntmps154;go_wp2_with fail;refine Qv (LG (J.o.box _) h0) ?_;rintro A ⟨t,s⟩;have L:=O t;have l:=O ((JW).trans s);clear t s;go_wp2_with fail;refine(NU (!topL m) L).mono ?_;intro e H d;rcases d.cases with⟨x,⟨G,z,rfl,y⟩ | ⟨f,z,p,u,rfl,r⟩⟩
  .have K:=O d;clear y x d;go_wp2;go_end0;rw[j.o];exact K.o.from l.o
  .exact⟨rfl,by rw[j.o];exact QZ.from d l⟩
theorem MI.go{d:Nat}{a:Nat}{c:Value}(h:MI w B xb d M m a c)(k:Nat)(e:k<=a):MAt (w.setCell ⟨xb,3,none⟩ (Qa (k:Int))) B xb d M (goL m k) a/\Fr (PMc B xb) w (w.setCell ⟨xb,3,none⟩ (Qa (k:Int))):=by
 have b:=h.set 3 (Qa (k:Int)) (goL m k) c rfl rfl (GQ h.stack h.row) h.sl h.nw e;exact⟨⟨_,b.1⟩,b.2.mono (fun _ _=>PMc.k)⟩
theorem Qxa(h:MAt w B xb q M m c)(r:Z_ w i v x):Calls prog 155 #[Qc xb,Zy i v x] w (QZ (VL c i m) B xb q M c w):=by
 obtain⟨D,E,rfl⟩:=r.a.len;obtain⟨F,H,rfl⟩:=r.b.len;have l:=O h;clear r;unfold Zy;cases hmay:Un c m i.n
 .have g:Hid (VL c i m=.error (12,(m.now:Int))):=by show _=_;unfold VL XJ;rw[hmay];rfl
  clear h;go_enter func155,ntmps155;go_wp2_with fail;refine Qv (Bb i.n (l.o.box _)) ?_;rintro s j;rw[hmay];have f:=O (((QO w.heap.size w).alloc QF _).trans (j.mono Qh));have N:=(l.o.below f).now;clear j;go_wp2_with (go_at_call 168;refine(Kk N).mono ?_;rintro e S ⟨⟨G,P,rfl,K⟩,J⟩);exact⟨rfl,by rw[g.o];exact QZ.from (QZ.err rfl (Fr.of_below J) ⟨G,P,rfl,K⟩) (Fr.of_below f)⟩
 .have p:=Cn hmay;have g:Hid (VL c i m=.ok (goL m (m.next+i.n.toNat))):=by show _=_;unfold VL;rw[hmay];rfl
  have L:0<=i.n:=by unfold Un at hmay;simp at hmay;exact hmay.1
  obtain⟨Q,y⟩:=h;have V:=y.cl;clear y;go_enter func155,ntmps155;go_wp2_with fail;refine Qv (Bb i.n (l.o.box _)) ?_;rintro s j;rw[hmay];have f:=O (((QO w.heap.size w).alloc QF _).trans (j.mono Qh));obtain⟨Q,k⟩:=l.o.below f;have z:=Ze (Q0 (w:=w) (o:=Qe #[Qa i.op,Qa i.n,Qa i.tag,.bool i.oct,.slice D i.a.length E,.slice F i.b.length H,Qa i.at_] 63)) j;have R:=Q9 z;have T:=XU k.blk;have U:=QQ k.blk;obtain⟨d,A⟩:∃d:Nat,i.n=(d:Int):=⟨i.n.toNat,I⟩;rw[A]at R g p;rw[Int.toNat_natCast]at g p;have W:IntKind.i64.wrap ((m.next:Int)+(d:Int))=(m.next:Int)+(d:Int):=by rw[IntKind.wrap_i64];omega
  have t:=O (k.go (m.next+d) p);have u:=O ((k.below (Z9 (QO _ _))).go (m.next+d) p);clear j k z A L hmay;go_wp2_with (go_at_call 168;refine Qv (Ua) ?_;rintro S C;rw[C];clear C);go_region
  all_goals go_wp2
  all_goals go_end0
  all_goals first
   |exact QZ.from (QZ.ok g t.2.drew (t.1.below (Z9 (QO _ _)))) (Fr.of_below f)
   |exact QZ.from (QZ.ok g ((Fr.of_below (Z9 (QO _ _))).trans u.2) u.1) (Fr.of_below f)
theorem Hp(j:Bool)(p:Nat){P Q:Value}{x:Nat}{f:Nat}(h:MAt w B xb x M m f)(H:Z_ w i P Q)(hp:w.heap[p]?=some (Qe #[.bool j] 4))(ah:p<xb+7):Calls prog 202 #[Qc xb,Zy i P Q,Qc p] w (QZ (doCond j f i m) B xb x M f w):=by
 obtain⟨V,W,rfl⟩:=H.a.len;obtain⟨X,Y,rfl⟩:=H.b.len;have HM:=O h;have HP:=O hp;clear H hp;unfold Zy;cases hmay:Un f m i.n
 .have q:Hid (doCond j f i m=.error (12,(m.now:Int))):=by show _=_;unfold doCond XJ;rw[hmay];rfl
  clear h;go_enter func202,ntmps202;go_wp2_with fail;refine Qv (Bb i.n (HM.o.box _)) ?_;rintro D r;rw[hmay];have HB1:=O (((QO w.heap.size w).alloc QF _).trans (r.mono Qh));have af:=(HM.o.below HB1).now;clear r;go_wp2_with (go_at_call 168;refine(Kk af).mono ?_;rintro e w' ⟨⟨s,v,rfl,u⟩,t⟩);exact⟨rfl,by rw[q.o];exact QZ.from (QZ.err rfl (Fr.of_below t) ⟨s,v,rfl,u⟩) (Fr.of_below HB1)⟩
 have C:=Cn hmay;have ae:0<=i.n:=by unfold Un at hmay;simp at hmay;exact hmay.1
 have ag:f<=400:=by obtain⟨U,ab⟩:=h;exact ab.cl
 clear h;have N:Hid (m.stack=[]->doCond j f i m=.error (12,(m.now:Int))):=fun c=>by unfold doCond XJ;rw[hmay,Qi rfl,Qi c]
 have q:Hid (m.stack≠[]->doCond j f i m=.ok (if topL m=j then goL (KV m) (m.next+i.n.toNat)else KV m)):=fun c=>by unfold doCond;rw[hmay,Qi rfl,Qg c]
 go_enter func202,ntmps202;go_wp2_with fail;refine Qv (Bb i.n (HM.o.box _)) ?_;rintro D r;rw[hmay];have HB1:=O (((QO w.heap.size w).alloc QF _).trans (r.mono Qh));have p1:=Qj (Ze HP HB1) 0;have R:=Ze (Q0 (w:=w) (o:=Qe #[Qa i.op,Qa i.n,Qa i.tag,.bool i.oct,.slice V i.a.length W,.slice X i.b.length Y,Qa i.at_] 63)) r;have aj:=O R;have F:=O (Qyc (w:=D.drew) ((HM.o.below HB1).below (Z9 (QO _ _))));obtain⟨d,G⟩:∃d:Nat,i.n=(d:Int):=⟨i.n.toNat,I⟩;rw[G]at q C;rw[Int.toNat_natCast]at q C
 have y:Hid (∀g:World,Fr (PMc B xb) D.drew g->g.cell? (Ql p 0)=some (.bool j)/\g.cell? (Ql w.heap.size 1)=some (Qa (d:Int))):=fun g hf=>by
  have h1:=hf.block p _ (Ze HP (Z9 HB1)) (fun hh=>by
   have:=hh.2;unfold kO stO at this;simp at this
   omega)
  have h2:=hf.block w.heap.size _ (show D.drew.heap[w.heap.size]?=_ from aj.o) (PMc.not Qb Qb Qb Qb);refine⟨Qj h1 0,?_⟩;rw[Qj h2,<-G];rfl
 clear r R hmay ae G;obtain⟨l,S⟩:=Qw (topL m);rw[S]at q F;clear S;go_wp2_with (go_at_call 168;refine Qv (Ua) ?_;rintro w' T;rw[T];clear T);have ai:IntKind.i64.wrap ((m.next:Int)+(d:Int))=(m.next:Int)+(d:Int):=by rw[IntKind.wrap_i64];omega
 by_cases hte:l=j
 .subst hte;have E:Hid (m.stack≠[]->doCond l f i m=.ok (goL (KV m) (m.next+d))):=fun c=>by rw[q c,Qi rfl]
  have ad:(l==l)=true:=by cases l<;>rfl
  go_region_with (first|(go_at_call 200;refine F.mono ?_;rintro e g (⟨c,⟨s,v,rfl,u⟩,t⟩ | ⟨c,rfl,hm2,hf2⟩);exact⟨rfl,by rw[N c];exact QZ.from (QZ.err rfl (Fr.of_below t) ⟨s,v,rfl,u⟩) (Fr.of_below (Z9 HB1))⟩;obtain⟨U,k⟩:=hm2;have p2:=(y g hf2).1;have q2:=(y g hf2).2;have Z:g.cell? (Ql xb 3)=some (Qa (m.next:Int)):=Qj k.blk 3;have f3:=QQ k.blk;have A:=O k;have z:=O hf2;have J:=O c;clear k hf2 c;skip))
  all_goals go_wp2_with fail
  all_goals go_region
  all_goals go_wp2
  all_goals go_end0
  all_goals rw[E J]
  all_goals have K:=A.go (m.next+d) C
  all_goals have L:=(A.o.below (Z9 (QO _ _))).go (m.next+d) C
  all_goals first
   |exact QZ.from (QZ.ok rfl (z.o.trans K.2.drew) (K.1.below (Z9 (QO _ _)))) (Fr.of_below (Z9 HB1))
   |exact QZ.from (QZ.ok rfl ((z.o.drew).trans L.2) L.1) (Fr.of_below (Z9 HB1))
 .have E:Hid (m.stack≠[]->doCond j f i m=.ok (KV m)):=fun c=>by rw[q c,Qg hte]
  have ad:(l==j)=false:=by cases l<;>cases j<;>first|rfl|exact absurd rfl hte
  clear hte;go_region_with (first|(go_at_call 200;refine F.mono ?_;rintro e g (⟨c,⟨s,v,rfl,u⟩,t⟩ | ⟨c,rfl,hm2,hf2⟩);exact⟨rfl,by rw[N c];exact QZ.from (QZ.err rfl (Fr.of_below t) ⟨s,v,rfl,u⟩) (Fr.of_below (Z9 HB1))⟩;obtain⟨U,k⟩:=hm2;have p2:=(y g hf2).1;have q2:=(y g hf2).2;have Z:g.cell? (Ql xb 3)=some (Qa (m.next:Int)):=Qj k.blk 3;have f3:=QQ k.blk;have A:=O k;have z:=O hf2;have J:=O c;clear k hf2 c;skip))
  all_goals go_wp2
  all_goals go_end0
  all_goals rw[E J]
  all_goals exact QZ.from (QZ.ok rfl z ⟨_,A⟩) (Fr.of_below (Z9 HB1))
theorem Ri(W:World):(binOp .neq 321 .nilFunc .nilFunc).run prog W=.ok (.bool false) W:=Qm
theorem Rl(W:World)(f:Fn)(a b:Array Value):(binOp .neq 321 (.func f a b) .nilFunc).run prog W=.ok (.bool true) W:=Qm
theorem P0(tag:Int)(oct:Bool):Calls prog 204 #[Qa tag,.bool oct] w fun e w'=>(∃wv,e=.returned wv/\((1<=tag/\tag<=3/\WayV w' tag oct wv)\/(¬(1<=tag/\tag<=3)/\wv=.nilFunc)))/\Qo w w':=by
 cases oct
 .exact OE rfl
 .exact OE rfl
theorem MAt.pt{a:Nat}(h:MAt w B xb a M m b):w.cell? (Ql xb 0)=some (Qc a):=by
 obtain⟨c,h⟩:=h;exact Qj h.blk 0
theorem MAt.sat{a:Nat}(h:MAt w B xb a M m b):SAt w B a M m.st:=by
 obtain⟨c,h⟩:=h;exact h.st
theorem MAt.st'{w w':World}{B xb a:Nat}{M:Msg}{m:MS}{b:Nat}(h:MAt w B xb a M m b){s:SS}(d:SAt w' B a M s)(c:Fr (PSt B) w w'):MAt w' B xb a M (stL m s) b:=by
 obtain⟨e,h⟩:=h;exact⟨e,h.st' d c⟩
theorem Ux:type_of%@List.set_cons_zero:=@List.set_cons_zero
theorem Ey(t:FuncId)(vals:Qn)(p:Nat){C:Value}{s:Nat}{P:Nat}(h:MAt w B xb s M m P)(G:Z_ w i y C)(hp:w.heap[p]?=some (Qe #[.func (.func t) #[] #[]] 280))(ax:∀args W,(callFunc t args).run prog W=.ok (.enter t args) W)(ab:∀wv y C W,WayV W i.tag i.oct wv->SAt W B s M m.st->Z_ W i y C->Calls prog t #[Qc s,wv,y,C] W fun e w'=>e=.returned (.bool (askL m.st i.tag i.oct vals i.b).1)/\SAt w' B s M (askL m.st i.tag i.oct vals i.b).2/\Fr (PSt B) W w'):Calls prog 203 #[Qc xb,Zy i y C,Qc p] w (QZ (doAsk vals i m) B xb s M P w):=by
 obtain⟨v,x,aj⟩:=G.a.len;obtain⟨z,A,ak⟩:=G.b.len;subst aj ak;have HM:=O h;have HO:=O G;have HP:=O hp;have X:Hid (¬(1<=i.tag/\i.tag<=3)->doAsk vals i m=.error (12,(m.now:Int))):=fun h=>by unfold doAsk XJ;rw[Qg h]
 have V:Hid ((1<=i.tag/\i.tag<=3)->doAsk vals i m=JM (askL m.st i.tag i.oct vals i.b).1 (stL m (askL m.st i.tag i.oct vals i.b).2)):=fun h=>by unfold doAsk ES;rw[Qi h]
 have az:=Ri;have ay:=Rl;clear h G hp;unfold Zy;go_enter func203,ntmps203;go_wp2_with fail;refine(P0 i.tag i.oct).mono ?_;rintro e K ⟨⟨wv,rfl,ao⟩,J⟩;have d:=O (((QO w.heap.size w).alloc QF _).trans (J.mono Qh));have Q:=Ze (Q0 (w:=w) (o:=Qe #[Qa i.op,Qa i.n,Qa i.tag,.bool i.oct,.slice v i.a.length x,.slice z i.b.length A,Qa i.at_] 63)) J;rcases ao with⟨au,aw,R⟩ | ⟨ht,rfl⟩
 rotate_left
 .have aq:=(HM.o.below d).now;have HT:=O ht;clear J Q ht;go_wp2_with (go_at_call 168;refine(Kk aq).mono ?_;rintro e w' ⟨⟨Y,hz,rfl,ad⟩,hb⟩);exact⟨rfl,by rw[X HT];exact QZ.from (QZ.err rfl (Fr.of_below hb) ⟨Y,hz,rfl,ad⟩) (Fr.of_below d)⟩
 have N:=O (V ⟨au,aw⟩);have HW:=O R;obtain⟨F,Z,ap⟩:=R.fn;subst ap;have x0:=(HM.o.below d).pt;have ar:=HM.o.below d;obtain⟨aA,ai⟩:=ar
 have L:Hid (∀W:World,Fr (PMc B xb) K.drew W->W.cell? (Ql xb 0)=some (Qc s)->W.cell? (Ql p 0)=some (.func (.func t) #[] #[])/\W.cell? (Ql xb 0)=some (Qc s)/\W.cell? (Ql w.heap.size 4)=some (.slice v i.a.length x)/\W.cell? (Ql w.heap.size 5)=some (.slice z i.b.length A)):=fun W D hx=>by
  have h1:=D.block p _ (Ze HP (Z9 d)) (PMc.not Qb Qb Qb Qb);have h2:=D.block w.heap.size _ (show K.drew.heap[w.heap.size]?=_ from Q) (PMc.not Qb Qb Qb Qb);exact⟨Qj h1 0,hx,Qj h2 4,Qj h2 5⟩
 clear ai;have T:=O (ab (.func (.func F) #[] Z) (.slice v i.a.length x) (.slice z i.b.length A) K.drew (HW.o.below (Z9 (QO _ _))) ((HM.o.below (Z9 d)).sat) (HO.o.below (Z9 d)));generalize askL m.st i.tag i.oct vals i.b=r at *;obtain⟨rb,rs⟩:=r;dsimp only at N T;clear J Q R V X ab;go_wp2_with (go_at_call 168;refine Qv (Ua) ?_;rintro w' af;rw[af];clear af);refine Uy (S:=fun w'=>w'.cell? (Ql p 0)=some (.func (.func t) #[] #[])/\w'.cell? (Ql xb 0)=some (Qc s)/\w'.cell? (Ql w.heap.size 4)=some (.slice v i.a.length x)/\w'.cell? (Ql w.heap.size 5)=some (.slice z i.b.length A)) Qm ?_;have c:=L K.drew (Fr.refl _ _) x0;refine QS 0 15 (Qc xb) rfl c (fun w' ⟨g,k,l,q⟩=>by go_simp) ?_;simp only[pt,sz,sc];refine QS 1 16 (.func (.func t) #[] #[]) rfl c (fun w' ⟨g,k,l,q⟩=>by go_simp) ?_;simp only[pt,sz,sc];refine QS 2 17 (Qc xb) rfl c (fun w' ⟨g,k,l,q⟩=>by go_simp) ?_;simp only[pt,sz,sc];refine QS 3 18 (Qc xb) rfl c (fun w' ⟨g,k,l,q⟩=>by go_simp) ?_;simp only[pt,sz,sc];refine QS 4 19 (Qc xb) rfl c (fun w' ⟨g,k,l,q⟩=>by go_simp) ?_;simp only[pt,sz,sc];refine QS 5 20 (Qc s) rfl c (fun w' ⟨g,k,l,q⟩=>by go_simp) ?_;simp only[pt,sz,sc];refine QS 6 21 (.func (.func F) #[] Z) rfl c (fun w' ⟨g,k,l,q⟩=>by go_simp) ?_;simp only[pt,sz,sc];refine QS 7 22 (.pointer (some ⟨w.heap.size,4,none⟩)) rfl c (fun w' ⟨g,k,l,q⟩=>by go_simp) ?_;simp only[pt,sz,sc];refine QS 8 23 (.slice v i.a.length x) rfl c (fun w' ⟨g,k,l,q⟩=>by go_simp) ?_;simp only[pt,sz,sc];refine QS 9 24 (.pointer (some ⟨w.heap.size,5,none⟩)) rfl c (fun w' ⟨g,k,l,q⟩=>by go_simp) ?_;simp only[pt,sz,sc];refine QS 10 25 (.slice z i.b.length A) rfl c (fun w' ⟨g,k,l,q⟩=>by go_simp) ?_;simp only[pt,sz,sc];refine wpAnyH_all (rs:=[11]) Qm Qb (fun j E=>?_);simp only[List.mem_singleton]at E;subst E;refine Zp rfl (by rfl) ?_;clear c;go_simp;refine T.mono ?_;rintro e w2 ⟨rfl,ae,u⟩;have U:=O ((HM.o.below (Z9 d)).st' ae u);have aB:=O u;have ag:=O (L w2 (u.mono (fun _ _=>PMc.st)) U.o.pt);clear ae u;refine⟨ag,?_⟩
 try simp only[Act.put,K3,Ux,K4]
 refine wpAnyH_all (rs:=[12]) Qm Qb (fun j E=>?_);simp only[List.mem_singleton]at E;subst E;refine Zp rfl (by rfl) ?_;go_simp;refine(NU rb U).mono ?_;intro e w3 H;rcases H.cases with⟨D,⟨m',hr,rfl,hm⟩ | ⟨f,hr,Y,hz,rfl,ad⟩⟩
 rotate_left
 .exact⟨rfl,by rw[N.o];exact QZ.from H ((Fr.of_below (Z9 d)).trans (aB.mono (fun _ _=>PMc.st)))⟩
 have H3:=O H;have ah:=O (L w3 ((aB.mono (fun _ _=>PMc.st)).trans D) hm.pt);clear hm D H;refine⟨ah,wpAnyH_done Qm ?_ _⟩
 try simp only[Act.put,K3,Ux,K4]
 go_wp2;go_end0;rw[N.o];exact QZ.from H3 ((Fr.of_below (Z9 d)).trans (aB.mono (fun _ _=>PMc.st)))
theorem W_(p:Nat){f:Nat}(h:MAt w B xb f M m g)(j:Z_ w i d e)(k:w.heap[p]?=some (Qe #[QA 158 #[] #[]] 280)):Calls prog 203 #[Qc xb,Zy i d e,Qc p] w (QZ (doAsk (fieldsL M (i.a.map (expL m.st))) i m) B xb f M g w):=
 Ey 158 (fieldsL M (i.a.map (expL m.st))) p h j k (fun _ _=>Qm) (fun o d e W n l c=>Qui n l c.a c.b c.al c.bl c.an c.bn)
theorem SA(p:Nat){f:Nat}(h:MAt w B xb f M m g)(j:Z_ w i d e)(k:w.heap[p]?=some (Qe #[QA 159 #[] #[]] 280)):Calls prog 203 #[Qc xb,Zy i d e,Qc p] w (QZ (doAsk (envL M i.a) i m) B xb f M g w):=
 Ey 159 (envL M i.a) p h j k (fun _ _=>Qm) (fun o d e W n l c=>SU n l c.a c.b c.al c.bl c.an c.bn)
theorem Th(p:Nat){f:Nat}(h:MAt w B xb f M m g)(j:Z_ w i d e)(k:w.heap[p]?=some (Qe #[QA 160 #[] #[]] 280)):Calls prog 203 #[Qc xb,Zy i d e,Qc p] w (QZ (doAsk (i.a.map (expL m.st)) i m) B xb f M g w):=
 Ey 160 (i.a.map (expL m.st)) p h j k (fun _ _=>Qm) (fun o d e W n l c=>Te n l c.a c.b c.al c.bl c.an c.bn)
theorem ZO{a:Array Value}(f:MAt W B xb b M m c)(e:Fr (PMc B xb) (w.alloc (Qe a 63)).drew W):W.cell? (Ql xb 0)=some (Qc b)/\∀j,W.cell? ⟨w.heap.size,j,none⟩=a[j]?:=by
 have d:=e.block w.heap.size _ (show(w.alloc (Qe a 63)).drew.heap[w.heap.size]?=_ from Q0) (PMc.not Qb Qb Qb Qb);exact⟨f.pt,fun j=>Qj d j⟩
theorem Zg:Qo w (w.alloc o).drew:=Z9 (QH _)
theorem Qt2{G:Value}{l:Nat}{C:Nat}(h:MAt w B xb l M m C)(r:Z_ w i F G):Calls prog 161 #[Qc xb,Zy i F G] w (QZ (JM (existsL M (i.a.map (expL m.st))) m) B xb l M C w):=by
 obtain⟨c,d,Q⟩:=r.a.len;obtain⟨p,q,R⟩:=r.b.len;subst Q R;have Y:=O r;have x:=O (h.below (Zg (o:=Qe #[Qa i.op,Qa i.n,Qa i.tag,.bool i.oct,.slice c i.a.length d,.slice p i.b.length q,Qa i.at_] 63)));have P:=O (r.below (Zg (o:=Qe #[Qa i.op,Qa i.n,Qa i.tag,.bool i.oct,.slice c i.a.length d,.slice p i.b.length q,Qa i.at_] 63)));clear h r;unfold Zy;have N:=O (Tt (w:=(w.alloc (Qe #[Qa i.op,Qa i.n,Qa i.tag,.bool i.oct,.slice c i.a.length d,.slice p i.b.length q,Qa i.at_] 63)).drew) x.o.sat P.a (fun z K=>QE (Y.al z K) Qb) Y.an);generalize existsL M (i.a.map (expL m.st))=rb at *;go_enter func161,ntmps161;go_wp2_with fail;refine Uy (S:=fun g=>g.cell? (Ql xb 0)=some (Qc l)/\g.cell? (Ql w.heap.size 4)=some (.slice c i.a.length d)) Qm ?_;have k:(w.alloc (Qe #[Qa i.op,Qa i.n,Qa i.tag,.bool i.oct,.slice c i.a.length d,.slice p i.b.length q,Qa i.at_] 63)).drew.cell? (Ql xb 0)=some (Qc l)/\(w.alloc (Qe #[Qa i.op,Qa i.n,Qa i.tag,.bool i.oct,.slice c i.a.length d,.slice p i.b.length q,Qa i.at_] 63)).drew.cell? (Ql w.heap.size 4)=some (.slice c i.a.length d):=⟨(ZO x (Fr.refl _ _)).1,(ZO x (Fr.refl _ _)).2 4⟩;refine QS 0 4 (Qc xb) rfl k (fun g ⟨s,t⟩=>by go_simp) ?_;simp only[pt,sz,sc];refine QS 1 5 (Qc xb) rfl k (fun g ⟨s,t⟩=>by go_simp) ?_;simp only[pt,sz,sc];refine QS 2 6 (Qc xb) rfl k (fun g ⟨s,t⟩=>by go_simp) ?_;simp only[pt,sz,sc];refine QS 3 7 (Qc xb) rfl k (fun g ⟨s,t⟩=>by go_simp) ?_;simp only[pt,sz,sc];refine QS 4 8 (Qc l) rfl k (fun g ⟨s,t⟩=>by go_simp) ?_;simp only[pt,sz,sc];refine QS 5 9 (.pointer (some ⟨w.heap.size,4,none⟩)) rfl k (fun g ⟨s,t⟩=>by go_simp) ?_;simp only[pt,sz,sc];refine QS 6 10 (.slice c i.a.length d) rfl k (fun g ⟨s,t⟩=>by go_simp) ?_;simp only[pt,sz,sc];clear k;refine wpAnyH_all (rs:=[7]) Qm Qb (fun j v=>?_);simp only[List.mem_singleton]at v;subst v;refine Zp rfl (by rfl) ?_;go_simp;refine N.mono ?_;rintro e L ⟨rfl,D⟩;have A:=O (x.o.below D);have u:Hid (Fr (PMc B xb) (w.alloc (Qe #[Qa i.op,Qa i.n,Qa i.tag,.bool i.oct,.slice c i.a.length d,.slice p i.b.length q,Qa i.at_] 63)).drew L):=Fr.of_below D;clear D;refine⟨⟨(ZO A u).1,(ZO A u).2 4⟩,?_⟩
 try simp only[Act.put,K3,Ux,K4]
 refine wpAnyH_all (rs:=[8]) Qm Qb (fun j v=>?_);simp only[List.mem_singleton]at v;subst v;refine Zp rfl (by rfl) ?_;go_simp;refine(NU rb A).mono ?_;intro e X y;rcases y.cases with⟨H,⟨W,T,rfl,J⟩ | ⟨f,T,U,K,rfl,V⟩⟩
 rotate_left
 .exact⟨rfl,QZ.from y ((Fr.of_below (Zg)).trans u)⟩
 have Z:=O y;have E:=O (ZO J (u.o.trans H));clear J H y;refine⟨⟨(E.o).1,(E.o).2 4⟩,wpAnyH_done Qm ?_ _⟩
 try simp only[Act.put,K3,Ux,K4]
 go_wp2;go_end0;exact QZ.from Z ((Fr.of_below (Zg)).trans u)
theorem Qxr{D:Value}(h:MAt w B xb q M m A)(C:Z_ w i D F):Calls prog 162 #[Qc xb,Zy i D F] w (QZ (VK M i m) B xb q M A w):=by
 obtain⟨r,s,R⟩:=C.a.len;obtain⟨t,u,U⟩:=C.b.len;subst R U;have V:=(h.box (Qe #[Qa i.op,Qa i.n,Qa i.tag,.bool i.oct,.slice r i.a.length s,.slice t i.b.length u,Qa i.at_] 63)).now;have g:=O (h.below (Zg (o:=Qe #[Qa i.op,Qa i.n,Qa i.tag,.bool i.oct,.slice r i.a.length s,.slice t i.b.length u,Qa i.at_] 63)));clear h C;unfold Zy;have P:=JG i.tag 1;have Q:=JG i.tag 2;by_cases ht:i.tag=1\/i.tag=2;rotate_left
 .have x:Hid (VK M i m=.error (12,(m.now:Int))):=by show _=_;unfold VK XJ;rw[Qg ht]
  rw[QB I]at P Q;clear ht;go_enter func162,ntmps162;go_wp2_with (go_at_call 168;refine(Kk V).mono ?_;rintro e c ⟨⟨E,L,rfl,G⟩,T⟩);exact⟨rfl,by rw[x.o];exact QZ.from (QZ.err rfl (Fr.of_below T) ⟨E,L,rfl,G⟩) (JW)⟩
 have x:Hid (VK M i m=JM (sizeB M i.tag i.n) m):=by show _=_;unfold VK;rw[Qi ht]
 have W:(decide (i.tag=1) || decide (i.tag=2))=true:=by simpa using ht
 have N:=O (O6 i.tag i.n (w:=(w.alloc (Qe #[Qa i.op,Qa i.n,Qa i.tag,.bool i.oct,.slice r i.a.length s,.slice t i.b.length u,Qa i.at_] 63)).drew) g.o.sat);generalize sizeB M i.tag i.n=rb at *;clear ht;generalize decide (i.tag=1)=b1 at *;generalize decide (i.tag=2)=b2 at *;cases b1
 case' false=>
  cases b2
  .cases W
 all_goals
  go_enter func162,ntmps162;go_wp2_with (go_at_call 168;refine Qv (Ua) ?_;rintro c K;rw[K];clear K);refine Uy (S:=fun c=>c.cell? (Ql xb 0)=some (Qc q)/\c.cell? (Ql w.heap.size 2)=some (Qa i.tag)/\c.cell? (Ql w.heap.size 1)=some (Qa i.n)) Qm ?_;have d:(w.alloc (Qe #[Qa i.op,Qa i.n,Qa i.tag,.bool i.oct,.slice r i.a.length s,.slice t i.b.length u,Qa i.at_] 63)).drew.cell? (Ql xb 0)=some (Qc q)/\(w.alloc (Qe #[Qa i.op,Qa i.n,Qa i.tag,.bool i.oct,.slice r i.a.length s,.slice t i.b.length u,Qa i.at_] 63)).drew.cell? (Ql w.heap.size 2)=some (Qa i.tag)/\(w.alloc (Qe #[Qa i.op,Qa i.n,Qa i.tag,.bool i.oct,.slice r i.a.length s,.slice t i.b.length u,Qa i.at_] 63)).drew.cell? (Ql w.heap.size 1)=some (Qa i.n):=⟨(ZO g (Fr.refl _ _)).1,(ZO g (Fr.refl _ _)).2 2,(ZO g (Fr.refl _ _)).2 1⟩;refine QS 0 14 (Qc xb) rfl d (fun c ⟨k,l,p⟩=>by go_simp) ?_;simp only[pt,sz,sc];refine QS 1 15 (Qc xb) rfl d (fun c ⟨k,l,p⟩=>by go_simp) ?_;simp only[pt,sz,sc];refine QS 2 16 (Qc xb) rfl d (fun c ⟨k,l,p⟩=>by go_simp) ?_;simp only[pt,sz,sc];refine QS 3 17 (Qc xb) rfl d (fun c ⟨k,l,p⟩=>by go_simp) ?_;simp only[pt,sz,sc];refine QS 4 18 (Qc q) rfl d (fun c ⟨k,l,p⟩=>by go_simp) ?_;simp only[pt,sz,sc];refine QS 5 19 (.pointer (some ⟨w.heap.size,2,none⟩)) rfl d (fun c ⟨k,l,p⟩=>by go_simp) ?_;simp only[pt,sz,sc];refine QS 6 20 (Qa i.tag) rfl d (fun c ⟨k,l,p⟩=>by go_simp) ?_;simp only[pt,sz,sc];refine QS 7 21 (.pointer (some ⟨w.heap.size,1,none⟩)) rfl d (fun c ⟨k,l,p⟩=>by go_simp) ?_;simp only[pt,sz,sc];refine QS 8 22 (Qa i.n) rfl d (fun c ⟨k,l,p⟩=>by go_simp) ?_;simp only[pt,sz,sc];clear d;refine wpAnyH_all (rs:=[9]) Qm Qb (fun j v=>?_);simp only[List.mem_singleton]at v;subst v;refine Zp rfl (by rfl) ?_;go_simp;refine N.mono ?_;rintro e Z ⟨rfl,rfl⟩;refine⟨⟨(ZO g (Fr.refl _ _)).1,(ZO g (Fr.refl _ _)).2 2,(ZO g (Fr.refl _ _)).2 1⟩,?_⟩
  try simp only[Act.put,K3,Ux,K4]
  refine wpAnyH_all (rs:=[10]) Qm Qb (fun j v=>?_);simp only[List.mem_singleton]at v;subst v;refine Zp rfl (by rfl) ?_;go_simp;refine(NU rb g).mono ?_;intro e w3 y;rcases y.cases with⟨H,⟨Y,X,rfl,J⟩ | ⟨f,X,E,L,rfl,G⟩⟩
  rotate_left
  .exact⟨rfl,by rw[x.o];exact QZ.from y (Fr.of_below (Zg))⟩
  have H3:=O y;have z:=O (ZO J H);clear J H y;refine⟨⟨(z.o).1,(z.o).2 2,(z.o).2 1⟩,wpAnyH_done Qm ?_ _⟩
  try simp only[Act.put,K3,Ux,K4]
  go_wp2;go_end0;rw[x.o];exact QZ.from H3 (Fr.of_below (Zg))
theorem WT{g:Value}{f:Nat}(h:MAt w B xb f M m k)(d:Z_ w i g j):Calls prog 165 #[Qc xb,Zy i g j] w (QZ (.ok (stL m (Gl m.st))) B xb f M k w):=by
 obtain⟨q,r,u⟩:=d.a.len;obtain⟨s,t,v⟩:=d.b.len;subst u v;have z:=O h;clear h d;unfold Zy;have y:=(z.o.box (Qe #[Qa i.op,Qa i.n,Qa i.tag,.bool i.oct,.slice q i.a.length r,.slice s i.b.length t,Qa i.at_] 63)).pt;go_enter func165,ntmps165;go_wp2_with fail;refine(QsW (z.o.box _).sat).mono ?_;rintro e x ⟨c,rfl,l⟩;have A:=O c;have p:=O ((z.o.box _).st' l c);clear c l;go_wp2;go_end0;exact QZ.ok rfl ((JW).trans (A.mono (fun _ _=>PMc.st))) p
theorem QyJ{g:Value}{d:Nat}(h:MAt w B xb k M m d)(e:Z_ w i g j):Calls prog 167 #[Qc xb,Zy i g j] w (QZ (.ok (goL m d)) B xb k M d w):=by
 obtain⟨r,s,p⟩:=e.a.len;obtain⟨t,u,q⟩:=e.b.len;subst p q;have z:=O h;have x:=QX h.now;clear h e;unfold Zy;obtain⟨y,c⟩:=z.o;have l:=Qj c.blk 3;have n:=Qj c.blk 4;have v:=QQ c.blk;unfold VF at l n;have f:=O (c.go d QF);clear c;go_enter func167,ntmps167;go_wp2;go_end0;exact QZ.ok rfl (f.2.alloc _) (f.1.box _)
theorem MK{arg:L8}:Vl i m arg=(Nv m.st i.tag arg i.at_).map (stL m):=by
 unfold Vl Nv;split<;>rfl
theorem AW.cases{r:Except FZ SS}{B b:Nat}{M:Msg}{w w':World}{e:Ending}(h:AW r B b M w e w'):Fr (PSt B) w w'/\((∃s,r=.ok s/\e=.returned (.tuple #[])/\SAt w' B b M s)\/∃f,r=.error f/\KO f w e w'):=by
 obtain⟨a,h⟩:=h
 cases r with
 |ok s=>exact⟨a,Qt ⟨s,rfl,h⟩⟩
 |error f=>exact⟨a,Qr ⟨f,rfl,h⟩⟩
theorem Pf{ad:Nat}(h:MAt w B xb A M m ad)(T:Z_ w i av bv):Calls prog 163 #[Qc xb,Zy i av bv] w (QZ (UI i m) B xb A M ad w):=by
 obtain⟨D,q,aj⟩:=T.a.len;obtain⟨s,t,ak⟩:=T.b.len;subst aj ak;have HO:=O T;have af:=(h.box (Qe #[Qa i.op,Qa i.n,Qa i.tag,.bool i.oct,.slice D i.a.length q,.slice s i.b.length t,Qa i.at_] 63)).now;have u:=O (h.below (Zg (o:=Qe #[Qa i.op,Qa i.n,Qa i.tag,.bool i.oct,.slice D i.a.length q,.slice s i.b.length t,Qa i.at_] 63)));have ai:=O (T.below (Zg (o:=Qe #[Qa i.op,Qa i.n,Qa i.tag,.bool i.oct,.slice D i.a.length q,.slice s i.b.length t,Qa i.at_] 63)));clear h T;unfold Zy;have e1:=JG i.tag 1;have H:=JG i.tag 2;have J:=JG i.tag 3;have K:=JG i.tag 4;by_cases t1:i.tag=1
 .have C:Hid (UI i m=(Nv m.st i.tag [] i.at_).map (stL m)):=by show _=_;unfold UI;rw[Qi t1,MK]
  rw[QU t1]at e1;have Z:=O (OA i.tag i.at_ [] (w:=(w.alloc (Qe #[Qa i.op,Qa i.n,Qa i.tag,.bool i.oct,.slice D i.a.length q,.slice s i.b.length t,Qa i.at_] 63)).drew) u.o.sat Qb);clear t1;go_enter func163,ntmps163;go_wp2_with fail;refine Uy (S:=fun c=>c.cell? (Ql xb 0)=some (Qc A)/\c.cell? (Ql w.heap.size 2)=some (Qa i.tag)/\c.cell? (Ql w.heap.size 6)=some (Qa i.at_)) Qm ?_;have d:(w.alloc (Qe #[Qa i.op,Qa i.n,Qa i.tag,.bool i.oct,.slice D i.a.length q,.slice s i.b.length t,Qa i.at_] 63)).drew.cell? (Ql xb 0)=some (Qc A)/\(w.alloc (Qe #[Qa i.op,Qa i.n,Qa i.tag,.bool i.oct,.slice D i.a.length q,.slice s i.b.length t,Qa i.at_] 63)).drew.cell? (Ql w.heap.size 2)=some (Qa i.tag)/\(w.alloc (Qe #[Qa i.op,Qa i.n,Qa i.tag,.bool i.oct,.slice D i.a.length q,.slice s i.b.length t,Qa i.at_] 63)).drew.cell? (Ql w.heap.size 6)=some (Qa i.at_):=⟨(ZO u (Fr.refl _ _)).1,(ZO u (Fr.refl _ _)).2 2,(ZO u (Fr.refl _ _)).2 6⟩;refine QS 0 10 (Qc xb) rfl d (fun c ⟨k,l,p⟩=>by go_simp) ?_;simp only[pt,sz,sc];refine QS 1 11 (Qc xb) rfl d (fun c ⟨k,l,p⟩=>by go_simp) ?_;simp only[pt,sz,sc];refine QS 2 12 (Qc xb) rfl d (fun c ⟨k,l,p⟩=>by go_simp) ?_;simp only[pt,sz,sc];refine QS 3 13 (Qc A) rfl d (fun c ⟨k,l,p⟩=>by go_simp) ?_;simp only[pt,sz,sc];refine QS 4 14 (.pointer (some ⟨w.heap.size,2,none⟩)) rfl d (fun c ⟨k,l,p⟩=>by go_simp) ?_;simp only[pt,sz,sc];refine QS 5 15 (Qa i.tag) rfl d (fun c ⟨k,l,p⟩=>by go_simp) ?_;simp only[pt,sz,sc];refine QS 6 16 (.pointer (some ⟨w.heap.size,6,none⟩)) rfl d (fun c ⟨k,l,p⟩=>by go_simp) ?_;simp only[pt,sz,sc];refine QS 7 17 (Qa i.at_) rfl d (fun c ⟨k,l,p⟩=>by go_simp) ?_;simp only[pt,sz,sc];clear d;refine wpAnyH_all (rs:=[8]) Qm Qb (fun j X=>?_);simp only[List.mem_singleton]at X;subst X;refine Zp rfl (by rfl) ?_;go_simp;refine Z.mono ?_;intro e w2 V;rcases V.cases with⟨v,⟨s',E,rfl,Y⟩ | ⟨f,E,G,P,rfl,N⟩⟩
  rotate_left
  .exact⟨rfl,by rw[C.o,E];exact QZ.from (QZ.err rfl (v.mono (fun _ _=>PMc.st)) ⟨G,P,rfl,N⟩) (Fr.of_below (Zg))⟩
  have U:=O (u.o.st' Y v);have Q:=O (v.mono (fun _ _=>PMc.st (xb:=xb)));have ax:=O E;have F:=O (ZO U Q);clear Y v V E;refine⟨⟨(F.o).1,(F.o).2 2,(F.o).2 6⟩,wpAnyH_done Qm ?_ _⟩
  try simp only[Act.put,K3,Ux,K4]
  go_wp2;go_end0;rw[C.o,ax.o];exact QZ.from (QZ.ok rfl Q U) (Fr.of_below (Zg))
 rw[QB t1]at e1;by_cases t24:2<=i.tag/\i.tag<=4;rotate_left
 .have C:Hid (UI i m=.error (12,(m.now:Int))):=by show _=_;unfold UI XJ;rw[Qg t1,Qg (fun h=>t24 ⟨h.1,h.2.1⟩)]
  rw[QB I]at H J K;clear t1 t24;go_enter func163,ntmps163;go_wp2_with (go_at_call 168;refine(Kk af).mono ?_;rintro e c ⟨⟨G,P,rfl,N⟩,hb⟩);exact⟨rfl,by rw[C.o];exact QZ.from (QZ.err rfl (Fr.of_below hb) ⟨G,P,rfl,N⟩) (JW)⟩
 by_cases ha:i.a=[]
 .have C:Hid (UI i m=.error (12,(m.now:Int))):=by show _=_;unfold UI XJ;rw[Qg t1,Qg (fun h=>h.2.2 ha)]
  have aw:¬0<i.a.length:=by rw[ha];simp
  rcases(by omega:i.tag=2\/i.tag=3\/i.tag=4)with tt|tt|tt
  all_goals first
   |(rw[QU tt]at H;rw[QB I]at J K)
   |(rw[QU tt]at J;rw[QB I]at H K)
   |(rw[QU tt]at K;rw[QB I]at H J)
  all_goals
   clear t1 t24 tt ha;go_enter func163,ntmps163;go_wp2_with (go_at_call 168;refine(Kk af).mono ?_;rintro e c ⟨⟨G,P,rfl,N⟩,hb⟩);exact⟨rfl,by rw[C.o];exact QZ.from (QZ.err rfl (Fr.of_below hb) ⟨G,P,rfl,N⟩) (JW)⟩
 obtain⟨x,r,L⟩:∃x r,i.a=x::r:=by cases hh:i.a with|nil=>exact absurd hh ha|cons x r=>exact⟨x,r,rfl⟩
 have C:Hid (UI i m=(Nv m.st i.tag x i.at_).map (stL m)):=by show _=_;unfold UI;rw[Qg t1,Qi ⟨t24.1,t24.2,ha⟩,L,MK];rfl
 have au:=HO.al x (by rw[L];simp);have Z:=O (OA i.tag i.at_ x (w:=(w.alloc (Qe #[Qa i.op,Qa i.n,Qa i.tag,.bool i.oct,.slice D i.a.length q,.slice s i.b.length t,Qa i.at_] 63)).drew) u.o.sat I);obtain⟨g,ae,aq,ap⟩:=HO.a.get' 0 (by rw[L];simp);have ar:0<i.a.length:=by rw[L];simp
 have ab:Hid (∀W,Fr (PMc B xb) (w.alloc (Qe #[Qa i.op,Qa i.n,Qa i.tag,.bool i.oct,.slice D i.a.length q,.slice s i.b.length t,Qa i.at_] 63)).drew W->W.cell? (Ql g 0)=some (Qf x)):=fun W v=>by
  have h1:=ai.a.pm v;obtain⟨g',R,_,ao⟩:=h1.get' 0 (by rw[L];simp);rw[ae]at R;injection R with R
  injection R with R
  subst R;rw[ao];congr 3;simp[L]
 clear ap;subst ae;rcases(by omega:i.tag=2\/i.tag=3\/i.tag=4)with tt|tt|tt
 all_goals first
  |(rw[QU tt]at H;rw[QB I]at J K)
  |(rw[QU tt]at J;rw[QB I]at H K)
  |(rw[QU tt]at K;rw[QB I]at H J)
 all_goals
  clear t1 t24 tt L ha;go_enter func163,ntmps163;go_wp2_with (go_at_call 168;refine Qv (Ua) ?_;rintro c ag;rw[ag];clear ag);refine Uy (S:=fun c=>c.cell? (Ql xb 0)=some (Qc A)/\c.cell? (Ql w.heap.size 2)=some (Qa i.tag)/\c.cell? (Ql w.heap.size 4)=some (Qs g i.a.length q)/\c.cell? (Ql w.heap.size 6)=some (Qa i.at_)/\c.cell? (Ql g 0)=some (Qf x)) Qm ?_;have d:(w.alloc (Qe #[Qa i.op,Qa i.n,Qa i.tag,.bool i.oct,Qs g i.a.length q,.slice s i.b.length t,Qa i.at_] 63)).drew.cell? (Ql xb 0)=some (Qc A)/\(w.alloc (Qe #[Qa i.op,Qa i.n,Qa i.tag,.bool i.oct,Qs g i.a.length q,.slice s i.b.length t,Qa i.at_] 63)).drew.cell? (Ql w.heap.size 2)=some (Qa i.tag)/\(w.alloc (Qe #[Qa i.op,Qa i.n,Qa i.tag,.bool i.oct,Qs g i.a.length q,.slice s i.b.length t,Qa i.at_] 63)).drew.cell? (Ql w.heap.size 4)=some (Qs g i.a.length q)/\(w.alloc (Qe #[Qa i.op,Qa i.n,Qa i.tag,.bool i.oct,Qs g i.a.length q,.slice s i.b.length t,Qa i.at_] 63)).drew.cell? (Ql w.heap.size 6)=some (Qa i.at_)/\(w.alloc (Qe #[Qa i.op,Qa i.n,Qa i.tag,.bool i.oct,Qs g i.a.length q,.slice s i.b.length t,Qa i.at_] 63)).drew.cell? (Ql g 0)=some (Qf x):=⟨(ZO u (Fr.refl _ _)).1,(ZO u (Fr.refl _ _)).2 2,(ZO u (Fr.refl _ _)).2 4,(ZO u (Fr.refl _ _)).2 6,ab _ (Fr.refl _ _)⟩;refine QS 0 29 (Qc xb) rfl d (fun c ⟨k,l,p,y,z⟩=>by go_simp) ?_;simp only[pt,sz,sc];refine QS 1 30 (Qc xb) rfl d (fun c ⟨k,l,p,y,z⟩=>by go_simp) ?_;simp only[pt,sz,sc];refine QS 2 31 (Qc xb) rfl d (fun c ⟨k,l,p,y,z⟩=>by go_simp) ?_;simp only[pt,sz,sc];refine QS 3 32 (Qc A) rfl d (fun c ⟨k,l,p,y,z⟩=>by go_simp) ?_;simp only[pt,sz,sc];refine QS 4 33 (.pointer (some ⟨w.heap.size,2,none⟩)) rfl d (fun c ⟨k,l,p,y,z⟩=>by go_simp) ?_;simp only[pt,sz,sc];refine QS 5 34 (Qa i.tag) rfl d (fun c ⟨k,l,p,y,z⟩=>by go_simp) ?_;simp only[pt,sz,sc];refine QS 6 35 (.pointer (some ⟨w.heap.size,4,none⟩)) rfl d (fun c ⟨k,l,p,y,z⟩=>by go_simp) ?_;simp only[pt,sz,sc];refine QS 7 36 (Qs g i.a.length q) rfl d (fun c ⟨k,l,p,y,z⟩=>by go_simp) ?_;simp only[pt,sz,sc];refine QS 8 37 (Qc g) rfl d (fun c ⟨k,l,p,y,z⟩=>by go_simp) ?_;simp only[pt,sz,sc];refine QS 9 38 (Qf x) rfl d (fun c ⟨k,l,p,y,z⟩=>by go_simp) ?_;simp only[pt,sz,sc];refine QS 10 39 (.pointer (some ⟨w.heap.size,6,none⟩)) rfl d (fun c ⟨k,l,p,y,z⟩=>by go_simp) ?_;simp only[pt,sz,sc];refine QS 11 40 (Qa i.at_) rfl d (fun c ⟨k,l,p,y,z⟩=>by go_simp) ?_;simp only[pt,sz,sc];clear d;refine wpAnyH_all (rs:=[12]) Qm Qb (fun j X=>?_);simp only[List.mem_singleton]at X;subst X;refine Zp rfl (by rfl) ?_;go_simp;refine Z.mono ?_;intro e w2 V;rcases V.cases with⟨v,⟨s',E,rfl,Y⟩ | ⟨f,E,G,P,rfl,N⟩⟩
  rotate_left
  .exact⟨rfl,by rw[C.o,E];exact QZ.from (QZ.err rfl (v.mono (fun _ _=>PMc.st)) ⟨G,P,rfl,N⟩) (Fr.of_below (Zg))⟩
  have U:=O (u.o.st' Y v);have Q:=O (v.mono (fun _ _=>PMc.st (xb:=xb)));have ax:=O E;have ah:=O (ab w2 Q);have F:=O (ZO U Q);clear Y v V E;refine⟨⟨(F.o).1,(F.o).2 2,(F.o).2 4,(F.o).2 6,ah⟩,wpAnyH_done Qm ?_ _⟩
  try simp only[Act.put,K3,Ux,K4]
  go_wp2;go_end0;rw[C.o,ax.o];exact QZ.from (QZ.ok rfl Q U) (Fr.of_below (Zg))
theorem QzH{U:Nat}{ag:Nat}(h:MAt w B xb U M m ag)(F:Z_ w i av bv)(ht:Tab w):Calls prog 164 #[Qc xb,Zy i av bv] w (QZ (VO i m) B xb U M ag w):=by
 obtain⟨K,d,aq⟩:=F.a.len;obtain⟨L,f,ar⟩:=F.b.len;subst aq ar;have HO:=O F;have Z:=(h.box (Qe #[Qa i.op,Qa i.n,Qa i.tag,.bool i.oct,.slice K i.a.length d,.slice L i.b.length f,Qa i.at_] 63)).now;have H:=O (h.below (Zg (o:=Qe #[Qa i.op,Qa i.n,Qa i.tag,.bool i.oct,.slice K i.a.length d,.slice L i.b.length f,Qa i.at_] 63)));have af:=O (F.below (Zg (o:=Qe #[Qa i.op,Qa i.n,Qa i.tag,.bool i.oct,.slice K i.a.length d,.slice L i.b.length f,Qa i.at_] 63)));clear h F;unfold Zy;have ah:Tab (w.alloc (Qe #[Qa i.op,Qa i.n,Qa i.tag,.bool i.oct,.slice K i.a.length d,.slice L i.b.length f,Qa i.at_] 63)).drew:=ht.below (Zg);have aE:=O ah;clear ht ah;by_cases hc:0<=i.tag/\i.tag<=3/\i.a≠[]/\i.b≠[];rotate_left
 .have J:Hid (VO i m=.error (12,(m.now:Int))):=by show _=_;unfold VO XJ;rw[Qg hc]
  have T:(decide (0<=i.tag)&&decide (i.tag<=3)&&decide (0<i.a.length)&&decide (0<i.b.length))=false:=by
   rw[Bool.eq_false_iff];intro h;simp only[Jl,N9]at h;exact hc ⟨h.1.1.1,h.1.1.2,Xz.1 h.1.2,Xz.1 h.2⟩
  clear hc;by_cases V:0<=i.tag
  .have d1:=QU V;by_cases X:i.tag<=3
   .have d2:=QU X;by_cases h3:0<i.a.length
    .have d3:=QU h3;have d4:decide (0<i.b.length)=false:=by rw[d1,d2,d3]at T;simpa using T
     clear T;go_enter func164,ntmps164;go_wp2_with (go_at_call 168;refine(Kk Z).mono ?_;rintro e c ⟨⟨C,G,rfl,E⟩,A⟩);exact⟨rfl,by rw[J.o];exact QZ.from (QZ.err rfl (Fr.of_below A) ⟨C,G,rfl,E⟩) (JW)⟩
    .have d3:=QB h3;clear T;go_enter func164,ntmps164;go_wp2_with (go_at_call 168;refine(Kk Z).mono ?_;rintro e c ⟨⟨C,G,rfl,E⟩,A⟩);exact⟨rfl,by rw[J.o];exact QZ.from (QZ.err rfl (Fr.of_below A) ⟨C,G,rfl,E⟩) (JW)⟩
   .have d2:=QB X;clear T;go_enter func164,ntmps164;go_wp2_with (go_at_call 168;refine(Kk Z).mono ?_;rintro e c ⟨⟨C,G,rfl,E⟩,A⟩);exact⟨rfl,by rw[J.o];exact QZ.from (QZ.err rfl (Fr.of_below A) ⟨C,G,rfl,E⟩) (JW)⟩
  .have d1:=QB V;clear T;go_enter func164,ntmps164;go_wp2_with (go_at_call 168;refine(Kk Z).mono ?_;rintro e c ⟨⟨C,G,rfl,E⟩,A⟩);exact⟨rfl,by rw[J.o];exact QZ.from (QZ.err rfl (Fr.of_below A) ⟨C,G,rfl,E⟩) (JW)⟩
 obtain⟨V,X,ha,A⟩:=hc;obtain⟨x,r,N⟩:∃x r,i.a=x::r:=by cases hh:i.a with|nil=>exact absurd hh ha|cons x r=>exact⟨x,r,rfl⟩
 obtain⟨y,q,D⟩:∃y q,i.b=y::q:=by cases hh:i.b with|nil=>exact absurd hh A|cons x r=>exact⟨x,r,rfl⟩
 have J:Hid (VO i m=.ok (stL m (Ur m.st x i.tag y))):=by show _=_;unfold VO;rw[Qi ⟨V,X,ha,A⟩,N,D];rfl
 have aD:=HO.bl y (by rw[D];simp);have ao:=O (PX x i.tag y (w:=(w.alloc (Qe #[Qa i.op,Qa i.n,Qa i.tag,.bool i.oct,.slice K i.a.length d,.slice L i.b.length f,Qa i.at_] 63)).drew) H.o.sat aE I);obtain⟨g,ai,aB,ax⟩:=HO.a.get' 0 (by rw[N];simp);obtain⟨k,aj,aC,ay⟩:=HO.b.get' 0 (by rw[D];simp);have az:0<i.a.length:=by rw[N];simp
 have aA:0<i.b.length:=by rw[D];simp
 have d1:=QU V;have d2:=QU X;have d3:=QU az;have d4:=QU aA
 have ad:Hid (∀W,Fr (PMc B xb) (w.alloc (Qe #[Qa i.op,Qa i.n,Qa i.tag,.bool i.oct,.slice K i.a.length d,.slice L i.b.length f,Qa i.at_] 63)).drew W->W.cell? (Ql g 0)=some (Qf x)/\W.cell? (Ql k 0)=some (Qf y)):=fun W P=>by
  have e1:=af.a.pm P;have e2:=af.b.pm P;obtain⟨g',Q,_,au⟩:=e1.get' 0 (by rw[N];simp);obtain⟨k',R,_,aw⟩:=e2.get' 0 (by rw[D];simp);rw[ai]at Q;rw[aj]at R;injection Q with Q
  injection Q with Q
  injection R with R
  injection R with R
  subst Q R;refine⟨?_,?_⟩
  .rw[au];congr 3;simp[N]
  .rw[aw];congr 3;simp[D]
 clear ax ay;subst ai aj;clear N D ha A;go_enter func164,ntmps164;go_wp2_with (go_at_call 168;refine Qv (Ua) ?_;rintro c ak;rw[ak];clear ak);refine Uy (S:=fun c=>c.cell? (Ql xb 0)=some (Qc U)/\c.cell? (Ql w.heap.size 2)=some (Qa i.tag)/\c.cell? (Ql w.heap.size 4)=some (Qs g i.a.length d)/\c.cell? (Ql w.heap.size 5)=some (Qs k i.b.length f)/\c.cell? (Ql g 0)=some (Qf x)/\c.cell? (Ql k 0)=some (Qf y)) Qm ?_;have l:(w.alloc (Qe #[Qa i.op,Qa i.n,Qa i.tag,.bool i.oct,Qs g i.a.length d,Qs k i.b.length f,Qa i.at_] 63)).drew.cell? (Ql xb 0)=some (Qc U)/\(w.alloc (Qe #[Qa i.op,Qa i.n,Qa i.tag,.bool i.oct,Qs g i.a.length d,Qs k i.b.length f,Qa i.at_] 63)).drew.cell? (Ql w.heap.size 2)=some (Qa i.tag)/\(w.alloc (Qe #[Qa i.op,Qa i.n,Qa i.tag,.bool i.oct,Qs g i.a.length d,Qs k i.b.length f,Qa i.at_] 63)).drew.cell? (Ql w.heap.size 4)=some (Qs g i.a.length d)/\(w.alloc (Qe #[Qa i.op,Qa i.n,Qa i.tag,.bool i.oct,Qs g i.a.length d,Qs k i.b.length f,Qa i.at_] 63)).drew.cell? (Ql w.heap.size 5)=some (Qs k i.b.length f)/\(w.alloc (Qe #[Qa i.op,Qa i.n,Qa i.tag,.bool i.oct,Qs g i.a.length d,Qs k i.b.length f,Qa i.at_] 63)).drew.cell? (Ql g 0)=some (Qf x)/\(w.alloc (Qe #[Qa i.op,Qa i.n,Qa i.tag,.bool i.oct,Qs g i.a.length d,Qs k i.b.length f,Qa i.at_] 63)).drew.cell? (Ql k 0)=some (Qf y):=⟨(ZO H (Fr.refl _ _)).1,(ZO H (Fr.refl _ _)).2 2,(ZO H (Fr.refl _ _)).2 4,(ZO H (Fr.refl _ _)).2 5,ad _ (Fr.refl _ _)⟩;refine QS 0 26 (Qc xb) rfl l (fun c ⟨p,s,t,u,v,z⟩=>by go_simp) ?_;simp only[pt,sz,sc];refine QS 1 27 (Qc xb) rfl l (fun c ⟨p,s,t,u,v,z⟩=>by go_simp) ?_;simp only[pt,sz,sc];refine QS 2 28 (Qc xb) rfl l (fun c ⟨p,s,t,u,v,z⟩=>by go_simp) ?_;simp only[pt,sz,sc];refine QS 3 29 (Qc U) rfl l (fun c ⟨p,s,t,u,v,z⟩=>by go_simp) ?_;simp only[pt,sz,sc];refine QS 4 30 (.pointer (some ⟨w.heap.size,4,none⟩)) rfl l (fun c ⟨p,s,t,u,v,z⟩=>by go_simp) ?_;simp only[pt,sz,sc];refine QS 5 31 (Qs g i.a.length d) rfl l (fun c ⟨p,s,t,u,v,z⟩=>by go_simp) ?_;simp only[pt,sz,sc];refine QS 6 32 (Qc g) rfl l (fun c ⟨p,s,t,u,v,z⟩=>by go_simp) ?_;simp only[pt,sz,sc];refine QS 7 33 (Qf x) rfl l (fun c ⟨p,s,t,u,v,z⟩=>by go_simp) ?_;simp only[pt,sz,sc];refine QS 8 34 (.pointer (some ⟨w.heap.size,2,none⟩)) rfl l (fun c ⟨p,s,t,u,v,z⟩=>by go_simp) ?_;simp only[pt,sz,sc];refine QS 9 35 (Qa i.tag) rfl l (fun c ⟨p,s,t,u,v,z⟩=>by go_simp) ?_;simp only[pt,sz,sc];refine QS 10 36 (.pointer (some ⟨w.heap.size,5,none⟩)) rfl l (fun c ⟨p,s,t,u,v,z⟩=>by go_simp) ?_;simp only[pt,sz,sc];refine QS 11 37 (Qs k i.b.length f) rfl l (fun c ⟨p,s,t,u,v,z⟩=>by go_simp) ?_;simp only[pt,sz,sc];refine QS 12 38 (Qc k) rfl l (fun c ⟨p,s,t,u,v,z⟩=>by go_simp) ?_;simp only[pt,sz,sc];refine QS 13 39 (Qf y) rfl l (fun c ⟨p,s,t,u,v,z⟩=>by go_simp) ?_;simp only[pt,sz,sc];clear l;refine wpAnyH_all (rs:=[14]) Qm Qb (fun j hj=>?_);simp only[List.mem_singleton]at hj;subst hj;refine Zp rfl (by rfl) ?_;go_simp;refine ao.mono ?_;rintro e w2 ⟨P,rfl,hs⟩;have ae:=O (H.o.st' hs P);have ab:=O (P.mono (fun _ _=>PMc.st (xb:=xb)));have ap:=O (ad w2 ab);have Y:=O (ZO ae ab);clear hs P;refine⟨⟨(Y.o).1,(Y.o).2 2,(Y.o).2 4,(Y.o).2 5,ap⟩,wpAnyH_done Qm ?_ _⟩
 try simp only[Act.put,K3,Ux,K4]
 go_wp2;go_end0;exact QZ.from (QZ.ok J ab ae) (Fr.of_below (Zg))
theorem Qwu{b:Bool}:Calls prog 156 #[.bool b] w fun e w'=>e=.returned (QA 202 #[] #[Qc w.heap.size])/\w'=w.alloc (Qe #[.bool b] 4):=by
 go_enter func156,ntmps156;go_wp2;go_ret;exact⟨rfl,rfl⟩
theorem QwA{F:Nat}:Calls prog 157 #[.func (.func F) #[] #[]] w fun e w'=>e=.returned (QA 203 #[] #[Qc w.heap.size])/\w'=w.alloc (Qe #[.func (.func F) #[] #[]] 280):=by
 go_enter func157,ntmps157;go_wp2;go_ret;exact⟨rfl,rfl⟩
def fnV(F:Nat):Value:=.func (.func F) #[] #[]
def clV(F p:Nat):Value:=.func (.func F) #[] #[Qc p]
def EW(n:Nat):Array Value:=
 #[.nilFunc,fnV 153,fnV 154,fnV 155,clV 202 n,clV 202 (n+1),clV 203 (n+2),clV 203 (n+3),clV 203 (n+4),
  fnV 161,fnV 162,fnV 163,fnV 164,fnV 165,fnV 167]
structure Ug (w:World) (n:Nat):Prop where
 p0:w.heap[n]?=some (Qe #[.bool true] 4)
 p1:w.heap[n+1]?=some (Qe #[.bool false] 4)
 p2:w.heap[n+2]?=some (Qe #[fnV 158] 280)
 p3:w.heap[n+3]?=some (Qe #[fnV 159] 280)
 p4:w.heap[n+4]?=some (Qe #[fnV 160] 280)
 tb:w.heap[n+5]?=some (Qe (EW n) 277)
theorem Ug.fr(h:Ug w (xb+1))(a:Fr (PMc B xb) w w'):Ug w' (xb+1):=by
 have c:∀(k:Nat) (b:Bool),k<xb+7->¬PMc B xb k (Qe #[.bool b] 4):=fun k b e d=>by
  have:=d.2;unfold kO stO at this;simp at this;omega
 exact⟨a.block _ _ h.p0 (c _ _ I),a.block _ _ h.p1 (c _ _ I),a.block _ _ h.p2 (PMc.not Qb Qb Qb Qb),a.block _ _ h.p3 (PMc.not Qb Qb Qb Qb),a.block _ _ h.p4 (PMc.not Qb Qb Qb Qb),a.block _ _ h.tb (PMc.not Qb Qb Qb Qb)⟩
theorem Ug.below{n:Nat}(h:Ug w n)(hb:Qo w w'):Ug w' n:=
 ⟨Ze h.p0 hb,Ze h.p1 hb,Ze h.p2 hb,Ze h.p3 hb,Ze h.p4 hb,Ze h.tb hb⟩
theorem Qu3:Calls prog 105 #[] w fun e w'=>e=.returned (.slice (some ⟨w.heap.size+5,0,none⟩) 15 15)/\Ug w' w.heap.size/\Qo w w'/\w'.heap.size=w.heap.size+6:=by
 go_enter func105,ntmps105;go_wp2_with (first|(go_at_call 156;refine Qu (Qwu) ?_)|(go_at_call 157;refine Qu (QwA) ?_));go_ret;refine⟨Qh,?_,?_,Qh⟩
 .exact⟨QJ (QJ (QJ (QJ (QJ (Q0))))),QJ (QJ (QJ (QJ (ZB Qh)))),QJ (QJ (QJ (ZB Qh))),QJ (QJ (ZB Qh)),QJ (ZB Qh),ZB Qh⟩
 .exact((((((QH _).alloc Qh _).alloc (by simp;omega) _).alloc (by simp;omega) _).alloc (by simp;omega) _).alloc (by simp;omega) _)
def Yg(M:Msg)(hv:Value):Value:=.agg #[Qf M.fr,Qf M.to,Qa M.size,hv]
theorem Py{v:Bool}{i:Value}(a:Jj w i M.hdrs)(j:SBd M (ss0 v))(g:1<w.heap.size)(f:∃m,w.cell? (Ql 1 0)=some (Qa m)):Calls prog 104 #[.bool v,Yg M i] w fun e w'=>∃sb,e=.returned (Qc sb)/\SAt w' w.heap.size sb M (ss0 v)/\Qo w w':=by
 obtain⟨c,d,rfl⟩:=a.len;have l:=O a;have k:∀(w:World),(Instr.makeMap 270 none).run prog w=.ok (.map (some w.heap.size)) (w.alloc (Obj.map #[] 0)):=fun _=>rfl
 clear a;unfold Yg;go_enter func104,ntmps104;go_wp2;go_ret;have b:Qo w (((w.alloc (Qe #[Qf M.fr,Qf M.to,Qa M.size,.slice c M.hdrs.length d] 28)).alloc (Obj.map #[] 0)).alloc (Qe (Cf M (.slice c M.hdrs.length d) v (w.heap.size+1) Qp Qp false) 274)):=((QH _).alloc Qh _).alloc (by simp;omega) _;obtain⟨m,f⟩:=f;refine⟨w.heap.size+1+1,rfl,⟨.slice c M.hdrs.length d,w.heap.size+1,Qp,Qp,I,I,g,⟨m,?_⟩,?_,?_,⟨#[],0,?_,Vi.empty⟩,Qt ⟨rfl,rfl⟩,Z5,fun _=>rfl,j⟩,b⟩
 .exact(QN b f g)
 .exact ZB Qh
 .exact l.o.fr (P:=fun _ _=>False) (Fr.of_below b) (fun _ _ h=>h)
 .exact QJ (ZB Qh)
end
end Go.Proofs.YtgnkjijocdmniaaGreatDoor
