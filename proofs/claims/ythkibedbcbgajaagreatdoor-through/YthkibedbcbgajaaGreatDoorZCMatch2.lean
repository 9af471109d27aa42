import Derived.MapKept
import Derived.Maps.RangeWalk
import Derived.Maps.Ext
import Derived.Deep.AppendLies
import Derived.Deep.RegionLaw
import Derived.Maps.OwnOps
import Derived.Laws.OwnMore
import Derived.Test.YthkibedbcbgajaaGreatDoorZTestEnd
namespace Go.Proofs.YthkibedbcbgajaaGreatDoor
set_option linter.unusedVariables false
set_option linter.unusedSimpArgs false
set_option maxRecDepth 100000
set_option maxHeartbeats 4000000
open Go.Proofs.Tryz
section
open Go.RowKit
structure Fr (P:Nat→Obj→Prop) (w w':World):Prop where
 os:w'.os=w.os
 tape:w'.tape=w.tape
 output:w'.output=w.output
 size:w.heap.size≤w'.heap.size
 block:∀ k o,w.heap[k]?=some o→¬ P k o→w'.heap[k]?=some o
theorem Fr.refl(P:Nat->Obj->Prop)(w:World):Fr P w w:=⟨rfl,rfl,rfl,Nat.le_refl _,fun _ _ h _=>h⟩
theorem Fr.trans{P:Nat->Obj->Prop}{u v w:World}(h:Fr P u v)(k:Fr P v w):Fr P u w:=
 ⟨k.os.trans h.os,k.tape.trans h.tape,k.output.trans h.output,Nat.le_trans h.size k.size,fun i o hi hn=>k.block i o (h.block i o hi hn) hn⟩
theorem Fr.mono{P Q:Nat->Obj->Prop}{u v:World}(h:Fr P u v)(hq:∀ k o,P k o->Q k o):Fr Q u v:=
 ⟨h.os,h.tape,h.output,h.size,fun i o hi hn=>h.block i o hi (fun hp=>hn (hq _ _ hp))⟩
theorem Fr.of_below{P:Nat->Obj->Prop}{w w':World}(h:Below w.heap.size w w'):Fr P w w':=
 ⟨h.os,h.tape,h.output,h.size,fun k o hk _=>Qai hk h⟩
theorem Fr.below{P:Nat->Obj->Prop}{w w':World}{B:Nat}(h:Fr P w w')(hB:∀ k o,P k o->B<=k)(hz:B<=w.heap.size):Below B w w':=
 ⟨h.os,h.tape,h.output,h.size,fun k hk=>by
  have hl:k<w.heap.size:=by omega
  rw[Array.getElem?_eq_getElem hl]
  exact h.block k _ (Array.getElem?_eq_getElem hl) (fun hp=>by have:=hB _ _ hp;omega)⟩
theorem Fr.set{P:Nat->Obj->Prop}{u w:World}{b:Nat}{o:Obj}(h:Fr P u w)(hb:w.heap[b]?=some o)(hp:P b o)(j:Nat)(v:Value):Fr P u (w.setCell ⟨b,j,none⟩ v):=
 h.trans ⟨rfl,rfl,rfl,by simp [World.setCell],fun k o' hk hn=>by
  by_cases e:k=b
  ·subst e;rw[hb]at hk;cases hk;exact absurd hp hn
  ·rw [Below.heap_setCell _ _ _ _ e];exact hk⟩
theorem Fr.alloc{P:Nat->Obj->Prop}{u w:World}(h:Fr P u w)(o:Obj):Fr P u (w.alloc o):=
 h.trans ⟨rfl,rfl,rfl,by simp,fun k o' hk _=>Qac hk⟩
theorem Fr.drew{P:Nat->Obj->Prop}{u w:World}(h:Fr P u w):Fr P u w.drew:=⟨h.os,h.tape,h.output,h.size,h.block⟩
theorem Fr.grown{P:Nat->Obj->Prop}{u w w':World}{row:Option Nat}(h:Fr P u w)(hg:w.grownBy w' row)(hp:∀ k o,row=some k->w.heap[k]?=some o->P k o):Fr P u w':=
 h.trans ⟨hg.os,hg.tape,hg.output,hg.size,fun k o hk hn=>by
  rw [hg.block k (Qar hk) (fun e=>hn (hp k o e.symm hk))];exact hk⟩
def stO:Obj→Bool
 | .cells _ t _=>t == 227 || t == 34
 | .map _ _=>true
 | _=>false
def PSt (B k:Nat) (o:Obj):Prop:=B≤k∧stO o=true
theorem PSt.not{B k:Nat}{cs:Array Value}{t:TypeId}{f:Nat×Nat}(h1:t≠227)(h2:t≠34):¬ PSt B k (.cells cs t f):=fun h=>by
 have:=h.2;unfold stO at this;simp at this;rcases this with h|h
 ·exact h1 h
 ·exact h2 h
def Qv1 (w:World) (g:Nat) (zs:List (L8)):Prop:=
 ∃ cs,w.heap[g]?=some (.cells cs 9)∧∀ j,j < zs.length→cs[j]?=some (.string (sA (zs.getD j [])))
theorem Qv1.at{w:World}{g:Nat}{zs:List (L8)}(h:Qv1 w g zs):Qc5 w g zs:=by
 obtain⟨cs,hb,hc⟩:=h;intro j hj;rw[Qaa hb];exact hc j hj
def SlT (w:World) (v:Value) (zs:List (L8)):Prop:=
 (v=.slice none 0 0∧zs=[])∨∃ g c,v=.slice (some ⟨g,0,none⟩) zs.length c∧Qv1 w g zs
theorem SlT.fr{P:Nat->Obj->Prop}{w w':World}{v:Value}{zs:List (L8)}(h:SlT w v zs)(hf:Fr P w w')(hp:∀ k cs,¬ P k (.cells cs 9)):SlT w' v zs:=by
 rcases h with h | ⟨g,c,hv,cs,hb,hc⟩
 ·exact Or.inl h
 ·exact Or.inr ⟨g,c,hv,cs,hf.block g _ hb (hp _ _),hc⟩
theorem SlT.below{w w':World}{v:Value}{zs:List (L8)}(h:SlT w v zs)(hf:Below w.heap.size w w'):SlT w' v zs:=h.fr (P:=fun _ _=>False) (Fr.of_below hf) (fun _ _ h=>h)
theorem SlT.len{w:World}{v:Value}{zs:List (L8)}(h:SlT w v zs):∃ a c,v=.slice a zs.length c:=by
 rcases h with⟨h,rfl⟩ | ⟨g,c,h,_⟩
 ·exact⟨none,0,h⟩
 ·exact⟨_,_,h⟩
theorem QmE(zs:List (L8))(j:Nat)(hj:j<zs.length):(QaD zs)[j]?=some (.string (sA (zs.getD j []))):=by
 simp[QaD,List.getElem?_eq_getElem hj,List.getD_eq_getElem?_getD]
theorem SlT.of_owns{w:World}{base n:Nat}{v:Value}{xs:List (L8)}(h:w.ownsRow base 9 1 v n (QaD xs))(hn:n=xs.length):SlT w v xs:=by
 subst hn;obtain⟨h1,h2⟩:=h;rcases h2 with⟨h2,h3⟩ | ⟨g,aa,ab,hv,hg,hb,hc,_,hs,ht⟩
 ·exact Or.inl ⟨h2,List.eq_nil_of_length_eq_zero h3⟩
 ·refine Or.inr ⟨g,aa,hv,ab,hb,fun j hj=>?_⟩;have h4:=QmE xs j hj;rw[<-ht]at h4;rw[List.getElem?_take_of_lt (by omega)]at h4;rw[<-h4];simp
theorem Qv1.of_owns{w:World}{base g n c:Nat}{xs:List (L8)}(h:w.ownsRow base 9 1 (.slice (some ⟨g,0,none⟩) n c) n (QaD xs)):Qv1 w g xs:=by
 have hn:n=xs.length:=by have:=h.1;rw[Qlf]at this;omega
 rcases SlT.of_owns h hn with⟨h1,_⟩ | ⟨g',c',h1,h2⟩
 ·injection h1 with h1;cases h1
 ·injection h1 with h3 h4 h5
  injection h3 with h3
  injection h3 with h6
  subst h6;exact h2
theorem SlT.new(w:World)(zs:List (L8)):SlT (w.alloc (.cells (QaD zs).toArray 9)) (.slice (some ⟨w.heap.size,0,none⟩) zs.length zs.length) zs:=
 Or.inr ⟨w.heap.size,zs.length,rfl,_,Qam _ _,fun j hj=>by rw[List.getElem?_toArray];exact QmE zs j hj⟩
def QjG (w:World) (hv:Value) (hs:List (L8×L8)):Prop:=
 (hv=.slice none 0 0∧hs=[])∨∃ g c cs,hv=.slice (some ⟨g,0,none⟩) hs.length c∧w.heap[g]?=some (.cells cs 25)∧
   ∀ j (hj:j < hs.length),cs[j*2]?=some (.string (sA hs[j].1))∧cs[j*2+1]?=some (.string (sA hs[j].2))
theorem QjG.fr{P:Nat->Obj->Prop}{w w':World}{v:Value}{hs:List (L8×L8)}(h:QjG w v hs)(hf:Fr P w w')(hp:∀ k cs,¬ P k (.cells cs 25)):QjG w' v hs:=by
 rcases h with h | ⟨g,c,cs,hv,hb,hc⟩
 ·exact Or.inl h
 ·exact Or.inr ⟨g,c,cs,hv,hf.block g _ hb (hp _ _),hc⟩
theorem QjG.len{w:World}{v:Value}{hs:List (L8×L8)}(h:QjG w v hs):∃ a c,v=.slice a hs.length c:=by
 rcases h with⟨h,rfl⟩ | ⟨g,c,cs,h,_⟩
 ·exact⟨none,0,h⟩
 ·exact⟨_,_,h⟩
theorem QjG.cells{w:World}{v:Value}{hs:List (L8×L8)}(h:QjG w v hs)(j:Nat)(hj:j<hs.length):∃ g c,v=.slice (some ⟨g,0,none⟩) hs.length c/\g<w.heap.size/\w.cell? ⟨g,j*2,none⟩=some (.string (sA hs[j].1))/\w.cell? ⟨g,j*2+1,none⟩=some (.string (sA hs[j].2)):=by
 rcases h with⟨_,rfl⟩ | ⟨g,c,cs,h,hb,hc⟩
 ·exact absurd hj (Nat.not_lt_zero _)
 ·exact⟨g,c,h,Qar hb,by rw[Qaa hb];exact(hc j hj).1,by rw[Qaa hb];exact(hc j hj).2⟩
def Qbj (l:List (Int×L8)):List Value:=l.flatMap fun a=>[.int .i64 a.1,.string (sA a.2)]
theorem Qib(l:List (Int×L8))(a:Int×L8):Qbj l++[.int .i64 a.1,.string (sA a.2)]=Qbj (l++[a]):=by simp[Qbj]
theorem QdZ(l:List (Int×L8)):(Qbj l).length=l.length*2:=by
 induction l with
 |nil=>rfl
 |cons p r ih=>simp only[Qbj,List.flatMap_cons,List.length_append,List.length_cons,List.length_nil]at ih ⊢;omega
theorem Qgv(l:List (Int×L8))(j:Nat)(hj:j<l.length):(Qbj l)[j*2]?=some (.int .i64 l[j].1)/\(Qbj l)[j*2+1]?=some (.string (sA l[j].2)):=by
 induction l generalizing j with
 |nil=>exact absurd hj (Nat.not_lt_zero _)
 |cons p r ih=>
  cases j with
  |zero=>exact⟨rfl,rfl⟩
  |succ j=>
   have:=ih j (by simpa using hj);have e:Qbj (p::r)=.int .i64 p.1 :: .string (sA p.2)::Qbj r:=rfl;have e1:(j+1)*2=j*2+1+1:=by omega
   have e2:(j+1)*2+1=(j*2+1)+1+1:=by omega
   rw[e,e1,List.getElem?_cons_succ,List.getElem?_cons_succ,List.getElem?_cons_succ,List.getElem?_cons_succ];exact this
theorem Qat{w:World}{base:Nat}{e:TypeId}{size:Nat}{v:Value}{n:Nat}{xs:List Value}(h:w.ownsRow base e size v n xs):∃ a c,v=.slice a n c:=by
 rcases h.2 with⟨h,h2⟩ | ⟨g,cap,cur,h,_⟩
 ·exact⟨none,0,by rw[h,h2]⟩
 ·exact⟨_,_,h⟩
theorem QaR{P:Nat->Obj->Prop}{w w':World}{base:Nat}{e:TypeId}{size:Nat}{v:Value}{n:Nat}{xs:List Value}(h:w.ownsRow base e size v n xs)(hf:Fr P w w')(hp:∀ k cs,¬ P k (.cells cs e)):w'.ownsRow base e size v n xs:=by
 obtain⟨h1,h2⟩:=h;refine⟨h1,?_⟩;rcases h2 with h2 | ⟨g,aa,ab,hv,hg,hh,r⟩
 ·exact Or.inl h2
 ·exact Or.inr ⟨g,aa,ab,hv,hg,hf.block g _ hh (hp _ _),r⟩
theorem Qig{w:World}{base aa:Nat}{e:TypeId}{size:Nat}{v:Value}{n:Nat}{xs:List Value}(h:w.ownsRow base e size v n xs)(hb:aa<=base):w.ownsRow aa e size v n xs:=by
 obtain⟨h1,h2⟩:=h;refine⟨h1,?_⟩;rcases h2 with h2 | ⟨g,ab,ac,hv,hg,r⟩
 ·exact Or.inl h2
 ·exact Or.inr ⟨g,ab,ac,hv,by omega,r⟩
theorem Qbb{w:World}{base:Nat}{e:TypeId}{size:Nat}{v:Value}{n:Nat}{xs:List Value}(h:w.ownsRow base e size v n xs)(k:Nat)(o:Obj)(hk:v.ownBlock=some k)(ho:w.heap[k]?=some o):base<=k/\∃ cs,o=.cells cs e:=by
 rcases h.2 with⟨rfl,_⟩ | ⟨g,cap,cur,rfl,hg,hh,_⟩
 ·cases hk
 ·obtain rfl:g=k:=by simpa[Value.ownBlock]using hk
  rw[hh]at ho;cases ho;exact⟨hg,_,rfl⟩
theorem Qcq{w:World}{base:Nat}{e:TypeId}{size:Nat}{v:Value}{n:Nat}{xs:List Value}(h:w.ownsRow base e size v n xs)(hn:0<n):∃ g c,v=.slice (some ⟨g,0,none⟩) n c/\base<=g/\g<w.heap.size/\∀ j u,xs[j]?=some u->w.cell? ⟨g,j,none⟩=some u:=by
 rcases h.2 with⟨_,h2⟩ | ⟨g,aa,cur,hv,hg,hh,_⟩
 ·omega
 ·refine⟨g,aa,hv,hg,Qar hh,fun j u hj=>?_⟩;have:=h.cells (g:=g) (by rw[hv];rfl) j u hj;rwa [Qbu]at this
def Qug (es:Array MapEntry) (f:L8→Option Value):Prop:=
 (∀ e∈es.toList,∃ x,e.key=.string (sA x)∧f x=some e.val)∧(∀ x v,f x=some v→∃ e∈es.toList,e.key=.string (sA x))∧es.toList.Pairwise (fun a b=>a.key≠b.key)
theorem Qug.empty:Qug #[] (fun _=>none):=⟨fun e he=>(by simp at he),fun x v h=>(by cases h),by simp⟩
theorem Qug.keys{es:Array MapEntry}{f:L8->Option Value}(h:Qug es f):∀ e∈es.toList,MapKept.IsKey .string e.key:=fun e he=>by
 obtain⟨x,hx,_⟩:=h.1 e he;rw[hx];trivial
theorem Qkh{x y:L8}(h:Value.string (sA x)=.string (sA y)):x=y:=by injection h with h;exact Qf8 h
theorem QhR{T K E:TypeId}(hT:Tryz.prog.underlying T=some (.map K E))(hK:Tryz.prog.underlying K=some .string){w:World}{m:Nat}{es:Array MapEntry}{c:Nat}{f g:L8->Option Value}(hm:w.heap[m]?=some (.map es c))(hf:Qug es f)(x:L8)(v:Value)(hx:g x=some v)(hg:∀ z,z≠x->g z=f z) :
 ∃ es' c',(Instr.mapUpdate T (.map (some m)) (.string (sA x)) v).run Tryz.prog w=.ok () { w with heap:=w.heap.setIfInBounds m (.map es' c') }/\Qug es' g:=by
 have hk:MapKept.IsKey .string (.string (sA x)):=trivial;rcases MapKept.findNow_spec hk es.toList 0 hf.keys with⟨h1,h2⟩ | ⟨j,e,h1,h2,h3⟩
 ·refine⟨es.push ⟨.string (sA x),v,c⟩,c+1,?_,?_,?_,?_⟩
  ·simp[Instr.mapUpdate,run_underlying hT,MapKept.run_getObj_map hm,MapKept.run_checkKey hK hk,MapKept.run_findKey hK h1,MapKept.run_setObj_map _ hm,Result.andThen]
  ·intro e he;simp only[Array.toList_push,List.mem_append,List.mem_singleton]at he;rcases he with he|rfl
   ·obtain⟨z,hz,ae⟩:=hf.1 e he;refine⟨z,hz,?_⟩;rw[hg z (fun ez=>h2 e he (by rw[hz,ez]))];exact ae
   ·exact⟨x,rfl,hx⟩
  ·intro z u hz;by_cases ez:z=x
   ·exact⟨⟨.string (sA x),v,c⟩,by simp,by rw[ez]⟩
   ·rw[hg z ez]at hz;obtain⟨e,he,ag⟩:=hf.2.1 z u hz;exact⟨e,by simp[he],ag⟩
  ·rw[Array.toList_push,List.pairwise_append];refine⟨hf.2.2,by simp,fun a ha b hb=>?_⟩;simp at hb;subst hb;exact h2 a ha
 ·have hj:es[j]?=some e:=by simpa using h2
  have aa:j<es.toList.length:=by
   rcases Nat.lt_or_ge j es.toList.length with h|h
   ·exact h
   ·rw[List.getElem?_eq_none h]at h2;cases h2
  have ad:(es.modify j (fun e=>{ e with key:=.string (sA x),val:=v })).toList=es.toList.set j { e with key:=.string (sA x),val:=v }:=by
   apply List.ext_getElem?;intro i;rw[Array.getElem?_toList,Array.getElem?_modify,List.getElem?_set];by_cases hi:j=i
   ·subst hi;simp[hj,aa];exact(by simpa using aa)
   ·simp[hi]
  refine⟨es.modify j (fun e=>{ e with key:=.string (sA x),val:=v }),c,?_,?_,?_,?_⟩
  ·simp[Instr.mapUpdate,run_underlying hT,MapKept.run_getObj_map hm,MapKept.run_checkKey hK hk,MapKept.run_findKey hK h1,hj,h3,MapKept.run_keyThatStays hk,MapKept.run_setObj_map _ hm,Result.andThen]
  ·intro a ha;rw[ad]at ha;obtain⟨i,hi⟩:=List.mem_iff_getElem?.1 ha;rw[List.getElem?_set]at hi;by_cases ac:j=i
   ·rw[if_pos ac,if_pos (by omega)]at hi;cases hi;exact⟨x,rfl,hx⟩
   ·rw[if_neg ac]at hi;obtain⟨z,hz,ae⟩:=hf.1 a (List.mem_of_getElem? hi);refine⟨z,hz,?_⟩;rw[hg z (fun ez=>?_)];exact ae;have hp:=List.pairwise_iff_getElem.1 hf.2.2
    have af:i<es.toList.length:=by
     rcases Nat.lt_or_ge i es.toList.length with h|h
     ·exact h
     ·rw[List.getElem?_eq_none h]at hi;cases hi
    have e1:es.toList[i]=a:=by rw[List.getElem?_eq_getElem af]at hi;exact Option.some.inj hi
    have e2:es.toList[j]=e:=by rw[List.getElem?_eq_getElem aa]at h2;exact Option.some.inj h2
    have ab:a.key=e.key:=by rw[hz,h3,ez]
    rcases Nat.lt_or_gt_of_ne ac with hlt|hlt
    ·exact hp j i aa af hlt (by rw[e1,e2,ab])
    ·exact hp i j af aa hlt (by rw[e1,e2,ab])
  ·intro z u hz;by_cases ez:z=x
   ·refine⟨{ e with key:=.string (sA x),val:=v },?_,by rw[ez]⟩;rw[ad];exact List.mem_set aa _
   ·rw[hg z ez]at hz;obtain⟨a,ha,ab⟩:=hf.2.1 z u hz;obtain⟨i,hi⟩:=List.mem_iff_getElem?.1 ha
    have ac:j≠i:=fun e'=>by
     subst e';rw[h2]at hi;cases hi;rw[h3]at ab;exact ez (Qkh ab).symm
    refine⟨a,?_,ab⟩;rw[ad];refine List.mem_iff_getElem?.2 ⟨i,?_⟩;rw[List.getElem?_set,if_neg ac];exact hi
  ·rw[ad,List.pairwise_iff_getElem];intro a b ha hb ah;have hp:=List.pairwise_iff_getElem.1 hf.2.2;rw[List.length_set]at ha hb;have e2:es.toList[j]=e:=by rw[List.getElem?_eq_getElem aa]at h2;exact Option.some.inj h2
   rw[List.getElem_set,List.getElem_set];have hh:=hp a b ha hb ah;split
   ·next h=>subst h;rw[if_neg (by omega)];rw[e2,h3]at hh;exact hh
   ·split
    ·next h=>subst h;rw[e2,h3]at hh;exact hh
    ·exact hh
theorem QuA{T K E:TypeId}(hT:Tryz.prog.underlying T=some (.map K E))(hK:Tryz.prog.underlying K=some .string){z:Value}(hE:∀ W,(zeroValue E).run Tryz.prog W=.ok z W){w:World}{m:Nat}{es:Array MapEntry}{c:Nat}{f:L8->Option Value}(hm:w.heap[m]?=some (.map es c))(hf:Qug es f)(x:L8) :
 (Instr.lookup T (.map (some m)) (.string (sA x)) false).run Tryz.prog w=.ok ((f x).getD z) w:=by
 have hk:MapKept.IsKey .string (.string (sA x)):=trivial;rcases MapKept.findNow_spec hk es.toList 0 hf.keys with⟨h1,h2⟩ | ⟨j,e,h1,h2,h3⟩
 ·have hn:f x=none:=by
   cases hfx:f x with
   |none=>rfl
   |some v=>
    obtain⟨e,he,aa⟩:=hf.2.1 x v hfx;exact absurd aa (h2 e he)
  rw[hn];simp[Instr.lookup,run_underlying hT,MapKept.run_getObj_map hm,MapKept.run_checkKey hK hk,MapKept.run_findKey hK h1,hE,Result.andThen]
 ·obtain⟨y,hy,ab⟩:=hf.1 e (List.mem_of_getElem? h2);rw[h3]at hy;have:x=y:=Qkh hy;subst this;rw[ab];simp[Instr.lookup,run_underlying hT,MapKept.run_getObj_map hm,MapKept.run_checkKey hK hk,MapKept.run_findKey hK h1,Result.andThen]
structure SBd (M:Msg) (s:SS):Prop where
 fr:M.fr.length≤100000
 tu:M.to.length≤100000
 hl:M.hdrs.length≤100000
 hd:∀ h∈M.hdrs,h.1.length≤100000∧h.2.length≤100000
 told:∀ t∈s.told,t.length≤100000
 tl:s.told.length≤1000000
 vals:∀ x t,s.vals x=some t→t.length≤48
 met:s.met.length≤6
def QlJ (M:Msg) (hv:Value) (vs:Bool) (mb:Nat) (tv mv:Value) (disc:Bool):Array Value:=
 #[.string (sA M.fr),.string (sA M.to),.int .i64 M.size,hv,.bool vs,.map (some mb),tv,mv,.bool disc]
def QnR (s:SS) (x:L8):Option Value:=(s.vals x).map fun t=>.agg #[.string (sA t)]
structure SI (w:World) (B sb:Nat) (M:Msg) (s:SS) (hv:Value) (mb:Nat) (tv mv:Value):Prop where
 bs:B≤sb
 bm:B≤mb
 b1:1 < B
 m1:∃ m,w.cell? ⟨1,0,none⟩=some (.int .i64 m)
 blk:w.heap[sb]?=some (.cells (QlJ M hv s.vs mb tv mv s.disc) 227)
 hd:QjG w hv M.hdrs
 mp:∃ es c,w.heap[mb]?=some (.map es c)∧Qug es (QnR s)
 told:SlT w tv s.told
 met:w.ownsRow B 34 2 mv s.met.length (Qbj s.met)
 mn:s.met=[]→mv=.slice none 0 0
 bd:SBd M s
def SAt (w:World) (B sb:Nat) (M:Msg) (s:SS):Prop:=∃ hv mb tv mv,SI w B sb M s hv mb tv mv
theorem SI.fr{P:Nat->Obj->Prop}{w w':World}{B sb:Nat}{M:Msg}{s:SS}{hv:Value}{mb:Nat}{tv mv:Value}(h:SI w B sb M s hv mb tv mv)(hf:Fr P w w')(h1:∀ k cs,¬ P k (.cells cs 227))(h2:∀ k cs,¬ P k (.cells cs 34))(h3:∀ k cs,¬ P k (.cells cs 9))(h4:∀ k cs,¬ P k (.cells cs 25))(h5:∀ k es c,¬ P k (.map es c))(h6:∀ o,¬ P 1 o):SI w' B sb M s hv mb tv mv:=by
 obtain⟨es,c,hm,hu⟩:=h.mp;obtain⟨m,h7⟩:=h.m1;have h8:∃ o,w.heap[1]?=some o:=⟨_,Array.getElem?_eq_getElem (Qau h7)⟩;obtain⟨o,h8⟩:=h8;exact⟨h.bs,h.bm,h.b1,⟨m,by rw[World.cell?_of_block (a:=⟨1,0,none⟩) ((hf.block 1 o h8 (h6 o)).trans h8.symm)];exact h7⟩,hf.block _ _ h.blk (h1 _ _),h.hd.fr hf h4,⟨es,c,hf.block _ _ hm (h5 _ _ _),hu⟩,h.told.fr hf h3,QaR h.met hf h2,h.mn,h.bd⟩
theorem SI.below{w w':World}{B sb:Nat}{M:Msg}{s:SS}{hv:Value}{mb:Nat}{tv mv:Value}(h:SI w B sb M s hv mb tv mv)(hf:Below w.heap.size w w'):SI w' B sb M s hv mb tv mv:=
 h.fr (P:=fun _ _=>False) (Fr.of_below hf) (fun _ _ h=>h) (fun _ _ h=>h) (fun _ _ h=>h) (fun _ _ h=>h) (fun _ _ _ h=>h) (fun _ h=>h)
theorem SAt.below{w w':World}{B sb:Nat}{M:Msg}{s:SS}(h:SAt w B sb M s)(hf:Below w.heap.size w w'):SAt w' B sb M s:=by
 obtain⟨hv,mb,tv,mv,h⟩:=h;exact⟨hv,mb,tv,mv,h.below hf⟩
theorem SI.cell{w:World}{B sb:Nat}{M:Msg}{s:SS}{hv:Value}{mb:Nat}{tv mv:Value}(h:SI w B sb M s hv mb tv mv)(j:Nat):w.cell? ⟨sb,j,none⟩=(QlJ M hv s.vs mb tv mv s.disc)[j]?:=Qaa h.blk j
theorem SI.frozen{w:World}{B sb:Nat}{M:Msg}{s:SS}{hv:Value}{mb:Nat}{tv mv:Value}(h:SI w B sb M s hv mb tv mv)(j:Nat):w.frozen? ⟨sb,j,none⟩=false:=Qah h.blk j
theorem SI.lt{w:World}{B sb:Nat}{M:Msg}{s:SS}{hv:Value}{mb:Nat}{tv mv:Value}(h:SI w B sb M s hv mb tv mv):sb<w.heap.size:=Qar h.blk
theorem SI.ps{w:World}{B sb:Nat}{M:Msg}{s:SS}{hv:Value}{mb:Nat}{tv mv:Value}(h:SI w B sb M s hv mb tv mv):PSt B sb (.cells (QlJ M hv s.vs mb tv mv s.disc) 227):=⟨h.bs,rfl⟩
end
section
open Go.RowKit
open Go.ChangeMaps (setBlock heap_setBlock_other)
theorem QwL:Tryz.prog.underlying 9=some .string:=by kernel_rfl
theorem Qvk:Tryz.prog.underlying 56=some (.map 9 73):=by kernel_rfl
theorem Qoa:Maps.Keyed Tryz.prog 9:=Maps.string_keyed QwL
theorem Qyb{x:L8}(h:x.length<=1000000):keyOf Tryz.prog 9 (.string (sA x))=some (.string x):=WideMaps.keyOf_string_mk QwL (by rw[Qal];unfold maxLen;omega)
def ptrR (v:Value):Option (DataW Unit×List MemPlace):=
 match v with
 | .pointer (some a)=>if a=⟨a.block,0,none⟩ then some (.lit (.int .i64 a.block),[]) else none
 | _=>none
theorem QkY(k:Nat):ptrR (.pointer (some ⟨k,0,none⟩))=some (.lit (.int .i64 k),[]):=by
 unfold ptrR;simp
theorem Qqr{v:Value}{y:DataW Unit×List MemPlace}(h:ptrR v=some y):∃ k:Nat,v=.pointer (some ⟨k,0,none⟩)/\y=(.lit (.int .i64 k),[]):=by
 unfold ptrR at h
 split at h
 ·rename_i a
  split at h
  ·rename_i ha;cases h;exact⟨a.block,by rw[<-ha],rfl⟩
  ·cases h
 ·cases h
abbrev Fs:=L8→Option (L8)
def Qfp (F:Fs) (x s:L8):Fs:=fun z=>if z=x then some s else F z
def Qj2 (F:Fs) (x:L8):Fs:=fun z=>if z=x then none else F z
def QxR (w:World) (D:DataW Unit) (F:Fs):Prop:=
 (∀ x,F x=none→Maps.has D (.string x)=false)∧∀ x s,F x=some s→∃ k:Nat,(∀ z,D.atKey (.string x) z=.lit (.int .i64 k))∧w.heap[k]?=some (.cells #[.string (sA s)] 9)
def Qfu (w:World) (b n:Nat) (F:Fs):Prop:=∃ D:DataW Unit,w.ownsMap Tryz.prog 9 ptrR b n D∧QxR w D F
theorem QxR.fr{P:Nat->Obj->Prop}{w w':World}{D:DataW Unit}{F:Fs}(h:QxR w D F)(hf:Fr P w w')(h2:∀ k cs,¬ P k (.cells cs 9)):QxR w' D F:=
 ⟨h.1,fun x s hx=>by obtain⟨k,h3,h4⟩:=h.2 x s hx;exact⟨k,h3,hf.block k _ h4 (h2 _ _)⟩⟩
theorem Qfl{P:Nat->Obj->Prop}{w w':World}{b n:Nat}{D:DataW Unit}(h:w.ownsMap Tryz.prog 9 ptrR b n D)(hf:Fr P w w')(h1:∀ es c,¬ P b (.map es c)):w'.ownsMap Tryz.prog 9 ptrR b n D:=by
 obtain⟨es,c,hb,r⟩:=h;exact⟨es,c,hf.block b _ hb (h1 _ _),r⟩
theorem Qfu.fr{P:Nat->Obj->Prop}{w w':World}{b n:Nat}{F:Fs}(h:Qfu w b n F)(hf:Fr P w w')(h1:∀ es c,¬ P b (.map es c))(h2:∀ k cs,¬ P k (.cells cs 9)):Qfu w' b n F:=by
 obtain⟨D,h3,h4⟩:=h;exact⟨D,Qfl h3 hf h1,h4.fr hf h2⟩
theorem Qfu.below{w w':World}{b n:Nat}{F:Fs}(h:Qfu w b n F)(hb:Below w.heap.size w w'):Qfu w' b n F:=h.fr (P:=fun _ _=>False) (Fr.of_below hb) (fun _ _ h=>h) (fun _ _ h=>h)
theorem Qfu.mono{w:World}{b n m:Nat}{F:Fs}(h:Qfu w b n F)(hn:n<=m):Qfu w b m F:=by obtain⟨D,h3,h4⟩:=h;exact⟨D,h3.mono hn,h4⟩
theorem QdS{w w':World}{b:Nat}(h:w.mapTurned w' b):Fr (fun k o=>k=b/\∃ es c,o=.map es c) w w':=by
 obtain⟨es,c,es',c',hb,rfl⟩:=h;refine⟨rfl,rfl,rfl,by simp[setBlock],fun k o hk hn=>?_⟩;by_cases e:k=b
 ·subst e;rw[hb]at hk;cases hk;exact absurd ⟨rfl,_,_,rfl⟩ hn
 ·rw[heap_setBlock_other hb _ e];exact hk
theorem QpO{x y:L8}(h:¬ x=y):(Lit.string x)≠.string y:=fun e=>h (by injection e)
theorem Qp0{w:World}{b n k:Nat}{F:Fs}{x s:L8}(h:Qfu w b n F)(hn:n<=1000000)(hx:x.length<=1000000)(hk:w.heap[k]?=some (.cells #[.string (sA s)] 9)) :
 ∃ w',(Instr.mapUpdate 56 (.map (some b)) (.string (sA x)) (.pointer (some ⟨k,0,none⟩))).run Tryz.prog w=.ok () w'/\Qfu w' b (n+1) (Qfp F x s)/\w.mapTurned w' b:=by
 obtain⟨D,h1,h2⟩:=h;obtain⟨w',hr,ho,ht⟩:=h1.store Qoa Qvk (by unfold maxLen;omega) (Qyb hx) (QkY k);have hF:=h2.fr (QdS ht) (fun k cs ⟨_,es,c,e⟩=>by cases e);have aa:=(QdS ht).block k _ hk (fun⟨_,es,c,e⟩=>by cases e);refine⟨w',hr,⟨_,ho,fun z hz=>?_,fun z u hz=>?_⟩,ht⟩
 ·unfold Qfp at hz
  split at hz
  ·cases hz
  ·rename_i hne;rw[Maps.has_put_other (QpO hne)];exact hF.1 z hz
 ·unfold Qfp at hz
  split at hz
  ·rename_i he;subst he;cases hz;exact⟨k,fun d=>Maps.atKey_put_same h1.isMap (k:=Lit.string z) trivial _ _,aa⟩
  ·rename_i hne;obtain⟨j,h3,h4⟩:=hF.2 z u hz;exact⟨j,fun d=>by rw[Maps.atKey_put_other (QpO hne)];exact h3 d,h4⟩
theorem Qvv{w:World}{b n:Nat}{F:Fs}{x:L8}{ty:TypeId}(h:Qfu w b n F)(hx:x.length<=1000000) :
 ∃ w',(Builtin.delete_ #[56,9] ty #[.map (some b),.string (sA x)]).run Tryz.prog w=.ok (.tuple #[]) w'/\Qfu w' b n (Qj2 F x)/\w.mapTurned w' b:=by
 obtain⟨D,h1,h2⟩:=h;obtain⟨w',hr,ho,ht⟩:=h1.drop Qoa Qvk (Qyb hx) ty;have hF:=h2.fr (QdS ht) (fun k cs ⟨_,es,c,e⟩=>by cases e);refine⟨w',hr,⟨_,ho,fun z hz=>?_,fun z u hz=>?_⟩,ht⟩
 ·by_cases he:z=x
  ·subst he;exact Maps.has_del_same
  ·unfold Qj2 at hz;rw[if_neg he]at hz;rw[Maps.has_del_other (QpO he)];exact hF.1 z hz
 ·unfold Qj2 at hz
  split at hz
  ·cases hz
  ·rename_i hne;obtain⟨j,h3,h4⟩:=hF.2 z u hz;exact⟨j,fun d=>by rw[Maps.atKey_del_other (QpO hne)];exact h3 d,h4⟩
theorem Qe6{w:World}{b n:Nat}{F:Fs}{x:L8}(h:Qfu w b n F)(hx:x.length<=1000000) :
 ∃ v,(Instr.lookup 56 (.map (some b)) (.string (sA x)) true).run Tryz.prog w=.ok (.tuple #[v,.bool (F x).isSome]) w:=by
 obtain⟨D,⟨es,c,hb,hF,hs,rfl⟩,h2⟩:=h;have hz:(zeroValue 73).run Tryz.prog w=.ok (.pointer none) w:=by kernel_rfl
 rcases Maps.fit_look true Qoa Qvk hz hb hF (Qyb hx)with⟨aa,_,ab⟩ | ⟨e0,y,_,_,aa,hRv,ab,_⟩
 ·have h0:=Maps.has_false_of_atKey ab
  cases hfx:F x with
  |none=>exact⟨_,aa⟩
  |some s=>
   obtain⟨j,h3,_⟩:=h2.2 x s hfx;rw[Maps.has_true_of_atKey h3]at h0;cases h0
 ·have h0:=Maps.has_true_of_atKey ab
  cases hfx:F x with
  |none=>rw[h2.1 x hfx]at h0;cases h0
  |some s=>exact⟨_,aa⟩
end
section
open Go.RowKit
attribute [local go_sem ↓] Go.wp_at_zero Go.wp_at_succ
def QuW (b:Nat) (k:Nat) (o:Obj):Prop:=k=b∧∃ es c,o=.map es c
structure Dop where
 kind:Int
 name:L8
 data:L8
def doF (F:Fs) (o:Dop):Fs:=if o.kind=1 then Qfp F o.name o.data else Qj2 F o.name
theorem Qv0(b n:Nat)(F:Fs)(x s:L8)(w:World)(h:Qfu w b n F)(hn:n<=1000000)(hx:x.length<=1000000) :
 Calls Tryz.prog 32 #[.map (some b),.agg #[.int .i64 1,.string (sA x),.string ⟨#[]⟩,.string (sA s)]] w fun e w'=>e=.returned (.tuple #[])/\Qfu w' b (n+1) (Qfp F x s)/\Fr (QuW b) w w':=by
 obtain⟨V,hV⟩:∃ V,V=(w.alloc (.cells #[.int .i64 1,.string (sA x),.string ⟨#[]⟩,.string (sA s)] 84)).alloc (.cells #[.string (sA s)] 9):=⟨_,rfl⟩;have aa:Below w.heap.size w V:=by rw[hV];exact((Below.refl _ _).alloc (Nat.le_refl _) _).alloc (by simp) _
 obtain⟨w2,hr,h2,ht⟩:=Qp0 (k:=w.heap.size+1) (s:=s) (h.below aa) hn hx (by rw[hV];exact Qaq (by simp));rw[hV]at hr;have H2:=Qab h2;have HF:=Qab ((Fr.of_below (P:=QuW b) aa).trans (QdS ht));clear h h2 ht aa hV;go_enter func32,ntmps32;go_wp2;go_end0;exact⟨rfl,H2.o,HF.o⟩
theorem Qv2(b n:Nat)(F:Fs)(x s:L8)(w:World)(h:Qfu w b n F)(hx:x.length<=1000000) :
 Calls Tryz.prog 32 #[.map (some b),.agg #[.int .i64 3,.string (sA x),.string ⟨#[]⟩,.string (sA s)]] w fun e w'=>e=.returned (.tuple #[])/\Qfu w' b n (Qj2 F x)/\Fr (QuW b) w w':=by
 obtain⟨V,hV⟩:∃ V,V=w.alloc (.cells #[.int .i64 3,.string (sA x),.string ⟨#[]⟩,.string (sA s)] 84):=⟨_,rfl⟩;have aa:Below w.heap.size w V:=by rw[hV];exact(Below.refl _ _).alloc (Nat.le_refl _) _
 obtain⟨w2,hr,h2,ht⟩:=Qvv (ty:=0) (h.below aa) hx;rw[hV]at hr;have H2:=Qab h2;have HF:=Qab ((Fr.of_below (P:=QuW b) aa).trans (QdS ht));clear h h2 ht aa hV;go_enter func32,ntmps32;go_wp2;go_end0;exact⟨rfl,H2.o,HF.o⟩
def Qlp (o:Dop):List Value:=[.int .i64 o.kind,.string (sA o.name),.string ⟨#[]⟩,.string (sA o.data)]
def Qdb (l:List Dop):List Value:=l.flatMap Qlp
theorem QfD(l:List Dop)(o:Dop):Qdb l++Qlp o=Qdb (l++[o]):=by simp[Qdb]
theorem Fr.undrew{P:Nat->Obj->Prop}{w w':World}(h:Fr P w.drew w'):Fr P w w':=⟨h.os,h.tape,h.output,h.size,h.block⟩
def PDk (B:Nat) (k:Nat) (o:Obj):Prop:=B≤k∧((∃ cs,o=.cells cs 59)∨(∃ es c,o=.map es c)∨(∃ cs,o=.cells cs 84))
def PDb (db:Nat) (k:Nat) (o:Obj):Prop:=k=db∧∃ cs,o=.cells cs 59
theorem PDb.toK{B db k:Nat}{o:Obj}(h:PDb db k o)(hb:B<=db):PDk B k o:=by
 obtain⟨rfl,cs,rfl⟩:=h;exact⟨hb,Or.inl ⟨cs,rfl⟩⟩
theorem QuW.toK{B b k:Nat}{o:Obj}(h:QuW b k o)(hb:B<=b):PDk B k o:=by
 obtain⟨rfl,es,c,rfl⟩:=h;exact⟨hb,Or.inr (Or.inl ⟨es,c,rfl⟩)⟩
structure DI (w:World) (B db bd bn n:Nat) (D N:Fs) (p:List Dop) (q:Int) (pv:Value):Prop where
 bb:B≤db∧B≤bd∧B≤bn
 ne:bd≠bn
 blk:w.heap[db]?=some (.cells #[.map (some bd),.map (some bn),pv,.int .i64 q,.int .i64 q,.bool false] 59)
 md:Qfu w bd n D
 mn:Qfu w bn n N
 row:w.ownsRow B 84 4 pv p.length (Qdb p)
theorem DI.fr{P:Nat->Obj->Prop}{w w':World}{B db bd bn n:Nat}{D N:Fs}{p:List Dop}{q:Int}{pv:Value}(h:DI w B db bd bn n D N p q pv)(hf:Fr P w w')(h1:∀ k cs,¬ P k (.cells cs 59))(h2:∀ k es c,¬ P k (.map es c))(h3:∀ k cs,¬ P k (.cells cs 84))(h4:∀ k cs,¬ P k (.cells cs 9)):DI w' B db bd bn n D N p q pv:=
 ⟨h.bb,h.ne,hf.block _ _ h.blk (h1 _ _),h.md.fr hf (h2 _) h4,h.mn.fr hf (h2 _) h4,QaR h.row hf h3⟩
theorem DI.below{w w':World}{B db bd bn n:Nat}{D N:Fs}{p:List Dop}{q:Int}{pv:Value}(h:DI w B db bd bn n D N p q pv)(hb:Below w.heap.size w w'):DI w' B db bd bn n D N p q pv:=
 h.fr (P:=fun _ _=>False) (Fr.of_below hb) (fun _ _ h=>h) (fun _ _ _ h=>h) (fun _ _ h=>h) (fun _ _ h=>h)
theorem Tryz.infoOp:(Tryz.prog.info? 84).map (fun i=>(i.zero,i.size,i.bytes))=some (some (.agg #[.int .i64 0,.string ⟨#[]⟩,.string ⟨#[]⟩,.string ⟨#[]⟩]),4,56):=by kernel_rfl
theorem QnT(w:World)(o:Dop)(t:TypeId):∀ j u,(Qlp o)[j]?=some u->(w.alloc (.cells #[.int .i64 o.kind,.string (sA o.name),.string ⟨#[]⟩,.string (sA o.data)] t)).cell? ((⟨w.heap.size,0,none⟩:Addr).add j)=some u:=by
 intro j u h;rw[Qbu,Qaa (Qam w _),<-h];simp[Qlp]
theorem Qtz(o:Dop):∀ u∈Qlp o,u.oneCell'=true:=by
 intro u hu;unfold Qlp at hu;simp at hu;rcases hu with rfl|rfl|rfl|rfl<;>rfl
theorem QiW(w:World)(b o:Nat)(v:Value)(cs:Array Value)(ty:TypeId)(fr:Nat×Nat)(h:w.heap[b]?=some (.cells cs ty fr)):(w.setCell ⟨b,o,none⟩ v).heap[b]?=some (.cells (cs.setIfInBounds o v) ty fr):=by
 have hb:=Qar h;simp[World.setCell,Array.getElem?_modify,h]
def PBy (gb:Nat) (k:Nat) (o:Obj):Prop:=k=gb∧∃ cs fr,o=.cells cs 5 fr
structure BI (w:World) (gb n:Nat):Prop where
 blk:∃ cs fr,w.heap[gb]?=some (.cells cs 5 fr)
 cel:∀ j,j < n→∃ v,w.cell? ⟨gb,j,none⟩=some v
 frz:∀ j,j < n→w.frozen? ⟨gb,j,none⟩=false
theorem BI.fr{P:Nat->Obj->Prop}{w w':World}{gb n:Nat}(h:BI w gb n)(hf:Fr P w w')(hp:∀ k cs fr,¬ P k (.cells cs 5 fr)):BI w' gb n:=by
 obtain⟨cs,fr,hb⟩:=h.blk;have aa:=hf.block _ _ hb (hp _ _ _);refine⟨⟨cs,fr,aa⟩,fun j hj=>?_,fun j hj=>?_⟩
 ·obtain⟨v,hv⟩:=h.cel j hj;exact⟨v,by rw[World.cell?_of_block (a:=⟨gb,j,none⟩) (aa.trans hb.symm)];exact hv⟩
 ·rw[World.frozen?_of_block (a:=⟨gb,j,none⟩) (aa.trans hb.symm)];exact h.frz j hj
theorem BI.set{w:World}{gb n:Nat}(h:BI w gb n)(k:Nat)(v:Value):BI (w.setCell ⟨gb,k,none⟩ v) gb n:=by
 obtain⟨cs,fr,hb⟩:=h.blk;refine⟨⟨_,_,QiW _ _ _ _ _ _ _ hb⟩,fun j hj=>?_,fun j hj=>?_⟩
 ·obtain⟨u,hu⟩:=h.cel j hj;by_cases e:j=k
  ·subst e;exact⟨_,World.cell?_setCell_same _ _ _ hu⟩
  ·exact⟨u,by rw[World.cell?_setCell_other _ _ _ _ (by simp[e])];exact hu⟩
 ·rw[World.frozen?_setCell];exact h.frz j hj
theorem PBy.set{w:World}{gb n:Nat}(h:BI w gb n)(k:Nat)(v:Value):Fr (PBy gb) w (w.setCell ⟨gb,k,none⟩ v):=by
 obtain⟨cs,fr,hb⟩:=h.blk;exact(Fr.refl _ w).set hb ⟨rfl,_,_,rfl⟩ k v
theorem PDk.notBy{B k:Nat}{cs:Array Value}{fr:Nat×Nat}:¬ PDk B k (.cells cs 5 fr):=by
 rintro⟨_,⟨aa,e⟩ | ⟨es,c,e⟩ | ⟨aa,e⟩⟩
 ·injection e with e1 e2;exact absurd e2 (by decide)
 ·cases e
 ·injection e with e1 e2;exact absurd e2 (by decide)
def Qb7 (p:List Dop):Prop:=∀ o∈p,(o.kind=1∨o.kind=3)∧o.name.length≤1000000
theorem QnN(l:List Dop)(j:Nat)(hj:j<l.length):(Qdb l)[j*4]?=some (.int .i64 l[j].kind)/\(Qdb l)[j*4+1]?=some (.string (sA l[j].name))/\(Qdb l)[j*4+2]?=some (.string ⟨#[]⟩)/\(Qdb l)[j*4+3]?=some (.string (sA l[j].data)):=by
 induction l generalizing j with
 |nil=>exact absurd hj (Nat.not_lt_zero _)
 |cons a r ih=>
  have e:Qdb (a::r)=.int .i64 a.kind :: .string (sA a.name) :: .string ⟨#[]⟩ :: .string (sA a.data)::Qdb r:=rfl;rw[e]
  cases j with
  |zero=>exact⟨rfl,rfl,rfl,rfl⟩
  |succ j=>
   have h:=ih j (by simpa using hj);have e1:(j+1)*4=j*4+4:=by omega
   rw[e1];exact h
theorem Qsv(w:World)(B:Nat):w.ownsRow B 84 4 (.slice none 0 0) ([]:List Dop).length (Qdb []):=⟨rfl,Or.inl ⟨rfl,rfl⟩⟩
theorem QkF(b n:Nat)(F:Fs)(o:Dop)(w:World)(h:Qfu w b n F)(hn:n<=1000000)(hk:o.kind=1\/o.kind=3)(hx:o.name.length<=1000000) :
 Calls Tryz.prog 32 #[.map (some b),.agg #[.int .i64 o.kind,.string (sA o.name),.string ⟨#[]⟩,.string (sA o.data)]] w fun e w'=>e=.returned (.tuple #[])/\Qfu w' b (n+1) (doF F o)/\Fr (QuW b) w w':=by
 obtain⟨k,x,s⟩:=o;rcases hk with hk|hk
 ·cases hk;exact Qv0 b n F x s w h hn hx
 ·cases hk;exact(Qv2 b n F x s w h hx).mono fun e w' ⟨h1,h2,h3⟩=>⟨h1,h2.mono (Nat.le_succ _),h3⟩
end
section
open Go.RowKit Go.Maps
attribute [local go_sem ↓] Go.wp_at_zero Go.wp_at_succ
def Qyh (w:World) (db bd:Nat) (nv pv:Value) (q:Int) (b:Bool):Prop:=w.heap[db]?=some (.cells #[.map (some bd),nv,pv,.int .i64 q,.int .i64 q,.bool b] 59)
theorem Fr.newGrown{P:Nat->Obj->Prop}{u w w':World}{r:Nat}(h:Fr P u w)(hg:w.grownBy w' (some r))(hr:u.heap.size<=r):Fr P u w':=
 ⟨hg.os.trans h.os,hg.tape.trans h.tape,hg.output.trans h.output,Nat.le_trans h.size hg.size,fun i o hi hn=>by
  have h1:=h.block i o hi hn;have h2:=Qar hi
  rw [hg.block i (Qar h1) (fun e=>by have:=Option.some.inj e;omega)];exact h1⟩
theorem Qf4{w w':World}{r g:Nat}{o:Obj}(h:w.heap[g]?=some o)(hg:w.grownBy w' (some r))(hr:g≠r):w'.heap[g]?=some o:=by
 rw[hg.block g (Qar h) (fun e=>hr (Option.some.inj e))];exact h
theorem Qym:∀ key kl,keyOf Tryz.prog 9 key=some kl->∃ x,key=encStr x:=fun key kl hk=>by obtain⟨x,hx,_⟩:=Maps.keyOf_str QwL hk;exact⟨x,hx⟩
abbrev Qyf (k:Nat):Value:=.pointer (some ⟨k,0,none⟩)
theorem Qyp:∀ v y,ptrR v=some y->∃ k,v=Qyf k:=fun v y hv=>by obtain⟨k,h,_⟩:=Qqr hv;exact⟨k,h⟩
theorem QvW(B db bd n:Nat)(D:Fs)(nv pv:Value)(q:Int)(b:Bool)(w:World)(hb:B<=db/\B<=bd)(aa:Qyh w db bd nv pv q b)(hm:Qfu w bd n D)(hn:n<=500000) :
 Calls Tryz.prog 27 #[.pointer (some ⟨db,0,none⟩)] w fun e w'=>e=.returned (.tuple #[])/\DI w' B db bd w.heap.size n D D [] q (.slice none 0 0)/\Fr (PDk B) w w':=by
 obtain⟨D0,af,aC⟩:=hm;have aU:=@run_makeMap Tryz.prog;have hbl:=af.lt;have hdl:db<w.heap.size:=Qar aa;have hne:¬ w.heap.size=db:=by omega
 have aF:Fr (PDb db) w (w.setCell ⟨db,1,none⟩ (.map (some w.heap.size))):=(Fr.refl _ _).set aa ⟨rfl,_,rfl⟩ 1 _;obtain⟨W,hW⟩:∃ W,W=(w.setCell ⟨db,1,none⟩ (.map (some w.heap.size))).alloc (.map #[] 0):=⟨_,rfl⟩;have aA:Fr (PDb db) w W:=by rw[hW];exact aF.alloc _
 have aD:W.heap[db]?=some (.cells #[.map (some bd),.map (some w.heap.size),pv,.int .i64 q,.int .i64 q,.bool b] 59):=by rw[hW];exact Qac (Qag _ _ _ _ _ _ aa)
 have ag:=Qfl af aA (fun es c ⟨_,cs,e⟩=>by cases e);have a2:(w.setCell ⟨db,1,none⟩ (.map (some w.heap.size))).heap.size=w.heap.size:=by simp
 have ah:W.ownsMap (H:=Unit) Tryz.prog 9 ptrR w.heap.size 0 (.map []):=by
  rw[hW];have:=World.ownsMap_made (H:=Unit) (w.setCell ⟨db,1,none⟩ (.map (some w.heap.size))) Tryz.prog 9 ptrR;rw[a2]at this;exact this
 have aJ:W.heap.size=w.heap.size+1:=by rw[hW];simp
 have c0:w.cell? ⟨db,0,none⟩=some (.map (some bd)):=Qaa aa 0;have c1:w.cell? ⟨db,1,none⟩=some nv:=Qaa aa 1;have c2:∀ j,w.frozen? ⟨db,j,none⟩=false:=fun j=>Qah aa j
 have aO:=Qab aA;have HFS:=Qab aC;have HOW:=Qab ag;have aW:=Qab ah;have aG:=Qab aD;have aV:=Qab (af.canon Qoa);have aX:=Qab (World.ownsMap.size_le af);have ac:=ag;rw[hW]at ac;have ak:=aJ;rw[hW]at ak;have aP:=Qab hW;clear aA aC ah aa hW aF aD;go_enter func27,ntmps27;go_wp2_with (first|(at_range;refine wpList_range_own _ rfl _ 56 rfl 9 73 Qoa Qvk _ bd n _ rfl ac ?_;intro w0 ao ae aI)|go_in);go_frame;rw[ak]at ao aI ⊢;rw[<-aP.o]at ae;have a1:Hid (Fr (PDk B) w w0):=(aO.o.mono (fun k o h=>h.toK hb.1)).newGrown (r:=w.heap.size+1) ⟨ae.os,ae.tape,ae.output,ae.size,fun i hi _=>ae.block i hi (by simp)⟩ (by omega);have aS:Hid (w0.heap[db]?=some (.cells #[.map (some bd),.map (some w.heap.size),pv,.int .i64 q,.int .i64 q,.bool b] 59)):=(ae.block db (Qar aG.o) (by simp)).trans aG.o;have aQ:=Qab (aW.o.kept ae (by simp));have aE:=hb.1;have a3:=hb.2;clear c0 c1 c2 ac ak ae aI aU
 go_loopw [2,3] (fun _ _ wr=>∃(left:Lit->Bool) (av k:Nat) (aj:DataW Unit),wr.ranges Tryz.prog 9 ptrR bd (w.heap.size+1) n D0 left av/\k+av<=n/\wr.ownsMap Tryz.prog 9 ptrR w.heap.size k aj/\Agree aj D0 left/\wr.heap[db]?=some (.cells #[.map (some bd),.map (some w.heap.size),pv,.int .i64 q,.int .i64 q,.bool b] 59)/\Fr (PDk B) w wr) (fun _ _ wr=>wr.rangeLeft bd (w.heap.size+1))
 case atStart=>exact⟨_,_,0,.map [],ao,by have:=aX.o;omega,aQ.o,agree_start D0,aS.o,a1.o⟩
 case round=>
  obtain⟨left,av,k,aj,aw,hcs,ad,hA,aa,hF⟩:=hrel;have HA:=Qab hA;have aH:=Qab aa;have HF:=Qab hF;clear hA hF ao;go_wp2_with (first|(at_next;refine wpList_next_ranges _ rfl _ rfl 9 Qoa ptrR encStr Qyf Qym Qyp bd (w.heap.size+1) n _ _ _ rfl aw ?_ ?_)|go_in)
  ·intro hc0 aN;have d2:wr.cell? ⟨db,2,none⟩=some pv:=Qaa aa 2;have d5:wr.cell? ⟨db,5,none⟩=some (.bool b):=Qaa aa 5;have fz:∀ j,wr.frozen? ⟨db,j,none⟩=false:=fun j=>Qah aa j
   have HE:=Qab (agree_end HA.o aN (ad.canon Qoa) aV.o);clear aa;go_wp2;go_end0;have g1:=Qag _ _ 2 (.slice none 0 0) _ _ aH.o;have g2:=Qag _ _ 5 (.bool false) _ _ g1;have f1:=(Fr.refl (PDb db) wr).set aH.o ⟨rfl,_,rfl⟩ 2 (.slice none 0 0);have f2:=f1.set g1 ⟨rfl,_,rfl⟩ 5 (.bool false);have hF2:=HF.o.trans (f2.mono (fun k o h=>h.toK aE))
   have hFs2:=HFS.o.fr hF2 (fun k cs ⟨_,h⟩=>by
    rcases h with⟨aL,e⟩ | ⟨es,c,e⟩ | ⟨aL,e⟩
    ·injection e with e1 e2;exact absurd e2 (by decide)
    ·cases e
    ·injection e with e1 e2;exact absurd e2 (by decide))
   have aB:=Qfl ad f2 (fun es c ⟨_,cs,e⟩=>by cases e);rw[HE.o]at aB;exact⟨rfl,⟨⟨aE,a3,by omega⟩,by omega,g2,⟨D0,Qfl aw.owns f2 (fun es c ⟨_,cs,e⟩=>by cases e),hFs2⟩,⟨D0,aB.mono (by omega),hFs2⟩,Qsv _ _⟩,hF2⟩
  ·intro x c kl yd yp w1 ay ai hlk hv aZ au aM ax aT hen;obtain⟨x',ex,rfl,hxl⟩:=Maps.keyOf_str QwL ai;obtain rfl:x=x':=encStr_inj ex
   have aR:yd=.lit (.int .i64 c):=by
    have:=(QkY c).symm.trans hv;cases this;rfl
   subst aR;have ab:=Qf4 aa ax (by omega);have ap:=ad.kept ax (by simp);have q1:w1.cell? ⟨db,1,none⟩=some (.map (some w.heap.size)):=Qaa ab 1;have a0:=Qab ab;have aY:=Qab (HF.o.newGrown ax (by omega));have aK:=Qab ai;clear aT aa ab ex ai hv;go_wp2_with (first|(at_mapUpdate;refine wpList_mapUpdate_own _ rfl _ _ _ 56 rfl 9 73 Qoa Qvk _ w.heap.size _ _ rfl ap (by unfold maxLen;omega) _ _ _ rfl rfl aK.o _ [] (QkY c) ?_;intro w2 aq az;go_frame)|go_in);have ar:=au.kept az (fun e=>by have:=Option.some.inj e;omega) (fun e=>by have:=Option.some.inj e;omega);go_roundw
   case rel=>exact⟨_,ay,k+1,_,ar,by omega,aq,agree_step HA.o ad.isMap trivial aZ,Qf4 a0.o az (by omega),aY.o.newGrown az (Nat.le_refl _)⟩
   case measure=>rw[ar.left_eq,aw.left_eq];exact aM
end
section
open Go.RowKit
def Qde (i:Ins) (av bv:Value):Value:=.agg #[.int .i64 i.op,.int .i64 i.n,.int .i64 i.tag,.bool i.oct,av,bv,.int .i64 i.at_]
def QkW (i:Ins) (av bv:Value):Array Value:=#[.int .i64 i.op,.int .i64 i.n,.int .i64 i.tag,.bool i.oct,av,bv,.int .i64 i.at_]
structure QbY (w:World) (i:Ins) (av bv:Value):Prop where
 a:SlT w av i.a
 b:SlT w bv i.b
 al:∀ z∈i.a,z.length≤100000
 bl:∀ z∈i.b,z.length≤100000
 an:i.a.length≤1000000
 bn:i.b.length≤1000000
 n1:-9223372036854775808≤i.n
 n2:i.n≤9223372036854775807
theorem QbY.fr{P:Nat->Obj->Prop}{w w':World}{i:Ins}{av bv:Value}(h:QbY w i av bv)(hf:Fr P w w')(hp:∀ k cs,¬ P k (.cells cs 9)):QbY w' i av bv:=
 ⟨h.a.fr hf hp,h.b.fr hf hp,h.al,h.bl,h.an,h.bn,h.n1,h.n2⟩
theorem QbY.below{w w':World}{i:Ins}{av bv:Value}(h:QbY w i av bv)(hb:Below w.heap.size w w'):QbY w' i av bv:=h.fr (P:=fun _ _=>False) (Fr.of_below hb) (fun _ _ h=>h)
theorem QcU{w:World}{base:Nat}{e:TypeId}{size:Nat}{v:Value}{n:Nat}{xs:List Value}(h:w.ownsRow base e size v n xs){b:Nat}(ab:v.ownBlock≠some b)(j:Nat)(x:Value):(w.setCell ⟨b,j,none⟩ x).ownsRow base e size v n xs:=by
 obtain⟨h1,h2⟩:=h;refine⟨h1,?_⟩;rcases h2 with h2 | ⟨g,aa,ac,hv,hg,hh,r⟩
 ·exact Or.inl h2
 ·refine Or.inr ⟨g,aa,ac,hv,hg,?_,r⟩;rw[Below.heap_setCell _ _ _ _ (show g≠b from fun e=>ab (by rw[hv,e];rfl))];exact hh
end
section
open Go.RowKit
attribute [local go_sem ↓] Go.wp_at_zero Go.wp_at_succ
abbrev IV:=Ins×Value×Value
def QgP (p:IV):List Value:=[.int .i64 p.1.op,.int .i64 p.1.n,.int .i64 p.1.tag,.bool p.1.oct,p.2.1,p.2.2,.int .i64 p.1.at_]
def Qcp (ps:List IV):List Value:=ps.flatMap QgP
theorem Qdx(p:IV)(ps:List IV):Qcp (p::ps)=QgP p++Qcp ps:=by simp[Qcp]
theorem QkA(ps qs:List IV):Qcp (ps++qs)=Qcp ps++Qcp qs:=by simp[Qcp]
theorem Qgw:∀ ps:List IV,(Qcp ps).length=ps.length*7
 | []=>rfl
 |p::r=>by rw[Qdx,List.length_append,Qgw r,List.length_cons];simp only[QgP,List.length_cons,List.length_nil];omega
theorem Qiz:∀(ps:List IV) (j:Nat) (hj:j<ps.length) (k:Nat),k<7->(Qcp ps)[j*7+k]?=(QgP ps[j])[k]?
 | [],j,hj,_,_=>absurd hj (Nat.not_lt_zero _)
 |p::r,0,_,k,hk=>by
  rw[Qdx,Nat.zero_mul,Nat.zero_add];show(QgP p++Qcp r)[k]?=(QgP p)[k]?
  rw[List.getElem?_append_left (by simpa[QgP]using hk)]
 |p::r,j+1,hj,k,hk=>by
  have ih:=Qiz r j (by simpa using hj) k hk;have hl:(QgP p).length=7:=rfl;have e:(QgP p).length<=(j+1)*7+k:=by rw[hl];omega
  have e2:(j+1)*7+k - 7=j*7+k:=by omega
  rw[Qdx,List.getElem?_append_right e,hl,e2,ih];rfl
theorem Qku:∀(ps:List IV) (j:Nat) (n:Int),(Qcp ps).set (j*7+1) (.int .i64 n)=Qcp (ps.modify j fun p=>(Qh9 n p.1,p.2))
 | [],j,n=>by cases j<;>rfl
 |p::r,0,n=>rfl
 |p::r,j+1,n=>by
  have ih:=Qku r j n;have hl:(QgP p).length=7:=rfl;have e:(QgP p).length<=(j+1)*7+1:=by rw[hl];omega
  have e2:(j+1)*7+1 - 7=j*7+1:=by omega
  show(Qcp (p::r)).set ((j+1)*7+1) (.int .i64 n)=Qcp (p::r.modify j _)
  rw[Qdx,Qdx,List.set_append_right _ _ e,hl,e2,ih]
def coO:Obj→Bool
 | .cells _ t _=>t == 238 || t == 147
 | _=>false
def PCo (B k:Nat) (o:Obj):Prop:=B≤k∧coO o=true
theorem PCo.not{B k:Nat}{cs:Array Value}{t:TypeId}{f:Nat×Nat}(h1:t≠238)(h2:t≠147):¬ PCo B k (.cells cs t f):=fun h=>by
 have:=h.2;unfold coO at this;simp at this;rcases this with h|h
 ·exact h1 h
 ·exact h2 h
theorem PCo.str{B:Nat}(k:Nat)(cs:Array Value):¬ PCo B k (.cells cs 9):=PCo.not (by decide) (by decide)
structure CI (w:World) (B cb:Nat) (cv:Value) (ps:List IV):Prop where
 bc:B≤cb
 blk:w.heap[cb]?=some (.cells #[cv] 238)
 row:w.ownsRow B 147 7 cv ps.length (Qcp ps)
 ok:∀ p∈ps,QbY w p.1 p.2.1 p.2.2
 nil:ps=[]→cv=.slice none 0 0
def CC (w:World) (B cb:Nat) (cs:List Ins):Prop:=∃ cv ps,ps.map Prod.fst=cs∧CI w B cb cv ps
theorem CC.lt{w:World}{B cb:Nat}{cs:List Ins}(h:CC w B cb cs):B<=cb/\cb<w.heap.size:=by
 obtain⟨cv,ps,_,h⟩:=h;exact⟨h.bc,Qar h.blk⟩
theorem CI.fr{P:Nat->Obj->Prop}{w w':World}{B cb:Nat}{cv:Value}{ps:List IV}(h:CI w B cb cv ps)(hf:Fr P w w')(h1:∀ k cs,¬ P k (.cells cs 238))(h2:∀ k cs,¬ P k (.cells cs 147))(h3:∀ k cs,¬ P k (.cells cs 9)):CI w' B cb cv ps:=
 ⟨h.bc,hf.block _ _ h.blk (h1 _ _),QaR h.row hf h2,fun p hp=>(h.ok p hp).fr hf h3,h.nil⟩
theorem CI.below{w w':World}{B cb:Nat}{cv:Value}{ps:List IV}(h:CI w B cb cv ps)(hb:Below w.heap.size w w'):CI w' B cb cv ps:=h.fr (P:=fun _ _=>False) (Fr.of_below hb) (fun _ _ h=>h) (fun _ _ h=>h) (fun _ _ h=>h)
theorem CI.drew{w:World}{B cb:Nat}{cv:Value}{ps:List IV}(h:CI w B cb cv ps):CI w.drew B cb cv ps:=h.fr (P:=fun _ _=>False) (Fr.refl _ w).drew (fun _ _ h=>h) (fun _ _ h=>h) (fun _ _ h=>h)
theorem CC.below{w w':World}{B cb:Nat}{cs:List Ins}(h:CC w B cb cs)(hb:Below w.heap.size w w'):CC w' B cb cs:=by
 obtain⟨cv,ps,e,h⟩:=h;exact⟨cv,ps,e,h.below hb⟩
theorem CC.alloc{w:World}{B cb:Nat}{cs:List Ins}(h:CC w B cb cs)(o:Obj):CC (w.alloc o) B cb cs:=h.below ((Below.refl _ _).alloc (Nat.le_refl _) _)
theorem Fr.co{B cb:Nat}{w w':World}{cs:List Ins}(h:Fr (PCo B) w w')(hc:CC w B cb cs):Below B w w':=h.below (fun _ _ h=>h.1) (Nat.le_of_lt (Nat.lt_of_le_of_lt hc.lt.1 hc.lt.2))
theorem CI.regrow{w w5:World}{B cb:Nat}{cv:Value}{ps qs:List IV}(h:CI w B cb cv ps)(hf:Fr (fun k _=>cv.ownBlock=some k) w w5)(v':Value)(ho:w5.ownsRow B 147 7 v' (ps++qs).length (Qcp (ps++qs)))(hq:∀ p∈qs,QbY w p.1 p.2.1 p.2.2)(af:qs≠[]) :
 CI (w5.setCell ⟨cb,0,none⟩ v') B cb v' (ps++qs)/\Fr (PCo B) w (w5.setCell ⟨cb,0,none⟩ v'):=by
 have ad:∀(k:Nat) (o:Obj),w.heap[k]?=some o->(∀ cs,o≠.cells cs 147)->w5.heap[k]?=some o:=fun k o hk ho=>by
  refine hf.block k o hk (fun e=>?_);obtain⟨_,cs,aa⟩:=Qbb h.row k o e hk;exact ho cs aa
 have ac:=ad cb _ h.blk (fun cs e=>by injection e with e1 e2;exact absurd e2 (by decide))
 have ab:Fr (PCo B) w (w5.setCell ⟨cb,0,none⟩ v'):=by
  refine(Fr.mono ⟨hf.os,hf.tape,hf.output,hf.size,fun k o hk hn=>?_⟩ (fun k o h=>h)).set ac ⟨h.bc,rfl⟩ 0 v'
  exact hf.block k o hk (fun e=>hn (by
   obtain⟨hb,cs,aa⟩:=Qbb h.row k o e hk;subst aa
   exact ⟨hb,rfl⟩))
 have ae:v'.ownBlock≠some cb:=fun e=>by
  obtain⟨_,cs,aa⟩:=Qbb ho cb _ e ac;injection aa with e1 e2
  exact absurd e2 (by decide)
 refine⟨⟨h.bc,Qag _ _ _ _ _ _ ac,QcU ho ae _ _,fun p hp=>?_,fun e=>absurd (List.append_eq_nil_iff.1 e).2 af⟩,ab⟩;rcases List.mem_append.1 hp with hp|hp
 ·exact(h.ok p hp).fr ab PCo.str
 ·exact(hq p hp).fr ab PCo.str
def Qc7 (B cb:Nat) (cs:List Ins) (w:World) (e:Ending) (w':World):Prop:=e=.returned (.tuple #[])∧CC w' B cb cs∧Fr (PCo B) w w'
theorem Tryz.infoIns:(Tryz.prog.info? 147).map (fun i=>(i.zero,i.size,i.bytes))=some (some (.agg #[.int .i64 0,.int .i64 0,.int .i64 0,.bool false,.slice none 0 0,.slice none 0 0,.int .i64 0]),7,88):=by kernel_rfl
theorem QbY.slA{w:World}{i:Ins}{av bv:Value}(h:QbY w i av bv):(∃ a n c,av=.slice a n c)/\(∃ a n c,bv=.slice a n c):=by
 obtain⟨a,c,h1⟩:=h.a.len;obtain⟨b,d,h2⟩:=h.b.len;exact⟨⟨a,_,c,h1⟩,⟨b,_,d,h2⟩⟩
theorem QrR{w:World}{qs:List IV}(h:∀ p∈qs,QbY w p.1 p.2.1 p.2.2):∀ u∈Qcp qs,u.oneCell'=true:=by
 intro u hu;obtain⟨p,hp,hu⟩:=List.mem_flatMap.1 hu;obtain⟨⟨a,n,c,h1⟩,⟨b,m,d,h2⟩⟩:=(h p hp).slA;unfold QgP at hu;rw[h1,h2]at hu;simp at hu;rcases hu with rfl|rfl|rfl|rfl|rfl|rfl|rfl<;>rfl
theorem QpW(B cb g c:Nat)(cs:List Ins)(qs:List IV)(w:World)(h:CC w B cb cs)(hg:w.heap[g]?=some (.cells (Qcp qs).toArray 147))(aj:∀ p∈qs,QbY w p.1 p.2.1 p.2.2)(ao:qs≠[])(ac:cs.length+qs.length<=1000000) :
 Calls Tryz.prog 231 #[.pointer (some ⟨cb,0,none⟩),.slice (some ⟨g,0,none⟩) qs.length c] w fun e w'=>e=.returned (.int .i64 (((cs.length+qs.length - 1:Nat)):Int))/\CC w' B cb (cs++qs.map Prod.fst)/\Fr (PCo B) w w':=by
 obtain⟨cv,ps,rfl,aa⟩:=h;rw[List.length_map]at ac ⊢;have af:=Qab aa;have c0:w.cell? ⟨cb,0,none⟩=some cv:=Qaa aa.blk 0;obtain⟨ka,kc,ay⟩:=Qat aa.row;subst ay;have ap:=Qar aa.blk;have hgl:=Qar hg;obtain⟨i0,hi,aB,aA,ar⟩:=info_parts Tryz.infoIns;have ai:=List.length_pos_iff.2 ao
 have ab:(Value.slice ka ps.length kc).ownBlock≠some cb:=fun e=>by
  obtain⟨_,cs,ax⟩:=Qbb aa.row cb _ e aa.blk;injection ax with e1 e2
  exact absurd e2 (by decide)
 have ad:=Qab ab
 have HC:Hid (∀ j u,(Qcp qs)[j]?=some u->w.cell? ((⟨g,0,none⟩:Addr).add j)=some u):=fun j u hj=>by
  rw[Qbu,Qaa hg,List.getElem?_toArray];exact hj
 have ag:=Qab (QrR aj);have aq:=Qab aj;obtain⟨n,hn⟩:∃ n,qs.length=n+1:=⟨qs.length - 1,by omega⟩;have ak:=Qab (Qgw qs);rw[hn]at ak ac ⊢;have HN:=Qab hn;clear aa ab hg aj hn ai;go_enter func231,ntmps231;go_wp2_with (first|(at_builtin;refine wpList_append_own _ rfl _ _ 101 rfl B 147 i0 _ 7 88 underlying101 hi aB aA ar rfl (by decide) _ _ _ rfl af.o.row ⟨g,0,none⟩ (n+1) c (Qcp qs) rfl ak.o HC.o ag.o (by unfold maxLen;omega) (by omega) (by have:=af.o.bc;omega) ?_;intro v5 w5 ah ae _;obtain⟨a5,k5,az⟩:=Qat ah;subst az;have av:=Qab ah;have au:=Qab ae;have d1:w5.cell? ⟨cb,0,none⟩=some (.slice ka ps.length kc):=ae.cell (a:=⟨cb,0,none⟩) c0 (fun e=>ad.o e.symm);have hft:∀ j,w5.frozen? ⟨cb,j,none⟩=false:=fun j=>(World.frozen?_of_block (a:=⟨cb,j,none⟩) (w:=w) (ae.block cb ap (fun e=>ad.o e.symm))).trans (Qah af.o.blk j);clear ah ae));go_ret;have aw:Fr (fun k _=>(Value.slice ka ps.length kc).ownBlock=some k) w w5:=(Fr.refl _ w).grown au.o (fun k o e ho=>e);have:=af.o.regrow (qs:=qs) aw (.slice a5 (ps.length+(n+1)) k5) (by rw[List.length_append,HN.o,QkA];exact av.o) aq.o ao;exact⟨Qb5 (by omega),⟨_,ps++qs,by rw[List.map_append],this.1⟩,this.2⟩
theorem Qry(ps:List IV)(j:Nat)(n:Int):(ps.modify j fun p=>(Qh9 n p.1,p.2)).map Prod.fst=(ps.map Prod.fst).modify j (Qh9 n):=by
 induction ps generalizing j with
 |nil=>cases j<;>rfl
 |cons p r ih=>
  cases j with
  |zero=>rfl
  |succ j=>show p.1::(r.modify j _).map Prod.fst=p.1::(r.map Prod.fst).modify j (Qh9 n);rw[ih]
theorem mem_modify_iv{ps:List IV}{j:Nat}{n:Int}{q:IV}(h:q∈ps.modify j fun p=>(Qh9 n p.1,p.2)):q∈ps\/∃ p∈ps,q=(Qh9 n p.1,p.2):=by
 induction ps generalizing j with
 |nil=>cases j<;>cases h
 |cons p r ih=>
  cases j with
  |zero=>
   rcases List.mem_cons.1 h with h|h
   ·exact Or.inr ⟨p,by simp,h⟩
   ·exact Or.inl (by simp[h])
  |succ j=>
   rcases List.mem_cons.1 h with h|h
   ·exact Or.inl (by simp[h])
   ·rcases ih h with h | ⟨p',hp,h⟩
    ·exact Or.inl (by simp[h])
    ·exact Or.inr ⟨p',by simp[hp],h⟩
theorem CI.land{w:World}{B cb g c:Nat}{ps:List IV}(h:CI w B cb (.slice (some ⟨g,0,none⟩) ps.length c) ps)(j:Nat)(hj:j<ps.length)(n:Int)(h1:-9223372036854775808<=n)(h2:n<=9223372036854775807) :
 CI (w.setCell ⟨g,j*7+1,none⟩ (.int .i64 n)) B cb (.slice (some ⟨g,0,none⟩) ps.length c) (ps.modify j fun p=>(Qh9 n p.1,p.2))/\Fr (PCo B) w (w.setCell ⟨g,j*7+1,none⟩ (.int .i64 n)):=by
 obtain⟨ab,hs2⟩:=h.row.stored (j*7+1) (.int .i64 n)
 have hf:Fr (PCo B) w (w.setCell ⟨g,j*7+1,none⟩ (.int .i64 n)):=(Fr.refl _ w).grown hs2 (fun k o e ho=>by
  injection e with e
  subst e;obtain⟨hb,cs,aa⟩:=Qbb h.row g o rfl ho;subst aa
  exact ⟨hb,rfl⟩)
 have ac:cb≠g:=fun e=>by
  subst e;obtain⟨_,cs,aa⟩:=Qbb h.row cb _ rfl h.blk;injection aa with e1 e2
  exact absurd e2 (by decide)
 refine⟨⟨h.bc,by rw[Below.heap_setCell _ _ _ _ ac];exact h.blk,?_,fun q hq=>?_,fun e=>?_⟩,hf⟩
 ·rw[Qku]at ab;rw[List.length_modify];exact ab
 ·rcases mem_modify_iv hq with hq | ⟨p,hp,rfl⟩
  ·exact(h.ok q hq).fr hf PCo.str
  ·have:=(h.ok p hp).fr hf PCo.str;exact⟨this.a,this.b,this.al,this.bl,this.an,this.bn,h1,h2⟩
 ·have:=congrArg List.length e;rw[List.length_modify]at this;simp at this;subst this;exact absurd hj (Nat.not_lt_zero _)
theorem QrE(js:List Nat)(j:Nat)(cs:List Ins):landL (js++[j]) cs=(landL js cs).modify j (Qh9 ((cs.length:Int) - ((j:Int)+1))):=by
 unfold landL;rw[List.foldl_append];show(List.foldl _ cs js).modify j (Qh9 (((List.foldl _ cs js).length:Int) - _))=_
 have:=Qa9 js cs;unfold landL at this;rw[this]
theorem QiP(B cb gj c:Nat)(js:List Nat)(af:Array Value)(cs:List Ins)(w:World)(h:CC w B cb cs)(hj:∀ j∈js,j<cs.length)(hc:w.heap[gj]?=some (.cells af 3))(hk:∀ k,k<js.length->af[k]?=some (.int .i64 ((js.getD k 0:Nat):Int)))(hlen:cs.length<=1000000)(hjl:js.length<=1000000) :
 Calls Tryz.prog 253 #[.pointer (some ⟨cb,0,none⟩),.slice (some ⟨gj,0,none⟩) js.length c] w (Qc7 B cb (landL js cs) w):=by
 have H:=Qab h;have HJ:=Qab hj;have HC:=Qab hc;have HK:=Qab hk;have hgl:=Qar hc;clear h hj hc hk;go_enter func253,ntmps253;go_wp2_with fail
 go_loopw [5,8] (fun _ i wr=>∃(k:Nat),k<=js.length/\i=.int .i64 (k:Int)/\CC wr B cb (landL (js.take k) cs)/\Fr (PCo B) w wr) (fun _ i _=>js.length - (intOf i).toNat)
 case atStart=>exact⟨0,Nat.zero_le _,by go_num,H.o,Fr.refl _ _⟩
 case round=>
  obtain⟨k,hk,rfl,ab,hF⟩:=hrel;by_cases hlt:k<js.length
  ·have hkc:wr.cell? ⟨gj,k,none⟩=some (.int .i64 ((js.getD k 0:Nat):Int)):=by
    rw[Qaa (hF.block _ _ HC.o (PCo.not (by decide) (by decide)))];exact HK.o k hlt
   have hjk:js.getD k 0<cs.length:=HJ.o _ (by rw[List.getD_eq_getElem?_getD,List.getElem?_eq_getElem hlt];exact List.getElem_mem hlt)
   have HS:Hid (landL (js.take (k+1)) cs=(landL (js.take k) cs).modify (js.getD k 0) (Qh9 ((cs.length:Int) - ((js.getD k 0:Nat)+1:Int)))):=by
    show landL (js.take (k+1)) cs=_
    rw[List.take_add_one,List.getElem?_eq_getElem hlt];show landL (js.take k++[js[k]]) cs=_
    rw[QrE,List.getD_eq_getElem?_getD,List.getElem?_eq_getElem hlt];rfl
   generalize js.getD k 0=j at *;obtain⟨cv,ps,ad,ac⟩:=ab
   have ae:ps.length=cs.length:=by
    have:=congrArg List.length ad;rw[List.length_map,Qa9]at this;exact this
   have aa:=ac.row;rw[ae]at aa;obtain⟨g,kc,aj,hbg,hgl',hcells⟩:=Qcq aa (by omega);subst aj;have c0:wr.cell? ⟨cb,0,none⟩=some (.slice (some ⟨g,0,none⟩) cs.length kc):=Qaa ac.blk 0
   obtain⟨u1,hu1⟩:∃ u,wr.cell? ⟨g,j*7+1,none⟩=some u:=by
    refine⟨_,hcells (j*7+1) _ (by rw[Qiz ps j (by omega) 1 (by omega)];rfl)⟩
   have hfz:wr.frozen? ⟨g,j*7+1,none⟩=false:=aa.frozenAt _;have hL:=ac;rw[<-ae]at hL;have HL:=Qab (hL.land j (by omega) ((cs.length:Int) - ((j:Int)+1)) (by omega) (by omega));have ai:=Qab ad;have HF:=Qab hF;have hj0:(0:Int)<=(j:Int):=by omega
   have hj1:(j:Int)<(cs.length:Int):=by omega
   clear ac hL aa hcells ad hF;go_wp2_with fail;go_region;go_wp2;go_roundw
   case rel=>
    refine⟨k+1,by omega,by go_num,⟨_,_,?_,HL.o.1.drew⟩,(HF.o.trans HL.o.2).drew⟩;rw[Qry,ai.o,HS.o]
   case measure=>simp[intOf];omega
  ·have ah:k=js.length:=by omega
   subst ah;rw[List.take_length]at ab;have ag:=Qab ab;have HF:=Qab hF;clear ab hF;go_wp2;go_end0;exact⟨rfl,ag.o,HF.o⟩
theorem Qky(h:Bool)(w:World):Calls Tryz.prog 274 #[.bool h] w fun e w'=>e=.returned (Qde (QcM h) (.slice none 0 0) (.slice none 0 0))/\Below w.heap.size w w':=by
 have ab:∀ o,Below w.heap.size w (w.alloc o):=fun o=>(Below.refl _ _).alloc (Nat.le_refl _) o
 have aa:=Qab ab;clear ab;cases h
 ·go_enter func274,ntmps274;go_wp2;refine bodyPost_ret (v:=Qde (QcM false) (.slice none 0 0) (.slice none 0 0)) (by simp[results,results274,go_sem,Qde,QcM]) rfl ?_;exact⟨rfl,aa.o _⟩
 ·go_enter func274,ntmps274;go_wp2;refine bodyPost_ret (v:=Qde (QcM true) (.slice none 0 0) (.slice none 0 0)) (by simp[results,results274,go_sem,Qde,QcM]) rfl ?_;exact⟨rfl,aa.o _⟩
theorem Qcc(B cb:Nat)(cs:List Ins)(i:Ins)(av bv:Value)(W:World)(h:CC W B cb cs)(ab:QbY W i av bv)(aa:cs.length+1<=1000000) :
 Calls Tryz.prog 231 #[.pointer (some ⟨cb,0,none⟩),.slice (some ⟨W.heap.size,0,none⟩) 1 1] (W.alloc (.cells #[.int .i64 i.op,.int .i64 i.n,.int .i64 i.tag,.bool i.oct,av,bv,.int .i64 i.at_] 147)) fun e w'=>e=.returned (.int .i64 (cs.length:Int))/\CC w' B cb (cs++[i])/\Fr (PCo B) W w':=by
 have hB:∀ o,Below W.heap.size W (W.alloc o):=fun o=>(Below.refl _ _).alloc (Nat.le_refl _) o
 refine(QpW B cb W.heap.size 1 cs [(i,av,bv)] _ (h.alloc _) (Qam _ _) (fun p hp=>?_) (by simp) aa).mono ?_
 ·rw[List.mem_singleton.1 hp];exact ab.below (hB _)
 ·rintro e w' ⟨rfl,h1,h2⟩;refine⟨?_,h1,((Fr.refl _ W).alloc _).trans h2⟩;show Ending.returned (.int .i64 ((cs.length+1 - 1:Nat):Int))=_
  rw[Nat.add_sub_cancel]
theorem Qvh(B cb:Nat)(cs:List Ins)(i j:Ins)(av bv au bu:Value)(W:World)(h:CC W B cb cs)(ac:QbY W i av bv)(ab:QbY W j au bu)(aa:cs.length+2<=1000000) :
 Calls Tryz.prog 231 #[.pointer (some ⟨cb,0,none⟩),.slice (some ⟨W.heap.size,0,none⟩) 2 2] (W.alloc (.cells #[.int .i64 i.op,.int .i64 i.n,.int .i64 i.tag,.bool i.oct,av,bv,.int .i64 i.at_,.int .i64 j.op,.int .i64 j.n,.int .i64 j.tag,.bool j.oct,au,bu,.int .i64 j.at_] 147)) fun e w'=>e=.returned (.int .i64 ((cs.length+1:Nat):Int))/\CC w' B cb (cs++[i,j])/\Fr (PCo B) W w':=by
 have hB:∀ o,Below W.heap.size W (W.alloc o):=fun o=>(Below.refl _ _).alloc (Nat.le_refl _) o
 refine(QpW B cb W.heap.size 2 cs [(i,av,bv),(j,au,bu)] _ (h.alloc _) (Qam _ _) (fun p hp=>?_) (by simp) aa).mono ?_
 ·simp at hp;rcases hp with rfl|rfl
  ·exact ac.below (hB _)
  ·exact ab.below (hB _)
 ·rintro e w' ⟨rfl,h1,h2⟩;exact⟨rfl,h1,((Fr.refl _ W).alloc _).trans h2⟩
theorem QcY(W:World)(i:Ins)(ha:i.a=[])(hb:i.b=[])(h1:-9223372036854775808<=i.n)(h2:i.n<=9223372036854775807):QbY W i (.slice none 0 0) (.slice none 0 0):=
 ⟨Or.inl ⟨rfl,ha⟩,Or.inl ⟨rfl,hb⟩,by rw[ha];simp,by rw[hb];simp,by rw[ha];simp,by rw[hb];simp,h1,h2⟩
theorem QmH(B cb:Nat)(j:Nat)(cs:List Ins)(W:World)(h:CC W B cb cs)(hj:j<cs.length)(aa:cs.length<=1000000) :
 Calls Tryz.prog 253 #[.pointer (some ⟨cb,0,none⟩),.slice (some ⟨W.heap.size,0,none⟩) 1 1] (W.alloc (.cells #[.int .i64 (j:Int)] 3)) fun e w'=>e=.returned (.tuple #[])/\CC w' B cb (landL [j] cs)/\Fr (PCo B) W w':=by
 refine(QiP B cb W.heap.size 1 [j] #[.int .i64 (j:Int)] cs _ (h.alloc _) (fun k hk=>by rw[List.mem_singleton.1 hk];exact hj) (Qam _ _) (fun k hk=>?_) aa (by simp)).mono ?_
 ·have:k=0:=by simp at hk;exact hk
  subst this;rfl
 ·rintro e w' ⟨rfl,h1,h2⟩;exact⟨rfl,h1,((Fr.refl _ W).alloc _).trans h2⟩
theorem QeZ(X:Nat->Prop)(xs:List (L8))(v:Value)(w:World)(h:slX X xs w v)(hl:xs.length<=1000000) :
 Calls Tryz.prog 277 #[v] w fun e w'=>∃ a k,e=.returned (.slice a xs.length k)/\SlT w' (.slice a xs.length k) xs/\Below w.heap.size w w':=by
 obtain⟨g,c,rfl,_,ht,hne⟩:=h;refine(Tryz.slices_Clone_string g 0 xs.length c (xs.map sA) w (by simp) (by omega) (fun j hj=>?_)).mono ?_
 ·rw[List.length_map]at hj;rw[Nat.zero_add,ht j hj,List.getD_eq_getElem?_getD,List.getD_eq_getElem?_getD,List.getElem?_map,List.getElem?_eq_getElem hj];rfl
 ·rintro e w' ⟨v',rfl,ho,hn,hb⟩
  have e1:((xs.map sA).take xs.length).map Value.string=QaD xs:=by
   rw[List.take_of_length_le (by simp),List.map_map];rfl
  rw[e1]at ho;obtain⟨a,k,hv⟩:=Qat ho;subst hv;exact⟨a,k,rfl,SlT.of_owns ho rfl,hb⟩
end
section
open Go.RowKit
def setIns (w:World) (b:Nat) (i:Ins) (av bv:Value):World:=
 ((((((w.setCell ⟨b,0,none⟩ (.int .i64 i.op)).setCell ⟨b,1,none⟩ (.int .i64 i.n)).setCell ⟨b,2,none⟩ (.int .i64 i.tag)).setCell ⟨b,3,none⟩ (.bool i.oct)).setCell ⟨b,4,none⟩ av).setCell ⟨b,5,none⟩ bv).setCell ⟨b,6,none⟩ (.int .i64 i.at_)
theorem QoP(w:World)(b:Nat)(i:Ins)(av bv c0 c1 c2 c3 c4 c5 c6:Value)(h:w.heap[b]?=some (.cells #[c0,c1,c2,c3,c4,c5,c6] 147)):(setIns w b i av bv).heap[b]?=some (.cells (QkW i av bv) 147)/\Fr (fun k o=>k=b/\coO o=true) w (setIns w b i av bv):=by
 have aa:∀(W:World) (cs:Array Value) (k:Nat) (v:Value),W.heap[b]?=some (.cells cs 147)->(W.setCell ⟨b,k,none⟩ v).heap[b]?=some (.cells (cs.setIfInBounds k v) 147)/\Fr (fun k o=>k=b/\coO o=true) W (W.setCell ⟨b,k,none⟩ v):=fun W cs k v h=>⟨Qag W b k v cs _ h,(Fr.refl _ W).set h ⟨rfl,rfl⟩ k v⟩
 unfold setIns;obtain⟨g0,f0⟩:=aa w _ 0 (.int .i64 i.op) h;replace g0:(w.setCell ⟨b,0,none⟩ (.int .i64 i.op)).heap[b]?=some (.cells #[.int .i64 i.op,c1,c2,c3,c4,c5,c6] 147):=g0;generalize w.setCell ⟨b,0,none⟩ (.int .i64 i.op)=w0 at *;obtain⟨g1,f1⟩:=aa w0 _ 1 (.int .i64 i.n) g0;replace g1:(w0.setCell ⟨b,1,none⟩ (.int .i64 i.n)).heap[b]?=some (.cells #[.int .i64 i.op,.int .i64 i.n,c2,c3,c4,c5,c6] 147):=g1;generalize w0.setCell ⟨b,1,none⟩ (.int .i64 i.n)=w1 at *;obtain⟨g2,f2⟩:=aa w1 _ 2 (.int .i64 i.tag) g1;replace g2:(w1.setCell ⟨b,2,none⟩ (.int .i64 i.tag)).heap[b]?=some (.cells #[.int .i64 i.op,.int .i64 i.n,.int .i64 i.tag,c3,c4,c5,c6] 147):=g2;generalize w1.setCell ⟨b,2,none⟩ (.int .i64 i.tag)=w2 at *;obtain⟨g3,f3⟩:=aa w2 _ 3 (.bool i.oct) g2;replace g3:(w2.setCell ⟨b,3,none⟩ (.bool i.oct)).heap[b]?=some (.cells #[.int .i64 i.op,.int .i64 i.n,.int .i64 i.tag,.bool i.oct,c4,c5,c6] 147):=g3;generalize w2.setCell ⟨b,3,none⟩ (.bool i.oct)=w3 at *;obtain⟨g4,f4⟩:=aa w3 _ 4 (av) g3;replace g4:(w3.setCell ⟨b,4,none⟩ (av)).heap[b]?=some (.cells #[.int .i64 i.op,.int .i64 i.n,.int .i64 i.tag,.bool i.oct,av,c5,c6] 147):=g4;generalize w3.setCell ⟨b,4,none⟩ (av)=w4 at *;obtain⟨g5,f5⟩:=aa w4 _ 5 (bv) g4;replace g5:(w4.setCell ⟨b,5,none⟩ (bv)).heap[b]?=some (.cells #[.int .i64 i.op,.int .i64 i.n,.int .i64 i.tag,.bool i.oct,av,bv,c6] 147):=g5;generalize w4.setCell ⟨b,5,none⟩ (bv)=w5 at *;obtain⟨g6,f6⟩:=aa w5 _ 6 (.int .i64 i.at_) g5;replace g6:(w5.setCell ⟨b,6,none⟩ (.int .i64 i.at_)).heap[b]?=some (.cells #[.int .i64 i.op,.int .i64 i.n,.int .i64 i.tag,.bool i.oct,av,bv,.int .i64 i.at_] 147):=g6;generalize w5.setCell ⟨b,6,none⟩ (.int .i64 i.at_)=w6 at *;exact⟨g6,f0.trans (f1.trans (f2.trans (f3.trans (f4.trans (f5.trans f6)))))⟩
theorem QeA(op:Int)(X:Nat->Prop)(hw:L8)(x:Qec)(fv kv:Value)(w:World)(hf:slX X x.fr w fv)(hk:slX X x.keys w kv)(hlf:x.fr.length<=1000000)(ap:x.keys.length<=1000000) :
 Calls Tryz.prog 276 #[.int .i64 op,.agg #[.string (sA hw),.int .i64 x.pos,.int .i64 x.tag,.bool x.octet,fv,kv]] w fun e w'=>∃ a1 k1 a2 k2,e=.returned (Qde (Qcl op x) (.slice a1 x.fr.length k1) (.slice a2 x.keys.length k2))/\SlT w' (.slice a1 x.fr.length k1) x.fr/\SlT w' (.slice a2 x.keys.length k2) x.keys/\Below w.heap.size w w':=by
 have HF:=Qab hf;have HK:=Qab hk;obtain⟨gf,cf,rfl,ak⟩:=hf;obtain⟨gk,ck,rfl,aq⟩:=hk;clear ak aq;go_enter func276,ntmps276;go_wp2_with fail;obtain⟨W,hW⟩:∃ W,W=(w.alloc (.cells #[.string (sA hw),.int .i64 x.pos,.int .i64 x.tag,.bool x.octet,.slice (some ⟨gf,0,none⟩) x.fr.length cf,.slice (some ⟨gk,0,none⟩) x.keys.length ck] 211)).alloc (.cells #[.int .i64 0,.int .i64 0,.int .i64 0,.bool false,.slice none 0 0,.slice none 0 0,.int .i64 0] 147):=⟨_,rfl⟩;rw[<-hW];have ae:Below w.heap.size w W:=by rw[hW];exact((Below.refl _ _).alloc (Nat.le_refl _) _).alloc (by simp) _
 have ac:W.heap[w.heap.size]?=some (.cells #[.string (sA hw),.int .i64 x.pos,.int .i64 x.tag,.bool x.octet,.slice (some ⟨gf,0,none⟩) x.fr.length cf,.slice (some ⟨gk,0,none⟩) x.keys.length ck] 211):=by rw[hW];exact Qac (Qam _ _)
 have ag:W.heap[w.heap.size+1]?=some (.cells #[.int .i64 0,.int .i64 0,.int .i64 0,.bool false,.slice none 0 0,.slice none 0 0,.int .i64 0] 147):=by rw[hW];exact Qaq (by simp)
 clear hW;have c2:W.cell? ⟨w.heap.size,2,none⟩=some (.int .i64 x.tag):=Qaa ac 2;have c3:W.cell? ⟨w.heap.size,3,none⟩=some (.bool x.octet):=Qaa ac 3;have c4:W.cell? ⟨w.heap.size,4,none⟩=some (.slice (some ⟨gf,0,none⟩) x.fr.length cf):=Qaa ac 4;have c5:W.cell? ⟨w.heap.size,5,none⟩=some (.slice (some ⟨gk,0,none⟩) x.keys.length ck):=Qaa ac 5;have HFW:=Qab (HF.o.keep (w':=W) (fun k _ hk=>ae.block k hk));have HKW:=Qab (HK.o.keep (w':=W) (fun k _ hk=>ae.block k hk));have HWB:=Qab ae;have HWb:=Qab ac;have HWr:=Qab ag;have hWs:=ae.size;have hWl:=Qar ag;clear ae ac ag
 go_region_held3 (fun w'=>w'.cell? ⟨w.heap.size,2,none⟩=some (.int .i64 x.tag)∧w'.cell? ⟨w.heap.size,3,none⟩=some (.bool x.octet)∧w'.cell? ⟨w.heap.size,4,none⟩=some (.slice (some ⟨gf,0,none⟩) x.fr.length cf)∧w'.cell? ⟨w.heap.size,5,none⟩=some (.slice (some ⟨gk,0,none⟩) x.keys.length ck)) (first | go_keep | exact ⟨Qaa HW2.o 2,Qaa HW2.o 3,Qaa HW2.o 4,Qaa HW2.o 5⟩) (first
  |(have gg:=HB1;go_at_call 277;refine(QeZ X x.keys _ _ HKW1.o ap).mono ?_;rintro e w2 ⟨a2,k2,rfl,aj,ad⟩;have ai:=Qab (HB1.o.trans (ad.mono h1s));have HW2:=Qab (Qai HW1.o ad);have aa:=Qab (Qai HR1.o ad);have ao:=Qab aj;have ah:=Qab (HS1.o.below ad);have e2:w2.cell? ⟨w.heap.size,2,none⟩=some (.int .i64 x.tag):=Qaa HW2.o 2;have e3:w2.cell? ⟨w.heap.size,3,none⟩=some (.bool x.octet):=Qaa HW2.o 3;have e4:w2.cell? ⟨w.heap.size,4,none⟩=some (.slice (some ⟨gf,0,none⟩) x.fr.length cf):=Qaa HW2.o 4;have e5:w2.cell? ⟨w.heap.size,5,none⟩=some (.slice (some ⟨gk,0,none⟩) x.keys.length ck):=Qaa HW2.o 5;have z0:w2.cell? ⟨w.heap.size+1,0,none⟩=some (.int .i64 0):=Qaa aa.o 0;have z1:w2.cell? ⟨w.heap.size+1,1,none⟩=some (.int .i64 0):=Qaa aa.o 1;have z2:w2.cell? ⟨w.heap.size+1,2,none⟩=some (.int .i64 0):=Qaa aa.o 2;have z3:w2.cell? ⟨w.heap.size+1,3,none⟩=some (.bool false):=Qaa aa.o 3;have z4:w2.cell? ⟨w.heap.size+1,4,none⟩=some (.slice none 0 0):=Qaa aa.o 4;have z5:w2.cell? ⟨w.heap.size+1,5,none⟩=some (.slice none 0 0):=Qaa aa.o 5;have z6:w2.cell? ⟨w.heap.size+1,6,none⟩=some (.int .i64 0):=Qaa aa.o 6;have ef:=Qah aa.o;clear ad aj;skip)
  | (go_at_call 277;refine (QeZ X x.fr _ _ (HFW.o.keep (w':=W.drew) (fun _ _ _=>rfl)) hlf).mono ?_;rintro e w1 ⟨a1,k1,rfl,hs1,hB1⟩;have HB1:=Qab (HWB.o.drew.trans (hB1.mono hWs));have HW1:=Qab (Qai (w:=W.drew) HWb.o hB1);have HR1:=Qab (Qai (w:=W.drew) HWr.o hB1);have HS1:=Qab hs1;have d2:w1.cell? ⟨w.heap.size,2,none⟩=some (.int .i64 x.tag):=Qaa HW1.o 2;have d3:w1.cell? ⟨w.heap.size,3,none⟩=some (.bool x.octet):=Qaa HW1.o 3;have d4:w1.cell? ⟨w.heap.size,4,none⟩=some (.slice (some ⟨gf,0,none⟩) x.fr.length cf):=Qaa HW1.o 4;have d5:w1.cell? ⟨w.heap.size,5,none⟩=some (.slice (some ⟨gk,0,none⟩) x.keys.length ck):=Qaa HW1.o 5;have h1s:=HB1.o.size;have HKW1:=Qab (HKW.o.keep (w':=w1) (fun k _ hk=>hB1.block k hk));clear hB1 hs1;skip))
 all_goals (
  clear ef z0 z1 z2 z3 z4 z5 z6;change Exit.then _ _ Exit.normal _ (setIns w2 (w.heap.size+1) (Qcl op x) (.slice a1 x.fr.length k1) (.slice a2 x.keys.length k2));obtain⟨ab,af⟩:=QoP w2 (w.heap.size+1) (Qcl op x) (.slice a1 x.fr.length k1) (.slice a2 x.keys.length k2) _ _ _ _ _ _ _ aa.o;generalize setIns w2 (w.heap.size+1) (Qcl op x) (.slice a1 x.fr.length k1) (.slice a2 x.keys.length k2)=U at *;have HUB:Hid (Below w.heap.size w U):=ai.o.trans (af.below (fun k o e=>by rw[e.1];omega) ai.o.size);have HU1:=Qab (SlT.fr ah.o af (fun k cs e=>Bool.noConfusion e.2));have HU2:=Qab (SlT.fr ao.o af (fun k cs e=>Bool.noConfusion e.2));have y0:U.cell? ⟨w.heap.size+1,0,none⟩=some (.int .i64 op):=Qaa ab 0;have y1:U.cell? ⟨w.heap.size+1,1,none⟩=some (.int .i64 0):=Qaa ab 1;have y2:U.cell? ⟨w.heap.size+1,2,none⟩=some (.int .i64 x.tag):=Qaa ab 2;have y3:U.cell? ⟨w.heap.size+1,3,none⟩=some (.bool x.octet):=Qaa ab 3;have y4:U.cell? ⟨w.heap.size+1,4,none⟩=some (.slice a1 x.fr.length k1):=Qaa ab 4;have y5:U.cell? ⟨w.heap.size+1,5,none⟩=some (.slice a2 x.keys.length k2):=Qaa ab 5;have y6:U.cell? ⟨w.heap.size+1,6,none⟩=some (.int .i64 0):=Qaa ab 6;clear ab af;go_wp2;refine bodyPost_ret (v:=Qde (Qcl op x) (.slice a1 x.fr.length k1) (.slice a2 x.keys.length k2)) (by simp[results,results276,go_sem,Qde,Qcl,y0,y1,y2,y3,y4,y5,y6]) rfl ?_
  exact ⟨a1,k1,a2,k2,rfl,HU1.o,HU2.o,HUB.o⟩)
end
end Go.Proofs.YthkibedbcbgajaaGreatDoor
