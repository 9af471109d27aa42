import Derived.MapKept
import Derived.Laws.OwnMore
import Derived.WalkKit
import Derived.Deep.DrawnRows
import Derived.Deep.RegionWith
import Derived.Deep.RegionHeld3
import Derived.WalkLawsBesides
import Derived.BigRegion
import Derived.Test.YtbiclelojbfnbabGreatDoorZPlainCodeLen
import Derived.Test.YtbiclelojbfnbabGreatDoorZPlainSpace2
import Derived.Test.YtbiclelojbfnbabGreatDoorZWTab
namespace Go.Proofs.YtbiclelojbfnbabGreatDoor
set_option linter.unusedVariables false
set_option linter.unusedSimpArgs false
set_option maxRecDepth 100000
set_option maxHeartbeats 4000000
section
open Go.RowKit
structure Fr (P:Nat→Obj→Prop) (w w':World):Prop where
 os:w'.os=w.os
 tape:w'.tape=w.tape
 output:w'.output=w.output
 size:w.heap.size≤w'.heap.size
 block:∀ k o,w.heap[k]?=some o→¬ P k o→w'.heap[k]?=some o
theorem Fr.refl (P:Nat→Obj→Prop) (w:World):Fr P w w:=⟨rfl,rfl,rfl,Nat.le_refl _,fun _ _ h _=>h⟩
theorem Fr.trans {P:Nat→Obj→Prop} {u v w:World} (h:Fr P u v) (k:Fr P v w):Fr P u w:=
 ⟨k.os.trans h.os,k.tape.trans h.tape,k.output.trans h.output,Nat.le_trans h.size k.size,fun i o hi hn=>k.block i o (h.block i o hi hn) hn⟩
theorem Fr.mono {P Q:Nat→Obj→Prop} {u v:World} (h:Fr P u v) (hq:∀ k o,P k o→Q k o):Fr Q u v:=
 ⟨h.os,h.tape,h.output,h.size,fun i o hi hn=>h.block i o hi (fun hp=>hn (hq _ _ hp))⟩
theorem Fr.of_below {P:Nat→Obj→Prop} {w w':World} (h:Below w.heap.size w w'):Fr P w w':=
 ⟨h.os,h.tape,h.output,h.size,fun k o hk _=>Qaq hk h⟩
theorem Fr.below {P:Nat→Obj→Prop} {w w':World} {B:Nat} (h:Fr P w w') (hB:∀ k o,P k o→B≤k) (hz:B≤w.heap.size):Below B w w':=
 ⟨h.os,h.tape,h.output,h.size,fun k hk=>by
  have hl:k < w.heap.size:=by omega
  rw [Array.getElem?_eq_getElem hl]
  exact h.block k _ (Array.getElem?_eq_getElem hl) (fun hp=>by have:=hB _ _ hp;omega)⟩
theorem Fr.set {P:Nat→Obj→Prop} {u w:World} {b:Nat} {o:Obj} (h:Fr P u w) (hb:w.heap[b]?=some o) (hp:P b o) (j:Nat) (v:Value):Fr P u (w.setCell ⟨b,j,none⟩ v):=
 h.trans ⟨rfl,rfl,rfl,by simp [World.setCell],fun k o' hk hn=>by
  by_cases e:k=b
  ·subst e;rw [hb] at hk;cases hk;exact absurd hp hn
  ·rw [Below.heap_setCell _ _ _ _ e];exact hk⟩
theorem Fr.alloc {P:Nat→Obj→Prop} {u w:World} (h:Fr P u w) (o:Obj):Fr P u (w.alloc o):=
 h.trans ⟨rfl,rfl,rfl,by simp,fun k o' hk _=>Qad hk⟩
theorem Fr.drew {P:Nat→Obj→Prop} {u w:World} (h:Fr P u w):Fr P u w.drew:=⟨h.os,h.tape,h.output,h.size,h.block⟩
theorem Fr.grown {P:Nat→Obj→Prop} {u w w':World} {row:Option Nat} (h:Fr P u w) (hg:w.grownBy w' row) (hp:∀ k o,row=some k→w.heap[k]?=some o→P k o):Fr P u w':=
 h.trans ⟨hg.os,hg.tape,hg.output,hg.size,fun k o hk hn=>by
  rw [hg.block k (QaM hk) (fun e=>hn (hp k o e.symm hk))];exact hk⟩
def stO:Obj→Bool
 | .cells _ t _=>t == 227 || t == 34
 | .map _ _=>true
 | _=>false
def PSt (B k:Nat) (o:Obj):Prop:=B≤k∧stO o=true
theorem PSt.not {B k:Nat} {cs:Array Value} {t:TypeId} {f:Nat×Nat} (h1:t≠227) (h2:t≠34):¬ PSt B k (.cells cs t f):=fun h=>by
 have:=h.2
 unfold stO at this
 simp at this
 rcases this with h | h
 ·exact h1 h
 ·exact h2 h
def Qs8 (w:World) (g:Nat) (zs:List (List UInt8)):Prop:=
 ∃ cs,w.heap[g]?=some (.cells cs 9)∧∀ j,j < zs.length→cs[j]?=some (.string (Qag (zs.getD j [])))
theorem Qs8.at {w:World} {g:Nat} {zs:List (List UInt8)} (h:Qs8 w g zs):Qc6 w g zs:=by
 obtain ⟨cs,hb,hc⟩:=h
 intro j hj
 rw [Qab hb]
 exact hc j hj
def SlT (w:World) (v:Value) (zs:List (List UInt8)):Prop:=
 (v=.slice none 0 0∧zs=[])∨∃ g c,v=.slice (some ⟨g,0,none⟩) zs.length c∧Qs8 w g zs
theorem SlT.fr {P:Nat→Obj→Prop} {w w':World} {v:Value} {zs:List (List UInt8)} (h:SlT w v zs) (hf:Fr P w w') (hp:∀ k cs,¬ P k (.cells cs 9)):SlT w' v zs:=by
 rcases h with h | ⟨g,c,hv,cs,hb,hc⟩
 ·exact Or.inl h
 ·exact Or.inr ⟨g,c,hv,cs,hf.block g _ hb (hp _ _),hc⟩
theorem SlT.below {w w':World} {v:Value} {zs:List (List UInt8)} (h:SlT w v zs) (hf:Below w.heap.size w w'):SlT w' v zs:=h.fr (P:=fun _ _=>False) (Fr.of_below hf) (fun _ _ h=>h)
theorem SlT.len {w:World} {v:Value} {zs:List (List UInt8)} (h:SlT w v zs):∃ a c,v=.slice a zs.length c:=by
 rcases h with ⟨h,rfl⟩ | ⟨g,c,h,_⟩
 ·exact ⟨none,0,h⟩
 ·exact ⟨_,_,h⟩
theorem Qrs (zs:List (List UInt8)) (j:Nat) (hj:j < zs.length):(QaV zs)[j]?=some (.string (Qag (zs.getD j []))):=by
 simp [QaV,List.getElem?_eq_getElem hj,List.getD_eq_getElem?_getD]
theorem SlT.of_owns {w:World} {base n:Nat} {v:Value} {xs:List (List UInt8)} (h:w.ownsRow base 9 1 v n (QaV xs)) (hn:n=xs.length):SlT w v xs:=by
 subst hn
 obtain ⟨h1,h2⟩:=h
 rcases h2 with ⟨h2,h3⟩ | ⟨g,cap,cur,hv,hg,hb,hc,_,hs,ht⟩
 ·exact Or.inl ⟨h2,List.eq_nil_of_length_eq_zero h3⟩
 ·refine Or.inr ⟨g,cap,hv,cur,hb,fun j hj=>?_⟩
  have h4:=Qrs xs j hj
  rw [← ht] at h4
  rw [List.getElem?_take_of_lt (by omega)] at h4
  rw [← h4];simp
theorem Qs8.of_owns {w:World} {base g n c:Nat} {xs:List (List UInt8)} (h:w.ownsRow base 9 1 (.slice (some ⟨g,0,none⟩) n c) n (QaV xs)):Qs8 w g xs:=by
 have hn:n=xs.length:=by have:=h.1;rw [QjG] at this;omega
 rcases SlT.of_owns h hn with ⟨h1,_⟩ | ⟨g',c',h1,h2⟩
 ·injection h1 with h1;cases h1
 ·injection h1 with h3 h4 h5
  injection h3 with h3
  injection h3 with h6
  subst h6
  exact h2
def Qik (w:World) (hv:Value) (hs:List (List UInt8×List UInt8)):Prop:=
 (hv=.slice none 0 0∧hs=[])∨∃ g c cs,hv=.slice (some ⟨g,0,none⟩) hs.length c∧w.heap[g]?=some (.cells cs 25)∧
   ∀ j (hj:j < hs.length),cs[j*2]?=some (.string (Qag hs[j].1))∧cs[j*2+1]?=some (.string (Qag hs[j].2))
theorem Qik.fr {P:Nat→Obj→Prop} {w w':World} {v:Value} {hs:List (List UInt8×List UInt8)} (h:Qik w v hs) (hf:Fr P w w') (hp:∀ k cs,¬ P k (.cells cs 25)):Qik w' v hs:=by
 rcases h with h | ⟨g,c,cs,hv,hb,hc⟩
 ·exact Or.inl h
 ·exact Or.inr ⟨g,c,cs,hv,hf.block g _ hb (hp _ _),hc⟩
theorem Qik.len {w:World} {v:Value} {hs:List (List UInt8×List UInt8)} (h:Qik w v hs):∃ a c,v=.slice a hs.length c:=by
 rcases h with ⟨h,rfl⟩ | ⟨g,c,cs,h,_⟩
 ·exact ⟨none,0,h⟩
 ·exact ⟨_,_,h⟩
theorem Qik.cells {w:World} {v:Value} {hs:List (List UInt8×List UInt8)} (h:Qik w v hs) (j:Nat) (hj:j < hs.length):∃ g c,v=.slice (some ⟨g,0,none⟩) hs.length c∧g < w.heap.size∧w.cell? ⟨g,j*2,none⟩=some (.string (Qag hs[j].1))∧w.cell? ⟨g,j*2+1,none⟩=some (.string (Qag hs[j].2)):=by
 rcases h with ⟨_,rfl⟩ | ⟨g,c,cs,h,hb,hc⟩
 ·exact absurd hj (Nat.not_lt_zero _)
 ·exact ⟨g,c,h,QaM hb,by rw [Qab hb];exact (hc j hj).1,by rw [Qab hb];exact (hc j hj).2⟩
def QbB (l:List (Int×List UInt8)):List Value:=l.flatMap fun a=>[.int .i64 a.1,.string (Qag a.2)]
theorem Qec (l:List (Int×List UInt8)) (a:Int×List UInt8):QbB l++[.int .i64 a.1,.string (Qag a.2)]=QbB (l++[a]):=by simp [QbB]
theorem QjR (l:List (Int×List UInt8)):(QbB l).length=l.length*2:=by
 induction l with
 | nil=>rfl
 | cons p r ih=>simp only [QbB,List.flatMap_cons,List.length_append,List.length_cons,List.length_nil] at ih ⊢;omega
theorem Qqy (l:List (Int×List UInt8)) (j:Nat) (hj:j < l.length):(QbB l)[j*2]?=some (.int .i64 l[j].1)∧(QbB l)[j*2+1]?=some (.string (Qag l[j].2)):=by
 induction l generalizing j with
 | nil=>exact absurd hj (Nat.not_lt_zero _)
 | cons p r ih=>
  cases j with
  | zero=>exact ⟨rfl,rfl⟩
  | succ j=>
   have:=ih j (by simpa using hj)
   have e:QbB (p :: r)=.int .i64 p.1 :: .string (Qag p.2) :: QbB r:=rfl
   have e1:(j+1)*2=j*2+1+1:=by omega
   have e2:(j+1)*2+1=(j*2+1)+1+1:=by omega
   rw [e,e1,List.getElem?_cons_succ,List.getElem?_cons_succ,List.getElem?_cons_succ,List.getElem?_cons_succ]
   exact this
theorem QaN {w:World} {base:Nat} {e:TypeId} {size:Nat} {v:Value} {n:Nat} {xs:List Value} (h:w.ownsRow base e size v n xs):∃ a c,v=.slice a n c:=by
 rcases h.2 with ⟨h,h2⟩ | ⟨g,cap,cur,h,_⟩
 ·exact ⟨none,0,by rw [h,h2]⟩
 ·exact ⟨_,_,h⟩
theorem Qa8 {P:Nat→Obj→Prop} {w w':World} {base:Nat} {e:TypeId} {size:Nat} {v:Value} {n:Nat} {xs:List Value} (h:w.ownsRow base e size v n xs) (hf:Fr P w w') (hp:∀ k cs,¬ P k (.cells cs e)):w'.ownsRow base e size v n xs:=by
 obtain ⟨h1,h2⟩:=h
 refine ⟨h1,?_⟩
 rcases h2 with h2 | ⟨g,cap,cur,hv,hg,hh,r⟩
 ·exact Or.inl h2
 ·exact Or.inr ⟨g,cap,cur,hv,hg,hf.block g _ hh (hp _ _),r⟩
theorem Qig {w:World} {base base':Nat} {e:TypeId} {size:Nat} {v:Value} {n:Nat} {xs:List Value} (h:w.ownsRow base e size v n xs) (hb:base'≤base):w.ownsRow base' e size v n xs:=by
 obtain ⟨h1,h2⟩:=h
 refine ⟨h1,?_⟩
 rcases h2 with h2 | ⟨g,cap,cur,hv,hg,r⟩
 ·exact Or.inl h2
 ·exact Or.inr ⟨g,cap,cur,hv,by omega,r⟩
theorem QbG {w:World} {base:Nat} {e:TypeId} {size:Nat} {v:Value} {n:Nat} {xs:List Value} (h:w.ownsRow base e size v n xs) (k:Nat) (o:Obj) (hk:v.ownBlock=some k) (ho:w.heap[k]?=some o):base≤k∧∃ cs,o=.cells cs e:=by
 rcases h.2 with ⟨rfl,_⟩ | ⟨g,cap,cur,rfl,hg,hh,_⟩
 ·cases hk
 ·obtain rfl:g=k:=by simpa [Value.ownBlock] using hk
  rw [hh] at ho
  cases ho
  exact ⟨hg,_,rfl⟩
theorem Qdn {w:World} {base:Nat} {e:TypeId} {size:Nat} {v:Value} {n:Nat} {xs:List Value} (h:w.ownsRow base e size v n xs) (hn:0 < n):∃ g c,v=.slice (some ⟨g,0,none⟩) n c∧base≤g∧g < w.heap.size∧∀ j u,xs[j]?=some u→w.cell? ⟨g,j,none⟩=some u:=by
 rcases h.2 with ⟨_,h2⟩ | ⟨g,cap,cur,hv,hg,hh,_⟩
 ·omega
 ·refine ⟨g,cap,hv,hg,QaM hh,fun j u hj=>?_⟩
  have:=h.cells (g:=g) (by rw [hv];rfl) j u hj
  rwa [QcM] at this
def QrE (es:Array MapEntry) (f:List UInt8→Option Value):Prop:=
 (∀ e∈es.toList,∃ x,e.key=.string (Qag x)∧f x=some e.val)∧(∀ x v,f x=some v→∃ e∈es.toList,e.key=.string (Qag x))∧es.toList.Pairwise (fun a b=>a.key≠b.key)
theorem QrE.empty:QrE #[] (fun _=>none):=⟨fun e he=>(by simp at he),fun x v h=>(by cases h),by simp⟩
theorem QrE.keys {es:Array MapEntry} {f:List UInt8→Option Value} (h:QrE es f):∀ e∈es.toList,MapKept.IsKey .string e.key:=fun e he=>by
 obtain ⟨x,hx,_⟩:=h.1 e he
 rw [hx];trivial
theorem Qi2 {x y:List UInt8} (h:Value.string (Qag x)=.string (Qag y)):x=y:=by injection h with h;exact QfS h
theorem Qg8 {T K E:TypeId} (hT:Tryz.prog.underlying T=some (.map K E)) (hK:Tryz.prog.underlying K=some .string) {w:World} {m:Nat} {es:Array MapEntry} {c:Nat} {f g:List UInt8→Option Value} (hm:w.heap[m]?=some (.map es c)) (hf:QrE es f) (x:List UInt8) (v:Value) (hx:g x=some v) (hg:∀ z,z≠x→g z=f z) :
 ∃ es' c',(Instr.mapUpdate T (.map (some m)) (.string (Qag x)) v).run Tryz.prog w=.ok () { w with heap:=w.heap.setIfInBounds m (.map es' c') }∧QrE es' g:=by
 have hk:MapKept.IsKey .string (.string (Qag x)):=trivial
 rcases MapKept.findNow_spec hk es.toList 0 hf.keys with ⟨h1,h2⟩ | ⟨j,e,h1,h2,h3⟩
 ·refine ⟨es.push ⟨.string (Qag x),v,c⟩,c+1,?_,?_,?_,?_⟩
  ·simp [Instr.mapUpdate,run_underlying hT,MapKept.run_getObj_map hm,MapKept.run_checkKey hK hk,MapKept.run_findKey hK h1,MapKept.run_setObj_map _ hm,Result.andThen]
  ·intro e he
   simp only [Array.toList_push,List.mem_append,List.mem_singleton] at he
   rcases he with he | rfl
   ·obtain ⟨z,hz,hfz⟩:=hf.1 e he
    refine ⟨z,hz,?_⟩
    rw [hg z (fun ez=>h2 e he (by rw [hz,ez]))];exact hfz
   ·exact ⟨x,rfl,hx⟩
  ·intro z u hz
   by_cases ez:z=x
   ·exact ⟨⟨.string (Qag x),v,c⟩,by simp,by rw [ez]⟩
   ·rw [hg z ez] at hz
    obtain ⟨e,he,hke⟩:=hf.2.1 z u hz
    exact ⟨e,by simp [he],hke⟩
  ·rw [Array.toList_push,List.pairwise_append]
   refine ⟨hf.2.2,by simp,fun a ha b hb=>?_⟩
   simp at hb
   subst hb
   exact h2 a ha
 ·have hj:es[j]?=some e:=by simpa using h2
  have hjl:j < es.toList.length:=by
   rcases Nat.lt_or_ge j es.toList.length with h | h
   ·exact h
   ·rw [List.getElem?_eq_none h] at h2;cases h2
  have hml:(es.modify j (fun e=>{ e with key:=.string (Qag x),val:=v })).toList=es.toList.set j { e with key:=.string (Qag x),val:=v }:=by
   apply List.ext_getElem?
   intro i
   rw [Array.getElem?_toList,Array.getElem?_modify,List.getElem?_set]
   by_cases hi:j=i
   ·subst hi;simp [hj,hjl];exact (by simpa using hjl)
   ·simp [hi]
  refine ⟨es.modify j (fun e=>{ e with key:=.string (Qag x),val:=v }),c,?_,?_,?_,?_⟩
  ·simp [Instr.mapUpdate,run_underlying hT,MapKept.run_getObj_map hm,MapKept.run_checkKey hK hk,MapKept.run_findKey hK h1,hj,h3,MapKept.run_keyThatStays hk,MapKept.run_setObj_map _ hm,Result.andThen]
  ·intro a ha
   rw [hml] at ha
   obtain ⟨i,hi⟩:=List.mem_iff_getElem?.1 ha
   rw [List.getElem?_set] at hi
   by_cases hji:j=i
   ·rw [if_pos hji,if_pos (by omega)] at hi
    cases hi
    exact ⟨x,rfl,hx⟩
   ·rw [if_neg hji] at hi
    obtain ⟨z,hz,hfz⟩:=hf.1 a (List.mem_of_getElem? hi)
    refine ⟨z,hz,?_⟩
    rw [hg z (fun ez=>?_)];exact hfz
    have hp:=List.pairwise_iff_getElem.1 hf.2.2
    have hil:i < es.toList.length:=by
     rcases Nat.lt_or_ge i es.toList.length with h | h
     ·exact h
     ·rw [List.getElem?_eq_none h] at hi;cases hi
    have e1:es.toList[i]=a:=by rw [List.getElem?_eq_getElem hil] at hi;exact Option.some.inj hi
    have e2:es.toList[j]=e:=by rw [List.getElem?_eq_getElem hjl] at h2;exact Option.some.inj h2
    have hka:a.key=e.key:=by rw [hz,h3,ez]
    rcases Nat.lt_or_gt_of_ne hji with hlt | hlt
    ·exact hp j i hjl hil hlt (by rw [e1,e2,hka])
    ·exact hp i j hil hjl hlt (by rw [e1,e2,hka])
  ·intro z u hz
   by_cases ez:z=x
   ·refine ⟨{ e with key:=.string (Qag x),val:=v },?_,by rw [ez]⟩
    rw [hml]
    exact List.mem_set hjl _
   ·rw [hg z ez] at hz
    obtain ⟨a,ha,hka⟩:=hf.2.1 z u hz
    obtain ⟨i,hi⟩:=List.mem_iff_getElem?.1 ha
    have hji:j≠i:=fun e'=>by
     subst e'
     rw [h2] at hi
     cases hi
     rw [h3] at hka
     exact ez (Qi2 hka).symm
    refine ⟨a,?_,hka⟩
    rw [hml]
    refine List.mem_iff_getElem?.2 ⟨i,?_⟩
    rw [List.getElem?_set,if_neg hji];exact hi
  ·rw [hml,List.pairwise_iff_getElem]
   intro a b ha hb hab
   have hp:=List.pairwise_iff_getElem.1 hf.2.2
   rw [List.length_set] at ha hb
   have e2:es.toList[j]=e:=by rw [List.getElem?_eq_getElem hjl] at h2;exact Option.some.inj h2
   rw [List.getElem_set,List.getElem_set]
   have hh:=hp a b ha hb hab
   split
   ·next h=>subst h;rw [if_neg (by omega)];rw [e2,h3] at hh;exact hh
   ·split
    ·next h=>subst h;rw [e2,h3] at hh;exact hh
    ·exact hh
theorem QrY {T K E:TypeId} (hT:Tryz.prog.underlying T=some (.map K E)) (hK:Tryz.prog.underlying K=some .string) {z:Value} (hE:∀ W,(zeroValue E).run Tryz.prog W=.ok z W) {w:World} {m:Nat} {es:Array MapEntry} {c:Nat} {f:List UInt8→Option Value} (hm:w.heap[m]?=some (.map es c)) (hf:QrE es f) (x:List UInt8) :
 (Instr.lookup T (.map (some m)) (.string (Qag x)) false).run Tryz.prog w=.ok ((f x).getD z) w:=by
 have hk:MapKept.IsKey .string (.string (Qag x)):=trivial
 rcases MapKept.findNow_spec hk es.toList 0 hf.keys with ⟨h1,h2⟩ | ⟨j,e,h1,h2,h3⟩
 ·have hn:f x=none:=by
   cases hfx:f x with
   | none=>rfl
   | some v=>
    obtain ⟨e,he,hke⟩:=hf.2.1 x v hfx
    exact absurd hke (h2 e he)
  rw [hn]
  simp [Instr.lookup,run_underlying hT,MapKept.run_getObj_map hm,MapKept.run_checkKey hK hk,MapKept.run_findKey hK h1,hE,Result.andThen]
 ·obtain ⟨y,hy,hy2⟩:=hf.1 e (List.mem_of_getElem? h2)
  rw [h3] at hy
  have:x=y:=Qi2 hy
  subst this
  rw [hy2]
  simp [Instr.lookup,run_underlying hT,MapKept.run_getObj_map hm,MapKept.run_checkKey hK hk,MapKept.run_findKey hK h1,Result.andThen]
structure SBd (M:Msg) (s:SS):Prop where
 fr:M.fr.length≤100000
 to:M.to.length≤100000
 hl:M.hdrs.length≤100000
 hd:∀ h∈M.hdrs,h.1.length≤100000∧h.2.length≤100000
 told:∀ t∈s.told,t.length≤100000
 tl:s.told.length≤1000000
 vals:∀ x t,s.vals x=some t→t.length≤48
 met:s.met.length≤6
def QjH (M:Msg) (hv:Value) (vs:Bool) (mb:Nat) (tv mv:Value) (disc:Bool):Array Value:=
 #[.string (Qag M.fr),.string (Qag M.to),.int .i64 M.size,hv,.bool vs,.map (some mb),tv,mv,.bool disc]
def Qme (s:SS) (x:List UInt8):Option Value:=(s.vals x).map fun t=>.agg #[.string (Qag t)]
structure SI (w:World) (B sb:Nat) (M:Msg) (s:SS) (hv:Value) (mb:Nat) (tv mv:Value):Prop where
 bs:B≤sb
 bm:B≤mb
 b1:1 < B
 m1:∃ m,w.cell? ⟨1,0,none⟩=some (.int .i64 m)
 blk:w.heap[sb]?=some (.cells (QjH M hv s.vs mb tv mv s.disc) 227)
 hd:Qik w hv M.hdrs
 mp:∃ es c,w.heap[mb]?=some (.map es c)∧QrE es (Qme s)
 told:SlT w tv s.told
 met:w.ownsRow B 34 2 mv s.met.length (QbB s.met)
 mn:s.met=[]→mv=.slice none 0 0
 bd:SBd M s
def SAt (w:World) (B sb:Nat) (M:Msg) (s:SS):Prop:=∃ hv mb tv mv,SI w B sb M s hv mb tv mv
theorem SI.fr {P:Nat→Obj→Prop} {w w':World} {B sb:Nat} {M:Msg} {s:SS} {hv:Value} {mb:Nat} {tv mv:Value} (h:SI w B sb M s hv mb tv mv) (hf:Fr P w w') (h1:∀ k cs,¬ P k (.cells cs 227)) (h2:∀ k cs,¬ P k (.cells cs 34)) (h3:∀ k cs,¬ P k (.cells cs 9)) (h4:∀ k cs,¬ P k (.cells cs 25)) (h5:∀ k es c,¬ P k (.map es c)) (h6:∀ o,¬ P 1 o):SI w' B sb M s hv mb tv mv:=by
 obtain ⟨es,c,hm,hu⟩:=h.mp
 obtain ⟨m,h7⟩:=h.m1
 have h8:∃ o,w.heap[1]?=some o:=⟨_,Array.getElem?_eq_getElem (Qay h7)⟩
 obtain ⟨o,h8⟩:=h8
 exact ⟨h.bs,h.bm,h.b1,⟨m,by rw [World.cell?_of_block (a:=⟨1,0,none⟩) ((hf.block 1 o h8 (h6 o)).trans h8.symm)];exact h7⟩,hf.block _ _ h.blk (h1 _ _),h.hd.fr hf h4,⟨es,c,hf.block _ _ hm (h5 _ _ _),hu⟩,h.told.fr hf h3,Qa8 h.met hf h2,h.mn,h.bd⟩
theorem SI.below {w w':World} {B sb:Nat} {M:Msg} {s:SS} {hv:Value} {mb:Nat} {tv mv:Value} (h:SI w B sb M s hv mb tv mv) (hf:Below w.heap.size w w'):SI w' B sb M s hv mb tv mv:=
 h.fr (P:=fun _ _=>False) (Fr.of_below hf) (fun _ _ h=>h) (fun _ _ h=>h) (fun _ _ h=>h) (fun _ _ h=>h) (fun _ _ _ h=>h) (fun _ h=>h)
theorem SAt.below {w w':World} {B sb:Nat} {M:Msg} {s:SS} (h:SAt w B sb M s) (hf:Below w.heap.size w w'):SAt w' B sb M s:=by
 obtain ⟨hv,mb,tv,mv,h⟩:=h
 exact ⟨hv,mb,tv,mv,h.below hf⟩
theorem SI.cell {w:World} {B sb:Nat} {M:Msg} {s:SS} {hv:Value} {mb:Nat} {tv mv:Value} (h:SI w B sb M s hv mb tv mv) (j:Nat):w.cell? ⟨sb,j,none⟩=(QjH M hv s.vs mb tv mv s.disc)[j]?:=Qab h.blk j
theorem SI.frozen {w:World} {B sb:Nat} {M:Msg} {s:SS} {hv:Value} {mb:Nat} {tv mv:Value} (h:SI w B sb M s hv mb tv mv) (j:Nat):w.frozen? ⟨sb,j,none⟩=false:=Qam h.blk j
theorem SI.lt {w:World} {B sb:Nat} {M:Msg} {s:SS} {hv:Value} {mb:Nat} {tv mv:Value} (h:SI w B sb M s hv mb tv mv):sb < w.heap.size:=QaM h.blk
theorem SI.ps {w:World} {B sb:Nat} {M:Msg} {s:SS} {hv:Value} {mb:Nat} {tv mv:Value} (h:SI w B sb M s hv mb tv mv):PSt B sb (.cells (QjH M hv s.vs mb tv mv s.disc) 227):=⟨h.bs,rfl⟩
end
section
open Go.RowKit
def Qdk (i:Ins) (av bv:Value):Value:=.agg #[.int .i64 i.op,.int .i64 i.n,.int .i64 i.tag,.bool i.oct,av,bv,.int .i64 i.at_]
def Qkj (i:Ins) (av bv:Value):Array Value:=#[.int .i64 i.op,.int .i64 i.n,.int .i64 i.tag,.bool i.oct,av,bv,.int .i64 i.at_]
structure Qb2 (w:World) (i:Ins) (av bv:Value):Prop where
 a:SlT w av i.a
 b:SlT w bv i.b
 al:∀ z∈i.a,z.length≤100000
 bl:∀ z∈i.b,z.length≤100000
 an:i.a.length≤1000000
 bn:i.b.length≤1000000
 n1:-9223372036854775808≤i.n
 n2:i.n≤9223372036854775807
theorem Qb2.fr {P:Nat→Obj→Prop} {w w':World} {i:Ins} {av bv:Value} (h:Qb2 w i av bv) (hf:Fr P w w') (hp:∀ k cs,¬ P k (.cells cs 9)):Qb2 w' i av bv:=
 ⟨h.a.fr hf hp,h.b.fr hf hp,h.al,h.bl,h.an,h.bn,h.n1,h.n2⟩
theorem Qb2.below {w w':World} {i:Ins} {av bv:Value} (h:Qb2 w i av bv) (hb:Below w.heap.size w w'):Qb2 w' i av bv:=h.fr (P:=fun _ _=>False) (Fr.of_below hb) (fun _ _ h=>h)
theorem QcV {w:World} {base:Nat} {e:TypeId} {size:Nat} {v:Value} {n:Nat} {xs:List Value} (h:w.ownsRow base e size v n xs) {b:Nat} (hne:v.ownBlock≠some b) (j:Nat) (x:Value):(w.setCell ⟨b,j,none⟩ x).ownsRow base e size v n xs:=by
 obtain ⟨h1,h2⟩:=h
 refine ⟨h1,?_⟩
 rcases h2 with h2 | ⟨g,cap,cur,hv,hg,hh,r⟩
 ·exact Or.inl h2
 ·refine Or.inr ⟨g,cap,cur,hv,hg,?_,r⟩
  rw [Below.heap_setCell _ _ _ _ (show g≠b from fun e=>hne (by rw [hv,e];rfl))]
  exact hh
end
section
open Go.RowKit
attribute [local go_sem ↓] Go.wp_at_zero Go.wp_at_succ
abbrev IV:=Ins×Value×Value
def Qgt (p:IV):List Value:=[.int .i64 p.1.op,.int .i64 p.1.n,.int .i64 p.1.tag,.bool p.1.oct,p.2.1,p.2.2,.int .i64 p.1.at_]
def Qcq (ps:List IV):List Value:=ps.flatMap Qgt
theorem Qdz (p:IV) (ps:List IV):Qcq (p :: ps)=Qgt p++Qcq ps:=by simp [Qcq]
theorem Qkr (ps qs:List IV):Qcq (ps++qs)=Qcq ps++Qcq qs:=by simp [Qcq]
theorem QfU:∀ ps:List IV,(Qcq ps).length=ps.length*7
 | []=>rfl
 | p :: r=>by rw [Qdz,List.length_append,QfU r,List.length_cons];simp only [Qgt,List.length_cons,List.length_nil];omega
theorem Qia:∀ (ps:List IV) (j:Nat) (hj:j < ps.length) (k:Nat),k < 7→(Qcq ps)[j*7+k]?=(Qgt ps[j])[k]?
 | [],j,hj,_,_=>absurd hj (Nat.not_lt_zero _)
 | p :: r,0,_,k,hk=>by
  rw [Qdz,Nat.zero_mul,Nat.zero_add]
  show (Qgt p++Qcq r)[k]?=(Qgt p)[k]?
  rw [List.getElem?_append_left (by simpa [Qgt] using hk)]
 | p :: r,j+1,hj,k,hk=>by
  have ih:=Qia r j (by simpa using hj) k hk
  have hl:(Qgt p).length=7:=rfl
  have e:(Qgt p).length≤(j+1)*7+k:=by rw [hl];omega
  have e2:(j+1)*7+k - 7=j*7+k:=by omega
  rw [Qdz,List.getElem?_append_right e,hl,e2,ih]
  rfl
theorem Qja:∀ (ps:List IV) (j:Nat) (n:Int),(Qcq ps).set (j*7+1) (.int .i64 n)=Qcq (ps.modify j fun p=>(QeF n p.1,p.2))
 | [],j,n=>by cases j <;> rfl
 | p :: r,0,n=>rfl
 | p :: r,j+1,n=>by
  have ih:=Qja r j n
  have hl:(Qgt p).length=7:=rfl
  have e:(Qgt p).length≤(j+1)*7+1:=by rw [hl];omega
  have e2:(j+1)*7+1 - 7=j*7+1:=by omega
  show (Qcq (p :: r)).set ((j+1)*7+1) (.int .i64 n)=Qcq (p :: r.modify j _)
  rw [Qdz,Qdz,List.set_append_right _ _ e,hl,e2,ih]
def coO:Obj→Bool
 | .cells _ t _=>t == 238 || t == 147
 | _=>false
def PCo (B k:Nat) (o:Obj):Prop:=B≤k∧coO o=true
theorem PCo.not {B k:Nat} {cs:Array Value} {t:TypeId} {f:Nat×Nat} (h1:t≠238) (h2:t≠147):¬ PCo B k (.cells cs t f):=fun h=>by
 have:=h.2
 unfold coO at this
 simp at this
 rcases this with h | h
 ·exact h1 h
 ·exact h2 h
theorem PCo.str {B:Nat} (k:Nat) (cs:Array Value):¬ PCo B k (.cells cs 9):=PCo.not (by decide) (by decide)
structure CI (w:World) (B cb:Nat) (cv:Value) (ps:List IV):Prop where
 bc:B≤cb
 blk:w.heap[cb]?=some (.cells #[cv] 238)
 row:w.ownsRow B 147 7 cv ps.length (Qcq ps)
 ok:∀ p∈ps,Qb2 w p.1 p.2.1 p.2.2
 nil:ps=[]→cv=.slice none 0 0
def CC (w:World) (B cb:Nat) (cs:List Ins):Prop:=∃ cv ps,ps.map Prod.fst=cs∧CI w B cb cv ps
theorem CC.lt {w:World} {B cb:Nat} {cs:List Ins} (h:CC w B cb cs):B≤cb∧cb < w.heap.size:=by
 obtain ⟨cv,ps,_,h⟩:=h
 exact ⟨h.bc,QaM h.blk⟩
theorem CI.fr {P:Nat→Obj→Prop} {w w':World} {B cb:Nat} {cv:Value} {ps:List IV} (h:CI w B cb cv ps) (hf:Fr P w w') (h1:∀ k cs,¬ P k (.cells cs 238)) (h2:∀ k cs,¬ P k (.cells cs 147)) (h3:∀ k cs,¬ P k (.cells cs 9)):CI w' B cb cv ps:=
 ⟨h.bc,hf.block _ _ h.blk (h1 _ _),Qa8 h.row hf h2,fun p hp=>(h.ok p hp).fr hf h3,h.nil⟩
theorem CI.below {w w':World} {B cb:Nat} {cv:Value} {ps:List IV} (h:CI w B cb cv ps) (hb:Below w.heap.size w w'):CI w' B cb cv ps:=h.fr (P:=fun _ _=>False) (Fr.of_below hb) (fun _ _ h=>h) (fun _ _ h=>h) (fun _ _ h=>h)
theorem CI.drew {w:World} {B cb:Nat} {cv:Value} {ps:List IV} (h:CI w B cb cv ps):CI w.drew B cb cv ps:=h.fr (P:=fun _ _=>False) (Fr.refl _ w).drew (fun _ _ h=>h) (fun _ _ h=>h) (fun _ _ h=>h)
theorem CC.below {w w':World} {B cb:Nat} {cs:List Ins} (h:CC w B cb cs) (hb:Below w.heap.size w w'):CC w' B cb cs:=by
 obtain ⟨cv,ps,e,h⟩:=h
 exact ⟨cv,ps,e,h.below hb⟩
theorem CC.alloc {w:World} {B cb:Nat} {cs:List Ins} (h:CC w B cb cs) (o:Obj):CC (w.alloc o) B cb cs:=h.below ((Below.refl _ _).alloc (Nat.le_refl _) _)
theorem Fr.co {B cb:Nat} {w w':World} {cs:List Ins} (h:Fr (PCo B) w w') (hc:CC w B cb cs):Below B w w':=h.below (fun _ _ h=>h.1) (Nat.le_of_lt (Nat.lt_of_le_of_lt hc.lt.1 hc.lt.2))
theorem CI.regrow {w w5:World} {B cb:Nat} {cv:Value} {ps qs:List IV} (h:CI w B cb cv ps) (hf:Fr (fun k _=>cv.ownBlock=some k) w w5) (v':Value) (ho:w5.ownsRow B 147 7 v' (ps++qs).length (Qcq (ps++qs))) (hq:∀ p∈qs,Qb2 w p.1 p.2.1 p.2.2) (hne:qs≠[]) :
 CI (w5.setCell ⟨cb,0,none⟩ v') B cb v' (ps++qs)∧Fr (PCo B) w (w5.setCell ⟨cb,0,none⟩ v'):=by
 have hne':∀ (k:Nat) (o:Obj),w.heap[k]?=some o→(∀ cs,o≠.cells cs 147)→w5.heap[k]?=some o:=fun k o hk ho=>by
  refine hf.block k o hk (fun e=>?_)
  obtain ⟨_,cs,hcs⟩:=QbG h.row k o e hk
  exact ho cs hcs
 have hb5:=hne' cb _ h.blk (fun cs e=>by injection e with e1 e2;exact absurd e2 (by decide))
 have hf5:Fr (PCo B) w (w5.setCell ⟨cb,0,none⟩ v'):=by
  refine (Fr.mono ⟨hf.os,hf.tape,hf.output,hf.size,fun k o hk hn=>?_⟩ (fun k o h=>h)).set hb5 ⟨h.bc,rfl⟩ 0 v'
  exact hf.block k o hk (fun e=>hn (by
   obtain ⟨hb,cs,hcs⟩:=QbG h.row k o e hk
   subst hcs
   exact ⟨hb,rfl⟩))
 have hv5:v'.ownBlock≠some cb:=fun e=>by
  obtain ⟨_,cs,hcs⟩:=QbG ho cb _ e hb5
  injection hcs with e1 e2
  exact absurd e2 (by decide)
 refine ⟨⟨h.bc,Qah _ _ _ _ _ _ hb5,QcV ho hv5 _ _,fun p hp=>?_,fun e=>absurd (List.append_eq_nil_iff.1 e).2 hne⟩,hf5⟩
 rcases List.mem_append.1 hp with hp | hp
 ·exact (h.ok p hp).fr hf5 PCo.str
 ·exact (hq p hp).fr hf5 PCo.str
def Qde (B cb:Nat) (cs:List Ins) (w:World) (e:Ending) (w':World):Prop:=e=.returned (.tuple #[])∧CC w' B cb cs∧Fr (PCo B) w w'
theorem Tryz.infoIns:(Tryz.prog.info? 147).map (fun i=>(i.zero,i.size,i.bytes))=some (some (.agg #[.int .i64 0,.int .i64 0,.int .i64 0,.bool false,.slice none 0 0,.slice none 0 0,.int .i64 0]),7,88):=by kernel_rfl
theorem Qb2.slA {w:World} {i:Ins} {av bv:Value} (h:Qb2 w i av bv):(∃ a n c,av=.slice a n c)∧(∃ a n c,bv=.slice a n c):=by
 obtain ⟨a,c,h1⟩:=h.a.len
 obtain ⟨b,d,h2⟩:=h.b.len
 exact ⟨⟨a,_,c,h1⟩,⟨b,_,d,h2⟩⟩
theorem QoA {w:World} {qs:List IV} (h:∀ p∈qs,Qb2 w p.1 p.2.1 p.2.2):∀ u∈Qcq qs,u.oneCell'=true:=by
 intro u hu
 obtain ⟨p,hp,hu⟩:=List.mem_flatMap.1 hu
 obtain ⟨⟨a,n,c,h1⟩,⟨b,m,d,h2⟩⟩:=(h p hp).slA
 unfold Qgt at hu
 rw [h1,h2] at hu
 simp at hu
 rcases hu with rfl | rfl | rfl | rfl | rfl | rfl | rfl <;> rfl
theorem QnN (B cb g c:Nat) (cs:List Ins) (qs:List IV) (w:World) (h:CC w B cb cs) (hg:w.heap[g]?=some (.cells (Qcq qs).toArray 147)) (hok:∀ p∈qs,Qb2 w p.1 p.2.1 p.2.2) (hne:qs≠[]) (hlen:cs.length+qs.length≤1000000) :
 Calls Tryz.prog 231 #[.pointer (some ⟨cb,0,none⟩),.slice (some ⟨g,0,none⟩) qs.length c] w fun e w'=>e=.returned (.int .i64 (((cs.length+qs.length - 1:Nat)):Int))∧CC w' B cb (cs++qs.map Prod.fst)∧Fr (PCo B) w w':=by
 obtain ⟨cv,ps,rfl,hCI⟩:=h
 rw [List.length_map] at hlen ⊢
 have HCI:=Qaa hCI
 have c0:w.cell? ⟨cb,0,none⟩=some cv:=Qab hCI.blk 0
 obtain ⟨ka,kc,hkk⟩:=QaN hCI.row
 subst hkk
 have hcl:=QaM hCI.blk
 have hgl:=QaM hg
 obtain ⟨i0,hi,hz0,hz1,hz2⟩:=info_parts Tryz.infoIns
 have hpos:=List.length_pos_iff.2 hne
 have hrow:(Value.slice ka ps.length kc).ownBlock≠some cb:=fun e=>by
  obtain ⟨_,cs,hcs⟩:=QbG hCI.row cb _ e hCI.blk
  injection hcs with e1 e2
  exact absurd e2 (by decide)
 have HROW:=Qaa hrow
 have HC:Hid (∀ j u,(Qcq qs)[j]?=some u→w.cell? ((⟨g,0,none⟩:Addr).add j)=some u):=fun j u hj=>by
  rw [QcM,Qab hg,List.getElem?_toArray];exact hj
 have HONE:=Qaa (QoA hok)
 have HOK:=Qaa hok
 obtain ⟨n,hn⟩:∃ n,qs.length=n+1:=⟨qs.length - 1,by omega⟩
 have HIL:=Qaa (QfU qs)
 rw [hn] at HIL hlen ⊢
 have HN:=Qaa hn
 clear hCI hrow hg hok hn hpos
 go_enter Tryz.func231,Tryz.ntmps231
 go_wp2_with (first | (at_builtin;refine wpList_append_own _ rfl _ _ 101 rfl B 147 i0 _ 7 88 Tryz.underlying101 hi hz0 hz1 hz2 rfl (by decide) _ _ _ rfl HCI.out.row ⟨g,0,none⟩ (n+1) c (Qcq qs) rfl HIL.out HC.out HONE.out (by unfold maxLen;omega) (by omega) (by have:=HCI.out.bc;omega) ?_;intro v5 w5 ho5 hg5 _;obtain ⟨a5,k5,hv5⟩:=QaN ho5;subst hv5;have HO5:=Qaa ho5;have HG5:=Qaa hg5;have d1:w5.cell? ⟨cb,0,none⟩=some (.slice ka ps.length kc):=hg5.cell (a:=⟨cb,0,none⟩) c0 (fun e=>HROW.out e.symm);have hft:∀ j,w5.frozen? ⟨cb,j,none⟩=false:=fun j=>(World.frozen?_of_block (a:=⟨cb,j,none⟩) (w:=w) (hg5.block cb hcl (fun e=>HROW.out e.symm))).trans (Qam HCI.out.blk j);clear ho5 hg5))
 go_ret
 have hf5:Fr (fun k _=>(Value.slice ka ps.length kc).ownBlock=some k) w w5:=(Fr.refl _ w).grown HG5.out (fun k o e ho=>e)
 have:=HCI.out.regrow (qs:=qs) hf5 (.slice a5 (ps.length+(n+1)) k5) (by rw [List.length_append,HN.out,Qkr];exact HO5.out) HOK.out hne
 exact ⟨Qcb (by omega),⟨_,ps++qs,by rw [List.map_append],this.1⟩,this.2⟩
end
section
open Go.RowKit
attribute [local go_sem ↓] Go.wp_at_zero Go.wp_at_succ
theorem QoS (ps:List IV) (j:Nat) (n:Int):(ps.modify j fun p=>(QeF n p.1,p.2)).map Prod.fst=(ps.map Prod.fst).modify j (QeF n):=by
 induction ps generalizing j with
 | nil=>cases j <;> rfl
 | cons p r ih=>
  cases j with
  | zero=>rfl
  | succ j=>show p.1 :: (r.modify j _).map Prod.fst=p.1 :: (r.map Prod.fst).modify j (QeF n);rw [ih]
theorem mem_modify_iv {ps:List IV} {j:Nat} {n:Int} {q:IV} (h:q∈ps.modify j fun p=>(QeF n p.1,p.2)):q∈ps∨∃ p∈ps,q=(QeF n p.1,p.2):=by
 induction ps generalizing j with
 | nil=>cases j <;> cases h
 | cons p r ih=>
  cases j with
  | zero=>
   rcases List.mem_cons.1 h with h | h
   ·exact Or.inr ⟨p,by simp,h⟩
   ·exact Or.inl (by simp [h])
  | succ j=>
   rcases List.mem_cons.1 h with h | h
   ·exact Or.inl (by simp [h])
   ·rcases ih h with h | ⟨p',hp,h⟩
    ·exact Or.inl (by simp [h])
    ·exact Or.inr ⟨p',by simp [hp],h⟩
theorem CI.land {w:World} {B cb g c:Nat} {ps:List IV} (h:CI w B cb (.slice (some ⟨g,0,none⟩) ps.length c) ps) (j:Nat) (hj:j < ps.length) (n:Int) (h1:-9223372036854775808≤n) (h2:n≤9223372036854775807) :
 CI (w.setCell ⟨g,j*7+1,none⟩ (.int .i64 n)) B cb (.slice (some ⟨g,0,none⟩) ps.length c) (ps.modify j fun p=>(QeF n p.1,p.2))∧Fr (PCo B) w (w.setCell ⟨g,j*7+1,none⟩ (.int .i64 n)):=by
 obtain ⟨hs1,hs2⟩:=h.row.stored (j*7+1) (.int .i64 n)
 have hf:Fr (PCo B) w (w.setCell ⟨g,j*7+1,none⟩ (.int .i64 n)):=(Fr.refl _ w).grown hs2 (fun k o e ho=>by
  injection e with e
  subst e
  obtain ⟨hb,cs,hcs⟩:=QbG h.row g o rfl ho
  subst hcs
  exact ⟨hb,rfl⟩)
 have hne:cb≠g:=fun e=>by
  subst e
  obtain ⟨_,cs,hcs⟩:=QbG h.row cb _ rfl h.blk
  injection hcs with e1 e2
  exact absurd e2 (by decide)
 refine ⟨⟨h.bc,by rw [Below.heap_setCell _ _ _ _ hne];exact h.blk,?_,fun q hq=>?_,fun e=>?_⟩,hf⟩
 ·rw [Qja] at hs1
  rw [List.length_modify]
  exact hs1
 ·rcases mem_modify_iv hq with hq | ⟨p,hp,rfl⟩
  ·exact (h.ok q hq).fr hf PCo.str
  ·have:=(h.ok p hp).fr hf PCo.str
   exact ⟨this.a,this.b,this.al,this.bl,this.an,this.bn,h1,h2⟩
 ·have:=congrArg List.length e
  rw [List.length_modify] at this
  simp at this
  subst this
  exact absurd hj (Nat.not_lt_zero _)
theorem Qpw (js:List Nat) (j:Nat) (cs:List Ins):landL (js++[j]) cs=(landL js cs).modify j (QeF ((cs.length:Int) - ((j:Int)+1))):=by
 unfold landL
 rw [List.foldl_append]
 show (List.foldl _ cs js).modify j (QeF (((List.foldl _ cs js).length:Int) - _))=_
 have:=Qbh js cs
 unfold landL at this
 rw [this]
theorem Qii (B cb gj c:Nat) (js:List Nat) (kcs:Array Value) (cs:List Ins) (w:World) (h:CC w B cb cs) (hj:∀ j∈js,j < cs.length) (hc:w.heap[gj]?=some (.cells kcs 3)) (hk:∀ k,k < js.length→kcs[k]?=some (.int .i64 ((js.getD k 0:Nat):Int))) (hlen:cs.length≤1000000) (hjl:js.length≤1000000) :
 Calls Tryz.prog 253 #[.pointer (some ⟨cb,0,none⟩),.slice (some ⟨gj,0,none⟩) js.length c] w (Qde B cb (landL js cs) w):=by
 have H:=Qaa h
 have HJ:=Qaa hj
 have HC:=Qaa hc
 have HK:=Qaa hk
 have hgl:=QaM hc
 clear h hj hc hk
 go_enter Tryz.func253,Tryz.ntmps253
 go_wp2_with fail
 go_loopw [5,8] (fun _ i wr=>∃ (k:Nat),k≤js.length∧i=.int .i64 (k:Int)∧CC wr B cb (landL (js.take k) cs)∧Fr (PCo B) w wr) (fun _ i _=>js.length - (intOf i).toNat)
 case atStart=>exact ⟨0,Nat.zero_le _,by go_num,H.out,Fr.refl _ _⟩
 case round=>
  obtain ⟨k,hk,rfl,hCC,hF⟩:=hrel
  by_cases hlt:k < js.length
  ·have hkc:wr.cell? ⟨gj,k,none⟩=some (.int .i64 ((js.getD k 0:Nat):Int)):=by
    rw [Qab (hF.block _ _ HC.out (PCo.not (by decide) (by decide)))]
    exact HK.out k hlt
   have hjk:js.getD k 0 < cs.length:=HJ.out _ (by rw [List.getD_eq_getElem?_getD,List.getElem?_eq_getElem hlt];exact List.getElem_mem hlt)
   have HS:Hid (landL (js.take (k+1)) cs=(landL (js.take k) cs).modify (js.getD k 0) (QeF ((cs.length:Int) - ((js.getD k 0:Nat)+1:Int)))):=by
    show landL (js.take (k+1)) cs=_
    rw [List.take_add_one,List.getElem?_eq_getElem hlt]
    show landL (js.take k++[js[k]]) cs=_
    rw [Qpw,List.getD_eq_getElem?_getD,List.getElem?_eq_getElem hlt]
    rfl
   generalize js.getD k 0=j at *
   obtain ⟨cv,ps,hps,hCI⟩:=hCC
   have hpl:ps.length=cs.length:=by
    have:=congrArg List.length hps
    rw [List.length_map,Qbh] at this
    exact this
   have hrow:=hCI.row
   rw [hpl] at hrow
   obtain ⟨g,kc,hkk,hbg,hgl',hcells⟩:=Qdn hrow (by omega)
   subst hkk
   have c0:wr.cell? ⟨cb,0,none⟩=some (.slice (some ⟨g,0,none⟩) cs.length kc):=Qab hCI.blk 0
   obtain ⟨u1,hu1⟩:∃ u,wr.cell? ⟨g,j*7+1,none⟩=some u:=by
    refine ⟨_,hcells (j*7+1) _ (by rw [Qia ps j (by omega) 1 (by omega)];rfl)⟩
   have hfz:wr.frozen? ⟨g,j*7+1,none⟩=false:=hrow.frozenAt _
   have hL:=hCI
   rw [← hpl] at hL
   have HL:=Qaa (hL.land j (by omega) ((cs.length:Int) - ((j:Int)+1)) (by omega) (by omega))
   have HPS:=Qaa hps
   have HF:=Qaa hF
   have hj0:(0:Int)≤(j:Int):=by omega
   have hj1:(j:Int) < (cs.length:Int):=by omega
   clear hCI hL hrow hcells hps hF
   go_wp2_with fail
   go_region
   go_wp2
   go_roundw
   case rel=>
    refine ⟨k+1,by omega,by go_num,⟨_,_,?_,HL.out.1.drew⟩,(HF.out.trans HL.out.2).drew⟩
    rw [QoS,HPS.out,HS.out]
   case measure=>simp [intOf];omega
  ·have hk':k=js.length:=by omega
   subst hk'
   rw [List.take_length] at hCC
   have HCC:=Qaa hCC
   have HF:=Qaa hF
   clear hCC hF
   go_wp2
   go_end0
   exact ⟨rfl,HCC.out,HF.out⟩
end
section
open Go.RowKit
attribute [local go_sem ↓] Go.wp_at_zero Go.wp_at_succ
theorem Qjy (h:Bool) (w:World):Calls Tryz.prog 274 #[.bool h] w fun e w'=>e=.returned (Qdk (QcQ h) (.slice none 0 0) (.slice none 0 0))∧Below w.heap.size w w':=by
 have hB0:∀ o,Below w.heap.size w (w.alloc o):=fun o=>(Below.refl _ _).alloc (Nat.le_refl _) o
 have HB0:=Qaa hB0
 clear hB0
 cases h
 ·go_enter Tryz.func274,Tryz.ntmps274
  go_wp2
  refine bodyPost_ret (v:=Qdk (QcQ false) (.slice none 0 0) (.slice none 0 0)) (by simp [results,Tryz.results274,go_sem,Qdk,QcQ]) rfl ?_
  exact ⟨rfl,HB0.out _⟩
 ·go_enter Tryz.func274,Tryz.ntmps274
  go_wp2
  refine bodyPost_ret (v:=Qdk (QcQ true) (.slice none 0 0) (.slice none 0 0)) (by simp [results,Tryz.results274,go_sem,Qdk,QcQ]) rfl ?_
  exact ⟨rfl,HB0.out _⟩
theorem Qcd (B cb:Nat) (cs:List Ins) (i:Ins) (av bv:Value) (W:World) (h:CC W B cb cs) (hok:Qb2 W i av bv) (hlen:cs.length+1≤1000000) :
 Calls Tryz.prog 231 #[.pointer (some ⟨cb,0,none⟩),.slice (some ⟨W.heap.size,0,none⟩) 1 1] (W.alloc (.cells #[.int .i64 i.op,.int .i64 i.n,.int .i64 i.tag,.bool i.oct,av,bv,.int .i64 i.at_] 147)) fun e w'=>e=.returned (.int .i64 (cs.length:Int))∧CC w' B cb (cs++[i])∧Fr (PCo B) W w':=by
 have hB:∀ o,Below W.heap.size W (W.alloc o):=fun o=>(Below.refl _ _).alloc (Nat.le_refl _) o
 refine (QnN B cb W.heap.size 1 cs [(i,av,bv)] _ (h.alloc _) (QaB _ _) (fun p hp=>?_) (by simp) hlen).mono ?_
 ·rw [List.mem_singleton.1 hp]
  exact hok.below (hB _)
 ·rintro e w' ⟨rfl,h1,h2⟩
  refine ⟨?_,h1,((Fr.refl _ W).alloc _).trans h2⟩
  show Ending.returned (.int .i64 ((cs.length+1 - 1:Nat):Int))=_
  rw [Nat.add_sub_cancel]
theorem QsI (B cb:Nat) (cs:List Ins) (i j:Ins) (av bv au bu:Value) (W:World) (h:CC W B cb cs) (hok:Qb2 W i av bv) (hok':Qb2 W j au bu) (hlen:cs.length+2≤1000000) :
 Calls Tryz.prog 231 #[.pointer (some ⟨cb,0,none⟩),.slice (some ⟨W.heap.size,0,none⟩) 2 2] (W.alloc (.cells #[.int .i64 i.op,.int .i64 i.n,.int .i64 i.tag,.bool i.oct,av,bv,.int .i64 i.at_,.int .i64 j.op,.int .i64 j.n,.int .i64 j.tag,.bool j.oct,au,bu,.int .i64 j.at_] 147)) fun e w'=>e=.returned (.int .i64 ((cs.length+1:Nat):Int))∧CC w' B cb (cs++[i,j])∧Fr (PCo B) W w':=by
 have hB:∀ o,Below W.heap.size W (W.alloc o):=fun o=>(Below.refl _ _).alloc (Nat.le_refl _) o
 refine (QnN B cb W.heap.size 2 cs [(i,av,bv),(j,au,bu)] _ (h.alloc _) (QaB _ _) (fun p hp=>?_) (by simp) hlen).mono ?_
 ·simp at hp
  rcases hp with rfl | rfl
  ·exact hok.below (hB _)
  ·exact hok'.below (hB _)
 ·rintro e w' ⟨rfl,h1,h2⟩
  exact ⟨rfl,h1,((Fr.refl _ W).alloc _).trans h2⟩
theorem Qc8 (W:World) (i:Ins) (ha:i.a=[]) (hb:i.b=[]) (h1:-9223372036854775808≤i.n) (h2:i.n≤9223372036854775807):Qb2 W i (.slice none 0 0) (.slice none 0 0):=
 ⟨Or.inl ⟨rfl,ha⟩,Or.inl ⟨rfl,hb⟩,by rw [ha];simp,by rw [hb];simp,by rw [ha];simp,by rw [hb];simp,h1,h2⟩
theorem QlY (B cb:Nat) (j:Nat) (cs:List Ins) (W:World) (h:CC W B cb cs) (hj:j < cs.length) (hlen:cs.length≤1000000) :
 Calls Tryz.prog 253 #[.pointer (some ⟨cb,0,none⟩),.slice (some ⟨W.heap.size,0,none⟩) 1 1] (W.alloc (.cells #[.int .i64 (j:Int)] 3)) fun e w'=>e=.returned (.tuple #[])∧CC w' B cb (landL [j] cs)∧Fr (PCo B) W w':=by
 refine (Qii B cb W.heap.size 1 [j] #[.int .i64 (j:Int)] cs _ (h.alloc _) (fun k hk=>by rw [List.mem_singleton.1 hk];exact hj) (QaB _ _) (fun k hk=>?_) hlen (by simp)).mono ?_
 ·have:k=0:=by simp at hk;exact hk
  subst this;rfl
 ·rintro e w' ⟨rfl,h1,h2⟩
  exact ⟨rfl,h1,((Fr.refl _ W).alloc _).trans h2⟩
end
end Go.Proofs.YtbiclelojbfnbabGreatDoor
