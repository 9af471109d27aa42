import Derived.MapKept
import Derived.Maps.RangeWalk
import Derived.Maps.Ext
import Derived.Sort.KeysCollected
import Derived.Deep.DrawnRows
import Derived.Test.YtenahlandohgaaaGreatDoorZAIsBox
import Derived.Test.YtenahlandohgaaaGreatDoorZPlainStore
namespace Go.Proofs.YtenahlandohgaaaGreatDoor
set_option linter.unusedVariables false
set_option linter.unusedSimpArgs false
set_option maxRecDepth 100000
set_option maxHeartbeats 4000000
section
open Go.RowKit
structure Fr (P:Nat→Obj→Prop) (w w':World):Prop where
 os:w'.os=w.os
 tape:w'.tape=w.tape
 output:w'.output=w.output
 size:w.heap.size≤w'.heap.size
 block:∀ k o,w.heap[k]?=some o→¬ P k o→w'.heap[k]?=some o
theorem Fr.refl (P:Nat→Obj→Prop) (w:World):Fr P w w:=⟨rfl,rfl,rfl,Nat.le_refl _,fun _ _ h _=>h⟩
theorem Fr.trans {P:Nat→Obj→Prop} {u v w:World} (h:Fr P u v) (k:Fr P v w):Fr P u w:=
 ⟨k.os.trans h.os,k.tape.trans h.tape,k.output.trans h.output,Nat.le_trans h.size k.size,fun i o hi hn=>k.block i o (h.block i o hi hn) hn⟩
theorem Fr.mono {P Q:Nat→Obj→Prop} {u v:World} (h:Fr P u v) (hq:∀ k o,P k o→Q k o):Fr Q u v:=
 ⟨h.os,h.tape,h.output,h.size,fun i o hi hn=>h.block i o hi (fun hp=>hn (hq _ _ hp))⟩
theorem Fr.of_below {P:Nat→Obj→Prop} {w w':World} (h:Below w.heap.size w w'):Fr P w w':=
 ⟨h.os,h.tape,h.output,h.size,fun k o hk _=>blk_below hk h⟩
theorem Fr.below {P:Nat→Obj→Prop} {w w':World} {B:Nat} (h:Fr P w w') (hB:∀ k o,P k o→B≤k) (hz:B≤w.heap.size):Below B w w':=
 ⟨h.os,h.tape,h.output,h.size,fun k hk=>by
  have hl:k < w.heap.size:=by omega
  rw [Array.getElem?_eq_getElem hl]
  exact h.block k _ (Array.getElem?_eq_getElem hl) (fun hp=>by have:=hB _ _ hp;omega)⟩
theorem Fr.set {P:Nat→Obj→Prop} {u w:World} {b:Nat} {o:Obj} (h:Fr P u w) (hb:w.heap[b]?=some o) (hp:P b o) (j:Nat) (v:Value):Fr P u (w.setCell ⟨b,j,none⟩ v):=
 h.trans ⟨rfl,rfl,rfl,by simp [World.setCell],fun k o' hk hn=>by
  by_cases e:k=b
  ·subst e;rw [hb] at hk;cases hk;exact absurd hp hn
  ·rw [Below.heap_setCell _ _ _ _ e];exact hk⟩
theorem Fr.alloc {P:Nat→Obj→Prop} {u w:World} (h:Fr P u w) (o:Obj):Fr P u (w.alloc o):=
 h.trans ⟨rfl,rfl,rfl,by simp,fun k o' hk _=>blk_alloc hk⟩
theorem Fr.drew {P:Nat→Obj→Prop} {u w:World} (h:Fr P u w):Fr P u w.drew:=⟨h.os,h.tape,h.output,h.size,h.block⟩
theorem Fr.grown {P:Nat→Obj→Prop} {u w w':World} {row:Option Nat} (h:Fr P u w) (hg:w.grownBy w' row) (hp:∀ k o,row=some k→w.heap[k]?=some o→P k o):Fr P u w':=
 h.trans ⟨hg.os,hg.tape,hg.output,hg.size,fun k o hk hn=>by
  rw [hg.block k (blk_lt hk) (fun e=>hn (hp k o e.symm hk))];exact hk⟩
def TxtB (w:World) (g:Nat) (zs:List (List UInt8)):Prop:=
 ∃ cs,w.heap[g]?=some (.cells cs 9)∧∀ j,j < zs.length→cs[j]?=some (.string (strA (zs.getD j [])))
theorem TxtB.at {w:World} {g:Nat} {zs:List (List UInt8)} (h:TxtB w g zs):TxtAt w g zs:=by
 obtain ⟨cs,hb,hc⟩:=h
 intro j hj
 rw [blk_cell hb]
 exact hc j hj
def SlT (w:World) (v:Value) (zs:List (List UInt8)):Prop:=
 (v=.slice none 0 0∧zs=[])∨∃ g c,v=.slice (some ⟨g,0,none⟩) zs.length c∧TxtB w g zs
theorem SlT.len {w:World} {v:Value} {zs:List (List UInt8)} (h:SlT w v zs):∃ a c,v=.slice a zs.length c:=by
 rcases h with ⟨h,rfl⟩ | ⟨g,c,h,_⟩
 ·exact ⟨none,0,h⟩
 ·exact ⟨_,_,h⟩
theorem tcells_at (zs:List (List UInt8)) (j:Nat) (hj:j < zs.length):(tcells zs)[j]?=some (.string (strA (zs.getD j []))):=by
 simp [tcells,List.getElem?_eq_getElem hj,List.getD_eq_getElem?_getD]
theorem SlT.of_owns {w:World} {base n:Nat} {v:Value} {xs:List (List UInt8)} (h:w.ownsRow base 9 1 v n (tcells xs)) (hn:n=xs.length):SlT w v xs:=by
 subst hn
 obtain ⟨h1,h2⟩:=h
 rcases h2 with ⟨h2,h3⟩ | ⟨g,cap,cur,hv,hg,hb,hc,_,hs,ht⟩
 ·exact Or.inl ⟨h2,List.eq_nil_of_length_eq_zero h3⟩
 ·refine Or.inr ⟨g,cap,hv,cur,hb,fun j hj=>?_⟩
  have h4:=tcells_at xs j hj
  rw [← ht] at h4
  rw [List.getElem?_take_of_lt (by omega)] at h4
  rw [← h4];simp
theorem SlT.new (w:World) (zs:List (List UInt8)):SlT (w.alloc (.cells (tcells zs).toArray 9)) (.slice (some ⟨w.heap.size,0,none⟩) zs.length zs.length) zs:=
 Or.inr ⟨w.heap.size,zs.length,rfl,_,blk_new _ _,fun j hj=>by rw [List.getElem?_toArray];exact tcells_at zs j hj⟩
def acells (l:List (Int×List UInt8)):List Value:=l.flatMap fun a=>[.int .i64 a.1,.string (strA a.2)]
theorem acells_snoc (l:List (Int×List UInt8)) (a:Int×List UInt8):acells l++[.int .i64 a.1,.string (strA a.2)]=acells (l++[a]):=by simp [acells]
theorem acells_length (l:List (Int×List UInt8)):(acells l).length=l.length*2:=by
 induction l with
 | nil=>rfl
 | cons p r ih=>simp only [acells,List.flatMap_cons,List.length_append,List.length_cons,List.length_nil] at ih ⊢;omega
theorem acells_at (l:List (Int×List UInt8)) (j:Nat) (hj:j < l.length):(acells l)[j*2]?=some (.int .i64 l[j].1)∧(acells l)[j*2+1]?=some (.string (strA l[j].2)):=by
 induction l generalizing j with
 | nil=>exact absurd hj (Nat.not_lt_zero _)
 | cons p r ih=>
  cases j with
  | zero=>exact ⟨rfl,rfl⟩
  | succ j=>
   have:=ih j (by simpa using hj)
   have e:acells (p :: r)=.int .i64 p.1 :: .string (strA p.2) :: acells r:=rfl
   have e1:(j+1)*2=j*2+1+1:=by omega
   have e2:(j+1)*2+1=(j*2+1)+1+1:=by omega
   rw [e,e1,List.getElem?_cons_succ,List.getElem?_cons_succ,List.getElem?_cons_succ,List.getElem?_cons_succ]
   exact this
theorem owns_len {w:World} {base:Nat} {e:TypeId} {size:Nat} {v:Value} {n:Nat} {xs:List Value} (h:w.ownsRow base e size v n xs):∃ a c,v=.slice a n c:=by
 rcases h.2 with ⟨h,h2⟩ | ⟨g,cap,cur,h,_⟩
 ·exact ⟨none,0,by rw [h,h2]⟩
 ·exact ⟨_,_,h⟩
theorem owns_fr {P:Nat→Obj→Prop} {w w':World} {base:Nat} {e:TypeId} {size:Nat} {v:Value} {n:Nat} {xs:List Value} (h:w.ownsRow base e size v n xs) (hf:Fr P w w') (hp:∀ k cs,¬ P k (.cells cs e)):w'.ownsRow base e size v n xs:=by
 obtain ⟨h1,h2⟩:=h
 refine ⟨h1,?_⟩
 rcases h2 with h2 | ⟨g,cap,cur,hv,hg,hh,r⟩
 ·exact Or.inl h2
 ·exact Or.inr ⟨g,cap,cur,hv,hg,hf.block g _ hh (hp _ _),r⟩
theorem owns_blk {w:World} {base:Nat} {e:TypeId} {size:Nat} {v:Value} {n:Nat} {xs:List Value} (h:w.ownsRow base e size v n xs) (k:Nat) (o:Obj) (hk:v.ownBlock=some k) (ho:w.heap[k]?=some o):base≤k∧∃ cs,o=.cells cs e:=by
 rcases h.2 with ⟨rfl,_⟩ | ⟨g,cap,cur,rfl,hg,hh,_⟩
 ·cases hk
 ·obtain rfl:g=k:=by simpa [Value.ownBlock] using hk
  rw [hh] at ho
  cases ho
  exact ⟨hg,_,rfl⟩
theorem owns_get {w:World} {base:Nat} {e:TypeId} {size:Nat} {v:Value} {n:Nat} {xs:List Value} (h:w.ownsRow base e size v n xs) (hn:0 < n):∃ g c,v=.slice (some ⟨g,0,none⟩) n c∧base≤g∧g < w.heap.size∧∀ j u,xs[j]?=some u→w.cell? ⟨g,j,none⟩=some u:=by
 rcases h.2 with ⟨_,h2⟩ | ⟨g,cap,cur,hv,hg,hh,_⟩
 ·omega
 ·refine ⟨g,cap,hv,hg,blk_lt hh,fun j u hj=>?_⟩
  have:=h.cells (g:=g) (by rw [hv];rfl) j u hj
  rwa [addr_add0] at this
end
section
open Go.RowKit
open Go.ChangeMaps (setBlock heap_setBlock_other)
theorem strT:Tryz.prog.underlying 9=some .string:=by kernel_rfl
theorem mapT:Tryz.prog.underlying 81=some (.map 9 87):=by kernel_rfl
theorem strK:Maps.Keyed Tryz.prog 9:=Maps.string_keyed strT
theorem keyS {x:List UInt8} (h:x.length≤1000000):keyOf Tryz.prog 9 (.string (strA x))=some (.string x):=WideMaps.keyOf_string_mk strT (by rw [strA_size];unfold maxLen;omega)
def ptrR (v:Value):Option (DataW Unit×List MemPlace):=
 match v with
 | .pointer (some a)=>if a=⟨a.block,0,none⟩ then some (.lit (.int .i64 a.block),[]) else none
 | _=>none
theorem ptrR_mk (k:Nat):ptrR (.pointer (some ⟨k,0,none⟩))=some (.lit (.int .i64 k),[]):=by
 unfold ptrR
 simp
theorem ptrR_inv {v:Value} {y:DataW Unit×List MemPlace} (h:ptrR v=some y):∃ k:Nat,v=.pointer (some ⟨k,0,none⟩)∧y=(.lit (.int .i64 k),[]):=by
 unfold ptrR at h
 split at h
 ·rename_i a
  split at h
  ·rename_i ha
   cases h
   exact ⟨a.block,by rw [← ha],rfl⟩
  ·cases h
 ·cases h
abbrev Fs:=List UInt8→Option (List UInt8)
def putF (F:Fs) (x s:List UInt8):Fs:=fun z=>if z=x then some s else F z
def delF (F:Fs) (x:List UInt8):Fs:=fun z=>if z=x then none else F z
def FsAt (w:World) (D:DataW Unit) (F:Fs):Prop:=
 (∀ x,F x=none→Maps.has D (.string x)=false)∧∀ x s,F x=some s→∃ k:Nat,(∀ z,D.atKey (.string x) z=.lit (.int .i64 k))∧w.heap[k]?=some (.cells #[.string (strA s)] 9)
def MapF (w:World) (b n:Nat) (F:Fs):Prop:=∃ D:DataW Unit,w.ownsMap Tryz.prog 9 ptrR b n D∧FsAt w D F
theorem FsAt.fr {P:Nat→Obj→Prop} {w w':World} {D:DataW Unit} {F:Fs} (h:FsAt w D F) (hf:Fr P w w') (h2:∀ k cs,¬ P k (.cells cs 9)):FsAt w' D F:=
 ⟨h.1,fun x s hx=>by obtain ⟨k,h3,h4⟩:=h.2 x s hx;exact ⟨k,h3,hf.block k _ h4 (h2 _ _)⟩⟩
theorem ownsMap_fr {P:Nat→Obj→Prop} {w w':World} {b n:Nat} {D:DataW Unit} (h:w.ownsMap Tryz.prog 9 ptrR b n D) (hf:Fr P w w') (h1:∀ es c,¬ P b (.map es c)):w'.ownsMap Tryz.prog 9 ptrR b n D:=by
 obtain ⟨es,c,hb,r⟩:=h
 exact ⟨es,c,hf.block b _ hb (h1 _ _),r⟩
theorem MapF.fr {P:Nat→Obj→Prop} {w w':World} {b n:Nat} {F:Fs} (h:MapF w b n F) (hf:Fr P w w') (h1:∀ es c,¬ P b (.map es c)) (h2:∀ k cs,¬ P k (.cells cs 9)):MapF w' b n F:=by
 obtain ⟨D,h3,h4⟩:=h
 exact ⟨D,ownsMap_fr h3 hf h1,h4.fr hf h2⟩
theorem MapF.below {w w':World} {b n:Nat} {F:Fs} (h:MapF w b n F) (hb:Below w.heap.size w w'):MapF w' b n F:=h.fr (P:=fun _ _=>False) (Fr.of_below hb) (fun _ _ h=>h) (fun _ _ h=>h)
theorem MapF.mono {w:World} {b n m:Nat} {F:Fs} (h:MapF w b n F) (hn:n≤m):MapF w b m F:=by obtain ⟨D,h3,h4⟩:=h;exact ⟨D,h3.mono hn,h4⟩
theorem turned_fr {w w':World} {b:Nat} (h:w.mapTurned w' b):Fr (fun k o=>k=b∧∃ es c,o=.map es c) w w':=by
 obtain ⟨es,c,es',c',hb,rfl⟩:=h
 refine ⟨rfl,rfl,rfl,by simp [setBlock],fun k o hk hn=>?_⟩
 by_cases e:k=b
 ·subst e
  rw [hb] at hk
  cases hk
  exact absurd ⟨rfl,_,_,rfl⟩ hn
 ·rw [heap_setBlock_other hb _ e];exact hk
theorem str_ne {x y:List UInt8} (h:¬ x=y):(Lit.string x)≠.string y:=fun e=>h (by injection e)
theorem mapF_put {w:World} {b n k:Nat} {F:Fs} {x s:List UInt8} (h:MapF w b n F) (hn:n≤1000000) (hx:x.length≤1000000) (hk:w.heap[k]?=some (.cells #[.string (strA s)] 9)) :
 ∃ w',(Instr.mapUpdate 81 (.map (some b)) (.string (strA x)) (.pointer (some ⟨k,0,none⟩))).run Tryz.prog w=.ok () w'∧MapF w' b (n+1) (putF F x s)∧w.mapTurned w' b:=by
 obtain ⟨D,h1,h2⟩:=h
 obtain ⟨w',hr,ho,ht⟩:=h1.store strK mapT (by unfold maxLen;omega) (keyS hx) (ptrR_mk k)
 have hF:=h2.fr (turned_fr ht) (fun k cs ⟨_,es,c,e⟩=>by cases e)
 have hk':=(turned_fr ht).block k _ hk (fun ⟨_,es,c,e⟩=>by cases e)
 refine ⟨w',hr,⟨_,ho,fun z hz=>?_,fun z u hz=>?_⟩,ht⟩
 ·unfold putF at hz
  split at hz
  ·cases hz
  ·rename_i hne
   rw [Maps.has_put_other (str_ne hne)]
   exact hF.1 z hz
 ·unfold putF at hz
  split at hz
  ·rename_i he
   subst he
   cases hz
   exact ⟨k,fun d=>Maps.atKey_put_same h1.isMap (k:=Lit.string z) trivial _ _,hk'⟩
  ·rename_i hne
   obtain ⟨j,h3,h4⟩:=hF.2 z u hz
   exact ⟨j,fun d=>by rw [Maps.atKey_put_other (str_ne hne)];exact h3 d,h4⟩
theorem mapF_del {w:World} {b n:Nat} {F:Fs} {x:List UInt8} {ty:TypeId} (h:MapF w b n F) (hx:x.length≤1000000) :
 ∃ w',(Builtin.delete_ #[81,9] ty #[.map (some b),.string (strA x)]).run Tryz.prog w=.ok (.tuple #[]) w'∧MapF w' b n (delF F x)∧w.mapTurned w' b:=by
 obtain ⟨D,h1,h2⟩:=h
 obtain ⟨w',hr,ho,ht⟩:=h1.drop strK mapT (keyS hx) ty
 have hF:=h2.fr (turned_fr ht) (fun k cs ⟨_,es,c,e⟩=>by cases e)
 refine ⟨w',hr,⟨_,ho,fun z hz=>?_,fun z u hz=>?_⟩,ht⟩
 ·by_cases he:z=x
  ·subst he;exact Maps.has_del_same
  ·unfold delF at hz
   rw [if_neg he] at hz
   rw [Maps.has_del_other (str_ne he)]
   exact hF.1 z hz
 ·unfold delF at hz
  split at hz
  ·cases hz
  ·rename_i hne
   obtain ⟨j,h3,h4⟩:=hF.2 z u hz
   exact ⟨j,fun d=>by rw [Maps.atKey_del_other (str_ne hne)];exact h3 d,h4⟩
theorem mapF_look {w:World} {b n:Nat} {F:Fs} {x:List UInt8} (h:MapF w b n F) (hx:x.length≤1000000) :
 ∃ v,(Instr.lookup 81 (.map (some b)) (.string (strA x)) true).run Tryz.prog w=.ok (.tuple #[v,.bool (F x).isSome]) w:=by
 obtain ⟨D,⟨es,c,hb,hF,hs,rfl⟩,h2⟩:=h
 have hz:(zeroValue 87).run Tryz.prog w=.ok (.pointer none) w:=by kernel_rfl
 rcases Maps.fit_look true strK mapT hz hb hF (keyS hx) with ⟨hrun,_,hat⟩ | ⟨e0,y,_,_,hrun,hRv,hat,_⟩
 ·have h0:=Maps.has_false_of_atKey hat
  cases hfx:F x with
  | none=>exact ⟨_,hrun⟩
  | some s=>
   obtain ⟨j,h3,_⟩:=h2.2 x s hfx
   rw [Maps.has_true_of_atKey h3] at h0
   cases h0
 ·have h0:=Maps.has_true_of_atKey hat
  cases hfx:F x with
  | none=>rw [h2.1 x hfx] at h0;cases h0
  | some s=>exact ⟨_,hrun⟩
end
section
open Go.RowKit
attribute [local go_sem ↓] Go.wp_at_zero Go.wp_at_succ
def PMap (b:Nat) (k:Nat) (o:Obj):Prop:=k=b∧∃ es c,o=.map es c
structure Dop where
 kind:Int
 name:List UInt8
 data:List UInt8
def doF (F:Fs) (o:Dop):Fs:=if o.kind=1 then putF F o.name o.data else delF F o.name
theorem do_put (b n:Nat) (F:Fs) (x s:List UInt8) (w:World) (h:MapF w b n F) (hn:n≤1000000) (hx:x.length≤1000000) :
 Calls Tryz.prog 52 #[.map (some b),.agg #[.int .i64 1,.string (strA x),.string ⟨#[]⟩,.string (strA s)]] w fun e w'=>e=.returned (.tuple #[])∧MapF w' b (n+1) (putF F x s)∧Fr (PMap b) w w':=by
 obtain ⟨V,hV⟩:∃ V,V=(w.alloc (.cells #[.int .i64 1,.string (strA x),.string ⟨#[]⟩,.string (strA s)] 116)).alloc (.cells #[.string (strA s)] 9):=⟨_,rfl⟩
 have hBV:Below w.heap.size w V:=by rw [hV];exact ((Below.refl _ _).alloc (Nat.le_refl _) _).alloc (by simp) _
 obtain ⟨w2,hr,h2,ht⟩:=mapF_put (k:=w.heap.size+1) (s:=s) (h.below hBV) hn hx (by rw [hV];exact blk_newAt (by simp))
 rw [hV] at hr
 have H2:=hide h2
 have HF:=hide ((Fr.of_below (P:=PMap b) hBV).trans (turned_fr ht))
 clear h h2 ht hBV hV
 go_enter Tryz.func52,Tryz.ntmps52
 go_wp2
 go_end0
 exact ⟨rfl,H2.out,HF.out⟩
theorem do_del (b n:Nat) (F:Fs) (x s:List UInt8) (w:World) (h:MapF w b n F) (hx:x.length≤1000000) :
 Calls Tryz.prog 52 #[.map (some b),.agg #[.int .i64 3,.string (strA x),.string ⟨#[]⟩,.string (strA s)]] w fun e w'=>e=.returned (.tuple #[])∧MapF w' b n (delF F x)∧Fr (PMap b) w w':=by
 obtain ⟨V,hV⟩:∃ V,V=w.alloc (.cells #[.int .i64 3,.string (strA x),.string ⟨#[]⟩,.string (strA s)] 116):=⟨_,rfl⟩
 have hBV:Below w.heap.size w V:=by rw [hV];exact (Below.refl _ _).alloc (Nat.le_refl _) _
 obtain ⟨w2,hr,h2,ht⟩:=mapF_del (ty:=0) (h.below hBV) hx
 rw [hV] at hr
 have H2:=hide h2
 have HF:=hide ((Fr.of_below (P:=PMap b) hBV).trans (turned_fr ht))
 clear h h2 ht hBV hV
 go_enter Tryz.func52,Tryz.ntmps52
 go_wp2
 go_end0
 exact ⟨rfl,H2.out,HF.out⟩
end
section
open Go.RowKit
attribute [local go_sem ↓] Go.wp_at_zero Go.wp_at_succ
def ocell (o:Dop):List Value:=[.int .i64 o.kind,.string (strA o.name),.string ⟨#[]⟩,.string (strA o.data)]
def ocells (l:List Dop):List Value:=l.flatMap ocell
theorem ocells_snoc (l:List Dop) (o:Dop):ocells l++ocell o=ocells (l++[o]):=by simp [ocells]
theorem Fr.undrew {P:Nat→Obj→Prop} {w w':World} (h:Fr P w.drew w'):Fr P w w':=⟨h.os,h.tape,h.output,h.size,h.block⟩
def PDk (B:Nat) (k:Nat) (o:Obj):Prop:=B≤k∧((∃ cs,o=.cells cs 84)∨(∃ es c,o=.map es c)∨(∃ cs,o=.cells cs 116))
def PDb (db:Nat) (k:Nat) (o:Obj):Prop:=k=db∧∃ cs,o=.cells cs 84
theorem PDb.toK {B db k:Nat} {o:Obj} (h:PDb db k o) (hb:B≤db):PDk B k o:=by
 obtain ⟨rfl,cs,rfl⟩:=h
 exact ⟨hb,Or.inl ⟨cs,rfl⟩⟩
theorem PMap.toK {B b k:Nat} {o:Obj} (h:PMap b k o) (hb:B≤b):PDk B k o:=by
 obtain ⟨rfl,es,c,rfl⟩:=h
 exact ⟨hb,Or.inr (Or.inl ⟨es,c,rfl⟩)⟩
structure DI (w:World) (B db bd bn n:Nat) (D N:Fs) (p:List Dop) (q:Int) (pv:Value):Prop where
 bb:B≤db∧B≤bd∧B≤bn
 ne:bd≠bn
 blk:w.heap[db]?=some (.cells #[.map (some bd),.map (some bn),pv,.int .i64 q,.int .i64 q,.bool false] 84)
 md:MapF w bd n D
 mn:MapF w bn n N
 row:w.ownsRow B 116 4 pv p.length (ocells p)
theorem DI.fr {P:Nat→Obj→Prop} {w w':World} {B db bd bn n:Nat} {D N:Fs} {p:List Dop} {q:Int} {pv:Value} (h:DI w B db bd bn n D N p q pv) (hf:Fr P w w') (h1:∀ k cs,¬ P k (.cells cs 84)) (h2:∀ k es c,¬ P k (.map es c)) (h3:∀ k cs,¬ P k (.cells cs 116)) (h4:∀ k cs,¬ P k (.cells cs 9)):DI w' B db bd bn n D N p q pv:=
 ⟨h.bb,h.ne,hf.block _ _ h.blk (h1 _ _),h.md.fr hf (h2 _) h4,h.mn.fr hf (h2 _) h4,owns_fr h.row hf h3⟩
theorem DI.below {w w':World} {B db bd bn n:Nat} {D N:Fs} {p:List Dop} {q:Int} {pv:Value} (h:DI w B db bd bn n D N p q pv) (hb:Below w.heap.size w w'):DI w' B db bd bn n D N p q pv:=
 h.fr (P:=fun _ _=>False) (Fr.of_below hb) (fun _ _ h=>h) (fun _ _ _ h=>h) (fun _ _ h=>h) (fun _ _ h=>h)
theorem Tryz.infoOp:(Tryz.prog.info? 116).map (fun i=>(i.zero,i.size,i.bytes))=some (some (.agg #[.int .i64 0,.string ⟨#[]⟩,.string ⟨#[]⟩,.string ⟨#[]⟩]),4,56):=by kernel_rfl
end
end Go.Proofs.YtenahlandohgaaaGreatDoor
