import Derived.Laws.AppendOwnNone
import Derived.Test.YtenahlandohgaaaGreatDoorDNew
import Derived.Test.YtenahlandohgaaaGreatDoorZPlainPut
namespace Go.Proofs.YtenahlandohgaaaGreatDoor
set_option linter.unusedVariables false
set_option linter.unusedSimpArgs false
set_option maxRecDepth 100000
set_option maxHeartbeats 4000000
section
open Go.RowKit Go.Maps
abbrev Fl:=List UInt8×List UInt8
def encF (f:Fl):List Value:=[.string (strA f.1),.string (strA f.2)]
def fcells (l:List Fl):List Value:=l.flatMap encF
theorem fcells_snoc (l:List Fl) (f:Fl):fcells l++encF f=fcells (l++[f]):=by simp [fcells]
theorem fcells_len (l:List Fl):(fcells l).length=l.length*2:=by
 induction l with
 | nil=>rfl
 | cons a r ih=>show (encF a++fcells r).length=_;rw [List.length_append,ih];simp [encF];omega
theorem fcells_at (l:List Fl) (j:Nat) (hj:j < l.length):(fcells l)[j*2]?=some (.string (strA l[j].1))∧(fcells l)[j*2+1]?=some (.string (strA l[j].2)):=by
 induction l generalizing j with
 | nil=>exact absurd hj (Nat.not_lt_zero _)
 | cons a r ih=>
  have e:fcells (a :: r)=.string (strA a.1) :: .string (strA a.2) :: fcells r:=rfl
  rw [e]
  cases j with
  | zero=>exact ⟨rfl,rfl⟩
  | succ j=>
   have h:=ih j (by simpa using hj)
   have e1:(j+1)*2=j*2+2:=by omega
   rw [e1]
   exact h
def FilB (w:World) (v:Value) (l:List Fl):Prop:=
 ∃ g c cs,v=.slice (some ⟨g,0,none⟩) l.length c∧w.heap[g]?=some (.cells cs 86)∧∀ j (hj:j < l.length),w.cell? ⟨g,j*2,none⟩=some (.string (strA l[j].1))∧w.cell? ⟨g,j*2+1,none⟩=some (.string (strA l[j].2))
def FilN (w:World) (v:Value) (l:List Fl):Prop:=(l=[]∧v=.slice none 0 0)∨FilB w v l
theorem Tryz.infoFile:(Tryz.prog.info? 86).map (fun i=>(i.zero,i.size,i.bytes))=some (some (.agg #[.string ⟨#[]⟩,.string ⟨#[]⟩]),2,32):=by kernel_rfl
theorem two_fl (w:World) (f:Fl) (t:TypeId):∀ j u,(encF f)[j]?=some u→(w.alloc (.cells #[.string (strA f.1),.string (strA f.2)] t)).cell? ((⟨w.heap.size,0,none⟩:Addr).add j)=some u:=by
 intro j u h
 rw [addr_add0,blk_cell (blk_new w _),← h]
 simp [encF]
theorem one_fl (f:Fl):∀ u∈encF f,u.oneCell'=true:=by
 intro u hu
 unfold encF at hu
 simp at hu
 rcases hu with rfl | rfl <;> rfl
def ActG (w:World) (v:Value) (l:List (Int×List UInt8)):Prop:=
 ∃ a c,v=.slice a l.length c∧(l≠[]→∃ b off,a=some ⟨b,off,none⟩∧∀ j (hj:j < l.length),w.cell? ⟨b,off+j*2,none⟩=some (.int .i64 l[j].1)∧w.cell? ⟨b,off+j*2+1,none⟩=some (.string (strA l[j].2)))
theorem ActG.below {w w':World} {v:Value} {l:List (Int×List UInt8)} (h:ActG w v l) (hb:Below w.heap.size w w'):ActG w' v l:=by
 obtain ⟨a,c,h,hc⟩:=h
 refine ⟨a,c,h,fun hne=>?_⟩
 obtain ⟨b,off,rfl,hcc⟩:=hc hne
 refine ⟨b,off,rfl,fun j hj=>?_⟩
 obtain ⟨h1,h2⟩:=hcc j hj
 have hl:=cell_lt h1
 exact ⟨(hb.cell (p:=⟨b,off+j*2,none⟩) hl).trans h1,(hb.cell (p:=⟨b,off+j*2+1,none⟩) hl).trans h2⟩
end
section
open Go.RowKit Go.Maps
attribute [local go_sem ↓] Go.wp_at_zero Go.wp_at_succ
def FilS (w:World) (v:Value) (l:List Fl):Prop:=
 (v=.slice none 0 0∧l=[])∨∃ b off c cs,v=.slice (some ⟨b,off,none⟩) l.length c∧w.heap[b]?=some (.cells cs 86)∧∀ j (hj:j < l.length),w.cell? ⟨b,off+j*2,none⟩=some (.string (strA l[j].1))∧w.cell? ⟨b,off+j*2+1,none⟩=some (.string (strA l[j].2))
theorem FilS.fr {P:Nat→Obj→Prop} {w w':World} {v:Value} {l:List Fl} (h:FilS w v l) (hf:Fr P w w') (hp:∀ k cs,¬ P k (.cells cs 86)):FilS w' v l:=by
 rcases h with h | ⟨b,off,c,cs,hv,hb,hc⟩
 ·exact Or.inl h
 ·have hb':=hf.block _ _ hb (hp _ _)
  refine Or.inr ⟨b,off,c,cs,hv,hb',fun j hj=>?_⟩
  rw [World.cell?_of_block (a:=⟨b,off+j*2,none⟩) (hb'.trans hb.symm),World.cell?_of_block (a:=⟨b,off+j*2+1,none⟩) (hb'.trans hb.symm)]
  exact hc j hj
theorem FilS.below {w w':World} {v:Value} {l:List Fl} (h:FilS w v l) (hb:Below w.heap.size w w'):FilS w' v l:=h.fr (P:=fun _ _=>False) (Fr.of_below hb) (fun _ _ h=>h)
theorem FilN.toS {w:World} {v:Value} {l:List Fl} (h:FilN w v l):FilS w v l:=by
 rcases h with ⟨h1,h2⟩ | ⟨g,c,cs,hv,hb,hc⟩
 ·exact Or.inl ⟨h2,h1⟩
 ·refine Or.inr ⟨g,0,c,cs,hv,hb,fun j hj=>?_⟩
  rw [Nat.zero_add]
  exact hc j hj
theorem FilS.of_owns {w:World} {base:Nat} {v:Value} {l:List Fl} (h:w.ownsRow base 86 2 v l.length (fcells l)):FilS w v l:=by
 have hc:=h
 rcases h.2 with ⟨h1,h0⟩ | ⟨g,cap,cur,hv,_,hb,_⟩
 ·exact Or.inl ⟨h1,List.eq_nil_of_length_eq_zero h0⟩
 ·subst hv
  have e:∀ j,(⟨g,0,none⟩:Addr).add j=⟨g,0+j,none⟩:=fun j=>by cases j <;> simp [Addr.add]
  refine Or.inr ⟨g,0,cap,cur,rfl,hb,fun j hj=>?_⟩
  have h1:=hc.cells (g:=g) rfl (j*2) _ (fcells_at l j hj).1
  have h2:=hc.cells (g:=g) rfl (j*2+1) _ (fcells_at l j hj).2
  rw [e] at h1 h2
  exact ⟨h1,h2⟩
theorem FilS.len {w:World} {v:Value} {l:List Fl} (h:FilS w v l):∃ a c,v=.slice a l.length c:=by
 rcases h with ⟨h1,h2⟩ | ⟨b,off,c,cs,hv,_⟩
 ·exact ⟨none,0,by rw [h1,h2];rfl⟩
 ·exact ⟨_,_,hv⟩
theorem FilS.get {w:World} {a:Option Addr} {n c:Nat} {l:List Fl} (h:FilS w (.slice a n c) l) (hl:0 < l.length):∃ b off,a=some ⟨b,off,none⟩∧b < w.heap.size∧∀ j (hj:j < l.length),w.cell? ⟨b,off+j*2,none⟩=some (.string (strA l[j].1))∧w.cell? ⟨b,off+j*2+1,none⟩=some (.string (strA l[j].2)):=by
 rcases h with ⟨_,h2⟩ | ⟨b,off,c',cs,hv,hb,hc⟩
 ·rw [h2] at hl;exact absurd hl (Nat.not_lt_zero _)
 ·injection hv with h1 _ _
  exact ⟨b,off,h1,blk_lt hb,hc⟩
theorem fcells_one (l:List Fl):∀ u∈fcells l,u.oneCell'=true:=by
 intro u hu
 unfold fcells at hu
 obtain ⟨a,_,ha⟩:=List.mem_flatMap.1 hu
 exact one_fl a u ha
theorem fcells_get {l:List Fl} {j:Nat} {u:Value} (h:(fcells l)[j]?=some u):∃ k,∃ hk:k < l.length,(j=k*2∧u=.string (strA l[k].1))∨(j=k*2+1∧u=.string (strA l[k].2)):=by
 have hj:j < l.length*2:=by rw [← fcells_len];exact (List.getElem?_eq_some_iff.1 h).1
 have hk:j / 2 < l.length:=by omega
 obtain ⟨h1,h2⟩:=fcells_at l (j / 2) hk
 refine ⟨j / 2,hk,?_⟩
 rcases Nat.mod_two_eq_zero_or_one j with e | e
 ·have e1:j / 2*2=j:=by omega
  rw [e1] at h1
  rw [h] at h1
  injection h1 with h1
  exact Or.inl ⟨e1.symm,h1⟩
 ·have e1:j / 2*2+1=j:=by omega
  rw [e1] at h2
  rw [h] at h2
  injection h2 with h2
  exact Or.inr ⟨e1.symm,h2⟩
theorem fcells_app (l m:List Fl):fcells (l++m)=fcells l++fcells m:=by simp [fcells]
theorem fcells_set (l:List Fl) (k:Nat) (f:Fl) (hk:k < l.length):((fcells l).set (k*2) (.string (strA f.1))).set (k*2+1) (.string (strA f.2))=fcells (l.set k f):=by
 induction l generalizing k with
 | nil=>exact absurd hk (Nat.not_lt_zero _)
 | cons a r ih=>
  have e:∀ b:Fl,∀ s:List Fl,fcells (b :: s)=.string (strA b.1) :: .string (strA b.2) :: fcells s:=fun _ _=>rfl
  cases k with
  | zero=>rw [e];show _=fcells (f :: r);rw [e];rfl
  | succ k=>
   have h:=ih k (by simpa using hk)
   have e1:(k+1)*2=k*2+2:=by omega
   rw [e,e1]
   show _ :: _ :: (((fcells r).set (k*2) _).set (k*2+1) _)=fcells (a :: r.set k f)
   rw [h,e]
theorem append_fls {w:World} {ops:Array Oper} {rest:List Oper} {o:Oper} {a:Act} {Q:Exit→Act→World→Prop} (hgd:o.guard=none) (s x:Operand)
 (ho:o.op=.call { callee:=.builtin .append,args:=#[s,x],argTypes:=#[26,26] }) (base:Nat) (v:Value) (l1:List Fl) (hs:a.eval s=v) (hown:w.ownsRow base 86 2 v l1.length (fcells l1)) (l2:List Fl) (xv:Value) (hx:a.eval x=xv) (h:FilS w xv l2) (hl:l1.length+l2.length≤1000000) (hbase:base≤w.heap.size)
 (K:∀ a' k' w',w'.ownsRow base 86 2 (.slice a' (l1.length+l2.length) k') (l1.length+l2.length) (fcells (l1++l2))→w.grownBy w' v.ownBlock→wpList Tryz.prog ops Q rest (a.put o.dst (.slice a' (l1.length+l2.length) k')) w'):wpList Tryz.prog ops Q (o :: rest) a w:=by
 obtain ⟨i0,hi,hz0,hz1,hz2⟩:=info_parts Tryz.infoFile
 rcases h with ⟨rfl,rfl⟩ | ⟨b,off,c,cs,rfl,hb,hc⟩
 ·obtain ⟨a1,k1,hv⟩:=owns_len hown
  have K':=K a1 k1 w (by rw [List.append_nil];exact hv ▸ hown) ⟨rfl,rfl,rfl,Nat.le_refl _,fun _ _ _=>rfl⟩
  refine wpList_append_own_none hgd s x _ ho base 86 i0 2 Tryz.underlying26 hi v l1.length (fcells l1) hs hown hx ?_
  rw [hv]
  exact K'
 ·refine wpList_append_own _ hgd s x _ ho base 86 i0 _ 2 32 Tryz.underlying26 hi hz0 hz1 hz2 rfl (by decide) v l1.length (fcells l1) hs hown ⟨b,off,none⟩ l2.length c (fcells l2) hx (fcells_len l2) (fun j u hj=>?_) (fcells_one l2) (by unfold maxLen;omega) (by omega) hbase (fun v' w' ho' hg' _=>?_)
  ·have e2:(⟨b,off,none⟩:Addr).add j=⟨b,off+j,none⟩:=by cases j <;> simp [Addr.add]
   rw [e2]
   obtain ⟨k,hk,⟨rfl,rfl⟩ | ⟨rfl,rfl⟩⟩:=fcells_get hj
   ·exact (hc k hk).1
   ·exact (hc k hk).2
  ·rw [← fcells_app] at ho'
   obtain ⟨a',k',hv⟩:=owns_len ho'
   subst hv
   exact K a' k' w' ho' hg'
end
end Go.Proofs.YtenahlandohgaaaGreatDoor
