import Derived.Laws.AppendOwnNone
import Derived.BigRegion
import Derived.Test.YtenahlandohgaaaGreatDoorDList
import Derived.Test.YtenahlandohgaaaGreatDoorZEDeliver
import Derived.Test.YtenahlandohgaaaGreatDoorZEStep
import Derived.Test.YtenahlandohgaaaGreatDoorZGOwn
import Derived.Test.YtenahlandohgaaaGreatDoorZTold4
namespace Go.Proofs.YtenahlandohgaaaGreatDoor
set_option linter.unusedVariables false
set_option linter.unusedSimpArgs false
set_option maxRecDepth 100000
set_option maxHeartbeats 4000000
open Go.RowKit
attribute [local go_sem ↓] Go.wp_at_zero Go.wp_at_succ
theorem Tryz.infoActE:(Tryz.prog.info? 51).map (fun i=>(i.zero,i.size,i.bytes))=some (some (.agg #[.int .i64 0,.string ⟨#[]⟩]),2,24):=by kernel_rfl
theorem acells_oneE (l:List (Int×List UInt8)):∀ u∈acells l,u.oneCell'=true:=by
 intro u hu
 unfold acells at hu
 obtain ⟨a,_,ha⟩:=List.mem_flatMap.1 hu
 simp at ha
 rcases ha with rfl | rfl <;> rfl
theorem acells_get {l:List (Int×List UInt8)} {j:Nat} {u:Value} (h:(acells l)[j]?=some u):∃ k,∃ hk:k < l.length,(j=k*2∧u=.int .i64 l[k].1)∨(j=k*2+1∧u=.string (strA l[k].2)):=by
 have hj:j < l.length*2:=by rw [← acells_length];exact (List.getElem?_eq_some_iff.1 h).1
 have hk:j / 2 < l.length:=by omega
 obtain ⟨h1,h2⟩:=acells_at l (j / 2) hk
 refine ⟨j / 2,hk,?_⟩
 rcases Nat.mod_two_eq_zero_or_one j with e | e
 ·have e1:j / 2*2=j:=by omega
  rw [e1] at h1
  rw [h] at h1
  injection h1 with h1
  exact Or.inl ⟨e1.symm,h1⟩
 ·have e1:j / 2*2+1=j:=by omega
  rw [e1] at h2
  rw [h] at h2
  injection h2 with h2
  exact Or.inr ⟨e1.symm,h2⟩
theorem append_acts {w:World} {ops:Array Oper} {rest:List Oper} {o:Oper} {a:Act} {Q:Exit→Act→World→Prop} (hgd:o.guard=none) (s x:Operand)
 (ho:o.op=.call { callee:=.builtin .append,args:=#[s,x],argTypes:=#[29,29] }) (l:List (Int×List UInt8)) (sv:Value) (hs:a.eval s=.slice none 0 0) (hx:a.eval x=sv) (h:ActG w sv l) (hl:l.length≤1000000)
 (K:∀ a' k' w',w'.ownsRow w.heap.size 51 2 (.slice a' l.length k') l.length (acells l)→Below w.heap.size w w'→wpList Tryz.prog ops Q rest (a.put o.dst (.slice a' l.length k')) w'):wpList Tryz.prog ops Q (o :: rest) a w:=by
 obtain ⟨i0,hi,hz0,hz1,hz2⟩:=info_parts Tryz.infoActE
 obtain ⟨ad,c,rfl,hc⟩:=h
 cases ad with
 | none=>
  have h0:l=[]:=Classical.byContradiction fun hne=>by obtain ⟨b,off,e,_⟩:=hc hne;cases e
  subst h0
  have K':=K none 0 w (World.ownsRow_nil _ _ _ _) (Below.refl _ _)
  have hr:(Builtin.append_ #[29,29] o.type #[.slice none 0 0,.slice none 0 c]).run Tryz.prog w=.ok (.slice none 0 0) w:=by kernel_rfl
  refine wpList_plain hgd fun K2 hK=>?_
  unfold Oper.wp
  have hx':a.eval x=.slice none 0 c:=hx
  simp [execOp,ho,resolve,invoke,builtin,hs,hx',hr,Result.andThen]
  exact hK _ _ K'
 | some ad=>
  refine wpList_append_own _ hgd s x _ ho w.heap.size 51 i0 _ 2 24 Tryz.underlying29 hi hz0 hz1 hz2 rfl (by decide) (.slice none 0 0) 0 [] hs (World.ownsRow_nil _ _ _ _) ad l.length c (acells l) hx (acells_length l) (fun j u hj=>?_) (acells_oneE l) (by unfold maxLen;omega) (by omega) (Nat.le_refl _) (fun v' w' ho' hg' _=>?_)
  ·have hne:l≠[]:=fun e=>by subst e;cases hj
   obtain ⟨b,off,e,hcc⟩:=hc hne
   injection e with e
   subst e
   have e2:(⟨b,off,none⟩:Addr).add j=⟨b,off+j,none⟩:=by cases j <;> simp [Addr.add]
   rw [e2]
   obtain ⟨k,hk,⟨rfl,rfl⟩ | ⟨rfl,rfl⟩⟩:=acells_get hj
   ·exact (hcc k hk).1
   ·exact (hcc k hk).2
  ·rw [Nat.zero_add,List.nil_append] at ho'
   obtain ⟨a',k',hv⟩:=owns_len ho'
   subst hv
   exact K a' k' w' ho' ((Below.refl _ _).grown hg' (Nat.le_refl _) (fun k hk=>nomatch hk))
theorem ActG.of_owns {w:World} {base:Nat} {a:Option Addr} {c:Nat} {l:List (Int×List UInt8)} (h:w.ownsRow base 51 2 (.slice a l.length c) l.length (acells l)):ActG w (.slice a l.length c) l:=by
 refine ⟨a,c,rfl,fun hne=>?_⟩
 have hc:=h
 rcases h.2 with ⟨_,h0⟩ | ⟨g,cap,cur,hv,_,hb,_⟩
 ·exact absurd (List.eq_nil_of_length_eq_zero h0) hne
 ·injection hv with h1 h2 h3
  subst h1
  have e:∀ j,(⟨g,0,none⟩:Addr).add j=⟨g,0+j,none⟩:=fun j=>by cases j <;> simp [Addr.add]
  refine ⟨g,0,rfl,fun j hj=>?_⟩
  have h1:=hc.cells (g:=g) rfl (j*2) _ (acells_at l j hj).1
  have h2:=hc.cells (g:=g) rfl (j*2+1) _ (acells_at l j hj).2
  rw [e] at h1 h2
  exact ⟨h1,h2⟩
def PAc (B:Nat) (k:Nat) (o:Obj):Prop:=B≤k∧∃ cs,o=.cells cs 51
theorem Fr.newAc {P:Nat→Obj→Prop} {w w2 w3:World} {C:Nat} (h:Fr P w w2) (hf:Fr (PAc C) w2 w3) (hC:w.heap.size≤C):Fr P w w3:=
 ⟨hf.os.trans h.os,hf.tape.trans h.tape,hf.output.trans h.output,Nat.le_trans h.size hf.size,fun k o hk hp=>hf.block k o (h.block k o hk hp) (fun ⟨hc,_⟩=>by have:=blk_lt hk;omega)⟩
theorem PDk.notAc {B k:Nat} {cs:Array Value}:¬ PDk B k (.cells cs 51):=by
 rintro ⟨_,⟨cs',e⟩ | ⟨es,c,e⟩ | ⟨cs',e⟩⟩
 ·injection e with e1 e2;exact absurd e2 (by decide)
 ·cases e
 ·injection e with e1 e2;exact absurd e2 (by decide)
theorem PDk.notBox {B k:Nat} {cs:Array Value}:¬ PDk B k (.cells cs 55):=by
 rintro ⟨_,⟨cs',e⟩ | ⟨es,c,e⟩ | ⟨cs',e⟩⟩
 ·injection e with e1 e2;exact absurd e2 (by decide)
 ·cases e
 ·injection e with e1 e2;exact absurd e2 (by decide)
theorem Fr.lowCell {B:Nat} {w w':World} {a:Addr} {v:Value} (h:Fr (PDk B) w w') (ha:a.block < B) (hc:w.cell? a=some v):w'.cell? a=some v:=by
 have hl:=cell_lt hc
 obtain ⟨o,ho⟩:∃ o,w.heap[a.block]?=some o:=⟨w.heap[a.block],Array.getElem?_eq_getElem hl⟩
 rw [World.cell?_of_block (w:=w) ((h.block _ _ ho (fun hp=>by have:=hp.1;omega)).trans ho.symm)]
 exact hc
theorem Tab.keep {B:Nat} {w w':World} (h:Tab w) (hf:Fr (PDk B) w w') (hB:6 < B):Tab w':=by
 have hn:Tryz.prog.globalNamed "internal/strconv.uint64pow10"=some 2:=by kernel_rfl
 unfold Tab Lib.TabIs World.var? at h ⊢
 rw [hn] at h ⊢
 simp only [Option.bind_some] at h ⊢
 cases ho:w.heap[2]? with
 | none=>rw [ho] at h;cases h
 | some o=>rw [hf.block 2 o ho (fun hp=>by have:=hp.1;omega),← ho];exact h
end Go.Proofs.YtenahlandohgaaaGreatDoor
