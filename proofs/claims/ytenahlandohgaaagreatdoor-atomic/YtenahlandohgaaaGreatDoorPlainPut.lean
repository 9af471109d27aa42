import Derived.Test.YtenahlandohgaaaGreatDoorZFBase
import Derived.Test.YtenahlandohgaaaGreatDoorZPlainList
namespace Go.Proofs.YtenahlandohgaaaGreatDoor
set_option linter.unusedVariables false
set_option linter.unusedSimpArgs false
set_option maxRecDepth 100000
set_option maxHeartbeats 4000000
abbrev FlP:=List UInt8×List UInt8
def insL (f:FlP):List FlP→List FlP
 | []=>[f]
 | g :: r=>if g.1 < f.1 then g :: insL f r else if g.1=f.1 then f :: r else f :: g :: r
def plPut (l more:List FlP):List FlP:=more.foldl (fun a f=>insL f a) l
theorem insL_set (f:FlP):∀ (l:List FlP) (k:Nat) (hk:k < l.length),(∀ j (hj:j < l.length),j < k→l[j].1 < f.1)→l[k].1=f.1→insL f l=l.set k f
 | [],k,hk,_,_=>absurd hk (Nat.not_lt_zero _)
 | g :: r,0,hk,_,he=>by
  have he':g.1=f.1:=he
  rw [insL,if_neg (by rw [he'];exact List.lt_irrefl _),if_pos he']
  rfl
 | g :: r,k+1,hk,h,he=>by
  have h0:g.1 < f.1:=h 0 (by simp) (by omega)
  rw [insL,if_pos h0,insL_set f r k (by simpa using hk) (fun j hj hjk=>h (j+1) (by simpa using hj) (by omega)) he]
  rfl
theorem insL_ins (f:FlP):∀ (l:List FlP) (k:Nat),k≤l.length→(∀ j (hj:j < l.length),j < k→l[j].1 < f.1)→(∀ hk:k < l.length,¬ l[k].1 < f.1∧l[k].1≠f.1)→insL f l=l.take k++f :: l.drop k
 | [],k,hk,_,_=>by simp at hk;subst hk;rfl
 | g :: r,0,hk,_,he=>by
  obtain ⟨h1,h2⟩:=he (by simp)
  have h1':¬ g.1 < f.1:=h1
  have h2':¬ g.1=f.1:=h2
  rw [insL,if_neg h1',if_neg h2']
  rfl
 | g :: r,k+1,hk,h,he=>by
  have h0:g.1 < f.1:=h 0 (by simp) (by omega)
  rw [insL,if_pos h0,insL_ins f r k (by simpa using hk) (fun j hj hjk=>h (j+1) (by simpa using hj) (by omega)) (fun hk=>he (by simpa using hk))]
  rfl
theorem mem_insL {f x:FlP}:∀ {l:List FlP},x∈insL f l→x=f∨x∈l
 | [],h=>Or.inl (by simpa [insL] using h)
 | g :: r,h=>by
  rw [insL] at h
  split at h
  ·rcases List.mem_cons.1 h with h | h
   ·exact Or.inr (by simp [h])
   ·rcases mem_insL h with h | h
    ·exact Or.inl h
    ·exact Or.inr (by simp [h])
  ·split at h
   ·rcases List.mem_cons.1 h with h | h
    ·exact Or.inl h
    ·exact Or.inr (by simp [h])
   ·rcases List.mem_cons.1 h with h | h
    ·exact Or.inl h
    ·exact Or.inr h
theorem mem_insL_iff {f:FlP} {x:List UInt8} {s:List UInt8}:∀ {l:List FlP},l.Pairwise (fun a b=>a.1 < b.1)→((x,s)∈insL f l↔(x,s)=f∨((x,s)∈l∧x≠f.1))
 | [],_=>by simp [insL]
 | g :: r,h=>by
  obtain ⟨h1,h2⟩:=List.pairwise_cons.1 h
  rw [insL]
  split
  ·rename_i hlt
   rw [List.mem_cons,mem_insL_iff h2,List.mem_cons]
   constructor
   ·rintro (e | e | ⟨e1,e2⟩)
    ·refine Or.inr ⟨Or.inl e,fun e'=>?_⟩
     have:g.1=f.1:=by rw [← e,← e']
     rw [this] at hlt
     exact List.lt_irrefl _ hlt
    ·exact Or.inl e
    ·exact Or.inr ⟨Or.inr e1,e2⟩
   ·rintro (e | ⟨e | e,e2⟩)
    ·exact Or.inr (Or.inl e)
    ·exact Or.inl e
    ·exact Or.inr (Or.inr ⟨e,e2⟩)
  ·rename_i hlt
   split
   ·rename_i he
    rw [List.mem_cons,List.mem_cons]
    constructor
    ·rintro (e | e)
     ·exact Or.inl e
     ·refine Or.inr ⟨Or.inr e,fun e'=>?_⟩
      have:=h1 _ e
      rw [he,← e'] at this
      exact List.lt_irrefl _ this
    ·rintro (e | ⟨e | e,e2⟩)
     ·exact Or.inl e
     ·exact absurd (by rw [← he,← e]) e2
     ·exact Or.inr e
   ·rename_i he
    rw [List.mem_cons]
    constructor
    ·rintro (e | e)
     ·exact Or.inl e
     ·refine Or.inr ⟨e,fun e'=>?_⟩
      rcases List.mem_cons.1 e with e | e
      ·exact he (by rw [← e,← e'])
      ·have h3:=h1 _ e
       rw [show (x,s).1=f.1 from e'] at h3
       exact hlt h3
    ·rintro (e | ⟨e,_⟩)
     ·exact Or.inl e
     ·exact Or.inr e
theorem insL_pw {f:FlP}:∀ {l:List FlP},l.Pairwise (fun a b=>a.1 < b.1)→(insL f l).Pairwise (fun a b=>a.1 < b.1)
 | [],_=>by simp [insL]
 | g :: r,h=>by
  obtain ⟨h1,h2⟩:=List.pairwise_cons.1 h
  rw [insL]
  split
  ·rename_i hlt
   refine List.pairwise_cons.2 ⟨fun x hx=>?_,insL_pw h2⟩
   rcases mem_insL hx with rfl | hx
   ·exact hlt
   ·exact h1 x hx
  ·rename_i hlt
   split
   ·rename_i he
    exact List.pairwise_cons.2 ⟨fun x hx=>by rw [← he];exact h1 x hx,h2⟩
   ·rename_i he
    have hfg:f.1 < g.1:=lt_of_not hlt (fun e=>he e.symm)
    refine List.pairwise_cons.2 ⟨fun x hx=>?_,h⟩
    rcases List.mem_cons.1 hx with rfl | hx
    ·exact hfg
    ·exact List.lt_trans hfg (h1 x hx)
theorem lists_ins {F:Fs} {l:List FlP} (h:Lists F l) (f:FlP):Lists (putP F f) (insL f l):=by
 refine ⟨insL_pw h.1,fun x s=>?_⟩
 rw [mem_insL_iff h.1,h.2]
 show _↔(if x=f.1 then some f.2 else F x)=some s
 by_cases e:x=f.1
 ·rw [if_pos e]
  constructor
  ·rintro (h | ⟨_,h⟩)
   ·rw [← h]
   ·exact absurd e h
  ·intro h;injection h with h;exact Or.inl (by rw [e,← h])
 ·rw [if_neg e]
  constructor
  ·rintro (h | ⟨h,_⟩)
   ·exact absurd (by rw [← h]) e
   ·exact h
  ·intro h;exact Or.inr ⟨h,e⟩
theorem lists_put (fs:List FlP):∀ {F:Fs} {l:List FlP},Lists F l→Lists (putFs F fs) (plPut l fs):=by
 induction fs with
 | nil=>intro F l h;exact h
 | cons f r ih=>intro F l h;exact ih (lists_ins h f)
theorem lists_none:Lists noF []:=⟨List.Pairwise.nil,fun x s=>⟨fun h=>(by cases h),fun h=>(by cases h)⟩⟩
theorem insL_len (f:FlP):∀ l:List FlP,(insL f l).length≤l.length+1
 | []=>by simp [insL]
 | g :: r=>by
  rw [insL]
  split
  ·simp [insL_len f r]
  ·split <;> simp
theorem plPut_len (fs:List FlP):∀ l:List FlP,(plPut l fs).length≤l.length+fs.length:=by
 induction fs with
 | nil=>intro l;simp [plPut]
 | cons f r ih=>
  intro l
  show (plPut (insL f l) r).length≤_
  have h1:=ih (insL f l)
  have h2:=insL_len f l
  simp only [List.length_cons]
  omega
end Go.Proofs.YtenahlandohgaaaGreatDoor
