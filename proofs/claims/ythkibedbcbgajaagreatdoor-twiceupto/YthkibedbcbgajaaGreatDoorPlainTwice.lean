import Derived.Test.YthkibedbcbgajaaGreatDoorDList
import Derived.Test.YthkibedbcbgajaaGreatDoorELeave
namespace Go.Proofs.YthkibedbcbgajaaGreatDoor
set_option linter.unusedVariables false
set_option linter.unusedSimpArgs false
set_option maxRecDepth 100000
set_option maxHeartbeats 4000000
open Go.RowKit
theorem putFs_in (fs:List Fl) (F G:Fs) (x:List UInt8) (h:∃ f∈fs,f.1=x):putFs F fs x=putFs G fs x:=by
 induction fs generalizing F G with
 | nil=>obtain ⟨f,hf,_⟩:=h;cases hf
 | cons f r ih=>
  show putFs (putP F f) r x=putFs (putP G f) r x
  by_cases hr:∃ g∈r,g.1=x
  ·exact ih _ _ hr
  ·obtain ⟨g,hg,rfl⟩:=h
   rcases List.mem_cons.1 hg with rfl | hg
   ·apply putFs_same
    show (if g.1=g.1 then some g.2 else F g.1)=if g.1=g.1 then some g.2 else G g.1
    rw [if_pos rfl,if_pos rfl]
   ·exact absurd ⟨g,hg,rfl⟩ hr
theorem putFs_twice (fs:List Fl) (F:Fs):putFs (putFs F fs) fs=putFs F fs:=by
 funext x
 by_cases h:∃ f∈fs,f.1=x
 ·exact putFs_in fs _ _ x h
 ·rw [putFs_other fs (putFs F fs) x (fun f hf e=>h ⟨f,hf,e⟩)]
theorem putFs_some (fs:List Fl) (F:Fs) (x:List UInt8) (h:(F x).isSome=true):(putFs F fs x).isSome=true:=by
 induction fs generalizing F with
 | nil=>exact h
 | cons f r ih=>
  apply ih
  show (if x=f.1 then some f.2 else F x).isSome=true
  by_cases e:x=f.1
  ·rw [if_pos e];rfl
  ·rw [if_neg e];exact h
theorem putFs_names (fs:List Fl) (F:Fs) (x:List UInt8) (h:(putFs F fs x).isSome=true):(F x).isSome=true∨∃ f∈fs,f.1=x:=by
 by_cases e:∃ f∈fs,f.1=x
 ·exact Or.inr e
 ·rw [putFs_other fs F x (fun f hf e'=>e ⟨f,hf,e'⟩)] at h
  exact Or.inl h
theorem lists_two {F:Fs} {l:List Fl} (h:Lists F l) (x y:List UInt8) (hx:(F x).isSome=true) (hy:(F y).isSome=true) (hxy:x≠y):2≤l.length:=by
 obtain ⟨s,hs⟩:=Option.isSome_iff_exists.1 hx
 obtain ⟨t,ht⟩:=Option.isSome_iff_exists.1 hy
 have h1:=(h.2 x s).2 hs
 have h2:=(h.2 y t).2 ht
 match l,h1,h2 with
 | [],h1,_=>cases h1
 | [a],h1,h2=>
  simp only [List.mem_singleton] at h1 h2
  rw [← h1] at h2
  exact absurd (congrArg Prod.fst h2).symm hxy
 | a :: b :: r,_,_=>simp
def kIz:List UInt8:=[105,110,98,111,120,47,122]
def kOld:List UInt8:=[111,108,100]
def kA1:List UInt8:=[97,49]
def kNew:List UInt8:=[110,101,119]
def kIa1:List UInt8:=[105,110,98,111,120,47,97,49]
def fs0:Fs:=putFs noF [(kIz,kOld)]
def fs1:Fs:=putFs fs0 [(kIa1,kNew)]
theorem filesL_a1:filesL kA1 [(1,[])] kNew=.ok [(kIa1,kNew)]:=by rfl
theorem fs1_at (x:List UInt8):fs1 x=if x=kIa1 then some kNew else if x=kIz then some kOld else none:=rfl
theorem lists_fs1:Lists fs1 [(kIa1,kNew),(kIz,kOld)]:=by
 refine ⟨by simp [List.pairwise_cons];decide,fun x s=>?_⟩
 rw [fs1_at]
 by_cases h1:x=kIa1
 ·subst h1
  rw [if_pos rfl]
  have hne:kIa1≠kIz:=by decide
  constructor
  ·intro h
   rcases List.mem_cons.1 h with h | h
   ·injection h with _ h;rw [h]
   ·rcases List.mem_cons.1 h with h | h
    ·injection h with h _;exact absurd h hne
    ·cases h
  ·intro h;injection h with h;rw [h];exact List.mem_cons_self
 ·rw [if_neg h1]
  by_cases h2:x=kIz
  ·subst h2
   rw [if_pos rfl]
   constructor
   ·intro h
    rcases List.mem_cons.1 h with h | h
    ·injection h with h _;exact absurd h h1
    ·rcases List.mem_cons.1 h with h | h
     ·injection h with _ h;rw [h]
     ·cases h
   ·intro h;injection h with h;rw [h];exact List.mem_cons_of_mem _ List.mem_cons_self
  ·rw [if_neg h2]
   constructor
   ·intro h
    rcases List.mem_cons.1 h with h | h
    ·injection h with h _;exact absurd h h1
    ·rcases List.mem_cons.1 h with h | h
     ·injection h with h _;exact absurd h h2
     ·cases h
   ·intro h;cases h
theorem fs1_names (x:List UInt8) (h:(fs1 x).isSome=true):Lib.hasPrefix x [46]=false:=by
 rw [fs1_at] at h
 by_cases h1:x=kIa1
 ·subst h1;decide
 ·rw [if_neg h1] at h
  by_cases h2:x=kIz
  ·subst h2;decide
  ·rw [if_neg h2] at h;cases h
theorem nameOk_own {x:List UInt8} (h:NameOk x):Lib.hasPrefix x [46]=false:=by
 obtain ⟨_,c,r,rfl,hc⟩:=h
 show (((46:UInt8) == c) && List.isPrefixOf [] r)=false
 have:((46:UInt8) == c)=false:=by simp only [beq_eq_false_iff_ne];exact Ne.symm hc
 rw [this];rfl
def aft (id:List UInt8) (acts:List (Int×List UInt8)) (text:List UInt8) (F:Fs):Fs:=
 match filesL id acts text with
 | .error _=>F
 | .ok fs=>putFs F fs
def aftN (id:List UInt8) (acts:List (Int×List UInt8)) (text:List UInt8):Nat:=
 match filesL id acts text with
 | .error k=>k
 | .ok _=>0
theorem aft_err {id text:List UInt8} {acts:List (Int×List UInt8)} {k:Nat} (F:Fs) (h:filesL id acts text=.error k):aft id acts text F=F∧aftN id acts text=k:=by
 unfold aft aftN;rw [h];exact ⟨rfl,rfl⟩
theorem aft_ok {id text:List UInt8} {acts:List (Int×List UInt8)} {fs:List Fl} (F:Fs) (h:filesL id acts text=.ok fs):aft id acts text F=putFs F fs∧aftN id acts text=0:=by
 unfold aft aftN;rw [h];exact ⟨rfl,rfl⟩
theorem aft_twice (id text:List UInt8) (acts:List (Int×List UInt8)) (F:Fs):aft id acts text (aft id acts text F)=aft id acts text F:=by
 cases h:filesL id acts text with
 | error k=>rw [(aft_err _ h).1,(aft_err _ h).1]
 | ok fs=>rw [(aft_ok _ h).1,(aft_ok _ h).1];exact putFs_twice fs F
theorem aft_some (id text:List UInt8) (acts:List (Int×List UInt8)) (F:Fs) (x:List UInt8) (hx:(F x).isSome=true):(aft id acts text F x).isSome=true:=by
 cases h:filesL id acts text with
 | error k=>rw [(aft_err _ h).1];exact hx
 | ok fs=>rw [(aft_ok _ h).1];exact putFs_some fs F x hx
end Go.Proofs.YthkibedbcbgajaaGreatDoor
