import Derived.Lib.Index
import Derived.Lib.Bytealg
import Derived.Lib.Strings
import Derived.Lib.SlicesS
import Derived.Lib.ItoaNum
namespace Go.Proofs.YtbiclelojbfnbabGreatDoor
set_option linter.unusedVariables false
set_option linter.unusedSimpArgs false
set_option maxRecDepth 100000
set_option maxHeartbeats 4000000
def QaE (c:Int):Bool:=decide (48≤c) && decide (c≤57)
def Qbb (c:Int):Bool:=c == 32 || c == 9 || c == 10 || c == 13
def QdO (c:Int):Bool:=decide (65≤c) && decide (c≤90)
def Qfr (c:Int):Bool:=decide (97≤c) && decide (c≤122)
def Qbg (c:Int):Bool:=(decide (97≤c) && decide (c≤122)) || QdO c || c == 95
theorem Qqs (c:Int):Qbg c=(Qfr c || QdO c || c == 95):=rfl
def Qbf (c:UInt8):Bool:=Qbg c.toNat || QaE c.toNat
def Qbr (l:List UInt8):Nat:=(l.takeWhile Qbf).length
def Qa4:List UInt8→Nat
 | []=>0
 | c :: r=>if Qbg c.toNat then 1+Qbr r else 0
def isNameL (l:List UInt8):Bool:=!l.isEmpty && Qa4 l == l.length
def Qc5 (c:UInt8):UInt8:=if QdO c.toNat then c - 65+97 else c
def smallL (l:List UInt8):List UInt8:=l.map Qc5
theorem QfI (c:UInt8) (r:List UInt8):Qbr (c :: r)=if Qbf c then 1+Qbr r else 0:=by
 unfold Qbr
 rw [List.takeWhile_cons]
 split
 ·rw [List.length_cons];omega
 ·rfl
theorem QmQ (l:List UInt8):Qbr l≤l.length:=by
 induction l with
 | nil=>simp [Qbr]
 | cons c r ih=>rw [QfI];split <;> simp <;> omega
theorem Qdu (l:List UInt8):Qa4 l≤l.length:=by
 cases l with
 | nil=>simp [Qa4]
 | cons c r=>have:=QmQ r;simp only [Qa4];split <;> simp <;> omega
structure Flt where
 err:Nat
 pos:Nat
structure Wd where
 kind:Nat
 pos:Nat
 spelt:List UInt8
 said:List UInt8
 num:Nat
def lineLen (l:List UInt8):Nat:=if Lib.indexByte l 10 < 0 then l.length else (Lib.indexByte l 10).toNat+1
theorem QgS (l:List UInt8) (c:UInt8):Lib.indexByte l c < l.length:=by
 induction l with
 | nil=>simp [Lib.indexByte]
 | cons b l ih=>
  unfold Lib.indexByte
  rw [List.length_cons]
  split
  ·omega
  ·split <;> omega
theorem QiN (l sub:List UInt8):Lib.index l sub < 0∨Lib.index l sub+sub.length≤l.length:=by
 induction l with
 | nil=>
  unfold Lib.index
  cases sub with
  | nil=>right;decide
  | cons a t=>left;simp
 | cons b l ih=>
  unfold Lib.index
  split
  ·rename_i h
   right
   have:=(List.isPrefixOf_iff_prefix.1 h).length_le
   simp at this ⊢
   omega
  ·split
   ·left;decide
   ·have:=Lib.index_ge l sub
    rename_i h1 h2
    have h3:¬ Lib.index l sub = -1:=by simpa using h2
    simp
    omega
theorem Qjd (l:List UInt8):lineLen l≤l.length:=by
 have:=QgS l 10
 unfold lineLen;split <;> omega
theorem QhM (c:UInt8) (l:List UInt8):1≤lineLen (c :: l):=by
 unfold lineLen;split
 ·simp
 ·omega
def QbS:Nat→List UInt8→Nat→Except Flt Nat
 | 0,_,p=>.ok p
 | _+1,[],p=>.ok p
 | f+1,c :: r,p=>
  if Qbb c.toNat then QbS f r (p+1)
  else if c.toNat=35 then QbS f ((c :: r).drop (lineLen (c :: r))) (p+lineLen (c :: r))
  else if Lib.hasPrefix (c :: r) [47,42] then
   if Lib.index (r.drop 1) [42,47] < 0 then .error ⟨2,p⟩
   else QbS f ((c :: r).drop (4+(Lib.index (r.drop 1) [42,47]).toNat)) (p+(4+(Lib.index (r.drop 1) [42,47]).toNat))
  else .ok p
def QcC (k:Nat) (rest:List UInt8) (p n:Nat):Wd×Nat:=(⟨k,p,smallL (rest.take n),[],0⟩,p+n)
def Qch (l:List UInt8):Nat:=(l.takeWhile fun c=>QaE c.toNat).length
def Qfs (v:Nat) (c:UInt8):Nat:=min (v*10+(c.toNat - 48)) 2147483648
def QkX (l:List UInt8):Nat:=(l.takeWhile fun c=>QaE c.toNat).foldl Qfs 0
def isM (c:UInt8):Bool:=c.toNat == 77 || c.toNat == 109
def isK (c:UInt8):Bool:=c.toNat == 75 || c.toNat == 107
def scanNumL (rest:List UInt8) (p:Nat):Except Flt (Wd×Nat):=
 let n:=Qch rest
 let v:=QkX rest
 let c:=rest.getD n 0
 let v':=if isM c then v*1048576 else if isK c then v*1024 else v
 let n':=if isM c || isK c then n+1 else n
 if Qbf (rest.getD n' 0) then .error ⟨2,p⟩
 else if 2147483647 < v' then .error ⟨3,p⟩
 else .ok (⟨4,p,[],[],v'⟩,p+n')
def quoteL:List UInt8→Option (List UInt8×Nat)
 | []=>none
 | c :: r=>
  if c.toNat=34 then some ([],1)
  else if c.toNat=92 then
   match r with
   | []=>none
   | d :: r'=>(quoteL r').map fun x=>(d :: x.1,x.2+2)
  else (quoteL r).map fun x=>(c :: x.1,x.2+1)
def quoteR (r:List UInt8) (p:Nat):Except Flt (Wd×Nat):=
 match quoteL r with
 | none=>.error ⟨2,p⟩
 | some x=>.ok (⟨5,p,[],x.1,0⟩,p+(1+x.2))
def QhL (c:UInt8):Bool:=decide (0≤Lib.indexByte [59,44,40,41,123,125,91,93] c)
def scanL (rest:List UInt8) (p:Nat):Except Flt (Wd×Nat):=
 match rest with
 | []=>.ok (⟨0,p,[],[],0⟩,p)
 | c :: r=>
  if Qbg c.toNat then .ok (QcC 1 (c :: r) p (Qa4 (c :: r)))
  else if c.toNat=58 then
   if Qa4 r=0 then .error ⟨2,p⟩ else .ok (QcC 2 (c :: r) p (1+Qa4 r))
  else if QaE c.toNat then scanNumL (c :: r) p
  else if c.toNat=34 then quoteR r p
  else if QhL c then .ok (QcC 3 (c :: r) p 1)
  else .error ⟨2,p⟩
def nextL (l:List UInt8) (p:Nat):Except Flt (Wd×Nat):=
 match QbS (l.length+1) (l.drop p) p with
 | .error f=>.error f
 | .ok n=>scanL (l.drop n) n
theorem QdN (l:List UInt8):∀ (f p n:Nat),p≤l.length→QbS f (l.drop p) p=.ok n→p≤n∧n≤l.length
 | 0,p,n,hp,h=>by
  simp only [QbS] at h
  cases h
  exact ⟨Nat.le_refl _,hp⟩
 | f+1,p,n,hp,h=>by
  by_cases hlt:p < l.length
  ·rw [List.drop_eq_getElem_cons hlt] at h
   simp only [QbS] at h
   split at h
   ·have:=QdN l f (p+1) n (by omega) h
    omega
   ·rw [← List.drop_eq_getElem_cons hlt] at h
    split at h
    ·rw [List.drop_drop] at h
     have h1:=Qjd (l.drop p)
     rw [List.length_drop] at h1
     have:=QdN l f _ n (by omega) h
     omega
    ·split at h
     ·split at h
      ·cases h
      ·rename_i hp2 hi
       have e:List.drop 1 (List.drop (p+1) l)=List.drop (p+1+1) l:=by rw [List.drop_drop]
       rw [e] at h hi
       rw [List.drop_drop] at h
       have h1:=QiN (l.drop (p+1+1)) [42,47]
       rw [List.length_drop] at h1
       have h2:2≤(l.drop p).length:=by
        have:=(List.isPrefixOf_iff_prefix.1 hp2).length_le
        simpa using this
       rw [List.length_drop] at h2
       have h3:Lib.index (l.drop (p+1+1)) [42,47]+2≤(l.length - (p+1+1):Nat):=by
        rcases h1 with h1 | h1
        ·exact absurd h1 hi
        ·simpa using h1
       have:=QdN l f _ n (by omega) h
       omega
     ·cases h
      exact ⟨Nat.le_refl _,hp⟩
  ·rw [List.drop_of_length_le (by omega)] at h
   simp only [QbS] at h
   cases h
   exact ⟨Nat.le_refl _,hp⟩
theorem QfQ:∀ (r:List UInt8) (x:List UInt8×Nat),quoteL r=some x→1≤x.2∧x.2≤r.length
 | [],x,h=>by cases h
 | c :: r,x,h=>by
  rw [quoteL.eq_def] at h
  dsimp only at h
  split at h
  ·cases h;simp
  ·split at h
   ·cases r with
    | nil=>cases h
    | cons d r'=>
     dsimp only at h
     cases hq:quoteL r' with
     | none=>rw [hq] at h;cases h
     | some y=>
      have:=QfQ r' y hq
      rw [hq] at h
      cases h
      simp;omega
   ·cases hq:quoteL r with
    | none=>rw [hq] at h;cases h
    | some y=>
     have:=QfQ r y hq
     rw [hq] at h
     cases h
     simp;omega
theorem Qel:∀ (r:List UInt8) (x:List UInt8×Nat),quoteL r=some x→x.1.length < x.2
 | [],x,h=>by cases h
 | c :: r,x,h=>by
  rw [quoteL.eq_def] at h
  dsimp only at h
  split at h
  ·cases h;simp
  ·split at h
   ·cases r with
    | nil=>cases h
    | cons d r'=>
     dsimp only at h
     cases hq:quoteL r' with
     | none=>rw [hq] at h;cases h
     | some y=>
      have:=Qel r' y hq
      rw [hq] at h
      cases h
      simp;omega
   ·cases hq:quoteL r with
    | none=>rw [hq] at h;cases h
    | some y=>
     have:=Qel r y hq
     rw [hq] at h
     cases h
     simp;omega
theorem QoI (l:List UInt8):Qch l≤l.length:=by
 unfold Qch;exact (List.takeWhile_prefix _).length_le
theorem Qhk (l:List UInt8) (n:Nat) (h:l.length≤n):l.getD n 0=0:=by
 rw [List.getD_eq_getElem?_getD,List.getElem?_eq_none h];rfl
theorem Qof (l:List UInt8) (p:Nat) (hp:p≤l.length) (x:Wd×Nat) (h:scanL (l.drop p) p=.ok x) :
 x.1.pos=p∧x.2≤l.length∧p≤x.2∧(x.1.kind=0→p=l.length∧x.1.spelt=[])∧(x.1.kind≠0→p < x.2):=by
 by_cases hlt:p < l.length
 ·obtain ⟨c,r,hcr,hrl⟩:∃ c r,l.drop p=c :: r∧r.length=l.length - (p+1):=⟨_,_,List.drop_eq_getElem_cons hlt,by simp⟩
  rw [hcr] at h
  clear hcr
  unfold scanL at h
  dsimp only at h
  have hn:=Qdu (c :: r)
  have hn1:=Qdu r
  simp only [List.length_cons] at hn hn1
  split at h
  ·rename_i hl
   have hpos:1≤Qa4 (c :: r):=by
    simp only [Qa4];rw [if_pos hl];omega
   cases h
   simp [QcC];omega
  ·split at h
   ·split at h
    ·cases h
    ·cases h;simp [QcC];omega
   ·split at h
    ·rename_i hg
     have hd:=QoI (c :: r)
     have hd1:1≤Qch (c :: r):=by
      simp [Qch,hg]
     simp only [List.length_cons] at hd
     obtain ⟨n',v',hn',he⟩:∃ n' v':Nat,n'=(if isM ((c :: r).getD (Qch (c :: r)) 0) || isK ((c :: r).getD (Qch (c :: r)) 0) then Qch (c :: r)+1 else Qch (c :: r))∧
      scanNumL (c :: r) p=if Qbf ((c :: r).getD n' 0) then .error ⟨2,p⟩ else if 2147483647 < v' then .error ⟨3,p⟩ else .ok (⟨4,p,[],[],v'⟩,p+n'):=⟨_,_,rfl,rfl⟩
     rw [he] at h
     have hn2:n'≤l.length - p∧1≤n':=by
      by_cases hm:(isM ((c :: r).getD (Qch (c :: r)) 0) || isK ((c :: r).getD (Qch (c :: r)) 0))=true
      ·have hlt2:Qch (c :: r) < (c :: r).length:=by
        apply Classical.byContradiction
        intro hge
        rw [Qhk _ _ (by omega)] at hm
        exact absurd hm (by decide)
       simp only [List.length_cons] at hlt2
       rw [hn',if_pos hm];omega
      ·rw [hn',if_neg hm];omega
     split at h
     ·cases h
     ·split at h
      ·cases h
      ·cases h
       simp;omega
    ·split at h
     ·unfold quoteR at h
      cases hq:quoteL r with
      | none=>rw [hq] at h;cases h
      | some y=>
       rw [hq] at h
       have:=QfQ _ _ hq
       cases h
       simp;omega
     ·split at h
      ·cases h;simp [QcC];omega
      ·cases h
 ·have e:p=l.length:=by omega
  rw [List.drop_of_length_le (by omega)] at h
  unfold scanL at h
  dsimp only at h
  cases h
  simp;omega
theorem QhQ (l:List UInt8) (p:Nat) (x:Wd×Nat) (h:scanL (l.drop p) p=.ok x):x.1.said.length≤l.length∧x.1.num≤2147483647:=by
 have hl:(l.drop p).length≤l.length:=by simp
 generalize l.drop p=r at h hl
 cases r with
 | nil=>unfold scanL at h;dsimp only at h;cases h;simp
 | cons c r=>
  unfold scanL at h
  dsimp only at h
  split at h
  ·cases h;simp [QcC]
  ·split at h
   ·split at h
    ·cases h
    ·cases h;simp [QcC]
   ·split at h
    ·obtain ⟨n',v',he⟩:∃ n' v':Nat,scanNumL (c :: r) p=if Qbf ((c :: r).getD n' 0) then .error ⟨2,p⟩ else if 2147483647 < v' then .error ⟨3,p⟩ else .ok (⟨4,p,[],[],v'⟩,p+n'):=⟨_,_,rfl⟩
     rw [he] at h
     split at h
     ·cases h
     ·split at h
      ·cases h
      ·cases h;simp;omega
    ·split at h
     ·unfold quoteR at h
      cases hq:quoteL r with
      | none=>rw [hq] at h;cases h
      | some y=>
       rw [hq] at h
       have h1:=QfQ _ _ hq
       have h2:=Qel _ _ hq
       cases h
       simp at hl ⊢;omega
     ·split at h
      ·cases h;simp [QcC]
      ·cases h
theorem Qmu (l:List UInt8) (p:Nat) (x:Wd×Nat) (h:nextL l p=.ok x):x.1.said.length≤l.length∧x.1.num≤2147483647:=by
 unfold nextL at h
 cases hs:QbS (l.length+1) (l.drop p) p with
 | error f=>rw [hs] at h;cases h
 | ok n=>rw [hs] at h;exact QhQ l n x h
def Qjj (sp:List UInt8):Prop:=∀ c r,sp=c :: r→Qbg c.toNat=false
theorem QfE:∀ (l:List UInt8) (c:UInt8),0≤Lib.indexByte l c→c∈l
 | [],c,h=>by simp [Lib.indexByte] at h
 | b :: l,c,h=>by
  unfold Lib.indexByte at h
  split at h
  ·rename_i hb
   have:b=c:=by simpa using hb
   subst this;simp
  ·split at h
   ·exact absurd h (by decide)
   ·have h1:=Lib.indexByte_ge l c
    rename_i h2
    have h3:¬ Lib.indexByte l c = -1:=by simpa using h2
    have:=QfE l c (by omega)
    simp [this]
theorem Qj1 (c:UInt8) (h:QhL c=true):Qbg (Qc5 c).toNat=false:=by
 have hm:=QfE _ _ (of_decide_eq_true h)
 simp at hm
 rcases hm with h | h | h | h | h | h | h | h <;> subst h <;> decide
theorem Ql3 (l:List UInt8) (p:Nat) (x:Wd×Nat) (h:scanL (l.drop p) p=.ok x) (hk:¬ x.1.kind=1):Qjj x.1.spelt:=by
 generalize l.drop p=r at h
 cases r with
 | nil=>unfold scanL at h;dsimp only at h;cases h;intro c r e;cases e
 | cons c r=>
  unfold scanL at h
  dsimp only at h
  split at h
  ·cases h;exact absurd rfl hk
  ·split at h
   ·rename_i h58
    split at h
    ·cases h
    ·cases h
     intro c' r' e
     rw [show 1+Qa4 r=Qa4 r+1 from by omega] at e
     simp [QcC,smallL,List.take_succ_cons] at e
     obtain ⟨e,-⟩:=e
     subst e
     have:c=58:=UInt8.toNat_inj.1 h58
     subst this
     decide
   ·split at h
    ·obtain ⟨n',v',he⟩:∃ n' v':Nat,scanNumL (c :: r) p=if Qbf ((c :: r).getD n' 0) then .error ⟨2,p⟩ else if 2147483647 < v' then .error ⟨3,p⟩ else .ok (⟨4,p,[],[],v'⟩,p+n'):=⟨_,_,rfl⟩
     rw [he] at h
     split at h
     ·cases h
     ·split at h
      ·cases h
      ·cases h;intro c r e;cases e
    ·split at h
     ·unfold quoteR at h
      cases hq:quoteL r with
      | none=>rw [hq] at h;cases h
      | some y=>rw [hq] at h;cases h;intro c r e;cases e
     ·split at h
      ·rename_i hs
       cases h
       intro c' r' e
       simp [QcC,smallL] at e
       obtain ⟨e,-⟩:=e
       subst e
       exact Qj1 c hs
      ·cases h
theorem QkC (l:List UInt8) (p:Nat) (x:Wd×Nat) (h:nextL l p=.ok x) (hk:¬ x.1.kind=1):Qjj x.1.spelt:=by
 unfold nextL at h
 cases hs:QbS (l.length+1) (l.drop p) p with
 | error f=>rw [hs] at h;cases h
 | ok n=>rw [hs] at h;exact Ql3 l n x h hk
theorem Qhf (l:List UInt8) (p:Nat) (hp:p≤l.length) (x:Wd×Nat) (h:nextL l p=.ok x) :
 x.1.pos≤l.length∧x.2≤l.length∧p≤x.2∧(x.1.kind=0→x.1.spelt=[])∧(x.1.kind≠0→p < x.2):=by
 unfold nextL at h
 cases hs:QbS (l.length+1) (l.drop p) p with
 | error f=>rw [hs] at h;cases h
 | ok n=>
  rw [hs] at h
  have h1:=QdN l _ p n hp hs
  have h2:=Qof l n h1.2 x h
  refine ⟨by omega,h2.2.1,by omega,fun hk=>(h2.2.2.2.1 hk).2,fun hk=>by have:=h2.2.2.2.2 hk;omega⟩
def whichL:List (List UInt8)→List UInt8→Nat
 | [],_=>0
 | s :: r,x=>if s=x then 1 else if whichL r x=0 then 0 else whichL r x+1
def Qag (x:List UInt8):ByteArray:=⟨x.toArray⟩
theorem QfS {x y:List UInt8} (h:Qag x=Qag y):x=y:=by
 have:=congrArg (fun b:ByteArray=>b.data.toList) h
 simpa [Qag] using this
theorem Qf6 (x:List UInt8):∀ (zs:List (List UInt8)) (i:Nat),Lib.idxFromS (zs.map Qag) (Qag x) i=if whichL zs x=0 then -1 else (i:Int)+whichL zs x - 1
 | [],i=>rfl
 | s :: r,i=>by
  rw [List.map_cons]
  unfold whichL Lib.idxFromS
  by_cases h:s=x
  ·subst h
   simp
  ·have h':¬ Qag s=Qag x:=fun e=>h (QfS e)
   rw [if_neg h,if_neg h',Qf6 x r (i+1)]
   by_cases h0:whichL r x=0
   ·simp [h0]
   ·simp [h0];omega
theorem Qkx (zs:List (List UInt8)) (x:List UInt8):Lib.idxOfS (zs.map Qag) (Qag x)+1=whichL zs x:=by
 unfold Lib.idxOfS
 rw [Qf6]
 split <;> omega
theorem Qix (zs:List (List UInt8)) (x:List UInt8):Lib.containsS (zs.map Qag) (Qag x)=decide (0 < whichL zs x):=by
 unfold Lib.containsS
 have:=Qkx zs x
 by_cases h:0 < whichL zs x
 ·simp [h];omega
 ·simp [h];omega
theorem QbM (zs:List (List UInt8)) (x:List UInt8):whichL zs x≤zs.length:=by
 induction zs with
 | nil=>simp [whichL]
 | cons s r ih=>
  unfold whichL
  split
  ·simp
  ·split <;> simp <;> omega
abbrev PS:=Wd×Nat
def mayL (l:List UInt8) (zs:List (List UInt8)) (s:PS):Except Flt (Nat×PS):=
 if whichL zs s.1.spelt=0 then .ok (0,s) else
 match nextL l s.2 with
 | .error f=>.error f
 | .ok s'=>.ok (whichL zs s.1.spelt,s')
def passL (l:List UInt8) (zs:List (List UInt8)) (s:PS):Except Flt (Nat×PS):=
 if whichL zs s.1.spelt=0 then .error ⟨4,s.1.pos⟩ else
 match nextL l s.2 with
 | .error f=>.error f
 | .ok s'=>.ok (whichL zs s.1.spelt,s')
def stringL (l:List UInt8) (chk:List UInt8→Nat) (s:PS):Except Flt (List UInt8×PS):=
 if s.1.kind=5 then
  if chk s.1.said=0 then
   match nextL l s.2 with
   | .error f=>.error f
   | .ok s'=>.ok (s.1.said,s')
  else .error ⟨chk s.1.said,s.1.pos⟩
 else .error ⟨4,s.1.pos⟩
def mu (n:Nat) (s:PS):Nat:=2*(n - s.2)+(if s.1.kind=0 then 0 else 1)
theorem Qem {l:List UInt8} {s y:PS} (hp:s.2≤l.length) (hk:¬ s.1.kind=0) (h:nextL l s.2=.ok y):mu l.length y < mu l.length s:=by
 obtain ⟨h1,h2,h3,h4,h5⟩:=Qhf l s.2 hp y h
 unfold mu
 rw [if_neg hk]
 by_cases h0:y.1.kind=0
 ·rw [if_pos h0];omega
 ·have:=h5 h0
  rw [if_neg h0];omega
theorem Qd0 (zs:List (List UInt8)) (h:∀ z∈zs,z≠[]):whichL zs []=0:=by
 induction zs with
 | nil=>rfl
 | cons a r ih=>
  unfold whichL
  rw [if_neg (h a (by simp)),if_pos (ih fun z hz=>h z (by simp [hz]))]
theorem Qg7 {l:List UInt8} {zs:List (List UInt8)} {s:PS} {y:Nat×PS} (hp:s.2≤l.length) (he:s.1.kind=0→s.1.spelt=[]) (hz:∀ z∈zs,z≠[]) (h:passL l zs s=.ok y):mu l.length y.2 < mu l.length s∧y.1=whichL zs s.1.spelt∧¬ y.1=0:=by
 unfold passL at h
 split at h
 ·cases h
 ·rename_i h0
  have hk:¬ s.1.kind=0:=fun e=>h0 (by rw [he e];exact Qd0 zs hz)
  cases hn:nextL l s.2 with
  | error f=>rw [hn] at h;cases h
  | ok s'=>rw [hn] at h;cases h;exact ⟨Qem hp hk hn,rfl,h0⟩
theorem QhK {l:List UInt8} {zs:List (List UInt8)} {s:PS} {y:Nat×PS} (hp:s.2≤l.length) (he:s.1.kind=0→s.1.spelt=[]) (hz:∀ z∈zs,z≠[]) (h:mayL l zs s=.ok y):mu l.length y.2≤mu l.length s∧(¬ y.1=0→mu l.length y.2 < mu l.length s)∧y.1=whichL zs s.1.spelt∧(y.1=0→y.2=s):=by
 unfold mayL at h
 split at h
 ·rename_i h0
  cases h
  exact ⟨Nat.le_refl _,fun h=>absurd rfl h,h0.symm,fun _=>rfl⟩
 ·rename_i h0
  have hk:¬ s.1.kind=0:=fun e=>h0 (by rw [he e];exact Qd0 zs hz)
  cases hn:nextL l s.2 with
  | error f=>rw [hn] at h;cases h
  | ok s'=>
   rw [hn] at h;cases h
   exact ⟨Nat.le_of_lt (Qem hp hk hn),fun _=>Qem hp hk hn,rfl,fun e=>absurd e h0⟩
theorem QdV {l:List UInt8} {chk:List UInt8→Nat} {s:PS} {y:List UInt8×PS} (hp:s.2≤l.length) (h:stringL l chk s=.ok y):mu l.length y.2 < mu l.length s∧y.1=s.1.said:=by
 unfold stringL at h
 split at h
 ·rename_i hk
  split at h
  ·cases hn:nextL l s.2 with
   | error f=>rw [hn] at h;cases h
   | ok s'=>rw [hn] at h;cases h;exact ⟨Qem hp (by omega) hn,rfl⟩
  ·cases h
 ·cases h
def moreL (l:List UInt8) (chk:List UInt8→Nat):Nat→List (List UInt8)→PS→Except Flt (List (List UInt8)×PS)
 | 0,acc,s=>.ok (acc,s)
 | f+1,acc,s=>
  match passL l [[44],[93]] s with
  | .error e=>.error e
  | .ok y=>
   if y.1=1 then
    match stringL l chk y.2 with
    | .error e=>.error e
    | .ok z=>moreL l chk f (acc++[z.1]) z.2
   else .ok (acc,y.2)
def stringsL (l:List UInt8) (chk:List UInt8→Nat) (fuel:Nat) (s:PS):Except Flt (List (List UInt8)×PS):=
 match mayL l [[91]] s with
 | .error e=>.error e
 | .ok y=>
  match stringL l chk y.2 with
  | .error e=>.error e
  | .ok z=>if y.1=0 then .ok ([z.1],z.2) else moreL l chk fuel [z.1] z.2
def QfD:List UInt8:=[107,101,101,112]
def Qb1:List UInt8:=[100,105,115,99,97,114,100]
def Qfl:List UInt8:=[115,116,111,112]
def QaK:List UInt8:=[102,105,108,101,105,110,116,111]
def Qbl:List UInt8:=[114,101,100,105,114,101,99,116]
def QaZ:List UInt8:=[114,101,106,101,99,116]
def Qg1:List UInt8:=[115,101,116]
def kIf:List UInt8:=[105,102]
def Qfk:List UInt8:=[116,114,117,101]
def QdA:List UInt8:=[102,97,108,115,101]
def kNot:List UInt8:=[110,111,116]
def QcG:List UInt8:=[97,108,108,111,102]
def QcF:List UInt8:=[97,110,121,111,102]
def QbA:List UInt8:=[104,101,97,100,101,114]
def QaH:List UInt8:=[101,110,118,101,108,111,112,101]
def Qbu:List UInt8:=[115,116,114,105,110,103]
def QbJ:List UInt8:=[101,120,105,115,116,115]
def Qd4:List UInt8:=[115,105,122,101]
def Qdh:List UInt8:=[101,108,115,105,102]
def Qfq:List UInt8:=[101,108,115,101]
def Qbw:List UInt8:=[114,101,113,117,105,114,101]
def Qbc:List UInt8:=[118,97,114,105,97,98,108,101,115]
def Qh0:List UInt8:=[102,114,111,109]
def kTo:List UInt8:=[116,111]
def Qdi:List UInt8:=[58,108,111,119,101,114]
def Qdg:List UInt8:=[58,117,112,112,101,114]
def Qcn:List UInt8:=[58,108,101,110,103,116,104]
def tIs:List UInt8:=[58,105,115]
def Qas:List UInt8:=[58,99,111,110,116,97,105,110,115]
def Qax:List UInt8:=[58,109,97,116,99,104,101,115]
def QfB:List UInt8:=[58,111,118,101,114]
def Qdx:List UInt8:=[58,117,110,100,101,114]
def Qaz:List UInt8:=[58,99,111,109,112,97,114,97,116,111,114]
def Qb3:List UInt8:=[105,59,111,99,116,101,116]
def Qdp:List UInt8:=[105,59,97,115,99,105,105,45,99,97,115,101,109,97,112]
def cmdNames:List (List UInt8):=[QfD,Qb1,Qfl,QaK,Qbl,QaZ,Qg1,kIf]
def testNames:List (List UInt8):=[Qfk,QdA,kNot,QcG,QcF,QbA,QaH,Qbu,QbJ,Qd4]
structure QdG where
 kind:Nat
 pos:Nat
 tag:Nat
 octet:Bool
 fr:List (List UInt8)
 keys:List (List UInt8)
 num:Nat
def Qcy:Nat→Type
 | 0=>Unit
 | n+1=>QdG×List (Qcy n)
structure QgD where
 kind:Nat
 pos:Nat
 tag:Nat
 arg:List UInt8
 var:List UInt8
 els:Bool
def QcX:Nat→Type
 | 0=>Unit
 | n+1=>QgD×List (Qcy n×List (QcX n))×List (QcX n)
def Qcl (req:List (List UInt8)) (sp:List UInt8):Bool:=
 if sp=QaK∨sp=QaZ∨sp=QaH then decide (0 < whichL req sp)
 else if sp=Qg1∨sp=Qbu then decide (0 < whichL req Qbc)
 else true
def QaQ {α β:Type} (r:Except Flt (α×PS)) (k:α→PS→Except Flt (β×PS)):Except Flt (β×PS):=
 match r with
 | .error f=>.error f
 | .ok y=>k y.1 y.2
def Qce {β:Type} (l:List UInt8) (s:PS) (k:PS→Except Flt (β×PS)):Except Flt (β×PS):=
 match nextL l s.2 with
 | .error f=>.error f
 | .ok y=>k y
theorem Qae {α β:Type} {r:Except Flt (α×PS)} {k:α→PS→Except Flt (β×PS)} {f:Flt} (h:r=.error f):QaQ r k=.error f:=by subst h;rfl
theorem Qac {α β:Type} {r:Except Flt (α×PS)} {k:α→PS→Except Flt (β×PS)} {y:α×PS} (h:r=.ok y):QaQ r k=k y.1 y.2:=by subst h;rfl
theorem Qa9 {β:Type} {l:List UInt8} {s:PS} {k:PS→Except Flt (β×PS)} {f:Flt} (h:nextL l s.2=.error f):Qce l s k=.error f:=by unfold Qce;rw [h]
theorem QaX {β:Type} {l:List UInt8} {s y:PS} {k:PS→Except Flt (β×PS)} (h:nextL l s.2=.ok y):Qce l s k=k y:=by unfold Qce;rw [h]
def QdJ (l:List UInt8):Nat→Nat→Bool→Bool→PS→Except Flt ((Nat×Bool)×PS)
 | 0,tag,oct,_,s=>.ok ((tag,oct),s)
 | f+1,tag,oct,cmp,s=>
  if whichL [tIs,Qas,Qax] s.1.spelt=0 then
   if whichL [Qaz] s.1.spelt=0 then .ok ((max tag 1,oct),s)
   else if cmp then .error ⟨7,s.1.pos⟩
   else Qce l s fun s1=>QaQ (stringL l (fun x=>if 0 < whichL [Qb3,Qdp] x then 0 else 7) s1) fun x s2=>QdJ l f tag (decide (x=Qb3)) true s2
  else if tag=0 then Qce l s fun s1=>QdJ l f (whichL [tIs,Qas,Qax] s.1.spelt) oct cmp s1
  else .error ⟨7,s.1.pos⟩
def QbR (l:List UInt8) (F:Nat) (chk:List UInt8→Nat) (k pos:Nat) (s:PS):Except Flt (QdG×PS):=
 QaQ (QdJ l F 0 false false s) fun o s1=>QaQ (stringsL l chk F s1) fun fr s2=>QaQ (stringsL l (fun _=>0) F s2) fun ks s3=>
  .ok (⟨k,pos,o.1,o.2,fr,ks,0⟩,s3)
def groupMore {α:Type} (l:List UInt8) (sub:PS→Except Flt (α×PS)):Nat→List α→PS→Except Flt (List α×PS)
 | 0,acc,s=>.ok (acc,s)
 | f+1,acc,s=>QaQ (passL l [[44],[41]] s) fun i s1=>
  if i=1 then QaQ (sub s1) fun t s2=>groupMore l sub f (acc++[t]) s2 else .ok (acc,s1)
def QcS {α:Type} (l:List UInt8) (F:Nat) (sub:PS→Except Flt (α×PS)) (s:PS):Except Flt (List α×PS):=
 QaQ (passL l [[40]] s) fun _ s1=>QaQ (sub s1) fun t s2=>groupMore l sub F [t] s2
def sizeL (l:List UInt8) (pos:Nat) (s:PS):Except Flt (QdG×PS):=
 QaQ (passL l [QfB,Qdx] s) fun i s1=>
  if s1.1.kind=4 then Qce l s1 fun s2=>.ok (⟨9,pos,i,false,[],[],s1.1.num⟩,s2) else .error ⟨4,s1.1.pos⟩
def testBody {α:Type} (l:List UInt8) (F:Nat) (sub:PS→Except Flt (α×PS)) (k pos:Nat) (s:PS):Except Flt ((QdG×List α)×PS):=
 match k with
 | 0=>.ok ((⟨0,pos,0,false,[],[],0⟩,[]),s)
 | 1=>.ok ((⟨1,pos,0,false,[],[],0⟩,[]),s)
 | 2=>QaQ (sub s) fun t s1=>.ok ((⟨2,pos,0,false,[],[],0⟩,[t]),s1)
 | 3=>QaQ (QcS l F sub s) fun ts s1=>.ok ((⟨3,pos,0,false,[],[],0⟩,ts),s1)
 | 4=>QaQ (QcS l F sub s) fun ts s1=>.ok ((⟨4,pos,0,false,[],[],0⟩,ts),s1)
 | 5=>QaQ (QbR l F (fun _=>0) 5 pos s) fun x s1=>.ok ((x,[]),s1)
 | 6=>QaQ (QbR l F (fun x=>if 0 < whichL [Qh0,kTo] (smallL x) then 0 else 7) 6 pos s) fun x s1=>.ok ((x,[]),s1)
 | 7=>QaQ (QbR l F (fun _=>0) 7 pos s) fun x s1=>.ok ((x,[]),s1)
 | 8=>QaQ (stringsL l (fun _=>0) F s) fun xs s1=>.ok ((⟨8,pos,0,false,xs,[],0⟩,[]),s1)
 | _=>QaQ (sizeL l pos s) fun x s1=>.ok ((x,[]),s1)
def Qbx (l:List UInt8) (req:List (List UInt8)) (F:Nat):(n:Nat)→PS→Except Flt (Qcy n×PS)
 | 0,s=>if s.1.kind=1 then .error ⟨5,s.1.pos⟩ else .error ⟨4,s.1.pos⟩
 | n+1,s=>
  if whichL testNames s.1.spelt=0 then .error ⟨4,s.1.pos⟩
  else if Qcl req s.1.spelt then Qce l s fun s1=>testBody l F (Qbx l req F n) (whichL testNames s.1.spelt - 1) s.1.pos s1
  else .error ⟨6,s.1.pos⟩
def blockMore {α:Type} (l:List UInt8) (sub:PS→Except Flt (α×PS)):Nat→List α→PS→Except Flt (List α×PS)
 | 0,acc,s=>.ok (acc,s)
 | f+1,acc,s=>QaQ (mayL l [[125]] s) fun i s1=>
  if i=0 then QaQ (sub s1) fun c s2=>blockMore l sub f (acc++[c]) s2 else .ok (acc,s1)
def blockL {α:Type} (l:List UInt8) (F:Nat) (sub:PS→Except Flt (α×PS)) (s:PS):Except Flt (List α×PS):=
 QaQ (passL l [[123]] s) fun _ s1=>blockMore l sub F [] s1
def armL {α β:Type} (l:List UInt8) (F:Nat) (tst:PS→Except Flt (β×PS)) (sub:PS→Except Flt (α×PS)) (s:PS):Except Flt ((β×List α)×PS):=
 QaQ (tst s) fun t s1=>QaQ (blockL l F sub s1) fun cs s2=>.ok ((t,cs),s2)
def armsMore {α β:Type} (l:List UInt8) (F:Nat) (tst:PS→Except Flt (β×PS)) (sub:PS→Except Flt (α×PS)):Nat→List (β×List α)→PS→Except Flt (List (β×List α)×PS)
 | 0,acc,s=>.ok (acc,s)
 | f+1,acc,s=>QaQ (mayL l [Qdh] s) fun i s1=>
  if i=0 then .ok (acc,s1) else QaQ (armL l F tst sub s1) fun a s2=>armsMore l F tst sub f (acc++[a]) s2
def semi {α:Type} (l:List UInt8) (s:PS) (a:α):Except Flt (α×PS):=QaQ (passL l [[59]] s) fun _ s1=>.ok (a,s1)
def cmdBody {α β:Type} (l:List UInt8) (F:Nat) (tst:PS→Except Flt (β×PS)) (sub:PS→Except Flt (α×PS)) (k pos:Nat) (s:PS):Except Flt ((QgD×List (β×List α)×List α)×PS):=
 match k with
 | 0=>semi l s (⟨0,pos,0,[],[],false⟩,[],[])
 | 1=>semi l s (⟨1,pos,0,[],[],false⟩,[],[])
 | 2=>semi l s (⟨2,pos,0,[],[],false⟩,[],[])
 | 3=>QaQ (stringL l (fun _=>0) s) fun x s1=>semi l s1 (⟨3,pos,0,x,[],false⟩,[],[])
 | 4=>QaQ (stringL l (fun _=>0) s) fun x s1=>semi l s1 (⟨4,pos,0,x,[],false⟩,[],[])
 | 5=>QaQ (stringL l (fun _=>0) s) fun x s1=>semi l s1 (⟨5,pos,0,x,[],false⟩,[],[])
 | 6=>QaQ (mayL l [Qdi,Qdg,Qcn] s) fun tag s1=>QaQ (stringL l (fun x=>if isNameL x then 0 else 7) s1) fun v s2=>
  QaQ (stringL l (fun _=>0) s2) fun x s3=>semi l s3 (⟨6,pos,tag,x,smallL v,false⟩,[],[])
 | _=>QaQ (armL l F tst sub s) fun a s1=>QaQ (armsMore l F tst sub F [a] s1) fun arms s2=>QaQ (mayL l [Qfq] s2) fun i s3=>
  if i=0 then .ok ((⟨7,pos,0,[],[],false⟩,arms,[]),s3)
  else QaQ (blockL l F sub s3) fun cs s4=>.ok ((⟨7,pos,0,[],[],true⟩,arms,cs),s4)
def cmdL (l:List UInt8) (req:List (List UInt8)) (F:Nat):(n:Nat)→PS→Except Flt (QcX n×PS)
 | 0,s=>if s.1.kind=1 then .error ⟨5,s.1.pos⟩ else .error ⟨4,s.1.pos⟩
 | n+1,s=>
  if whichL cmdNames s.1.spelt=0 then .error ⟨4,s.1.pos⟩
  else if Qcl req s.1.spelt then Qce l s fun s1=>cmdBody l F (Qbx l req F n) (cmdL l req F n) (whichL cmdNames s.1.spelt - 1) s.1.pos s1
  else .error ⟨6,s.1.pos⟩
def QbQ (req:List (List UInt8)) (x:List UInt8):List (List UInt8):=if 0 < whichL req x then req else req++[x]
def reqMore (l:List UInt8) (F:Nat):Nat→List (List UInt8)→PS→Except Flt (List (List UInt8)×PS)
 | 0,req,s=>.ok (req,s)
 | f+1,req,s=>QaQ (mayL l [Qbw] s) fun i s1=>
  if i=0 then .ok (req,s1)
  else QaQ (stringsL l (fun x=>if 0 < whichL [QaH,QaK,QaZ,Qbc] x then 0 else 6) F s1) fun xs s2=>
   QaQ (passL l [[59]] s2) fun _ s3=>reqMore l F f (xs.foldl QbQ req) s3
def cmdsMore {α:Type} (sub:PS→Except Flt (α×PS)):Nat→List α→PS→Except Flt (List α)
 | 0,acc,_=>.ok acc
 | f+1,acc,s=>if s.1.kind=0 then .ok acc else
  match sub s with
  | .error e=>.error e
  | .ok y=>cmdsMore sub f (acc++[y.1]) y.2
def parseL (l:List UInt8):Except Flt (List (List UInt8)×List (QcX 7)):=
 let F:=2*l.length+10
 match nextL l 0 with
 | .error f=>.error f
 | .ok s=>
  match reqMore l F F [] s with
  | .error f=>.error f
  | .ok y=>
   match cmdsMore (cmdL l y.1 F 7) F [] y.2 with
   | .error f=>.error f
   | .ok cs=>.ok (y.1,cs)
def Gd (l:List UInt8) (s:PS):Prop:=s.2≤l.length∧(s.1.kind=0→s.1.spelt=[])
def Dn {α:Type} (c:Nat) (l:List UInt8) (r:Except Flt (α×PS)) (s:PS):Prop:=∀ y,r=.ok y→Gd l y.2∧mu l.length y.2+c≤mu l.length s
theorem Dn.err {α:Type} {c:Nat} {l:List UInt8} {f:Flt} {s:PS}:Dn c l (.error f:Except Flt (α×PS)) s:=fun y h=>by cases h
theorem Dn.ok {α:Type} {l:List UInt8} {a:α} {s:PS} (h:Gd l s):Dn 0 l (.ok (a,s):Except Flt (α×PS)) s:=fun y e=>by cases e;exact ⟨h,Nat.le_refl _⟩
theorem Dn.weak {α:Type} {c c':Nat} {l:List UInt8} {r:Except Flt (α×PS)} {s:PS} (h:Dn c l r s) (hc:c'≤c):Dn c' l r s:=fun y e=>⟨(h y e).1,by have:=(h y e).2;omega⟩
theorem Dn.andThen {α β:Type} {c c':Nat} {l:List UInt8} {r:Except Flt (α×PS)} {k:α→PS→Except Flt (β×PS)} {s:PS} (h:Dn c l r s) (hk:∀ a s1,Gd l s1→Dn c' l (k a s1) s1):Dn (c+c') l (QaQ r k) s:=fun y e=>by
 cases hr:r with
 | error f=>rw [Qae hr] at e;cases e
 | ok z=>
  rw [Qac hr] at e
  obtain ⟨h1,h2⟩:=h z hr
  obtain ⟨h3,h4⟩:=hk z.1 z.2 h1 y e
  exact ⟨h3,by omega⟩
theorem Qkk {l:List UInt8} {s y:PS} (h:Gd l s) (hn:nextL l s.2=.ok y):Gd l y:=by
 obtain ⟨h1,h2,h3,h4,h5⟩:=Qhf l s.2 h.1 y hn
 exact ⟨h2,h4⟩
theorem Dn.next {β:Type} {c:Nat} {l:List UInt8} {k:PS→Except Flt (β×PS)} {s:PS} (h:Gd l s) (hz:¬ s.1.kind=0) (hk:∀ s1,Gd l s1→Dn c l (k s1) s1):Dn (c+1) l (Qce l s k) s:=fun y e=>by
 cases hr:nextL l s.2 with
 | error f=>rw [Qa9 hr] at e;cases e
 | ok z=>
  rw [QaX hr] at e
  have h1:=Qem h.1 hz hr
  obtain ⟨h3,h4⟩:=hk z (Qkk h hr) y e
  exact ⟨h3,by omega⟩
theorem Qfj {l:List UInt8} {zs:List (List UInt8)} {s:PS} (h:Gd l s) (hz:∀ z∈zs,z≠[]):Dn 1 l (passL l zs s) s:=fun y e=>by
 refine ⟨?_,(Qg7 h.1 h.2 hz e).1⟩
 unfold passL at e
 split at e
 ·cases e
 ·cases hn:nextL l s.2 with
  | error f=>rw [hn] at e;cases e
  | ok s'=>rw [hn] at e;cases e;exact Qkk h hn
theorem Qjk {l:List UInt8} {zs:List (List UInt8)} {s:PS} (h:Gd l s) (hz:∀ z∈zs,z≠[]):Dn 0 l (mayL l zs s) s:=fun y e=>by
 refine ⟨?_,(QhK h.1 h.2 hz e).1⟩
 unfold mayL at e
 split at e
 ·cases e;exact h
 ·cases hn:nextL l s.2 with
  | error f=>rw [hn] at e;cases e
  | ok s'=>rw [hn] at e;cases e;exact Qkk h hn
theorem Qct {l:List UInt8} {chk:List UInt8→Nat} {s:PS} (h:Gd l s):Dn 1 l (stringL l chk s) s:=fun y e=>by
 refine ⟨?_,(QdV h.1 e).1⟩
 unfold stringL at e
 split at e
 ·split at e
  ·cases hn:nextL l s.2 with
   | error f=>rw [hn] at e;cases e
   | ok s'=>rw [hn] at e;cases e;exact Qkk h hn
  ·cases e
 ·cases e
theorem Qqj {l:List UInt8} {chk:List UInt8→Nat}:∀ (f:Nat) (acc:List (List UInt8)) (s:PS),Gd l s→Dn 0 l (moreL l chk f acc s) s
 | 0,acc,s,h=>Dn.ok h
 | f+1,acc,s,h=>fun y e=>by
  rw [moreL] at e
  cases hp:passL l [[44],[93]] s with
  | error g=>rw [hp] at e;cases e
  | ok z=>
   rw [hp] at e
   obtain ⟨h1,h2⟩:=Qfj (zs:=[[44],[93]]) h (by decide) z hp
   dsimp only at e
   split at e
   ·cases hs:stringL l chk z.2 with
    | error g=>rw [hs] at e;cases e
    | ok x=>
     rw [hs] at e
     obtain ⟨h3,h4⟩:=Qct h1 x hs
     obtain ⟨h5,h6⟩:=Qqj f _ x.2 h3 y e
     exact ⟨h5,by omega⟩
   ·cases e;exact ⟨h1,by dsimp only;omega⟩
theorem Qgs {l:List UInt8} {chk:List UInt8→Nat} {F:Nat} {s:PS} (h:Gd l s):Dn 1 l (stringsL l chk F s) s:=fun y e=>by
 unfold stringsL at e
 cases hm:mayL l [[91]] s with
 | error g=>rw [hm] at e;cases e
 | ok z=>
  rw [hm] at e
  obtain ⟨h1,h2⟩:=Qjk (zs:=[[91]]) h (by decide) z hm
  dsimp only at e
  cases hs:stringL l chk z.2 with
  | error g=>rw [hs] at e;cases e
  | ok x=>
   rw [hs] at e
   obtain ⟨h3,h4⟩:=Qct h1 x hs
   dsimp only at e
   split at e
   ·cases e;exact ⟨h3,by dsimp only;omega⟩
   ·obtain ⟨h5,h6⟩:=Qqj F _ x.2 h3 y e
    exact ⟨h5,by omega⟩
theorem Qfd {l:List UInt8} {zs:List (List UInt8)} {s:PS} (h:Gd l s) (hz:∀ z∈zs,z≠[]) (h0:¬ whichL zs s.1.spelt=0):¬ s.1.kind=0:=fun e=>h0 (by rw [h.2 e];exact Qd0 zs hz)
theorem Qqn {l:List UInt8}:∀ (f tag:Nat) (oct cmp:Bool) (s:PS),Gd l s→Dn 0 l (QdJ l f tag oct cmp s) s
 | 0,tag,oct,cmp,s,h=>Dn.ok h
 | f+1,tag,oct,cmp,s,h=>by
  rw [QdJ]
  by_cases h1:whichL [tIs,Qas,Qax] s.1.spelt=0
  ·rw [if_pos h1]
   by_cases h2:whichL [Qaz] s.1.spelt=0
   ·rw [if_pos h2];exact Dn.ok h
   ·rw [if_neg h2]
    cases cmp
    ·rw [if_neg (by decide)]
     refine (Dn.next (c:=0) h (Qfd (zs:=[Qaz]) h (by decide) h2) fun s1 g1=>?_).weak (by omega)
     exact ((Qct g1).andThen (c':=0) fun x s2 g2=>Qqn f _ _ _ s2 g2).weak (by omega)
    ·rw [if_pos rfl];exact Dn.err
  ·rw [if_neg h1]
   by_cases ht:tag=0
   ·rw [if_pos ht]
    exact (Dn.next (c:=0) h (Qfd (zs:=[tIs,Qas,Qax]) h (by decide) h1) fun s1 g1=>Qqn f _ _ _ s1 g1).weak (by omega)
   ·rw [if_neg ht];exact Dn.err
theorem Qj4 {l:List UInt8} {F:Nat} {chk:List UInt8→Nat} {k pos:Nat} {s:PS} (h:Gd l s):Dn 0 l (QbR l F chk k pos s) s:=by
 unfold QbR
 exact ((Qqn F 0 false false s h).andThen (c':=1) fun o s1 g1=>((Qgs g1).andThen (c':=0) fun fr s2 g2=>((Qgs g2).andThen (c':=0) fun ks s3 g3=>Dn.ok g3).weak (by omega)).weak (by omega)).weak (by omega)
theorem QgQ {α:Type} {l:List UInt8} {sub:PS→Except Flt (α×PS)} (hs:∀ s,Gd l s→Dn 1 l (sub s) s):∀ (f:Nat) (acc:List α) (s:PS),Gd l s→Dn 0 l (groupMore l sub f acc s) s
 | 0,acc,s,h=>Dn.ok h
 | f+1,acc,s,h=>by
  rw [groupMore]
  refine ((Qfj h (by decide)).andThen (c':=0) fun i s1 g1=>?_).weak (by omega)
  split
  ·exact ((hs s1 g1).andThen (c':=0) fun t s2 g2=>QgQ hs f _ s2 g2).weak (by omega)
  ·exact Dn.ok g1
theorem Qop {α:Type} {l:List UInt8} {F:Nat} {sub:PS→Except Flt (α×PS)} (hs:∀ s,Gd l s→Dn 1 l (sub s) s) {s:PS} (h:Gd l s):Dn 0 l (QcS l F sub s) s:=by
 unfold QcS
 exact ((Qfj h (by decide)).andThen (c':=0) fun _ s1 g1=>((hs s1 g1).andThen (c':=0) fun t s2 g2=>QgQ hs F _ s2 g2).weak (by omega)).weak (by omega)
theorem QtQ {l:List UInt8} {pos:Nat} {s:PS} (h:Gd l s):Dn 0 l (sizeL l pos s) s:=by
 unfold sizeL
 refine ((Qfj h (by decide)).andThen (c':=0) fun i s1 g1=>?_).weak (by omega)
 split
 ·rename_i hk
  exact (Dn.next (c:=0) g1 (by omega) fun s2 g2=>Dn.ok g2).weak (by omega)
 ·exact Dn.err
theorem Qng {α:Type} {l:List UInt8} {F:Nat} {sub:PS→Except Flt (α×PS)} (hs:∀ s,Gd l s→Dn 1 l (sub s) s) (k pos:Nat) {s:PS} (h:Gd l s):Dn 0 l (testBody l F sub k pos s) s:=by
 unfold testBody
 split
 ·exact Dn.ok h
 ·exact Dn.ok h
 ·exact ((hs s h).andThen (c':=0) fun _ _ g=>Dn.ok g).weak (by omega)
 ·exact ((Qop hs h).andThen (c':=0) fun _ _ g=>Dn.ok g).weak (by omega)
 ·exact ((Qop hs h).andThen (c':=0) fun _ _ g=>Dn.ok g).weak (by omega)
 ·exact ((Qj4 h).andThen (c':=0) fun _ _ g=>Dn.ok g).weak (by omega)
 ·exact ((Qj4 h).andThen (c':=0) fun _ _ g=>Dn.ok g).weak (by omega)
 ·exact ((Qj4 h).andThen (c':=0) fun _ _ g=>Dn.ok g).weak (by omega)
 ·exact ((Qgs h).andThen (c':=0) fun _ _ g=>Dn.ok g).weak (by omega)
 ·exact ((QtQ h).andThen (c':=0) fun _ _ g=>Dn.ok g).weak (by omega)
theorem QjK {l:List UInt8} {req:List (List UInt8)} {F:Nat}:∀ (n:Nat) (s:PS),Gd l s→Dn 1 l (Qbx l req F n s) s
 | 0,s,h=>by
  rw [Qbx]
  split <;> exact Dn.err
 | n+1,s,h=>by
  rw [Qbx]
  by_cases h0:whichL testNames s.1.spelt=0
  ·rw [if_pos h0];exact Dn.err
  ·rw [if_neg h0]
   cases hu:Qcl req s.1.spelt
   ·rw [if_neg (by decide)];exact Dn.err
   ·rw [if_pos rfl]
    exact (Dn.next (c:=0) h (Qfd (zs:=testNames) h (by decide) h0) fun s1 g1=>Qng (fun s g=>QjK n s g) _ _ g1).weak (by omega)
theorem QgE {α:Type} {l:List UInt8} {sub:PS→Except Flt (α×PS)} (hs:∀ s,Gd l s→Dn 1 l (sub s) s):∀ (f:Nat) (acc:List α) (s:PS),Gd l s→Dn 0 l (blockMore l sub f acc s) s
 | 0,acc,s,h=>Dn.ok h
 | f+1,acc,s,h=>by
  rw [blockMore]
  refine ((Qjk h (by decide)).andThen (c':=0) fun i s1 g1=>?_).weak (by omega)
  split
  ·exact ((hs s1 g1).andThen (c':=0) fun t s2 g2=>QgE hs f _ s2 g2).weak (by omega)
  ·exact Dn.ok g1
theorem Qn2 {α:Type} {l:List UInt8} {F:Nat} {sub:PS→Except Flt (α×PS)} (hs:∀ s,Gd l s→Dn 1 l (sub s) s) {s:PS} (h:Gd l s):Dn 1 l (blockL l F sub s) s:=by
 unfold blockL
 exact (Qfj h (by decide)).andThen (c':=0) fun _ s1 g1=>QgE hs F _ s1 g1
theorem QqE {α β:Type} {l:List UInt8} {F:Nat} {tst:PS→Except Flt (β×PS)} {sub:PS→Except Flt (α×PS)} (ht:∀ s,Gd l s→Dn 1 l (tst s) s) (hs:∀ s,Gd l s→Dn 1 l (sub s) s) {s:PS} (h:Gd l s):Dn 1 l (armL l F tst sub s) s:=by
 unfold armL
 exact ((ht s h).andThen (c':=0) fun t s1 g1=>((Qn2 hs g1).andThen (c':=0) fun cs s2 g2=>Dn.ok g2).weak (by omega))
theorem Qrg {α β:Type} {l:List UInt8} {F:Nat} {tst:PS→Except Flt (β×PS)} {sub:PS→Except Flt (α×PS)} (ht:∀ s,Gd l s→Dn 1 l (tst s) s) (hs:∀ s,Gd l s→Dn 1 l (sub s) s):∀ (f:Nat) (acc:List (β×List α)) (s:PS),Gd l s→Dn 0 l (armsMore l F tst sub f acc s) s
 | 0,acc,s,h=>Dn.ok h
 | f+1,acc,s,h=>by
  rw [armsMore]
  refine ((Qjk h (by decide)).andThen (c':=0) fun i s1 g1=>?_).weak (by omega)
  split
  ·exact Dn.ok g1
  ·exact ((QqE ht hs g1).andThen (c':=0) fun a s2 g2=>Qrg ht hs f _ s2 g2).weak (by omega)
theorem Qfz {α:Type} {l:List UInt8} {s:PS} {a:α} (h:Gd l s):Dn 0 l (semi l s a) s:=by
 unfold semi
 exact ((Qfj h (by decide)).andThen (c':=0) fun _ s1 g1=>Dn.ok g1).weak (by omega)
theorem Qpb {α β:Type} {l:List UInt8} {F:Nat} {tst:PS→Except Flt (β×PS)} {sub:PS→Except Flt (α×PS)} (ht:∀ s,Gd l s→Dn 1 l (tst s) s) (hs:∀ s,Gd l s→Dn 1 l (sub s) s) (k pos:Nat) {s:PS} (h:Gd l s):Dn 0 l (cmdBody l F tst sub k pos s) s:=by
 unfold cmdBody
 split
 ·exact Qfz h
 ·exact Qfz h
 ·exact Qfz h
 ·exact ((Qct h).andThen (c':=0) fun _ _ g=>Qfz g).weak (by omega)
 ·exact ((Qct h).andThen (c':=0) fun _ _ g=>Qfz g).weak (by omega)
 ·exact ((Qct h).andThen (c':=0) fun _ _ g=>Qfz g).weak (by omega)
 ·exact ((Qjk h (by decide)).andThen (c':=0) fun _ _ g1=>((Qct g1).andThen (c':=0) fun _ _ g2=>((Qct g2).andThen (c':=0) fun _ _ g3=>Qfz g3).weak (by omega)).weak (by omega)).weak (by omega)
 ·refine ((QqE ht hs h).andThen (c':=0) fun a s1 g1=>((Qrg ht hs F _ s1 g1).andThen (c':=0) fun arms s2 g2=>((Qjk g2 (by decide)).andThen (c':=0) fun i s3 g3=>?_).weak (by omega)).weak (by omega)).weak (by omega)
  split
  ·exact Dn.ok g3
  ·exact ((Qn2 hs g3).andThen (c':=0) fun _ _ g4=>Dn.ok g4).weak (by omega)
theorem Qrq {l:List UInt8} {req:List (List UInt8)} {F:Nat}:∀ (n:Nat) (s:PS),Gd l s→Dn 1 l (cmdL l req F n s) s
 | 0,s,h=>by
  rw [cmdL]
  split <;> exact Dn.err
 | n+1,s,h=>by
  rw [cmdL]
  by_cases h0:whichL cmdNames s.1.spelt=0
  ·rw [if_pos h0];exact Dn.err
  ·rw [if_neg h0]
   cases hu:Qcl req s.1.spelt
   ·rw [if_neg (by decide)];exact Dn.err
   ·rw [if_pos rfl]
    exact (Dn.next (c:=0) h (Qfd (zs:=cmdNames) h (by decide) h0) fun s1 g1=>Qpb (fun s g=>QjK n s g) (fun s g=>Qrq n s g) _ _ g1).weak (by omega)
def skipS (r:List UInt8) (p:Nat):Except Flt Nat:=QbS (r.length+1) r p
theorem Qe4:∀ (f g:Nat) (r:List UInt8) (p:Nat),r.length < f→r.length < g→QbS f r p=QbS g r p
 | 0,_,r,p,h,_=>absurd h (Nat.not_lt_zero _)
 | _+1,0,r,p,_,h=>absurd h (Nat.not_lt_zero _)
 | f+1,g+1,[],p,_,_=>rfl
 | f+1,g+1,c :: r,p,h1,h2=>by
  simp only [List.length_cons] at h1 h2
  simp only [QbS]
  have h3:=QhM c r
  rw [Qe4 f g r (p+1) (by omega) (by omega)]
  rw [Qe4 f g (List.drop (lineLen (c :: r)) (c :: r)) _ (by rw [List.length_drop];simp only [List.length_cons];omega) (by rw [List.length_drop];simp only [List.length_cons];omega)]
  rw [Qe4 f g (List.drop (4+(Lib.index (r.drop 1) [42,47]).toNat) (c :: r)) _ (by rw [List.length_drop];simp only [List.length_cons];omega) (by rw [List.length_drop];simp only [List.length_cons];omega)]
theorem QtM (f:Nat) (r:List UInt8) (p:Nat) (h:r.length < f):QbS f r p=skipS r p:=Qe4 _ _ _ _ h (Nat.lt_succ_self _)
theorem Qq1 (p:Nat):skipS [] p=.ok p:=rfl
theorem Qh6 {c:UInt8} (r:List UInt8) (p:Nat) (h:Qbb c.toNat=true):skipS (c :: r) p=skipS r (p+1):=by
 show QbS (r.length+1+1) (c :: r) p=_
 simp only [QbS]
 rw [if_pos h];rfl
theorem Qo2 {c:UInt8} (r:List UInt8) (p:Nat) (h:Qbb c.toNat=false) (h1:¬ c.toNat=35) (h2:Lib.hasPrefix (c :: r) [47,42]=false):skipS (c :: r) p=.ok p:=by
 show QbS (r.length+1+1) (c :: r) p=_
 simp only [QbS]
 rw [if_neg (by rw [h];decide),if_neg h1,if_neg (by rw [h2];decide)]
theorem Qgm (l:List UInt8) (p:Nat):nextL l p=match skipS (l.drop p) p with
 | .error f=>.error f
 | .ok n=>scanL (l.drop n) n:=by
 unfold nextL
 rw [QtM _ _ _ (by rw [List.length_drop];omega)]
 all_goals (cases skipS (List.drop p l) p <;> rfl)
section
section
variable {A B l u:List UInt8}
end
def zT (x:QdG):QdG:=⟨x.kind,0,x.tag,x.octet,x.fr,x.keys,x.num⟩
def QoT:(n:Nat)→Qcy n→Qcy n
 | 0,x=>x
 | n+1,x=>(zT x.1,x.2.map (QoT n))
def zC (x:QgD):QgD:=⟨x.kind,0,x.tag,x.arg,x.var,x.els⟩
def QmN:(n:Nat)→QcX n→QcX n
 | 0,x=>x
 | n+1,x=>(zC x.1,x.2.1.map (fun a=>(QoT n a.1,a.2.map (QmN n))),x.2.2.map (QmN n))
section
variable {A B l u:List UInt8}
end
end
section
def piecesL:List UInt8→List (Nat×UInt8)
 | []=>[]
 | [c]=>[if c=42 then (2,0) else if c=63 then (1,0) else (0,c)]
 | c :: d :: r=>if c=42 then (2,0) :: piecesL (d :: r) else if c=63 then (1,0) :: piecesL (d :: r) else if c=92 then (0,d) :: piecesL r else (0,c) :: piecesL (d :: r)
def Qex (p:Nat×UInt8) (c:UInt8):Bool:=p.1 == 1 || (p.1 == 0 && p.2 == c)
def QaJ:List (Nat×UInt8)→List UInt8→Bool
 | [],v=>v.isEmpty
 | p :: k,[]=>p.1 == 2 && QaJ k []
 | p :: k,c :: v=>if p.1=2 then QaJ k (c :: v) || QaJ (p :: k) v else Qex p c && QaJ k v
termination_by k v=>k.length+v.length
def QbY:List (Nat×UInt8)→List UInt8→Bool
 | [],[]=>true
 | p :: k,c :: v=>p.1 != 2 && (Qex p c && QbY k v)
 | _,_=>false
theorem Qd3:∀ (k:List (Nat×UInt8)) (v:List UInt8),QbY k v=true→k.length=v.length
 | [],[],_=>rfl
 | [],_ :: _,h=>by simp [QbY] at h
 | _ :: _,[],h=>by simp [QbY] at h
 | p :: k,c :: v,h=>by
  simp only [QbY,Bool.and_eq_true] at h
  simp [Qd3 k v h.2.2]
theorem QiI:∀ (k:List (Nat×UInt8)) (v:List UInt8) (p:Nat×UInt8) (c:UInt8),QbY k v=true→p.1≠2→Qex p c=true→QbY (k++[p]) (v++[c])=true
 | [],[],p,c,_,h1,h2=>by simp [QbY,h1,h2]
 | [],_ :: _,_,_,h,_,_=>by simp [QbY] at h
 | _ :: _,[],_,_,h,_,_=>by simp [QbY] at h
 | p :: k,c :: v,q,d,h,h1,h2=>by
  simp only [QbY,Bool.and_eq_true,List.cons_append] at h ⊢
  exact ⟨h.1,h.2.1,QiI k v q d h.2.2 h1 h2⟩
theorem Qdr:∀ (k:List (Nat×UInt8)) (v:List UInt8) (k':List (Nat×UInt8)) (v':List UInt8),QbY k v=true→QaJ (k++k') (v++v')=QaJ k' v'
 | [],[],_,_,_=>rfl
 | [],_ :: _,_,_,h=>by simp [QbY] at h
 | _ :: _,[],_,_,h=>by simp [QbY] at h
 | p :: k,c :: v,k',v',h=>by
  simp only [QbY,Bool.and_eq_true,bne_iff_ne,ne_eq] at h
  rw [List.cons_append,List.cons_append,QaJ,if_neg h.1,h.2.1,Bool.true_and]
  exact Qdr k v k' v' h.2.2
theorem QhD (x:UInt8) (k:List (Nat×UInt8)) (c:UInt8) (v:List UInt8) (h:QaJ ((2,x) :: k) v=true):QaJ ((2,x) :: k) (c :: v)=true:=by
 rw [QaJ,if_pos rfl,h,Bool.or_true]
theorem Qff (x:UInt8) (k:List (Nat×UInt8)) (u v:List UInt8) (h:QaJ ((2,x) :: k) v=true):QaJ ((2,x) :: k) (u++v)=true:=by
 induction u with
 | nil=>exact h
 | cons c u ih=>exact QhD x k c _ ih
theorem QdE (x:UInt8) (k:List (Nat×UInt8)) (v:List UInt8) (h:QaJ k v=true):QaJ ((2,x) :: k) v=true:=by
 cases v with
 | nil=>rw [QaJ];simp [h]
 | cons c v=>rw [QaJ,if_pos rfl,h,Bool.true_or]
theorem Qgh:∀ (k:List (Nat×UInt8)) (k':List (Nat×UInt8)) (v:List UInt8),(∀ p,p∈k→p.1≠2)→QaJ (k++k') v=true→∃ u v',v=u++v'∧QbY k u=true∧QaJ k' v'=true
 | [],k',v,_,h=>⟨[],v,rfl,rfl,h⟩
 | p :: k,k',[],hk,h=>by
  rw [List.cons_append,QaJ] at h
  simp [hk p (List.mem_cons_self ..)] at h
 | p :: k,k',c :: v,hk,h=>by
  rw [List.cons_append,QaJ,if_neg (hk p (List.mem_cons_self ..)),Bool.and_eq_true] at h
  obtain ⟨u,v',e,a,b⟩:=Qgh k k' v (fun q hq=>hk q (List.mem_cons_of_mem _ hq)) h.2
  exact ⟨c :: u,v',by rw [e];rfl,by simp [QbY,hk p (List.mem_cons_self ..),h.1,a],b⟩
theorem QeZ:∀ (k:List (Nat×UInt8)) (v:List UInt8),QbY k v=true→∀ p,p∈k→p.1≠2
 | [],_,_,p,hp=>by cases hp
 | _ :: _,[],h,_,_=>by simp [QbY] at h
 | q :: k,c :: v,h,p,hp=>by
  simp only [QbY,Bool.and_eq_true,bne_iff_ne,ne_eq] at h
  rcases List.mem_cons.1 hp with rfl | hp
  ·exact h.1
  ·exact QeZ k v h.2.2 p hp
theorem QiL (x:UInt8) (k:List (Nat×UInt8)) (v:List UInt8) (h:QaJ ((2,x) :: k) v=true):∃ u v',v=u++v'∧QaJ k v'=true:=by
 induction v with
 | nil=>rw [QaJ] at h;simp at h;exact ⟨[],[],rfl,h⟩
 | cons c v ih=>
  rw [QaJ,if_pos rfl,Bool.or_eq_true] at h
  rcases h with h | h
  ·exact ⟨[],c :: v,rfl,h⟩
  ·obtain ⟨u,v',e,a⟩:=ih h
   exact ⟨c :: u,v',by rw [e];rfl,a⟩
theorem Qow (x y:UInt8) (k:List (Nat×UInt8)) (u:List UInt8) (k':List (Nat×UInt8)) (v:List UInt8) (h:QbY k u=true):QaJ ((2,x) :: (k++(2,y) :: k')) (u++v)=QaJ ((2,y) :: k') v:=by
 rw [Bool.eq_iff_iff]
 constructor
 ·intro hm
  obtain ⟨a,b,e,hb⟩:=QiL x _ _ hm
  obtain ⟨c,d,e2,hc,hd⟩:=Qgh k _ b (QeZ k u h) hb
  have hl:c.length=u.length:=by rw [← Qd3 _ _ hc,Qd3 _ _ h]
  have:v=((a++c).drop u.length)++d:=by
   have:=congrArg (List.drop u.length) e
   rw [List.drop_left,e2,← List.append_assoc,List.drop_append_of_le_length (by rw [List.length_append];omega)] at this
   exact this
  rw [this]
  exact Qff y k' _ _ hd
 ·intro hm
  exact QdE x _ _ (by rw [Qdr k u _ _ h];exact hm)
theorem QgJ (x:UInt8) (k:List (Nat×UInt8)) (c:UInt8) (v:List UInt8) (h:QaJ k (c :: v)=false):QaJ ((2,x) :: k) (c :: v)=QaJ ((2,x) :: k) v:=by
 rw [QaJ,if_pos rfl,h,Bool.false_or]
theorem Qm6 (x:UInt8) (k:List (Nat×UInt8)) (u:List UInt8) (p:Nat×UInt8) (k':List (Nat×UInt8)) (h:QbY k u=true) (hp:p.1≠2):QaJ ((2,x) :: (k++p :: k')) u=false:=by
 rw [Bool.eq_false_iff]
 intro hm
 obtain ⟨a,b,e,hb⟩:=QiL x _ _ hm
 have hb':QaJ ((k++[p])++k') b=true:=by rw [List.append_assoc];exact hb
 obtain ⟨c,d,e2,hc,_⟩:=Qgh (k++[p]) k' b (fun q hq=>by
  rcases List.mem_append.1 hq with hq | hq
  ·exact QeZ k u h q hq
  ·rw [List.mem_singleton.1 hq];exact hp) hb'
 have h1:=Qd3 _ _ hc
 have h2:=Qd3 _ _ h
 have h3:=congrArg List.length e
 rw [e2] at h3
 simp only [List.length_append,List.length_cons,List.length_nil] at h1 h3
 omega
def Qg0 (k:List (Nat×UInt8)):List UInt8→Nat
 | []=>0
 | c :: v=>if QaJ k (c :: v)=true then 0 else Qg0 k v+1
def placesL:List (Nat×UInt8)→List UInt8→Nat→List Nat
 | [],_,o=>[o]
 | p :: k,v,o=>o :: (if p.1=2 then placesL k (v.drop (Qg0 k v)) (o+Qg0 k v) else placesL k (v.drop 1) (o+1))
theorem Qjl (k:List (Nat×UInt8)) (v:List UInt8) (h:QaJ k v=true):Qg0 k v=0:=by
 cases v with
 | nil=>rfl
 | cons c v=>rw [Qg0,if_pos h]
theorem Qfm:∀ (k:List (Nat×UInt8)) (v:List UInt8) (k':List (Nat×UInt8)) (v':List UInt8) (o:Nat),QbY k v=true→placesL (k++k') (v++v') o=List.range' o k.length++placesL k' v' (o+k.length)
 | [],[],_,_,_,_=>rfl
 | [],_ :: _,_,_,_,h=>by simp [QbY] at h
 | _ :: _,[],_,_,_,h=>by simp [QbY] at h
 | p :: k,c :: v,k',v',o,h=>by
  simp only [QbY,Bool.and_eq_true,bne_iff_ne,ne_eq] at h
  rw [List.cons_append,List.cons_append,placesL,if_neg h.1,List.length_cons,List.range'_succ,List.cons_append]
  rw [List.drop_succ_cons,List.drop_zero,Qfm k v k' v' (o+1) h.2.2,Nat.add_assoc,Nat.add_comm 1]
structure QeX (v:List UInt8) (key:List (Nat×UInt8)) (s e a k:Nat) (pl:List Nat):Prop where
 sk:s≤k
 kl:k≤key.length
 ea:e+(k - s)=a
 al:a≤v.length
 just:QbY ((key.drop s).take (k - s)) ((v.drop e).take (k - s))=true
 pll:pl.length=key.length+1
 last:pl[key.length]?=some v.length
 run:∀ i,i < k - s→pl[s+i]?=some (e+i)
 same:QaJ key v=if s=0 then QaJ (key.drop s) (v.drop e) else QaJ ((2,0) :: key.drop s) (v.drop e)
 places:QaJ key v=true→placesL key v 0=pl.take s++(if s=0 then placesL (key.drop s) (v.drop e) e else placesL (key.drop s) ((v.drop e).drop (Qg0 (key.drop s) (v.drop e))) (e+Qg0 (key.drop s) (v.drop e)))
theorem Qsk (v:List UInt8) (key:List (Nat×UInt8)) (pl:List Nat) (h1:pl.length=key.length+1) (h2:pl[key.length]?=some v.length):QeX v key 0 0 0 0 pl:=
 ⟨Nat.le_refl _,Nat.zero_le _,rfl,Nat.zero_le _,rfl,h1,h2,fun i h=>absurd h (Nat.not_lt_zero _),by simp,fun _=>by simp⟩
variable {v:List UInt8} {key:List (Nat×UInt8)} {s e a k:Nat} {pl:List Nat}
theorem QeX.keyEq (h:QeX v key s e a k pl):key.drop s=(key.drop s).take (k - s)++key.drop k:=by
 have:=(List.take_append_drop (k - s) (key.drop s)).symm
 rwa [List.drop_drop,Nat.add_sub_cancel' h.sk] at this
theorem QeX.valEq (h:QeX v key s e a k pl):v.drop e=(v.drop e).take (k - s)++v.drop a:=by
 have:=(List.take_append_drop (k - s) (v.drop e)).symm
 rwa [List.drop_drop,h.ea] at this
theorem QeX.keyLen (h:QeX v key s e a k pl):((key.drop s).take (k - s)).length=k - s:=by
 rw [List.length_take,List.length_drop]
 have:=h.sk
 have:=h.kl
 omega
theorem QeX.rest (h:QeX v key s e a k pl):QaJ (key.drop s) (v.drop e)=QaJ (key.drop k) (v.drop a):=by
 conv=>lhs;rw [h.keyEq,h.valEq]
 exact Qdr _ _ _ _ h.just
theorem QeX.restPlaces (h:QeX v key s e a k pl):placesL (key.drop s) (v.drop e) e=List.range' e (k - s)++placesL (key.drop k) (v.drop a) a:=by
 conv=>lhs;rw [h.keyEq,h.valEq]
 rw [Qfm _ _ _ _ _ h.just,h.keyLen,h.ea]
theorem QeX.takeEq (h:QeX v key s e a k pl):pl.take s++List.range' e (k - s)=pl.take k:=by
 apply List.ext_getElem?
 intro i
 have h1:=h.sk
 have h2:=h.kl
 have h3:=h.pll
 have h4:(pl.take s).length=s:=by rw [List.length_take];omega
 rw [List.getElem?_append,h4]
 split
 ·next hi=>rw [List.getElem?_take,List.getElem?_take,if_pos hi,if_pos (by omega)]
 ·next hi=>
  rw [List.getElem?_take]
  split
  ·next hk=>
   rw [List.getElem?_range' (by omega)]
   have:=h.run (i - s) (by omega)
   rw [Nat.add_sub_cancel' (by omega)] at this
   rw [this,Nat.one_mul]
  ·next hk=>rw [List.getElem?_eq_none];rw [List.length_range'];omega
theorem QeX.star (h:QeX v key s e a k pl) (hk:k < key.length) (hs:key[k]=(2,0)):QeX v key (k+1) a a (k+1) (pl.set k a):=by
 have hd:key.drop k=(2,0) :: key.drop (k+1):=by rw [List.drop_eq_getElem_cons hk,hs]
 have hsame:QaJ key v=QaJ ((2,0) :: key.drop (k+1)) (v.drop a):=by
  rw [h.same]
  split
  ·rw [h.rest,hd]
  ·conv=>lhs;rw [h.keyEq,h.valEq,hd]
   exact Qow 0 0 _ _ _ _ h.just
 refine ⟨Nat.le_refl _,hk,by simp,h.al,by simp [QbY],by simp [h.pll],?_,fun i hi=>by omega,?_,fun hm=>?_⟩
 ·rw [List.getElem?_set_ne (by omega)];exact h.last
 ·rw [if_neg (Nat.succ_ne_zero _)];exact hsame
 ·rw [if_neg (Nat.succ_ne_zero _),h.places hm]
  have hz:QaJ (key.drop s) (v.drop e)=true:=by rw [h.rest,hd,← hsame,hm]
  rw [Qjl _ _ hz,List.drop_zero,Nat.add_zero,ite_self,h.restPlaces,hd,placesL,if_pos rfl,← List.append_assoc,h.takeEq]
  have:(pl.set k a).take (k+1)=pl.take k++[a]:=by
   have hl:k < (pl.set k a).length:=by rw [List.length_set,h.pll];omega
   rw [List.take_succ_eq_append_getElem hl,List.getElem_set_self,List.take_set_of_le (Nat.le_refl _)]
  rw [this,List.append_assoc]
  rfl
theorem QeX.take (h:QeX v key s e a k pl) (hk:k < key.length) (ha:a < v.length) (hn:key[k].1≠2) (ht:Qex key[k] v[a]=true):QeX v key s e (a+1) (k+1) (pl.set k a):=by
 have h1:=h.sk
 have h2:=h.ea
 have e1:k+1 - s=(k - s)+1:=by omega
 refine ⟨by omega,hk,by omega,ha,?_,by simp [h.pll],?_,fun i hi=>?_,h.same,fun hm=>?_⟩
 ·rw [e1,List.take_succ_eq_append_getElem (by rw [List.length_drop];omega),List.take_succ_eq_append_getElem (by rw [List.length_drop];omega)]
  apply QiI _ _ _ _ h.just
  ·simp only [List.getElem_drop,Nat.add_sub_cancel' h1];exact hn
  ·simp only [List.getElem_drop,Nat.add_sub_cancel' h1,h2];exact ht
 ·rw [List.getElem?_set_ne (by omega)];exact h.last
 ·by_cases hi':i < k - s
  ·rw [List.getElem?_set_ne (by omega)];exact h.run i hi'
  ·have:s+i=k:=by omega
   rw [this,List.getElem?_set_self (by rw [h.pll];omega)]
   congr 1
   omega
 ·rw [List.take_set_of_le h1];exact h.places hm
theorem QeX.no (h:QeX v key s e a k pl) (hc:(k=key.length∧a < v.length)∨∃ (hk:k < key.length),key[k].1≠2∧∀ (ha:a < v.length),Qex key[k] v[a]=false):QaJ (key.drop s) (v.drop e)=false:=by
 rw [h.rest]
 rcases hc with ⟨e1,ha⟩ | ⟨hk,hn,ht⟩
 ·rw [e1,List.drop_length,List.drop_eq_getElem_cons ha,QaJ];rfl
 ·rw [List.drop_eq_getElem_cons hk]
  by_cases ha:a < v.length
  ·rw [List.drop_eq_getElem_cons ha,QaJ,if_neg hn,ht ha,Bool.false_and]
  ·rw [List.drop_eq_nil_of_le (show v.length≤a by omega),QaJ]
   simp [hn]
theorem QeX.longer (h:QeX v key s e a k pl) (hs:s≠0) (ha:a < v.length) (hc:k=key.length∨∃ (hk:k < key.length),key[k].1≠2∧Qex key[k] v[a]=false):QeX v key s (e+1) (e+1) s pl:=by
 have hno:QaJ (key.drop s) (v.drop e)=false:=h.no (by
  rcases hc with e1 | ⟨hk,hn,ht⟩
  ·exact .inl ⟨e1,ha⟩
  ·exact .inr ⟨hk,hn,fun _=>ht⟩)
 have h2:=h.ea
 have hd:v.drop e=v[e] :: v.drop (e+1):=List.drop_eq_getElem_cons (by omega)
 rw [hd] at hno
 refine ⟨Nat.le_refl _,Nat.le_trans h.sk h.kl,by simp,by omega,by simp [QbY],h.pll,h.last,fun i hi=>by omega,?_,fun hm=>?_⟩
 ·rw [h.same,if_neg hs,if_neg hs,hd,QgJ 0 _ _ _ hno]
 ·rw [h.places hm,if_neg hs,if_neg hs,hd,Qg0,hno]
  simp only [Bool.false_eq_true,if_false,List.drop_succ_cons]
  rw [Nat.add_assoc,Nat.add_comm 1]
theorem QeX.yes (h:QeX v key s e a k pl) (ha:¬ a < v.length) (hk:¬ k < key.length):QaJ key v=true∧pl=placesL key v 0:=by
 have h1:a=v.length:=Nat.le_antisymm h.al (Nat.not_lt.1 ha)
 have h2:k=key.length:=Nat.le_antisymm h.kl (Nat.not_lt.1 hk)
 have hz:QaJ (key.drop s) (v.drop e)=true:=by
  rw [h.rest,h1,h2,List.drop_length,List.drop_length,QaJ];rfl
 have hm:QaJ key v=true:=by
  rw [h.same]
  split
  ·exact hz
  ·exact QdE 0 _ _ hz
 refine ⟨hm,?_⟩
 rw [h.places hm,Qjl _ _ hz,List.drop_zero,Nat.add_zero,ite_self,h.restPlaces,← List.append_assoc,h.takeEq,h1,h2,List.drop_length,placesL]
 have hl:key.length < pl.length:=by rw [h.pll];omega
 have e1:pl[key.length]=v.length:=by
  have:=h.last
  rw [List.getElem?_eq_getElem hl] at this
  exact Option.some.inj this
 have:=List.take_succ_eq_append_getElem hl
 rw [e1,List.take_of_length_le (by rw [h.pll];omega)] at this
 exact this
theorem QeX.never (h:QeX v key s e a k pl) (hg:a < v.length∨k < key.length) (h1:∀ (hk:k < key.length),key[k].1≠2) (h2:∀ (hk:k < key.length) (ha:a < v.length),Qex key[k] v[a]=false) (h3:¬ (s≠0∧a < v.length)):QaJ key v=false:=by
 rw [h.same]
 split
 ·apply h.no
  by_cases hk:k < key.length
  ·exact .inr ⟨hk,h1 hk,h2 hk⟩
  ·have:=h.kl
   exact .inl ⟨by omega,by omega⟩
 ·next hs=>
  have ha:¬ a < v.length:=fun x=>h3 ⟨hs,x⟩
  have hk:k < key.length:=by omega
  have hv:=h.valEq
  rw [List.drop_eq_nil_of_le (show v.length≤a by omega),List.append_nil] at hv
  rw [h.keyEq,List.drop_eq_getElem_cons hk,hv]
  exact Qm6 0 _ _ _ _ h.just (h1 hk)
def QgX (v:List UInt8) (key:List (Nat×UInt8)) (s e a:Nat):Nat:=(key.length+v.length - (s+e))*(v.length+1)+(v.length - (a - e))
theorem QeX.muTake (h:QeX v key s e a k pl) (ha:a < v.length):QgX v key s e (a+1) < QgX v key s e a:=by
 have:=h.ea
 unfold QgX
 omega
theorem QqK {x y n p q:Nat} (h:x < y) (hp:p≤n):x*(n+1)+p < y*(n+1)+q:=by
 have:(x+1)*(n+1)≤y*(n+1):=Nat.mul_le_mul_right _ h
 rw [Nat.add_mul] at this
 omega
theorem QeX.muStar (h:QeX v key s e a k pl) (hk:k < key.length):QgX v key (k+1) a a < QgX v key s e a:=by
 have:=h.ea
 have:=h.sk
 have:=h.al
 exact QqK (by omega) (Nat.sub_le _ _)
theorem QeX.muLonger (h:QeX v key s e a k pl) (ha:a < v.length):QgX v key s (e+1) (e+1) < QgX v key s e a:=by
 have:=h.ea
 have:=h.sk
 have:=h.kl
 exact QqK (by omega) (Nat.sub_le _ _)
end
theorem Qq2 (x:UInt8) (k:List (Nat×UInt8)) (v:List UInt8) (h:QaJ ((2,x) :: k) v=true):Qg0 k v≤v.length∧QaJ k (v.drop (Qg0 k v))=true:=by
 induction v with
 | nil=>rw [QaJ] at h;simp at h;exact ⟨Nat.le_refl _,h⟩
 | cons c v ih=>
  rw [Qg0]
  split
  ·next hm=>exact ⟨Nat.zero_le _,hm⟩
  ·next hm=>
   rw [QgJ x k c v (by simpa using hm)] at h
   exact ⟨Nat.succ_le_succ (ih h).1,by rw [List.drop_succ_cons];exact (ih h).2⟩
theorem Qe1:∀ (k:List (Nat×UInt8)) (v:List UInt8) (o:Nat),(placesL k v o).length=k.length+1
 | [],_,_=>rfl
 | p :: k,v,o=>by
  rw [placesL,List.length_cons,List.length_cons]
  split
  ·rw [Qe1 k]
  ·rw [Qe1 k]
theorem Qml (k:List (Nat×UInt8)) (v:List UInt8) (o:Nat):(placesL k v o)[0]?=some o:=by
 cases k <;> rfl
theorem Qic:∀ (k:List (Nat×UInt8)) (v:List UInt8) (o:Nat),QaJ k v=true→∀ i,i < k.length→∃ x y,(placesL k v o)[i]?=some x∧(placesL k v o)[i+1]?=some y∧o≤x∧x≤y∧y≤o+v.length
 | [],_,_,_,i,hi=>absurd hi (Nat.not_lt_zero _)
 | p :: k,v,o,h,i,hi=>by
  have key:∃ n,placesL (p :: k) v o=o :: placesL k (v.drop n) (o+n)∧n≤v.length∧QaJ k (v.drop n)=true:=by
   by_cases hp:p.1=2
   ·obtain ⟨p1,x⟩:=p
    subst hp
    obtain ⟨a,b⟩:=Qq2 x k v h
    exact ⟨Qg0 k v,by rw [placesL,if_pos rfl],a,b⟩
   ·cases v with
    | nil=>rw [QaJ] at h;simp [hp] at h
    | cons c v=>
     rw [QaJ,if_neg hp,Bool.and_eq_true] at h
     exact ⟨1,by rw [placesL,if_neg hp],Nat.succ_le_succ (Nat.zero_le _),h.2⟩
  obtain ⟨n,e,hn,hm⟩:=key
  rw [e]
  have hl:(v.drop n).length=v.length - n:=List.length_drop ..
  cases i with
  | zero=>exact ⟨o,o+n,rfl,by rw [List.getElem?_cons_succ];exact Qml ..,Nat.le_refl _,by omega,by omega⟩
  | succ i=>
   obtain ⟨x,y,a,b,c,d,f⟩:=Qic k (v.drop n) (o+n) hm i (Nat.lt_of_succ_lt_succ hi)
   exact ⟨x,y,by rw [List.getElem?_cons_succ];exact a,by rw [List.getElem?_cons_succ];exact b,by omega,d,by omega⟩
def toldTo (v:List UInt8) (key:List (Nat×UInt8)) (pl:List Nat):Nat→List (List UInt8)
 | 0=>[v]
 | n+1=>toldTo v key pl n++(if (key.getD n (0,0)).1=0 then [] else [(v.drop (pl.getD n 0)).take (pl.getD (n+1) 0 - pl.getD n 0)])
theorem Qfo (v:List UInt8) (key:List (Nat×UInt8)) (pl:List Nat) (n:Nat):∃ r,toldTo v key pl n=v :: r:=by
 induction n with
 | zero=>exact ⟨[],rfl⟩
 | succ n ih=>
  obtain ⟨r,e⟩:=ih
  exact ⟨_,by rw [toldTo,e,List.cons_append]⟩
def QbL (u:List UInt8):List (Nat×UInt8):=u.map (fun c=>(0,c))
theorem QfW (u:List UInt8):QbY (QbL u) u=true:=by
 induction u with
 | nil=>rfl
 | cons c u ih=>simp only [QbL,List.map_cons,QbY] at ih ⊢;rw [ih];simp [Qex]
theorem QnO:∀ (k:List (Nat×UInt8)) (v:List UInt8) (k':List (Nat×UInt8)) (v':List UInt8),QbY k v=true→QbY k' v'=true→QbY (k++k') (v++v')=true
 | [],[],_,_,_,h=>h
 | [],_ :: _,_,_,h,_=>by simp [QbY] at h
 | _ :: _,[],_,_,h,_=>by simp [QbY] at h
 | p :: k,c :: v,k',v',h,h'=>by
  simp only [QbY,Bool.and_eq_true,List.cons_append] at h ⊢
  exact ⟨h.1,h.2.1,QnO k v k' v' h.2.2 h'⟩
theorem Qc2 (u w:List UInt8) (h:∀ c,c∈u→c≠42∧c≠63∧c≠92):piecesL (u++w)=QbL u++piecesL w:=by
 induction u with
 | nil=>rfl
 | cons c u ih=>
  obtain ⟨h1,h2,h3⟩:=h c (List.mem_cons_self ..)
  have hi:=ih (fun d hd=>h d (List.mem_cons_of_mem _ hd))
  rw [List.cons_append]
  have hc:piecesL (c :: (u++w))=(0,c) :: piecesL (u++w):=by
   cases u++w with
   | nil=>simp [piecesL,h1,h2]
   | cons d r=>rw [piecesL,if_neg h1,if_neg h2,if_neg h3]
  rw [hc,hi]
  rfl
theorem Qm4 (w:List UInt8):piecesL (42 :: w)=(2,0) :: piecesL w:=by
 cases w with
 | nil=>rfl
 | cons d r=>rw [piecesL,if_pos rfl]
theorem Qpr (w:List UInt8):piecesL (63 :: w)=(1,0) :: piecesL w:=by
 cases w with
 | nil=>rfl
 | cons d r=>rw [piecesL,if_neg (by decide),if_pos rfl]
theorem Qro (v:List UInt8) (i j:Nat) (hij:i≤j) (h:∀ c,c∈v→c≠42∧c≠63∧c≠92):QaJ (piecesL (v.take i++42 :: v.drop j)) v=true:=by
 rw [Qc2 _ _ (fun c hc=>h c (List.mem_of_mem_take hc)),Qm4]
 have e2:=Qc2 (v.drop j) [] (fun c hc=>h c (List.mem_of_mem_drop hc))
 rw [List.append_nil] at e2
 rw [e2]
 have e1:QaJ (QbL (v.take i)++(2,0) :: (QbL (v.drop j)++piecesL [])) (v.take i++v.drop i)=true:=by
  rw [Qdr _ _ _ _ (QfW _)]
  have e3:v.drop i=(v.drop i).take (j - i)++v.drop j:=by
   have:=(List.take_append_drop (j - i) (v.drop i)).symm
   rwa [List.drop_drop,Nat.add_sub_cancel' hij] at this
  rw [e3]
  refine Qff 0 _ _ _ (QdE 0 _ _ ?_)
  have:=Qdr (QbL (v.drop j)) (v.drop j) (piecesL []) [] (QfW _)
  rw [List.append_nil] at this
  rw [this,piecesL,QaJ]
  rfl
 rwa [List.take_append_drop] at e1
theorem QsJ (v:List UInt8) (i:Nat) (hi:i < v.length) (h:∀ c,c∈v→c≠42∧c≠63∧c≠92):QaJ (piecesL (v.take i++63 :: v.drop (i+1))) v=true∧placesL (piecesL (v.take i++63 :: v.drop (i+1))) v 0=List.range' 0 (v.length+1)∧piecesL (v.take i++63 :: v.drop (i+1))=QbL (v.take i)++(1,0) :: QbL (v.drop (i+1)):=by
 have e2:=Qc2 (v.drop (i+1)) [] (fun c hc=>h c (List.mem_of_mem_drop hc))
 rw [List.append_nil] at e2
 have e0:piecesL (v.take i++63 :: v.drop (i+1))=QbL (v.take i)++(1,0) :: QbL (v.drop (i+1)):=by
  rw [Qc2 _ _ (fun c hc=>h c (List.mem_of_mem_take hc)),Qpr,e2,piecesL,List.append_nil]
 have hj:QbY (QbL (v.take i)++(1,0) :: QbL (v.drop (i+1))) v=true:=by
  have:=QnO (QbL (v.take i)) (v.take i) ((1,0) :: QbL (v.drop (i+1))) (v[i] :: v.drop (i+1)) (QfW _) (by
   simp only [QbY,Bool.and_eq_true]
   exact ⟨by decide,by simp [Qex],QfW _⟩)
  rwa [← List.drop_eq_getElem_cons hi,List.take_append_drop] at this
 have hm:=Qdr _ _ [] [] hj
 have hp:=Qfm _ _ [] [] 0 hj
 rw [List.append_nil,List.append_nil] at hm hp
 refine ⟨by rw [e0,hm,QaJ];rfl,?_,e0⟩
 rw [e0,hp,Qd3 _ _ hj,placesL,Nat.zero_add,List.range'_concat,Nat.one_mul,Nat.zero_add]
structure Msg where
 fr:List UInt8
 to:List UInt8
 size:Int
 hdrs:List (List UInt8×List UInt8)
structure SS where
 vs:Bool
 vals:List UInt8→Option (List UInt8)
 told:List (List UInt8)
 met:List (Int×List UInt8)
 disc:Bool
abbrev FZ:=Int×Int
def QiF (s:SS) (t:List (List UInt8)):SS:=⟨s.vs,s.vals,t,s.met,s.disc⟩
def QrF (s:SS) (l:List (Int×List UInt8)):SS:=⟨s.vs,s.vals,s.told,l,s.disc⟩
def Qr4 (s:SS):SS:=⟨s.vs,s.vals,s.told,s.met,true⟩
def ss0 (v:Bool):SS:=⟨v,fun _=>none,[],[],false⟩
def nmLen (l:List UInt8):Nat:=
 match l with
 | []=>0
 | c :: r=>if QaE c.toNat then 1 else Qa4 (c :: r)
def QiK (s:SS) (name:List UInt8):List UInt8:=
 match name with
 | []=>[]
 | c :: r=>if QaE c.toNat then s.told.getD (c.toNat - 48) [] else (s.vals (smallL (c :: r))).getD []
def QdR (l:List UInt8):Nat:=
 if l.take 2=[36,123]∧((l.drop 2).drop (nmLen (l.drop 2))).take 1=[125] then nmLen (l.drop 2) else 0
def standL (s:SS) (l:List UInt8):List UInt8×Nat:=
 if QdR l=0 then (l.take 1,1) else (QiK s ((l.drop 2).take (QdR l)),3+QdR l)
def expF (s:SS):Nat→List UInt8→List UInt8→List UInt8
 | 0,_,acc=>acc
 | n+1,l,acc=>if l≠[]∧acc.length < 1024 then expF s n (l.drop (standL s l).2) (acc++(standL s l).1.take (1024 - acc.length)) else acc
def expL (s:SS) (l:List UInt8):List UInt8:=if s.vs then expF s (l.length+1) l [] else l
def lookL (oct:Bool) (x:List UInt8):List UInt8:=if oct then x else smallL x
def Quq (k:List UInt8):List UInt8→Bool
 | []=>k.isPrefixOf []
 | c :: v=>k.isPrefixOf (c :: v) || Quq k v
def Qp0 (tag:Int) (oct:Bool) (v k:List UInt8):Bool:=
 if tag=1 then decide (lookL oct v=lookL oct k)
 else if tag=2 then Quq (lookL oct k) (lookL oct v)
 else QaJ (piecesL (lookL oct k)) (lookL oct v)
def wayT (tag:Int) (oct:Bool) (v k:List UInt8):Option (List (List UInt8)):=
 if tag=3 then some (toldTo v (piecesL (lookL oct k)) (placesL (piecesL (lookL oct k)) (lookL oct v) 0) (piecesL (lookL oct k)).length) else none
def QpZ (tag:Int) (oct:Bool) (v:List UInt8):List (List UInt8)→Option (List UInt8)
 | []=>none
 | k :: r=>if Qp0 tag oct v k then some k else QpZ tag oct v r
def Qmg (tag:Int) (oct:Bool) (keys:List (List UInt8)):List (List UInt8)→Option (List UInt8×List UInt8)
 | []=>none
 | v :: r=>match QpZ tag oct v keys with
  | some k=>some (v,k)
  | none=>Qmg tag oct keys r
def askL (s:SS) (tag:Int) (oct:Bool) (vals keys:List (List UInt8)):Bool×SS:=
 match Qmg tag oct (keys.map (expL s)) vals with
 | none=>(false,s)
 | some (v,k)=>(true,match wayT tag oct v k with
  | some t=>QiF s t
  | none=>s)
def Qb6 (h:List UInt8×List UInt8) (n:List UInt8):Bool:=decide (smallL h.1=smallL n)
def fieldsL (M:Msg) (names:List (List UInt8)):List (List UInt8):=names.flatMap fun n=>(M.hdrs.filter (Qb6 · n)).map (·.2)
def QhE (M:Msg) (parts:List (List UInt8)):List (List UInt8):=parts.flatMap fun p=>if smallL p=[102,114,111,109] then [M.fr] else if smallL p=[116,111] then [M.to] else []
def existsL (M:Msg) (names:List (List UInt8)):Bool:=names.all fun n=>M.hdrs.any (Qb6 · n)
def sizeB (M:Msg) (tag n:Int):Bool:=if tag=2 then decide (M.size < n) else decide (n < M.size)
def Qt1 (c:UInt8):Bool:=Qbf c || c == 45 || c == 46
def Qc4 (x:List UInt8):Bool:=!x.isEmpty && (decide (x.length≤16) && (x.head? != some 46 && x.all Qt1))
def Qcc (x:List UInt8):Bool:=decide (3≤x.length) && (decide (x.length≤32) && (decide (x.count 64=1) && (x.all (fun c=>!Qbb c.toNat) && (x.head? != some 64 && x.getLast? != some 64))))
def cutArg (kind:Int) (arg:List UInt8):List UInt8:=if kind=4 then arg.take 48 else arg
def addL (met:List (Int×List UInt8)) (kind:Int) (arg:List UInt8):Int×List (Int×List UInt8):=
 if kind=2∧Qc4 arg=false then (8,met)
 else if kind=3∧Qcc arg=false then (9,met)
 else if (kind,cutArg kind arg)∈met then (0,met)
 else if met≠[]∧(kind=4∨(met.headD (0,[])).1=4) then (10,met)
 else if met.length=6 then (11,met)
 else (0,met++[(kind,cutArg kind arg)])
def Qul (s:SS):List (Int×List UInt8):=if s.met=[]∧s.disc=false then [(1,[])] else s.met
def QsT (c:UInt8):UInt8:=if Qfr c.toNat then c - 97+65 else c
def capL (l:List UInt8):List UInt8:=l.map QsT
def Qm0 (tag:Int) (x:List UInt8):List UInt8:=
 if tag=1 then smallL x else if tag=2 then capL x else if tag=3 then Lib.decDigits x.length else x
def Qup (s:SS) (name:List UInt8) (tag:Int) (said:List UInt8):SS:=
 ⟨s.vs,fun x=>if x=name then some ((Qm0 tag (expL s said)).take 48) else s.vals x,s.told,s.met,s.disc⟩
structure Ins where
 op:Int
 n:Int
 tag:Int
 oct:Bool
 a:List (List UInt8)
 b:List (List UInt8)
 at_:Int
structure MS where
 st:SS
 stack:List Bool
 now:Nat
 next:Nat
def Qkv (v:Bool) (m:MS):Except FZ MS:=if m.stack.length < 8 then .ok ⟨m.st,m.stack++[v],m.now,m.next⟩ else .error (12,m.now)
def Qn4 (m:MS):MS:=⟨m.st,m.stack.dropLast,m.now,m.next⟩
def goL (m:MS) (n:Nat):MS:=⟨m.st,m.stack,m.now,n⟩
def stL (m:MS) (s:SS):MS:=⟨s,m.stack,m.now,m.next⟩
def atL (m:MS):MS:=⟨m.st,m.stack,m.next,m.next+1⟩
def topL (m:MS):Bool:=m.stack.getLastD false
def QiB (count:Nat) (m:MS) (n:Int):Bool:=decide (0≤n) && decide (n≤(count:Int) - m.next)
def Qp5 (i:Ins) (m:MS) (arg:List UInt8):Except FZ MS:=
 if (addL m.st.met i.tag (expL m.st arg)).1=0 then .ok (stL m (QrF m.st (addL m.st.met i.tag (expL m.st arg)).2)) else .error ((addL m.st.met i.tag (expL m.st arg)).1,i.at_)
def Qoc (r:Bool×SS) (m:MS):Except FZ MS:=Qkv r.1 (stL m r.2)
def QcN (m:MS):Except FZ MS:=.error (12,m.now)
def QfJ (i:Ins) (m:MS):Except FZ MS:=if i.n=0∨i.n=1 then Qkv (decide (i.n=1)) m else QcN m
def QlO (m:MS):Except FZ MS:=if m.stack=[] then QcN m else Qkv (!topL m) (Qn4 m)
def QfT (count:Nat) (i:Ins) (m:MS):Except FZ MS:=if QiB count m i.n then .ok (goL m (m.next+i.n.toNat)) else QcN m
def doCond (taken:Bool) (count:Nat) (i:Ins) (m:MS):Except FZ MS:=
 if QiB count m i.n then
  (if m.stack=[] then QcN m else .ok (if topL m=taken then goL (Qn4 m) (m.next+i.n.toNat) else Qn4 m))
 else QcN m
def doAsk (vals:List (List UInt8)) (i:Ins) (m:MS):Except FZ MS:=
 if 1≤i.tag∧i.tag≤3 then Qoc (askL m.st i.tag i.oct vals i.b) m else QcN m
def QfK (M:Msg) (i:Ins) (m:MS):Except FZ MS:=if i.tag=1∨i.tag=2 then Qkv (sizeB M i.tag i.n) m else QcN m
def Qfx (i:Ins) (m:MS):Except FZ MS:=
 if i.tag=1 then Qp5 i m [] else if 2≤i.tag∧i.tag≤4∧i.a≠[] then Qp5 i m (i.a.headD []) else QcN m
def Qki (i:Ins) (m:MS):Except FZ MS:=
 if 0≤i.tag∧i.tag≤3∧i.a≠[]∧i.b≠[] then .ok (stL m (Qup m.st (i.a.headD []) i.tag (i.b.headD []))) else QcN m
def stepL (M:Msg) (count:Nat) (i:Ins) (m:MS):Except FZ MS:=
 if i.op=1 then QfJ i m
 else if i.op=2 then QlO m
 else if i.op=3 then QfT count i m
 else if i.op=4 then doCond true count i m
 else if i.op=5 then doCond false count i m
 else if i.op=6 then doAsk (fieldsL M (i.a.map (expL m.st))) i m
 else if i.op=7 then doAsk (QhE M i.a) i m
 else if i.op=8 then doAsk (i.a.map (expL m.st)) i m
 else if i.op=9 then Qkv (existsL M (i.a.map (expL m.st))) m
 else if i.op=10 then QfK M i m
 else if i.op=11 then Qfx i m
 else if i.op=12 then Qki i m
 else if i.op=13 then .ok (stL m (Qr4 m.st))
 else if i.op=14 then .ok (goL m count)
 else QcN m
def QpY:Ins:=⟨0,0,0,false,[],[],0⟩
def loopL (M:Msg) (code:List Ins):Nat→MS→Nat→Except FZ MS×Nat
 | 0,m,d=>(.ok m,d)
 | f+1,m,d=>
  if m.next < code.length then
   (match stepL M code.length (code.getD m.next QpY) (atL m) with
    | .error e=>(.error e,d+1)
    | .ok m'=>loopL M code f m' (d+1))
  else (.ok m,d)
def ms0 (v:Bool):MS:=⟨ss0 v,[],0,0⟩
def execL (v:Bool) (code:List Ins) (M:Msg):List (Int×List UInt8)×Nat×Option FZ:=
 if 400 < code.length then ([(1,[])],0,some (12,400))
 else match loopL M code code.length (ms0 v) 0 with
  | (.error e,d)=>([(1,[])],d,some e)
  | (.ok m,d)=>(Qul m.st,d,none)
theorem QeH {v:Bool} {m m':MS} (h:Qkv v m=.ok m'):m'.next=m.next:=by
 unfold Qkv at h
 split at h
 ·cases h;rfl
 ·cases h
theorem Qle {i:Ins} {m m':MS} {x:List UInt8} (h:Qp5 i m x=.ok m'):m'.next=m.next:=by
 unfold Qp5 at h
 split at h
 ·cases h;rfl
 ·cases h
theorem QnL {count:Nat} {m:MS} {n:Int} (h:QiB count m n=true):m.next+n.toNat≤count:=by
 unfold QiB at h
 simp at h
 omega
theorem Qo3 {M:Msg} {count:Nat} {i:Ins} {m m':MS} (h:stepL M count i m=.ok m') (hn:m.next≤count):m.next≤m'.next∧m'.next≤count:=by
 have key:∀ k:Nat,k=m.next→k=m'.next→m.next≤m'.next∧m'.next≤count:=fun k h1 h2=>by omega
 unfold stepL at h
 by_cases h1:i.op=1
 ·rw [if_pos h1] at h
  unfold QfJ QcN at h
  split at h
  ·exact key _ rfl (QeH h).symm
  ·cases h
 rw [if_neg h1] at h
 by_cases h1:i.op=2
 ·rw [if_pos h1] at h
  unfold QlO QcN at h
  split at h
  ·cases h
  ·exact key _ rfl (QeH h).symm
 rw [if_neg h1] at h
 by_cases h1:i.op=3
 ·rw [if_pos h1] at h
  unfold QfT QcN at h
  split at h
  ·next hm=>cases h;exact ⟨Nat.le_add_right _ _,QnL hm⟩
  ·cases h
 rw [if_neg h1] at h
 have hc:∀ tk,doCond tk count i m=.ok m'→m.next≤m'.next∧m'.next≤count:=fun tk h=>by
  unfold doCond QcN at h
  split at h
  ·next hm=>
   split at h
   ·cases h
   ·cases h
    split
    ·exact ⟨Nat.le_add_right _ _,QnL hm⟩
    ·exact ⟨Nat.le_refl _,hn⟩
  ·cases h
 by_cases h1:i.op=4
 ·rw [if_pos h1] at h;exact hc _ h
 rw [if_neg h1] at h
 by_cases h1:i.op=5
 ·rw [if_pos h1] at h;exact hc _ h
 rw [if_neg h1] at h
 have ha:∀ vals,doAsk vals i m=.ok m'→m.next≤m'.next∧m'.next≤count:=fun vals h=>by
  unfold doAsk QcN Qoc at h
  split at h
  ·exact key _ rfl (QeH h).symm
  ·cases h
 by_cases h1:i.op=6
 ·rw [if_pos h1] at h;exact ha _ h
 rw [if_neg h1] at h
 by_cases h1:i.op=7
 ·rw [if_pos h1] at h;exact ha _ h
 rw [if_neg h1] at h
 by_cases h1:i.op=8
 ·rw [if_pos h1] at h;exact ha _ h
 rw [if_neg h1] at h
 by_cases h1:i.op=9
 ·rw [if_pos h1] at h;exact key _ rfl (QeH h).symm
 rw [if_neg h1] at h
 by_cases h1:i.op=10
 ·rw [if_pos h1] at h
  unfold QfK QcN at h
  split at h
  ·exact key _ rfl (QeH h).symm
  ·cases h
 rw [if_neg h1] at h
 by_cases h1:i.op=11
 ·rw [if_pos h1] at h
  unfold Qfx QcN at h
  split at h
  ·exact key _ rfl (Qle h).symm
  ·split at h
   ·exact key _ rfl (Qle h).symm
   ·cases h
 rw [if_neg h1] at h
 by_cases h1:i.op=12
 ·rw [if_pos h1] at h
  unfold Qki QcN at h
  split at h
  ·cases h;exact ⟨Nat.le_refl _,hn⟩
  ·cases h
 rw [if_neg h1] at h
 by_cases h1:i.op=13
 ·rw [if_pos h1] at h;cases h;exact ⟨Nat.le_refl _,hn⟩
 rw [if_neg h1] at h
 by_cases h1:i.op=14
 ·rw [if_pos h1] at h;cases h;exact ⟨hn,Nat.le_refl _⟩
 rw [if_neg h1] at h
 cases h
end Go.Proofs.YtbiclelojbfnbabGreatDoor
