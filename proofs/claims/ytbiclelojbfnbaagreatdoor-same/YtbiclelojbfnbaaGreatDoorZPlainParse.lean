import Derived.Lib.Index
import Derived.Lib.Bytealg
import Derived.Lib.Strings
import Derived.Lib.SlicesS
import Derived.Lib.ItoaNum
import Derived.Test.YtbiclelojbfnbaaGreatDoorZPlainGlob2
namespace Go.Proofs.YtbiclelojbfnbaaGreatDoor
set_option linter.unusedVariables false
set_option linter.unusedSimpArgs false
set_option maxRecDepth 100000
set_option maxHeartbeats 4000000
def QaF (c:Int):Bool:=decide (48≤c) && decide (c≤57)
def Qbe (c:Int):Bool:=c == 32 || c == 9 || c == 10 || c == 13
def Qco (c:Int):Bool:=decide (65≤c) && decide (c≤90)
def Qix (c:Int):Bool:=decide (97≤c) && decide (c≤122)
def Qa7 (c:Int):Bool:=(decide (97≤c) && decide (c≤122)) || Qco c || c == 95
theorem QrG (c:Int):Qa7 c=(Qix c || Qco c || c == 95):=rfl
def Qbg (c:UInt8):Bool:=Qa7 c.toNat || QaF c.toNat
def Qbo (l:List UInt8):Nat:=(l.takeWhile Qbg).length
def Qbc:List UInt8→Nat
 | []=>0
 | c :: r=>if Qa7 c.toNat then 1+Qbo r else 0
def isNameL (l:List UInt8):Bool:=!l.isEmpty && Qbc l == l.length
def smallB (c:UInt8):UInt8:=if Qco c.toNat then c - 65+97 else c
def smallL (l:List UInt8):List UInt8:=l.map smallB
theorem Qdx (c:UInt8) (r:List UInt8):Qbo (c :: r)=if Qbg c then 1+Qbo r else 0:=by
 unfold Qbo
 rw [List.takeWhile_cons]
 split
 ·rw [List.length_cons];omega
 ·rfl
theorem QnT (l:List UInt8):Qbo l≤l.length:=by
 induction l with
 | nil=>simp [Qbo]
 | cons c r ih=>rw [Qdx];split <;> simp <;> omega
theorem QdE (l:List UInt8):Qbc l≤l.length:=by
 cases l with
 | nil=>simp [Qbc]
 | cons c r=>have:=QnT r;simp only [Qbc];split <;> simp <;> omega
structure Flt where
 err:Nat
 pos:Nat
structure Wd where
 kind:Nat
 pos:Nat
 spelt:List UInt8
 said:List UInt8
 num:Nat
def lineLen (l:List UInt8):Nat:=if Lib.indexByte l 10 < 0 then l.length else (Lib.indexByte l 10).toNat+1
theorem Qht (l:List UInt8) (c:UInt8):Lib.indexByte l c < l.length:=by
 induction l with
 | nil=>simp [Lib.indexByte]
 | cons b l ih=>
  unfold Lib.indexByte
  rw [List.length_cons]
  split
  ·omega
  ·split <;> omega
theorem QjF (l sub:List UInt8):Lib.index l sub < 0∨Lib.index l sub+sub.length≤l.length:=by
 induction l with
 | nil=>
  unfold Lib.index
  cases sub with
  | nil=>right;decide
  | cons a t=>left;simp
 | cons b l ih=>
  unfold Lib.index
  split
  ·rename_i h
   right
   have:=(List.isPrefixOf_iff_prefix.1 h).length_le
   simp at this ⊢
   omega
  ·split
   ·left;decide
   ·have:=Lib.index_ge l sub
    rename_i h1 h2
    have h3:¬ Lib.index l sub = -1:=by simpa using h2
    simp
    omega
theorem Qj4 (l:List UInt8):lineLen l≤l.length:=by
 have:=Qht l 10
 unfold lineLen;split <;> omega
theorem Qi7 (c:UInt8) (l:List UInt8):1≤lineLen (c :: l):=by
 unfold lineLen;split
 ·simp
 ·omega
def Qb4:Nat→List UInt8→Nat→Except Flt Nat
 | 0,_,p=>.ok p
 | _+1,[],p=>.ok p
 | f+1,c :: r,p=>
  if Qbe c.toNat then Qb4 f r (p+1)
  else if c.toNat=35 then Qb4 f ((c :: r).drop (lineLen (c :: r))) (p+lineLen (c :: r))
  else if Lib.hasPrefix (c :: r) [47,42] then
   if Lib.index (r.drop 1) [42,47] < 0 then .error ⟨2,p⟩
   else Qb4 f ((c :: r).drop (4+(Lib.index (r.drop 1) [42,47]).toNat)) (p+(4+(Lib.index (r.drop 1) [42,47]).toNat))
  else .ok p
def QcQ (k:Nat) (rest:List UInt8) (p n:Nat):Wd×Nat:=(⟨k,p,smallL (rest.take n),[],0⟩,p+n)
def Qcl (l:List UInt8):Nat:=(l.takeWhile fun c=>QaF c.toNat).length
def Qdp (v:Nat) (c:UInt8):Nat:=min (v*10+(c.toNat - 48)) 2147483648
def Qiq (l:List UInt8):Nat:=(l.takeWhile fun c=>QaF c.toNat).foldl Qdp 0
def isM (c:UInt8):Bool:=c.toNat == 77 || c.toNat == 109
def isK (c:UInt8):Bool:=c.toNat == 75 || c.toNat == 107
def scanNumL (rest:List UInt8) (p:Nat):Except Flt (Wd×Nat):=
 let n:=Qcl rest
 let v:=Qiq rest
 let c:=rest.getD n 0
 let v':=if isM c then v*1048576 else if isK c then v*1024 else v
 let n':=if isM c || isK c then n+1 else n
 if Qbg (rest.getD n' 0) then .error ⟨2,p⟩
 else if 2147483647 < v' then .error ⟨3,p⟩
 else .ok (⟨4,p,[],[],v'⟩,p+n')
def quoteL:List UInt8→Option (List UInt8×Nat)
 | []=>none
 | c :: r=>
  if c.toNat=34 then some ([],1)
  else if c.toNat=92 then
   match r with
   | []=>none
   | d :: r'=>(quoteL r').map fun x=>(d :: x.1,x.2+2)
  else (quoteL r).map fun x=>(c :: x.1,x.2+1)
def quoteR (r:List UInt8) (p:Nat):Except Flt (Wd×Nat):=
 match quoteL r with
 | none=>.error ⟨2,p⟩
 | some x=>.ok (⟨5,p,[],x.1,0⟩,p+(1+x.2))
def Qii (c:UInt8):Bool:=decide (0≤Lib.indexByte [59,44,40,41,123,125,91,93] c)
def scanL (rest:List UInt8) (p:Nat):Except Flt (Wd×Nat):=
 match rest with
 | []=>.ok (⟨0,p,[],[],0⟩,p)
 | c :: r=>
  if Qa7 c.toNat then .ok (QcQ 1 (c :: r) p (Qbc (c :: r)))
  else if c.toNat=58 then
   if Qbc r=0 then .error ⟨2,p⟩ else .ok (QcQ 2 (c :: r) p (1+Qbc r))
  else if QaF c.toNat then scanNumL (c :: r) p
  else if c.toNat=34 then quoteR r p
  else if Qii c then .ok (QcQ 3 (c :: r) p 1)
  else .error ⟨2,p⟩
def nextL (l:List UInt8) (p:Nat):Except Flt (Wd×Nat):=
 match Qb4 (l.length+1) (l.drop p) p with
 | .error f=>.error f
 | .ok n=>scanL (l.drop n) n
theorem QdX (l:List UInt8):∀ (f p n:Nat),p≤l.length→Qb4 f (l.drop p) p=.ok n→p≤n∧n≤l.length
 | 0,p,n,hp,h=>by
  simp only [Qb4] at h
  cases h
  exact ⟨Nat.le_refl _,hp⟩
 | f+1,p,n,hp,h=>by
  by_cases hlt:p < l.length
  ·rw [List.drop_eq_getElem_cons hlt] at h
   simp only [Qb4] at h
   split at h
   ·have:=QdX l f (p+1) n (by omega) h
    omega
   ·rw [← List.drop_eq_getElem_cons hlt] at h
    split at h
    ·rw [List.drop_drop] at h
     have h1:=Qj4 (l.drop p)
     rw [List.length_drop] at h1
     have:=QdX l f _ n (by omega) h
     omega
    ·split at h
     ·split at h
      ·cases h
      ·rename_i hp2 hi
       have e:List.drop 1 (List.drop (p+1) l)=List.drop (p+1+1) l:=by rw [List.drop_drop]
       rw [e] at h hi
       rw [List.drop_drop] at h
       have h1:=QjF (l.drop (p+1+1)) [42,47]
       rw [List.length_drop] at h1
       have h2:2≤(l.drop p).length:=by
        have:=(List.isPrefixOf_iff_prefix.1 hp2).length_le
        simpa using this
       rw [List.length_drop] at h2
       have h3:Lib.index (l.drop (p+1+1)) [42,47]+2≤(l.length - (p+1+1):Nat):=by
        rcases h1 with h1 | h1
        ·exact absurd h1 hi
        ·simpa using h1
       have:=QdX l f _ n (by omega) h
       omega
     ·cases h
      exact ⟨Nat.le_refl _,hp⟩
  ·rw [List.drop_of_length_le (by omega)] at h
   simp only [Qb4] at h
   cases h
   exact ⟨Nat.le_refl _,hp⟩
theorem Qgm:∀ (r:List UInt8) (x:List UInt8×Nat),quoteL r=some x→1≤x.2∧x.2≤r.length
 | [],x,h=>by cases h
 | c :: r,x,h=>by
  rw [quoteL.eq_def] at h
  dsimp only at h
  split at h
  ·cases h;simp
  ·split at h
   ·cases r with
    | nil=>cases h
    | cons d r'=>
     dsimp only at h
     cases hq:quoteL r' with
     | none=>rw [hq] at h;cases h
     | some y=>
      have:=Qgm r' y hq
      rw [hq] at h
      cases h
      simp;omega
   ·cases hq:quoteL r with
    | none=>rw [hq] at h;cases h
    | some y=>
     have:=Qgm r y hq
     rw [hq] at h
     cases h
     simp;omega
theorem QeG:∀ (r:List UInt8) (x:List UInt8×Nat),quoteL r=some x→x.1.length < x.2
 | [],x,h=>by cases h
 | c :: r,x,h=>by
  rw [quoteL.eq_def] at h
  dsimp only at h
  split at h
  ·cases h;simp
  ·split at h
   ·cases r with
    | nil=>cases h
    | cons d r'=>
     dsimp only at h
     cases hq:quoteL r' with
     | none=>rw [hq] at h;cases h
     | some y=>
      have:=QeG r' y hq
      rw [hq] at h
      cases h
      simp;omega
   ·cases hq:quoteL r with
    | none=>rw [hq] at h;cases h
    | some y=>
     have:=QeG r y hq
     rw [hq] at h
     cases h
     simp;omega
theorem Qqo (l:List UInt8):Qcl l≤l.length:=by
 unfold Qcl;exact (List.takeWhile_prefix _).length_le
theorem Qif (l:List UInt8) (n:Nat) (h:l.length≤n):l.getD n 0=0:=by
 rw [List.getD_eq_getElem?_getD,List.getElem?_eq_none h];rfl
theorem Qph (l:List UInt8) (p:Nat) (hp:p≤l.length) (x:Wd×Nat) (h:scanL (l.drop p) p=.ok x) :
 x.1.pos=p∧x.2≤l.length∧p≤x.2∧(x.1.kind=0→p=l.length∧x.1.spelt=[])∧(x.1.kind≠0→p < x.2):=by
 by_cases hlt:p < l.length
 ·obtain ⟨c,r,hcr,hrl⟩:∃ c r,l.drop p=c :: r∧r.length=l.length - (p+1):=⟨_,_,List.drop_eq_getElem_cons hlt,by simp⟩
  rw [hcr] at h
  clear hcr
  unfold scanL at h
  dsimp only at h
  have hn:=QdE (c :: r)
  have hn1:=QdE r
  simp only [List.length_cons] at hn hn1
  split at h
  ·rename_i hl
   have hpos:1≤Qbc (c :: r):=by
    simp only [Qbc];rw [if_pos hl];omega
   cases h
   simp [QcQ];omega
  ·split at h
   ·split at h
    ·cases h
    ·cases h;simp [QcQ];omega
   ·split at h
    ·rename_i hg
     have hd:=Qqo (c :: r)
     have hd1:1≤Qcl (c :: r):=by
      simp [Qcl,hg]
     simp only [List.length_cons] at hd
     obtain ⟨n',v',hn',he⟩:∃ n' v':Nat,n'=(if isM ((c :: r).getD (Qcl (c :: r)) 0) || isK ((c :: r).getD (Qcl (c :: r)) 0) then Qcl (c :: r)+1 else Qcl (c :: r))∧
      scanNumL (c :: r) p=if Qbg ((c :: r).getD n' 0) then .error ⟨2,p⟩ else if 2147483647 < v' then .error ⟨3,p⟩ else .ok (⟨4,p,[],[],v'⟩,p+n'):=⟨_,_,rfl,rfl⟩
     rw [he] at h
     have hn2:n'≤l.length - p∧1≤n':=by
      by_cases hm:(isM ((c :: r).getD (Qcl (c :: r)) 0) || isK ((c :: r).getD (Qcl (c :: r)) 0))=true
      ·have hlt2:Qcl (c :: r) < (c :: r).length:=by
        apply Classical.byContradiction
        intro hge
        rw [Qif _ _ (by omega)] at hm
        exact absurd hm (by decide)
       simp only [List.length_cons] at hlt2
       rw [hn',if_pos hm];omega
      ·rw [hn',if_neg hm];omega
     split at h
     ·cases h
     ·split at h
      ·cases h
      ·cases h
       simp;omega
    ·split at h
     ·unfold quoteR at h
      cases hq:quoteL r with
      | none=>rw [hq] at h;cases h
      | some y=>
       rw [hq] at h
       have:=Qgm _ _ hq
       cases h
       simp;omega
     ·split at h
      ·cases h;simp [QcQ];omega
      ·cases h
 ·have e:p=l.length:=by omega
  rw [List.drop_of_length_le (by omega)] at h
  unfold scanL at h
  dsimp only at h
  cases h
  simp;omega
theorem Qin (l:List UInt8) (p:Nat) (x:Wd×Nat) (h:scanL (l.drop p) p=.ok x):x.1.said.length≤l.length∧x.1.num≤2147483647:=by
 have hl:(l.drop p).length≤l.length:=by simp
 generalize l.drop p=r at h hl
 cases r with
 | nil=>unfold scanL at h;dsimp only at h;cases h;simp
 | cons c r=>
  unfold scanL at h
  dsimp only at h
  split at h
  ·cases h;simp [QcQ]
  ·split at h
   ·split at h
    ·cases h
    ·cases h;simp [QcQ]
   ·split at h
    ·obtain ⟨n',v',he⟩:∃ n' v':Nat,scanNumL (c :: r) p=if Qbg ((c :: r).getD n' 0) then .error ⟨2,p⟩ else if 2147483647 < v' then .error ⟨3,p⟩ else .ok (⟨4,p,[],[],v'⟩,p+n'):=⟨_,_,rfl⟩
     rw [he] at h
     split at h
     ·cases h
     ·split at h
      ·cases h
      ·cases h;simp;omega
    ·split at h
     ·unfold quoteR at h
      cases hq:quoteL r with
      | none=>rw [hq] at h;cases h
      | some y=>
       rw [hq] at h
       have h1:=Qgm _ _ hq
       have h2:=QeG _ _ hq
       cases h
       simp at hl ⊢;omega
     ·split at h
      ·cases h;simp [QcQ]
      ·cases h
theorem QoF (l:List UInt8) (p:Nat) (x:Wd×Nat) (h:nextL l p=.ok x):x.1.said.length≤l.length∧x.1.num≤2147483647:=by
 unfold nextL at h
 cases hs:Qb4 (l.length+1) (l.drop p) p with
 | error f=>rw [hs] at h;cases h
 | ok n=>rw [hs] at h;exact Qin l n x h
def Qj9 (sp:List UInt8):Prop:=∀ c r,sp=c :: r→Qa7 c.toNat=false
theorem Qf2:∀ (l:List UInt8) (c:UInt8),0≤Lib.indexByte l c→c∈l
 | [],c,h=>by simp [Lib.indexByte] at h
 | b :: l,c,h=>by
  unfold Lib.indexByte at h
  split at h
  ·rename_i hb
   have:b=c:=by simpa using hb
   subst this;simp
  ·split at h
   ·exact absurd h (by decide)
   ·have h1:=Lib.indexByte_ge l c
    rename_i h2
    have h3:¬ Lib.indexByte l c = -1:=by simpa using h2
    have:=Qf2 l c (by omega)
    simp [this]
theorem Qkv (c:UInt8) (h:Qii c=true):Qa7 (smallB c).toNat=false:=by
 have hm:=Qf2 _ _ (of_decide_eq_true h)
 simp at hm
 rcases hm with h | h | h | h | h | h | h | h <;> subst h <;> decide
theorem QlW (l:List UInt8) (p:Nat) (x:Wd×Nat) (h:scanL (l.drop p) p=.ok x) (hk:¬ x.1.kind=1):Qj9 x.1.spelt:=by
 generalize l.drop p=r at h
 cases r with
 | nil=>unfold scanL at h;dsimp only at h;cases h;intro c r e;cases e
 | cons c r=>
  unfold scanL at h
  dsimp only at h
  split at h
  ·cases h;exact absurd rfl hk
  ·split at h
   ·rename_i h58
    split at h
    ·cases h
    ·cases h
     intro c' r' e
     rw [show 1+Qbc r=Qbc r+1 from by omega] at e
     simp [QcQ,smallL,List.take_succ_cons] at e
     obtain ⟨e,-⟩:=e
     subst e
     have:c=58:=UInt8.toNat_inj.1 h58
     subst this
     decide
   ·split at h
    ·obtain ⟨n',v',he⟩:∃ n' v':Nat,scanNumL (c :: r) p=if Qbg ((c :: r).getD n' 0) then .error ⟨2,p⟩ else if 2147483647 < v' then .error ⟨3,p⟩ else .ok (⟨4,p,[],[],v'⟩,p+n'):=⟨_,_,rfl⟩
     rw [he] at h
     split at h
     ·cases h
     ·split at h
      ·cases h
      ·cases h;intro c r e;cases e
    ·split at h
     ·unfold quoteR at h
      cases hq:quoteL r with
      | none=>rw [hq] at h;cases h
      | some y=>rw [hq] at h;cases h;intro c r e;cases e
     ·split at h
      ·rename_i hs
       cases h
       intro c' r' e
       simp [QcQ,smallL] at e
       obtain ⟨e,-⟩:=e
       subst e
       exact Qkv c hs
      ·cases h
theorem QlK (l:List UInt8) (p:Nat) (x:Wd×Nat) (h:nextL l p=.ok x) (hk:¬ x.1.kind=1):Qj9 x.1.spelt:=by
 unfold nextL at h
 cases hs:Qb4 (l.length+1) (l.drop p) p with
 | error f=>rw [hs] at h;cases h
 | ok n=>rw [hs] at h;exact QlW l n x h hk
theorem QhS (l:List UInt8) (p:Nat) (hp:p≤l.length) (x:Wd×Nat) (h:nextL l p=.ok x) :
 x.1.pos≤l.length∧x.2≤l.length∧p≤x.2∧(x.1.kind=0→x.1.spelt=[])∧(x.1.kind≠0→p < x.2):=by
 unfold nextL at h
 cases hs:Qb4 (l.length+1) (l.drop p) p with
 | error f=>rw [hs] at h;cases h
 | ok n=>
  rw [hs] at h
  have h1:=QdX l _ p n hp hs
  have h2:=Qph l n h1.2 x h
  refine ⟨by omega,h2.2.1,by omega,fun hk=>(h2.2.2.2.1 hk).2,fun hk=>by have:=h2.2.2.2.2 hk;omega⟩
def whichL:List (List UInt8)→List UInt8→Nat
 | [],_=>0
 | s :: r,x=>if s=x then 1 else if whichL r x=0 then 0 else whichL r x+1
def Qad (x:List UInt8):ByteArray:=⟨x.toArray⟩
theorem QhT {x y:List UInt8} (h:Qad x=Qad y):x=y:=by
 have:=congrArg (fun b:ByteArray=>b.data.toList) h
 simpa [Qad] using this
theorem Qgg (x:List UInt8):∀ (zs:List (List UInt8)) (i:Nat),Lib.idxFromS (zs.map Qad) (Qad x) i=if whichL zs x=0 then -1 else (i:Int)+whichL zs x - 1
 | [],i=>rfl
 | s :: r,i=>by
  rw [List.map_cons]
  unfold whichL Lib.idxFromS
  by_cases h:s=x
  ·subst h
   simp
  ·have h':¬ Qad s=Qad x:=fun e=>h (QhT e)
   rw [if_neg h,if_neg h',Qgg x r (i+1)]
   by_cases h0:whichL r x=0
   ·simp [h0]
   ·simp [h0];omega
theorem Ql1 (zs:List (List UInt8)) (x:List UInt8):Lib.idxOfS (zs.map Qad) (Qad x)+1=whichL zs x:=by
 unfold Lib.idxOfS
 rw [Qgg]
 split <;> omega
theorem Qjw (zs:List (List UInt8)) (x:List UInt8):Lib.containsS (zs.map Qad) (Qad x)=decide (0 < whichL zs x):=by
 unfold Lib.containsS
 have:=Ql1 zs x
 by_cases h:0 < whichL zs x
 ·simp [h];omega
 ·simp [h];omega
theorem QbW (zs:List (List UInt8)) (x:List UInt8):whichL zs x≤zs.length:=by
 induction zs with
 | nil=>simp [whichL]
 | cons s r ih=>
  unfold whichL
  split
  ·simp
  ·split <;> simp <;> omega
abbrev PS:=Wd×Nat
def mayL (l:List UInt8) (zs:List (List UInt8)) (s:PS):Except Flt (Nat×PS):=
 if whichL zs s.1.spelt=0 then .ok (0,s) else
 match nextL l s.2 with
 | .error f=>.error f
 | .ok s'=>.ok (whichL zs s.1.spelt,s')
def passL (l:List UInt8) (zs:List (List UInt8)) (s:PS):Except Flt (Nat×PS):=
 if whichL zs s.1.spelt=0 then .error ⟨4,s.1.pos⟩ else
 match nextL l s.2 with
 | .error f=>.error f
 | .ok s'=>.ok (whichL zs s.1.spelt,s')
def stringL (l:List UInt8) (chk:List UInt8→Nat) (s:PS):Except Flt (List UInt8×PS):=
 if s.1.kind=5 then
  if chk s.1.said=0 then
   match nextL l s.2 with
   | .error f=>.error f
   | .ok s'=>.ok (s.1.said,s')
  else .error ⟨chk s.1.said,s.1.pos⟩
 else .error ⟨4,s.1.pos⟩
def mu (n:Nat) (s:PS):Nat:=2*(n - s.2)+(if s.1.kind=0 then 0 else 1)
theorem Qem {l:List UInt8} {s y:PS} (hp:s.2≤l.length) (hk:¬ s.1.kind=0) (h:nextL l s.2=.ok y):mu l.length y < mu l.length s:=by
 obtain ⟨h1,h2,h3,h4,h5⟩:=QhS l s.2 hp y h
 unfold mu
 rw [if_neg hk]
 by_cases h0:y.1.kind=0
 ·rw [if_pos h0];omega
 ·have:=h5 h0
  rw [if_neg h0];omega
theorem Qej (zs:List (List UInt8)) (h:∀ z∈zs,z≠[]):whichL zs []=0:=by
 induction zs with
 | nil=>rfl
 | cons a r ih=>
  unfold whichL
  rw [if_neg (h a (by simp)),if_pos (ih fun z hz=>h z (by simp [hz]))]
theorem QhV {l:List UInt8} {zs:List (List UInt8)} {s:PS} {y:Nat×PS} (hp:s.2≤l.length) (he:s.1.kind=0→s.1.spelt=[]) (hz:∀ z∈zs,z≠[]) (h:passL l zs s=.ok y):mu l.length y.2 < mu l.length s∧y.1=whichL zs s.1.spelt∧¬ y.1=0:=by
 unfold passL at h
 split at h
 ·cases h
 ·rename_i h0
  have hk:¬ s.1.kind=0:=fun e=>h0 (by rw [he e];exact Qej zs hz)
  cases hn:nextL l s.2 with
  | error f=>rw [hn] at h;cases h
  | ok s'=>rw [hn] at h;cases h;exact ⟨Qem hp hk hn,rfl,h0⟩
theorem QiA {l:List UInt8} {zs:List (List UInt8)} {s:PS} {y:Nat×PS} (hp:s.2≤l.length) (he:s.1.kind=0→s.1.spelt=[]) (hz:∀ z∈zs,z≠[]) (h:mayL l zs s=.ok y):mu l.length y.2≤mu l.length s∧(¬ y.1=0→mu l.length y.2 < mu l.length s)∧y.1=whichL zs s.1.spelt∧(y.1=0→y.2=s):=by
 unfold mayL at h
 split at h
 ·rename_i h0
  cases h
  exact ⟨Nat.le_refl _,fun h=>absurd rfl h,h0.symm,fun _=>rfl⟩
 ·rename_i h0
  have hk:¬ s.1.kind=0:=fun e=>h0 (by rw [he e];exact Qej zs hz)
  cases hn:nextL l s.2 with
  | error f=>rw [hn] at h;cases h
  | ok s'=>
   rw [hn] at h;cases h
   exact ⟨Nat.le_of_lt (Qem hp hk hn),fun _=>Qem hp hk hn,rfl,fun e=>absurd e h0⟩
theorem Qee {l:List UInt8} {chk:List UInt8→Nat} {s:PS} {y:List UInt8×PS} (hp:s.2≤l.length) (h:stringL l chk s=.ok y):mu l.length y.2 < mu l.length s∧y.1=s.1.said:=by
 unfold stringL at h
 split at h
 ·rename_i hk
  split at h
  ·cases hn:nextL l s.2 with
   | error f=>rw [hn] at h;cases h
   | ok s'=>rw [hn] at h;cases h;exact ⟨Qem hp (by omega) hn,rfl⟩
  ·cases h
 ·cases h
def moreL (l:List UInt8) (chk:List UInt8→Nat):Nat→List (List UInt8)→PS→Except Flt (List (List UInt8)×PS)
 | 0,acc,s=>.ok (acc,s)
 | f+1,acc,s=>
  match passL l [[44],[93]] s with
  | .error e=>.error e
  | .ok y=>
   if y.1=1 then
    match stringL l chk y.2 with
    | .error e=>.error e
    | .ok z=>moreL l chk f (acc++[z.1]) z.2
   else .ok (acc,y.2)
def stringsL (l:List UInt8) (chk:List UInt8→Nat) (fuel:Nat) (s:PS):Except Flt (List (List UInt8)×PS):=
 match mayL l [[91]] s with
 | .error e=>.error e
 | .ok y=>
  match stringL l chk y.2 with
  | .error e=>.error e
  | .ok z=>if y.1=0 then .ok ([z.1],z.2) else moreL l chk fuel [z.1] z.2
def Qfa:List UInt8:=[107,101,101,112]
def QbV:List UInt8:=[100,105,115,99,97,114,100]
def Qe3:List UInt8:=[115,116,111,112]
def QaK:List UInt8:=[102,105,108,101,105,110,116,111]
def Qbk:List UInt8:=[114,101,100,105,114,101,99,116]
def Qbb:List UInt8:=[114,101,106,101,99,116]
def Qgh:List UInt8:=[115,101,116]
def kIf:List UInt8:=[105,102]
def Qe5:List UInt8:=[116,114,117,101]
def Qdf:List UInt8:=[102,97,108,115,101]
def kNot:List UInt8:=[110,111,116]
def Qcy:List UInt8:=[97,108,108,111,102]
def QcA:List UInt8:=[97,110,121,111,102]
def QbT:List UInt8:=[104,101,97,100,101,114]
def QaM:List UInt8:=[101,110,118,101,108,111,112,101]
def Qby:List UInt8:=[115,116,114,105,110,103]
def QbG:List UInt8:=[101,120,105,115,116,115]
def QdC:List UInt8:=[115,105,122,101]
def Qb7:List UInt8:=[101,108,115,105,102]
def QdS:List UInt8:=[101,108,115,101]
def kRequire:List UInt8:=[114,101,113,117,105,114,101]
def QbB:List UInt8:=[118,97,114,105,97,98,108,101,115]
def Qg7:List UInt8:=[102,114,111,109]
def kTo:List UInt8:=[116,111]
def Qbn:List UInt8:=[58,108,111,119,101,114]
def Qbm:List UInt8:=[58,117,112,112,101,114]
def Qa1:List UInt8:=[58,108,101,110,103,116,104]
def tIs:List UInt8:=[58,105,115]
def Qas:List UInt8:=[58,99,111,110,116,97,105,110,115]
def QaA:List UInt8:=[58,109,97,116,99,104,101,115]
def QcY:List UInt8:=[58,111,118,101,114]
def QbY:List UInt8:=[58,117,110,100,101,114]
def Qar:List UInt8:=[58,99,111,109,112,97,114,97,116,111,114]
def Qbz:List UInt8:=[105,59,111,99,116,101,116]
def Qdu:List UInt8:=[105,59,97,115,99,105,105,45,99,97,115,101,109,97,112]
def cmdNames:List (List UInt8):=[Qfa,QbV,Qe3,QaK,Qbk,Qbb,Qgh,kIf]
def testNames:List (List UInt8):=[Qe5,Qdf,kNot,Qcy,QcA,QbT,QaM,Qby,QbG,QdC]
structure QcT where
 kind:Nat
 pos:Nat
 tag:Nat
 octet:Bool
 fr:List (List UInt8)
 keys:List (List UInt8)
 num:Nat
def Qbx:Nat→Type
 | 0=>Unit
 | n+1=>QcT×List (Qbx n)
structure QfA where
 kind:Nat
 pos:Nat
 tag:Nat
 arg:List UInt8
 var:List UInt8
 els:Bool
def Qcd:Nat→Type
 | 0=>Unit
 | n+1=>QfA×List (Qbx n×List (Qcd n))×List (Qcd n)
def QcE (req:List (List UInt8)) (sp:List UInt8):Bool:=
 if sp=QaK∨sp=Qbb∨sp=QaM then decide (0 < whichL req sp)
 else if sp=Qgh∨sp=Qby then decide (0 < whichL req QbB)
 else true
def QaT {α β:Type} (r:Except Flt (α×PS)) (k:α→PS→Except Flt (β×PS)):Except Flt (β×PS):=
 match r with
 | .error f=>.error f
 | .ok y=>k y.1 y.2
def Qcm {β:Type} (l:List UInt8) (s:PS) (k:PS→Except Flt (β×PS)):Except Flt (β×PS):=
 match nextL l s.2 with
 | .error f=>.error f
 | .ok y=>k y
theorem Qaf {α β:Type} {r:Except Flt (α×PS)} {k:α→PS→Except Flt (β×PS)} {f:Flt} (h:r=.error f):QaT r k=.error f:=by subst h;rfl
theorem Qae {α β:Type} {r:Except Flt (α×PS)} {k:α→PS→Except Flt (β×PS)} {y:α×PS} (h:r=.ok y):QaT r k=k y.1 y.2:=by subst h;rfl
theorem Qbj {β:Type} {l:List UInt8} {s:PS} {k:PS→Except Flt (β×PS)} {f:Flt} (h:nextL l s.2=.error f):Qcm l s k=.error f:=by unfold Qcm;rw [h]
theorem Qa0 {β:Type} {l:List UInt8} {s y:PS} {k:PS→Except Flt (β×PS)} (h:nextL l s.2=.ok y):Qcm l s k=k y:=by unfold Qcm;rw [h]
def QdV (l:List UInt8):Nat→Nat→Bool→Bool→PS→Except Flt ((Nat×Bool)×PS)
 | 0,tag,oct,_,s=>.ok ((tag,oct),s)
 | f+1,tag,oct,cmp,s=>
  if whichL [tIs,Qas,QaA] s.1.spelt=0 then
   if whichL [Qar] s.1.spelt=0 then .ok ((max tag 1,oct),s)
   else if cmp then .error ⟨7,s.1.pos⟩
   else Qcm l s fun s1=>QaT (stringL l (fun x=>if 0 < whichL [Qbz,Qdu] x then 0 else 7) s1) fun x s2=>QdV l f tag (decide (x=Qbz)) true s2
  else if tag=0 then Qcm l s fun s1=>QdV l f (whichL [tIs,Qas,QaA] s.1.spelt) oct cmp s1
  else .error ⟨7,s.1.pos⟩
def QbS (l:List UInt8) (F:Nat) (chk:List UInt8→Nat) (k pos:Nat) (s:PS):Except Flt (QcT×PS):=
 QaT (QdV l F 0 false false s) fun o s1=>QaT (stringsL l chk F s1) fun fr s2=>QaT (stringsL l (fun _=>0) F s2) fun ks s3=>
  .ok (⟨k,pos,o.1,o.2,fr,ks,0⟩,s3)
def groupMore {α:Type} (l:List UInt8) (sub:PS→Except Flt (α×PS)):Nat→List α→PS→Except Flt (List α×PS)
 | 0,acc,s=>.ok (acc,s)
 | f+1,acc,s=>QaT (passL l [[44],[41]] s) fun i s1=>
  if i=1 then QaT (sub s1) fun t s2=>groupMore l sub f (acc++[t]) s2 else .ok (acc,s1)
def QcB {α:Type} (l:List UInt8) (F:Nat) (sub:PS→Except Flt (α×PS)) (s:PS):Except Flt (List α×PS):=
 QaT (passL l [[40]] s) fun _ s1=>QaT (sub s1) fun t s2=>groupMore l sub F [t] s2
def sizeL (l:List UInt8) (pos:Nat) (s:PS):Except Flt (QcT×PS):=
 QaT (passL l [QcY,QbY] s) fun i s1=>
  if s1.1.kind=4 then Qcm l s1 fun s2=>.ok (⟨9,pos,i,false,[],[],s1.1.num⟩,s2) else .error ⟨4,s1.1.pos⟩
def testBody {α:Type} (l:List UInt8) (F:Nat) (sub:PS→Except Flt (α×PS)) (k pos:Nat) (s:PS):Except Flt ((QcT×List α)×PS):=
 match k with
 | 0=>.ok ((⟨0,pos,0,false,[],[],0⟩,[]),s)
 | 1=>.ok ((⟨1,pos,0,false,[],[],0⟩,[]),s)
 | 2=>QaT (sub s) fun t s1=>.ok ((⟨2,pos,0,false,[],[],0⟩,[t]),s1)
 | 3=>QaT (QcB l F sub s) fun ts s1=>.ok ((⟨3,pos,0,false,[],[],0⟩,ts),s1)
 | 4=>QaT (QcB l F sub s) fun ts s1=>.ok ((⟨4,pos,0,false,[],[],0⟩,ts),s1)
 | 5=>QaT (QbS l F (fun _=>0) 5 pos s) fun x s1=>.ok ((x,[]),s1)
 | 6=>QaT (QbS l F (fun x=>if 0 < whichL [Qg7,kTo] (smallL x) then 0 else 7) 6 pos s) fun x s1=>.ok ((x,[]),s1)
 | 7=>QaT (QbS l F (fun _=>0) 7 pos s) fun x s1=>.ok ((x,[]),s1)
 | 8=>QaT (stringsL l (fun _=>0) F s) fun xs s1=>.ok ((⟨8,pos,0,false,xs,[],0⟩,[]),s1)
 | _=>QaT (sizeL l pos s) fun x s1=>.ok ((x,[]),s1)
def QbD (l:List UInt8) (req:List (List UInt8)) (F:Nat):(n:Nat)→PS→Except Flt (Qbx n×PS)
 | 0,s=>if s.1.kind=1 then .error ⟨5,s.1.pos⟩ else .error ⟨4,s.1.pos⟩
 | n+1,s=>
  if whichL testNames s.1.spelt=0 then .error ⟨4,s.1.pos⟩
  else if QcE req s.1.spelt then Qcm l s fun s1=>testBody l F (QbD l req F n) (whichL testNames s.1.spelt - 1) s.1.pos s1
  else .error ⟨6,s.1.pos⟩
def blockMore {α:Type} (l:List UInt8) (sub:PS→Except Flt (α×PS)):Nat→List α→PS→Except Flt (List α×PS)
 | 0,acc,s=>.ok (acc,s)
 | f+1,acc,s=>QaT (mayL l [[125]] s) fun i s1=>
  if i=0 then QaT (sub s1) fun c s2=>blockMore l sub f (acc++[c]) s2 else .ok (acc,s1)
def blockL {α:Type} (l:List UInt8) (F:Nat) (sub:PS→Except Flt (α×PS)) (s:PS):Except Flt (List α×PS):=
 QaT (passL l [[123]] s) fun _ s1=>blockMore l sub F [] s1
def armL {α β:Type} (l:List UInt8) (F:Nat) (tst:PS→Except Flt (β×PS)) (sub:PS→Except Flt (α×PS)) (s:PS):Except Flt ((β×List α)×PS):=
 QaT (tst s) fun t s1=>QaT (blockL l F sub s1) fun cs s2=>.ok ((t,cs),s2)
def armsMore {α β:Type} (l:List UInt8) (F:Nat) (tst:PS→Except Flt (β×PS)) (sub:PS→Except Flt (α×PS)):Nat→List (β×List α)→PS→Except Flt (List (β×List α)×PS)
 | 0,acc,s=>.ok (acc,s)
 | f+1,acc,s=>QaT (mayL l [Qb7] s) fun i s1=>
  if i=0 then .ok (acc,s1) else QaT (armL l F tst sub s1) fun a s2=>armsMore l F tst sub f (acc++[a]) s2
def semi {α:Type} (l:List UInt8) (s:PS) (a:α):Except Flt (α×PS):=QaT (passL l [[59]] s) fun _ s1=>.ok (a,s1)
def cmdBody {α β:Type} (l:List UInt8) (F:Nat) (tst:PS→Except Flt (β×PS)) (sub:PS→Except Flt (α×PS)) (k pos:Nat) (s:PS):Except Flt ((QfA×List (β×List α)×List α)×PS):=
 match k with
 | 0=>semi l s (⟨0,pos,0,[],[],false⟩,[],[])
 | 1=>semi l s (⟨1,pos,0,[],[],false⟩,[],[])
 | 2=>semi l s (⟨2,pos,0,[],[],false⟩,[],[])
 | 3=>QaT (stringL l (fun _=>0) s) fun x s1=>semi l s1 (⟨3,pos,0,x,[],false⟩,[],[])
 | 4=>QaT (stringL l (fun _=>0) s) fun x s1=>semi l s1 (⟨4,pos,0,x,[],false⟩,[],[])
 | 5=>QaT (stringL l (fun _=>0) s) fun x s1=>semi l s1 (⟨5,pos,0,x,[],false⟩,[],[])
 | 6=>QaT (mayL l [Qbn,Qbm,Qa1] s) fun tag s1=>QaT (stringL l (fun x=>if isNameL x then 0 else 7) s1) fun v s2=>
  QaT (stringL l (fun _=>0) s2) fun x s3=>semi l s3 (⟨6,pos,tag,x,smallL v,false⟩,[],[])
 | _=>QaT (armL l F tst sub s) fun a s1=>QaT (armsMore l F tst sub F [a] s1) fun arms s2=>QaT (mayL l [QdS] s2) fun i s3=>
  if i=0 then .ok ((⟨7,pos,0,[],[],false⟩,arms,[]),s3)
  else QaT (blockL l F sub s3) fun cs s4=>.ok ((⟨7,pos,0,[],[],true⟩,arms,cs),s4)
def cmdL (l:List UInt8) (req:List (List UInt8)) (F:Nat):(n:Nat)→PS→Except Flt (Qcd n×PS)
 | 0,s=>if s.1.kind=1 then .error ⟨5,s.1.pos⟩ else .error ⟨4,s.1.pos⟩
 | n+1,s=>
  if whichL cmdNames s.1.spelt=0 then .error ⟨4,s.1.pos⟩
  else if QcE req s.1.spelt then Qcm l s fun s1=>cmdBody l F (QbD l req F n) (cmdL l req F n) (whichL cmdNames s.1.spelt - 1) s.1.pos s1
  else .error ⟨6,s.1.pos⟩
def Qb9 (req:List (List UInt8)) (x:List UInt8):List (List UInt8):=if 0 < whichL req x then req else req++[x]
def reqMore (l:List UInt8) (F:Nat):Nat→List (List UInt8)→PS→Except Flt (List (List UInt8)×PS)
 | 0,req,s=>.ok (req,s)
 | f+1,req,s=>QaT (mayL l [kRequire] s) fun i s1=>
  if i=0 then .ok (req,s1)
  else QaT (stringsL l (fun x=>if 0 < whichL [QaM,QaK,Qbb,QbB] x then 0 else 6) F s1) fun xs s2=>
   QaT (passL l [[59]] s2) fun _ s3=>reqMore l F f (xs.foldl Qb9 req) s3
def cmdsMore {α:Type} (sub:PS→Except Flt (α×PS)):Nat→List α→PS→Except Flt (List α)
 | 0,acc,_=>.ok acc
 | f+1,acc,s=>if s.1.kind=0 then .ok acc else
  match sub s with
  | .error e=>.error e
  | .ok y=>cmdsMore sub f (acc++[y.1]) y.2
def parseL (l:List UInt8):Except Flt (List (List UInt8)×List (Qcd 7)):=
 let F:=2*l.length+10
 match nextL l 0 with
 | .error f=>.error f
 | .ok s=>
  match reqMore l F F [] s with
  | .error f=>.error f
  | .ok y=>
   match cmdsMore (cmdL l y.1 F 7) F [] y.2 with
   | .error f=>.error f
   | .ok cs=>.ok (y.1,cs)
structure Msg where
 fr:List UInt8
 to:List UInt8
 size:Int
 hdrs:List (List UInt8×List UInt8)
structure SS where
 vs:Bool
 vals:List UInt8→Option (List UInt8)
 told:List (List UInt8)
 met:List (Int×List UInt8)
 disc:Bool
abbrev FZ:=Int×Int
def Qty (s:SS) (t:List (List UInt8)):SS:=⟨s.vs,s.vals,t,s.met,s.disc⟩
def QuY (s:SS) (l:List (Int×List UInt8)):SS:=⟨s.vs,s.vals,s.told,l,s.disc⟩
def QsV (s:SS):SS:=⟨s.vs,s.vals,s.told,s.met,true⟩
def ss0 (v:Bool):SS:=⟨v,fun _=>none,[],[],false⟩
def nmLen (l:List UInt8):Nat:=
 match l with
 | []=>0
 | c :: r=>if QaF c.toNat then 1 else Qbc (c :: r)
def QjY (s:SS) (name:List UInt8):List UInt8:=
 match name with
 | []=>[]
 | c :: r=>if QaF c.toNat then s.told.getD (c.toNat - 48) [] else (s.vals (smallL (c :: r))).getD []
def Qfc (l:List UInt8):Nat:=
 if l.take 2=[36,123]∧((l.drop 2).drop (nmLen (l.drop 2))).take 1=[125] then nmLen (l.drop 2) else 0
def standL (s:SS) (l:List UInt8):List UInt8×Nat:=
 if Qfc l=0 then (l.take 1,1) else (QjY s ((l.drop 2).take (Qfc l)),3+Qfc l)
def Qp0 (s:SS):Nat→List UInt8→List UInt8→List UInt8
 | 0,_,acc=>acc
 | n+1,l,acc=>if l≠[]∧acc.length < 1024 then Qp0 s n (l.drop (standL s l).2) (acc++(standL s l).1.take (1024 - acc.length)) else acc
def expL (s:SS) (l:List UInt8):List UInt8:=if s.vs then Qp0 s (l.length+1) l [] else l
def lookL (oct:Bool) (x:List UInt8):List UInt8:=if oct then x else smallL x
def Qvt (k:List UInt8):List UInt8→Bool
 | []=>k.isPrefixOf []
 | c :: v=>k.isPrefixOf (c :: v) || Qvt k v
def QrR (tag:Int) (oct:Bool) (v k:List UInt8):Bool:=
 if tag=1 then decide (lookL oct v=lookL oct k)
 else if tag=2 then Qvt (lookL oct k) (lookL oct v)
 else QaU (piecesL (lookL oct k)) (lookL oct v)
def wayT (tag:Int) (oct:Bool) (v k:List UInt8):Option (List (List UInt8)):=
 if tag=3 then some (toldTo v (piecesL (lookL oct k)) (placesL (piecesL (lookL oct k)) (lookL oct v) 0) (piecesL (lookL oct k)).length) else none
def Qr9 (tag:Int) (oct:Bool) (v:List UInt8):List (List UInt8)→Option (List UInt8)
 | []=>none
 | k :: r=>if QrR tag oct v k then some k else Qr9 tag oct v r
def Qo6 (tag:Int) (oct:Bool) (keys:List (List UInt8)):List (List UInt8)→Option (List UInt8×List UInt8)
 | []=>none
 | v :: r=>match Qr9 tag oct v keys with
  | some k=>some (v,k)
  | none=>Qo6 tag oct keys r
def askL (s:SS) (tag:Int) (oct:Bool) (vals keys:List (List UInt8)):Bool×SS:=
 match Qo6 tag oct (keys.map (expL s)) vals with
 | none=>(false,s)
 | some (v,k)=>(true,match wayT tag oct v k with
  | some t=>Qty s t
  | none=>s)
def Qce (h:List UInt8×List UInt8) (n:List UInt8):Bool:=decide (smallL h.1=smallL n)
def fieldsL (M:Msg) (names:List (List UInt8)):List (List UInt8):=names.flatMap fun n=>(M.hdrs.filter (Qce · n)).map (·.2)
def QiK (M:Msg) (parts:List (List UInt8)):List (List UInt8):=parts.flatMap fun p=>if smallL p=[102,114,111,109] then [M.fr] else if smallL p=[116,111] then [M.to] else []
def existsL (M:Msg) (names:List (List UInt8)):Bool:=names.all fun n=>M.hdrs.any (Qce · n)
def sizeB (M:Msg) (tag n:Int):Bool:=if tag=2 then decide (M.size < n) else decide (n < M.size)
def Qu2 (c:UInt8):Bool:=Qbg c || c == 45 || c == 46
def Qdh (x:List UInt8):Bool:=!x.isEmpty && (decide (x.length≤16) && (x.head? != some 46 && x.all Qu2))
def Qcq (x:List UInt8):Bool:=decide (3≤x.length) && (decide (x.length≤32) && (decide (x.count 64=1) && (x.all (fun c=>!Qbe c.toNat) && (x.head? != some 64 && x.getLast? != some 64))))
def cutArg (kind:Int) (arg:List UInt8):List UInt8:=if kind=4 then arg.take 48 else arg
def addL (met:List (Int×List UInt8)) (kind:Int) (arg:List UInt8):Int×List (Int×List UInt8):=
 if kind=2∧Qdh arg=false then (8,met)
 else if kind=3∧Qcq arg=false then (9,met)
 else if (kind,cutArg kind arg)∈met then (0,met)
 else if met≠[]∧(kind=4∨(met.headD (0,[])).1=4) then (10,met)
 else if met.length=6 then (11,met)
 else (0,met++[(kind,cutArg kind arg)])
def Qu5 (s:SS):List (Int×List UInt8):=if s.met=[]∧s.disc=false then [(1,[])] else s.met
def QtX (c:UInt8):UInt8:=if Qix c.toNat then c - 97+65 else c
def capL (l:List UInt8):List UInt8:=l.map QtX
def Qn5 (tag:Int) (x:List UInt8):List UInt8:=
 if tag=1 then smallL x else if tag=2 then capL x else if tag=3 then Lib.decDigits x.length else x
def Qvu (s:SS) (name:List UInt8) (tag:Int) (said:List UInt8):SS:=
 ⟨s.vs,fun x=>if x=name then some ((Qn5 tag (expL s said)).take 48) else s.vals x,s.told,s.met,s.disc⟩
structure Ins where
 op:Int
 n:Int
 tag:Int
 oct:Bool
 a:List (List UInt8)
 b:List (List UInt8)
 at_:Int
structure MS where
 st:SS
 stack:List Bool
 now:Nat
 next:Nat
def Qlm (v:Bool) (m:MS):Except FZ MS:=if m.stack.length < 8 then .ok ⟨m.st,m.stack++[v],m.now,m.next⟩ else .error (12,m.now)
def Qo9 (m:MS):MS:=⟨m.st,m.stack.dropLast,m.now,m.next⟩
def goL (m:MS) (n:Nat):MS:=⟨m.st,m.stack,m.now,n⟩
def stL (m:MS) (s:SS):MS:=⟨s,m.stack,m.now,m.next⟩
def atL (m:MS):MS:=⟨m.st,m.stack,m.next,m.next+1⟩
def topL (m:MS):Bool:=m.stack.getLastD false
def Qjn (count:Nat) (m:MS) (n:Int):Bool:=decide (0≤n) && decide (n≤(count:Int) - m.next)
def Qtp (i:Ins) (m:MS) (arg:List UInt8):Except FZ MS:=
 if (addL m.st.met i.tag (expL m.st arg)).1=0 then .ok (stL m (QuY m.st (addL m.st.met i.tag (expL m.st arg)).2)) else .error ((addL m.st.met i.tag (expL m.st arg)).1,i.at_)
def QrC (r:Bool×SS) (m:MS):Except FZ MS:=Qlm r.1 (stL m r.2)
def Qc2 (m:MS):Except FZ MS:=.error (12,m.now)
def Qgf (i:Ins) (m:MS):Except FZ MS:=if i.n=0∨i.n=1 then Qlm (decide (i.n=1)) m else Qc2 m
def QmA (m:MS):Except FZ MS:=if m.stack=[] then Qc2 m else Qlm (!topL m) (Qo9 m)
def Qgl (count:Nat) (i:Ins) (m:MS):Except FZ MS:=if Qjn count m i.n then .ok (goL m (m.next+i.n.toNat)) else Qc2 m
def doCond (taken:Bool) (count:Nat) (i:Ins) (m:MS):Except FZ MS:=
 if Qjn count m i.n then
  (if m.stack=[] then Qc2 m else .ok (if topL m=taken then goL (Qo9 m) (m.next+i.n.toNat) else Qo9 m))
 else Qc2 m
def doAsk (vals:List (List UInt8)) (i:Ins) (m:MS):Except FZ MS:=
 if 1≤i.tag∧i.tag≤3 then QrC (askL m.st i.tag i.oct vals i.b) m else Qc2 m
def QgD (M:Msg) (i:Ins) (m:MS):Except FZ MS:=if i.tag=1∨i.tag=2 then Qlm (sizeB M i.tag i.n) m else Qc2 m
def QfU (i:Ins) (m:MS):Except FZ MS:=
 if i.tag=1 then Qtp i m [] else if 2≤i.tag∧i.tag≤4∧i.a≠[] then Qtp i m (i.a.headD []) else Qc2 m
def Qle (i:Ins) (m:MS):Except FZ MS:=
 if 0≤i.tag∧i.tag≤3∧i.a≠[]∧i.b≠[] then .ok (stL m (Qvu m.st (i.a.headD []) i.tag (i.b.headD []))) else Qc2 m
def stepL (M:Msg) (count:Nat) (i:Ins) (m:MS):Except FZ MS:=
 if i.op=1 then Qgf i m
 else if i.op=2 then QmA m
 else if i.op=3 then Qgl count i m
 else if i.op=4 then doCond true count i m
 else if i.op=5 then doCond false count i m
 else if i.op=6 then doAsk (fieldsL M (i.a.map (expL m.st))) i m
 else if i.op=7 then doAsk (QiK M i.a) i m
 else if i.op=8 then doAsk (i.a.map (expL m.st)) i m
 else if i.op=9 then Qlm (existsL M (i.a.map (expL m.st))) m
 else if i.op=10 then QgD M i m
 else if i.op=11 then QfU i m
 else if i.op=12 then Qle i m
 else if i.op=13 then .ok (stL m (QsV m.st))
 else if i.op=14 then .ok (goL m count)
 else Qc2 m
def QuD:Ins:=⟨0,0,0,false,[],[],0⟩
def loopL (M:Msg) (code:List Ins):Nat→MS→Nat→Except FZ MS×Nat
 | 0,m,d=>(.ok m,d)
 | f+1,m,d=>
  if m.next < code.length then
   (match stepL M code.length (code.getD m.next QuD) (atL m) with
    | .error e=>(.error e,d+1)
    | .ok m'=>loopL M code f m' (d+1))
  else (.ok m,d)
def ms0 (v:Bool):MS:=⟨ss0 v,[],0,0⟩
def execL (v:Bool) (code:List Ins) (M:Msg):List (Int×List UInt8)×Nat×Option FZ:=
 if 400 < code.length then ([(1,[])],0,some (12,400))
 else match loopL M code code.length (ms0 v) 0 with
  | (.error e,d)=>([(1,[])],d,some e)
  | (.ok m,d)=>(Qu5 m.st,d,none)
theorem Qfe {v:Bool} {m m':MS} (h:Qlm v m=.ok m'):m'.next=m.next:=by
 unfold Qlm at h
 split at h
 ·cases h;rfl
 ·cases h
theorem Qlo {i:Ins} {m m':MS} {x:List UInt8} (h:Qtp i m x=.ok m'):m'.next=m.next:=by
 unfold Qtp at h
 split at h
 ·cases h;rfl
 ·cases h
theorem Qo0 {count:Nat} {m:MS} {n:Int} (h:Qjn count m n=true):m.next+n.toNat≤count:=by
 unfold Qjn at h
 simp at h
 omega
theorem Qqa {M:Msg} {count:Nat} {i:Ins} {m m':MS} (h:stepL M count i m=.ok m') (hn:m.next≤count):m.next≤m'.next∧m'.next≤count:=by
 have key:∀ k:Nat,k=m.next→k=m'.next→m.next≤m'.next∧m'.next≤count:=fun k h1 h2=>by omega
 unfold stepL at h
 by_cases h1:i.op=1
 ·rw [if_pos h1] at h
  unfold Qgf Qc2 at h
  split at h
  ·exact key _ rfl (Qfe h).symm
  ·cases h
 rw [if_neg h1] at h
 by_cases h1:i.op=2
 ·rw [if_pos h1] at h
  unfold QmA Qc2 at h
  split at h
  ·cases h
  ·exact key _ rfl (Qfe h).symm
 rw [if_neg h1] at h
 by_cases h1:i.op=3
 ·rw [if_pos h1] at h
  unfold Qgl Qc2 at h
  split at h
  ·next hm=>cases h;exact ⟨Nat.le_add_right _ _,Qo0 hm⟩
  ·cases h
 rw [if_neg h1] at h
 have hc:∀ tk,doCond tk count i m=.ok m'→m.next≤m'.next∧m'.next≤count:=fun tk h=>by
  unfold doCond Qc2 at h
  split at h
  ·next hm=>
   split at h
   ·cases h
   ·cases h
    split
    ·exact ⟨Nat.le_add_right _ _,Qo0 hm⟩
    ·exact ⟨Nat.le_refl _,hn⟩
  ·cases h
 by_cases h1:i.op=4
 ·rw [if_pos h1] at h;exact hc _ h
 rw [if_neg h1] at h
 by_cases h1:i.op=5
 ·rw [if_pos h1] at h;exact hc _ h
 rw [if_neg h1] at h
 have ha:∀ vals,doAsk vals i m=.ok m'→m.next≤m'.next∧m'.next≤count:=fun vals h=>by
  unfold doAsk Qc2 QrC at h
  split at h
  ·exact key _ rfl (Qfe h).symm
  ·cases h
 by_cases h1:i.op=6
 ·rw [if_pos h1] at h;exact ha _ h
 rw [if_neg h1] at h
 by_cases h1:i.op=7
 ·rw [if_pos h1] at h;exact ha _ h
 rw [if_neg h1] at h
 by_cases h1:i.op=8
 ·rw [if_pos h1] at h;exact ha _ h
 rw [if_neg h1] at h
 by_cases h1:i.op=9
 ·rw [if_pos h1] at h;exact key _ rfl (Qfe h).symm
 rw [if_neg h1] at h
 by_cases h1:i.op=10
 ·rw [if_pos h1] at h
  unfold QgD Qc2 at h
  split at h
  ·exact key _ rfl (Qfe h).symm
  ·cases h
 rw [if_neg h1] at h
 by_cases h1:i.op=11
 ·rw [if_pos h1] at h
  unfold QfU Qc2 at h
  split at h
  ·exact key _ rfl (Qlo h).symm
  ·split at h
   ·exact key _ rfl (Qlo h).symm
   ·cases h
 rw [if_neg h1] at h
 by_cases h1:i.op=12
 ·rw [if_pos h1] at h
  unfold Qle Qc2 at h
  split at h
  ·cases h;exact ⟨Nat.le_refl _,hn⟩
  ·cases h
 rw [if_neg h1] at h
 by_cases h1:i.op=13
 ·rw [if_pos h1] at h;cases h;exact ⟨Nat.le_refl _,hn⟩
 rw [if_neg h1] at h
 by_cases h1:i.op=14
 ·rw [if_pos h1] at h;cases h;exact ⟨hn,Nat.le_refl _⟩
 rw [if_neg h1] at h
 cases h
end Go.Proofs.YtbiclelojbfnbaaGreatDoor
