import Derived.Lib.Index
import Derived.Lib.Bytealg
import Derived.Lib.Strings
import Derived.Lib.SlicesS
namespace Go.Proofs.YtbiclelojbfnbaaGreatDoor
set_option linter.unusedVariables false
set_option linter.unusedSimpArgs false
set_option maxRecDepth 100000
set_option maxHeartbeats 4000000
def isDigitN (c:Int):Bool:=decide (48≤c) && decide (c≤57)
def isBlankN (c:Int):Bool:=c == 32 || c == 9 || c == 10 || c == 13
def isCapN (c:Int):Bool:=decide (65≤c) && decide (c≤90)
def isSmN (c:Int):Bool:=decide (97≤c) && decide (c≤122)
def isLetN (c:Int):Bool:=(decide (97≤c) && decide (c≤122)) || isCapN c || c == 95
theorem isLetN_eq (c:Int):isLetN c=(isSmN c || isCapN c || c == 95):=rfl
def letdig (c:UInt8):Bool:=isLetN c.toNat || isDigitN c.toNat
def nameTail (l:List UInt8):Nat:=(l.takeWhile letdig).length
def nameLen:List UInt8→Nat
 | []=>0
 | c :: r=>if isLetN c.toNat then 1+nameTail r else 0
def isNameL (l:List UInt8):Bool:=!l.isEmpty && nameLen l == l.length
def smallB (c:UInt8):UInt8:=if isCapN c.toNat then c - 65+97 else c
def smallL (l:List UInt8):List UInt8:=l.map smallB
theorem nameTail_cons (c:UInt8) (r:List UInt8):nameTail (c :: r)=if letdig c then 1+nameTail r else 0:=by
 unfold nameTail
 rw [List.takeWhile_cons]
 split
 ·rw [List.length_cons];omega
 ·rfl
theorem nameTail_le (l:List UInt8):nameTail l≤l.length:=by
 induction l with
 | nil=>simp [nameTail]
 | cons c r ih=>rw [nameTail_cons];split <;> simp <;> omega
theorem nameLen_le (l:List UInt8):nameLen l≤l.length:=by
 cases l with
 | nil=>simp [nameLen]
 | cons c r=>have:=nameTail_le r;simp only [nameLen];split <;> simp <;> omega
structure Flt where
 err:Nat
 pos:Nat
structure Wd where
 kind:Nat
 pos:Nat
 spelt:List UInt8
 said:List UInt8
 num:Nat
def lineLen (l:List UInt8):Nat:=if Lib.indexByte l 10 < 0 then l.length else (Lib.indexByte l 10).toNat+1
theorem indexByte_lt (l:List UInt8) (c:UInt8):Lib.indexByte l c < l.length:=by
 induction l with
 | nil=>simp [Lib.indexByte]
 | cons b l ih=>
  unfold Lib.indexByte
  rw [List.length_cons]
  split
  ·omega
  ·split <;> omega
theorem index_room (l sub:List UInt8):Lib.index l sub < 0∨Lib.index l sub+sub.length≤l.length:=by
 induction l with
 | nil=>
  unfold Lib.index
  cases sub with
  | nil=>right;decide
  | cons a t=>left;simp
 | cons b l ih=>
  unfold Lib.index
  split
  ·rename_i h
   right
   have:=(List.isPrefixOf_iff_prefix.1 h).length_le
   simp at this ⊢
   omega
  ·split
   ·left;decide
   ·have:=Lib.index_ge l sub
    rename_i h1 h2
    have h3:¬ Lib.index l sub = -1:=by simpa using h2
    simp
    omega
theorem lineLen_le (l:List UInt8):lineLen l≤l.length:=by
 have:=indexByte_lt l 10
 unfold lineLen;split <;> omega
theorem lineLen_pos (c:UInt8) (l:List UInt8):1≤lineLen (c :: l):=by
 unfold lineLen;split
 ·simp
 ·omega
def skipF:Nat→List UInt8→Nat→Except Flt Nat
 | 0,_,p=>.ok p
 | _+1,[],p=>.ok p
 | f+1,c :: r,p=>
  if isBlankN c.toNat then skipF f r (p+1)
  else if c.toNat=35 then skipF f ((c :: r).drop (lineLen (c :: r))) (p+lineLen (c :: r))
  else if Lib.hasPrefix (c :: r) [47,42] then
   if Lib.index (r.drop 1) [42,47] < 0 then .error ⟨2,p⟩
   else skipF f ((c :: r).drop (4+(Lib.index (r.drop 1) [42,47]).toNat)) (p+(4+(Lib.index (r.drop 1) [42,47]).toNat))
  else .ok p
def spellL (k:Nat) (rest:List UInt8) (p n:Nat):Wd×Nat:=(⟨k,p,smallL (rest.take n),[],0⟩,p+n)
def digLen (l:List UInt8):Nat:=(l.takeWhile fun c=>isDigitN c.toNat).length
def numStep (v:Nat) (c:UInt8):Nat:=min (v*10+(c.toNat - 48)) 2147483648
def numVal (l:List UInt8):Nat:=(l.takeWhile fun c=>isDigitN c.toNat).foldl numStep 0
def isM (c:UInt8):Bool:=c.toNat == 77 || c.toNat == 109
def isK (c:UInt8):Bool:=c.toNat == 75 || c.toNat == 107
def scanNumL (rest:List UInt8) (p:Nat):Except Flt (Wd×Nat):=
 let n:=digLen rest
 let v:=numVal rest
 let c:=rest.getD n 0
 let v':=if isM c then v*1048576 else if isK c then v*1024 else v
 let n':=if isM c || isK c then n+1 else n
 if letdig (rest.getD n' 0) then .error ⟨2,p⟩
 else if 2147483647 < v' then .error ⟨3,p⟩
 else .ok (⟨4,p,[],[],v'⟩,p+n')
def quoteL:List UInt8→Option (List UInt8×Nat)
 | []=>none
 | c :: r=>
  if c.toNat=34 then some ([],1)
  else if c.toNat=92 then
   match r with
   | []=>none
   | d :: r'=>(quoteL r').map fun x=>(d :: x.1,x.2+2)
  else (quoteL r).map fun x=>(c :: x.1,x.2+1)
def quoteR (r:List UInt8) (p:Nat):Except Flt (Wd×Nat):=
 match quoteL r with
 | none=>.error ⟨2,p⟩
 | some x=>.ok (⟨5,p,[],x.1,0⟩,p+(1+x.2))
def isSign (c:UInt8):Bool:=decide (0≤Lib.indexByte [59,44,40,41,123,125,91,93] c)
def scanL (rest:List UInt8) (p:Nat):Except Flt (Wd×Nat):=
 match rest with
 | []=>.ok (⟨0,p,[],[],0⟩,p)
 | c :: r=>
  if isLetN c.toNat then .ok (spellL 1 (c :: r) p (nameLen (c :: r)))
  else if c.toNat=58 then
   if nameLen r=0 then .error ⟨2,p⟩ else .ok (spellL 2 (c :: r) p (1+nameLen r))
  else if isDigitN c.toNat then scanNumL (c :: r) p
  else if c.toNat=34 then quoteR r p
  else if isSign c then .ok (spellL 3 (c :: r) p 1)
  else .error ⟨2,p⟩
def nextL (l:List UInt8) (p:Nat):Except Flt (Wd×Nat):=
 match skipF (l.length+1) (l.drop p) p with
 | .error f=>.error f
 | .ok n=>scanL (l.drop n) n
theorem skipF_le (l:List UInt8):∀ (f p n:Nat),p≤l.length→skipF f (l.drop p) p=.ok n→p≤n∧n≤l.length
 | 0,p,n,hp,h=>by
  simp only [skipF] at h
  cases h
  exact ⟨Nat.le_refl _,hp⟩
 | f+1,p,n,hp,h=>by
  by_cases hlt:p < l.length
  ·rw [List.drop_eq_getElem_cons hlt] at h
   simp only [skipF] at h
   split at h
   ·have:=skipF_le l f (p+1) n (by omega) h
    omega
   ·rw [← List.drop_eq_getElem_cons hlt] at h
    split at h
    ·rw [List.drop_drop] at h
     have h1:=lineLen_le (l.drop p)
     rw [List.length_drop] at h1
     have:=skipF_le l f _ n (by omega) h
     omega
    ·split at h
     ·split at h
      ·cases h
      ·rename_i hp2 hi
       have e:List.drop 1 (List.drop (p+1) l)=List.drop (p+1+1) l:=by rw [List.drop_drop]
       rw [e] at h hi
       rw [List.drop_drop] at h
       have h1:=index_room (l.drop (p+1+1)) [42,47]
       rw [List.length_drop] at h1
       have h2:2≤(l.drop p).length:=by
        have:=(List.isPrefixOf_iff_prefix.1 hp2).length_le
        simpa using this
       rw [List.length_drop] at h2
       have h3:Lib.index (l.drop (p+1+1)) [42,47]+2≤(l.length - (p+1+1):Nat):=by
        rcases h1 with h1 | h1
        ·exact absurd h1 hi
        ·simpa using h1
       have:=skipF_le l f _ n (by omega) h
       omega
     ·cases h
      exact ⟨Nat.le_refl _,hp⟩
  ·rw [List.drop_of_length_le (by omega)] at h
   simp only [skipF] at h
   cases h
   exact ⟨Nat.le_refl _,hp⟩
theorem quoteL_le:∀ (r:List UInt8) (x:List UInt8×Nat),quoteL r=some x→1≤x.2∧x.2≤r.length
 | [],x,h=>by cases h
 | c :: r,x,h=>by
  rw [quoteL.eq_def] at h
  dsimp only at h
  split at h
  ·cases h;simp
  ·split at h
   ·cases r with
    | nil=>cases h
    | cons d r'=>
     dsimp only at h
     cases hq:quoteL r' with
     | none=>rw [hq] at h;cases h
     | some y=>
      have:=quoteL_le r' y hq
      rw [hq] at h
      cases h
      simp;omega
   ·cases hq:quoteL r with
    | none=>rw [hq] at h;cases h
    | some y=>
     have:=quoteL_le r y hq
     rw [hq] at h
     cases h
     simp;omega
theorem quoteL_said:∀ (r:List UInt8) (x:List UInt8×Nat),quoteL r=some x→x.1.length < x.2
 | [],x,h=>by cases h
 | c :: r,x,h=>by
  rw [quoteL.eq_def] at h
  dsimp only at h
  split at h
  ·cases h;simp
  ·split at h
   ·cases r with
    | nil=>cases h
    | cons d r'=>
     dsimp only at h
     cases hq:quoteL r' with
     | none=>rw [hq] at h;cases h
     | some y=>
      have:=quoteL_said r' y hq
      rw [hq] at h
      cases h
      simp;omega
   ·cases hq:quoteL r with
    | none=>rw [hq] at h;cases h
    | some y=>
     have:=quoteL_said r y hq
     rw [hq] at h
     cases h
     simp;omega
theorem digLen_le0 (l:List UInt8):digLen l≤l.length:=by
 unfold digLen;exact (List.takeWhile_prefix _).length_le
theorem getD_zero_of_le (l:List UInt8) (n:Nat) (h:l.length≤n):l.getD n 0=0:=by
 rw [List.getD_eq_getElem?_getD,List.getElem?_eq_none h];rfl
theorem scanL_le (l:List UInt8) (p:Nat) (hp:p≤l.length) (x:Wd×Nat) (h:scanL (l.drop p) p=.ok x) :
  x.1.pos=p∧x.2≤l.length∧p≤x.2∧(x.1.kind=0→p=l.length∧x.1.spelt=[])∧(x.1.kind≠0→p < x.2):=by
 by_cases hlt:p < l.length
 ·obtain ⟨c,r,hcr,hrl⟩:∃ c r,l.drop p=c :: r∧r.length=l.length - (p+1):=⟨_,_,List.drop_eq_getElem_cons hlt,by simp⟩
  rw [hcr] at h
  clear hcr
  unfold scanL at h
  dsimp only at h
  have hn:=nameLen_le (c :: r)
  have hn1:=nameLen_le r
  simp only [List.length_cons] at hn hn1
  split at h
  ·rename_i hl
   have hpos:1≤nameLen (c :: r):=by
    simp only [nameLen];rw [if_pos hl];omega
   cases h
   simp [spellL];omega
  ·split at h
   ·split at h
    ·cases h
    ·cases h;simp [spellL];omega
   ·split at h
    ·rename_i hg
     have hd:=digLen_le0 (c :: r)
     have hd1:1≤digLen (c :: r):=by
      simp [digLen,hg]
     simp only [List.length_cons] at hd
     obtain ⟨n',v',hn',he⟩:∃ n' v':Nat,n'=(if isM ((c :: r).getD (digLen (c :: r)) 0) || isK ((c :: r).getD (digLen (c :: r)) 0) then digLen (c :: r)+1 else digLen (c :: r))∧
       scanNumL (c :: r) p=if letdig ((c :: r).getD n' 0) then .error ⟨2,p⟩ else if 2147483647 < v' then .error ⟨3,p⟩ else .ok (⟨4,p,[],[],v'⟩,p+n'):=⟨_,_,rfl,rfl⟩
     rw [he] at h
     have hn2:n'≤l.length - p∧1≤n':=by
      by_cases hm:(isM ((c :: r).getD (digLen (c :: r)) 0) || isK ((c :: r).getD (digLen (c :: r)) 0))=true
      ·have hlt2:digLen (c :: r) < (c :: r).length:=by
        apply Classical.byContradiction
        intro hge
        rw [getD_zero_of_le _ _ (by omega)] at hm
        exact absurd hm (by decide)
       simp only [List.length_cons] at hlt2
       rw [hn',if_pos hm];omega
      ·rw [hn',if_neg hm];omega
     split at h
     ·cases h
     ·split at h
      ·cases h
      ·cases h
       simp;omega
    ·split at h
     ·unfold quoteR at h
      cases hq:quoteL r with
      | none=>rw [hq] at h;cases h
      | some y=>
       rw [hq] at h
       have:=quoteL_le _ _ hq
       cases h
       simp;omega
     ·split at h
      ·cases h;simp [spellL];omega
      ·cases h
 ·have e:p=l.length:=by omega
  rw [List.drop_of_length_le (by omega)] at h
  unfold scanL at h
  dsimp only at h
  cases h
  simp;omega
theorem scanL_small (l:List UInt8) (p:Nat) (x:Wd×Nat) (h:scanL (l.drop p) p=.ok x):x.1.said.length≤l.length∧x.1.num≤2147483647:=by
 have hl:(l.drop p).length≤l.length:=by simp
 generalize l.drop p=r at h hl
 cases r with
 | nil=>unfold scanL at h;dsimp only at h;cases h;simp
 | cons c r=>
  unfold scanL at h
  dsimp only at h
  split at h
  ·cases h;simp [spellL]
  ·split at h
   ·split at h
    ·cases h
    ·cases h;simp [spellL]
   ·split at h
    ·obtain ⟨n',v',he⟩:∃ n' v':Nat,scanNumL (c :: r) p=if letdig ((c :: r).getD n' 0) then .error ⟨2,p⟩ else if 2147483647 < v' then .error ⟨3,p⟩ else .ok (⟨4,p,[],[],v'⟩,p+n'):=⟨_,_,rfl⟩
     rw [he] at h
     split at h
     ·cases h
     ·split at h
      ·cases h
      ·cases h;simp;omega
    ·split at h
     ·unfold quoteR at h
      cases hq:quoteL r with
      | none=>rw [hq] at h;cases h
      | some y=>
       rw [hq] at h
       have h1:=quoteL_le _ _ hq
       have h2:=quoteL_said _ _ hq
       cases h
       simp at hl ⊢;omega
     ·split at h
      ·cases h;simp [spellL]
      ·cases h
theorem nextL_small (l:List UInt8) (p:Nat) (x:Wd×Nat) (h:nextL l p=.ok x):x.1.said.length≤l.length∧x.1.num≤2147483647:=by
 unfold nextL at h
 cases hs:skipF (l.length+1) (l.drop p) p with
 | error f=>rw [hs] at h;cases h
 | ok n=>rw [hs] at h;exact scanL_small l n x h
def NoName (sp:List UInt8):Prop:=∀ c r,sp=c :: r→isLetN c.toNat=false
theorem indexByte_mem:∀ (l:List UInt8) (c:UInt8),0≤Lib.indexByte l c→c∈l
 | [],c,h=>by simp [Lib.indexByte] at h
 | b :: l,c,h=>by
  unfold Lib.indexByte at h
  split at h
  ·rename_i hb
   have:b=c:=by simpa using hb
   subst this;simp
  ·split at h
   ·exact absurd h (by decide)
   ·have h1:=Lib.indexByte_ge l c
    rename_i h2
    have h3:¬ Lib.indexByte l c = -1:=by simpa using h2
    have:=indexByte_mem l c (by omega)
    simp [this]
theorem sign_noLetter (c:UInt8) (h:isSign c=true):isLetN (smallB c).toNat=false:=by
 have hm:=indexByte_mem _ _ (of_decide_eq_true h)
 simp at hm
 rcases hm with h | h | h | h | h | h | h | h <;> subst h <;> decide
theorem scanL_noName (l:List UInt8) (p:Nat) (x:Wd×Nat) (h:scanL (l.drop p) p=.ok x) (hk:¬ x.1.kind=1):NoName x.1.spelt:=by
 generalize l.drop p=r at h
 cases r with
 | nil=>unfold scanL at h;dsimp only at h;cases h;intro c r e;cases e
 | cons c r=>
  unfold scanL at h
  dsimp only at h
  split at h
  ·cases h;exact absurd rfl hk
  ·split at h
   ·rename_i h58
    split at h
    ·cases h
    ·cases h
     intro c' r' e
     rw [show 1+nameLen r=nameLen r+1 from by omega] at e
     simp [spellL,smallL,List.take_succ_cons] at e
     obtain ⟨e,-⟩:=e
     subst e
     have:c=58:=UInt8.toNat_inj.1 h58
     subst this
     decide
   ·split at h
    ·obtain ⟨n',v',he⟩:∃ n' v':Nat,scanNumL (c :: r) p=if letdig ((c :: r).getD n' 0) then .error ⟨2,p⟩ else if 2147483647 < v' then .error ⟨3,p⟩ else .ok (⟨4,p,[],[],v'⟩,p+n'):=⟨_,_,rfl⟩
     rw [he] at h
     split at h
     ·cases h
     ·split at h
      ·cases h
      ·cases h;intro c r e;cases e
    ·split at h
     ·unfold quoteR at h
      cases hq:quoteL r with
      | none=>rw [hq] at h;cases h
      | some y=>rw [hq] at h;cases h;intro c r e;cases e
     ·split at h
      ·rename_i hs
       cases h
       intro c' r' e
       simp [spellL,smallL] at e
       obtain ⟨e,-⟩:=e
       subst e
       exact sign_noLetter c hs
      ·cases h
theorem nextL_noName (l:List UInt8) (p:Nat) (x:Wd×Nat) (h:nextL l p=.ok x) (hk:¬ x.1.kind=1):NoName x.1.spelt:=by
 unfold nextL at h
 cases hs:skipF (l.length+1) (l.drop p) p with
 | error f=>rw [hs] at h;cases h
 | ok n=>rw [hs] at h;exact scanL_noName l n x h hk
theorem nextL_le (l:List UInt8) (p:Nat) (hp:p≤l.length) (x:Wd×Nat) (h:nextL l p=.ok x) :
  x.1.pos≤l.length∧x.2≤l.length∧p≤x.2∧(x.1.kind=0→x.1.spelt=[])∧(x.1.kind≠0→p < x.2):=by
 unfold nextL at h
 cases hs:skipF (l.length+1) (l.drop p) p with
 | error f=>rw [hs] at h;cases h
 | ok n=>
  rw [hs] at h
  have h1:=skipF_le l _ p n hp hs
  have h2:=scanL_le l n h1.2 x h
  refine ⟨by omega,h2.2.1,by omega,fun hk=>(h2.2.2.2.1 hk).2,fun hk=>by have:=h2.2.2.2.2 hk;omega⟩
def whichL:List (List UInt8)→List UInt8→Nat
 | [],_=>0
 | s :: r,x=>if s=x then 1 else if whichL r x=0 then 0 else whichL r x+1
def strA (x:List UInt8):ByteArray:=⟨x.toArray⟩
theorem strA_inj {x y:List UInt8} (h:strA x=strA y):x=y:=by
 have:=congrArg (fun b:ByteArray=>b.data.toList) h
 simpa [strA] using this
theorem idxFrom_which (x:List UInt8):∀ (zs:List (List UInt8)) (i:Nat),Lib.idxFromS (zs.map strA) (strA x) i=if whichL zs x=0 then -1 else (i:Int)+whichL zs x - 1
 | [],i=>rfl
 | s :: r,i=>by
  rw [List.map_cons]
  unfold whichL Lib.idxFromS
  by_cases h:s=x
  ·subst h
   simp
  ·have h':¬ strA s=strA x:=fun e=>h (strA_inj e)
   rw [if_neg h,if_neg h',idxFrom_which x r (i+1)]
   by_cases h0:whichL r x=0
   ·simp [h0]
   ·simp [h0];omega
theorem idx_which (zs:List (List UInt8)) (x:List UInt8):Lib.idxOfS (zs.map strA) (strA x)+1=whichL zs x:=by
 unfold Lib.idxOfS
 rw [idxFrom_which]
 split <;> omega
theorem contains_which (zs:List (List UInt8)) (x:List UInt8):Lib.containsS (zs.map strA) (strA x)=decide (0 < whichL zs x):=by
 unfold Lib.containsS
 have:=idx_which zs x
 by_cases h:0 < whichL zs x
 ·simp [h];omega
 ·simp [h];omega
theorem whichL_le (zs:List (List UInt8)) (x:List UInt8):whichL zs x≤zs.length:=by
 induction zs with
 | nil=>simp [whichL]
 | cons s r ih=>
  unfold whichL
  split
  ·simp
  ·split <;> simp <;> omega
abbrev PS:=Wd×Nat
def mayL (l:List UInt8) (zs:List (List UInt8)) (s:PS):Except Flt (Nat×PS):=
 if whichL zs s.1.spelt=0 then .ok (0,s) else
 match nextL l s.2 with
 | .error f=>.error f
 | .ok s'=>.ok (whichL zs s.1.spelt,s')
def passL (l:List UInt8) (zs:List (List UInt8)) (s:PS):Except Flt (Nat×PS):=
 if whichL zs s.1.spelt=0 then .error ⟨4,s.1.pos⟩ else
 match nextL l s.2 with
 | .error f=>.error f
 | .ok s'=>.ok (whichL zs s.1.spelt,s')
def stringL (l:List UInt8) (chk:List UInt8→Nat) (s:PS):Except Flt (List UInt8×PS):=
 if s.1.kind=5 then
  if chk s.1.said=0 then
   match nextL l s.2 with
   | .error f=>.error f
   | .ok s'=>.ok (s.1.said,s')
  else .error ⟨chk s.1.said,s.1.pos⟩
 else .error ⟨4,s.1.pos⟩
def mu (n:Nat) (s:PS):Nat:=2*(n - s.2)+(if s.1.kind=0 then 0 else 1)
theorem nextL_mu {l:List UInt8} {s y:PS} (hp:s.2≤l.length) (hk:¬ s.1.kind=0) (h:nextL l s.2=.ok y):mu l.length y < mu l.length s:=by
 obtain ⟨h1,h2,h3,h4,h5⟩:=nextL_le l s.2 hp y h
 unfold mu
 rw [if_neg hk]
 by_cases h0:y.1.kind=0
 ·rw [if_pos h0];omega
 ·have:=h5 h0
  rw [if_neg h0];omega
theorem whichL_nil (zs:List (List UInt8)) (h:∀ z∈zs,z≠[]):whichL zs []=0:=by
 induction zs with
 | nil=>rfl
 | cons a r ih=>
  unfold whichL
  rw [if_neg (h a (by simp)),if_pos (ih fun z hz=>h z (by simp [hz]))]
theorem passL_mu {l:List UInt8} {zs:List (List UInt8)} {s:PS} {y:Nat×PS} (hp:s.2≤l.length) (he:s.1.kind=0→s.1.spelt=[]) (hz:∀ z∈zs,z≠[]) (h:passL l zs s=.ok y):mu l.length y.2 < mu l.length s∧y.1=whichL zs s.1.spelt∧¬ y.1=0:=by
 unfold passL at h
 split at h
 ·cases h
 ·rename_i h0
  have hk:¬ s.1.kind=0:=fun e=>h0 (by rw [he e];exact whichL_nil zs hz)
  cases hn:nextL l s.2 with
  | error f=>rw [hn] at h;cases h
  | ok s'=>rw [hn] at h;cases h;exact ⟨nextL_mu hp hk hn,rfl,h0⟩
theorem mayL_mu {l:List UInt8} {zs:List (List UInt8)} {s:PS} {y:Nat×PS} (hp:s.2≤l.length) (he:s.1.kind=0→s.1.spelt=[]) (hz:∀ z∈zs,z≠[]) (h:mayL l zs s=.ok y):mu l.length y.2≤mu l.length s∧(¬ y.1=0→mu l.length y.2 < mu l.length s)∧y.1=whichL zs s.1.spelt∧(y.1=0→y.2=s):=by
 unfold mayL at h
 split at h
 ·rename_i h0
  cases h
  exact ⟨Nat.le_refl _,fun h=>absurd rfl h,h0.symm,fun _=>rfl⟩
 ·rename_i h0
  have hk:¬ s.1.kind=0:=fun e=>h0 (by rw [he e];exact whichL_nil zs hz)
  cases hn:nextL l s.2 with
  | error f=>rw [hn] at h;cases h
  | ok s'=>
   rw [hn] at h;cases h
   exact ⟨Nat.le_of_lt (nextL_mu hp hk hn),fun _=>nextL_mu hp hk hn,rfl,fun e=>absurd e h0⟩
theorem stringL_mu {l:List UInt8} {chk:List UInt8→Nat} {s:PS} {y:List UInt8×PS} (hp:s.2≤l.length) (h:stringL l chk s=.ok y):mu l.length y.2 < mu l.length s∧y.1=s.1.said:=by
 unfold stringL at h
 split at h
 ·rename_i hk
  split at h
  ·cases hn:nextL l s.2 with
   | error f=>rw [hn] at h;cases h
   | ok s'=>rw [hn] at h;cases h;exact ⟨nextL_mu hp (by omega) hn,rfl⟩
  ·cases h
 ·cases h
def moreL (l:List UInt8) (chk:List UInt8→Nat):Nat→List (List UInt8)→PS→Except Flt (List (List UInt8)×PS)
 | 0,acc,s=>.ok (acc,s)
 | f+1,acc,s=>
  match passL l [[44],[93]] s with
  | .error e=>.error e
  | .ok y=>
   if y.1=1 then
    match stringL l chk y.2 with
    | .error e=>.error e
    | .ok z=>moreL l chk f (acc++[z.1]) z.2
   else .ok (acc,y.2)
def stringsL (l:List UInt8) (chk:List UInt8→Nat) (fuel:Nat) (s:PS):Except Flt (List (List UInt8)×PS):=
 match mayL l [[91]] s with
 | .error e=>.error e
 | .ok y=>
  match stringL l chk y.2 with
  | .error e=>.error e
  | .ok z=>if y.1=0 then .ok ([z.1],z.2) else moreL l chk fuel [z.1] z.2
end Go.Proofs.YtbiclelojbfnbaaGreatDoor
