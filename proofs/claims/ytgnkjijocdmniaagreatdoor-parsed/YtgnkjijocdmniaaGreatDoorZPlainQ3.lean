import Derived.Lib.Index
import Derived.Lib.Bytealg
import Derived.Lib.Strings
import Derived.Lib.SlicesS
namespace Go.Proofs.YtgnkjijocdmniaaGreatDoor
set_option linter.unusedVariables false
set_option linter.unusedSimpArgs false
set_option maxRecDepth 100000
set_option maxHeartbeats 4000000
def isDigitN (c:Int):Bool:=decide (48≤c) && decide (c≤57)
def isBlankN (c:Int):Bool:=c == 32 || c == 9 || c == 10 || c == 13
def isCapN (c:Int):Bool:=decide (65≤c) && decide (c≤90)
def isSmN (c:Int):Bool:=decide (97≤c) && decide (c≤122)
def isLetN (c:Int):Bool:=(decide (97≤c) && decide (c≤122)) || isCapN c || c == 95
theorem isLetN_eq (c:Int):isLetN c=(isSmN c || isCapN c || c == 95):=rfl
def letdig (c:UInt8):Bool:=isLetN c.toNat || isDigitN c.toNat
def nameTail (l:List UInt8):Nat:=(l.takeWhile letdig).length
def nameLen:List UInt8→Nat
 | []=>0
 | c :: r=>if isLetN c.toNat then 1+nameTail r else 0
def isNameL (l:List UInt8):Bool:=!l.isEmpty && nameLen l == l.length
def smallB (c:UInt8):UInt8:=if isCapN c.toNat then c - 65+97 else c
def smallL (l:List UInt8):List UInt8:=l.map smallB
theorem nameTail_cons (c:UInt8) (r:List UInt8):nameTail (c :: r)=if letdig c then 1+nameTail r else 0:=by
 unfold nameTail
 rw [List.takeWhile_cons]
 split
 ·rw [List.length_cons];omega
 ·rfl
theorem nameTail_le (l:List UInt8):nameTail l≤l.length:=by
 induction l with
 | nil=>simp [nameTail]
 | cons c r ih=>rw [nameTail_cons];split <;> simp <;> omega
theorem nameLen_le (l:List UInt8):nameLen l≤l.length:=by
 cases l with
 | nil=>simp [nameLen]
 | cons c r=>have:=nameTail_le r;simp only [nameLen];split <;> simp <;> omega
structure Flt where
 err:Nat
 pos:Nat
structure Wd where
 kind:Nat
 pos:Nat
 spelt:List UInt8
 said:List UInt8
 num:Nat
def lineLen (l:List UInt8):Nat:=if Lib.indexByte l 10 < 0 then l.length else (Lib.indexByte l 10).toNat+1
theorem indexByte_lt (l:List UInt8) (c:UInt8):Lib.indexByte l c < l.length:=by
 induction l with
 | nil=>simp [Lib.indexByte]
 | cons b l ih=>
  unfold Lib.indexByte
  rw [List.length_cons]
  split
  ·omega
  ·split <;> omega
theorem index_room (l sub:List UInt8):Lib.index l sub < 0∨Lib.index l sub+sub.length≤l.length:=by
 induction l with
 | nil=>
  unfold Lib.index
  cases sub with
  | nil=>right;decide
  | cons a t=>left;simp
 | cons b l ih=>
  unfold Lib.index
  split
  ·rename_i h
   right
   have:=(List.isPrefixOf_iff_prefix.1 h).length_le
   simp at this ⊢
   omega
  ·split
   ·left;decide
   ·have:=Lib.index_ge l sub
    rename_i h1 h2
    have h3:¬ Lib.index l sub = -1:=by simpa using h2
    simp
    omega
theorem lineLen_le (l:List UInt8):lineLen l≤l.length:=by
 have:=indexByte_lt l 10
 unfold lineLen;split <;> omega
theorem lineLen_pos (c:UInt8) (l:List UInt8):1≤lineLen (c :: l):=by
 unfold lineLen;split
 ·simp
 ·omega
def skipF:Nat→List UInt8→Nat→Except Flt Nat
 | 0,_,p=>.ok p
 | _+1,[],p=>.ok p
 | f+1,c :: r,p=>
  if isBlankN c.toNat then skipF f r (p+1)
  else if c.toNat=35 then skipF f ((c :: r).drop (lineLen (c :: r))) (p+lineLen (c :: r))
  else if Lib.hasPrefix (c :: r) [47,42] then
   if Lib.index (r.drop 1) [42,47] < 0 then .error ⟨2,p⟩
   else skipF f ((c :: r).drop (4+(Lib.index (r.drop 1) [42,47]).toNat)) (p+(4+(Lib.index (r.drop 1) [42,47]).toNat))
  else .ok p
def spellL (k:Nat) (rest:List UInt8) (p n:Nat):Wd×Nat:=(⟨k,p,smallL (rest.take n),[],0⟩,p+n)
def digLen (l:List UInt8):Nat:=(l.takeWhile fun c=>isDigitN c.toNat).length
def numStep (v:Nat) (c:UInt8):Nat:=min (v*10+(c.toNat - 48)) 2147483648
def numVal (l:List UInt8):Nat:=(l.takeWhile fun c=>isDigitN c.toNat).foldl numStep 0
def isM (c:UInt8):Bool:=c.toNat == 77 || c.toNat == 109
def isK (c:UInt8):Bool:=c.toNat == 75 || c.toNat == 107
def scanNumL (rest:List UInt8) (p:Nat):Except Flt (Wd×Nat):=
 let n:=digLen rest
 let v:=numVal rest
 let c:=rest.getD n 0
 let v':=if isM c then v*1048576 else if isK c then v*1024 else v
 let n':=if isM c || isK c then n+1 else n
 if letdig (rest.getD n' 0) then .error ⟨2,p⟩
 else if 2147483647 < v' then .error ⟨3,p⟩
 else .ok (⟨4,p,[],[],v'⟩,p+n')
def quoteL:List UInt8→Option (List UInt8×Nat)
 | []=>none
 | c :: r=>
  if c.toNat=34 then some ([],1)
  else if c.toNat=92 then
   match r with
   | []=>none
   | d :: r'=>(quoteL r').map fun x=>(d :: x.1,x.2+2)
  else (quoteL r).map fun x=>(c :: x.1,x.2+1)
def quoteR (r:List UInt8) (p:Nat):Except Flt (Wd×Nat):=
 match quoteL r with
 | none=>.error ⟨2,p⟩
 | some x=>.ok (⟨5,p,[],x.1,0⟩,p+(1+x.2))
def isSign (c:UInt8):Bool:=decide (0≤Lib.indexByte [59,44,40,41,123,125,91,93] c)
def scanL (rest:List UInt8) (p:Nat):Except Flt (Wd×Nat):=
 match rest with
 | []=>.ok (⟨0,p,[],[],0⟩,p)
 | c :: r=>
  if isLetN c.toNat then .ok (spellL 1 (c :: r) p (nameLen (c :: r)))
  else if c.toNat=58 then
   if nameLen r=0 then .error ⟨2,p⟩ else .ok (spellL 2 (c :: r) p (1+nameLen r))
  else if isDigitN c.toNat then scanNumL (c :: r) p
  else if c.toNat=34 then quoteR r p
  else if isSign c then .ok (spellL 3 (c :: r) p 1)
  else .error ⟨2,p⟩
def nextL (l:List UInt8) (p:Nat):Except Flt (Wd×Nat):=
 match skipF (l.length+1) (l.drop p) p with
 | .error f=>.error f
 | .ok n=>scanL (l.drop n) n
theorem skipF_le (l:List UInt8):∀ (f p n:Nat),p≤l.length→skipF f (l.drop p) p=.ok n→p≤n∧n≤l.length
 | 0,p,n,hp,h=>by
  simp only [skipF] at h
  cases h
  exact ⟨Nat.le_refl _,hp⟩
 | f+1,p,n,hp,h=>by
  by_cases hlt:p < l.length
  ·rw [List.drop_eq_getElem_cons hlt] at h
   simp only [skipF] at h
   split at h
   ·have:=skipF_le l f (p+1) n (by omega) h
    omega
   ·rw [← List.drop_eq_getElem_cons hlt] at h
    split at h
    ·rw [List.drop_drop] at h
     have h1:=lineLen_le (l.drop p)
     rw [List.length_drop] at h1
     have:=skipF_le l f _ n (by omega) h
     omega
    ·split at h
     ·split at h
      ·cases h
      ·rename_i hp2 hi
       have e:List.drop 1 (List.drop (p+1) l)=List.drop (p+1+1) l:=by rw [List.drop_drop]
       rw [e] at h hi
       rw [List.drop_drop] at h
       have h1:=index_room (l.drop (p+1+1)) [42,47]
       rw [List.length_drop] at h1
       have h2:2≤(l.drop p).length:=by
        have:=(List.isPrefixOf_iff_prefix.1 hp2).length_le
        simpa using this
       rw [List.length_drop] at h2
       have h3:Lib.index (l.drop (p+1+1)) [42,47]+2≤(l.length - (p+1+1):Nat):=by
        rcases h1 with h1 | h1
        ·exact absurd h1 hi
        ·simpa using h1
       have:=skipF_le l f _ n (by omega) h
       omega
     ·cases h
      exact ⟨Nat.le_refl _,hp⟩
  ·rw [List.drop_of_length_le (by omega)] at h
   simp only [skipF] at h
   cases h
   exact ⟨Nat.le_refl _,hp⟩
theorem quoteL_le:∀ (r:List UInt8) (x:List UInt8×Nat),quoteL r=some x→1≤x.2∧x.2≤r.length
 | [],x,h=>by cases h
 | c :: r,x,h=>by
  rw [quoteL.eq_def] at h
  dsimp only at h
  split at h
  ·cases h;simp
  ·split at h
   ·cases r with
    | nil=>cases h
    | cons d r'=>
     dsimp only at h
     cases hq:quoteL r' with
     | none=>rw [hq] at h;cases h
     | some y=>
      have:=quoteL_le r' y hq
      rw [hq] at h
      cases h
      simp;omega
   ·cases hq:quoteL r with
    | none=>rw [hq] at h;cases h
    | some y=>
     have:=quoteL_le r y hq
     rw [hq] at h
     cases h
     simp;omega
theorem quoteL_said:∀ (r:List UInt8) (x:List UInt8×Nat),quoteL r=some x→x.1.length < x.2
 | [],x,h=>by cases h
 | c :: r,x,h=>by
  rw [quoteL.eq_def] at h
  dsimp only at h
  split at h
  ·cases h;simp
  ·split at h
   ·cases r with
    | nil=>cases h
    | cons d r'=>
     dsimp only at h
     cases hq:quoteL r' with
     | none=>rw [hq] at h;cases h
     | some y=>
      have:=quoteL_said r' y hq
      rw [hq] at h
      cases h
      simp;omega
   ·cases hq:quoteL r with
    | none=>rw [hq] at h;cases h
    | some y=>
     have:=quoteL_said r y hq
     rw [hq] at h
     cases h
     simp;omega
theorem digLen_le0 (l:List UInt8):digLen l≤l.length:=by
 unfold digLen;exact (List.takeWhile_prefix _).length_le
theorem getD_zero_of_le (l:List UInt8) (n:Nat) (h:l.length≤n):l.getD n 0=0:=by
 rw [List.getD_eq_getElem?_getD,List.getElem?_eq_none h];rfl
theorem scanL_le (l:List UInt8) (p:Nat) (hp:p≤l.length) (x:Wd×Nat) (h:scanL (l.drop p) p=.ok x) :
 x.1.pos=p∧x.2≤l.length∧p≤x.2∧(x.1.kind=0→p=l.length∧x.1.spelt=[])∧(x.1.kind≠0→p < x.2):=by
 by_cases hlt:p < l.length
 ·obtain ⟨c,r,hcr,hrl⟩:∃ c r,l.drop p=c :: r∧r.length=l.length - (p+1):=⟨_,_,List.drop_eq_getElem_cons hlt,by simp⟩
  rw [hcr] at h
  clear hcr
  unfold scanL at h
  dsimp only at h
  have hn:=nameLen_le (c :: r)
  have hn1:=nameLen_le r
  simp only [List.length_cons] at hn hn1
  split at h
  ·rename_i hl
   have hpos:1≤nameLen (c :: r):=by
    simp only [nameLen];rw [if_pos hl];omega
   cases h
   simp [spellL];omega
  ·split at h
   ·split at h
    ·cases h
    ·cases h;simp [spellL];omega
   ·split at h
    ·rename_i hg
     have hd:=digLen_le0 (c :: r)
     have hd1:1≤digLen (c :: r):=by
      simp [digLen,hg]
     simp only [List.length_cons] at hd
     obtain ⟨n',v',hn',he⟩:∃ n' v':Nat,n'=(if isM ((c :: r).getD (digLen (c :: r)) 0) || isK ((c :: r).getD (digLen (c :: r)) 0) then digLen (c :: r)+1 else digLen (c :: r))∧
      scanNumL (c :: r) p=if letdig ((c :: r).getD n' 0) then .error ⟨2,p⟩ else if 2147483647 < v' then .error ⟨3,p⟩ else .ok (⟨4,p,[],[],v'⟩,p+n'):=⟨_,_,rfl,rfl⟩
     rw [he] at h
     have hn2:n'≤l.length - p∧1≤n':=by
      by_cases hm:(isM ((c :: r).getD (digLen (c :: r)) 0) || isK ((c :: r).getD (digLen (c :: r)) 0))=true
      ·have hlt2:digLen (c :: r) < (c :: r).length:=by
        apply Classical.byContradiction
        intro hge
        rw [getD_zero_of_le _ _ (by omega)] at hm
        exact absurd hm (by decide)
       simp only [List.length_cons] at hlt2
       rw [hn',if_pos hm];omega
      ·rw [hn',if_neg hm];omega
     split at h
     ·cases h
     ·split at h
      ·cases h
      ·cases h
       simp;omega
    ·split at h
     ·unfold quoteR at h
      cases hq:quoteL r with
      | none=>rw [hq] at h;cases h
      | some y=>
       rw [hq] at h
       have:=quoteL_le _ _ hq
       cases h
       simp;omega
     ·split at h
      ·cases h;simp [spellL];omega
      ·cases h
 ·have e:p=l.length:=by omega
  rw [List.drop_of_length_le (by omega)] at h
  unfold scanL at h
  dsimp only at h
  cases h
  simp;omega
theorem scanL_small (l:List UInt8) (p:Nat) (x:Wd×Nat) (h:scanL (l.drop p) p=.ok x):x.1.said.length≤l.length∧x.1.num≤2147483647:=by
 have hl:(l.drop p).length≤l.length:=by simp
 generalize l.drop p=r at h hl
 cases r with
 | nil=>unfold scanL at h;dsimp only at h;cases h;simp
 | cons c r=>
  unfold scanL at h
  dsimp only at h
  split at h
  ·cases h;simp [spellL]
  ·split at h
   ·split at h
    ·cases h
    ·cases h;simp [spellL]
   ·split at h
    ·obtain ⟨n',v',he⟩:∃ n' v':Nat,scanNumL (c :: r) p=if letdig ((c :: r).getD n' 0) then .error ⟨2,p⟩ else if 2147483647 < v' then .error ⟨3,p⟩ else .ok (⟨4,p,[],[],v'⟩,p+n'):=⟨_,_,rfl⟩
     rw [he] at h
     split at h
     ·cases h
     ·split at h
      ·cases h
      ·cases h;simp;omega
    ·split at h
     ·unfold quoteR at h
      cases hq:quoteL r with
      | none=>rw [hq] at h;cases h
      | some y=>
       rw [hq] at h
       have h1:=quoteL_le _ _ hq
       have h2:=quoteL_said _ _ hq
       cases h
       simp at hl ⊢;omega
     ·split at h
      ·cases h;simp [spellL]
      ·cases h
theorem nextL_small (l:List UInt8) (p:Nat) (x:Wd×Nat) (h:nextL l p=.ok x):x.1.said.length≤l.length∧x.1.num≤2147483647:=by
 unfold nextL at h
 cases hs:skipF (l.length+1) (l.drop p) p with
 | error f=>rw [hs] at h;cases h
 | ok n=>rw [hs] at h;exact scanL_small l n x h
def NoName (sp:List UInt8):Prop:=∀ c r,sp=c :: r→isLetN c.toNat=false
theorem indexByte_mem:∀ (l:List UInt8) (c:UInt8),0≤Lib.indexByte l c→c∈l
 | [],c,h=>by simp [Lib.indexByte] at h
 | b :: l,c,h=>by
  unfold Lib.indexByte at h
  split at h
  ·rename_i hb
   have:b=c:=by simpa using hb
   subst this;simp
  ·split at h
   ·exact absurd h (by decide)
   ·have h1:=Lib.indexByte_ge l c
    rename_i h2
    have h3:¬ Lib.indexByte l c = -1:=by simpa using h2
    have:=indexByte_mem l c (by omega)
    simp [this]
theorem sign_noLetter (c:UInt8) (h:isSign c=true):isLetN (smallB c).toNat=false:=by
 have hm:=indexByte_mem _ _ (of_decide_eq_true h)
 simp at hm
 rcases hm with h | h | h | h | h | h | h | h <;> subst h <;> decide
theorem scanL_noName (l:List UInt8) (p:Nat) (x:Wd×Nat) (h:scanL (l.drop p) p=.ok x) (hk:¬ x.1.kind=1):NoName x.1.spelt:=by
 generalize l.drop p=r at h
 cases r with
 | nil=>unfold scanL at h;dsimp only at h;cases h;intro c r e;cases e
 | cons c r=>
  unfold scanL at h
  dsimp only at h
  split at h
  ·cases h;exact absurd rfl hk
  ·split at h
   ·rename_i h58
    split at h
    ·cases h
    ·cases h
     intro c' r' e
     rw [show 1+nameLen r=nameLen r+1 from by omega] at e
     simp [spellL,smallL,List.take_succ_cons] at e
     obtain ⟨e,-⟩:=e
     subst e
     have:c=58:=UInt8.toNat_inj.1 h58
     subst this
     decide
   ·split at h
    ·obtain ⟨n',v',he⟩:∃ n' v':Nat,scanNumL (c :: r) p=if letdig ((c :: r).getD n' 0) then .error ⟨2,p⟩ else if 2147483647 < v' then .error ⟨3,p⟩ else .ok (⟨4,p,[],[],v'⟩,p+n'):=⟨_,_,rfl⟩
     rw [he] at h
     split at h
     ·cases h
     ·split at h
      ·cases h
      ·cases h;intro c r e;cases e
    ·split at h
     ·unfold quoteR at h
      cases hq:quoteL r with
      | none=>rw [hq] at h;cases h
      | some y=>rw [hq] at h;cases h;intro c r e;cases e
     ·split at h
      ·rename_i hs
       cases h
       intro c' r' e
       simp [spellL,smallL] at e
       obtain ⟨e,-⟩:=e
       subst e
       exact sign_noLetter c hs
      ·cases h
theorem nextL_noName (l:List UInt8) (p:Nat) (x:Wd×Nat) (h:nextL l p=.ok x) (hk:¬ x.1.kind=1):NoName x.1.spelt:=by
 unfold nextL at h
 cases hs:skipF (l.length+1) (l.drop p) p with
 | error f=>rw [hs] at h;cases h
 | ok n=>rw [hs] at h;exact scanL_noName l n x h hk
theorem nextL_le (l:List UInt8) (p:Nat) (hp:p≤l.length) (x:Wd×Nat) (h:nextL l p=.ok x) :
 x.1.pos≤l.length∧x.2≤l.length∧p≤x.2∧(x.1.kind=0→x.1.spelt=[])∧(x.1.kind≠0→p < x.2):=by
 unfold nextL at h
 cases hs:skipF (l.length+1) (l.drop p) p with
 | error f=>rw [hs] at h;cases h
 | ok n=>
  rw [hs] at h
  have h1:=skipF_le l _ p n hp hs
  have h2:=scanL_le l n h1.2 x h
  refine ⟨by omega,h2.2.1,by omega,fun hk=>(h2.2.2.2.1 hk).2,fun hk=>by have:=h2.2.2.2.2 hk;omega⟩
def whichL:List (List UInt8)→List UInt8→Nat
 | [],_=>0
 | s :: r,x=>if s=x then 1 else if whichL r x=0 then 0 else whichL r x+1
def strA (x:List UInt8):ByteArray:=⟨x.toArray⟩
theorem strA_inj {x y:List UInt8} (h:strA x=strA y):x=y:=by
 have:=congrArg (fun b:ByteArray=>b.data.toList) h
 simpa [strA] using this
theorem idxFrom_which (x:List UInt8):∀ (zs:List (List UInt8)) (i:Nat),Lib.idxFromS (zs.map strA) (strA x) i=if whichL zs x=0 then -1 else (i:Int)+whichL zs x - 1
 | [],i=>rfl
 | s :: r,i=>by
  rw [List.map_cons]
  unfold whichL Lib.idxFromS
  by_cases h:s=x
  ·subst h
   simp
  ·have h':¬ strA s=strA x:=fun e=>h (strA_inj e)
   rw [if_neg h,if_neg h',idxFrom_which x r (i+1)]
   by_cases h0:whichL r x=0
   ·simp [h0]
   ·simp [h0];omega
theorem idx_which (zs:List (List UInt8)) (x:List UInt8):Lib.idxOfS (zs.map strA) (strA x)+1=whichL zs x:=by
 unfold Lib.idxOfS
 rw [idxFrom_which]
 split <;> omega
theorem contains_which (zs:List (List UInt8)) (x:List UInt8):Lib.containsS (zs.map strA) (strA x)=decide (0 < whichL zs x):=by
 unfold Lib.containsS
 have:=idx_which zs x
 by_cases h:0 < whichL zs x
 ·simp [h];omega
 ·simp [h];omega
theorem whichL_le (zs:List (List UInt8)) (x:List UInt8):whichL zs x≤zs.length:=by
 induction zs with
 | nil=>simp [whichL]
 | cons s r ih=>
  unfold whichL
  split
  ·simp
  ·split <;> simp <;> omega
abbrev PS:=Wd×Nat
def mayL (l:List UInt8) (zs:List (List UInt8)) (s:PS):Except Flt (Nat×PS):=
 if whichL zs s.1.spelt=0 then .ok (0,s) else
 match nextL l s.2 with
 | .error f=>.error f
 | .ok s'=>.ok (whichL zs s.1.spelt,s')
def passL (l:List UInt8) (zs:List (List UInt8)) (s:PS):Except Flt (Nat×PS):=
 if whichL zs s.1.spelt=0 then .error ⟨4,s.1.pos⟩ else
 match nextL l s.2 with
 | .error f=>.error f
 | .ok s'=>.ok (whichL zs s.1.spelt,s')
def stringL (l:List UInt8) (chk:List UInt8→Nat) (s:PS):Except Flt (List UInt8×PS):=
 if s.1.kind=5 then
  if chk s.1.said=0 then
   match nextL l s.2 with
   | .error f=>.error f
   | .ok s'=>.ok (s.1.said,s')
  else .error ⟨chk s.1.said,s.1.pos⟩
 else .error ⟨4,s.1.pos⟩
def mu (n:Nat) (s:PS):Nat:=2*(n - s.2)+(if s.1.kind=0 then 0 else 1)
theorem nextL_mu {l:List UInt8} {s y:PS} (hp:s.2≤l.length) (hk:¬ s.1.kind=0) (h:nextL l s.2=.ok y):mu l.length y < mu l.length s:=by
 obtain ⟨h1,h2,h3,h4,h5⟩:=nextL_le l s.2 hp y h
 unfold mu
 rw [if_neg hk]
 by_cases h0:y.1.kind=0
 ·rw [if_pos h0];omega
 ·have:=h5 h0
  rw [if_neg h0];omega
theorem whichL_nil (zs:List (List UInt8)) (h:∀ z∈zs,z≠[]):whichL zs []=0:=by
 induction zs with
 | nil=>rfl
 | cons a r ih=>
  unfold whichL
  rw [if_neg (h a (by simp)),if_pos (ih fun z hz=>h z (by simp [hz]))]
theorem passL_mu {l:List UInt8} {zs:List (List UInt8)} {s:PS} {y:Nat×PS} (hp:s.2≤l.length) (he:s.1.kind=0→s.1.spelt=[]) (hz:∀ z∈zs,z≠[]) (h:passL l zs s=.ok y):mu l.length y.2 < mu l.length s∧y.1=whichL zs s.1.spelt∧¬ y.1=0:=by
 unfold passL at h
 split at h
 ·cases h
 ·rename_i h0
  have hk:¬ s.1.kind=0:=fun e=>h0 (by rw [he e];exact whichL_nil zs hz)
  cases hn:nextL l s.2 with
  | error f=>rw [hn] at h;cases h
  | ok s'=>rw [hn] at h;cases h;exact ⟨nextL_mu hp hk hn,rfl,h0⟩
theorem mayL_mu {l:List UInt8} {zs:List (List UInt8)} {s:PS} {y:Nat×PS} (hp:s.2≤l.length) (he:s.1.kind=0→s.1.spelt=[]) (hz:∀ z∈zs,z≠[]) (h:mayL l zs s=.ok y):mu l.length y.2≤mu l.length s∧(¬ y.1=0→mu l.length y.2 < mu l.length s)∧y.1=whichL zs s.1.spelt∧(y.1=0→y.2=s):=by
 unfold mayL at h
 split at h
 ·rename_i h0
  cases h
  exact ⟨Nat.le_refl _,fun h=>absurd rfl h,h0.symm,fun _=>rfl⟩
 ·rename_i h0
  have hk:¬ s.1.kind=0:=fun e=>h0 (by rw [he e];exact whichL_nil zs hz)
  cases hn:nextL l s.2 with
  | error f=>rw [hn] at h;cases h
  | ok s'=>
   rw [hn] at h;cases h
   exact ⟨Nat.le_of_lt (nextL_mu hp hk hn),fun _=>nextL_mu hp hk hn,rfl,fun e=>absurd e h0⟩
theorem stringL_mu {l:List UInt8} {chk:List UInt8→Nat} {s:PS} {y:List UInt8×PS} (hp:s.2≤l.length) (h:stringL l chk s=.ok y):mu l.length y.2 < mu l.length s∧y.1=s.1.said:=by
 unfold stringL at h
 split at h
 ·rename_i hk
  split at h
  ·cases hn:nextL l s.2 with
   | error f=>rw [hn] at h;cases h
   | ok s'=>rw [hn] at h;cases h;exact ⟨nextL_mu hp (by omega) hn,rfl⟩
  ·cases h
 ·cases h
def moreL (l:List UInt8) (chk:List UInt8→Nat):Nat→List (List UInt8)→PS→Except Flt (List (List UInt8)×PS)
 | 0,acc,s=>.ok (acc,s)
 | f+1,acc,s=>
  match passL l [[44],[93]] s with
  | .error e=>.error e
  | .ok y=>
   if y.1=1 then
    match stringL l chk y.2 with
    | .error e=>.error e
    | .ok z=>moreL l chk f (acc++[z.1]) z.2
   else .ok (acc,y.2)
def stringsL (l:List UInt8) (chk:List UInt8→Nat) (fuel:Nat) (s:PS):Except Flt (List (List UInt8)×PS):=
 match mayL l [[91]] s with
 | .error e=>.error e
 | .ok y=>
  match stringL l chk y.2 with
  | .error e=>.error e
  | .ok z=>if y.1=0 then .ok ([z.1],z.2) else moreL l chk fuel [z.1] z.2
def kKeep:List UInt8:=[107,101,101,112]
def kDiscard:List UInt8:=[100,105,115,99,97,114,100]
def kStop:List UInt8:=[115,116,111,112]
def kFileinto:List UInt8:=[102,105,108,101,105,110,116,111]
def kRedirect:List UInt8:=[114,101,100,105,114,101,99,116]
def kReject:List UInt8:=[114,101,106,101,99,116]
def kSet:List UInt8:=[115,101,116]
def kIf:List UInt8:=[105,102]
def kTrue:List UInt8:=[116,114,117,101]
def kFalse:List UInt8:=[102,97,108,115,101]
def kNot:List UInt8:=[110,111,116]
def kAllof:List UInt8:=[97,108,108,111,102]
def kAnyof:List UInt8:=[97,110,121,111,102]
def kHeader:List UInt8:=[104,101,97,100,101,114]
def kEnvelope:List UInt8:=[101,110,118,101,108,111,112,101]
def kString:List UInt8:=[115,116,114,105,110,103]
def kExists:List UInt8:=[101,120,105,115,116,115]
def kSize:List UInt8:=[115,105,122,101]
def kElsif:List UInt8:=[101,108,115,105,102]
def kElse:List UInt8:=[101,108,115,101]
def kRequire:List UInt8:=[114,101,113,117,105,114,101]
def kVariables:List UInt8:=[118,97,114,105,97,98,108,101,115]
def kFrom:List UInt8:=[102,114,111,109]
def kTo:List UInt8:=[116,111]
def tLower:List UInt8:=[58,108,111,119,101,114]
def tUpper:List UInt8:=[58,117,112,112,101,114]
def tLength:List UInt8:=[58,108,101,110,103,116,104]
def tIs:List UInt8:=[58,105,115]
def tContains:List UInt8:=[58,99,111,110,116,97,105,110,115]
def tMatches:List UInt8:=[58,109,97,116,99,104,101,115]
def tOver:List UInt8:=[58,111,118,101,114]
def tUnder:List UInt8:=[58,117,110,100,101,114]
def tComparator:List UInt8:=[58,99,111,109,112,97,114,97,116,111,114]
def cOctet:List UInt8:=[105,59,111,99,116,101,116]
def cCasemap:List UInt8:=[105,59,97,115,99,105,105,45,99,97,115,101,109,97,112]
def cmdNames:List (List UInt8):=[kKeep,kDiscard,kStop,kFileinto,kRedirect,kReject,kSet,kIf]
def testNames:List (List UInt8):=[kTrue,kFalse,kNot,kAllof,kAnyof,kHeader,kEnvelope,kString,kExists,kSize]
structure TLab where
 kind:Nat
 pos:Nat
 tag:Nat
 octet:Bool
 fr:List (List UInt8)
 keys:List (List UInt8)
 num:Nat
def TestT:Nat→Type
 | 0=>Unit
 | n+1=>TLab×List (TestT n)
structure CLab where
 kind:Nat
 pos:Nat
 tag:Nat
 arg:List UInt8
 var:List UInt8
 els:Bool
def CmdT:Nat→Type
 | 0=>Unit
 | n+1=>CLab×List (TestT n×List (CmdT n))×List (CmdT n)
def useOk (req:List (List UInt8)) (sp:List UInt8):Bool:=
 if sp=kFileinto∨sp=kReject∨sp=kEnvelope then decide (0 < whichL req sp)
 else if sp=kSet∨sp=kString then decide (0 < whichL req kVariables)
 else true
def thenL {α β:Type} (r:Except Flt (α×PS)) (k:α→PS→Except Flt (β×PS)):Except Flt (β×PS):=
 match r with
 | .error f=>.error f
 | .ok y=>k y.1 y.2
def nextThen {β:Type} (l:List UInt8) (s:PS) (k:PS→Except Flt (β×PS)):Except Flt (β×PS):=
 match nextL l s.2 with
 | .error f=>.error f
 | .ok y=>k y
theorem thenL_err {α β:Type} {r:Except Flt (α×PS)} {k:α→PS→Except Flt (β×PS)} {f:Flt} (h:r=.error f):thenL r k=.error f:=by subst h;rfl
theorem thenL_ok {α β:Type} {r:Except Flt (α×PS)} {k:α→PS→Except Flt (β×PS)} {y:α×PS} (h:r=.ok y):thenL r k=k y.1 y.2:=by subst h;rfl
theorem nextThen_err {β:Type} {l:List UInt8} {s:PS} {k:PS→Except Flt (β×PS)} {f:Flt} (h:nextL l s.2=.error f):nextThen l s k=.error f:=by unfold nextThen;rw [h]
theorem nextThen_ok {β:Type} {l:List UInt8} {s y:PS} {k:PS→Except Flt (β×PS)} (h:nextL l s.2=.ok y):nextThen l s k=k y:=by unfold nextThen;rw [h]
def optL (l:List UInt8):Nat→Nat→Bool→Bool→PS→Except Flt ((Nat×Bool)×PS)
 | 0,tag,oct,_,s=>.ok ((tag,oct),s)
 | f+1,tag,oct,cmp,s=>
  if whichL [tIs,tContains,tMatches] s.1.spelt=0 then
   if whichL [tComparator] s.1.spelt=0 then .ok ((max tag 1,oct),s)
   else if cmp then .error ⟨7,s.1.pos⟩
   else nextThen l s fun s1=>thenL (stringL l (fun x=>if 0 < whichL [cOctet,cCasemap] x then 0 else 7) s1) fun x s2=>optL l f tag (decide (x=cOctet)) true s2
  else if tag=0 then nextThen l s fun s1=>optL l f (whichL [tIs,tContains,tMatches] s.1.spelt) oct cmp s1
  else .error ⟨7,s.1.pos⟩
def matchL (l:List UInt8) (F:Nat) (chk:List UInt8→Nat) (k pos:Nat) (s:PS):Except Flt (TLab×PS):=
 thenL (optL l F 0 false false s) fun o s1=>thenL (stringsL l chk F s1) fun fr s2=>thenL (stringsL l (fun _=>0) F s2) fun ks s3=>
  .ok (⟨k,pos,o.1,o.2,fr,ks,0⟩,s3)
def groupMore {α:Type} (l:List UInt8) (sub:PS→Except Flt (α×PS)):Nat→List α→PS→Except Flt (List α×PS)
 | 0,acc,s=>.ok (acc,s)
 | f+1,acc,s=>thenL (passL l [[44],[41]] s) fun i s1=>
  if i=1 then thenL (sub s1) fun t s2=>groupMore l sub f (acc++[t]) s2 else .ok (acc,s1)
def groupL {α:Type} (l:List UInt8) (F:Nat) (sub:PS→Except Flt (α×PS)) (s:PS):Except Flt (List α×PS):=
 thenL (passL l [[40]] s) fun _ s1=>thenL (sub s1) fun t s2=>groupMore l sub F [t] s2
def sizeL (l:List UInt8) (pos:Nat) (s:PS):Except Flt (TLab×PS):=
 thenL (passL l [tOver,tUnder] s) fun i s1=>
  if s1.1.kind=4 then nextThen l s1 fun s2=>.ok (⟨9,pos,i,false,[],[],s1.1.num⟩,s2) else .error ⟨4,s1.1.pos⟩
def testBody {α:Type} (l:List UInt8) (F:Nat) (sub:PS→Except Flt (α×PS)) (k pos:Nat) (s:PS):Except Flt ((TLab×List α)×PS):=
 match k with
 | 0=>.ok ((⟨0,pos,0,false,[],[],0⟩,[]),s)
 | 1=>.ok ((⟨1,pos,0,false,[],[],0⟩,[]),s)
 | 2=>thenL (sub s) fun t s1=>.ok ((⟨2,pos,0,false,[],[],0⟩,[t]),s1)
 | 3=>thenL (groupL l F sub s) fun ts s1=>.ok ((⟨3,pos,0,false,[],[],0⟩,ts),s1)
 | 4=>thenL (groupL l F sub s) fun ts s1=>.ok ((⟨4,pos,0,false,[],[],0⟩,ts),s1)
 | 5=>thenL (matchL l F (fun _=>0) 5 pos s) fun x s1=>.ok ((x,[]),s1)
 | 6=>thenL (matchL l F (fun x=>if 0 < whichL [kFrom,kTo] (smallL x) then 0 else 7) 6 pos s) fun x s1=>.ok ((x,[]),s1)
 | 7=>thenL (matchL l F (fun _=>0) 7 pos s) fun x s1=>.ok ((x,[]),s1)
 | 8=>thenL (stringsL l (fun _=>0) F s) fun xs s1=>.ok ((⟨8,pos,0,false,xs,[],0⟩,[]),s1)
 | _=>thenL (sizeL l pos s) fun x s1=>.ok ((x,[]),s1)
def testL (l:List UInt8) (req:List (List UInt8)) (F:Nat):(n:Nat)→PS→Except Flt (TestT n×PS)
 | 0,s=>if s.1.kind=1 then .error ⟨5,s.1.pos⟩ else .error ⟨4,s.1.pos⟩
 | n+1,s=>
  if whichL testNames s.1.spelt=0 then .error ⟨4,s.1.pos⟩
  else if useOk req s.1.spelt then nextThen l s fun s1=>testBody l F (testL l req F n) (whichL testNames s.1.spelt - 1) s.1.pos s1
  else .error ⟨6,s.1.pos⟩
def blockMore {α:Type} (l:List UInt8) (sub:PS→Except Flt (α×PS)):Nat→List α→PS→Except Flt (List α×PS)
 | 0,acc,s=>.ok (acc,s)
 | f+1,acc,s=>thenL (mayL l [[125]] s) fun i s1=>
  if i=0 then thenL (sub s1) fun c s2=>blockMore l sub f (acc++[c]) s2 else .ok (acc,s1)
def blockL {α:Type} (l:List UInt8) (F:Nat) (sub:PS→Except Flt (α×PS)) (s:PS):Except Flt (List α×PS):=
 thenL (passL l [[123]] s) fun _ s1=>blockMore l sub F [] s1
def armL {α β:Type} (l:List UInt8) (F:Nat) (tst:PS→Except Flt (β×PS)) (sub:PS→Except Flt (α×PS)) (s:PS):Except Flt ((β×List α)×PS):=
 thenL (tst s) fun t s1=>thenL (blockL l F sub s1) fun cs s2=>.ok ((t,cs),s2)
def armsMore {α β:Type} (l:List UInt8) (F:Nat) (tst:PS→Except Flt (β×PS)) (sub:PS→Except Flt (α×PS)):Nat→List (β×List α)→PS→Except Flt (List (β×List α)×PS)
 | 0,acc,s=>.ok (acc,s)
 | f+1,acc,s=>thenL (mayL l [kElsif] s) fun i s1=>
  if i=0 then .ok (acc,s1) else thenL (armL l F tst sub s1) fun a s2=>armsMore l F tst sub f (acc++[a]) s2
def semi {α:Type} (l:List UInt8) (s:PS) (a:α):Except Flt (α×PS):=thenL (passL l [[59]] s) fun _ s1=>.ok (a,s1)
def cmdBody {α β:Type} (l:List UInt8) (F:Nat) (tst:PS→Except Flt (β×PS)) (sub:PS→Except Flt (α×PS)) (k pos:Nat) (s:PS):Except Flt ((CLab×List (β×List α)×List α)×PS):=
 match k with
 | 0=>semi l s (⟨0,pos,0,[],[],false⟩,[],[])
 | 1=>semi l s (⟨1,pos,0,[],[],false⟩,[],[])
 | 2=>semi l s (⟨2,pos,0,[],[],false⟩,[],[])
 | 3=>thenL (stringL l (fun _=>0) s) fun x s1=>semi l s1 (⟨3,pos,0,x,[],false⟩,[],[])
 | 4=>thenL (stringL l (fun _=>0) s) fun x s1=>semi l s1 (⟨4,pos,0,x,[],false⟩,[],[])
 | 5=>thenL (stringL l (fun _=>0) s) fun x s1=>semi l s1 (⟨5,pos,0,x,[],false⟩,[],[])
 | 6=>thenL (mayL l [tLower,tUpper,tLength] s) fun tag s1=>thenL (stringL l (fun x=>if isNameL x then 0 else 7) s1) fun v s2=>
  thenL (stringL l (fun _=>0) s2) fun x s3=>semi l s3 (⟨6,pos,tag,x,smallL v,false⟩,[],[])
 | _=>thenL (armL l F tst sub s) fun a s1=>thenL (armsMore l F tst sub F [a] s1) fun arms s2=>thenL (mayL l [kElse] s2) fun i s3=>
  if i=0 then .ok ((⟨7,pos,0,[],[],false⟩,arms,[]),s3)
  else thenL (blockL l F sub s3) fun cs s4=>.ok ((⟨7,pos,0,[],[],true⟩,arms,cs),s4)
def cmdL (l:List UInt8) (req:List (List UInt8)) (F:Nat):(n:Nat)→PS→Except Flt (CmdT n×PS)
 | 0,s=>if s.1.kind=1 then .error ⟨5,s.1.pos⟩ else .error ⟨4,s.1.pos⟩
 | n+1,s=>
  if whichL cmdNames s.1.spelt=0 then .error ⟨4,s.1.pos⟩
  else if useOk req s.1.spelt then nextThen l s fun s1=>cmdBody l F (testL l req F n) (cmdL l req F n) (whichL cmdNames s.1.spelt - 1) s.1.pos s1
  else .error ⟨6,s.1.pos⟩
def addReq (req:List (List UInt8)) (x:List UInt8):List (List UInt8):=if 0 < whichL req x then req else req++[x]
def reqMore (l:List UInt8) (F:Nat):Nat→List (List UInt8)→PS→Except Flt (List (List UInt8)×PS)
 | 0,req,s=>.ok (req,s)
 | f+1,req,s=>thenL (mayL l [kRequire] s) fun i s1=>
  if i=0 then .ok (req,s1)
  else thenL (stringsL l (fun x=>if 0 < whichL [kEnvelope,kFileinto,kReject,kVariables] x then 0 else 6) F s1) fun xs s2=>
   thenL (passL l [[59]] s2) fun _ s3=>reqMore l F f (xs.foldl addReq req) s3
def cmdsMore {α:Type} (sub:PS→Except Flt (α×PS)):Nat→List α→PS→Except Flt (List α)
 | 0,acc,_=>.ok acc
 | f+1,acc,s=>if s.1.kind=0 then .ok acc else
  match sub s with
  | .error e=>.error e
  | .ok y=>cmdsMore sub f (acc++[y.1]) y.2
def parseL (l:List UInt8):Except Flt (List (List UInt8)×List (CmdT 7)):=
 let F:=2*l.length+10
 match nextL l 0 with
 | .error f=>.error f
 | .ok s=>
  match reqMore l F F [] s with
  | .error f=>.error f
  | .ok y=>
   match cmdsMore (cmdL l y.1 F 7) F [] y.2 with
   | .error f=>.error f
   | .ok cs=>.ok (y.1,cs)
def Gd (l:List UInt8) (s:PS):Prop:=s.2≤l.length∧(s.1.kind=0→s.1.spelt=[])
def Dn {α:Type} (c:Nat) (l:List UInt8) (r:Except Flt (α×PS)) (s:PS):Prop:=∀ y,r=.ok y→Gd l y.2∧mu l.length y.2+c≤mu l.length s
theorem Dn.err {α:Type} {c:Nat} {l:List UInt8} {f:Flt} {s:PS}:Dn c l (.error f:Except Flt (α×PS)) s:=fun y h=>by cases h
theorem Dn.ok {α:Type} {l:List UInt8} {a:α} {s:PS} (h:Gd l s):Dn 0 l (.ok (a,s):Except Flt (α×PS)) s:=fun y e=>by cases e;exact ⟨h,Nat.le_refl _⟩
theorem Dn.weak {α:Type} {c c':Nat} {l:List UInt8} {r:Except Flt (α×PS)} {s:PS} (h:Dn c l r s) (hc:c'≤c):Dn c' l r s:=fun y e=>⟨(h y e).1,by have:=(h y e).2;omega⟩
theorem Dn.andThen {α β:Type} {c c':Nat} {l:List UInt8} {r:Except Flt (α×PS)} {k:α→PS→Except Flt (β×PS)} {s:PS} (h:Dn c l r s) (hk:∀ a s1,Gd l s1→Dn c' l (k a s1) s1):Dn (c+c') l (thenL r k) s:=fun y e=>by
 cases hr:r with
 | error f=>rw [thenL_err hr] at e;cases e
 | ok z=>
  rw [thenL_ok hr] at e
  obtain ⟨h1,h2⟩:=h z hr
  obtain ⟨h3,h4⟩:=hk z.1 z.2 h1 y e
  exact ⟨h3,by omega⟩
theorem next_gd {l:List UInt8} {s y:PS} (h:Gd l s) (hn:nextL l s.2=.ok y):Gd l y:=by
 obtain ⟨h1,h2,h3,h4,h5⟩:=nextL_le l s.2 h.1 y hn
 exact ⟨h2,h4⟩
theorem Dn.next {β:Type} {c:Nat} {l:List UInt8} {k:PS→Except Flt (β×PS)} {s:PS} (h:Gd l s) (hz:¬ s.1.kind=0) (hk:∀ s1,Gd l s1→Dn c l (k s1) s1):Dn (c+1) l (nextThen l s k) s:=fun y e=>by
 cases hr:nextL l s.2 with
 | error f=>rw [nextThen_err hr] at e;cases e
 | ok z=>
  rw [nextThen_ok hr] at e
  have h1:=nextL_mu h.1 hz hr
  obtain ⟨h3,h4⟩:=hk z (next_gd h hr) y e
  exact ⟨h3,by omega⟩
theorem pass_dn {l:List UInt8} {zs:List (List UInt8)} {s:PS} (h:Gd l s) (hz:∀ z∈zs,z≠[]):Dn 1 l (passL l zs s) s:=fun y e=>by
 refine ⟨?_,(passL_mu h.1 h.2 hz e).1⟩
 unfold passL at e
 split at e
 ·cases e
 ·cases hn:nextL l s.2 with
  | error f=>rw [hn] at e;cases e
  | ok s'=>rw [hn] at e;cases e;exact next_gd h hn
theorem may_dn {l:List UInt8} {zs:List (List UInt8)} {s:PS} (h:Gd l s) (hz:∀ z∈zs,z≠[]):Dn 0 l (mayL l zs s) s:=fun y e=>by
 refine ⟨?_,(mayL_mu h.1 h.2 hz e).1⟩
 unfold mayL at e
 split at e
 ·cases e;exact h
 ·cases hn:nextL l s.2 with
  | error f=>rw [hn] at e;cases e
  | ok s'=>rw [hn] at e;cases e;exact next_gd h hn
theorem string_dn {l:List UInt8} {chk:List UInt8→Nat} {s:PS} (h:Gd l s):Dn 1 l (stringL l chk s) s:=fun y e=>by
 refine ⟨?_,(stringL_mu h.1 e).1⟩
 unfold stringL at e
 split at e
 ·split at e
  ·cases hn:nextL l s.2 with
   | error f=>rw [hn] at e;cases e
   | ok s'=>rw [hn] at e;cases e;exact next_gd h hn
  ·cases e
 ·cases e
theorem more_dn {l:List UInt8} {chk:List UInt8→Nat}:∀ (f:Nat) (acc:List (List UInt8)) (s:PS),Gd l s→Dn 0 l (moreL l chk f acc s) s
 | 0,acc,s,h=>Dn.ok h
 | f+1,acc,s,h=>fun y e=>by
  rw [moreL] at e
  cases hp:passL l [[44],[93]] s with
  | error g=>rw [hp] at e;cases e
  | ok z=>
   rw [hp] at e
   obtain ⟨h1,h2⟩:=pass_dn (zs:=[[44],[93]]) h (by decide) z hp
   dsimp only at e
   split at e
   ·cases hs:stringL l chk z.2 with
    | error g=>rw [hs] at e;cases e
    | ok x=>
     rw [hs] at e
     obtain ⟨h3,h4⟩:=string_dn h1 x hs
     obtain ⟨h5,h6⟩:=more_dn f _ x.2 h3 y e
     exact ⟨h5,by omega⟩
   ·cases e;exact ⟨h1,by dsimp only;omega⟩
theorem strings_dn {l:List UInt8} {chk:List UInt8→Nat} {F:Nat} {s:PS} (h:Gd l s):Dn 1 l (stringsL l chk F s) s:=fun y e=>by
 unfold stringsL at e
 cases hm:mayL l [[91]] s with
 | error g=>rw [hm] at e;cases e
 | ok z=>
  rw [hm] at e
  obtain ⟨h1,h2⟩:=may_dn (zs:=[[91]]) h (by decide) z hm
  dsimp only at e
  cases hs:stringL l chk z.2 with
  | error g=>rw [hs] at e;cases e
  | ok x=>
   rw [hs] at e
   obtain ⟨h3,h4⟩:=string_dn h1 x hs
   dsimp only at e
   split at e
   ·cases e;exact ⟨h3,by dsimp only;omega⟩
   ·obtain ⟨h5,h6⟩:=more_dn F _ x.2 h3 y e
    exact ⟨h5,by omega⟩
theorem kind_which {l:List UInt8} {zs:List (List UInt8)} {s:PS} (h:Gd l s) (hz:∀ z∈zs,z≠[]) (h0:¬ whichL zs s.1.spelt=0):¬ s.1.kind=0:=fun e=>h0 (by rw [h.2 e];exact whichL_nil zs hz)
theorem opt_dn {l:List UInt8}:∀ (f tag:Nat) (oct cmp:Bool) (s:PS),Gd l s→Dn 0 l (optL l f tag oct cmp s) s
 | 0,tag,oct,cmp,s,h=>Dn.ok h
 | f+1,tag,oct,cmp,s,h=>by
  rw [optL]
  by_cases h1:whichL [tIs,tContains,tMatches] s.1.spelt=0
  ·rw [if_pos h1]
   by_cases h2:whichL [tComparator] s.1.spelt=0
   ·rw [if_pos h2];exact Dn.ok h
   ·rw [if_neg h2]
    cases cmp
    ·rw [if_neg (by decide)]
     refine (Dn.next (c:=0) h (kind_which (zs:=[tComparator]) h (by decide) h2) fun s1 g1=>?_).weak (by omega)
     exact ((string_dn g1).andThen (c':=0) fun x s2 g2=>opt_dn f _ _ _ s2 g2).weak (by omega)
    ·rw [if_pos rfl];exact Dn.err
  ·rw [if_neg h1]
   by_cases ht:tag=0
   ·rw [if_pos ht]
    exact (Dn.next (c:=0) h (kind_which (zs:=[tIs,tContains,tMatches]) h (by decide) h1) fun s1 g1=>opt_dn f _ _ _ s1 g1).weak (by omega)
   ·rw [if_neg ht];exact Dn.err
theorem match_dn {l:List UInt8} {F:Nat} {chk:List UInt8→Nat} {k pos:Nat} {s:PS} (h:Gd l s):Dn 0 l (matchL l F chk k pos s) s:=by
 unfold matchL
 exact ((opt_dn F 0 false false s h).andThen (c':=1) fun o s1 g1=>((strings_dn g1).andThen (c':=0) fun fr s2 g2=>((strings_dn g2).andThen (c':=0) fun ks s3 g3=>Dn.ok g3).weak (by omega)).weak (by omega)).weak (by omega)
theorem groupMore_dn {α:Type} {l:List UInt8} {sub:PS→Except Flt (α×PS)} (hs:∀ s,Gd l s→Dn 1 l (sub s) s):∀ (f:Nat) (acc:List α) (s:PS),Gd l s→Dn 0 l (groupMore l sub f acc s) s
 | 0,acc,s,h=>Dn.ok h
 | f+1,acc,s,h=>by
  rw [groupMore]
  refine ((pass_dn h (by decide)).andThen (c':=0) fun i s1 g1=>?_).weak (by omega)
  split
  ·exact ((hs s1 g1).andThen (c':=0) fun t s2 g2=>groupMore_dn hs f _ s2 g2).weak (by omega)
  ·exact Dn.ok g1
theorem group_dn {α:Type} {l:List UInt8} {F:Nat} {sub:PS→Except Flt (α×PS)} (hs:∀ s,Gd l s→Dn 1 l (sub s) s) {s:PS} (h:Gd l s):Dn 0 l (groupL l F sub s) s:=by
 unfold groupL
 exact ((pass_dn h (by decide)).andThen (c':=0) fun _ s1 g1=>((hs s1 g1).andThen (c':=0) fun t s2 g2=>groupMore_dn hs F _ s2 g2).weak (by omega)).weak (by omega)
theorem size_dn {l:List UInt8} {pos:Nat} {s:PS} (h:Gd l s):Dn 0 l (sizeL l pos s) s:=by
 unfold sizeL
 refine ((pass_dn h (by decide)).andThen (c':=0) fun i s1 g1=>?_).weak (by omega)
 split
 ·rename_i hk
  exact (Dn.next (c:=0) g1 (by omega) fun s2 g2=>Dn.ok g2).weak (by omega)
 ·exact Dn.err
theorem testBody_dn {α:Type} {l:List UInt8} {F:Nat} {sub:PS→Except Flt (α×PS)} (hs:∀ s,Gd l s→Dn 1 l (sub s) s) (k pos:Nat) {s:PS} (h:Gd l s):Dn 0 l (testBody l F sub k pos s) s:=by
 unfold testBody
 split
 ·exact Dn.ok h
 ·exact Dn.ok h
 ·exact ((hs s h).andThen (c':=0) fun _ _ g=>Dn.ok g).weak (by omega)
 ·exact ((group_dn hs h).andThen (c':=0) fun _ _ g=>Dn.ok g).weak (by omega)
 ·exact ((group_dn hs h).andThen (c':=0) fun _ _ g=>Dn.ok g).weak (by omega)
 ·exact ((match_dn h).andThen (c':=0) fun _ _ g=>Dn.ok g).weak (by omega)
 ·exact ((match_dn h).andThen (c':=0) fun _ _ g=>Dn.ok g).weak (by omega)
 ·exact ((match_dn h).andThen (c':=0) fun _ _ g=>Dn.ok g).weak (by omega)
 ·exact ((strings_dn h).andThen (c':=0) fun _ _ g=>Dn.ok g).weak (by omega)
 ·exact ((size_dn h).andThen (c':=0) fun _ _ g=>Dn.ok g).weak (by omega)
theorem test_dn {l:List UInt8} {req:List (List UInt8)} {F:Nat}:∀ (n:Nat) (s:PS),Gd l s→Dn 1 l (testL l req F n s) s
 | 0,s,h=>by
  rw [testL]
  split <;> exact Dn.err
 | n+1,s,h=>by
  rw [testL]
  by_cases h0:whichL testNames s.1.spelt=0
  ·rw [if_pos h0];exact Dn.err
  ·rw [if_neg h0]
   cases hu:useOk req s.1.spelt
   ·rw [if_neg (by decide)];exact Dn.err
   ·rw [if_pos rfl]
    exact (Dn.next (c:=0) h (kind_which (zs:=testNames) h (by decide) h0) fun s1 g1=>testBody_dn (fun s g=>test_dn n s g) _ _ g1).weak (by omega)
theorem blockMore_dn {α:Type} {l:List UInt8} {sub:PS→Except Flt (α×PS)} (hs:∀ s,Gd l s→Dn 1 l (sub s) s):∀ (f:Nat) (acc:List α) (s:PS),Gd l s→Dn 0 l (blockMore l sub f acc s) s
 | 0,acc,s,h=>Dn.ok h
 | f+1,acc,s,h=>by
  rw [blockMore]
  refine ((may_dn h (by decide)).andThen (c':=0) fun i s1 g1=>?_).weak (by omega)
  split
  ·exact ((hs s1 g1).andThen (c':=0) fun t s2 g2=>blockMore_dn hs f _ s2 g2).weak (by omega)
  ·exact Dn.ok g1
theorem block_dn {α:Type} {l:List UInt8} {F:Nat} {sub:PS→Except Flt (α×PS)} (hs:∀ s,Gd l s→Dn 1 l (sub s) s) {s:PS} (h:Gd l s):Dn 1 l (blockL l F sub s) s:=by
 unfold blockL
 exact (pass_dn h (by decide)).andThen (c':=0) fun _ s1 g1=>blockMore_dn hs F _ s1 g1
theorem arm_dn {α β:Type} {l:List UInt8} {F:Nat} {tst:PS→Except Flt (β×PS)} {sub:PS→Except Flt (α×PS)} (ht:∀ s,Gd l s→Dn 1 l (tst s) s) (hs:∀ s,Gd l s→Dn 1 l (sub s) s) {s:PS} (h:Gd l s):Dn 1 l (armL l F tst sub s) s:=by
 unfold armL
 exact ((ht s h).andThen (c':=0) fun t s1 g1=>((block_dn hs g1).andThen (c':=0) fun cs s2 g2=>Dn.ok g2).weak (by omega))
theorem arms_dn {α β:Type} {l:List UInt8} {F:Nat} {tst:PS→Except Flt (β×PS)} {sub:PS→Except Flt (α×PS)} (ht:∀ s,Gd l s→Dn 1 l (tst s) s) (hs:∀ s,Gd l s→Dn 1 l (sub s) s):∀ (f:Nat) (acc:List (β×List α)) (s:PS),Gd l s→Dn 0 l (armsMore l F tst sub f acc s) s
 | 0,acc,s,h=>Dn.ok h
 | f+1,acc,s,h=>by
  rw [armsMore]
  refine ((may_dn h (by decide)).andThen (c':=0) fun i s1 g1=>?_).weak (by omega)
  split
  ·exact Dn.ok g1
  ·exact ((arm_dn ht hs g1).andThen (c':=0) fun a s2 g2=>arms_dn ht hs f _ s2 g2).weak (by omega)
theorem semi_dn {α:Type} {l:List UInt8} {s:PS} {a:α} (h:Gd l s):Dn 0 l (semi l s a) s:=by
 unfold semi
 exact ((pass_dn h (by decide)).andThen (c':=0) fun _ s1 g1=>Dn.ok g1).weak (by omega)
theorem cmdBody_dn {α β:Type} {l:List UInt8} {F:Nat} {tst:PS→Except Flt (β×PS)} {sub:PS→Except Flt (α×PS)} (ht:∀ s,Gd l s→Dn 1 l (tst s) s) (hs:∀ s,Gd l s→Dn 1 l (sub s) s) (k pos:Nat) {s:PS} (h:Gd l s):Dn 0 l (cmdBody l F tst sub k pos s) s:=by
 unfold cmdBody
 split
 ·exact semi_dn h
 ·exact semi_dn h
 ·exact semi_dn h
 ·exact ((string_dn h).andThen (c':=0) fun _ _ g=>semi_dn g).weak (by omega)
 ·exact ((string_dn h).andThen (c':=0) fun _ _ g=>semi_dn g).weak (by omega)
 ·exact ((string_dn h).andThen (c':=0) fun _ _ g=>semi_dn g).weak (by omega)
 ·exact ((may_dn h (by decide)).andThen (c':=0) fun _ _ g1=>((string_dn g1).andThen (c':=0) fun _ _ g2=>((string_dn g2).andThen (c':=0) fun _ _ g3=>semi_dn g3).weak (by omega)).weak (by omega)).weak (by omega)
 ·refine ((arm_dn ht hs h).andThen (c':=0) fun a s1 g1=>((arms_dn ht hs F _ s1 g1).andThen (c':=0) fun arms s2 g2=>((may_dn g2 (by decide)).andThen (c':=0) fun i s3 g3=>?_).weak (by omega)).weak (by omega)).weak (by omega)
  split
  ·exact Dn.ok g3
  ·exact ((block_dn hs g3).andThen (c':=0) fun _ _ g4=>Dn.ok g4).weak (by omega)
theorem cmd_dn {l:List UInt8} {req:List (List UInt8)} {F:Nat}:∀ (n:Nat) (s:PS),Gd l s→Dn 1 l (cmdL l req F n s) s
 | 0,s,h=>by
  rw [cmdL]
  split <;> exact Dn.err
 | n+1,s,h=>by
  rw [cmdL]
  by_cases h0:whichL cmdNames s.1.spelt=0
  ·rw [if_pos h0];exact Dn.err
  ·rw [if_neg h0]
   cases hu:useOk req s.1.spelt
   ·rw [if_neg (by decide)];exact Dn.err
   ·rw [if_pos rfl]
    exact (Dn.next (c:=0) h (kind_which (zs:=cmdNames) h (by decide) h0) fun s1 g1=>cmdBody_dn (fun s g=>test_dn n s g) (fun s g=>cmd_dn n s g) _ _ g1).weak (by omega)
def skipS (r:List UInt8) (p:Nat):Except Flt Nat:=skipF (r.length+1) r p
theorem skipF_fuel:∀ (f g:Nat) (r:List UInt8) (p:Nat),r.length < f→r.length < g→skipF f r p=skipF g r p
 | 0,_,r,p,h,_=>absurd h (Nat.not_lt_zero _)
 | _+1,0,r,p,_,h=>absurd h (Nat.not_lt_zero _)
 | f+1,g+1,[],p,_,_=>rfl
 | f+1,g+1,c :: r,p,h1,h2=>by
  simp only [List.length_cons] at h1 h2
  simp only [skipF]
  have h3:=lineLen_pos c r
  rw [skipF_fuel f g r (p+1) (by omega) (by omega)]
  rw [skipF_fuel f g (List.drop (lineLen (c :: r)) (c :: r)) _ (by rw [List.length_drop];simp only [List.length_cons];omega) (by rw [List.length_drop];simp only [List.length_cons];omega)]
  rw [skipF_fuel f g (List.drop (4+(Lib.index (r.drop 1) [42,47]).toNat) (c :: r)) _ (by rw [List.length_drop];simp only [List.length_cons];omega) (by rw [List.length_drop];simp only [List.length_cons];omega)]
theorem skipF_S (f:Nat) (r:List UInt8) (p:Nat) (h:r.length < f):skipF f r p=skipS r p:=skipF_fuel _ _ _ _ h (Nat.lt_succ_self _)
theorem skipS_blank {c:UInt8} (r:List UInt8) (p:Nat) (h:isBlankN c.toNat=true):skipS (c :: r) p=skipS r (p+1):=by
 show skipF (r.length+1+1) (c :: r) p=_
 simp only [skipF]
 rw [if_pos h];rfl
theorem skipS_line {c:UInt8} (r:List UInt8) (p:Nat) (h:isBlankN c.toNat=false) (h1:c.toNat=35):skipS (c :: r) p=skipS ((c :: r).drop (lineLen (c :: r))) (p+lineLen (c :: r)):=by
 show skipF (r.length+1+1) (c :: r) p=_
 simp only [skipF]
 have h3:=lineLen_pos c r
 rw [if_neg (by rw [h];decide),if_pos h1,skipF_S _ _ _ (by rw [List.length_drop];simp only [List.length_cons];omega)]
theorem skipS_noEnd {c:UInt8} (r:List UInt8) (p:Nat) (h:isBlankN c.toNat=false) (h1:¬ c.toNat=35) (h2:Lib.hasPrefix (c :: r) [47,42]=true) (h3:Lib.index (r.drop 1) [42,47] < 0):skipS (c :: r) p=.error ⟨2,p⟩:=by
 show skipF (r.length+1+1) (c :: r) p=_
 simp only [skipF]
 rw [if_neg (by rw [h];decide),if_neg h1,if_pos h2,if_pos h3]
theorem skipS_rem {c:UInt8} (r:List UInt8) (p:Nat) (h:isBlankN c.toNat=false) (h1:¬ c.toNat=35) (h2:Lib.hasPrefix (c :: r) [47,42]=true) (h3:¬ Lib.index (r.drop 1) [42,47] < 0):skipS (c :: r) p=skipS ((c :: r).drop (4+(Lib.index (r.drop 1) [42,47]).toNat)) (p+(4+(Lib.index (r.drop 1) [42,47]).toNat)):=by
 show skipF (r.length+1+1) (c :: r) p=_
 simp only [skipF]
 rw [if_neg (by rw [h];decide),if_neg h1,if_pos h2,if_neg h3,skipF_S _ _ _ (by rw [List.length_drop];simp only [List.length_cons];omega)]
theorem skipS_word {c:UInt8} (r:List UInt8) (p:Nat) (h:isBlankN c.toNat=false) (h1:¬ c.toNat=35) (h2:Lib.hasPrefix (c :: r) [47,42]=false):skipS (c :: r) p=.ok p:=by
 show skipF (r.length+1+1) (c :: r) p=_
 simp only [skipF]
 rw [if_neg (by rw [h];decide),if_neg h1,if_neg (by rw [h2];decide)]
theorem nextL_S (l:List UInt8) (p:Nat):nextL l p=match skipS (l.drop p) p with
 | .error f=>.error f
 | .ok n=>scanL (l.drop n) n:=by
 unfold nextL
 rw [skipF_S _ _ _ (by rw [List.length_drop];omega)]
 all_goals (cases skipS (List.drop p l) p <;> rfl)
def inLine:List UInt8→Nat→Except Flt Nat
 | [],p=>.ok p
 | c :: r,p=>if c=10 then skipS (c :: r) p else inLine r (p+1)
theorem inLine_eq:∀ (r:List UInt8) (p:Nat),inLine r p=skipS (r.drop (lineLen r)) (p+lineLen r)
 | [],p=>rfl
 | c :: r,p=>by
  rw [inLine]
  by_cases h:c=10
  ·subst h
   rw [if_pos rfl]
   have e:lineLen (10 :: r)=1:=by simp [lineLen,Lib.indexByte]
   rw [e,skipS_blank r p (by decide)]
   rfl
  ·rw [if_neg h,inLine_eq r (p+1)]
   have e:lineLen (c :: r)=1+lineLen r:=by
    have hc:(c == 10)=false:=by simpa using h
    have e1:Lib.indexByte (c :: r) 10=if Lib.indexByte r 10 == -1 then -1 else Lib.indexByte r 10+1:=by
     rw [Lib.indexByte,hc];rfl
    have hge:=indexByte_lt r 10
    unfold lineLen
    rw [e1]
    by_cases hr:Lib.indexByte r 10 < 0
    ·have hr1:Lib.indexByte r 10 = -1:=by have:=Lib.indexByte_ge r 10;omega
     rw [hr1]
     simp
     omega
    ·have hb:(Lib.indexByte r 10 == -1)=false:=by rw [beq_eq_false_iff_ne];omega
     rw [hb,if_neg (by simp;omega),if_neg hr]
     simp
     omega
   rw [e,Nat.add_comm 1 (lineLen r),List.drop_succ_cons]
   congr 1
   omega
theorem skipS_inLine {c:UInt8} (r:List UInt8) (p:Nat) (h1:c.toNat=35):skipS (c :: r) p=inLine (c :: r) p:=by
 have hb:isBlankN c.toNat=false:=by unfold isBlankN;simp;omega
 rw [inLine_eq,skipS_line r p hb h1]
def inRem (q:Nat):List UInt8→Nat→Except Flt Nat
 | [],_=>.error ⟨2,q⟩
 | [_],_=>.error ⟨2,q⟩
 | c :: d :: r,p=>if c=42∧d=47 then skipS r (p+2) else inRem q (d :: r) (p+1)
theorem inRem_eq (q:Nat):∀ (r:List UInt8) (p:Nat),inRem q r p=if Lib.index r [42,47] < 0 then .error ⟨2,q⟩ else skipS (r.drop (2+(Lib.index r [42,47]).toNat)) (p+(2+(Lib.index r [42,47]).toNat))
 | [],p=>rfl
 | [c],p=>by
  rw [inRem]
  have e:Lib.index [c] [42,47] = -1:=by
   unfold Lib.index
   have:([42,47]:List UInt8).isPrefixOf [c]=false:=by simp [List.isPrefixOf]
   rw [this]
   simp [Lib.index]
  rw [e]
  rfl
 | c :: d :: r,p=>by
  rw [inRem]
  have hu:Lib.index (c :: d :: r) [42,47]=if ([42,47]:List UInt8).isPrefixOf (c :: d :: r) then 0 else if Lib.index (d :: r) [42,47] == -1 then -1 else Lib.index (d :: r) [42,47]+1:=by
   rw [Lib.index]
  by_cases h:c=42∧d=47
  ·obtain ⟨rfl,rfl⟩:=h
   rw [if_pos ⟨rfl,rfl⟩,hu]
   simp [List.isPrefixOf]
  ·have hp:([42,47]:List UInt8).isPrefixOf (c :: d :: r)=false:=by
    simp only [List.isPrefixOf,Bool.and_true,Bool.and_eq_false_iff]
    by_cases hc:c=42
    ·right
     have:¬ d=47:=fun e=>h ⟨hc,e⟩
     simpa using fun e=>this e.symm
    ·left
     simpa using fun e=>hc e.symm
   rw [if_neg h,hu,hp,inRem_eq q (d :: r) (p+1)]
   have hge:=Lib.index_ge (d :: r) [42,47]
   by_cases hr:Lib.index (d :: r) [42,47] < 0
   ·have hr1:Lib.index (d :: r) [42,47] = -1:=by omega
    rw [hr1]
    rfl
   ·have hb:(Lib.index (d :: r) [42,47] == -1)=false:=by rw [beq_eq_false_iff_ne];omega
    rw [if_neg hr,hb]
    simp only [Bool.false_eq_true,if_false]
    rw [if_neg (by omega)]
    have e:(Lib.index (d :: r) [42,47]+1).toNat=(Lib.index (d :: r) [42,47]).toNat+1:=by omega
    rw [e]
    have e2:2+((Lib.index (d :: r) [42,47]).toNat+1)=(2+(Lib.index (d :: r) [42,47]).toNat)+1:=by omega
    rw [e2,List.drop_succ_cons]
    congr 1
    omega
theorem skipS_inRem (r:List UInt8) (p:Nat):skipS (47 :: 42 :: r) p=inRem p r (p+2):=by
 have h2:Lib.hasPrefix (47 :: 42 :: r) [47,42]=true:=rfl
 rw [inRem_eq]
 by_cases h3:Lib.index r [42,47] < 0
 ·rw [if_pos h3,skipS_noEnd (42 :: r) p (by decide) (by decide) h2 h3]
 ·rw [if_neg h3,skipS_rem (42 :: r) p (by decide) (by decide) h2 h3]
  have e:4+(Lib.index (List.drop 1 (42 :: r)) [42,47]).toNat=(2+(Lib.index r [42,47]).toNat)+2:=by
   show 4+(Lib.index r [42,47]).toNat=_
   omega
  rw [e,List.drop_succ_cons,List.drop_succ_cons]
  congr 1
  omega
theorem skipS_other {c:UInt8} (r:List UInt8) (p:Nat) (h:isBlankN c.toNat=false) (h1:¬ c=35) (h2:¬ (c=47∧r.head?=some 42)):skipS (c :: r) p=.ok p:=by
 refine skipS_word r p h (fun e=>h1 (UInt8.toNat_inj.1 e)) ?_
 cases hh:Lib.hasPrefix (c :: r) [47,42] with
 | false=>rfl
 | true=>
  exfalso
  apply h2
  cases r with
  | nil=>simp [Lib.hasPrefix,List.isPrefixOf] at hh
  | cons d r=>
   simp [Lib.hasPrefix,List.isPrefixOf] at hh
   exact ⟨hh.1.symm,by rw [← hh.2];rfl⟩
section
def kQ (x:Wd):Nat:=if x.kind=0 then 0 else if x.kind=1 then 119 else if x.kind=2 then 58 else if x.kind=3 then (x.spelt.headD 0).toNat else if x.kind=4 then 48 else 34
def sQ (x:Wd):List UInt8:=if x.kind=1 then x.spelt else if x.kind=2 then x.spelt.drop 1 else if x.kind=5 then x.said else []
def WdQ (x:Wd):Prop:=
 (x.kind=0∧x.spelt=[]∧x.said=[]∧x.num=0)∨
 (x.kind=1∧(∃ c r,x.spelt=c :: r∧isLetN c.toNat=true)∧x.said=[]∧x.num=0)∨
 (x.kind=2∧(∃ c r,x.spelt=58 :: c :: r∧isLetN c.toNat=true)∧x.said=[]∧x.num=0)∨
 (x.kind=3∧(∃ c,x.spelt=[c]∧isSign c=true)∧x.said=[]∧x.num=0)∨
 (x.kind=4∧x.spelt=[]∧x.said=[])∨
 (x.kind=5∧x.spelt=[]∧x.num=0)
theorem smallB_let (c:UInt8) (h:isLetN c.toNat=true):isLetN (smallB c).toNat=true:=by
 unfold smallB
 split
 ·rename_i hc
  have hb:=UInt8.toNat_lt c
  unfold isCapN at hc
  simp at hc
  have e:((c - 65+97).toNat:Int)=(c.toNat:Int)+32:=by
   rw [UInt8.toNat_add,UInt8.toNat_sub]
   simp
   omega
  rw [e]
  unfold isLetN
  simp
  omega
 ·exact h
theorem sign_cases {c:UInt8} (h:isSign c=true):c=59∨c=44∨c=40∨c=41∨c=123∨c=125∨c=91∨c=93:=by
 unfold isSign at h
 have h1:=indexByte_mem _ _ (of_decide_eq_true h)
 simpa using h1
theorem nameLen_let {r:List UInt8} (h:¬ nameLen r=0):∃ c r',r=c :: r'∧isLetN c.toNat=true:=by
 cases r with
 | nil=>exact absurd rfl h
 | cons c r'=>
  refine ⟨c,r',rfl,?_⟩
  rw [nameLen] at h
  cases hc:isLetN c.toNat with
  | true=>rfl
  | false=>rw [hc] at h;exact absurd rfl h
theorem scan_wdq (r:List UInt8) (p:Nat) (x:PS) (h:scanL r p=.ok x):WdQ x.1:=by
 cases r with
 | nil=>unfold scanL at h;dsimp only at h;cases h;exact Or.inl ⟨rfl,rfl,rfl,rfl⟩
 | cons c r=>
  unfold scanL at h
  dsimp only at h
  split at h
  ·rename_i hl
   cases h
   refine Or.inr (Or.inl ⟨rfl,?_,rfl,rfl⟩)
   have hn:∃ m,nameLen (c :: r)=m+1:=by
    refine ⟨nameLen (c :: r) - 1,?_⟩
    have:1≤nameLen (c :: r):=by simp only [nameLen];rw [if_pos hl];omega
    omega
   obtain ⟨m,hm⟩:=hn
   refine ⟨smallB c,smallL (r.take m),?_,smallB_let c hl⟩
   show smallL ((c :: r).take (nameLen (c :: r)))=_
   rw [hm]
   rfl
  ·split at h
   ·rename_i h58
    split at h
    ·cases h
    ·rename_i hn
     cases h
     refine Or.inr (Or.inr (Or.inl ⟨rfl,?_,rfl,rfl⟩))
     obtain ⟨d,r',rfl,hd⟩:=nameLen_let hn
     obtain ⟨m,hm⟩:∃ m,nameLen (d :: r')=m+1:=⟨nameLen (d :: r') - 1,by omega⟩
     refine ⟨smallB d,smallL (r'.take m),?_,smallB_let d hd⟩
     show smallL ((c :: d :: r').take (1+nameLen (d :: r')))=_
     rw [hm,show 1+(m+1)=m+1+1 by omega]
     have hc:c=58:=UInt8.toNat_inj.1 h58
     subst hc
     rfl
   ·split at h
    ·obtain ⟨n',v',he⟩:∃ n' v':Nat,scanNumL (c :: r) p=if letdig ((c :: r).getD n' 0) then .error ⟨2,p⟩ else if 2147483647 < v' then .error ⟨3,p⟩ else .ok (⟨4,p,[],[],v'⟩,p+n'):=⟨_,_,rfl⟩
     rw [he] at h
     split at h
     ·cases h
     ·split at h
      ·cases h
      ·cases h;exact Or.inr (Or.inr (Or.inr (Or.inr (Or.inl ⟨rfl,rfl,rfl⟩))))
    ·split at h
     ·unfold quoteR at h
      cases hq:quoteL r with
      | none=>rw [hq] at h;cases h
      | some y=>
       rw [hq] at h
       cases h
       exact Or.inr (Or.inr (Or.inr (Or.inr (Or.inr ⟨rfl,rfl,rfl⟩))))
     ·split at h
      ·rename_i hs
       cases h
       refine Or.inr (Or.inr (Or.inr (Or.inl ⟨rfl,⟨c,?_,hs⟩,rfl,rfl⟩)))
       have:smallB c=c:=by rcases sign_cases hs with rfl | rfl | rfl | rfl | rfl | rfl | rfl | rfl <;> rfl
       show [smallB c]=[c]
       rw [this]
      ·cases h
theorem scan_spelt (r:List UInt8) (p:Nat) (x:PS) (h:scanL r p=.ok x):x.1.spelt.length≤r.length:=by
 have hs:∀ (k n:Nat) (q:List UInt8),(spellL k q p n).1.spelt.length≤q.length:=fun k n q=>by
  show (smallL (q.take n)).length≤_
  unfold smallL
  rw [List.length_map,List.length_take]
  omega
 cases r with
 | nil=>unfold scanL at h;dsimp only at h;cases h;simp
 | cons c r=>
  unfold scanL at h
  dsimp only at h
  split at h
  ·cases h;exact hs _ _ _
  ·split at h
   ·split at h
    ·cases h
    ·cases h;exact hs _ _ _
   ·split at h
    ·obtain ⟨n',v',he⟩:∃ n' v':Nat,scanNumL (c :: r) p=if letdig ((c :: r).getD n' 0) then .error ⟨2,p⟩ else if 2147483647 < v' then .error ⟨3,p⟩ else .ok (⟨4,p,[],[],v'⟩,p+n'):=⟨_,_,rfl⟩
     rw [he] at h
     split at h
     ·cases h
     ·split at h
      ·cases h
      ·cases h;simp
    ·split at h
     ·unfold quoteR at h
      cases hq:quoteL r with
      | none=>rw [hq] at h;cases h
      | some y=>rw [hq] at h;cases h;simp
     ·split at h
      ·cases h;exact hs _ _ _
      ·cases h
theorem next_spelt {l:List UInt8} {p:Nat} {s:PS} (h:nextL l p=.ok s):s.1.spelt.length≤l.length:=by
 unfold nextL at h
 cases hs:skipF (l.length+1) (l.drop p) p with
 | error f=>rw [hs] at h;cases h
 | ok n=>
  rw [hs] at h
  have:=scan_spelt _ n s h
  rw [List.length_drop] at this
  omega
theorem next_wdq {l:List UInt8} {p:Nat} {s:PS} (h:nextL l p=.ok s):WdQ s.1:=by
 unfold nextL at h
 cases hs:skipF (l.length+1) (l.drop p) p with
 | error f=>rw [hs] at h;cases h
 | ok n=>rw [hs] at h;exact scan_wdq _ n s h
section
variable {x:Wd} (h:WdQ x)
include h
theorem kQ_sign {c:UInt8} (hc:isSign c=true):kQ x=c.toNat↔x.spelt=[c]:=by
 have hs:=sign_cases hc
 rcases h with ⟨k,s,_⟩ | ⟨k,⟨d,r,s,hd⟩,_⟩ | ⟨k,⟨d,r,s,hd⟩,_⟩ | ⟨k,⟨d,s,hd⟩,_⟩ | ⟨k,s,_⟩ | ⟨k,s,_⟩
 all_goals (unfold kQ;rw [k,s];simp)
 ·rcases hs with rfl | rfl | rfl | rfl | rfl | rfl | rfl | rfl <;> decide
 ·constructor
  ·intro e;rcases hs with rfl | rfl | rfl | rfl | rfl | rfl | rfl | rfl <;> exact absurd e (by decide)
  ·rintro ⟨rfl,_⟩;rcases hs with rfl | rfl | rfl | rfl | rfl | rfl | rfl | rfl <;> exact absurd hd (by decide)
 ·rcases hs with rfl | rfl | rfl | rfl | rfl | rfl | rfl | rfl <;> decide
 ·exact UInt8.toNat_inj
 ·rcases hs with rfl | rfl | rfl | rfl | rfl | rfl | rfl | rfl <;> decide
 ·rcases hs with rfl | rfl | rfl | rfl | rfl | rfl | rfl | rfl <;> decide
theorem kQ_word:kQ x=119↔x.kind=1:=by
 rcases h with ⟨k,s,_⟩ | ⟨k,⟨d,r,s,hd⟩,_⟩ | ⟨k,⟨d,r,s,hd⟩,_⟩ | ⟨k,⟨d,s,hd⟩,_⟩ | ⟨k,s,_⟩ | ⟨k,s,_⟩
 all_goals (unfold kQ;rw [k];simp)
 rw [s]
 rcases sign_cases hd with rfl | rfl | rfl | rfl | rfl | rfl | rfl | rfl <;> decide
theorem kQ_tag:kQ x=58↔x.kind=2:=by
 rcases h with ⟨k,s,_⟩ | ⟨k,⟨d,r,s,hd⟩,_⟩ | ⟨k,⟨d,r,s,hd⟩,_⟩ | ⟨k,⟨d,s,hd⟩,_⟩ | ⟨k,s,_⟩ | ⟨k,s,_⟩
 all_goals (unfold kQ;rw [k];simp)
 rw [s]
 rcases sign_cases hd with rfl | rfl | rfl | rfl | rfl | rfl | rfl | rfl <;> decide
theorem kQ_str:kQ x=34↔x.kind=5:=by
 rcases h with ⟨k,s,_⟩ | ⟨k,⟨d,r,s,hd⟩,_⟩ | ⟨k,⟨d,r,s,hd⟩,_⟩ | ⟨k,⟨d,s,hd⟩,_⟩ | ⟨k,s,_⟩ | ⟨k,s,_⟩
 all_goals (unfold kQ;rw [k];simp)
 rw [s]
 rcases sign_cases hd with rfl | rfl | rfl | rfl | rfl | rfl | rfl | rfl <;> decide
theorem kQ_num:kQ x=48↔x.kind=4:=by
 rcases h with ⟨k,s,_⟩ | ⟨k,⟨d,r,s,hd⟩,_⟩ | ⟨k,⟨d,r,s,hd⟩,_⟩ | ⟨k,⟨d,s,hd⟩,_⟩ | ⟨k,s,_⟩ | ⟨k,s,_⟩
 all_goals (unfold kQ;rw [k];simp)
 rw [s]
 rcases sign_cases hd with rfl | rfl | rfl | rfl | rfl | rfl | rfl | rfl <;> decide
theorem kQ_end:kQ x=0↔x.kind=0:=by
 rcases h with ⟨k,s,_⟩ | ⟨k,⟨d,r,s,hd⟩,_⟩ | ⟨k,⟨d,r,s,hd⟩,_⟩ | ⟨k,⟨d,s,hd⟩,_⟩ | ⟨k,s,_⟩ | ⟨k,s,_⟩
 all_goals (unfold kQ;rw [k];simp)
 rw [s]
 rcases sign_cases hd with rfl | rfl | rfl | rfl | rfl | rfl | rfl | rfl <;> decide
theorem spelt_word {z:List UInt8} (hz:∃ c r,z=c :: r∧isLetN c.toNat=true):x.spelt=z↔(x.kind=1∧sQ x=z):=by
 obtain ⟨c,r,rfl,hc⟩:=hz
 rcases h with ⟨k,s,_⟩ | ⟨k,⟨d,r,s,hd⟩,_⟩ | ⟨k,⟨d,r,s,hd⟩,_⟩ | ⟨k,⟨d,s,hd⟩,_⟩ | ⟨k,s,_⟩ | ⟨k,s,_⟩
 all_goals (unfold sQ;rw [k,s];simp)
 ·rintro rfl;exact absurd hc (by decide)
 ·rintro rfl
  rcases sign_cases hd with rfl | rfl | rfl | rfl | rfl | rfl | rfl | rfl <;> exact absurd hc (by decide)
theorem spelt_tag {z:List UInt8} (hz:z≠[]):x.spelt=58 :: z↔(x.kind=2∧sQ x=z):=by
 rcases h with ⟨k,s,_⟩ | ⟨k,⟨d,r,s,hd⟩,_⟩ | ⟨k,⟨d,r,s,hd⟩,_⟩ | ⟨k,⟨d,s,hd⟩,_⟩ | ⟨k,s,_⟩ | ⟨k,s,_⟩
 all_goals (unfold sQ;rw [k,s];simp)
 ·rintro rfl;exact absurd hd (by decide)
 ·rintro rfl
  exact absurd hd (by decide)
end
theorem sQ_len {x:Wd} {n:Nat} (h1:x.spelt.length≤n) (h2:x.said.length≤n):(sQ x).length≤n:=by
 unfold sQ
 split
 ·exact h1
 ·split
  ·rw [List.length_drop];omega
  ·split
   ·exact h2
   ·simp
end
section
def restL (l:List UInt8) (chk:List UInt8→Nat) (f:Nat) (acc:List (List UInt8)) (s:PS):Except Flt (List (List UInt8)×PS):=thenL (stringL l chk s) fun x s1=>moreL l chk f (acc++[x]) s1
theorem which1 (z x:List UInt8):whichL [z] x=if z=x then 1 else 0:=by
 unfold whichL
 by_cases h:z=x
 ·rw [if_pos h,if_pos h]
 ·rw [if_neg h,if_neg h];rfl
section
variable {l:List UInt8} {chk:List UInt8→Nat} {F:Nat} {s:PS} (hw:WdQ s.1)
include hw
theorem strings_one (hk:¬ kQ s.1=91):stringsL l chk F s=thenL (stringL l chk s) fun x s1=>.ok ([x],s1):=by
 have h:¬ s.1.spelt=[91]:=fun e=>hk ((kQ_sign hw (c:=91) (by decide)).2 e)
 have e:mayL l [[91]] s=.ok (0,s):=by
  have hz:whichL [[91]] s.1.spelt=0:=by rw [which1,if_neg (fun e=>h e.symm)]
  unfold mayL
  rw [if_pos hz]
 unfold stringsL
 rw [e]
 dsimp only
 cases stringL l chk s with
 | error f=>rfl
 | ok z=>rfl
theorem strings_many (hk:kQ s.1=91):stringsL l chk F s=match nextL l s.2 with | .ok s1=>restL l chk F [] s1 | .error f=>.error f:=by
 have h:s.1.spelt=[91]:=(kQ_sign hw (c:=91) (by decide)).1 hk
 have e:mayL l [[91]] s=match nextL l s.2 with | .ok s'=>.ok (1,s') | .error f=>.error f:=by
  have hz:whichL [[91]] s.1.spelt=1:=by rw [which1,if_pos h.symm]
  unfold mayL
  rw [hz,if_neg (by decide)]
  cases nextL l s.2 <;> rfl
 unfold stringsL
 rw [e]
 cases nextL l s.2 with
 | error f=>rfl
 | ok s1=>
  dsimp only
  unfold restL
  cases stringL l chk s1 with
  | error f=>rfl
  | ok z=>rfl
theorem more_comma {acc:List (List UInt8)} (hk:kQ s.1=44):moreL l chk (F+1) acc s=match nextL l s.2 with | .ok s1=>restL l chk F acc s1 | .error f=>.error f:=by
 have h:s.1.spelt=[44]:=(kQ_sign hw (c:=44) (by decide)).1 hk
 have e:passL l [[44],[93]] s=match nextL l s.2 with | .ok s'=>.ok (1,s') | .error f=>.error f:=by
  unfold passL
  have hw':whichL [[44],[93]] s.1.spelt=1:=by rw [h];rfl
  rw [hw',if_neg (by decide)]
  cases nextL l s.2 <;> rfl
 rw [moreL,e]
 cases nextL l s.2 with
 | error f=>rfl
 | ok s1=>
  dsimp only
  unfold restL
  rw [if_pos rfl]
  cases stringL l chk s1 with
  | error f=>rfl
  | ok z=>rfl
theorem more_close {acc:List (List UInt8)} (hk:kQ s.1=93):moreL l chk (F+1) acc s=match nextL l s.2 with | .ok s1=>.ok (acc,s1) | .error f=>.error f:=by
 have h:s.1.spelt=[93]:=(kQ_sign hw (c:=93) (by decide)).1 hk
 have e:passL l [[44],[93]] s=match nextL l s.2 with | .ok s'=>.ok (2,s') | .error f=>.error f:=by
  unfold passL
  have hw':whichL [[44],[93]] s.1.spelt=2:=by rw [h];rfl
  rw [hw',if_neg (by decide)]
  cases nextL l s.2 <;> rfl
 rw [moreL,e]
 cases nextL l s.2 with
 | error f=>rfl
 | ok s1=>
  dsimp only
  rw [if_neg (by decide)]
theorem more_bad {acc:List (List UInt8)} (h1:¬ kQ s.1=44) (h2:¬ kQ s.1=93):moreL l chk (F+1) acc s=.error ⟨4,s.1.pos⟩:=by
 have n1:¬ s.1.spelt=[44]:=fun e=>h1 ((kQ_sign hw (c:=44) (by decide)).2 e)
 have n2:¬ s.1.spelt=[93]:=fun e=>h2 ((kQ_sign hw (c:=93) (by decide)).2 e)
 have e:passL l [[44],[93]] s=.error ⟨4,s.1.pos⟩:=by
  unfold passL
  have hw':whichL [[44],[93]] s.1.spelt=0:=by
   have hz:whichL [[93]] s.1.spelt=0:=by rw [which1,if_neg (fun e=>n2 e.symm)]
   unfold whichL
   rw [if_neg (fun e=>n1 e.symm),if_pos hz]
  rw [hw',if_pos rfl]
 rw [moreL,e]
end
end
end Go.Proofs.YtgnkjijocdmniaaGreatDoor
