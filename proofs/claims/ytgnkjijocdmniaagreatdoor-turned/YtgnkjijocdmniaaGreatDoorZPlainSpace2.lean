import Derived.Lib.Index
import Derived.Lib.Bytealg
import Derived.Lib.Strings
import Derived.Lib.SlicesS
namespace Go.Proofs.YtgnkjijocdmniaaGreatDoor
set_option linter.unusedVariables false
set_option linter.unusedSimpArgs false
set_option maxRecDepth 100000
set_option maxHeartbeats 4000000
abbrev L8:=List UInt8
def QaS (c:Int):Bool:=decide (48≤c) && decide (c≤57)
def Qa8 (c:Int):Bool:=c == 32 || c == 9 || c == 10 || c == 13
def QeB (c:Int):Bool:=decide (65≤c) && decide (c≤90)
def QjS (c:Int):Bool:=decide (97≤c) && decide (c≤122)
def Qbs (c:Int):Bool:=(decide (97≤c) && decide (c≤122)) || QeB c || c == 95
theorem Quy(c:Int):Qbs c=(QjS c || QeB c || c==95):=rfl
def letdig (c:UInt8):Bool:=Qbs c.toNat || QaS c.toNat
def Qbe (l:L8):Nat:=(l.takeWhile letdig).length
def Qa5:L8→Nat
 | []=>0
 | c :: r=>if Qbs c.toNat then 1+Qbe r else 0
def isNameL (l:L8):Bool:=!l.isEmpty && Qa5 l == l.length
def Qgr (c:UInt8):UInt8:=if QeB c.toNat then c - 65+97 else c
def zL (l:L8):L8:=l.map Qgr
theorem Qc0(c:UInt8)(r:L8):Qbe (c::r)=if letdig c then 1+Qbe r else 0:=by
 unfold Qbe;rw[List.takeWhile_cons];split
 ·rw[List.length_cons];omega
 ·rfl
theorem QpC(l:L8):Qbe l<=l.length:=by
 induction l with
 |nil=>simp[Qbe]
 |cons c r ih=>rw[Qc0];split<;>simp<;>omega
theorem QcR(l:L8):Qa5 l<=l.length:=by
 cases l with
 |nil=>simp[Qa5]
 |cons c r=>have:=QpC r;simp only[Qa5];split<;>simp<;>omega
structure Flt where
 err:Nat
 pos:Nat
structure Wd where
 kind:Nat
 pos:Nat
 spelt:L8
 said:L8
 num:Nat
def lineLen (l:L8):Nat:=if Lib.indexByte l 10 < 0 then l.length else (Lib.indexByte l 10).toNat+1
theorem Qik(l:L8)(c:UInt8):Lib.indexByte l c<l.length:=by
 induction l with
 |nil=>simp[Lib.indexByte]
 |cons b l ih=>
  unfold Lib.indexByte;rw[List.length_cons];split
  ·omega
  ·split<;>omega
theorem Qel(l sub:L8):Lib.index l sub<0\/Lib.index l sub+sub.length<=l.length:=by
 induction l with
 |nil=>
  unfold Lib.index
  cases sub with
  |nil=>right;decide
  |cons a t=>left;simp
 |cons b l ih=>
  unfold Lib.index;split
  ·rename_i h;right;have:=(List.isPrefixOf_iff_prefix.1 h).length_le;simp at this ⊢;omega
  ·split
   ·left;decide
   ·have:=Lib.index_ge l sub;rename_i h1 h2;have h3:¬ Lib.index l sub = -1:=by simpa using h2
    simp;omega
theorem QfZ(l:L8):lineLen l<=l.length:=by
 have:=Qik l 10;unfold lineLen;split<;>omega
theorem Qd2(c:UInt8)(l:L8):1<=lineLen (c::l):=by
 unfold lineLen;split
 ·simp
 ·omega
def QbJ:Nat→L8→Nat→Except Flt Nat
 | 0,_,p=>.ok p
 | _+1,[],p=>.ok p
 | f+1,c :: r,p=>
  if Qa8 c.toNat then QbJ f r (p+1)
  else if c.toNat=35 then QbJ f ((c :: r).drop (lineLen (c :: r))) (p+lineLen (c :: r))
  else if Lib.hasPrefix (c :: r) [47,42] then
   if Lib.index (r.drop 1) [42,47] < 0 then .error ⟨2,p⟩
   else QbJ f ((c :: r).drop (4+(Lib.index (r.drop 1) [42,47]).toNat)) (p+(4+(Lib.index (r.drop 1) [42,47]).toNat))
  else .ok p
def QbD (k:Nat) (rest:L8) (p n:Nat):Wd×Nat:=(⟨k,p,zL (rest.take n),[],0⟩,p+n)
def Qa7 (l:L8):Nat:=(l.takeWhile fun c=>QaS c.toNat).length
def Qgy (v:Nat) (c:UInt8):Nat:=min (v*10+(c.toNat - 48)) 2147483648
def Qdn (l:L8):Nat:=(l.takeWhile fun c=>QaS c.toNat).foldl Qgy 0
def isM (c:UInt8):Bool:=c.toNat == 77 || c.toNat == 109
def isK (c:UInt8):Bool:=c.toNat == 75 || c.toNat == 107
def sNL (rest:L8) (p:Nat):Except Flt (Wd×Nat):=
 let n:=Qa7 rest
 let v:=Qdn rest
 let c:=rest.getD n 0
 let v':=if isM c then v*1048576 else if isK c then v*1024 else v
 let n':=if isM c || isK c then n+1 else n
 if letdig (rest.getD n' 0) then .error ⟨2,p⟩
 else if 2147483647 < v' then .error ⟨3,p⟩
 else .ok (⟨4,p,[],[],v'⟩,p+n')
def qL:L8→Option (L8×Nat)
 | []=>none
 | c :: r=>
  if c.toNat=34 then some ([],1)
  else if c.toNat=92 then
   match r with
   | []=>none
   | d :: r'=>(qL r').map fun x=>(d :: x.1,x.2+2)
  else (qL r).map fun x=>(c :: x.1,x.2+1)
def quoteR (r:L8) (p:Nat):Except Flt (Wd×Nat):=
 match qL r with
 | none=>.error ⟨2,p⟩
 | some x=>.ok (⟨5,p,[],x.1,0⟩,p+(1+x.2))
def Qho (c:UInt8):Bool:=decide (0≤Lib.indexByte [59,44,40,41,123,125,91,93] c)
def scanL (rest:L8) (p:Nat):Except Flt (Wd×Nat):=
 match rest with
 | []=>.ok (⟨0,p,[],[],0⟩,p)
 | c :: r=>
  if Qbs c.toNat then .ok (QbD 1 (c :: r) p (Qa5 (c :: r)))
  else if c.toNat=58 then
   if Qa5 r=0 then .error ⟨2,p⟩ else .ok (QbD 2 (c :: r) p (1+Qa5 r))
  else if QaS c.toNat then sNL (c :: r) p
  else if c.toNat=34 then quoteR r p
  else if Qho c then .ok (QbD 3 (c :: r) p 1)
  else .error ⟨2,p⟩
def nL (l:L8) (p:Nat):Except Flt (Wd×Nat):=
 match QbJ (l.length+1) (l.drop p) p with
 | .error f=>.error f
 | .ok n=>scanL (l.drop n) n
theorem QdE(l:L8):∀(f p n:Nat),p<=l.length->QbJ f (l.drop p) p=.ok n->p<=n/\n<=l.length
 |0,p,n,hp,h=>by
  simp only[QbJ]at h;cases h;exact⟨Nat.le_refl _,hp⟩
 |f+1,p,n,hp,h=>by
  by_cases hlt:p<l.length
  ·rw[List.drop_eq_getElem_cons hlt]at h;simp only[QbJ]at h
   split at h
   ·have:=QdE l f (p+1) n (by omega) h;omega
   ·rw[<-List.drop_eq_getElem_cons hlt]at h
    split at h
    ·rw[List.drop_drop]at h;have h1:=QfZ (l.drop p);rw[List.length_drop]at h1;have:=QdE l f _ n (by omega) h;omega
    ·split at h
     ·split at h
      ·cases h
      ·rename_i hp2 hi;have e:List.drop 1 (List.drop (p+1) l)=List.drop (p+1+1) l:=by rw[List.drop_drop]
       rw[e]at h hi;rw[List.drop_drop]at h;have h1:=Qel (l.drop (p+1+1)) [42,47];rw[List.length_drop]at h1
       have h2:2<=(l.drop p).length:=by
        have:=(List.isPrefixOf_iff_prefix.1 hp2).length_le;simpa using this
       rw[List.length_drop]at h2
       have h3:Lib.index (l.drop (p+1+1)) [42,47]+2<=(l.length - (p+1+1):Nat):=by
        rcases h1 with h1|h1
        ·exact absurd h1 hi
        ·simpa using h1
       have:=QdE l f _ n (by omega) h;omega
     ·cases h;exact⟨Nat.le_refl _,hp⟩
  ·rw[List.drop_of_length_le (by omega)]at h;simp only[QbJ]at h;cases h;exact⟨Nat.le_refl _,hp⟩
theorem Qg5:∀(r:L8) (x:L8×Nat),qL r=some x->1<=x.2/\x.2<=r.length
 | [],x,h=>by cases h
 |c::r,x,h=>by
  rw[qL.eq_def]at h;dsimp only at h
  split at h
  ·cases h;simp
  ·split at h
   ·cases r with
    |nil=>cases h
    |cons d r'=>
     dsimp only at h
     cases hq:qL r' with
     |none=>rw[hq]at h;cases h
     |some y=>
      have:=Qg5 r' y hq;rw[hq]at h;cases h;simp;omega
   ·cases hq:qL r with
    |none=>rw[hq]at h;cases h
    |some y=>
     have:=Qg5 r y hq;rw[hq]at h;cases h;simp;omega
theorem QeW:∀(r:L8) (x:L8×Nat),qL r=some x->x.1.length<x.2
 | [],x,h=>by cases h
 |c::r,x,h=>by
  rw[qL.eq_def]at h;dsimp only at h
  split at h
  ·cases h;simp
  ·split at h
   ·cases r with
    |nil=>cases h
    |cons d r'=>
     dsimp only at h
     cases hq:qL r' with
     |none=>rw[hq]at h;cases h
     |some y=>
      have:=QeW r' y hq;rw[hq]at h;cases h;simp;omega
   ·cases hq:qL r with
    |none=>rw[hq]at h;cases h
    |some y=>
     have:=QeW r y hq;rw[hq]at h;cases h;simp;omega
theorem Qh7(l:L8):Qa7 l<=l.length:=by
 unfold Qa7;exact(List.takeWhile_prefix _).length_le
theorem QdS(l:L8)(n:Nat)(h:l.length<=n):l.getD n 0=0:=by
 rw[List.getD_eq_getElem?_getD,List.getElem?_eq_none h];rfl
theorem Qja(l:L8)(p:Nat)(hp:p<=l.length)(x:Wd×Nat)(h:scanL (l.drop p) p=.ok x) :
 x.1.pos=p/\x.2<=l.length/\p<=x.2/\(x.1.kind=0->p=l.length/\x.1.spelt=[])/\(x.1.kind≠0->p<x.2):=by
 by_cases hlt:p<l.length
 ·obtain⟨c,r,ab,hrl⟩:∃ c r,l.drop p=c::r/\r.length=l.length - (p+1):=⟨_,_,List.drop_eq_getElem_cons hlt,by simp⟩;rw[ab]at h;clear ab;unfold scanL at h;dsimp only at h;have hn:=QcR (c::r);have ad:=QcR r;simp only[List.length_cons]at hn ad
  split at h
  ·rename_i hl
   have hpos:1<=Qa5 (c::r):=by
    simp only[Qa5];rw[if_pos hl];omega
   cases h;simp[QbD];omega
  ·split at h
   ·split at h
    ·cases h
    ·cases h;simp[QbD];omega
   ·split at h
    ·rename_i hg;have hd:=Qh7 (c::r)
     have hd1:1<=Qa7 (c::r):=by
      simp[Qa7,hg]
     simp only[List.length_cons]at hd
     obtain⟨n',v',ac,he⟩:∃ n' v':Nat,n'=(if isM ((c::r).getD (Qa7 (c::r)) 0) || isK ((c::r).getD (Qa7 (c::r)) 0)then Qa7 (c::r)+1 else Qa7 (c::r))/\
      sNL (c::r) p=if letdig ((c::r).getD n' 0)then .error ⟨2,p⟩else if 2147483647<v' then .error ⟨3,p⟩else .ok (⟨4,p,[],[],v'⟩,p+n'):=⟨_,_,rfl,rfl⟩
     rw[he]at h
     have hn2:n'<=l.length - p/\1<=n':=by
      by_cases hm:(isM ((c::r).getD (Qa7 (c::r)) 0) || isK ((c::r).getD (Qa7 (c::r)) 0))=true
      ·have aa:Qa7 (c::r)<(c::r).length:=by
        apply Classical.byContradiction;intro hge;rw[QdS _ _ (by omega)]at hm;exact absurd hm (by decide)
       simp only[List.length_cons]at aa;rw[ac,if_pos hm];omega
      ·rw[ac,if_neg hm];omega
     split at h
     ·cases h
     ·split at h
      ·cases h
      ·cases h;simp;omega
    ·split at h
     ·unfold quoteR at h
      cases hq:qL r with
      |none=>rw[hq]at h;cases h
      |some y=>
       rw[hq]at h;have:=Qg5 _ _ hq;cases h;simp;omega
     ·split at h
      ·cases h;simp[QbD];omega
      ·cases h
 ·have e:p=l.length:=by omega
  rw[List.drop_of_length_le (by omega)]at h;unfold scanL at h;dsimp only at h;cases h;simp;omega
theorem QjK(l:L8)(p:Nat)(x:Wd×Nat)(h:scanL (l.drop p) p=.ok x):x.1.said.length<=l.length/\x.1.num<=2147483647:=by
 have hl:(l.drop p).length<=l.length:=by simp
 generalize l.drop p=r at h hl
 cases r with
 |nil=>unfold scanL at h;dsimp only at h;cases h;simp
 |cons c r=>
  unfold scanL at h;dsimp only at h
  split at h
  ·cases h;simp[QbD]
  ·split at h
   ·split at h
    ·cases h
    ·cases h;simp[QbD]
   ·split at h
    ·obtain⟨n',v',he⟩:∃ n' v':Nat,sNL (c::r) p=if letdig ((c::r).getD n' 0)then .error ⟨2,p⟩else if 2147483647<v' then .error ⟨3,p⟩else .ok (⟨4,p,[],[],v'⟩,p+n'):=⟨_,_,rfl⟩
     rw[he]at h
     split at h
     ·cases h
     ·split at h
      ·cases h
      ·cases h;simp;omega
    ·split at h
     ·unfold quoteR at h
      cases hq:qL r with
      |none=>rw[hq]at h;cases h
      |some y=>
       rw[hq]at h;have h1:=Qg5 _ _ hq;have h2:=QeW _ _ hq;cases h;simp at hl ⊢;omega
     ·split at h
      ·cases h;simp[QbD]
      ·cases h
theorem Qkm(l:L8)(p:Nat)(x:Wd×Nat)(h:nL l p=.ok x):x.1.said.length<=l.length/\x.1.num<=2147483647:=by
 unfold nL at h
 cases hs:QbJ (l.length+1) (l.drop p) p with
 |error f=>rw[hs]at h;cases h
 |ok n=>rw[hs]at h;exact QjK l n x h
def Qld (sp:L8):Prop:=∀ c r,sp=c :: r→Qbs c.toNat=false
theorem Qg1:∀(l:L8) (c:UInt8),0<=Lib.indexByte l c->c∈l
 | [],c,h=>by simp[Lib.indexByte]at h
 |b::l,c,h=>by
  unfold Lib.indexByte at h
  split at h
  ·rename_i hb;have:b=c:=by simpa using hb
   subst this;simp
  ·split at h
   ·exact absurd h (by decide)
   ·have h1:=Lib.indexByte_ge l c;rename_i h2;have h3:¬ Lib.indexByte l c = -1:=by simpa using h2
    have:=Qg1 l c (by omega);simp[this]
theorem QmO(c:UInt8)(h:Qho c=true):Qbs (Qgr c).toNat=false:=by
 have hm:=Qg1 _ _ (of_decide_eq_true h);simp at hm;rcases hm with h|h|h|h|h|h|h|h<;>subst h<;>decide
theorem Qoz(l:L8)(p:Nat)(x:Wd×Nat)(h:scanL (l.drop p) p=.ok x)(hk:¬ x.1.kind=1):Qld x.1.spelt:=by
 generalize l.drop p=r at h
 cases r with
 |nil=>unfold scanL at h;dsimp only at h;cases h;intro c r e;cases e
 |cons c r=>
  unfold scanL at h;dsimp only at h
  split at h
  ·cases h;exact absurd rfl hk
  ·split at h
   ·rename_i h58
    split at h
    ·cases h
    ·cases h;intro c' r' e;rw[show 1+Qa5 r=Qa5 r+1 from by omega]at e;simp[QbD,zL,List.take_succ_cons]at e;obtain⟨e,-⟩:=e;subst e;have:c=58:=UInt8.toNat_inj.1 h58;subst this;decide
   ·split at h
    ·obtain⟨n',v',he⟩:∃ n' v':Nat,sNL (c::r) p=if letdig ((c::r).getD n' 0)then .error ⟨2,p⟩else if 2147483647<v' then .error ⟨3,p⟩else .ok (⟨4,p,[],[],v'⟩,p+n'):=⟨_,_,rfl⟩
     rw[he]at h
     split at h
     ·cases h
     ·split at h
      ·cases h
      ·cases h;intro c r e;cases e
    ·split at h
     ·unfold quoteR at h
      cases hq:qL r with
      |none=>rw[hq]at h;cases h
      |some y=>rw[hq]at h;cases h;intro c r e;cases e
     ·split at h
      ·rename_i hs;cases h;intro c' r' e;simp[QbD,zL]at e;obtain⟨e,-⟩:=e;subst e;exact QmO c hs
      ·cases h
theorem QoR(l:L8)(p:Nat)(x:Wd×Nat)(h:nL l p=.ok x)(hk:¬ x.1.kind=1):Qld x.1.spelt:=by
 unfold nL at h
 cases hs:QbJ (l.length+1) (l.drop p) p with
 |error f=>rw[hs]at h;cases h
 |ok n=>rw[hs]at h;exact Qoz l n x h hk
theorem Qby(l:L8)(p:Nat)(hp:p<=l.length)(x:Wd×Nat)(h:nL l p=.ok x) :
 x.1.pos<=l.length/\x.2<=l.length/\p<=x.2/\(x.1.kind=0->x.1.spelt=[])/\(x.1.kind≠0->p<x.2):=by
 unfold nL at h
 cases hs:QbJ (l.length+1) (l.drop p) p with
 |error f=>rw[hs]at h;cases h
 |ok n=>
  rw[hs]at h;have h1:=QdE l _ p n hp hs;have h2:=Qja l n h1.2 x h;refine⟨by omega,h2.2.1,by omega,fun hk=>(h2.2.2.2.1 hk).2,fun hk=>by have:=h2.2.2.2.2 hk;omega⟩
def wL:List (L8)→L8→Nat
 | [],_=>0
 | s :: r,x=>if s=x then 1 else if wL r x=0 then 0 else wL r x+1
def Qaf (x:L8):ByteArray:=⟨x.toArray⟩
theorem QiV{x y:L8}(h:Qaf x=Qaf y):x=y:=by
 have:=congrArg (fun b:ByteArray=>b.data.toList) h;simpa[Qaf]using this
theorem Qht(x:L8):∀(zs:List (L8)) (i:Nat),Lib.idxFromS (zs.map Qaf) (Qaf x) i=if wL zs x=0 then -1 else(i:Int)+wL zs x - 1
 | [],i=>rfl
 |s::r,i=>by
  rw[List.map_cons];unfold wL Lib.idxFromS;by_cases h:s=x
  ·subst h;simp
  ·have h':¬ Qaf s=Qaf x:=fun e=>h (QiV e)
   rw[if_neg h,if_neg h',Qht x r (i+1)];by_cases h0:wL r x=0
   ·simp[h0]
   ·simp[h0];omega
theorem QoJ(zs:List (L8))(x:L8):Lib.idxOfS (zs.map Qaf) (Qaf x)+1=wL zs x:=by
 unfold Lib.idxOfS;rw[Qht];split<;>omega
theorem QkD(zs:List (L8))(x:L8):Lib.containsS (zs.map Qaf) (Qaf x)=decide (0<wL zs x):=by
 unfold Lib.containsS;have:=QoJ zs x;by_cases h:0<wL zs x
 ·simp[h];omega
 ·simp[h];omega
theorem QbN(zs:List (L8))(x:L8):wL zs x<=zs.length:=by
 induction zs with
 |nil=>simp[wL]
 |cons s r ih=>
  unfold wL;split
  ·simp
  ·split<;>simp<;>omega
abbrev PS:=Wd×Nat
def mayL (l:L8) (zs:List (L8)) (s:PS):Except Flt (Nat×PS):=
 if wL zs s.1.spelt=0 then .ok (0,s) else
 match nL l s.2 with
 | .error f=>.error f
 | .ok s'=>.ok (wL zs s.1.spelt,s')
def paL (l:L8) (zs:List (L8)) (s:PS):Except Flt (Nat×PS):=
 if wL zs s.1.spelt=0 then .error ⟨4,s.1.pos⟩ else
 match nL l s.2 with
 | .error f=>.error f
 | .ok s'=>.ok (wL zs s.1.spelt,s')
def sL (l:L8) (chk:L8→Nat) (s:PS):Except Flt (L8×PS):=
 if s.1.kind=5 then
  if chk s.1.said=0 then
   match nL l s.2 with
   | .error f=>.error f
   | .ok s'=>.ok (s.1.said,s')
  else .error ⟨chk s.1.said,s.1.pos⟩
 else .error ⟨4,s.1.pos⟩
def mu (n:Nat) (s:PS):Nat:=2*(n - s.2)+(if s.1.kind=0 then 0 else 1)
theorem Qcf{l:L8}{s y:PS}(hp:s.2<=l.length)(hk:¬ s.1.kind=0)(h:nL l s.2=.ok y):mu l.length y<mu l.length s:=by
 obtain⟨h1,h2,h3,h4,h5⟩:=Qby l s.2 hp y h;unfold mu;rw[if_neg hk];by_cases h0:y.1.kind=0
 ·rw[if_pos h0];omega
 ·have:=h5 h0;rw[if_neg h0];omega
theorem QeA(zs:List (L8))(h:∀ z∈zs,z≠[]):wL zs []=0:=by
 induction zs with
 |nil=>rfl
 |cons a r ih=>
  unfold wL;rw[if_neg (h a (by simp)),if_pos (ih fun z hz=>h z (by simp[hz]))]
theorem Qjd{l:L8}{zs:List (L8)}{s:PS}{y:Nat×PS}(hp:s.2<=l.length)(he:s.1.kind=0->s.1.spelt=[])(hz:∀ z∈zs,z≠[])(h:paL l zs s=.ok y):mu l.length y.2<mu l.length s/\y.1=wL zs s.1.spelt/\¬ y.1=0:=by
 unfold paL at h
 split at h
 ·cases h
 ·rename_i h0;have hk:¬ s.1.kind=0:=fun e=>h0 (by rw[he e];exact QeA zs hz)
  cases hn:nL l s.2 with
  |error f=>rw[hn]at h;cases h
  |ok s'=>rw[hn]at h;cases h;exact⟨Qcf hp hk hn,rfl,h0⟩
theorem Qkp{l:L8}{zs:List (L8)}{s:PS}{y:Nat×PS}(hp:s.2<=l.length)(he:s.1.kind=0->s.1.spelt=[])(hz:∀ z∈zs,z≠[])(h:mayL l zs s=.ok y):mu l.length y.2<=mu l.length s/\(¬ y.1=0->mu l.length y.2<mu l.length s)/\y.1=wL zs s.1.spelt/\(y.1=0->y.2=s):=by
 unfold mayL at h
 split at h
 ·rename_i h0;cases h;exact⟨Nat.le_refl _,fun h=>absurd rfl h,h0.symm,fun _=>rfl⟩
 ·rename_i h0;have hk:¬ s.1.kind=0:=fun e=>h0 (by rw[he e];exact QeA zs hz)
  cases hn:nL l s.2 with
  |error f=>rw[hn]at h;cases h
  |ok s'=>
   rw[hn]at h;cases h;exact⟨Nat.le_of_lt (Qcf hp hk hn),fun _=>Qcf hp hk hn,rfl,fun e=>absurd e h0⟩
theorem Qew{l:L8}{chk:L8->Nat}{s:PS}{y:L8×PS}(hp:s.2<=l.length)(h:sL l chk s=.ok y):mu l.length y.2<mu l.length s/\y.1=s.1.said:=by
 unfold sL at h
 split at h
 ·rename_i hk
  split at h
  ·cases hn:nL l s.2 with
   |error f=>rw[hn]at h;cases h
   |ok s'=>rw[hn]at h;cases h;exact⟨Qcf hp (by omega) hn,rfl⟩
  ·cases h
 ·cases h
def moreL (l:L8) (chk:L8→Nat):Nat→List (L8)→PS→Except Flt (List (L8)×PS)
 | 0,acc,s=>.ok (acc,s)
 | f+1,acc,s=>
  match paL l [[44],[93]] s with
  | .error e=>.error e
  | .ok y=>
   if y.1=1 then
    match sL l chk y.2 with
    | .error e=>.error e
    | .ok z=>moreL l chk f (acc++[z.1]) z.2
   else .ok (acc,y.2)
def sLs (l:L8) (chk:L8→Nat) (fuel:Nat) (s:PS):Except Flt (List (L8)×PS):=
 match mayL l [[91]] s with
 | .error e=>.error e
 | .ok y=>
  match sL l chk y.2 with
  | .error e=>.error e
  | .ok z=>if y.1=0 then .ok ([z.1],z.2) else moreL l chk fuel [z.1] z.2
def Qfk:L8:=[107,101,101,112]
def Qb0:L8:=[100,105,115,99,97,114,100]
def Qd6:L8:=[115,116,111,112]
def QaO:L8:=[102,105,108,101,105,110,116,111]
def Qbl:L8:=[114,101,100,105,114,101,99,116]
def Qbc:L8:=[114,101,106,101,99,116]
def QhB:L8:=[115,101,116]
def kIf:L8:=[105,102]
def QfB:L8:=[116,114,117,101]
def QcD:L8:=[102,97,108,115,101]
def kNot:L8:=[110,111,116]
def QbW:L8:=[97,108,108,111,102]
def QbV:L8:=[97,110,121,111,102]
def QbX:L8:=[104,101,97,100,101,114]
def QaL:L8:=[101,110,118,101,108,111,112,101]
def Qbx:L8:=[115,116,114,105,110,103]
def QbK:L8:=[101,120,105,115,116,115]
def Qd5:L8:=[115,105,122,101]
def QbM:L8:=[101,108,115,105,102]
def Qch:L8:=[101,108,115,101]
def kRequire:L8:=[114,101,113,117,105,114,101]
def Qbw:L8:=[118,97,114,105,97,98,108,101,115]
def QhJ:L8:=[102,114,111,109]
def kTo:L8:=[116,111]
def QbT:L8:=[58,108,111,119,101,114]
def QbU:L8:=[58,117,112,112,101,114]
def Qbr:L8:=[58,108,101,110,103,116,104]
def tIs:L8:=[58,105,115]
def Qaq:L8:=[58,99,111,110,116,97,105,110,115]
def Qaz:L8:=[58,109,97,116,99,104,101,115]
def Qdh:L8:=[58,111,118,101,114]
def Qb9:L8:=[58,117,110,100,101,114]
def Qas:L8:=[58,99,111,109,112,97,114,97,116,111,114]
def Qcl:L8:=[105,59,111,99,116,101,116]
def QdD:L8:=[105,59,97,115,99,105,105,45,99,97,115,101,109,97,112]
def cNs:List (L8):=[Qfk,Qb0,Qd6,QaO,Qbl,Qbc,QhB,kIf]
def tNs:List (L8):=[QfB,QcD,kNot,QbW,QbV,QbX,QaL,Qbx,QbK,Qd5]
structure Qcv where
 kind:Nat
 pos:Nat
 tag:Nat
 octet:Bool
 fr:List (L8)
 keys:List (L8)
 num:Nat
def Qa6:Nat→Type
 | 0=>Unit
 | n+1=>Qcv×List (Qa6 n)
structure Qgt where
 kind:Nat
 pos:Nat
 tag:Nat
 arg:L8
 var:L8
 els:Bool
def Qbo:Nat→Type
 | 0=>Unit
 | n+1=>Qgt×List (Qa6 n×List (Qbo n))×List (Qbo n)
def Qb6 (req:List (L8)) (sp:L8):Bool:=
 if sp=QaO∨sp=Qbc∨sp=QaL then decide (0 < wL req sp)
 else if sp=QhB∨sp=Qbx then decide (0 < wL req Qbw)
 else true
def Qa2 {α β:Type} (r:Except Flt (α×PS)) (k:α→PS→Except Flt (β×PS)):Except Flt (β×PS):=
 match r with
 | .error f=>.error f
 | .ok y=>k y.1 y.2
def nextThen {β:Type} (l:L8) (s:PS) (k:PS→Except Flt (β×PS)):Except Flt (β×PS):=
 match nL l s.2 with
 | .error f=>.error f
 | .ok y=>k y
theorem Qad{α β:Type}{r:Except Flt (α×PS)}{k:α->PS->Except Flt (β×PS)}{f:Flt}(h:r=.error f):Qa2 r k=.error f:=by subst h;rfl
theorem Qac{α β:Type}{r:Except Flt (α×PS)}{k:α->PS->Except Flt (β×PS)}{y:α×PS}(h:r=.ok y):Qa2 r k=k y.1 y.2:=by subst h;rfl
theorem QaC{β:Type}{l:L8}{s:PS}{k:PS->Except Flt (β×PS)}{f:Flt}(h:nL l s.2=.error f):nextThen l s k=.error f:=by unfold nextThen;rw[h]
theorem QaE{β:Type}{l:L8}{s y:PS}{k:PS->Except Flt (β×PS)}(h:nL l s.2=.ok y):nextThen l s k=k y:=by unfold nextThen;rw[h]
def Qd3 (l:L8):Nat→Nat→Bool→Bool→PS→Except Flt ((Nat×Bool)×PS)
 | 0,tag,oct,_,s=>.ok ((tag,oct),s)
 | f+1,tag,oct,cmp,s=>
  if wL [tIs,Qaq,Qaz] s.1.spelt=0 then
   if wL [Qas] s.1.spelt=0 then .ok ((max tag 1,oct),s)
   else if cmp then .error ⟨7,s.1.pos⟩
   else nextThen l s fun s1=>Qa2 (sL l (fun x=>if 0 < wL [Qcl,QdD] x then 0 else 7) s1) fun x s2=>Qd3 l f tag (decide (x=Qcl)) true s2
  else if tag=0 then nextThen l s fun s1=>Qd3 l f (wL [tIs,Qaq,Qaz] s.1.spelt) oct cmp s1
  else .error ⟨7,s.1.pos⟩
def Qbp (l:L8) (F:Nat) (chk:L8→Nat) (k pos:Nat) (s:PS):Except Flt (Qcv×PS):=
 Qa2 (Qd3 l F 0 false false s) fun o s1=>Qa2 (sLs l chk F s1) fun fr s2=>Qa2 (sLs l (fun _=>0) F s2) fun ks s3=>
  .ok (⟨k,pos,o.1,o.2,fr,ks,0⟩,s3)
def gMr {α:Type} (l:L8) (sub:PS→Except Flt (α×PS)):Nat→List α→PS→Except Flt (List α×PS)
 | 0,acc,s=>.ok (acc,s)
 | f+1,acc,s=>Qa2 (paL l [[44],[41]] s) fun i s1=>
  if i=1 then Qa2 (sub s1) fun t s2=>gMr l sub f (acc++[t]) s2 else .ok (acc,s1)
def groupL {α:Type} (l:L8) (F:Nat) (sub:PS→Except Flt (α×PS)) (s:PS):Except Flt (List α×PS):=
 Qa2 (paL l [[40]] s) fun _ s1=>Qa2 (sub s1) fun t s2=>gMr l sub F [t] s2
def sizeL (l:L8) (pos:Nat) (s:PS):Except Flt (Qcv×PS):=
 Qa2 (paL l [Qdh,Qb9] s) fun i s1=>
  if s1.1.kind=4 then nextThen l s1 fun s2=>.ok (⟨9,pos,i,false,[],[],s1.1.num⟩,s2) else .error ⟨4,s1.1.pos⟩
def tBd {α:Type} (l:L8) (F:Nat) (sub:PS→Except Flt (α×PS)) (k pos:Nat) (s:PS):Except Flt ((Qcv×List α)×PS):=
 match k with
 | 0=>.ok ((⟨0,pos,0,false,[],[],0⟩,[]),s)
 | 1=>.ok ((⟨1,pos,0,false,[],[],0⟩,[]),s)
 | 2=>Qa2 (sub s) fun t s1=>.ok ((⟨2,pos,0,false,[],[],0⟩,[t]),s1)
 | 3=>Qa2 (groupL l F sub s) fun ts s1=>.ok ((⟨3,pos,0,false,[],[],0⟩,ts),s1)
 | 4=>Qa2 (groupL l F sub s) fun ts s1=>.ok ((⟨4,pos,0,false,[],[],0⟩,ts),s1)
 | 5=>Qa2 (Qbp l F (fun _=>0) 5 pos s) fun x s1=>.ok ((x,[]),s1)
 | 6=>Qa2 (Qbp l F (fun x=>if 0 < wL [QhJ,kTo] (zL x) then 0 else 7) 6 pos s) fun x s1=>.ok ((x,[]),s1)
 | 7=>Qa2 (Qbp l F (fun _=>0) 7 pos s) fun x s1=>.ok ((x,[]),s1)
 | 8=>Qa2 (sLs l (fun _=>0) F s) fun xs s1=>.ok ((⟨8,pos,0,false,xs,[],0⟩,[]),s1)
 | _=>Qa2 (sizeL l pos s) fun x s1=>.ok ((x,[]),s1)
def testL (l:L8) (req:List (L8)) (F:Nat):(n:Nat)→PS→Except Flt (Qa6 n×PS)
 | 0,s=>if s.1.kind=1 then .error ⟨5,s.1.pos⟩ else .error ⟨4,s.1.pos⟩
 | n+1,s=>
  if wL tNs s.1.spelt=0 then .error ⟨4,s.1.pos⟩
  else if Qb6 req s.1.spelt then nextThen l s fun s1=>tBd l F (testL l req F n) (wL tNs s.1.spelt - 1) s.1.pos s1
  else .error ⟨6,s.1.pos⟩
def bMr {α:Type} (l:L8) (sub:PS→Except Flt (α×PS)):Nat→List α→PS→Except Flt (List α×PS)
 | 0,acc,s=>.ok (acc,s)
 | f+1,acc,s=>Qa2 (mayL l [[125]] s) fun i s1=>
  if i=0 then Qa2 (sub s1) fun c s2=>bMr l sub f (acc++[c]) s2 else .ok (acc,s1)
def blockL {α:Type} (l:L8) (F:Nat) (sub:PS→Except Flt (α×PS)) (s:PS):Except Flt (List α×PS):=
 Qa2 (paL l [[123]] s) fun _ s1=>bMr l sub F [] s1
def armL {α β:Type} (l:L8) (F:Nat) (tst:PS→Except Flt (β×PS)) (sub:PS→Except Flt (α×PS)) (s:PS):Except Flt ((β×List α)×PS):=
 Qa2 (tst s) fun t s1=>Qa2 (blockL l F sub s1) fun cs s2=>.ok ((t,cs),s2)
def aMr {α β:Type} (l:L8) (F:Nat) (tst:PS→Except Flt (β×PS)) (sub:PS→Except Flt (α×PS)):Nat→List (β×List α)→PS→Except Flt (List (β×List α)×PS)
 | 0,acc,s=>.ok (acc,s)
 | f+1,acc,s=>Qa2 (mayL l [QbM] s) fun i s1=>
  if i=0 then .ok (acc,s1) else Qa2 (armL l F tst sub s1) fun a s2=>aMr l F tst sub f (acc++[a]) s2
def semi {α:Type} (l:L8) (s:PS) (a:α):Except Flt (α×PS):=Qa2 (paL l [[59]] s) fun _ s1=>.ok (a,s1)
def cBd {α β:Type} (l:L8) (F:Nat) (tst:PS→Except Flt (β×PS)) (sub:PS→Except Flt (α×PS)) (k pos:Nat) (s:PS):Except Flt ((Qgt×List (β×List α)×List α)×PS):=
 match k with
 | 0=>semi l s (⟨0,pos,0,[],[],false⟩,[],[])
 | 1=>semi l s (⟨1,pos,0,[],[],false⟩,[],[])
 | 2=>semi l s (⟨2,pos,0,[],[],false⟩,[],[])
 | 3=>Qa2 (sL l (fun _=>0) s) fun x s1=>semi l s1 (⟨3,pos,0,x,[],false⟩,[],[])
 | 4=>Qa2 (sL l (fun _=>0) s) fun x s1=>semi l s1 (⟨4,pos,0,x,[],false⟩,[],[])
 | 5=>Qa2 (sL l (fun _=>0) s) fun x s1=>semi l s1 (⟨5,pos,0,x,[],false⟩,[],[])
 | 6=>Qa2 (mayL l [QbT,QbU,Qbr] s) fun tag s1=>Qa2 (sL l (fun x=>if isNameL x then 0 else 7) s1) fun v s2=>
  Qa2 (sL l (fun _=>0) s2) fun x s3=>semi l s3 (⟨6,pos,tag,x,zL v,false⟩,[],[])
 | _=>Qa2 (armL l F tst sub s) fun a s1=>Qa2 (aMr l F tst sub F [a] s1) fun arms s2=>Qa2 (mayL l [Qch] s2) fun i s3=>
  if i=0 then .ok ((⟨7,pos,0,[],[],false⟩,arms,[]),s3)
  else Qa2 (blockL l F sub s3) fun cs s4=>.ok ((⟨7,pos,0,[],[],true⟩,arms,cs),s4)
def cmdL (l:L8) (req:List (L8)) (F:Nat):(n:Nat)→PS→Except Flt (Qbo n×PS)
 | 0,s=>if s.1.kind=1 then .error ⟨5,s.1.pos⟩ else .error ⟨4,s.1.pos⟩
 | n+1,s=>
  if wL cNs s.1.spelt=0 then .error ⟨4,s.1.pos⟩
  else if Qb6 req s.1.spelt then nextThen l s fun s1=>cBd l F (testL l req F n) (cmdL l req F n) (wL cNs s.1.spelt - 1) s.1.pos s1
  else .error ⟨6,s.1.pos⟩
def Qcr (req:List (L8)) (x:L8):List (L8):=if 0 < wL req x then req else req++[x]
def reqMore (l:L8) (F:Nat):Nat→List (L8)→PS→Except Flt (List (L8)×PS)
 | 0,req,s=>.ok (req,s)
 | f+1,req,s=>Qa2 (mayL l [kRequire] s) fun i s1=>
  if i=0 then .ok (req,s1)
  else Qa2 (sLs l (fun x=>if 0 < wL [QaL,QaO,Qbc,Qbw] x then 0 else 6) F s1) fun xs s2=>
   Qa2 (paL l [[59]] s2) fun _ s3=>reqMore l F f (xs.foldl Qcr req) s3
def cMr {α:Type} (sub:PS→Except Flt (α×PS)):Nat→List α→PS→Except Flt (List α)
 | 0,acc,_=>.ok acc
 | f+1,acc,s=>if s.1.kind=0 then .ok acc else
  match sub s with
  | .error e=>.error e
  | .ok y=>cMr sub f (acc++[y.1]) y.2
def prL (l:L8):Except Flt (List (L8)×List (Qbo 7)):=
 let F:=2*l.length+10
 match nL l 0 with
 | .error f=>.error f
 | .ok s=>
  match reqMore l F F [] s with
  | .error f=>.error f
  | .ok y=>
   match cMr (cmdL l y.1 F 7) F [] y.2 with
   | .error f=>.error f
   | .ok cs=>.ok (y.1,cs)
def Gd (l:L8) (s:PS):Prop:=s.2≤l.length∧(s.1.kind=0→s.1.spelt=[])
def Dn {α:Type} (c:Nat) (l:L8) (r:Except Flt (α×PS)) (s:PS):Prop:=∀ y,r=.ok y→Gd l y.2∧mu l.length y.2+c≤mu l.length s
theorem Dn.err{α:Type}{c:Nat}{l:L8}{f:Flt}{s:PS}:Dn c l (.error f:Except Flt (α×PS)) s:=fun y h=>by cases h
theorem Dn.ok{α:Type}{l:L8}{a:α}{s:PS}(h:Gd l s):Dn 0 l (.ok (a,s):Except Flt (α×PS)) s:=fun y e=>by cases e;exact⟨h,Nat.le_refl _⟩
theorem Dn.weak{α:Type}{c c':Nat}{l:L8}{r:Except Flt (α×PS)}{s:PS}(h:Dn c l r s)(hc:c'<=c):Dn c' l r s:=fun y e=>⟨(h y e).1,by have:=(h y e).2;omega⟩
theorem Dn.andThen{α β:Type}{c c':Nat}{l:L8}{r:Except Flt (α×PS)}{k:α->PS->Except Flt (β×PS)}{s:PS}(h:Dn c l r s)(hk:∀ a s1,Gd l s1->Dn c' l (k a s1) s1):Dn (c+c') l (Qa2 r k) s:=fun y e=>by
 cases hr:r with
 |error f=>rw[Qad hr]at e;cases e
 |ok z=>
  rw[Qac hr]at e;obtain⟨h1,h2⟩:=h z hr;obtain⟨h3,h4⟩:=hk z.1 z.2 h1 y e;exact⟨h3,by omega⟩
theorem Qmm{l:L8}{s y:PS}(h:Gd l s)(hn:nL l s.2=.ok y):Gd l y:=by
 obtain⟨h1,h2,h3,h4,h5⟩:=Qby l s.2 h.1 y hn;exact⟨h2,h4⟩
theorem Dn.next{β:Type}{c:Nat}{l:L8}{k:PS->Except Flt (β×PS)}{s:PS}(h:Gd l s)(hz:¬ s.1.kind=0)(hk:∀ s1,Gd l s1->Dn c l (k s1) s1):Dn (c+1) l (nextThen l s k) s:=fun y e=>by
 cases hr:nL l s.2 with
 |error f=>rw[QaC hr]at e;cases e
 |ok z=>
  rw[QaE hr]at e;have h1:=Qcf h.1 hz hr;obtain⟨h3,h4⟩:=hk z (Qmm h hr) y e;exact⟨h3,by omega⟩
theorem Qcu{l:L8}{zs:List (L8)}{s:PS}(h:Gd l s)(hz:∀ z∈zs,z≠[]):Dn 1 l (paL l zs s) s:=fun y e=>by
 refine⟨?_,(Qjd h.1 h.2 hz e).1⟩;unfold paL at e
 split at e
 ·cases e
 ·cases hn:nL l s.2 with
  |error f=>rw[hn]at e;cases e
  |ok s'=>rw[hn]at e;cases e;exact Qmm h hn
theorem Qdz{l:L8}{zs:List (L8)}{s:PS}(h:Gd l s)(hz:∀ z∈zs,z≠[]):Dn 0 l (mayL l zs s) s:=fun y e=>by
 refine⟨?_,(Qkp h.1 h.2 hz e).1⟩;unfold mayL at e
 split at e
 ·cases e;exact h
 ·cases hn:nL l s.2 with
  |error f=>rw[hn]at e;cases e
  |ok s'=>rw[hn]at e;cases e;exact Qmm h hn
theorem QbH{l:L8}{chk:L8->Nat}{s:PS}(h:Gd l s):Dn 1 l (sL l chk s) s:=fun y e=>by
 refine⟨?_,(Qew h.1 e).1⟩;unfold sL at e
 split at e
 ·split at e
  ·cases hn:nL l s.2 with
   |error f=>rw[hn]at e;cases e
   |ok s'=>rw[hn]at e;cases e;exact Qmm h hn
  ·cases e
 ·cases e
theorem Qul{l:L8}{chk:L8->Nat}:∀(f:Nat) (aa:List (L8)) (s:PS),Gd l s->Dn 0 l (moreL l chk f aa s) s
 |0,aa,s,h=>Dn.ok h
 |f+1,aa,s,h=>fun y e=>by
  rw[moreL]at e
  cases hp:paL l [[44],[93]] s with
  |error g=>rw[hp]at e;cases e
  |ok z=>
   rw[hp]at e;obtain⟨h1,h2⟩:=Qcu (zs:=[[44],[93]]) h (by decide) z hp;dsimp only at e
   split at e
   ·cases hs:sL l chk z.2 with
    |error g=>rw[hs]at e;cases e
    |ok x=>
     rw[hs]at e;obtain⟨h3,h4⟩:=QbH h1 x hs;obtain⟨h5,h6⟩:=Qul f _ x.2 h3 y e;exact⟨h5,by omega⟩
   ·cases e;exact⟨h1,by dsimp only;omega⟩
theorem Qdc{l:L8}{chk:L8->Nat}{F:Nat}{s:PS}(h:Gd l s):Dn 1 l (sLs l chk F s) s:=fun y e=>by
 unfold sLs at e
 cases hm:mayL l [[91]] s with
 |error g=>rw[hm]at e;cases e
 |ok z=>
  rw[hm]at e;obtain⟨h1,h2⟩:=Qdz (zs:=[[91]]) h (by decide) z hm;dsimp only at e
  cases hs:sL l chk z.2 with
  |error g=>rw[hs]at e;cases e
  |ok x=>
   rw[hs]at e;obtain⟨h3,h4⟩:=QbH h1 x hs;dsimp only at e
   split at e
   ·cases e;exact⟨h3,by dsimp only;omega⟩
   ·obtain⟨h5,h6⟩:=Qul F _ x.2 h3 y e;exact⟨h5,by omega⟩
theorem QbF{l:L8}{zs:List (L8)}{s:PS}(h:Gd l s)(hz:∀ z∈zs,z≠[])(h0:¬ wL zs s.1.spelt=0):¬ s.1.kind=0:=fun e=>h0 (by rw[h.2 e];exact QeA zs hz)
theorem Qn5{l:L8}:∀(f tag:Nat) (oct aa:Bool) (s:PS),Gd l s->Dn 0 l (Qd3 l f tag oct aa s) s
 |0,tag,oct,aa,s,h=>Dn.ok h
 |f+1,tag,oct,aa,s,h=>by
  rw[Qd3];by_cases h1:wL [tIs,Qaq,Qaz] s.1.spelt=0
  ·rw[if_pos h1];by_cases h2:wL [Qas] s.1.spelt=0
   ·rw[if_pos h2];exact Dn.ok h
   ·rw[if_neg h2];cases aa
    ·rw[if_neg (by decide)];refine(Dn.next (c:=0) h (QbF (zs:=[Qas]) h (by decide) h2) fun s1 g1=>?_).weak (by omega);exact((QbH g1).andThen (c':=0) fun x s2 g2=>Qn5 f _ _ _ s2 g2).weak (by omega)
    ·rw[if_pos rfl];exact Dn.err
  ·rw[if_neg h1];by_cases ht:tag=0
   ·rw[if_pos ht];exact(Dn.next (c:=0) h (QbF (zs:=[tIs,Qaq,Qaz]) h (by decide) h1) fun s1 g1=>Qn5 f _ _ _ s1 g1).weak (by omega)
   ·rw[if_neg ht];exact Dn.err
theorem Qma{l:L8}{F:Nat}{chk:L8->Nat}{k aa:Nat}{s:PS}(h:Gd l s):Dn 0 l (Qbp l F chk k aa s) s:=by
 unfold Qbp;exact((Qn5 F 0 false false s h).andThen (c':=1) fun o s1 g1=>((Qdc g1).andThen (c':=0) fun fr s2 g2=>((Qdc g2).andThen (c':=0) fun ks s3 g3=>Dn.ok g3).weak (by omega)).weak (by omega)).weak (by omega)
theorem Qiw{α:Type}{l:L8}{sub:PS->Except Flt (α×PS)}(hs:∀ s,Gd l s->Dn 1 l (sub s) s):∀(f:Nat) (aa:List α) (s:PS),Gd l s->Dn 0 l (gMr l sub f aa s) s
 |0,aa,s,h=>Dn.ok h
 |f+1,aa,s,h=>by
  rw[gMr];refine((Qcu h (by decide)).andThen (c':=0) fun i s1 g1=>?_).weak (by omega);split
  ·exact((hs s1 g1).andThen (c':=0) fun t s2 g2=>Qiw hs f _ s2 g2).weak (by omega)
  ·exact Dn.ok g1
theorem QqT{α:Type}{l:L8}{F:Nat}{sub:PS->Except Flt (α×PS)}(hs:∀ s,Gd l s->Dn 1 l (sub s) s){s:PS}(h:Gd l s):Dn 0 l (groupL l F sub s) s:=by
 unfold groupL;exact((Qcu h (by decide)).andThen (c':=0) fun _ s1 g1=>((hs s1 g1).andThen (c':=0) fun t s2 g2=>Qiw hs F _ s2 g2).weak (by omega)).weak (by omega)
theorem Qxo{l:L8}{aa:Nat}{s:PS}(h:Gd l s):Dn 0 l (sizeL l aa s) s:=by
 unfold sizeL;refine((Qcu h (by decide)).andThen (c':=0) fun i s1 g1=>?_).weak (by omega);split
 ·rename_i hk;exact(Dn.next (c:=0) g1 (by omega) fun s2 g2=>Dn.ok g2).weak (by omega)
 ·exact Dn.err
theorem QpI{α:Type}{l:L8}{F:Nat}{sub:PS->Except Flt (α×PS)}(hs:∀ s,Gd l s->Dn 1 l (sub s) s)(k aa:Nat){s:PS}(h:Gd l s):Dn 0 l (tBd l F sub k aa s) s:=by
 unfold tBd;split
 ·exact Dn.ok h
 ·exact Dn.ok h
 ·exact((hs s h).andThen (c':=0) fun _ _ g=>Dn.ok g).weak (by omega)
 ·exact((QqT hs h).andThen (c':=0) fun _ _ g=>Dn.ok g).weak (by omega)
 ·exact((QqT hs h).andThen (c':=0) fun _ _ g=>Dn.ok g).weak (by omega)
 ·exact((Qma h).andThen (c':=0) fun _ _ g=>Dn.ok g).weak (by omega)
 ·exact((Qma h).andThen (c':=0) fun _ _ g=>Dn.ok g).weak (by omega)
 ·exact((Qma h).andThen (c':=0) fun _ _ g=>Dn.ok g).weak (by omega)
 ·exact((Qdc h).andThen (c':=0) fun _ _ g=>Dn.ok g).weak (by omega)
 ·exact((Qxo h).andThen (c':=0) fun _ _ g=>Dn.ok g).weak (by omega)
theorem QfC{l:L8}{req:List (L8)}{F:Nat}:∀(n:Nat) (s:PS),Gd l s->Dn 1 l (testL l req F n s) s
 |0,s,h=>by
  rw[testL];split<;>exact Dn.err
 |n+1,s,h=>by
  rw[testL];by_cases h0:wL tNs s.1.spelt=0
  ·rw[if_pos h0];exact Dn.err
  ·rw[if_neg h0];cases hu:Qb6 req s.1.spelt
   ·rw[if_neg (by decide)];exact Dn.err
   ·rw[if_pos rfl];exact(Dn.next (c:=0) h (QbF (zs:=tNs) h (by decide) h0) fun s1 g1=>QpI (fun s g=>QfC n s g) _ _ g1).weak (by omega)
theorem Qib{α:Type}{l:L8}{sub:PS->Except Flt (α×PS)}(hs:∀ s,Gd l s->Dn 1 l (sub s) s):∀(f:Nat) (aa:List α) (s:PS),Gd l s->Dn 0 l (bMr l sub f aa s) s
 |0,aa,s,h=>Dn.ok h
 |f+1,aa,s,h=>by
  rw[bMr];refine((Qdz h (by decide)).andThen (c':=0) fun i s1 g1=>?_).weak (by omega);split
  ·exact((hs s1 g1).andThen (c':=0) fun t s2 g2=>Qib hs f _ s2 g2).weak (by omega)
  ·exact Dn.ok g1
theorem QrG{α:Type}{l:L8}{F:Nat}{sub:PS->Except Flt (α×PS)}(hs:∀ s,Gd l s->Dn 1 l (sub s) s){s:PS}(h:Gd l s):Dn 1 l (blockL l F sub s) s:=by
 unfold blockL;exact(Qcu h (by decide)).andThen (c':=0) fun _ s1 g1=>Qib hs F _ s1 g1
theorem Qjm{α β:Type}{l:L8}{F:Nat}{aa:PS->Except Flt (β×PS)}{sub:PS->Except Flt (α×PS)}(ht:∀ s,Gd l s->Dn 1 l (aa s) s)(hs:∀ s,Gd l s->Dn 1 l (sub s) s){s:PS}(h:Gd l s):Dn 1 l (armL l F aa sub s) s:=by
 unfold armL;exact((ht s h).andThen (c':=0) fun t s1 g1=>((QrG hs g1).andThen (c':=0) fun cs s2 g2=>Dn.ok g2).weak (by omega))
theorem Qmq{α β:Type}{l:L8}{F:Nat}{ab:PS->Except Flt (β×PS)}{sub:PS->Except Flt (α×PS)}(ht:∀ s,Gd l s->Dn 1 l (ab s) s)(hs:∀ s,Gd l s->Dn 1 l (sub s) s):∀(f:Nat) (aa:List (β×List α)) (s:PS),Gd l s->Dn 0 l (aMr l F ab sub f aa s) s
 |0,aa,s,h=>Dn.ok h
 |f+1,aa,s,h=>by
  rw[aMr];refine((Qdz h (by decide)).andThen (c':=0) fun i s1 g1=>?_).weak (by omega);split
  ·exact Dn.ok g1
  ·exact((Qjm ht hs g1).andThen (c':=0) fun a s2 g2=>Qmq ht hs f _ s2 g2).weak (by omega)
theorem QgI{α:Type}{l:L8}{s:PS}{a:α}(h:Gd l s):Dn 0 l (semi l s a) s:=by
 unfold semi;exact((Qcu h (by decide)).andThen (c':=0) fun _ s1 g1=>Dn.ok g1).weak (by omega)
theorem Qsg{α β:Type}{l:L8}{F:Nat}{aa:PS->Except Flt (β×PS)}{sub:PS->Except Flt (α×PS)}(ht:∀ s,Gd l s->Dn 1 l (aa s) s)(hs:∀ s,Gd l s->Dn 1 l (sub s) s)(k ab:Nat){s:PS}(h:Gd l s):Dn 0 l (cBd l F aa sub k ab s) s:=by
 unfold cBd;split
 ·exact QgI h
 ·exact QgI h
 ·exact QgI h
 ·exact((QbH h).andThen (c':=0) fun _ _ g=>QgI g).weak (by omega)
 ·exact((QbH h).andThen (c':=0) fun _ _ g=>QgI g).weak (by omega)
 ·exact((QbH h).andThen (c':=0) fun _ _ g=>QgI g).weak (by omega)
 ·exact((Qdz h (by decide)).andThen (c':=0) fun _ _ g1=>((QbH g1).andThen (c':=0) fun _ _ g2=>((QbH g2).andThen (c':=0) fun _ _ g3=>QgI g3).weak (by omega)).weak (by omega)).weak (by omega)
 ·refine((Qjm ht hs h).andThen (c':=0) fun a s1 g1=>((Qmq ht hs F _ s1 g1).andThen (c':=0) fun arms s2 g2=>((Qdz g2 (by decide)).andThen (c':=0) fun i s3 g3=>?_).weak (by omega)).weak (by omega)).weak (by omega);split
  ·exact Dn.ok g3
  ·exact((QrG hs g3).andThen (c':=0) fun _ _ g4=>Dn.ok g4).weak (by omega)
theorem QjZ{l:L8}{req:List (L8)}{F:Nat}:∀(n:Nat) (s:PS),Gd l s->Dn 1 l (cmdL l req F n s) s
 |0,s,h=>by
  rw[cmdL];split<;>exact Dn.err
 |n+1,s,h=>by
  rw[cmdL];by_cases h0:wL cNs s.1.spelt=0
  ·rw[if_pos h0];exact Dn.err
  ·rw[if_neg h0];cases hu:Qb6 req s.1.spelt
   ·rw[if_neg (by decide)];exact Dn.err
   ·rw[if_pos rfl];exact(Dn.next (c:=0) h (QbF (zs:=cNs) h (by decide) h0) fun s1 g1=>Qsg (fun s g=>QfC n s g) (fun s g=>QjZ n s g) _ _ g1).weak (by omega)
def skipS (r:L8) (p:Nat):Except Flt Nat:=QbJ (r.length+1) r p
theorem Qf0:∀(f g:Nat) (r:L8) (p:Nat),r.length<f->r.length<g->QbJ f r p=QbJ g r p
 |0,_,r,p,h,_=>absurd h (Nat.not_lt_zero _)
 |_+1,0,r,p,_,h=>absurd h (Nat.not_lt_zero _)
 |f+1,g+1,[],p,_,_=>rfl
 |f+1,g+1,c::r,p,h1,h2=>by
  simp only[List.length_cons]at h1 h2;simp only[QbJ];have h3:=Qd2 c r;rw[Qf0 f g r (p+1) (by omega) (by omega)];rw[Qf0 f g (List.drop (lineLen (c::r)) (c::r)) _ (by rw[List.length_drop];simp only[List.length_cons];omega) (by rw[List.length_drop];simp only[List.length_cons];omega)];rw[Qf0 f g (List.drop (4+(Lib.index (r.drop 1) [42,47]).toNat) (c::r)) _ (by rw[List.length_drop];simp only[List.length_cons];omega) (by rw[List.length_drop];simp only[List.length_cons];omega)]
theorem Qp7(f:Nat)(r:L8)(p:Nat)(h:r.length<f):QbJ f r p=skipS r p:=Qf0 _ _ _ _ h (Nat.lt_succ_self _)
theorem Qkn(p:Nat):skipS [] p=.ok p:=rfl
theorem QbR{c:UInt8}(r:L8)(p:Nat)(h:Qa8 c.toNat=true):skipS (c::r) p=skipS r (p+1):=by
 show QbJ (r.length+1+1) (c::r) p=_
 simp only[QbJ];rw[if_pos h];rfl
theorem Qgc{c:UInt8}(r:L8)(p:Nat)(h:Qa8 c.toNat=false)(h1:c.toNat=35):skipS (c::r) p=skipS ((c::r).drop (lineLen (c::r))) (p+lineLen (c::r)):=by
 show QbJ (r.length+1+1) (c::r) p=_
 simp only[QbJ];have h3:=Qd2 c r;rw[if_neg (by rw[h];decide),if_pos h1,Qp7 _ _ _ (by rw[List.length_drop];simp only[List.length_cons];omega)]
theorem QgB{c:UInt8}(r:L8)(p:Nat)(h:Qa8 c.toNat=false)(h1:¬ c.toNat=35)(h2:Lib.hasPrefix (c::r) [47,42]=true)(h3:Lib.index (r.drop 1) [42,47]<0):skipS (c::r) p=.error ⟨2,p⟩:=by
 show QbJ (r.length+1+1) (c::r) p=_
 simp only[QbJ];rw[if_neg (by rw[h];decide),if_neg h1,if_pos h2,if_pos h3]
theorem Qhr{c:UInt8}(r:L8)(p:Nat)(h:Qa8 c.toNat=false)(h1:¬ c.toNat=35)(h2:Lib.hasPrefix (c::r) [47,42]=true)(h3:¬ Lib.index (r.drop 1) [42,47]<0):skipS (c::r) p=skipS ((c::r).drop (4+(Lib.index (r.drop 1) [42,47]).toNat)) (p+(4+(Lib.index (r.drop 1) [42,47]).toNat)):=by
 show QbJ (r.length+1+1) (c::r) p=_
 simp only[QbJ];rw[if_neg (by rw[h];decide),if_neg h1,if_pos h2,if_neg h3,Qp7 _ _ _ (by rw[List.length_drop];simp only[List.length_cons];omega)]
theorem Qes{c:UInt8}(r:L8)(p:Nat)(h:Qa8 c.toNat=false)(h1:¬ c.toNat=35)(h2:Lib.hasPrefix (c::r) [47,42]=false):skipS (c::r) p=.ok p:=by
 show QbJ (r.length+1+1) (c::r) p=_
 simp only[QbJ];rw[if_neg (by rw[h];decide),if_neg h1,if_neg (by rw[h2];decide)]
theorem QcN(l:L8)(p:Nat):nL l p=match skipS (l.drop p) p with
 | .error f=>.error f
 | .ok n=>scanL (l.drop n) n:=by
 unfold nL;rw[Qp7 _ _ _ (by rw[List.length_drop];omega)]
 all_goals (cases skipS (List.drop p l) p<;>rfl)
theorem Qfa{c:UInt8}:∀ {l:L8} (m:L8),0<=Lib.indexByte l c->Lib.indexByte (l++m) c=Lib.indexByte l c
 | [],m,h=>by simp[Lib.indexByte]at h
 |b::l,m,h=>by
  rw[List.cons_append];unfold Lib.indexByte at h ⊢;by_cases hb:(b==c)=true
  ·rw[if_pos hb,if_pos hb]
  ·rw[if_neg hb]at h ⊢;rw[if_neg hb];have h1:=Lib.indexByte_ge l c;by_cases h2:Lib.indexByte l c = -1
   ·rw[h2]at h;simp at h
   ·rw[Qfa m (by omega)]
theorem QdR{c:UInt8}:∀ {l:L8} (m:L8),Lib.indexByte l c<0->Lib.indexByte (l++c::m) c=l.length
 | [],m,h=>by
  show Lib.indexByte (c::m) c=_
  unfold Lib.indexByte;simp
 |b::l,m,h=>by
  rw[List.cons_append];unfold Lib.indexByte at h ⊢;by_cases hb:(b==c)=true
  ·rw[if_pos hb]at h;simp at h
  ·rw[if_neg hb]at h ⊢;have h1:=Lib.indexByte_ge l c
   have h2:Lib.indexByte l c<0:=by
    apply Classical.byContradiction;intro h3;rw[if_neg (by simp;omega)]at h;omega
   rw[QdR m h2];rw[if_neg (by simp)];rfl
theorem Qfv{sub:L8}:∀ {l:L8} (m:L8),0<=Lib.index l sub->sub≠[]->Lib.index (l++m) sub=Lib.index l sub
 | [],m,h,hs=>by
  unfold Lib.index at h
  cases sub with
  |nil=>exact absurd rfl hs
  |cons a t=>simp at h
 |b::l,m,h,hs=>by
  rw[List.cons_append];unfold Lib.index at h ⊢;by_cases hb:sub.isPrefixOf (b::l)=true
  ·have aa:sub.isPrefixOf (b::(l++m))=true:=by
    rw[List.isPrefixOf_iff_prefix]at hb ⊢;exact hb.trans ⟨m,by simp⟩
   rw[if_pos hb,if_pos aa]
  ·rw[if_neg hb]at h;have h1:=Lib.index_ge l sub;by_cases h2:Lib.index l sub = -1
   ·rw[h2]at h;simp at h
   ·have h3:=Qfv (sub:=sub) (l:=l) m (by omega) hs;have hroom:=Qel l sub
    have aa:¬ sub.isPrefixOf (b::(l++m))=true:=by
     intro hp;apply hb;rw[List.isPrefixOf_iff_prefix]at hp ⊢;have hl:sub.length<=(b::l).length:=by simp;omega
     obtain⟨z,hz⟩:=hp
     have:sub=(b::l).take sub.length:=by
      have:=congrArg (List.take sub.length) hz;rw[List.take_left]at this;rw[<-List.cons_append,List.take_append_of_le_length hl]at this;exact this
     rw[this];exact List.take_prefix _ _
    rw[if_neg aa,if_neg hb,h3]
theorem Qgo{l:L8}(m:L8)(h:0<=Lib.indexByte l 10):lineLen (l++m)=lineLen l:=by
 unfold lineLen;rw[Qfa m h,if_neg (by omega),if_neg (by omega)]
theorem Qem{l:L8}(m:L8)(h:Lib.indexByte l 10<0):lineLen (l++10::m)=l.length+1:=by
 unfold lineLen;rw[QdR m h,if_neg (by omega)];simp
structure Pad (A B:L8):Prop where
 ahead:∀ r p,skipS (A++r) p=skipS r (p+A.length)
 behind:∀ p,skipS B p=.ok (p+B.length)
 line:∃ C,B=10 :: C
theorem Qux(c:UInt8)(r C:L8):Lib.hasPrefix (c::(r++10::C)) [47,42]=Lib.hasPrefix (c::r) [47,42]:=by
 cases r with
 |nil=>simp[Lib.hasPrefix,List.isPrefixOf]
 |cons d r=>simp[Lib.hasPrefix,List.isPrefixOf]
theorem Qi5{A B:L8}(hP:Pad A B):∀(k:Nat) (r:L8) (p q:Nat),r.length<=k->
 (∀ n,skipS r p=.ok n->p<=n/\((n<p+r.length/\skipS (r++B) q=.ok (q+(n - p)))\/(n=p+r.length/\skipS (r++B) q=.ok (q+r.length+B.length))))/\(∀ f,skipS r p=.error f->f.err=2)
 |k,[],p,q,_=>by
  refine⟨fun n h=>?_,fun f h=>by cases h⟩;cases h;exact⟨Nat.le_refl _,Or.inr ⟨rfl,hP.behind q⟩⟩
 |0,c::r,p,q,h=>absurd h (by simp)
 |k+1,c::r,p,q,h=>by
  simp only[List.length_cons]at h;obtain⟨C,rfl⟩:=hP.line;cases hb:Qa8 c.toNat
  ·by_cases h1:c.toNat=35
   ·rw[Qgc r p hb h1,List.cons_append,Qgc _ q hb h1,<-List.cons_append];have h3:=Qd2 c r;by_cases hn:0<=Lib.indexByte (c::r) 10
    ·rw[Qgo _ hn];have ab:=QfZ (c::r);rw[List.drop_append_of_le_length ab];have ad:((c::r).drop (lineLen (c::r))).length=r.length+1 - lineLen (c::r):=by rw[List.length_drop];rfl
     simp only[List.length_cons]at ab;obtain⟨i1,i2⟩:=Qi5 hP k ((c::r).drop (lineLen (c::r))) (p+lineLen (c::r)) (q+lineLen (c::r)) (by omega);refine⟨fun n aa=>?_,i2⟩;obtain⟨a1,a2⟩:=i1 n aa;refine⟨by omega,?_⟩;rcases a2 with⟨b1,b2⟩ | ⟨b1,b2⟩
     ·left;refine⟨by simp only[List.length_cons];omega,?_⟩;rw[b2];congr 1;omega
     ·right;refine⟨by simp only[List.length_cons];omega,?_⟩;rw[b2];simp only[List.length_cons];congr 1;omega
    ·have aa:Lib.indexByte (c::r) 10<0:=by omega
     rw[Qem _ aa];have e1:lineLen (c::r)=(c::r).length:=by unfold lineLen;rw[if_pos aa]
     rw[e1,List.drop_length,Qkn]
     have e2:List.drop ((c::r).length+1) (c::r++10::C)=C:=by
      rw[List.drop_append,List.drop_of_length_le (by omega)];simp
     rw[e2];refine⟨fun n hh=>?_,fun f hh=>by cases hh⟩;cases hh;refine⟨by omega,Or.inr ⟨rfl,?_⟩⟩;have:=hP.behind (q+(c::r).length);rw[QbR C _ (by decide)]at this;exact this
   ·cases h2:Lib.hasPrefix (c::r) [47,42]
    ·rw[Qes r p hb h1 h2,List.cons_append,Qes _ q hb h1 (by rw[Qux];exact h2)];refine⟨fun n hh=>?_,fun f hh=>by cases hh⟩;cases hh;exact⟨Nat.le_refl _,Or.inl ⟨by simp,by simp⟩⟩
    ·by_cases h3:Lib.index (r.drop 1) [42,47]<0
     ·rw[QgB r p hb h1 h2 h3];refine⟨fun n hh=>(by cases hh),fun f hh=>?_⟩;cases hh;rfl
     ·have ae:1<=r.length:=by
       have:=(List.isPrefixOf_iff_prefix.1 h2).length_le;simp at this;omega
      have hd:(r++10::C).drop 1=r.drop 1++10::C:=List.drop_append_of_le_length ae
      have hi:Lib.index ((r++10::C).drop 1) [42,47]=Lib.index (r.drop 1) [42,47]:=by
       rw[hd];exact Qfv _ (by omega) (by decide)
      rw[Qhr r p hb h1 h2 h3,List.cons_append,Qhr _ q hb h1 (by rw[Qux];exact h2) (by rw[hi];exact h3),hi,<-List.cons_append];have ac:=Qel (r.drop 1) [42,47]
      have hx:Lib.index (r.drop 1) [42,47]+2<=(r.length - 1:Nat):=by
       rcases ac with hh|hh
       ·exact absurd hh h3
       ·rw[List.length_drop]at hh;simpa using hh
      generalize hj:(Lib.index (r.drop 1) [42,47]).toNat=j at *;have ab:4+j<=(c::r).length:=by simp only[List.length_cons];omega
      rw[List.drop_append_of_le_length ab];have ad:((c::r).drop (4+j)).length=r.length+1 - (4+j):=by rw[List.length_drop];rfl
      simp only[List.length_cons]at ab;obtain⟨i1,i2⟩:=Qi5 hP k ((c::r).drop (4+j)) (p+(4+j)) (q+(4+j)) (by omega);refine⟨fun n aa=>?_,i2⟩;obtain⟨a1,a2⟩:=i1 n aa;refine⟨by omega,?_⟩;rcases a2 with⟨b1,b2⟩ | ⟨b1,b2⟩
      ·left;refine⟨by simp only[List.length_cons];omega,?_⟩;rw[b2];congr 1;omega
      ·right;refine⟨by simp only[List.length_cons];omega,?_⟩;rw[b2];simp only[List.length_cons];congr 1;omega
  ·rw[QbR r p hb,List.cons_append,QbR _ q hb];obtain⟨i1,i2⟩:=Qi5 hP k r (p+1) (q+1) (by omega);refine⟨fun n aa=>?_,i2⟩;obtain⟨a1,a2⟩:=i1 n aa;refine⟨by omega,?_⟩;rcases a2 with⟨b1,b2⟩ | ⟨b1,b2⟩
   ·left;refine⟨by simp only[List.length_cons];omega,?_⟩;rw[b2];congr 1;omega
   ·right;refine⟨by simp only[List.length_cons];omega,?_⟩;rw[b2];simp only[List.length_cons];congr 1;omega
theorem Qft:∀(r C:L8),Qbe (r++10::C)=Qbe r
 | [],C=>by
  show Qbe (10::C)=_
  rw[Qc0,if_neg (by decide)];rfl
 |c::r,C=>by
  rw[List.cons_append,Qc0,Qc0,Qft r C]
theorem Qeh:∀(r C:L8),Qa5 (r++10::C)=Qa5 r
 | [],C=>by
  show(if Qbs ((10:UInt8).toNat)then 1+Qbe C else 0)=0
  rw[if_neg (by decide)]
 |c::r,C=>by
  rw[List.cons_append];show(if Qbs c.toNat then 1+Qbe (r++10::C)else 0)=if Qbs c.toNat then 1+Qbe r else 0
  rw[Qft]
theorem Qe2(r C:L8):(r++10::C).takeWhile (fun c=>QaS c.toNat)=r.takeWhile (fun c=>QaS c.toNat):=by
 induction r with
 |nil=>
  show List.takeWhile _ (10::C)=_
  rw[List.takeWhile_cons,if_neg (by decide)];rfl
 |cons c r ih=>rw[List.cons_append,List.takeWhile_cons,List.takeWhile_cons,ih]
theorem getD_append(r C:L8)(n:Nat)(h:n<=r.length):(r++10::C).getD n 0=r.getD n 0\/((r++10::C).getD n 0=10/\r.getD n 0=0):=by
 by_cases hn:n<r.length
 ·left;rw[List.getD_eq_getElem?_getD,List.getD_eq_getElem?_getD,List.getElem?_append_left hn]
 ·right;have:n=r.length:=by omega
  subst this;rw[List.getD_eq_getElem?_getD,List.getD_eq_getElem?_getD,List.getElem?_append_right (Nat.le_refl _)];simp
theorem QeH:∀(k:Nat) (r:L8) (x:L8×Nat) (m:L8),r.length<=k->qL r=some x->qL (r++m)=some x
 |k,[],x,m,_,h=>by cases h
 |0,c::r,x,m,hk,_=>absurd hk (by simp)
 |k+1,c::r,x,m,hk,h=>by
  simp only[List.length_cons]at hk;rw[List.cons_append];rw[qL.eq_def]at h ⊢;dsimp only at h ⊢;by_cases h1:c.toNat=34
  ·rw[if_pos h1]at h ⊢;exact h
  ·rw[if_neg h1]at h ⊢;by_cases h2:c.toNat=92
   ·rw[if_pos h2]at h ⊢
    cases r with
    |nil=>cases h
    |cons d r=>
     dsimp only[List.cons_append]at h ⊢
     cases hq:qL r with
     |none=>rw[hq]at h;cases h
     |some y=>rw[QeH k r y m (by simp at hk;omega) hq];rw[hq]at h;exact h
   ·rw[if_neg h2]at h ⊢
    cases hq:qL r with
    |none=>rw[hq]at h;cases h
    |some y=>rw[QeH k r y m (by omega) hq];rw[hq]at h;exact h
def Wd.at (x:Wd) (q:Nat):Wd:=⟨x.kind,q,x.spelt,x.said,x.num⟩
theorem QqR(r m:L8)(n:Nat)(h:n<=r.length):(r++m).take n=r.take n:=List.take_append_of_le_length h
theorem Qqw(c:UInt8)(r C:L8)(p q:Nat) :
 (∀ x,sNL (c::r) p=.ok x->sNL (c::(r++10::C)) q=.ok (x.1.at q,q+(x.2 - p))/\p<=x.2/\x.1.kind≠0)/\(∀ f,sNL (c::r) p=.error f->f.err=2\/sNL (c::(r++10::C)) q=.error ⟨f.err,q⟩/\f.pos=p):=by
 rw[<-List.cons_append];generalize c::r=R;have hd:Qa7 (R++10::C)=Qa7 R:=by unfold Qa7;rw[Qe2]
 have hv:Qdn (R++10::C)=Qdn R:=by unfold Qdn;rw[Qe2]
 have ab:=Qh7 R
 have hm:isM ((R++10::C).getD (Qa7 R) 0)=isM (R.getD (Qa7 R) 0):=by
  rcases getD_append R C _ ab with h | ⟨h,h'⟩
  ·rw[h]
  ·rw[h,h'];decide
 have hk:isK ((R++10::C).getD (Qa7 R) 0)=isK (R.getD (Qa7 R) 0):=by
  rcases getD_append R C _ ab with h | ⟨h,h'⟩
  ·rw[h]
  ·rw[h,h'];decide
 obtain⟨n',v',aa,ad,e1⟩:∃ n' v':Nat,n'=(if isM (R.getD (Qa7 R) 0) || isK (R.getD (Qa7 R) 0)then Qa7 R+1 else Qa7 R)/\v'=(if isM (R.getD (Qa7 R) 0)then Qdn R*1048576 else if isK (R.getD (Qa7 R) 0)then Qdn R*1024 else Qdn R)/\
  sNL R p=if letdig (R.getD n' 0)then .error ⟨2,p⟩else if 2147483647<v' then .error ⟨3,p⟩else .ok (⟨4,p,[],[],v'⟩,p+n'):=⟨_,_,rfl,rfl,rfl⟩
 have e2:sNL (R++10::C) q=if letdig ((R++10::C).getD n' 0)then .error ⟨2,q⟩else if 2147483647<v' then .error ⟨3,q⟩else .ok (⟨4,q,[],[],v'⟩,q+n'):=by
  unfold sNL;dsimp only;rw[hd,hv,hm,hk,aa,ad]
 have ac:n'<=R.length:=by
  by_cases hm:(isM (R.getD (Qa7 R) 0) || isK (R.getD (Qa7 R) 0))=true
  ·have hlt2:Qa7 R<R.length:=by
    apply Classical.byContradiction;intro hge;rw[QdS _ _ (by omega)]at hm;exact absurd hm (by decide)
   rw[aa,if_pos hm];omega
  ·rw[aa,if_neg hm];omega
 have hl:letdig ((R++10::C).getD n' 0)=letdig (R.getD n' 0):=by
  rcases getD_append R C _ ac with h | ⟨h,h'⟩
  ·rw[h]
  ·rw[h,h'];decide
 rw[e1,e2,hl];cases letdig (R.getD n' 0)
 ·simp only[Bool.false_eq_true,if_false];by_cases h3:2147483647<v'
  ·rw[if_pos h3,if_pos h3];refine⟨fun x h=>(by cases h),fun f h=>?_⟩;cases h;exact Or.inr ⟨rfl,rfl⟩
  ·rw[if_neg h3,if_neg h3];refine⟨fun x h=>?_,fun f h=>by cases h⟩;cases h;refine⟨?_,by simp,by simp⟩;simp[Wd.at]
 ·simp only[if_true];refine⟨fun x h=>(by cases h),fun f h=>?_⟩;cases h;exact Or.inl rfl
theorem Ql8(c:UInt8)(r C:L8)(p q:Nat) :
 (∀ x,scanL (c::r) p=.ok x->scanL (c::(r++10::C)) q=.ok (x.1.at q,q+(x.2 - p))/\p<=x.2/\x.1.kind≠0)/\(∀ f,scanL (c::r) p=.error f->f.err=2\/scanL (c::(r++10::C)) q=.error ⟨f.err,q⟩/\f.pos=p):=by
 unfold scanL;dsimp only;have hn:=Qeh (c::r) C;have ab:=Qeh r C;have aa:=QcR (c::r);have hle1:=QcR r;rw[List.cons_append]at hn;cases h1:Qbs (c.toNat:Int)
 ·simp only[Bool.false_eq_true,if_false];by_cases h2:c.toNat=58
  ·rw[if_pos h2,if_pos h2,ab];by_cases h3:Qa5 r=0
   ·rw[if_pos h3,if_pos h3];exact⟨fun x h=>(by cases h),fun f h=>by cases h;exact Or.inl rfl⟩
   ·rw[if_neg h3,if_neg h3];refine⟨fun x h=>?_,fun f h=>by cases h⟩;cases h;refine⟨?_,by simp[QbD],by simp[QbD]⟩;unfold QbD;rw[<-List.cons_append,QqR _ _ _ (by simp;omega)];simp[Wd.at]
  ·rw[if_neg h2,if_neg h2];cases h3:QaS (c.toNat:Int)
   ·simp only[Bool.false_eq_true,if_false];by_cases h4:c.toNat=34
    ·rw[if_pos h4,if_pos h4];unfold quoteR
     cases hq:qL r with
     |none=>exact⟨fun x h=>(by cases h),fun f h=>by cases h;exact Or.inl rfl⟩
     |some y=>
      rw[QeH _ r y (10::C) (Nat.le_refl _) hq];refine⟨fun x h=>?_,fun f h=>by cases h⟩;cases h;refine⟨?_,by simp,by simp⟩;simp[Wd.at]
    ·rw[if_neg h4,if_neg h4];cases h5:Qho c
     ·simp only[Bool.false_eq_true,if_false];exact⟨fun x h=>(by cases h),fun f h=>by cases h;exact Or.inl rfl⟩
     ·simp only[if_true];refine⟨fun x h=>?_,fun f h=>by cases h⟩;cases h;refine⟨?_,by simp[QbD],by simp[QbD]⟩;simp[QbD,Wd.at]
   ·simp only[if_true];exact Qqw c r C p q
 ·simp only[if_true];rw[hn];refine⟨fun x h=>?_,fun f h=>by cases h⟩;cases h;refine⟨?_,by simp[QbD],by simp[QbD]⟩;unfold QbD;rw[<-List.cons_append,QqR _ _ _ aa];simp[Wd.at]
structure SR (l:L8) (a:Nat) (s s':PS):Prop where
 gd:Gd l s
 kind:s'.1.kind=s.1.kind
 spelt:s'.1.spelt=s.1.spelt
 said:s'.1.said=s.1.said
 num:s'.1.num=s.1.num
 pos:s.1.pos≤s'.1.pos
 at_:s.1.kind≠0→s'.2=s.2+a
def Sim {α β:Type} (g:α→β) (l:L8) (a:Nat) (r r':Except Flt (α×PS)):Prop:=
 (∀ y,r=.ok y→∃ y',r'=.ok y'∧g y.1=g y'.1∧SR l a y.2 y'.2)∧(∀ f,r=.error f→f.err=2∨∃ f',r'=.error f'∧f'.err=f.err∧f.pos≤f'.pos)
def Qyx (l:L8) (a:Nat) (r r':Except Flt PS):Prop:=
 (∀ y,r=.ok y→∃ y',r'=.ok y'∧SR l a y y')∧(∀ f,r=.error f→f.err=2∨∃ f',r'=.error f'∧f'.err=f.err∧f.pos≤f'.pos)
theorem Qow {A B:L8} (hP:Pad A B) (l u:L8) (p:Nat) (hp:p≤l.length) (hu:u=A++(l++B)):Qyx l A.length (nL l p) (match skipS (l.drop p++B) (p+A.length) with
 | .error f=>.error f
 | .ok n=>scanL (u.drop n) n):=by
 obtain⟨i1,i2⟩:=Qi5 hP (l.drop p).length (l.drop p) p (p+A.length) (Nat.le_refl _);have hdl:(l.drop p).length=l.length - p:=List.length_drop;refine⟨fun y hy=>?_,fun f hf=>?_⟩
 ·have aa:=Qby l p hp y hy;rw[QcN]at hy
  cases hs:skipS (l.drop p) p with
  |error f=>rw[hs]at hy;cases hy
  |ok n=>
   rw[hs]at hy;dsimp only at hy;obtain⟨h1,h2⟩:=i1 n hs;rcases h2 with⟨h2,h3⟩ | ⟨h2,h3⟩
   ·rw[h3];dsimp only;have hn:n<l.length:=by omega
    have e1:p+A.length+(n - p)=A.length+n:=by omega
    have e2:u.drop (A.length+n)=l.drop n++B:=by
     rw[hu,<-List.drop_drop,List.drop_left,List.drop_append_of_le_length (by omega)]
    rw[e1,e2];obtain⟨C,hC⟩:=hP.line;rw[hC];rw[List.drop_eq_getElem_cons hn]at hy ⊢;rw[List.cons_append];obtain⟨k1,k2,k3⟩:=(Ql8 l[n] (l.drop (n+1)) C n (A.length+n)).1 y hy;rw[k1];refine⟨_,rfl,⟨aa.2.1,aa.2.2.2.1⟩,rfl,rfl,rfl,rfl,?_,fun _=>?_⟩
    ·have:=(Qja l n (by omega) y (by rw[List.drop_eq_getElem_cons hn];exact hy)).1;show y.1.pos<=A.length+n
     omega
    ·show A.length+n+(y.2 - n)=_
     omega
   ·rw[h3];dsimp only;have hn:n=l.length:=by omega
    rw[List.drop_of_length_le (by omega)]at hy;unfold scanL at hy;dsimp only at hy;cases hy
    have e2:u.drop (p+A.length+(l.drop p).length+B.length)=[]:=by
     apply List.drop_of_length_le;rw[hu];simp;omega
    rw[e2];refine⟨_,rfl,⟨aa.2.1,aa.2.2.2.1⟩,rfl,rfl,rfl,rfl,?_,fun h=>absurd rfl h⟩;show n<=p+A.length+(List.drop p l).length+B.length
    omega
 ·rw[QcN]at hf
  cases hs:skipS (l.drop p) p with
  |error f'=>rw[hs]at hf;cases hf;exact Or.inl (i2 f hs)
  |ok n=>
   rw[hs]at hf;dsimp only at hf;obtain⟨h1,h2⟩:=i1 n hs;rcases h2 with⟨h2,h3⟩ | ⟨h2,h3⟩
   ·rw[h3];dsimp only;have hn:n<l.length:=by omega
    have e1:p+A.length+(n - p)=A.length+n:=by omega
    have e2:u.drop (A.length+n)=l.drop n++B:=by
     rw[hu,<-List.drop_drop,List.drop_left,List.drop_append_of_le_length (by omega)]
    rw[e1,e2];obtain⟨C,hC⟩:=hP.line;rw[hC];rw[List.drop_eq_getElem_cons hn]at hf ⊢;rw[List.cons_append];rcases(Ql8 l[n] (l.drop (n+1)) C n (A.length+n)).2 f hf with h | ⟨h,h'⟩
    ·exact Or.inl h
    ·right;rw[h];exact⟨_,rfl,rfl,by show f.pos<=A.length+n;omega⟩
   ·rw[List.drop_of_length_le (by omega)]at hf;unfold scanL at hf;cases hf
theorem Qee{A B:L8}(hP:Pad A B)(l u:L8)(hu:u=A++(l++B))(s s':PS)(h:SR l A.length s s')(hk:s.1.kind≠0):Qyx l A.length (nL l s.2) (nL u s'.2):=by
 have:=Qow hP l u s.2 h.gd.1 hu;rw[h.at_ hk,QcN u]
 have e2:u.drop (s.2+A.length)=l.drop s.2++B:=by
  rw[Nat.add_comm,hu,<-List.drop_drop,List.drop_left,List.drop_append_of_le_length h.gd.1]
 rw[e2];exact this
theorem Qt9{A B:L8}(hP:Pad A B)(l u:L8)(hu:u=A++(l++B)):Qyx l A.length (nL l 0) (nL u 0):=by
 have:=Qow hP l u 0 (Nat.zero_le _) hu;rw[QcN u]
 have e2:skipS (u.drop 0) 0=skipS (l.drop 0++B) (0+A.length):=by
  rw[List.drop_zero,List.drop_zero,hu,hP.ahead]
 rw[e2];exact this
section
theorem Sim.okk{α β:Type}{g:α->β}{l:L8}{a:Nat}{x x':α}{s s':PS}(hg:g x=g x')(h:SR l a s s'):Sim g l a (.ok (x,s)) (.ok (x',s')):=
 ⟨fun y e=>by cases e;exact⟨_,rfl,hg,h⟩,fun f e=>by cases e⟩
theorem Sim.fail{α β:Type}{g:α->β}{l:L8}{a:Nat}{f f':Flt}(he:f'.err=f.err)(hp:f.pos<=f'.pos):Sim g l a (.error f) (.error f'):=
 ⟨fun y e=>(by cases e),fun f e=>by cases e;exact Or.inr ⟨_,rfl,he,hp⟩⟩
theorem Sim.andThen{α β γ δ:Type}{g:α->β}{h:γ->δ}{l:L8}{a:Nat}{r r':Except Flt (α×PS)}{k k':α->PS->Except Flt (γ×PS)}(hr:Sim g l a r r')(hk:∀ y y':α×PS,r=.ok y->g y.1=g y'.1->SR l a y.2 y'.2->Sim h l a (k y.1 y.2) (k' y'.1 y'.2)):Sim h l a (Qa2 r k) (Qa2 r' k'):=by
 cases hrr:r with
 |error f=>
  rw[hrr]at hr;refine⟨fun y e=>(by cases e),fun f0 e=>?_⟩;cases e;rcases hr.2 f rfl with h | ⟨f',h1,h2,h3⟩
  ·exact Or.inl h
  ·exact Or.inr ⟨f',Qad h1,h2,h3⟩
 |ok y=>
  obtain⟨y',h1,h2,h3⟩:=hr.1 y hrr;rw[Qac rfl,Qac h1];exact hk y y' hrr h2 h3
theorem Sim.nextThen{γ δ:Type}{h:γ->δ}{l u:L8}{a:Nat}{s s':PS}{k k':PS->Except Flt (γ×PS)}(hr:Qyx l a (nL l s.2) (nL u s'.2))(hk:∀ y y':PS,nL l s.2=.ok y->SR l a y y'->Sim h l a (k y) (k' y')):Sim h l a (nextThen l s k) (nextThen u s' k'):=by
 cases hrr:nL l s.2 with
 |error f=>
  rw[QaC hrr];refine⟨fun y e=>(by cases e),fun f0 e=>?_⟩;cases e;rcases hr.2 f hrr with h | ⟨f',h1,h2,h3⟩
  ·exact Or.inl h
  ·exact Or.inr ⟨f',QaC h1,h2,h3⟩
 |ok y=>
  obtain⟨y',h1,h3⟩:=hr.1 y hrr;rw[QaE hrr,QaE h1];exact hk y y' hrr h3
section
variable {A B l u:L8}
theorem QhH{A B l u:L8}(hP:Pad A B)(hu:u=A++(l++B))(zs:List (L8))(hz:∀ z∈zs,z≠[]){s s':PS}(h:SR l A.length s s'):Sim id l A.length (mayL l zs s) (mayL u zs s'):=by
 unfold mayL;rw[h.spelt];by_cases h0:wL zs s.1.spelt=0
 ·rw[if_pos h0,if_pos h0];exact Sim.okk rfl h
 ·rw[if_neg h0,if_neg h0];have hn:=Qee hP l u hu s s' h (QbF h.gd hz h0)
  cases hrr:nL l s.2 with
  |error f=>
   refine⟨fun y e=>(by cases e),fun f0 e=>?_⟩;cases e;rcases hn.2 f hrr with h | ⟨f',h1,h2,h3⟩
   ·exact Or.inl h
   ·rw[h1];exact Or.inr ⟨f',rfl,h2,h3⟩
  |ok y=>
   obtain⟨y',h1,h3⟩:=hn.1 y hrr;rw[h1];exact Sim.okk rfl h3
theorem QeF{A B l u:L8}(hP:Pad A B)(hu:u=A++(l++B))(zs:List (L8))(hz:∀ z∈zs,z≠[]){s s':PS}(h:SR l A.length s s'):Sim id l A.length (paL l zs s) (paL u zs s'):=by
 unfold paL;rw[h.spelt];by_cases h0:wL zs s.1.spelt=0
 ·rw[if_pos h0,if_pos h0];exact Sim.fail rfl h.pos
 ·rw[if_neg h0,if_neg h0];have hn:=Qee hP l u hu s s' h (QbF h.gd hz h0)
  cases hrr:nL l s.2 with
  |error f=>
   refine⟨fun y e=>(by cases e),fun f0 e=>?_⟩;cases e;rcases hn.2 f hrr with h | ⟨f',h1,h2,h3⟩
   ·exact Or.inl h
   ·rw[h1];exact Or.inr ⟨f',rfl,h2,h3⟩
  |ok y=>
   obtain⟨y',h1,h3⟩:=hn.1 y hrr;rw[h1];exact Sim.okk rfl h3
theorem QcS{A B l u:L8}(hP:Pad A B)(hu:u=A++(l++B))(chk:L8->Nat){s s':PS}(h:SR l A.length s s'):Sim id l A.length (sL l chk s) (sL u chk s'):=by
 unfold sL;rw[h.kind,h.said];by_cases h0:s.1.kind=5
 ·rw[if_pos h0,if_pos h0];by_cases h1:chk s.1.said=0
  ·rw[if_pos h1,if_pos h1];have hn:=Qee hP l u hu s s' h (by omega)
   cases hrr:nL l s.2 with
   |error f=>
    refine⟨fun y e=>(by cases e),fun f0 e=>?_⟩;cases e;rcases hn.2 f hrr with h | ⟨f',h1,h2,h3⟩
    ·exact Or.inl h
    ·rw[h1];exact Or.inr ⟨f',rfl,h2,h3⟩
   |ok y=>
    obtain⟨y',h1,h3⟩:=hn.1 y hrr;rw[h1];exact Sim.okk rfl h3
  ·rw[if_neg h1,if_neg h1];exact Sim.fail rfl h.pos
 ·rw[if_neg h0,if_neg h0];exact Sim.fail rfl h.pos
theorem Qf9(l:L8)(chk:L8->Nat)(f:Nat)(aa:List (L8))(s:PS):moreL l chk (f+1) aa s=Qa2 (paL l [[44],[93]] s) fun i s1=>if i=1 then Qa2 (sL l chk s1) fun x s2=>moreL l chk f (aa++[x]) s2 else .ok (aa,s1):=by
 rw[moreL]
 cases paL l [[44],[93]] s with
 |error e=>rfl
 |ok y=>
  rw[Qac rfl];dsimp only;by_cases h:y.1=1
  ·rw[if_pos h,if_pos h]
   cases sL l chk y.2 with
   |error e=>rfl
   |ok z=>rfl
  ·rw[if_neg h,if_neg h]
theorem QdC(l:L8)(chk:L8->Nat)(F:Nat)(s:PS):sLs l chk F s=Qa2 (mayL l [[91]] s) fun i s1=>Qa2 (sL l chk s1) fun x s2=>if i=0 then .ok ([x],s2)else moreL l chk F [x] s2:=by
 unfold sLs
 cases mayL l [[91]] s with
 |error e=>rfl
 |ok y=>
  rw[Qac rfl];dsimp only
  cases sL l chk y.2 with
  |error e=>rfl
  |ok z=>rfl
theorem Qq3{A B l u:L8}(hP:Pad A B)(hu:u=A++(l++B))(chk:L8->Nat):∀(f f':Nat) (aa:List (L8)) (s s':PS),f<=f'->mu l.length s<f->SR l A.length s s'->Sim id l A.length (moreL l chk f aa s) (moreL u chk f' aa s')
 |0,_,_,_,_,_,hm,_=>absurd hm (Nat.not_lt_zero _)
 |f+1,0,_,_,_,hf,_,_=>absurd hf (by omega)
 |f+1,f'+1,aa,s,s',hf,hm,h=>by
  rw[Qf9,Qf9];refine(QeF hP hu _ (by decide) h).andThen fun y y' hy e h1=>?_
  have d1:=(Qcu (zs:=[[44],[93]]) h.gd (by decide) y hy).2;rw[show y'.1=y.1 from e.symm];by_cases h0:y.1=1
  ·rw[if_pos h0,if_pos h0];refine(QcS hP hu chk h1).andThen fun z z' hz ez h2=>?_
   have d2:=(QbH h1.gd z hz).2;rw[show z'.1=z.1 from ez.symm];exact Qq3 hP hu chk f f' _ _ _ (by omega) (by omega) h2
  ·rw[if_neg h0,if_neg h0];exact Sim.okk rfl h1
theorem QeM{A B l u:L8}(hP:Pad A B)(hu:u=A++(l++B))(chk:L8->Nat){F F':Nat}(hF:F<=F'){s s':PS}(hm:mu l.length s<F)(h:SR l A.length s s'):Sim id l A.length (sLs l chk F s) (sLs u chk F' s'):=by
 rw[QdC,QdC];refine(QhH hP hu _ (by decide) h).andThen fun y y' hy e h1=>?_
 have d1:=(Qdz (zs:=[[91]]) h.gd (by decide) y hy).2;refine(QcS hP hu chk h1).andThen fun z z' hz ez h2=>?_
 have d2:=(QbH h1.gd z hz).2;rw[show y'.1=y.1 from e.symm,show z'.1=z.1 from ez.symm];by_cases h0:y.1=0
 ·rw[if_pos h0,if_pos h0];exact Sim.okk rfl h2
 ·rw[if_neg h0,if_neg h0];exact Qq3 hP hu chk _ _ _ _ _ hF (by omega) h2
theorem Qp8{A B l u:L8}(hP:Pad A B)(hu:u=A++(l++B)):∀(f f' tag:Nat) (oct aa:Bool) (s s':PS),f<=f'->mu l.length s<f->SR l A.length s s'->Sim id l A.length (Qd3 l f tag oct aa s) (Qd3 u f' tag oct aa s')
 |0,_,_,_,_,_,_,_,hm,_=>absurd hm (Nat.not_lt_zero _)
 |f+1,0,_,_,_,_,_,hf,_,_=>absurd hf (by omega)
 |f+1,f'+1,tag,oct,aa,s,s',hf,hm,h=>by
  rw[Qd3,Qd3,h.spelt];by_cases h0:wL [tIs,Qaq,Qaz] s.1.spelt=0
  ·rw[if_pos h0,if_pos h0];by_cases h1:wL [Qas] s.1.spelt=0
   ·rw[if_pos h1,if_pos h1];exact Sim.okk rfl h
   ·rw[if_neg h1,if_neg h1];have hk:=QbF (zs:=[Qas]) h.gd (by decide) h1;cases aa
    ·simp only[Bool.false_eq_true,if_false];refine Sim.nextThen (Qee hP l u hu s s' h hk) fun y y' hy h2=>?_
     have d1:=Qcf h.gd.1 hk hy;refine(QcS hP hu _ h2).andThen fun z z' hz ez h3=>?_
     have d2:=(QbH h2.gd z hz).2;rw[show z'.1=z.1 from ez.symm];exact Qp8 hP hu f f' _ _ _ _ _ (by omega) (by omega) h3
    ·simp only[if_true];exact Sim.fail rfl h.pos
  ·rw[if_neg h0,if_neg h0];have hk:=QbF (zs:=[tIs,Qaq,Qaz]) h.gd (by decide) h0;by_cases ht:tag=0
   ·rw[if_pos ht,if_pos ht];refine Sim.nextThen (Qee hP l u hu s s' h hk) fun y y' hy h2=>?_
    have d1:=Qcf h.gd.1 hk hy;exact Qp8 hP hu f f' _ _ _ _ _ (by omega) (by omega) h2
   ·rw[if_neg ht,if_neg ht];exact Sim.fail rfl h.pos
end
def zT (x:Qcv):Qcv:=⟨x.kind,0,x.tag,x.octet,x.fr,x.keys,x.num⟩
def Qbz:(n:Nat)→Qa6 n→Qa6 n
 | 0,x=>x
 | n+1,x=>(zT x.1,x.2.map (Qbz n))
def zC (x:Qgt):Qgt:=⟨x.kind,0,x.tag,x.arg,x.var,x.els⟩
def Qdq:(n:Nat)→Qbo n→Qbo n
 | 0,x=>x
 | n+1,x=>(zC x.1,x.2.1.map (fun a=>(Qbz n a.1,a.2.map (Qdq n))),x.2.2.map (Qdq n))
section
variable {A B l u:L8}
theorem Qj0{A B l u:L8}(hP:Pad A B)(hu:u=A++(l++B))(chk:L8->Nat)(k ab aa:Nat){F F':Nat}(hF:F<=F'){s s':PS}(hm:mu l.length s<F)(h:SR l A.length s s'):Sim zT l A.length (Qbp l F chk k ab s) (Qbp u F' chk k aa s'):=by
 unfold Qbp;refine(Qp8 hP hu F F' _ _ _ _ _ hF hm h).andThen fun o o' ho eo h1=>?_
 have d1:=(Qn5 F 0 false false s h.gd o ho).2;refine(QeM hP hu _ hF (by omega) h1).andThen fun x x' hx ex h2=>?_
 have d2:=(Qdc h1.gd x hx).2;refine(QeM hP hu _ hF (by omega) h2).andThen fun y y' hy ey h3=>?_
 rw[show o'.1=o.1 from eo.symm,show x'.1=x.1 from ex.symm,show y'.1=y.1 from ey.symm];exact Sim.okk rfl h3
theorem QgY{A B l u:L8}(hP:Pad A B)(hu:u=A++(l++B)){α β:Type}(g:α->β){sub sub':PS->Except Flt (α×PS)}(hd:∀ s,Gd l s->Dn 1 l (sub s) s){M:Nat}(hs:∀ s s',mu l.length s<M->SR l A.length s s'->Sim g l A.length (sub s) (sub' s')):∀(f f':Nat) (ab aa:List α) (s s':PS),ab.map g=aa.map g->f<=f'->mu l.length s<f->mu l.length s<M->SR l A.length s s'->Sim (List.map g) l A.length (gMr l sub f ab s) (gMr u sub' f' aa s')
 |0,_,_,_,_,_,_,_,hm,_,_=>absurd hm (Nat.not_lt_zero _)
 |f+1,0,_,_,_,_,_,hf,_,_,_=>absurd hf (by omega)
 |f+1,f'+1,ab,aa,s,s',ha,hf,hm,hM,h=>by
  rw[gMr,gMr];refine(QeF hP hu _ (by decide) h).andThen fun y y' hy e h1=>?_
  have d1:=(Qcu (zs:=[[44],[41]]) h.gd (by decide) y hy).2;rw[show y'.1=y.1 from e.symm];by_cases h0:y.1=1
  ·rw[if_pos h0,if_pos h0];refine(hs _ _ (by omega) h1).andThen fun z z' hz ez h2=>?_
   have d2:=(hd _ h1.gd z hz).2;exact QgY hP hu g hd hs f f' _ _ _ _ (by rw[List.map_append,List.map_append,ha];simp[ez]) (by omega) (by omega) (by omega) h2
  ·rw[if_neg h0,if_neg h0];exact Sim.okk ha h1
theorem QnY{A B l u:L8}(hP:Pad A B)(hu:u=A++(l++B)){α β:Type}(g:α->β){sub sub':PS->Except Flt (α×PS)}(hd:∀ s,Gd l s->Dn 1 l (sub s) s){M:Nat}(hs:∀ s s',mu l.length s<M->SR l A.length s s'->Sim g l A.length (sub s) (sub' s')){F F':Nat}(hF:F<=F'){s s':PS}(hm:mu l.length s<F)(hM:mu l.length s<M)(h:SR l A.length s s'):Sim (List.map g) l A.length (groupL l F sub s) (groupL u F' sub' s'):=by
 unfold groupL;refine(QeF hP hu _ (by decide) h).andThen fun y y' hy e h1=>?_
 have d1:=(Qcu (zs:=[[40]]) h.gd (by decide) y hy).2;refine(hs _ _ (by omega) h1).andThen fun z z' hz ez h2=>?_
 have d2:=(hd _ h1.gd z hz).2;exact QgY hP hu g hd hs F F' _ _ _ _ (by simp[ez]) hF (by omega) (by omega) h2
theorem Qv2{A B l u:L8}(hP:Pad A B)(hu:u=A++(l++B))(ab aa:Nat){s s':PS}(h:SR l A.length s s'):Sim zT l A.length (sizeL l ab s) (sizeL u aa s'):=by
 unfold sizeL;refine(QeF hP hu _ (by decide) h).andThen fun y y' hy e h1=>?_
 rw[h1.kind,h1.num,show y'.1=y.1 from e.symm];by_cases h0:y.2.1.kind=4
 ·rw[if_pos h0,if_pos h0];refine Sim.nextThen (Qee hP l u hu _ _ h1 (by omega)) fun z z' hz h2=>?_
  exact Sim.okk rfl h2
 ·rw[if_neg h0,if_neg h0];exact Sim.fail rfl h1.pos
theorem Qoi{A B l u:L8}(hP:Pad A B)(hu:u=A++(l++B))(n:Nat){sub sub':PS->Except Flt (Qa6 n×PS)}(hd:∀ s,Gd l s->Dn 1 l (sub s) s){M:Nat}(hs:∀ s s',mu l.length s<M->SR l A.length s s'->Sim (Qbz n) l A.length (sub s) (sub' s')){F F':Nat}(hF:F<=F')(k ab aa:Nat){s s':PS}(hm:mu l.length s<F)(hM:mu l.length s<M)(h:SR l A.length s s'):Sim (Qbz (n+1)) l A.length (tBd l F sub k ab s) (tBd u F' sub' k aa s'):=by
 unfold tBd;split
 ·exact Sim.okk rfl h
 ·exact Sim.okk rfl h
 ·refine(hs _ _ hM h).andThen fun z z' hz ez h2=>Sim.okk ?_ h2
  show(_,[Qbz n z.1])=(_,[Qbz n z'.1])
  rw[ez];rfl
 ·refine(QnY hP hu (Qbz n) hd hs hF hm hM h).andThen fun z z' hz ez h2=>Sim.okk ?_ h2
  show(_,List.map (Qbz n) z.1)=(_,List.map (Qbz n) z'.1)
  rw[ez];rfl
 ·refine(QnY hP hu (Qbz n) hd hs hF hm hM h).andThen fun z z' hz ez h2=>Sim.okk ?_ h2
  show(_,List.map (Qbz n) z.1)=(_,List.map (Qbz n) z'.1)
  rw[ez];rfl
 ·refine(Qj0 hP hu _ _ _ _ hF hm h).andThen fun z z' hz ez h2=>Sim.okk ?_ h2
  show(zT z.1,[])=(zT z'.1,[])
  rw[ez]
 ·refine(Qj0 hP hu _ _ _ _ hF hm h).andThen fun z z' hz ez h2=>Sim.okk ?_ h2
  show(zT z.1,[])=(zT z'.1,[])
  rw[ez]
 ·refine(Qj0 hP hu _ _ _ _ hF hm h).andThen fun z z' hz ez h2=>Sim.okk ?_ h2
  show(zT z.1,[])=(zT z'.1,[])
  rw[ez]
 ·refine(QeM hP hu _ hF hm h).andThen fun z z' hz ez h2=>Sim.okk ?_ h2
  rw[show z'.1=z.1 from ez.symm];rfl
 ·refine(Qv2 hP hu _ _ h).andThen fun z z' hz ez h2=>Sim.okk ?_ h2
  show(zT z.1,[])=(zT z'.1,[])
  rw[ez]
theorem QoE{A B l u:L8}(hP:Pad A B)(hu:u=A++(l++B))(req:List (L8)){F F':Nat}(hF:F<=F'):∀(n:Nat) (s s':PS),mu l.length s<F->SR l A.length s s'->Sim (Qbz n) l A.length (testL l req F n s) (testL u req F' n s')
 |0,s,s',hm,h=>by
  rw[testL,testL,h.kind];by_cases h0:s.1.kind=1
  ·rw[if_pos h0,if_pos h0];exact Sim.fail rfl h.pos
  ·rw[if_neg h0,if_neg h0];exact Sim.fail rfl h.pos
 |n+1,s,s',hm,h=>by
  rw[testL,testL,h.spelt];by_cases h0:wL tNs s.1.spelt=0
  ·rw[if_pos h0,if_pos h0];exact Sim.fail rfl h.pos
  ·rw[if_neg h0,if_neg h0];have hk:=QbF (zs:=tNs) h.gd (by decide) h0;cases hus:Qb6 req s.1.spelt
   ·simp only[Bool.false_eq_true,if_false];exact Sim.fail rfl h.pos
   ·simp only[if_true];refine Sim.nextThen (Qee hP l u hu s s' h hk) fun y y' hy h2=>?_
    have d1:=Qcf h.gd.1 hk hy;exact Qoi hP hu n (fun s g=>QfC n s g) (M:=F) (fun s s' hm h=>QoE hP hu req hF n s s' hm h) hF _ _ _ (by omega) (by omega) h2
theorem Qhh{A B l u:L8}(hP:Pad A B)(hu:u=A++(l++B)){α β:Type}(g:α->β){sub sub':PS->Except Flt (α×PS)}(hd:∀ s,Gd l s->Dn 1 l (sub s) s){M:Nat}(hs:∀ s s',mu l.length s<M->SR l A.length s s'->Sim g l A.length (sub s) (sub' s')):∀(f f':Nat) (ab aa:List α) (s s':PS),ab.map g=aa.map g->f<=f'->mu l.length s<f->mu l.length s<M->SR l A.length s s'->Sim (List.map g) l A.length (bMr l sub f ab s) (bMr u sub' f' aa s')
 |0,_,_,_,_,_,_,_,hm,_,_=>absurd hm (Nat.not_lt_zero _)
 |f+1,0,_,_,_,_,_,hf,_,_,_=>absurd hf (by omega)
 |f+1,f'+1,ab,aa,s,s',ha,hf,hm,hM,h=>by
  rw[bMr,bMr];refine(QhH hP hu _ (by decide) h).andThen fun y y' hy e h1=>?_
  have d1:=(Qdz (zs:=[[125]]) h.gd (by decide) y hy).2;rw[show y'.1=y.1 from e.symm];by_cases h0:y.1=0
  ·rw[if_pos h0,if_pos h0];refine(hs _ _ (by omega) h1).andThen fun z z' hz ez h2=>?_
   have d2:=(hd _ h1.gd z hz).2;exact Qhh hP hu g hd hs f f' _ _ _ _ (by rw[List.map_append,List.map_append,ha];simp[ez]) (by omega) (by omega) (by omega) h2
  ·rw[if_neg h0,if_neg h0];exact Sim.okk ha h1
theorem Qm3{A B l u:L8}(hP:Pad A B)(hu:u=A++(l++B)){α β:Type}(g:α->β){sub sub':PS->Except Flt (α×PS)}(hd:∀ s,Gd l s->Dn 1 l (sub s) s){M:Nat}(hs:∀ s s',mu l.length s<M->SR l A.length s s'->Sim g l A.length (sub s) (sub' s')){F F':Nat}(hF:F<=F'){s s':PS}(hm:mu l.length s<F)(hM:mu l.length s<M)(h:SR l A.length s s'):Sim (List.map g) l A.length (blockL l F sub s) (blockL u F' sub' s'):=by
 unfold blockL;refine(QeF hP hu _ (by decide) h).andThen fun y y' hy e h1=>?_
 have d1:=(Qcu (zs:=[[123]]) h.gd (by decide) y hy).2;exact Qhh hP hu g hd hs F F' _ _ _ _ rfl hF (by omega) (by omega) h1
theorem QuP{A B l u:L8}(hP:Pad A B)(hu:u=A++(l++B)){α β α' β':Type}(g:α->α')(g2:β->β'){ab aa:PS->Except Flt (β×PS)}{sub sub':PS->Except Flt (α×PS)}(ac:∀ s,Gd l s->Dn 1 l (ab s) s)(hd:∀ s,Gd l s->Dn 1 l (sub s) s){M:Nat}(ad:∀ s s',mu l.length s<M->SR l A.length s s'->Sim g2 l A.length (ab s) (aa s'))(hs:∀ s s',mu l.length s<M->SR l A.length s s'->Sim g l A.length (sub s) (sub' s')){F F':Nat}(hF:F<=F'){s s':PS}(hm:mu l.length s<F)(hM:mu l.length s<M)(h:SR l A.length s s'):Sim (fun a:β×List α=>(g2 a.1,a.2.map g)) l A.length (armL l F ab sub s) (armL u F' aa sub' s'):=by
 unfold armL;refine(ad _ _ hM h).andThen fun y y' hy e h1=>?_
 have d1:=(ac _ h.gd y hy).2;refine(Qm3 hP hu g hd hs hF (by omega) (by omega) h1).andThen fun z z' hz ez h2=>?_
 refine Sim.okk ?_ h2;show(g2 y.1,List.map g z.1)=(g2 y'.1,List.map g z'.1)
 rw[e,ez]
theorem Qrd{A B l u:L8}(hP:Pad A B)(hu:u=A++(l++B)){α β α' β':Type}(g:α->α')(g2:β->β'){ae ab:PS->Except Flt (β×PS)}{sub sub':PS->Except Flt (α×PS)}(ad:∀ s,Gd l s->Dn 1 l (ae s) s)(hd:∀ s,Gd l s->Dn 1 l (sub s) s){M:Nat}(af:∀ s s',mu l.length s<M->SR l A.length s s'->Sim g2 l A.length (ae s) (ab s'))(hs:∀ s s',mu l.length s<M->SR l A.length s s'->Sim g l A.length (sub s) (sub' s')){F F':Nat}(hF:F<=F'):∀(f f':Nat) (ac aa:List (β×List α)) (s s':PS),ac.map (fun a=>(g2 a.1,a.2.map g))=aa.map (fun a=>(g2 a.1,a.2.map g))->f<=f'->mu l.length s<f->mu l.length s<F->mu l.length s<M->SR l A.length s s'->Sim (List.map (fun a:β×List α=>(g2 a.1,a.2.map g))) l A.length (aMr l F ae sub f ac s) (aMr u F' ab sub' f' aa s')
 |0,_,_,_,_,_,_,_,hm,_,_,_=>absurd hm (Nat.not_lt_zero _)
 |f+1,0,_,_,_,_,_,hf,_,_,_,_=>absurd hf (by omega)
 |f+1,f'+1,ac,aa,s,s',ha,hf,hm,hmF,hM,h=>by
  rw[aMr,aMr];refine(QhH hP hu _ (by decide) h).andThen fun y y' hy e h1=>?_
  have d1:=(Qdz (zs:=[QbM]) h.gd (by decide) y hy).2;rw[show y'.1=y.1 from e.symm];by_cases h0:y.1=0
  ·rw[if_pos h0,if_pos h0];exact Sim.okk ha h1
  ·rw[if_neg h0,if_neg h0];refine(QuP hP hu g g2 ad hd af hs hF (by omega) (by omega) h1).andThen fun z z' hz ez h2=>?_
   have d2:=(Qjm ad hd h1.gd z hz).2;exact Qrd hP hu g g2 ad hd af hs hF f f' _ _ _ _ (by rw[List.map_append,List.map_append,ha];simp only[List.map_cons,List.map_nil];rw[ez]) (by omega) (by omega) (by omega) (by omega) h2
theorem QeT{A B l u:L8}(hP:Pad A B)(hu:u=A++(l++B)){α β:Type}(g:α->β){x x':α}(hx:g x=g x'){s s':PS}(h:SR l A.length s s'):Sim g l A.length (semi l s x) (semi u s' x'):=by
 unfold semi;exact(QeF hP hu _ (by decide) h).andThen fun y y' hy e h1=>Sim.okk hx h1
theorem QpL{A B l u:L8}(hP:Pad A B)(hu:u=A++(l++B))(n:Nat){ad aa:PS->Except Flt (Qa6 n×PS)}{sub sub':PS->Except Flt (Qbo n×PS)}(ab:∀ s,Gd l s->Dn 1 l (ad s) s)(hd:∀ s,Gd l s->Dn 1 l (sub s) s){M:Nat}(ae:∀ s s',mu l.length s<M->SR l A.length s s'->Sim (Qbz n) l A.length (ad s) (aa s'))(hs:∀ s s',mu l.length s<M->SR l A.length s s'->Sim (Qdq n) l A.length (sub s) (sub' s')){F F':Nat}(hF:F<=F')(k af ac:Nat){s s':PS}(hm:mu l.length s<F)(hM:mu l.length s<M)(h:SR l A.length s s'):Sim (Qdq (n+1)) l A.length (cBd l F ad sub k af s) (cBd u F' aa sub' k ac s'):=by
 unfold cBd;split
 ·refine QeT hP hu _ ?_ h;rfl
 ·refine QeT hP hu _ ?_ h;rfl
 ·refine QeT hP hu _ ?_ h;rfl
 ·refine(QcS hP hu _ h).andThen fun y y' hy e h1=>QeT hP hu _ ?_ h1
  rw[show y'.1=y.1 from e.symm];rfl
 ·refine(QcS hP hu _ h).andThen fun y y' hy e h1=>QeT hP hu _ ?_ h1
  rw[show y'.1=y.1 from e.symm];rfl
 ·refine(QcS hP hu _ h).andThen fun y y' hy e h1=>QeT hP hu _ ?_ h1
  rw[show y'.1=y.1 from e.symm];rfl
 ·refine(QhH hP hu _ (by decide) h).andThen fun x x' hx ex h0=>?_
  refine(QcS hP hu _ h0).andThen fun v v' hv ev h1=>?_
  refine(QcS hP hu _ h1).andThen fun y y' hy e h2=>QeT hP hu _ ?_ h2
  rw[show y'.1=y.1 from e.symm,show v'.1=v.1 from ev.symm,show x'.1=x.1 from ex.symm];rfl
 ·refine(QuP hP hu (Qdq n) (Qbz n) ab hd ae hs hF hm hM h).andThen fun x x' hx ex h0=>?_
  have d0:=(Qjm ab hd h.gd x hx).2;refine(Qrd hP hu (Qdq n) (Qbz n) ab hd ae hs hF F F' [x.1] [x'.1] _ _ (by simp only[List.map_cons,List.map_nil];rw[ex]) hF (by omega) (by omega) (by omega) h0).andThen fun y y' hy ey h1=>?_
  have d1:=(Qmq ab hd F _ _ h0.gd y hy).2;refine(QhH hP hu _ (by decide) h1).andThen fun v v' hv ev h2=>?_
  have d2:=(Qdz (zs:=[Qch]) h1.gd (by decide) v hv).2;rw[show v'.1=v.1 from ev.symm];by_cases hz:v.1=0
  ·rw[if_pos hz,if_pos hz];refine Sim.okk ?_ h2;show(_,List.map _ y.1,_)=(_,List.map _ y'.1,_)
   rw[ey];rfl
  ·rw[if_neg hz,if_neg hz];refine(Qm3 hP hu (Qdq n) hd hs hF (by omega) (by omega) h2).andThen fun z z' hz ez h3=>Sim.okk ?_ h3
   show(_,List.map _ y.1,List.map (Qdq n) z.1)=(_,List.map _ y'.1,List.map (Qdq n) z'.1)
   rw[ey,ez];rfl
theorem QqL{A B l u:L8}(hP:Pad A B)(hu:u=A++(l++B))(req:List (L8)){F F':Nat}(hF:F<=F'):∀(n:Nat) (s s':PS),mu l.length s<F->SR l A.length s s'->Sim (Qdq n) l A.length (cmdL l req F n s) (cmdL u req F' n s')
 |0,s,s',hm,h=>by
  rw[cmdL,cmdL,h.kind];by_cases h0:s.1.kind=1
  ·rw[if_pos h0,if_pos h0];exact Sim.fail rfl h.pos
  ·rw[if_neg h0,if_neg h0];exact Sim.fail rfl h.pos
 |n+1,s,s',hm,h=>by
  rw[cmdL,cmdL,h.spelt];by_cases h0:wL cNs s.1.spelt=0
  ·rw[if_pos h0,if_pos h0];exact Sim.fail rfl h.pos
  ·rw[if_neg h0,if_neg h0];have hk:=QbF (zs:=cNs) h.gd (by decide) h0;cases hus:Qb6 req s.1.spelt
   ·simp only[Bool.false_eq_true,if_false];exact Sim.fail rfl h.pos
   ·simp only[if_true];refine Sim.nextThen (Qee hP l u hu s s' h hk) fun y y' hy h2=>?_
    have d1:=Qcf h.gd.1 hk hy;exact QpL hP hu n (fun s g=>QfC n s g) (fun s g=>QjZ n s g) (M:=F) (fun s s' hm h=>QoE hP hu req hF n s s' hm h) (fun s s' hm h=>QqL hP hu req hF n s s' hm h) hF _ _ _ (by omega) (by omega) h2
theorem Qky{A B l u:L8}(hP:Pad A B)(hu:u=A++(l++B)){F F':Nat}(hF:F<=F'):∀(f f':Nat) (req:List (L8)) (s s':PS),f<=f'->mu l.length s<f->mu l.length s<F->SR l A.length s s'->Sim id l A.length (reqMore l F f req s) (reqMore u F' f' req s')
 |0,_,_,_,_,_,hm,_,_=>absurd hm (Nat.not_lt_zero _)
 |f+1,0,_,_,_,hf,_,_,_=>absurd hf (by omega)
 |f+1,f'+1,req,s,s',hf,hm,hmF,h=>by
  rw[reqMore,reqMore];refine(QhH hP hu _ (by decide) h).andThen fun y y' hy e h1=>?_
  have d1:=(Qdz (zs:=[kRequire]) h.gd (by decide) y hy).2;rw[show y'.1=y.1 from e.symm];by_cases h0:y.1=0
  ·rw[if_pos h0,if_pos h0];exact Sim.okk rfl h1
  ·rw[if_neg h0,if_neg h0];refine(QeM hP hu _ hF (by omega) h1).andThen fun z z' hz ez h2=>?_
   have d2:=(Qdc h1.gd z hz).2;refine(QeF hP hu _ (by decide) h2).andThen fun v v' hv ev h3=>?_
   have d3:=(Qcu (zs:=[[59]]) h2.gd (by decide) v hv).2;rw[show z'.1=z.1 from ez.symm];exact Qky hP hu hF f f' _ _ _ (by omega) (by omega) (by omega) h3
theorem Qlz{F:Nat}:∀(f:Nat) (req:List (L8)) (s:PS),Gd l s->Dn 0 l (reqMore l F f req s) s
 |0,req,s,h=>Dn.ok h
 |f+1,req,s,h=>by
  rw[reqMore];refine((Qdz h (by decide)).andThen (c':=0) fun i s1 g1=>?_).weak (by omega);split
  ·exact Dn.ok g1
  ·exact((Qdc g1).andThen (c':=0) fun xs s2 g2=>((Qcu g2 (by decide)).andThen (c':=0) fun _ s3 g3=>Qlz f _ s3 g3).weak (by omega)).weak (by omega)
theorem QiA{α β:Type}(g:α->β){sub sub':PS->Except Flt (α×PS)}(hd:∀ s,Gd l s->Dn 1 l (sub s) s){M:Nat}(hs:∀ s s',mu l.length s<M->SR l A.length s s'->Sim g l A.length (sub s) (sub' s')):∀(f f':Nat) (ab aa:List α) (s s':PS),ab.map g=aa.map g->f<=f'->mu l.length s<f->mu l.length s<M->SR l A.length s s'->
 (∀ y,cMr sub f ab s=.ok y->∃ y',cMr sub' f' aa s'=.ok y'/\y.map g=y'.map g)/\(∀ e,cMr sub f ab s=.error e->e.err=2\/∃ e',cMr sub' f' aa s'=.error e'/\e'.err=e.err/\e.pos<=e'.pos)
 |0,_,_,_,_,_,_,_,hm,_,_=>absurd hm (Nat.not_lt_zero _)
 |f+1,0,_,_,_,_,_,hf,_,_,_=>absurd hf (by omega)
 |f+1,f'+1,ab,aa,s,s',ha,hf,hm,hM,h=>by
  rw[cMr,cMr,h.kind];by_cases h0:s.1.kind=0
  ·rw[if_pos h0,if_pos h0];exact⟨fun y e=>by cases e;exact⟨_,rfl,ha⟩,fun f e=>by cases e⟩
  ·rw[if_neg h0,if_neg h0];have hS:=hs _ _ hM h
   cases hr:sub s with
   |error e=>
    refine⟨fun y e=>(by cases e),fun f0 e=>?_⟩;cases e;rcases hS.2 _ hr with h | ⟨f',h1,h2,h3⟩
    ·exact Or.inl h
    ·rw[h1];exact Or.inr ⟨f',rfl,h2,h3⟩
   |ok y=>
    obtain⟨y',h1,h2,h3⟩:=hS.1 y hr;rw[h1];have d:=(hd _ h.gd y hr).2;exact QiA g hd hs f f' _ _ _ _ (by rw[List.map_append,List.map_append,ha];simp[h2]) (by omega) (by omega) (by omega) h3
theorem Quj{A B l u:L8}(hP:Pad A B)(hu:u=A++(l++B)) :
 (∀ y,prL l=.ok y->∃ y',prL u=.ok y'/\y'.1=y.1/\y.2.map (Qdq 7)=y'.2.map (Qdq 7))/\(∀ e,prL l=.error e->e.err=2\/∃ e',prL u=.error e'/\e'.err=e.err/\e.pos<=e'.pos):=by
 unfold prL;dsimp only;have hF:2*l.length+10<=2*u.length+10:=by rw[hu];simp;omega
 generalize hFe:2*l.length+10=F at hF ⊢;generalize 2*u.length+10=F' at hF ⊢;have hn:=Qt9 hP l u hu
 cases h1:nL l 0 with
 |error f=>
  refine⟨fun y e=>(by cases e),fun f0 e=>?_⟩;cases e;rcases hn.2 _ h1 with h | ⟨f',h1,h2,h3⟩
  ·exact Or.inl h
  ·rw[h1];exact Or.inr ⟨f',rfl,h2,h3⟩
 |ok s=>
  obtain⟨s',h2,hS⟩:=hn.1 s h1;rw[h2];dsimp only;have hm:mu l.length s<F:=by unfold mu;split<;>omega
  have hR:=Qky hP hu hF F F' [] s s' hF hm hm hS
  cases h3:reqMore l F F [] s with
  |error f=>
   refine⟨fun y e=>(by cases e),fun f0 e=>?_⟩;cases e;rcases hR.2 _ h3 with h | ⟨f',h1,h2,h3⟩
   ·exact Or.inl h
   ·rw[h1];exact Or.inr ⟨f',rfl,h2,h3⟩
  |ok y=>
   obtain⟨y',h4,h5,h6⟩:=hR.1 y h3;rw[h4];dsimp only;have d:=(Qlz F [] s hS.gd y h3).2;rw[show y'.1=y.1 from h5.symm];have hC:=QiA (Qdq 7) (sub:=cmdL l y.1 F 7) (sub':=cmdL u y.1 F' 7) (fun s g=>QjZ 7 s g) (M:=F) (fun s s' hm h=>QqL hP hu y.1 hF 7 s s' hm h) F F' [] [] y.2 y'.2 rfl hF (by omega) (by omega) h6
   cases h7:cMr (cmdL l y.1 F 7) F [] y.2 with
   |error f=>
    refine⟨fun y e=>(by cases e),fun f0 e=>?_⟩;cases e;rcases hC.2 _ h7 with h | ⟨f',h1,h2,h3⟩
    ·exact Or.inl h
    ·rw[h1];exact Or.inr ⟨f',rfl,h2,h3⟩
   |ok cs=>
    obtain⟨cs',h8,h9⟩:=hC.1 cs h7;rw[h8];refine⟨fun y e=>?_,fun f e=>by cases e⟩;cases e;exact⟨_,rfl,rfl,h9⟩
end
end
end Go.Proofs.YtgnkjijocdmniaaGreatDoor
