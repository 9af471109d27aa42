import Derived.Lib.Index
import Derived.Lib.Bytealg
import Derived.Lib.Strings
import Derived.Lib.SlicesS
import Derived.Sort.KeysCollected
namespace Go.Proofs.YthkibedbcbgajaaGreatDoor
set_option linter.unusedVariables false
set_option linter.unusedSimpArgs false
set_option maxRecDepth 100000
set_option maxHeartbeats 4000000
abbrev L8:=List UInt8
def QaL (c:Int):Bool:=decide (48≤c) && decide (c≤57)
def QbH (c:Int):Bool:=c == 32 || c == 9 || c == 10 || c == 13
def Qet (c:Int):Bool:=decide (65≤c) && decide (c≤90)
def Qia (c:Int):Bool:=decide (97≤c) && decide (c≤122)
def Qbt (c:Int):Bool:=(decide (97≤c) && decide (c≤122)) || Qet c || c == 95
theorem Qsx(c:Int):Qbt c=(Qia c || Qet c || c==95):=rfl
def QbO (c:UInt8):Bool:=Qbt c.toNat || QaL c.toNat
def QbJ (l:L8):Nat:=(l.takeWhile QbO).length
def Qa0:L8→Nat
 | []=>0
 | c :: r=>if Qbt c.toNat then 1+QbJ r else 0
def isNameL (l:L8):Bool:=!l.isEmpty && Qa0 l == l.length
def Qgj (c:UInt8):UInt8:=if Qet c.toNat then c - 65+97 else c
def zL (l:L8):L8:=l.map Qgj
theorem Qf6(c:UInt8)(r:L8):QbJ (c::r)=if QbO c then 1+QbJ r else 0:=by
 unfold QbJ;rw[List.takeWhile_cons];split
 ·rw[List.length_cons];omega
 ·rfl
theorem Qn3(l:L8):QbJ l<=l.length:=by
 induction l with
 |nil=>simp[QbJ]
 |cons c r ih=>rw[Qf6];split<;>simp<;>omega
theorem Qdj(l:L8):Qa0 l<=l.length:=by
 cases l with
 |nil=>simp[Qa0]
 |cons c r=>have:=Qn3 r;simp only[Qa0];split<;>simp<;>omega
structure Flt where
 err:Nat
 pos:Nat
structure Wd where
 kind:Nat
 pos:Nat
 spelt:L8
 said:L8
 num:Nat
def lineLen (l:L8):Nat:=if Lib.indexByte l 10 < 0 then l.length else (Lib.indexByte l 10).toNat+1
theorem Qhm(l:L8)(c:UInt8):Lib.indexByte l c<l.length:=by
 induction l with
 |nil=>simp[Lib.indexByte]
 |cons b l ih=>
  unfold Lib.indexByte;rw[List.length_cons];split
  ·omega
  ·split<;>omega
theorem Qkr(l aa:L8):Lib.index l aa<0\/Lib.index l aa+aa.length<=l.length:=by
 induction l with
 |nil=>
  unfold Lib.index
  cases aa with
  |nil=>right;decide
  |cons a t=>left;simp
 |cons b l ih=>
  unfold Lib.index;split
  ·rename_i h;right;have:=(List.isPrefixOf_iff_prefix.1 h).length_le;simp at this ⊢;omega
  ·split
   ·left;decide
   ·have:=Lib.index_ge l aa;rename_i h1 h2;have h3:¬ Lib.index l aa = -1:=by simpa using h2
    simp;omega
theorem QjQ(l:L8):lineLen l<=l.length:=by
 have:=Qhm l 10;unfold lineLen;split<;>omega
theorem Qpl(c:UInt8)(l:L8):1<=lineLen (c::l):=by
 unfold lineLen;split
 ·simp
 ·omega
def Qcg:Nat→L8→Nat→Except Flt Nat
 | 0,_,p=>.ok p
 | _+1,[],p=>.ok p
 | f+1,c :: r,p=>
  if QbH c.toNat then Qcg f r (p+1)
  else if c.toNat=35 then Qcg f ((c :: r).drop (lineLen (c :: r))) (p+lineLen (c :: r))
  else if Lib.hasPrefix (c :: r) [47,42] then
   if Lib.index (r.drop 1) [42,47] < 0 then .error ⟨2,p⟩
   else Qcg f ((c :: r).drop (4+(Lib.index (r.drop 1) [42,47]).toNat)) (p+(4+(Lib.index (r.drop 1) [42,47]).toNat))
  else .ok p
def QcX (k:Nat) (rest:L8) (p n:Nat):Wd×Nat:=(⟨k,p,zL (rest.take n),[],0⟩,p+n)
def Qcd (l:L8):Nat:=(l.takeWhile fun c=>QaL c.toNat).length
def QfM (v:Nat) (c:UInt8):Nat:=min (v*10+(c.toNat - 48)) 2147483648
def QmL (l:L8):Nat:=(l.takeWhile fun c=>QaL c.toNat).foldl QfM 0
def isM (c:UInt8):Bool:=c.toNat == 77 || c.toNat == 109
def isK (c:UInt8):Bool:=c.toNat == 75 || c.toNat == 107
def sNL (rest:L8) (p:Nat):Except Flt (Wd×Nat):=
 let n:=Qcd rest
 let v:=QmL rest
 let c:=rest.getD n 0
 let v':=if isM c then v*1048576 else if isK c then v*1024 else v
 let n':=if isM c || isK c then n+1 else n
 if QbO (rest.getD n' 0) then .error ⟨2,p⟩
 else if 2147483647 < v' then .error ⟨3,p⟩
 else .ok (⟨4,p,[],[],v'⟩,p+n')
def qL:L8→Option (L8×Nat)
 | []=>none
 | c :: r=>
  if c.toNat=34 then some ([],1)
  else if c.toNat=92 then
   match r with
   | []=>none
   | d :: r'=>(qL r').map fun x=>(d :: x.1,x.2+2)
  else (qL r).map fun x=>(c :: x.1,x.2+1)
def quoteR (r:L8) (p:Nat):Except Flt (Wd×Nat):=
 match qL r with
 | none=>.error ⟨2,p⟩
 | some x=>.ok (⟨5,p,[],x.1,0⟩,p+(1+x.2))
def Qkk (c:UInt8):Bool:=decide (0≤Lib.indexByte [59,44,40,41,123,125,91,93] c)
def Qct (rest:L8) (p:Nat):Except Flt (Wd×Nat):=
 match rest with
 | []=>.ok (⟨0,p,[],[],0⟩,p)
 | c :: r=>
  if Qbt c.toNat then .ok (QcX 1 (c :: r) p (Qa0 (c :: r)))
  else if c.toNat=58 then
   if Qa0 r=0 then .error ⟨2,p⟩ else .ok (QcX 2 (c :: r) p (1+Qa0 r))
  else if QaL c.toNat then sNL (c :: r) p
  else if c.toNat=34 then quoteR r p
  else if Qkk c then .ok (QcX 3 (c :: r) p 1)
  else .error ⟨2,p⟩
def nL (l:L8) (p:Nat):Except Flt (Wd×Nat):=
 match Qcg (l.length+1) (l.drop p) p with
 | .error f=>.error f
 | .ok n=>Qct (l.drop n) n
theorem QdE(l:L8):∀(f p n:Nat),p<=l.length->Qcg f (l.drop p) p=.ok n->p<=n/\n<=l.length
 |0,p,n,hp,h=>by
  simp only[Qcg]at h;cases h;exact⟨Nat.le_refl _,hp⟩
 |f+1,p,n,hp,h=>by
  by_cases hlt:p<l.length
  ·rw[List.drop_eq_getElem_cons hlt]at h;simp only[Qcg]at h
   split at h
   ·have:=QdE l f (p+1) n (by omega) h;omega
   ·rw[<-List.drop_eq_getElem_cons hlt]at h
    split at h
    ·rw[List.drop_drop]at h;have h1:=QjQ (l.drop p);rw[List.length_drop]at h1;have:=QdE l f _ n (by omega) h;omega
    ·split at h
     ·split at h
      ·cases h
      ·rename_i hp2 hi;have e:List.drop 1 (List.drop (p+1) l)=List.drop (p+1+1) l:=by rw[List.drop_drop]
       rw[e]at h hi;rw[List.drop_drop]at h;have h1:=Qkr (l.drop (p+1+1)) [42,47];rw[List.length_drop]at h1
       have h2:2<=(l.drop p).length:=by
        have:=(List.isPrefixOf_iff_prefix.1 hp2).length_le;simpa using this
       rw[List.length_drop]at h2
       have h3:Lib.index (l.drop (p+1+1)) [42,47]+2<=(l.length - (p+1+1):Nat):=by
        rcases h1 with h1|h1
        ·exact absurd h1 hi
        ·simpa using h1
       have:=QdE l f _ n (by omega) h;omega
     ·cases h;exact⟨Nat.le_refl _,hp⟩
  ·rw[List.drop_of_length_le (by omega)]at h;simp only[Qcg]at h;cases h;exact⟨Nat.le_refl _,hp⟩
theorem Qgu:∀(r:L8) (x:L8×Nat),qL r=some x->1<=x.2/\x.2<=r.length
 | [],x,h=>by cases h
 |c::r,x,h=>by
  rw[qL.eq_def]at h;dsimp only at h
  split at h
  ·cases h;simp
  ·split at h
   ·cases r with
    |nil=>cases h
    |cons d r'=>
     dsimp only at h
     cases hq:qL r' with
     |none=>rw[hq]at h;cases h
     |some y=>
      have:=Qgu r' y hq;rw[hq]at h;cases h;simp;omega
   ·cases hq:qL r with
    |none=>rw[hq]at h;cases h
    |some y=>
     have:=Qgu r y hq;rw[hq]at h;cases h;simp;omega
theorem QdV:∀(r:L8) (x:L8×Nat),qL r=some x->x.1.length<x.2
 | [],x,h=>by cases h
 |c::r,x,h=>by
  rw[qL.eq_def]at h;dsimp only at h
  split at h
  ·cases h;simp
  ·split at h
   ·cases r with
    |nil=>cases h
    |cons d r'=>
     dsimp only at h
     cases hq:qL r' with
     |none=>rw[hq]at h;cases h
     |some y=>
      have:=QdV r' y hq;rw[hq]at h;cases h;simp;omega
   ·cases hq:qL r with
    |none=>rw[hq]at h;cases h
    |some y=>
     have:=QdV r y hq;rw[hq]at h;cases h;simp;omega
theorem Qq7(l:L8):Qcd l<=l.length:=by
 unfold Qcd;exact(List.takeWhile_prefix _).length_le
theorem QiX(l:L8)(n:Nat)(h:l.length<=n):l.getD n 0=0:=by
 rw[List.getD_eq_getElem?_getD,List.getElem?_eq_none h];rfl
theorem QpQ(l:L8)(p:Nat)(hp:p<=l.length)(x:Wd×Nat)(h:Qct (l.drop p) p=.ok x) :
 x.1.pos=p/\x.2<=l.length/\p<=x.2/\(x.1.kind=0->p=l.length/\x.1.spelt=[])/\(x.1.kind≠0->p<x.2):=by
 by_cases hlt:p<l.length
 ·obtain⟨c,r,ac,hrl⟩:∃ c r,l.drop p=c::r/\r.length=l.length - (p+1):=⟨_,_,List.drop_eq_getElem_cons hlt,by simp⟩;rw[ac]at h;clear ac;unfold Qct at h;dsimp only at h;have hn:=Qdj (c::r);have ad:=Qdj r;simp only[List.length_cons]at hn ad
  split at h
  ·rename_i hl
   have hpos:1<=Qa0 (c::r):=by
    simp only[Qa0];rw[if_pos hl];omega
   cases h;simp[QcX];omega
  ·split at h
   ·split at h
    ·cases h
    ·cases h;simp[QcX];omega
   ·split at h
    ·rename_i hg;have hd:=Qq7 (c::r)
     have hd1:1<=Qcd (c::r):=by
      simp[Qcd,hg]
     simp only[List.length_cons]at hd
     obtain⟨n',v',ab,he⟩:∃ n' v':Nat,n'=(if isM ((c::r).getD (Qcd (c::r)) 0) || isK ((c::r).getD (Qcd (c::r)) 0)then Qcd (c::r)+1 else Qcd (c::r))/\
      sNL (c::r) p=if QbO ((c::r).getD n' 0)then .error ⟨2,p⟩else if 2147483647<v' then .error ⟨3,p⟩else .ok (⟨4,p,[],[],v'⟩,p+n'):=⟨_,_,rfl,rfl⟩
     rw[he]at h
     have hn2:n'<=l.length - p/\1<=n':=by
      by_cases hm:(isM ((c::r).getD (Qcd (c::r)) 0) || isK ((c::r).getD (Qcd (c::r)) 0))=true
      ·have aa:Qcd (c::r)<(c::r).length:=by
        apply Classical.byContradiction;intro hge;rw[QiX _ _ (by omega)]at hm;exact absurd hm (by decide)
       simp only[List.length_cons]at aa;rw[ab,if_pos hm];omega
      ·rw[ab,if_neg hm];omega
     split at h
     ·cases h
     ·split at h
      ·cases h
      ·cases h;simp;omega
    ·split at h
     ·unfold quoteR at h
      cases hq:qL r with
      |none=>rw[hq]at h;cases h
      |some y=>
       rw[hq]at h;have:=Qgu _ _ hq;cases h;simp;omega
     ·split at h
      ·cases h;simp[QcX];omega
      ·cases h
 ·have e:p=l.length:=by omega
  rw[List.drop_of_length_le (by omega)]at h;unfold Qct at h;dsimp only at h;cases h;simp;omega
theorem Qi3(l:L8)(p:Nat)(x:Wd×Nat)(h:Qct (l.drop p) p=.ok x):x.1.said.length<=l.length/\x.1.num<=2147483647:=by
 have hl:(l.drop p).length<=l.length:=by simp
 generalize l.drop p=r at h hl
 cases r with
 |nil=>unfold Qct at h;dsimp only at h;cases h;simp
 |cons c r=>
  unfold Qct at h;dsimp only at h
  split at h
  ·cases h;simp[QcX]
  ·split at h
   ·split at h
    ·cases h
    ·cases h;simp[QcX]
   ·split at h
    ·obtain⟨n',v',he⟩:∃ n' v':Nat,sNL (c::r) p=if QbO ((c::r).getD n' 0)then .error ⟨2,p⟩else if 2147483647<v' then .error ⟨3,p⟩else .ok (⟨4,p,[],[],v'⟩,p+n'):=⟨_,_,rfl⟩
     rw[he]at h
     split at h
     ·cases h
     ·split at h
      ·cases h
      ·cases h;simp;omega
    ·split at h
     ·unfold quoteR at h
      cases hq:qL r with
      |none=>rw[hq]at h;cases h
      |some y=>
       rw[hq]at h;have h1:=Qgu _ _ hq;have h2:=QdV _ _ hq;cases h;simp at hl ⊢;omega
     ·split at h
      ·cases h;simp[QcX]
      ·cases h
theorem QoJ(l:L8)(p:Nat)(x:Wd×Nat)(h:nL l p=.ok x):x.1.said.length<=l.length/\x.1.num<=2147483647:=by
 unfold nL at h
 cases hs:Qcg (l.length+1) (l.drop p) p with
 |error f=>rw[hs]at h;cases h
 |ok n=>rw[hs]at h;exact Qi3 l n x h
def QjX (sp:L8):Prop:=∀ c r,sp=c :: r→Qbt c.toNat=false
theorem QgE:∀(l:L8) (c:UInt8),0<=Lib.indexByte l c->c∈l
 | [],c,h=>by simp[Lib.indexByte]at h
 |b::l,c,h=>by
  unfold Lib.indexByte at h
  split at h
  ·rename_i hb;have:b=c:=by simpa using hb
   subst this;simp
  ·split at h
   ·exact absurd h (by decide)
   ·have h1:=Lib.indexByte_ge l c;rename_i h2;have h3:¬ Lib.indexByte l c = -1:=by simpa using h2
    have:=QgE l c (by omega);simp[this]
theorem Qlc(c:UInt8)(h:Qkk c=true):Qbt (Qgj c).toNat=false:=by
 have hm:=QgE _ _ (of_decide_eq_true h);simp at hm;rcases hm with h|h|h|h|h|h|h|h<;>subst h<;>decide
theorem Qm8(l:L8)(p:Nat)(x:Wd×Nat)(h:Qct (l.drop p) p=.ok x)(hk:¬ x.1.kind=1):QjX x.1.spelt:=by
 generalize l.drop p=r at h
 cases r with
 |nil=>unfold Qct at h;dsimp only at h;cases h;intro c r e;cases e
 |cons c r=>
  unfold Qct at h;dsimp only at h
  split at h
  ·cases h;exact absurd rfl hk
  ·split at h
   ·rename_i h58
    split at h
    ·cases h
    ·cases h;intro c' r' e;rw[show 1+Qa0 r=Qa0 r+1 from by omega]at e;simp[QcX,zL,List.take_succ_cons]at e;obtain⟨e,-⟩:=e;subst e;have:c=58:=UInt8.toNat_inj.1 h58;subst this;decide
   ·split at h
    ·obtain⟨n',v',he⟩:∃ n' v':Nat,sNL (c::r) p=if QbO ((c::r).getD n' 0)then .error ⟨2,p⟩else if 2147483647<v' then .error ⟨3,p⟩else .ok (⟨4,p,[],[],v'⟩,p+n'):=⟨_,_,rfl⟩
     rw[he]at h
     split at h
     ·cases h
     ·split at h
      ·cases h
      ·cases h;intro c r e;cases e
    ·split at h
     ·unfold quoteR at h
      cases hq:qL r with
      |none=>rw[hq]at h;cases h
      |some y=>rw[hq]at h;cases h;intro c r e;cases e
     ·split at h
      ·rename_i hs;cases h;intro c' r' e;simp[QcX,zL]at e;obtain⟨e,-⟩:=e;subst e;exact Qlc c hs
      ·cases h
theorem Qmi(l:L8)(p:Nat)(x:Wd×Nat)(h:nL l p=.ok x)(hk:¬ x.1.kind=1):QjX x.1.spelt:=by
 unfold nL at h
 cases hs:Qcg (l.length+1) (l.drop p) p with
 |error f=>rw[hs]at h;cases h
 |ok n=>rw[hs]at h;exact Qm8 l n x h hk
theorem QhZ(l:L8)(p:Nat)(hp:p<=l.length)(x:Wd×Nat)(h:nL l p=.ok x) :
 x.1.pos<=l.length/\x.2<=l.length/\p<=x.2/\(x.1.kind=0->x.1.spelt=[])/\(x.1.kind≠0->p<x.2):=by
 unfold nL at h
 cases hs:Qcg (l.length+1) (l.drop p) p with
 |error f=>rw[hs]at h;cases h
 |ok n=>
  rw[hs]at h;have h1:=QdE l _ p n hp hs;have h2:=QpQ l n h1.2 x h;refine⟨by omega,h2.2.1,by omega,fun hk=>(h2.2.2.2.1 hk).2,fun hk=>by have:=h2.2.2.2.2 hk;omega⟩
def wL:List (L8)→L8→Nat
 | [],_=>0
 | s :: r,x=>if s=x then 1 else if wL r x=0 then 0 else wL r x+1
def sA (x:L8):ByteArray:=⟨x.toArray⟩
theorem Qf8{x y:L8}(h:sA x=sA y):x=y:=by
 have:=congrArg (fun b:ByteArray=>b.data.toList) h;simpa[sA]using this
theorem Qf2(x:L8):∀(zs:List (L8)) (i:Nat),Lib.idxFromS (zs.map sA) (sA x) i=if wL zs x=0 then -1 else(i:Int)+wL zs x - 1
 | [],i=>rfl
 |s::r,i=>by
  rw[List.map_cons];unfold wL Lib.idxFromS;by_cases h:s=x
  ·subst h;simp
  ·have h':¬ sA s=sA x:=fun e=>h (Qf8 e)
   rw[if_neg h,if_neg h',Qf2 x r (i+1)];by_cases h0:wL r x=0
   ·simp[h0]
   ·simp[h0];omega
theorem Qm5(zs:List (L8))(x:L8):Lib.idxOfS (zs.map sA) (sA x)+1=wL zs x:=by
 unfold Lib.idxOfS;rw[Qf2];split<;>omega
theorem Qju(zs:List (L8))(x:L8):Lib.containsS (zs.map sA) (sA x)=decide (0<wL zs x):=by
 unfold Lib.containsS;have:=Qm5 zs x;by_cases h:0<wL zs x
 ·simp[h];omega
 ·simp[h];omega
theorem QbC(zs:List (L8))(x:L8):wL zs x<=zs.length:=by
 induction zs with
 |nil=>simp[wL]
 |cons s r ih=>
  unfold wL;split
  ·simp
  ·split<;>simp<;>omega
abbrev PS:=Wd×Nat
def mayL (l:L8) (zs:List (L8)) (s:PS):Except Flt (Nat×PS):=
 if wL zs s.1.spelt=0 then .ok (0,s) else
 match nL l s.2 with
 | .error f=>.error f
 | .ok s'=>.ok (wL zs s.1.spelt,s')
def paL (l:L8) (zs:List (L8)) (s:PS):Except Flt (Nat×PS):=
 if wL zs s.1.spelt=0 then .error ⟨4,s.1.pos⟩ else
 match nL l s.2 with
 | .error f=>.error f
 | .ok s'=>.ok (wL zs s.1.spelt,s')
def sL (l:L8) (chk:L8→Nat) (s:PS):Except Flt (L8×PS):=
 if s.1.kind=5 then
  if chk s.1.said=0 then
   match nL l s.2 with
   | .error f=>.error f
   | .ok s'=>.ok (s.1.said,s')
  else .error ⟨chk s.1.said,s.1.pos⟩
 else .error ⟨4,s.1.pos⟩
def mu (n:Nat) (s:PS):Nat:=2*(n - s.2)+(if s.1.kind=0 then 0 else 1)
theorem Qeb{l:L8}{s y:PS}(hp:s.2<=l.length)(hk:¬ s.1.kind=0)(h:nL l s.2=.ok y):mu l.length y<mu l.length s:=by
 obtain⟨h1,h2,h3,h4,h5⟩:=QhZ l s.2 hp y h;unfold mu;rw[if_neg hk];by_cases h0:y.1.kind=0
 ·rw[if_pos h0];omega
 ·have:=h5 h0;rw[if_neg h0];omega
theorem QdP(zs:List (L8))(h:∀ z∈zs,z≠[]):wL zs []=0:=by
 induction zs with
 |nil=>rfl
 |cons a r ih=>
  unfold wL;rw[if_neg (h a (by simp)),if_pos (ih fun z hz=>h z (by simp[hz]))]
theorem QhQ{l:L8}{zs:List (L8)}{s:PS}{y:Nat×PS}(hp:s.2<=l.length)(he:s.1.kind=0->s.1.spelt=[])(hz:∀ z∈zs,z≠[])(h:paL l zs s=.ok y):mu l.length y.2<mu l.length s/\y.1=wL zs s.1.spelt/\¬ y.1=0:=by
 unfold paL at h
 split at h
 ·cases h
 ·rename_i h0;have hk:¬ s.1.kind=0:=fun e=>h0 (by rw[he e];exact QdP zs hz)
  cases hn:nL l s.2 with
  |error f=>rw[hn]at h;cases h
  |ok s'=>rw[hn]at h;cases h;exact⟨Qeb hp hk hn,rfl,h0⟩
theorem Qik{l:L8}{zs:List (L8)}{s:PS}{y:Nat×PS}(hp:s.2<=l.length)(he:s.1.kind=0->s.1.spelt=[])(hz:∀ z∈zs,z≠[])(h:mayL l zs s=.ok y):mu l.length y.2<=mu l.length s/\(¬ y.1=0->mu l.length y.2<mu l.length s)/\y.1=wL zs s.1.spelt/\(y.1=0->y.2=s):=by
 unfold mayL at h
 split at h
 ·rename_i h0;cases h;exact⟨Nat.le_refl _,fun h=>absurd rfl h,h0.symm,fun _=>rfl⟩
 ·rename_i h0;have hk:¬ s.1.kind=0:=fun e=>h0 (by rw[he e];exact QdP zs hz)
  cases hn:nL l s.2 with
  |error f=>rw[hn]at h;cases h
  |ok s'=>
   rw[hn]at h;cases h;exact⟨Nat.le_of_lt (Qeb hp hk hn),fun _=>Qeb hp hk hn,rfl,fun e=>absurd e h0⟩
theorem QdJ{l:L8}{chk:L8->Nat}{s:PS}{y:L8×PS}(hp:s.2<=l.length)(h:sL l chk s=.ok y):mu l.length y.2<mu l.length s/\y.1=s.1.said:=by
 unfold sL at h
 split at h
 ·rename_i hk
  split at h
  ·cases hn:nL l s.2 with
   |error f=>rw[hn]at h;cases h
   |ok s'=>rw[hn]at h;cases h;exact⟨Qeb hp (by omega) hn,rfl⟩
  ·cases h
 ·cases h
def moreL (l:L8) (chk:L8→Nat):Nat→List (L8)→PS→Except Flt (List (L8)×PS)
 | 0,acc,s=>.ok (acc,s)
 | f+1,acc,s=>
  match paL l [[44],[93]] s with
  | .error e=>.error e
  | .ok y=>
   if y.1=1 then
    match sL l chk y.2 with
    | .error e=>.error e
    | .ok z=>moreL l chk f (acc++[z.1]) z.2
   else .ok (acc,y.2)
def sLs (l:L8) (chk:L8→Nat) (fuel:Nat) (s:PS):Except Flt (List (L8)×PS):=
 match mayL l [[91]] s with
 | .error e=>.error e
 | .ok y=>
  match sL l chk y.2 with
  | .error e=>.error e
  | .ok z=>if y.1=0 then .ok ([z.1],z.2) else moreL l chk fuel [z.1] z.2
def QfJ:L8:=[107,101,101,112]
def QbV:L8:=[100,105,115,99,97,114,100]
def QfP:L8:=[115,116,111,112]
def QaN:L8:=[102,105,108,101,105,110,116,111]
def Qbc:L8:=[114,101,100,105,114,101,99,116]
def Qa5:L8:=[114,101,106,101,99,116]
def QhO:L8:=[115,101,116]
def kIf:L8:=[105,102]
def Qfz:L8:=[116,114,117,101]
def Qdt:L8:=[102,97,108,115,101]
def kNot:L8:=[110,111,116]
def QcC:L8:=[97,108,108,111,102]
def QcL:L8:=[97,110,121,111,102]
def QbM:L8:=[104,101,97,100,101,114]
def QaG:L8:=[101,110,118,101,108,111,112,101]
def Qbl:L8:=[115,116,114,105,110,103]
def Qby:L8:=[101,120,105,115,116,115]
def QdU:L8:=[115,105,122,101]
def QdF:L8:=[101,108,115,105,102]
def QgJ:L8:=[101,108,115,101]
def Qdg:L8:=[114,101,113,117,105,114,101]
def Qbm:L8:=[118,97,114,105,97,98,108,101,115]
def Qh8:L8:=[102,114,111,109]
def kTo:L8:=[116,111]
def Qdc:L8:=[58,108,111,119,101,114]
def Qc9:L8:=[58,117,112,112,101,114]
def Qch:L8:=[58,108,101,110,103,116,104]
def tIs:L8:=[58,105,115]
def Qax:L8:=[58,99,111,110,116,97,105,110,115]
def QaM:L8:=[58,109,97,116,99,104,101,115]
def QfE:L8:=[58,111,118,101,114]
def Qdl:L8:=[58,117,110,100,101,114]
def QaJ:L8:=[58,99,111,109,112,97,114,97,116,111,114]
def Qc2:L8:=[105,59,111,99,116,101,116]
def QdC:L8:=[105,59,97,115,99,105,105,45,99,97,115,101,109,97,112]
def cNs:List (L8):=[QfJ,QbV,QfP,QaN,Qbc,Qa5,QhO,kIf]
def tNs:List (L8):=[Qfz,Qdt,kNot,QcC,QcL,QbM,QaG,Qbl,Qby,QdU]
structure Qec where
 kind:Nat
 pos:Nat
 tag:Nat
 octet:Bool
 fr:List (L8)
 keys:List (L8)
 num:Nat
def QdG:Nat→Type
 | 0=>Unit
 | n+1=>Qec×List (QdG n)
structure Qjl where
 kind:Nat
 pos:Nat
 tag:Nat
 arg:L8
 var:L8
 els:Bool
def QdT:Nat→Type
 | 0=>Unit
 | n+1=>Qjl×List (QdG n×List (QdT n))×List (QdT n)
def Qcu (req:List (L8)) (sp:L8):Bool:=
 if sp=QaN∨sp=Qa5∨sp=QaG then decide (0 < wL req sp)
 else if sp=QhO∨sp=Qbl then decide (0 < wL req Qbm)
 else true
def QaX {α β:Type} (r:Except Flt (α×PS)) (k:α→PS→Except Flt (β×PS)):Except Flt (β×PS):=
 match r with
 | .error f=>.error f
 | .ok y=>k y.1 y.2
def Qcb {β:Type} (l:L8) (s:PS) (k:PS→Except Flt (β×PS)):Except Flt (β×PS):=
 match nL l s.2 with
 | .error f=>.error f
 | .ok y=>k y
theorem Qae{α β:Type}{r:Except Flt (α×PS)}{k:α->PS->Except Flt (β×PS)}{f:Flt}(h:r=.error f):QaX r k=.error f:=by subst h;rfl
theorem Qad{α β:Type}{r:Except Flt (α×PS)}{k:α->PS->Except Flt (β×PS)}{y:α×PS}(h:r=.ok y):QaX r k=k y.1 y.2:=by subst h;rfl
theorem Qa3{β:Type}{l:L8}{s:PS}{k:PS->Except Flt (β×PS)}{f:Flt}(h:nL l s.2=.error f):Qcb l s k=.error f:=by unfold Qcb;rw[h]
theorem Qa2{β:Type}{l:L8}{s y:PS}{k:PS->Except Flt (β×PS)}(h:nL l s.2=.ok y):Qcb l s k=k y:=by unfold Qcb;rw[h]
def Qfi (l:L8):Nat→Nat→Bool→Bool→PS→Except Flt ((Nat×Bool)×PS)
 | 0,tag,oct,_,s=>.ok ((tag,oct),s)
 | f+1,tag,oct,cmp,s=>
  if wL [tIs,Qax,QaM] s.1.spelt=0 then
   if wL [QaJ] s.1.spelt=0 then .ok ((max tag 1,oct),s)
   else if cmp then .error ⟨7,s.1.pos⟩
   else Qcb l s fun s1=>QaX (sL l (fun x=>if 0 < wL [Qc2,QdC] x then 0 else 7) s1) fun x s2=>Qfi l f tag (decide (x=Qc2)) true s2
  else if tag=0 then Qcb l s fun s1=>Qfi l f (wL [tIs,Qax,QaM] s.1.spelt) oct cmp s1
  else .error ⟨7,s.1.pos⟩
def QbQ (l:L8) (F:Nat) (chk:L8→Nat) (k pos:Nat) (s:PS):Except Flt (Qec×PS):=
 QaX (Qfi l F 0 false false s) fun o s1=>QaX (sLs l chk F s1) fun fr s2=>QaX (sLs l (fun _=>0) F s2) fun ks s3=>
  .ok (⟨k,pos,o.1,o.2,fr,ks,0⟩,s3)
def gMr {α:Type} (l:L8) (sub:PS→Except Flt (α×PS)):Nat→List α→PS→Except Flt (List α×PS)
 | 0,acc,s=>.ok (acc,s)
 | f+1,acc,s=>QaX (paL l [[44],[41]] s) fun i s1=>
  if i=1 then QaX (sub s1) fun t s2=>gMr l sub f (acc++[t]) s2 else .ok (acc,s1)
def QcQ {α:Type} (l:L8) (F:Nat) (sub:PS→Except Flt (α×PS)) (s:PS):Except Flt (List α×PS):=
 QaX (paL l [[40]] s) fun _ s1=>QaX (sub s1) fun t s2=>gMr l sub F [t] s2
def sizeL (l:L8) (pos:Nat) (s:PS):Except Flt (Qec×PS):=
 QaX (paL l [QfE,Qdl] s) fun i s1=>
  if s1.1.kind=4 then Qcb l s1 fun s2=>.ok (⟨9,pos,i,false,[],[],s1.1.num⟩,s2) else .error ⟨4,s1.1.pos⟩
def tBd {α:Type} (l:L8) (F:Nat) (sub:PS→Except Flt (α×PS)) (k pos:Nat) (s:PS):Except Flt ((Qec×List α)×PS):=
 match k with
 | 0=>.ok ((⟨0,pos,0,false,[],[],0⟩,[]),s)
 | 1=>.ok ((⟨1,pos,0,false,[],[],0⟩,[]),s)
 | 2=>QaX (sub s) fun t s1=>.ok ((⟨2,pos,0,false,[],[],0⟩,[t]),s1)
 | 3=>QaX (QcQ l F sub s) fun ts s1=>.ok ((⟨3,pos,0,false,[],[],0⟩,ts),s1)
 | 4=>QaX (QcQ l F sub s) fun ts s1=>.ok ((⟨4,pos,0,false,[],[],0⟩,ts),s1)
 | 5=>QaX (QbQ l F (fun _=>0) 5 pos s) fun x s1=>.ok ((x,[]),s1)
 | 6=>QaX (QbQ l F (fun x=>if 0 < wL [Qh8,kTo] (zL x) then 0 else 7) 6 pos s) fun x s1=>.ok ((x,[]),s1)
 | 7=>QaX (QbQ l F (fun _=>0) 7 pos s) fun x s1=>.ok ((x,[]),s1)
 | 8=>QaX (sLs l (fun _=>0) F s) fun xs s1=>.ok ((⟨8,pos,0,false,xs,[],0⟩,[]),s1)
 | _=>QaX (sizeL l pos s) fun x s1=>.ok ((x,[]),s1)
def QbP (l:L8) (req:List (L8)) (F:Nat):(n:Nat)→PS→Except Flt (QdG n×PS)
 | 0,s=>if s.1.kind=1 then .error ⟨5,s.1.pos⟩ else .error ⟨4,s.1.pos⟩
 | n+1,s=>
  if wL tNs s.1.spelt=0 then .error ⟨4,s.1.pos⟩
  else if Qcu req s.1.spelt then Qcb l s fun s1=>tBd l F (QbP l req F n) (wL tNs s.1.spelt - 1) s.1.pos s1
  else .error ⟨6,s.1.pos⟩
def bMr {α:Type} (l:L8) (sub:PS→Except Flt (α×PS)):Nat→List α→PS→Except Flt (List α×PS)
 | 0,acc,s=>.ok (acc,s)
 | f+1,acc,s=>QaX (mayL l [[125]] s) fun i s1=>
  if i=0 then QaX (sub s1) fun c s2=>bMr l sub f (acc++[c]) s2 else .ok (acc,s1)
def blockL {α:Type} (l:L8) (F:Nat) (sub:PS→Except Flt (α×PS)) (s:PS):Except Flt (List α×PS):=
 QaX (paL l [[123]] s) fun _ s1=>bMr l sub F [] s1
def armL {α β:Type} (l:L8) (F:Nat) (tst:PS→Except Flt (β×PS)) (sub:PS→Except Flt (α×PS)) (s:PS):Except Flt ((β×List α)×PS):=
 QaX (tst s) fun t s1=>QaX (blockL l F sub s1) fun cs s2=>.ok ((t,cs),s2)
def aMr {α β:Type} (l:L8) (F:Nat) (tst:PS→Except Flt (β×PS)) (sub:PS→Except Flt (α×PS)):Nat→List (β×List α)→PS→Except Flt (List (β×List α)×PS)
 | 0,acc,s=>.ok (acc,s)
 | f+1,acc,s=>QaX (mayL l [QdF] s) fun i s1=>
  if i=0 then .ok (acc,s1) else QaX (armL l F tst sub s1) fun a s2=>aMr l F tst sub f (acc++[a]) s2
def semi {α:Type} (l:L8) (s:PS) (a:α):Except Flt (α×PS):=QaX (paL l [[59]] s) fun _ s1=>.ok (a,s1)
def cBd {α β:Type} (l:L8) (F:Nat) (tst:PS→Except Flt (β×PS)) (sub:PS→Except Flt (α×PS)) (k pos:Nat) (s:PS):Except Flt ((Qjl×List (β×List α)×List α)×PS):=
 match k with
 | 0=>semi l s (⟨0,pos,0,[],[],false⟩,[],[])
 | 1=>semi l s (⟨1,pos,0,[],[],false⟩,[],[])
 | 2=>semi l s (⟨2,pos,0,[],[],false⟩,[],[])
 | 3=>QaX (sL l (fun _=>0) s) fun x s1=>semi l s1 (⟨3,pos,0,x,[],false⟩,[],[])
 | 4=>QaX (sL l (fun _=>0) s) fun x s1=>semi l s1 (⟨4,pos,0,x,[],false⟩,[],[])
 | 5=>QaX (sL l (fun _=>0) s) fun x s1=>semi l s1 (⟨5,pos,0,x,[],false⟩,[],[])
 | 6=>QaX (mayL l [Qdc,Qc9,Qch] s) fun tag s1=>QaX (sL l (fun x=>if isNameL x then 0 else 7) s1) fun v s2=>
  QaX (sL l (fun _=>0) s2) fun x s3=>semi l s3 (⟨6,pos,tag,x,zL v,false⟩,[],[])
 | _=>QaX (armL l F tst sub s) fun a s1=>QaX (aMr l F tst sub F [a] s1) fun arms s2=>QaX (mayL l [QgJ] s2) fun i s3=>
  if i=0 then .ok ((⟨7,pos,0,[],[],false⟩,arms,[]),s3)
  else QaX (blockL l F sub s3) fun cs s4=>.ok ((⟨7,pos,0,[],[],true⟩,arms,cs),s4)
def cmdL (l:L8) (req:List (L8)) (F:Nat):(n:Nat)→PS→Except Flt (QdT n×PS)
 | 0,s=>if s.1.kind=1 then .error ⟨5,s.1.pos⟩ else .error ⟨4,s.1.pos⟩
 | n+1,s=>
  if wL cNs s.1.spelt=0 then .error ⟨4,s.1.pos⟩
  else if Qcu req s.1.spelt then Qcb l s fun s1=>cBd l F (QbP l req F n) (cmdL l req F n) (wL cNs s.1.spelt - 1) s.1.pos s1
  else .error ⟨6,s.1.pos⟩
def Qb6 (req:List (L8)) (x:L8):List (L8):=if 0 < wL req x then req else req++[x]
def reqMore (l:L8) (F:Nat):Nat→List (L8)→PS→Except Flt (List (L8)×PS)
 | 0,req,s=>.ok (req,s)
 | f+1,req,s=>QaX (mayL l [Qdg] s) fun i s1=>
  if i=0 then .ok (req,s1)
  else QaX (sLs l (fun x=>if 0 < wL [QaG,QaN,Qa5,Qbm] x then 0 else 6) F s1) fun xs s2=>
   QaX (paL l [[59]] s2) fun _ s3=>reqMore l F f (xs.foldl Qb6 req) s3
def cMr {α:Type} (sub:PS→Except Flt (α×PS)):Nat→List α→PS→Except Flt (List α)
 | 0,acc,_=>.ok acc
 | f+1,acc,s=>if s.1.kind=0 then .ok acc else
  match sub s with
  | .error e=>.error e
  | .ok y=>cMr sub f (acc++[y.1]) y.2
def prL (l:L8):Except Flt (List (L8)×List (QdT 7)):=
 let F:=2*l.length+10
 match nL l 0 with
 | .error f=>.error f
 | .ok s=>
  match reqMore l F F [] s with
  | .error f=>.error f
  | .ok y=>
   match cMr (cmdL l y.1 F 7) F [] y.2 with
   | .error f=>.error f
   | .ok cs=>.ok (y.1,cs)
def Gd (l:L8) (s:PS):Prop:=s.2≤l.length∧(s.1.kind=0→s.1.spelt=[])
def Dn {α:Type} (c:Nat) (l:L8) (r:Except Flt (α×PS)) (s:PS):Prop:=∀ y,r=.ok y→Gd l y.2∧mu l.length y.2+c≤mu l.length s
theorem Dn.err{α:Type}{c:Nat}{l:L8}{f:Flt}{s:PS}:Dn c l (.error f:Except Flt (α×PS)) s:=fun y h=>by cases h
theorem Dn.ok{α:Type}{l:L8}{a:α}{s:PS}(h:Gd l s):Dn 0 l (.ok (a,s):Except Flt (α×PS)) s:=fun y e=>by cases e;exact⟨h,Nat.le_refl _⟩
theorem Dn.weak{α:Type}{c c':Nat}{l:L8}{r:Except Flt (α×PS)}{s:PS}(h:Dn c l r s)(hc:c'<=c):Dn c' l r s:=fun y e=>⟨(h y e).1,by have:=(h y e).2;omega⟩
theorem Dn.andThen{α β:Type}{c c':Nat}{l:L8}{r:Except Flt (α×PS)}{k:α->PS->Except Flt (β×PS)}{s:PS}(h:Dn c l r s)(hk:∀ a s1,Gd l s1->Dn c' l (k a s1) s1):Dn (c+c') l (QaX r k) s:=fun y e=>by
 cases hr:r with
 |error f=>rw[Qae hr]at e;cases e
 |ok z=>
  rw[Qad hr]at e;obtain⟨h1,h2⟩:=h z hr;obtain⟨h3,h4⟩:=hk z.1 z.2 h1 y e;exact⟨h3,by omega⟩
theorem Qlg{l:L8}{s y:PS}(h:Gd l s)(hn:nL l s.2=.ok y):Gd l y:=by
 obtain⟨h1,h2,h3,h4,h5⟩:=QhZ l s.2 h.1 y hn;exact⟨h2,h4⟩
theorem Dn.next{β:Type}{c:Nat}{l:L8}{k:PS->Except Flt (β×PS)}{s:PS}(h:Gd l s)(hz:¬ s.1.kind=0)(hk:∀ s1,Gd l s1->Dn c l (k s1) s1):Dn (c+1) l (Qcb l s k) s:=fun y e=>by
 cases hr:nL l s.2 with
 |error f=>rw[Qa3 hr]at e;cases e
 |ok z=>
  rw[Qa2 hr]at e;have h1:=Qeb h.1 hz hr;obtain⟨h3,h4⟩:=hk z (Qlg h hr) y e;exact⟨h3,by omega⟩
theorem QfA{l:L8}{zs:List (L8)}{s:PS}(h:Gd l s)(hz:∀ z∈zs,z≠[]):Dn 1 l (paL l zs s) s:=fun y e=>by
 refine⟨?_,(QhQ h.1 h.2 hz e).1⟩;unfold paL at e
 split at e
 ·cases e
 ·cases hn:nL l s.2 with
  |error f=>rw[hn]at e;cases e
  |ok s'=>rw[hn]at e;cases e;exact Qlg h hn
theorem Qkl{l:L8}{zs:List (L8)}{s:PS}(h:Gd l s)(hz:∀ z∈zs,z≠[]):Dn 0 l (mayL l zs s) s:=fun y e=>by
 refine⟨?_,(Qik h.1 h.2 hz e).1⟩;unfold mayL at e
 split at e
 ·cases e;exact h
 ·cases hn:nL l s.2 with
  |error f=>rw[hn]at e;cases e
  |ok s'=>rw[hn]at e;cases e;exact Qlg h hn
theorem Qck{l:L8}{chk:L8->Nat}{s:PS}(h:Gd l s):Dn 1 l (sL l chk s) s:=fun y e=>by
 refine⟨?_,(QdJ h.1 e).1⟩;unfold sL at e
 split at e
 ·split at e
  ·cases hn:nL l s.2 with
   |error f=>rw[hn]at e;cases e
   |ok s'=>rw[hn]at e;cases e;exact Qlg h hn
  ·cases e
 ·cases e
theorem QsJ{l:L8}{chk:L8->Nat}:∀(f:Nat) (aa:List (L8)) (s:PS),Gd l s->Dn 0 l (moreL l chk f aa s) s
 |0,aa,s,h=>Dn.ok h
 |f+1,aa,s,h=>fun y e=>by
  rw[moreL]at e
  cases hp:paL l [[44],[93]] s with
  |error g=>rw[hp]at e;cases e
  |ok z=>
   rw[hp]at e;obtain⟨h1,h2⟩:=QfA (zs:=[[44],[93]]) h (by decide) z hp;dsimp only at e
   split at e
   ·cases hs:sL l chk z.2 with
    |error g=>rw[hs]at e;cases e
    |ok x=>
     rw[hs]at e;obtain⟨h3,h4⟩:=Qck h1 x hs;obtain⟨h5,h6⟩:=QsJ f _ x.2 h3 y e;exact⟨h5,by omega⟩
   ·cases e;exact⟨h1,by dsimp only;omega⟩
theorem QgY{l:L8}{chk:L8->Nat}{F:Nat}{s:PS}(h:Gd l s):Dn 1 l (sLs l chk F s) s:=fun y e=>by
 unfold sLs at e
 cases hm:mayL l [[91]] s with
 |error g=>rw[hm]at e;cases e
 |ok z=>
  rw[hm]at e;obtain⟨h1,h2⟩:=Qkl (zs:=[[91]]) h (by decide) z hm;dsimp only at e
  cases hs:sL l chk z.2 with
  |error g=>rw[hs]at e;cases e
  |ok x=>
   rw[hs]at e;obtain⟨h3,h4⟩:=Qck h1 x hs;dsimp only at e
   split at e
   ·cases e;exact⟨h3,by dsimp only;omega⟩
   ·obtain⟨h5,h6⟩:=QsJ F _ x.2 h3 y e;exact⟨h5,by omega⟩
theorem Qfd{l:L8}{zs:List (L8)}{s:PS}(h:Gd l s)(hz:∀ z∈zs,z≠[])(h0:¬ wL zs s.1.spelt=0):¬ s.1.kind=0:=fun e=>h0 (by rw[h.2 e];exact QdP zs hz)
theorem Qs4{l:L8}:∀(f tag:Nat) (oct aa:Bool) (s:PS),Gd l s->Dn 0 l (Qfi l f tag oct aa s) s
 |0,tag,oct,aa,s,h=>Dn.ok h
 |f+1,tag,oct,aa,s,h=>by
  rw[Qfi];by_cases h1:wL [tIs,Qax,QaM] s.1.spelt=0
  ·rw[if_pos h1];by_cases h2:wL [QaJ] s.1.spelt=0
   ·rw[if_pos h2];exact Dn.ok h
   ·rw[if_neg h2];cases aa
    ·rw[if_neg (by decide)];refine(Dn.next (c:=0) h (Qfd (zs:=[QaJ]) h (by decide) h2) fun s1 g1=>?_).weak (by omega);exact((Qck g1).andThen (c':=0) fun x s2 g2=>Qs4 f _ _ _ s2 g2).weak (by omega)
    ·rw[if_pos rfl];exact Dn.err
  ·rw[if_neg h1];by_cases ht:tag=0
   ·rw[if_pos ht];exact(Dn.next (c:=0) h (Qfd (zs:=[tIs,Qax,QaM]) h (by decide) h1) fun s1 g1=>Qs4 f _ _ _ s1 g1).weak (by omega)
   ·rw[if_neg ht];exact Dn.err
theorem Qlw{l:L8}{F:Nat}{chk:L8->Nat}{k aa:Nat}{s:PS}(h:Gd l s):Dn 0 l (QbQ l F chk k aa s) s:=by
 unfold QbQ;exact((Qs4 F 0 false false s h).andThen (c':=1) fun o s1 g1=>((QgY g1).andThen (c':=0) fun fr s2 g2=>((QgY g2).andThen (c':=0) fun ks s3 g3=>Dn.ok g3).weak (by omega)).weak (by omega)).weak (by omega)
theorem Qho{α:Type}{l:L8}{ab:PS->Except Flt (α×PS)}(hs:∀ s,Gd l s->Dn 1 l (ab s) s):∀(f:Nat) (aa:List α) (s:PS),Gd l s->Dn 0 l (gMr l ab f aa s) s
 |0,aa,s,h=>Dn.ok h
 |f+1,aa,s,h=>by
  rw[gMr];refine((QfA h (by decide)).andThen (c':=0) fun i s1 g1=>?_).weak (by omega);split
  ·exact((hs s1 g1).andThen (c':=0) fun t s2 g2=>Qho hs f _ s2 g2).weak (by omega)
  ·exact Dn.ok g1
theorem QpK{α:Type}{l:L8}{F:Nat}{aa:PS->Except Flt (α×PS)}(hs:∀ s,Gd l s->Dn 1 l (aa s) s){s:PS}(h:Gd l s):Dn 0 l (QcQ l F aa s) s:=by
 unfold QcQ;exact((QfA h (by decide)).andThen (c':=0) fun _ s1 g1=>((hs s1 g1).andThen (c':=0) fun t s2 g2=>Qho hs F _ s2 g2).weak (by omega)).weak (by omega)
theorem Qwo{l:L8}{aa:Nat}{s:PS}(h:Gd l s):Dn 0 l (sizeL l aa s) s:=by
 unfold sizeL;refine((QfA h (by decide)).andThen (c':=0) fun i s1 g1=>?_).weak (by omega);split
 ·rename_i hk;exact(Dn.next (c:=0) g1 (by omega) fun s2 g2=>Dn.ok g2).weak (by omega)
 ·exact Dn.err
theorem Qn8{α:Type}{l:L8}{F:Nat}{aa:PS->Except Flt (α×PS)}(hs:∀ s,Gd l s->Dn 1 l (aa s) s)(k ab:Nat){s:PS}(h:Gd l s):Dn 0 l (tBd l F aa k ab s) s:=by
 unfold tBd;split
 ·exact Dn.ok h
 ·exact Dn.ok h
 ·exact((hs s h).andThen (c':=0) fun _ _ g=>Dn.ok g).weak (by omega)
 ·exact((QpK hs h).andThen (c':=0) fun _ _ g=>Dn.ok g).weak (by omega)
 ·exact((QpK hs h).andThen (c':=0) fun _ _ g=>Dn.ok g).weak (by omega)
 ·exact((Qlw h).andThen (c':=0) fun _ _ g=>Dn.ok g).weak (by omega)
 ·exact((Qlw h).andThen (c':=0) fun _ _ g=>Dn.ok g).weak (by omega)
 ·exact((Qlw h).andThen (c':=0) fun _ _ g=>Dn.ok g).weak (by omega)
 ·exact((QgY h).andThen (c':=0) fun _ _ g=>Dn.ok g).weak (by omega)
 ·exact((Qwo h).andThen (c':=0) fun _ _ g=>Dn.ok g).weak (by omega)
theorem Qly{l:L8}{req:List (L8)}{F:Nat}:∀(n:Nat) (s:PS),Gd l s->Dn 1 l (QbP l req F n s) s
 |0,s,h=>by
  rw[QbP];split<;>exact Dn.err
 |n+1,s,h=>by
  rw[QbP];by_cases h0:wL tNs s.1.spelt=0
  ·rw[if_pos h0];exact Dn.err
  ·rw[if_neg h0];cases hu:Qcu req s.1.spelt
   ·rw[if_neg (by decide)];exact Dn.err
   ·rw[if_pos rfl];exact(Dn.next (c:=0) h (Qfd (zs:=tNs) h (by decide) h0) fun s1 g1=>Qn8 (fun s g=>Qly n s g) _ _ g1).weak (by omega)
theorem Qhl{α:Type}{l:L8}{ab:PS->Except Flt (α×PS)}(hs:∀ s,Gd l s->Dn 1 l (ab s) s):∀(f:Nat) (aa:List α) (s:PS),Gd l s->Dn 0 l (bMr l ab f aa s) s
 |0,aa,s,h=>Dn.ok h
 |f+1,aa,s,h=>by
  rw[bMr];refine((Qkl h (by decide)).andThen (c':=0) fun i s1 g1=>?_).weak (by omega);split
  ·exact((hs s1 g1).andThen (c':=0) fun t s2 g2=>Qhl hs f _ s2 g2).weak (by omega)
  ·exact Dn.ok g1
theorem QpX{α:Type}{l:L8}{F:Nat}{aa:PS->Except Flt (α×PS)}(hs:∀ s,Gd l s->Dn 1 l (aa s) s){s:PS}(h:Gd l s):Dn 1 l (blockL l F aa s) s:=by
 unfold blockL;exact(QfA h (by decide)).andThen (c':=0) fun _ s1 g1=>Qhl hs F _ s1 g1
theorem Qtg{α β:Type}{l:L8}{F:Nat}{ab:PS->Except Flt (β×PS)}{aa:PS->Except Flt (α×PS)}(ht:∀ s,Gd l s->Dn 1 l (ab s) s)(hs:∀ s,Gd l s->Dn 1 l (aa s) s){s:PS}(h:Gd l s):Dn 1 l (armL l F ab aa s) s:=by
 unfold armL;exact((ht s h).andThen (c':=0) fun t s1 g1=>((QpX hs g1).andThen (c':=0) fun cs s2 g2=>Dn.ok g2).weak (by omega))
theorem Qsy{α β:Type}{l:L8}{F:Nat}{ac:PS->Except Flt (β×PS)}{ab:PS->Except Flt (α×PS)}(ht:∀ s,Gd l s->Dn 1 l (ac s) s)(hs:∀ s,Gd l s->Dn 1 l (ab s) s):∀(f:Nat) (aa:List (β×List α)) (s:PS),Gd l s->Dn 0 l (aMr l F ac ab f aa s) s
 |0,aa,s,h=>Dn.ok h
 |f+1,aa,s,h=>by
  rw[aMr];refine((Qkl h (by decide)).andThen (c':=0) fun i s1 g1=>?_).weak (by omega);split
  ·exact Dn.ok g1
  ·exact((Qtg ht hs g1).andThen (c':=0) fun a s2 g2=>Qsy ht hs f _ s2 g2).weak (by omega)
theorem QfN{α:Type}{l:L8}{s:PS}{a:α}(h:Gd l s):Dn 0 l (semi l s a) s:=by
 unfold semi;exact((QfA h (by decide)).andThen (c':=0) fun _ s1 g1=>Dn.ok g1).weak (by omega)
theorem Qrx{α β:Type}{l:L8}{F:Nat}{ab:PS->Except Flt (β×PS)}{aa:PS->Except Flt (α×PS)}(ht:∀ s,Gd l s->Dn 1 l (ab s) s)(hs:∀ s,Gd l s->Dn 1 l (aa s) s)(k ac:Nat){s:PS}(h:Gd l s):Dn 0 l (cBd l F ab aa k ac s) s:=by
 unfold cBd;split
 ·exact QfN h
 ·exact QfN h
 ·exact QfN h
 ·exact((Qck h).andThen (c':=0) fun _ _ g=>QfN g).weak (by omega)
 ·exact((Qck h).andThen (c':=0) fun _ _ g=>QfN g).weak (by omega)
 ·exact((Qck h).andThen (c':=0) fun _ _ g=>QfN g).weak (by omega)
 ·exact((Qkl h (by decide)).andThen (c':=0) fun _ _ g1=>((Qck g1).andThen (c':=0) fun _ _ g2=>((Qck g2).andThen (c':=0) fun _ _ g3=>QfN g3).weak (by omega)).weak (by omega)).weak (by omega)
 ·refine((Qtg ht hs h).andThen (c':=0) fun a s1 g1=>((Qsy ht hs F _ s1 g1).andThen (c':=0) fun arms s2 g2=>((Qkl g2 (by decide)).andThen (c':=0) fun i s3 g3=>?_).weak (by omega)).weak (by omega)).weak (by omega);split
  ·exact Dn.ok g3
  ·exact((QpX hs g3).andThen (c':=0) fun _ _ g4=>Dn.ok g4).weak (by omega)
theorem Qt4{l:L8}{req:List (L8)}{F:Nat}:∀(n:Nat) (s:PS),Gd l s->Dn 1 l (cmdL l req F n s) s
 |0,s,h=>by
  rw[cmdL];split<;>exact Dn.err
 |n+1,s,h=>by
  rw[cmdL];by_cases h0:wL cNs s.1.spelt=0
  ·rw[if_pos h0];exact Dn.err
  ·rw[if_neg h0];cases hu:Qcu req s.1.spelt
   ·rw[if_neg (by decide)];exact Dn.err
   ·rw[if_pos rfl];exact(Dn.next (c:=0) h (Qfd (zs:=cNs) h (by decide) h0) fun s1 g1=>Qrx (fun s g=>Qly n s g) (fun s g=>Qt4 n s g) _ _ g1).weak (by omega)
abbrev FsP:=L8→Option (L8)
def Lists (F:FsP) (l:List (L8×L8)):Prop:=l.Pairwise (fun a b=>a.1 < b.1)∧∀ x s,(x,s)∈l↔F x=some s
theorem QiB{l:List (L8×L8)}(h:l.Pairwise (fun a b=>a.1<b.1)):l.Nodup:=h.imp (fun {a b} hab e=>by rw[e]at hab;exact List.lt_irrefl _ hab)
theorem QtL{F:FsP}{l l':List (L8×L8)}(h:Lists F l)(h':Lists F l'):l=l':=by
 refine List.Perm.eq_of_pairwise (le:=fun a b:L8×L8=>a.1<b.1) (fun a b _ _ h1 h2=>absurd (List.lt_trans h1 h2) (List.lt_irrefl _)) h.1 h'.1 ?_;refine(List.perm_ext_iff_of_nodup (QiB h.1) (QiB h'.1)).2 (fun a=>?_);obtain⟨x,s⟩:=a;rw[h.2,h'.2]
theorem Qnp{a b:L8}(h:¬ b<a)(hn:a≠b):a<b:=by
 by_cases h2:a<b
 ·exact h2
 ·exact absurd (List.le_antisymm (List.not_lt.1 h) (List.not_lt.1 h2)) hn
end Go.Proofs.YthkibedbcbgajaaGreatDoor
