import Derived.Lib.Index
import Derived.Lib.Bytealg
import Derived.Lib.Strings
import Derived.Lib.SlicesS
import Derived.Lib.ItoaLen
import Derived.Lib.Join
namespace Go.Proofs.YtgnkjijocdmniaaGreatDoor
set_option linter.unusedVariables false
set_option linter.unusedSimpArgs false
set_option maxRecDepth 100000
set_option maxHeartbeats 4000000
abbrev L8:=List UInt8
abbrev Qa:=List L8
variable{α β:Type}{F c' n p pos:Nat}{P:α->Prop}{a:α}{acc req zs:Qa}{c:UInt8}{chk:L8->Nat}{l z:L8}
theorem QE(a:α):∃ b,b=a:=⟨a,rfl⟩
theorem Qf(a:α):∃ b,a=b:=⟨a,rfl⟩
theorem Qt:n<=n:=Nat.le_refl n
theorem Qk{a b:List α}:(a++b).length=a.length+b.length:=List.length_append
theorem QD{l:List α}:(a::l).length=l.length+1:=List.length_cons
theorem Q4:([]:List α).length=0:=rfl
theorem QY{b:α}(h:a∈[b]):a=b:=List.mem_singleton.1 h
theorem Zi{l:List α}{i:Nat}(h:l.length<=i):l.drop i=[]:=List.drop_of_length_le h
theorem XB{l:List α}(h:l.length=0):l=[]:=List.eq_nil_of_length_eq_zero h
theorem Zh{a b:Bool}:a=b↔(a=true↔b=true):=Bool.eq_iff_iff
theorem Qm{a b c:Nat}(h:a<=b)(g:b<=c):a<=c:=Nat.le_trans h g
theorem Qr{p:Prop}[Decidable p](h:¬p):decide p=false:=decide_eq_false h
theorem QO{p:Prop}[Decidable p](h:p):decide p=true:=decide_eq_true h
theorem Qc{a b:Prop}(h:b):a\/b:=Or.inr h
theorem Qd{a b:Prop}(h:a):a\/b:=Or.inl h
theorem QC:0<=n:=Nat.zero_le n
def QK(c:Int):Bool:=decide (48<=c)&&decide (c<=57)
def ZN(c:Int):Bool:=c==32 || c==9 || c==10 || c==13
def Yj(c:Int):Bool:=decide (65<=c)&&decide (c<=90)
def J9(c:Int):Bool:=decide (97<=c)&&decide (c<=122)
def QP(c:Int):Bool:=(decide (97<=c)&&decide (c<=122)) || Yj c || c==95
theorem Lr(c:Int):QP c=(J9 c || Yj c || c==95):=rfl
def Q1(c:UInt8):Bool:=QP c.toNat || QK c.toNat
def Zd(l:L8):Nat:=(l.takeWhile Q1).length
def nameLen:L8->Nat
 | []=>0
 |c::r=>if QP c.toNat then 1+Zd r else 0
def isNameL(l:L8):Bool:=!l.isEmpty&&nameLen l==l.length
def X8(c:UInt8):UInt8:=if Yj c.toNat then c - 65+97 else c
def zL(l:L8):L8:=l.map X8
theorem Gv(c:UInt8)(r:L8):Zd (c::r)=if Q1 c then 1+Zd r else 0:=by
 unfold Zd;rw[List.takeWhile_cons];split
 ·rw[QD];omega
 ·rfl
theorem Qpj(l:L8):Zd l<=l.length:=by
 induction l with
 |nil=>simp[Zd]
 |cons c r ih=>rw[Gv];split<;>simp<;>omega
theorem VE(l:L8):nameLen l<=l.length:=by
 cases l with
 |nil=>simp[nameLen]
 |cons c r=>have:=Qpj r;simp only[nameLen];split<;>simp<;>omega
structure Flt where
 err:Nat
 pos:Nat
variable{f:Flt}
abbrev Qb:=Except Flt
structure Wd where
 kind:Nat
 pos:Nat
 spelt:L8
 said:L8
 num:Nat
def lineLen(l:L8):Nat:=if Lib.indexByte l 10<0 then l.length else(Lib.indexByte l 10).toNat+1
theorem AP(l:L8)(c:UInt8):Lib.indexByte l c<l.length:=by
 induction l with
 |nil=>simp[Lib.indexByte]
 |cons b l ih=>
  unfold Lib.indexByte;rw[QD];split
  ·omega
  ·split<;>omega
theorem AS(l sub:L8):Lib.index l sub<0\/Lib.index l sub+sub.length<=l.length:=by
 induction l with
 |nil=>
  unfold Lib.index
  cases sub with
  |nil=>right;decide
  |cons a t=>left;simp
 |cons b l ih=>
  unfold Lib.index;split
  ·rename_i h;right;have:=(List.isPrefixOf_iff_prefix.1 h).length_le;simp at this ⊢;omega
  ·split
   ·left;decide
   ·have:=Lib.index_ge l sub;rename_i h1 h2;have c:¬ Lib.index l sub = -1:=by simpa using h2
    simp;omega
theorem AQ(l:L8):lineLen l<=l.length:=by
 have:=AP l 10;unfold lineLen;split<;>omega
theorem AR(c:UInt8)(l:L8):1<=lineLen (c::l):=by
 unfold lineLen;split
 ·simp
 ·omega
def QW:Nat->L8->Nat->Qb Nat
 |0,_,p=>.ok p
 |_+1,[],p=>.ok p
 |f+1,c::r,p=>
  if ZN c.toNat then QW f r (p+1)
  else if c.toNat=35 then QW f ((c::r).drop (lineLen (c::r))) (p+lineLen (c::r))
  else if Lib.hasPrefix (c::r) [47,42]then
   if Lib.index (r.drop 1) [42,47]<0 then .error ⟨2,p⟩
   else QW f ((c::r).drop (4+(Lib.index (r.drop 1) [42,47]).toNat)) (p+(4+(Lib.index (r.drop 1) [42,47]).toNat))
  else .ok p
def XC(k:Nat)(rest:L8)(p n:Nat):Wd×Nat:=(⟨k,p,zL (rest.take n),[],0⟩,p+n)
def Zl(l:L8):Nat:=(l.takeWhile fun c=>QK c.toNat).length
def YD(v:Nat)(c:UInt8):Nat:=min (v*10+(c.toNat - 48)) 2147483648
def Y4(l:L8):Nat:=(l.takeWhile fun c=>QK c.toNat).foldl YD 0
def isM(c:UInt8):Bool:=c.toNat==77 || c.toNat==109
def isK(c:UInt8):Bool:=c.toNat==75 || c.toNat==107
def sNL(rest:L8)(p:Nat):Qb (Wd×Nat):=
 let n:=Zl rest
 let v:=Y4 rest
 let c:=rest.getD n 0
 let v':=if isM c then v*1048576 else if isK c then v*1024 else v
 let n':=if isM c || isK c then n+1 else n
 if Q1 (rest.getD n' 0)then .error ⟨2,p⟩
 else if 2147483647<v' then .error ⟨3,p⟩
 else .ok (⟨4,p,[],[],v'⟩,p+n')
def qL:L8->Option (L8×Nat)
 | []=>none
 |c::r=>
  if c.toNat=34 then some ([],1)
  else if c.toNat=92 then
   match r with
   | []=>none
   |d::r'=>(qL r').map fun x=>(d::x.1,x.2+2)
  else(qL r).map fun x=>(c::x.1,x.2+1)
def quoteR(r:L8)(p:Nat):Qb (Wd×Nat):=
 match qL r with
 |none=>.error ⟨2,p⟩
 |some x=>.ok (⟨5,p,[],x.1,0⟩,p+(1+x.2))
def Yk(c:UInt8):Bool:=decide (0<=Lib.indexByte [59,44,40,41,123,125,91,93] c)
def QV(rest:L8)(p:Nat):Qb (Wd×Nat):=
 match rest with
 | []=>.ok (⟨0,p,[],[],0⟩,p)
 |c::r=>
  if QP c.toNat then .ok (XC 1 (c::r) p (nameLen (c::r)))
  else if c.toNat=58 then
   if nameLen r=0 then .error ⟨2,p⟩else .ok (XC 2 (c::r) p (1+nameLen r))
  else if QK c.toNat then sNL (c::r) p
  else if c.toNat=34 then quoteR r p
  else if Yk c then .ok (XC 3 (c::r) p 1)
  else .error ⟨2,p⟩
def nL(l:L8)(p:Nat):Qb (Wd×Nat):=
 match QW (l.length+1) (l.drop p) p with
 | .error f=>.error f
 | .ok n=>QV (l.drop n) n
theorem Kb(l:L8):∀(f p n:Nat),p<=l.length->QW f (l.drop p) p=.ok n->p<=n/\n<=l.length
 |0,p,n,hp,h=>by
  simp only[QW]at h;cases h;exact⟨Nat.le_refl _,hp⟩
 |f+1,p,n,hp,h=>by
  by_cases hlt:p<l.length
  ·rw[List.drop_eq_getElem_cons hlt]at h;simp only[QW]at h
   split at h
   ·have:=Kb l f (p+1) n (by omega) h;omega
   ·rw[<-List.drop_eq_getElem_cons hlt]at h
    split at h
    ·rw[List.drop_drop]at h;have h1:=AQ (l.drop p);rw[List.length_drop]at h1;have:=Kb l f _ n (by omega) h;omega
    ·split at h
     ·split at h
      ·cases h
      ·rename_i hp2 hi;have e:List.drop 1 (List.drop (p+1) l)=List.drop (p+1+1) l:=by rw[List.drop_drop]
       rw[e]at h hi;rw[List.drop_drop]at h;have h1:=AS (l.drop (p+1+1)) [42,47];rw[List.length_drop]at h1
       have a:2<=(l.drop p).length:=by
        have:=(List.isPrefixOf_iff_prefix.1 hp2).length_le;simpa using this
       rw[List.length_drop]at a
       have b:Lib.index (l.drop (p+1+1)) [42,47]+2<=(l.length - (p+1+1):Nat):=by
        rcases h1 with h1|h1
        ·exact absurd h1 hi
        ·simpa using h1
       have:=Kb l f _ n (by omega) h;omega
     ·cases h;exact⟨Nat.le_refl _,hp⟩
  ·rw[Zi (by omega)]at h;simp only[QW]at h;cases h;exact⟨Nat.le_refl _,hp⟩
theorem Av:∀(r:L8) (x:L8×Nat),qL r=some x->1<=x.2/\x.2<=r.length
 | [],x,h=>by cases h
 |c::r,x,h=>by
  rw[qL.eq_def]at h;dsimp only at h
  split at h
  ·cases h;simp
  ·split at h
   ·cases r with
    |nil=>cases h
    |cons d r'=>
     dsimp only at h
     cases hq:qL r' with
     |none=>rw[hq]at h;cases h
     |some y=>
      have:=Av r' y hq;rw[hq]at h;cases h;simp;omega
   ·cases hq:qL r with
    |none=>rw[hq]at h;cases h
    |some y=>
     have:=Av r y hq;rw[hq]at h;cases h;simp;omega
theorem Aw:∀(r:L8) (x:L8×Nat),qL r=some x->x.1.length<x.2
 | [],x,h=>by cases h
 |c::r,x,h=>by
  rw[qL.eq_def]at h;dsimp only at h
  split at h
  ·cases h;simp
  ·split at h
   ·cases r with
    |nil=>cases h
    |cons d r'=>
     dsimp only at h
     cases hq:qL r' with
     |none=>rw[hq]at h;cases h
     |some y=>
      have:=Aw r' y hq;rw[hq]at h;cases h;simp;omega
   ·cases hq:qL r with
    |none=>rw[hq]at h;cases h
    |some y=>
     have:=Aw r y hq;rw[hq]at h;cases h;simp;omega
theorem QrZ(l:L8):Zl l<=l.length:=by
 unfold Zl;exact(List.takeWhile_prefix _).length_le
theorem Gf(l:L8)(n:Nat)(h:l.length<=n):l.getD n 0=0:=by
 rw[List.getD_eq_getElem?_getD,List.getElem?_eq_none h];rfl
theorem Im(l:L8)(p:Nat)(q:p<=l.length)(x:Wd×Nat)(h:QV (l.drop p) p=.ok x) :
 x.1.pos=p/\x.2<=l.length/\p<=x.2/\(x.1.kind=0->p=l.length/\x.1.spelt=[])/\(x.1.kind≠0->p<x.2):=by
 by_cases hlt:p<l.length
 ·obtain⟨c,r,d,t⟩:∃ c r,l.drop p=c::r/\r.length=l.length - (p+1):=⟨_,_,List.drop_eq_getElem_cons hlt,by simp⟩;rw[d]at h;clear d;unfold QV at h;dsimp only at h;have j:=VE (c::r);have k:=VE r;simp only[QD]at j k
  split at h
  ·rename_i hl
   have s:1<=nameLen (c::r):=by
    simp only[nameLen];rw[if_pos hl];omega
   cases h;simp[XC];omega
  ·split at h
   ·split at h
    ·cases h
    ·cases h;simp[XC];omega
   ·split at h
    ·rename_i hg;have g:=QrZ (c::r)
     have m:1<=Zl (c::r):=by
      simp[Zl,hg]
     simp only[QD]at g
     obtain⟨a,b,f,he⟩:∃ a b:Nat,a=(if isM ((c::r).getD (Zl (c::r)) 0) || isK ((c::r).getD (Zl (c::r)) 0)then Zl (c::r)+1 else Zl (c::r))/\
      sNL (c::r) p=if Q1 ((c::r).getD a 0)then .error ⟨2,p⟩else if 2147483647<b then .error ⟨3,p⟩else .ok (⟨4,p,[],[],b⟩,p+a):=⟨_,_,rfl,rfl⟩
     rw[he]at h
     have o:a<=l.length - p/\1<=a:=by
      by_cases hm:(isM ((c::r).getD (Zl (c::r)) 0) || isK ((c::r).getD (Zl (c::r)) 0))=true
      ·have i:Zl (c::r)<(c::r).length:=by
        apply Classical.byContradiction;intro n;rw[Gf _ _ (by omega)]at hm;exact absurd hm (by decide)
       simp only[QD]at i;rw[f,if_pos hm];omega
      ·rw[f,if_neg hm];omega
     split at h
     ·cases h
     ·split at h
      ·cases h
      ·cases h;simp;omega
    ·split at h
     ·unfold quoteR at h
      cases hq:qL r with
      |none=>rw[hq]at h;cases h
      |some y=>
       rw[hq]at h;have:=Av _ _ hq;cases h;simp;omega
     ·split at h
      ·cases h;simp[XC];omega
      ·cases h
 ·have e:p=l.length:=by omega
  rw[Zi (by omega)]at h;unfold QV at h;dsimp only at h;cases h;simp;omega
theorem In(l:L8)(p:Nat)(x:Wd×Nat)(h:QV (l.drop p) p=.ok x):x.1.said.length<=l.length/\x.1.num<=2147483647:=by
 have d:(l.drop p).length<=l.length:=by simp
 generalize l.drop p=r at h d
 cases r with
 |nil=>unfold QV at h;dsimp only at h;cases h;simp
 |cons c r=>
  unfold QV at h;dsimp only at h
  split at h
  ·cases h;simp[XC]
  ·split at h
   ·split at h
    ·cases h
    ·cases h;simp[XC]
   ·split at h
    ·obtain⟨a,b,he⟩:∃ a b:Nat,sNL (c::r) p=if Q1 ((c::r).getD a 0)then .error ⟨2,p⟩else if 2147483647<b then .error ⟨3,p⟩else .ok (⟨4,p,[],[],b⟩,p+a):=⟨_,_,rfl⟩
     rw[he]at h
     split at h
     ·cases h
     ·split at h
      ·cases h
      ·cases h;simp;omega
    ·split at h
     ·unfold quoteR at h
      cases hq:qL r with
      |none=>rw[hq]at h;cases h
      |some y=>
       rw[hq]at h;have e:=Av _ _ hq;have f:=Aw _ _ hq;cases h;simp at d ⊢;omega
     ·split at h
      ·cases h;simp[XC]
      ·cases h
theorem C4(l:L8)(p:Nat)(x:Wd×Nat)(h:nL l p=.ok x):x.1.said.length<=l.length/\x.1.num<=2147483647:=by
 unfold nL at h
 cases hs:QW (l.length+1) (l.drop p) p with
 |error f=>rw[hs]at h;cases h
 |ok n=>rw[hs]at h;exact In l n x h
def VF(sp:L8):Prop:=∀ c r,sp=c::r->QP c.toNat=false
theorem Cy:∀(l:L8) (c:UInt8),0<=Lib.indexByte l c->c∈l
 | [],c,h=>by simp[Lib.indexByte]at h
 |b::l,c,h=>by
  unfold Lib.indexByte at h
  split at h
  ·rename_i hb;have:b=c:=by simpa using hb
   subst this;simp
  ·split at h
   ·exact absurd h (by decide)
   ·have a:=Lib.indexByte_ge l c;rename_i h2;have d:¬ Lib.indexByte l c = -1:=by simpa using h2
    have:=Cy l c (by omega);simp[this]
theorem Qla(c:UInt8)(h:Yk c=true):QP (X8 c).toNat=false:=by
 have a:=Cy _ _ (of_decide_eq_true h);simp at a;rcases a with h|h|h|h|h|h|h|h<;>subst h<;>decide
theorem Qoc(l:L8)(p:Nat)(x:Wd×Nat)(h:QV (l.drop p) p=.ok x)(f:¬ x.1.kind=1):VF x.1.spelt:=by
 generalize l.drop p=r at h
 cases r with
 |nil=>unfold QV at h;dsimp only at h;cases h;intro c r e;cases e
 |cons c r=>
  unfold QV at h;dsimp only at h
  split at h
  ·cases h;exact absurd rfl f
  ·split at h
   ·rename_i h58
    split at h
    ·cases h
    ·cases h;intro d g e;rw[show 1+nameLen r=nameLen r+1 from by omega]at e;simp[XC,zL,List.take_succ_cons]at e;obtain⟨e,-⟩:=e;subst e;have:c=58:=UInt8.toNat_inj.1 h58;subst this;decide
   ·split at h
    ·obtain⟨a,b,he⟩:∃ a b:Nat,sNL (c::r) p=if Q1 ((c::r).getD a 0)then .error ⟨2,p⟩else if 2147483647<b then .error ⟨3,p⟩else .ok (⟨4,p,[],[],b⟩,p+a):=⟨_,_,rfl⟩
     rw[he]at h
     split at h
     ·cases h
     ·split at h
      ·cases h
      ·cases h;intro c r e;cases e
    ·split at h
     ·unfold quoteR at h
      cases hq:qL r with
      |none=>rw[hq]at h;cases h
      |some y=>rw[hq]at h;cases h;intro c r e;cases e
     ·split at h
      ·rename_i hs;cases h;intro d g e;simp[XC,zL]at e;obtain⟨e,-⟩:=e;subst e;exact Qla c hs
      ·cases h
theorem Mh(l:L8)(p:Nat)(x:Wd×Nat)(h:nL l p=.ok x)(a:¬ x.1.kind=1):VF x.1.spelt:=by
 unfold nL at h
 cases hs:QW (l.length+1) (l.drop p) p with
 |error f=>rw[hs]at h;cases h
 |ok n=>rw[hs]at h;exact Qoc l n x h a
theorem U0(l:L8)(p:Nat)(d:p<=l.length)(x:Wd×Nat)(h:nL l p=.ok x) :
 x.1.pos<=l.length/\x.2<=l.length/\p<=x.2/\(x.1.kind=0->x.1.spelt=[])/\(x.1.kind≠0->p<x.2):=by
 unfold nL at h
 cases hs:QW (l.length+1) (l.drop p) p with
 |error f=>rw[hs]at h;cases h
 |ok n=>
  rw[hs]at h;have c:=Kb l _ p n d hs;have a:=Im l n c.2 x h;refine⟨by omega,a.2.1,by omega,fun b=>(a.2.2.2.1 b).2,fun b=>by have:=a.2.2.2.2 b;omega⟩
def wL:Qa->L8->Nat
 | [],_=>0
 |s::r,x=>if s=x then 1 else if wL r x=0 then 0 else wL r x+1
def sA(x:L8):ByteArray:=⟨x.toArray⟩
theorem GD{x y:L8}(h:sA x=sA y):x=y:=by
 have:=congrArg (fun b:ByteArray=>b.data.toList) h;simpa[sA]using this
theorem Io(x:L8):∀(zs:Qa) (i:Nat),Lib.idxFromS (zs.map sA) (sA x) i=if wL zs x=0 then -1 else(i:Int)+wL zs x - 1
 | [],i=>rfl
 |s::r,i=>by
  rw[List.map_cons];unfold wL Lib.idxFromS;by_cases h:s=x
  ·subst h;simp
  ·have a:¬ sA s=sA x:=fun e=>h (GD e)
   rw[if_neg h,if_neg a,Io x r (i+1)];by_cases h0:wL r x=0
   ·simp[h0]
   ·simp[h0];omega
theorem C3(zs:Qa)(x:L8):Lib.idxOfS (zs.map sA) (sA x)+1=wL zs x:=by
 unfold Lib.idxOfS;rw[Io];split<;>omega
theorem Ms(zs:Qa)(x:L8):Lib.containsS (zs.map sA) (sA x)=decide (0<wL zs x):=by
 unfold Lib.containsS;have:=C3 zs x;by_cases h:0<wL zs x
 ·simp[h];omega
 ·simp[h];omega
theorem YU(zs:Qa)(x:L8):wL zs x<=zs.length:=by
 induction zs with
 |nil=>simp[wL]
 |cons s r ih=>
  unfold wL;split
  ·simp
  ·split<;>simp<;>omega
abbrev PS:=Wd×Nat
variable{k:α->PS->Qb (β×PS)}{r:Qb (α×PS)}{s:PS}{sub:PS->Qb (α×PS)}{tst:PS->Qb (β×PS)}
def mayL(l:L8)(zs:Qa)(s:PS):Qb (Nat×PS):=
 if wL zs s.1.spelt=0 then .ok (0,s)else
 match nL l s.2 with
 | .error f=>.error f
 | .ok s'=>.ok (wL zs s.1.spelt,s')
def paL(l:L8)(zs:Qa)(s:PS):Qb (Nat×PS):=
 if wL zs s.1.spelt=0 then .error ⟨4,s.1.pos⟩else
 match nL l s.2 with
 | .error f=>.error f
 | .ok s'=>.ok (wL zs s.1.spelt,s')
def sL(l:L8)(chk:L8->Nat)(s:PS):Qb (L8×PS):=
 if s.1.kind=5 then
  if chk s.1.said=0 then
   match nL l s.2 with
   | .error f=>.error f
   | .ok s'=>.ok (s.1.said,s')
  else .error ⟨chk s.1.said,s.1.pos⟩
 else .error ⟨4,s.1.pos⟩
def mu(n:Nat)(s:PS):Nat:=2*(n - s.2)+(if s.1.kind=0 then 0 else 1)
theorem Y8{y:PS}(c:s.2<=l.length)(b:¬ s.1.kind=0)(h:nL l s.2=.ok y):mu l.length y<mu l.length s:=by
 obtain⟨d,e,f,g,a⟩:=U0 l s.2 c y h;unfold mu;rw[if_neg b];by_cases h0:y.1.kind=0
 ·rw[if_pos h0];omega
 ·have:=a h0;rw[if_neg h0];omega
theorem G0(zs:Qa)(h:∀ z∈zs,z≠[]):wL zs []=0:=by
 induction zs with
 |nil=>rfl
 |cons a r ih=>
  unfold wL;rw[if_neg (h a (by simp)),if_pos (ih fun z b=>h z (by simp[b]))]
theorem Ai{y:Nat×PS}(b:s.2<=l.length)(he:s.1.kind=0->s.1.spelt=[])(c:∀ z∈zs,z≠[])(h:paL l zs s=.ok y):mu l.length y.2<mu l.length s/\y.1=wL zs s.1.spelt/\¬ y.1=0:=by
 unfold paL at h
 split at h
 ·cases h
 ·rename_i h0;have a:¬ s.1.kind=0:=fun e=>h0 (by rw[he e];exact G0 zs c)
  cases hn:nL l s.2 with
  |error f=>rw[hn]at h;cases h
  |ok s'=>rw[hn]at h;cases h;exact⟨Y8 b a hn,rfl,h0⟩
theorem GS{y:Nat×PS}(b:s.2<=l.length)(he:s.1.kind=0->s.1.spelt=[])(c:∀ z∈zs,z≠[])(h:mayL l zs s=.ok y):mu l.length y.2<=mu l.length s/\(¬ y.1=0->mu l.length y.2<mu l.length s)/\y.1=wL zs s.1.spelt/\(y.1=0->y.2=s):=by
 unfold mayL at h
 split at h
 ·rename_i h0;cases h;exact⟨Nat.le_refl _,fun h=>absurd rfl h,h0.symm,fun _=>rfl⟩
 ·rename_i h0;have a:¬ s.1.kind=0:=fun e=>h0 (by rw[he e];exact G0 zs c)
  cases hn:nL l s.2 with
  |error f=>rw[hn]at h;cases h
  |ok s'=>
   rw[hn]at h;cases h;exact⟨Nat.le_of_lt (Y8 b a hn),fun _=>Y8 b a hn,rfl,fun e=>absurd e h0⟩
theorem Vf{y:L8×PS}(a:s.2<=l.length)(h:sL l chk s=.ok y):mu l.length y.2<mu l.length s/\y.1=s.1.said:=by
 unfold sL at h
 split at h
 ·rename_i hk
  split at h
  ·cases hn:nL l s.2 with
   |error f=>rw[hn]at h;cases h
   |ok s'=>rw[hn]at h;cases h;exact⟨Y8 a (by omega) hn,rfl⟩
  ·cases h
 ·cases h
def moreL(l:L8)(chk:L8->Nat):Nat->Qa->PS->Qb (Qa×PS)
 |0,acc,s=>.ok (acc,s)
 |f+1,acc,s=>
  match paL l [[44],[93]] s with
  | .error e=>.error e
  | .ok y=>
   if y.1=1 then
    match sL l chk y.2 with
    | .error e=>.error e
    | .ok z=>moreL l chk f (acc++[z.1]) z.2
   else .ok (acc,y.2)
def sLs(l:L8)(chk:L8->Nat)(fuel:Nat)(s:PS):Qb (Qa×PS):=
 match mayL l [[91]] s with
 | .error e=>.error e
 | .ok y=>
  match sL l chk y.2 with
  | .error e=>.error e
  | .ok z=>if y.1=0 then .ok ([z.1],z.2)else moreL l chk fuel [z.1] z.2
def JH:L8:=[107,101,101,112]
def JI:L8:=[100,105,115,99,97,114,100]
def JJ:L8:=[115,116,111,112]
def Ze:L8:=[102,105,108,101,105,110,116,111]
def Yn:L8:=[114,101,100,105,114,101,99,116]
def Zf:L8:=[114,101,106,101,99,116]
def ZW:L8:=[115,101,116]
def kIf:L8:=[105,102]
def Jv:L8:=[116,114,117,101]
def Jw:L8:=[102,97,108,115,101]
def kNot:L8:=[110,111,116]
def YF:L8:=[97,108,108,111,102]
def YG:L8:=[97,110,121,111,102]
def X7:L8:=[104,101,97,100,101,114]
def QN:L8:=[101,110,118,101,108,111,112,101]
def ZA:L8:=[115,116,114,105,110,103]
def XO:L8:=[101,120,105,115,116,115]
def Yh:L8:=[115,105,122,101]
def Xe:L8:=[101,108,115,105,102]
def Xv:L8:=[101,108,115,101]
def YY:L8:=[114,101,113,117,105,114,101]
def ZJ:L8:=[118,97,114,105,97,98,108,101,115]
def Yy:L8:=[102,114,111,109]
def kTo:L8:=[116,111]
def Xs:L8:=[58,108,111,119,101,114]
def Xt:L8:=[58,117,112,112,101,114]
def Xu:L8:=[58,108,101,110,103,116,104]
def tIs:L8:=[58,105,115]
def Zo:L8:=[58,99,111,110,116,97,105,110,115]
def Zp:L8:=[58,109,97,116,99,104,101,115]
def X3:L8:=[58,111,118,101,114]
def X4:L8:=[58,117,110,100,101,114]
def Xi:L8:=[58,99,111,109,112,97,114,97,116,111,114]
def Z0:L8:=[105,59,111,99,116,101,116]
def Jd:L8:=[105,59,97,115,99,105,105,45,99,97,115,101,109,97,112]
def cNs:Qa:=[JH,JI,JJ,Ze,Yn,Zf,ZW,kIf]
def tNs:Qa:=[Jv,Jw,kNot,YF,YG,X7,QN,ZA,XO,Yh]
structure QX where
 kind:Nat
 pos:Nat
 tag:Nat
 octet:Bool
 fr:Qa
 keys:Qa
 num:Nat
def QQ:Nat->Type
 |0=>Unit
 |n+1=>QX×List (QQ n)
structure Zx where
 kind:Nat
 pos:Nat
 tag:Nat
 arg:L8
 var:L8
 els:Bool
def QF:Nat->Type
 |0=>Unit
 |n+1=>Zx×List (QQ n×List (QF n))×List (QF n)
variable{y:Qa×List (QF 7)}
def Zw(req:Qa)(sp:L8):Bool:=
 if sp=Ze\/sp=Zf\/sp=QN then decide (0<wL req sp)
 else if sp=ZW\/sp=ZA then decide (0<wL req ZJ)
 else true
def Qp{α β:Type}(r:Qb (α×PS))(k:α->PS->Qb (β×PS)):Qb (β×PS):=
 match r with
 | .error f=>.error f
 | .ok y=>k y.1 y.2
def nextThen{β:Type}(l:L8)(s:PS)(k:PS->Qb (β×PS)):Qb (β×PS):=
 match nL l s.2 with
 | .error f=>.error f
 | .ok y=>k y
theorem Qi(h:r=.error f):Qp r k=.error f:=by subst h;rfl
theorem Qe{y:α×PS}(h:r=.ok y):Qp r k=k y.1 y.2:=by subst h;rfl
theorem Yd{k:PS->Qb (β×PS)}(h:nL l s.2=.error f):nextThen l s k=.error f:=by unfold nextThen;rw[h]
theorem XV{y:PS}{k:PS->Qb (β×PS)}(h:nL l s.2=.ok y):nextThen l s k=k y:=by unfold nextThen;rw[h]
def Zb(l:L8):Nat->Nat->Bool->Bool->PS->Qb ((Nat×Bool)×PS)
 |0,tag,oct,_,s=>.ok ((tag,oct),s)
 |f+1,tag,oct,cmp,s=>
  if wL [tIs,Zo,Zp] s.1.spelt=0 then
   if wL [Xi] s.1.spelt=0 then .ok ((max tag 1,oct),s)
   else if cmp then .error ⟨7,s.1.pos⟩
   else nextThen l s fun s1=>Qp (sL l (fun x=>if 0<wL [Z0,Jd] x then 0 else 7) s1) fun x s2=>Zb l f tag (decide (x=Z0)) true s2
  else if tag=0 then nextThen l s fun s1=>Zb l f (wL [tIs,Zo,Zp] s.1.spelt) oct cmp s1
  else .error ⟨7,s.1.pos⟩
def ZR(l:L8)(F:Nat)(chk:L8->Nat)(k pos:Nat)(s:PS):Qb (QX×PS):=
 Qp (Zb l F 0 false false s) fun o s1=>Qp (sLs l chk F s1) fun fr s2=>Qp (sLs l (fun _=>0) F s2) fun ks s3=>
  .ok (⟨k,pos,o.1,o.2,fr,ks,0⟩,s3)
def gMr{α:Type}(l:L8)(sub:PS->Qb (α×PS)):Nat->List α->PS->Qb (List α×PS)
 |0,acc,s=>.ok (acc,s)
 |f+1,acc,s=>Qp (paL l [[44],[41]] s) fun i s1=>
  if i=1 then Qp (sub s1) fun t s2=>gMr l sub f (acc++[t]) s2 else .ok (acc,s1)
def groupL{α:Type}(l:L8)(F:Nat)(sub:PS->Qb (α×PS))(s:PS):Qb (List α×PS):=
 Qp (paL l [[40]] s) fun _ s1=>Qp (sub s1) fun t s2=>gMr l sub F [t] s2
def sizeL(l:L8)(pos:Nat)(s:PS):Qb (QX×PS):=
 Qp (paL l [X3,X4] s) fun i s1=>
  if s1.1.kind=4 then nextThen l s1 fun s2=>.ok (⟨9,pos,i,false,[],[],s1.1.num⟩,s2)else .error ⟨4,s1.1.pos⟩
def tBd{α:Type}(l:L8)(F:Nat)(sub:PS->Qb (α×PS))(k pos:Nat)(s:PS):Qb ((QX×List α)×PS):=
 match k with
 |0=>.ok ((⟨0,pos,0,false,[],[],0⟩,[]),s)
 |1=>.ok ((⟨1,pos,0,false,[],[],0⟩,[]),s)
 |2=>Qp (sub s) fun t s1=>.ok ((⟨2,pos,0,false,[],[],0⟩,[t]),s1)
 |3=>Qp (groupL l F sub s) fun ts s1=>.ok ((⟨3,pos,0,false,[],[],0⟩,ts),s1)
 |4=>Qp (groupL l F sub s) fun ts s1=>.ok ((⟨4,pos,0,false,[],[],0⟩,ts),s1)
 |5=>Qp (ZR l F (fun _=>0) 5 pos s) fun x s1=>.ok ((x,[]),s1)
 |6=>Qp (ZR l F (fun x=>if 0<wL [Yy,kTo] (zL x)then 0 else 7) 6 pos s) fun x s1=>.ok ((x,[]),s1)
 |7=>Qp (ZR l F (fun _=>0) 7 pos s) fun x s1=>.ok ((x,[]),s1)
 |8=>Qp (sLs l (fun _=>0) F s) fun xs s1=>.ok ((⟨8,pos,0,false,xs,[],0⟩,[]),s1)
 |_=>Qp (sizeL l pos s) fun x s1=>.ok ((x,[]),s1)
def Qq(l:L8)(req:Qa)(F:Nat):(n:Nat)->PS->Qb (QQ n×PS)
 |0,s=>if s.1.kind=1 then .error ⟨5,s.1.pos⟩else .error ⟨4,s.1.pos⟩
 |n+1,s=>
  if wL tNs s.1.spelt=0 then .error ⟨4,s.1.pos⟩
  else if Zw req s.1.spelt then nextThen l s fun s1=>tBd l F (Qq l req F n) (wL tNs s.1.spelt - 1) s.1.pos s1
  else .error ⟨6,s.1.pos⟩
def bMr{α:Type}(l:L8)(sub:PS->Qb (α×PS)):Nat->List α->PS->Qb (List α×PS)
 |0,acc,s=>.ok (acc,s)
 |f+1,acc,s=>Qp (mayL l [[125]] s) fun i s1=>
  if i=0 then Qp (sub s1) fun c s2=>bMr l sub f (acc++[c]) s2 else .ok (acc,s1)
def blockL{α:Type}(l:L8)(F:Nat)(sub:PS->Qb (α×PS))(s:PS):Qb (List α×PS):=
 Qp (paL l [[123]] s) fun _ s1=>bMr l sub F [] s1
def armL{α β:Type}(l:L8)(F:Nat)(tst:PS->Qb (β×PS))(sub:PS->Qb (α×PS))(s:PS):Qb ((β×List α)×PS):=
 Qp (tst s) fun t s1=>Qp (blockL l F sub s1) fun cs s2=>.ok ((t,cs),s2)
def aMr{α β:Type}(l:L8)(F:Nat)(tst:PS->Qb (β×PS))(sub:PS->Qb (α×PS)):Nat->List (β×List α)->PS->Qb (List (β×List α)×PS)
 |0,acc,s=>.ok (acc,s)
 |f+1,acc,s=>Qp (mayL l [Xe] s) fun i s1=>
  if i=0 then .ok (acc,s1)else Qp (armL l F tst sub s1) fun a s2=>aMr l F tst sub f (acc++[a]) s2
def semi{α:Type}(l:L8)(s:PS)(a:α):Qb (α×PS):=Qp (paL l [[59]] s) fun _ s1=>.ok (a,s1)
def cBd{α β:Type}(l:L8)(F:Nat)(tst:PS->Qb (β×PS))(sub:PS->Qb (α×PS))(k pos:Nat)(s:PS):Qb ((Zx×List (β×List α)×List α)×PS):=
 match k with
 |0=>semi l s (⟨0,pos,0,[],[],false⟩,[],[])
 |1=>semi l s (⟨1,pos,0,[],[],false⟩,[],[])
 |2=>semi l s (⟨2,pos,0,[],[],false⟩,[],[])
 |3=>Qp (sL l (fun _=>0) s) fun x s1=>semi l s1 (⟨3,pos,0,x,[],false⟩,[],[])
 |4=>Qp (sL l (fun _=>0) s) fun x s1=>semi l s1 (⟨4,pos,0,x,[],false⟩,[],[])
 |5=>Qp (sL l (fun _=>0) s) fun x s1=>semi l s1 (⟨5,pos,0,x,[],false⟩,[],[])
 |6=>Qp (mayL l [Xs,Xt,Xu] s) fun tag s1=>Qp (sL l (fun x=>if isNameL x then 0 else 7) s1) fun v s2=>
  Qp (sL l (fun _=>0) s2) fun x s3=>semi l s3 (⟨6,pos,tag,x,zL v,false⟩,[],[])
 |_=>Qp (armL l F tst sub s) fun a s1=>Qp (aMr l F tst sub F [a] s1) fun arms s2=>Qp (mayL l [Xv] s2) fun i s3=>
  if i=0 then .ok ((⟨7,pos,0,[],[],false⟩,arms,[]),s3)
  else Qp (blockL l F sub s3) fun cs s4=>.ok ((⟨7,pos,0,[],[],true⟩,arms,cs),s4)
def cmdL(l:L8)(req:Qa)(F:Nat):(n:Nat)->PS->Qb (QF n×PS)
 |0,s=>if s.1.kind=1 then .error ⟨5,s.1.pos⟩else .error ⟨4,s.1.pos⟩
 |n+1,s=>
  if wL cNs s.1.spelt=0 then .error ⟨4,s.1.pos⟩
  else if Zw req s.1.spelt then nextThen l s fun s1=>cBd l F (Qq l req F n) (cmdL l req F n) (wL cNs s.1.spelt - 1) s.1.pos s1
  else .error ⟨6,s.1.pos⟩
def ZF(req:Qa)(x:L8):Qa:=if 0<wL req x then req else req++[x]
def reqMore(l:L8)(F:Nat):Nat->Qa->PS->Qb (Qa×PS)
 |0,req,s=>.ok (req,s)
 |f+1,req,s=>Qp (mayL l [YY] s) fun i s1=>
  if i=0 then .ok (req,s1)
  else Qp (sLs l (fun x=>if 0<wL [QN,Ze,Zf,ZJ] x then 0 else 6) F s1) fun xs s2=>
   Qp (paL l [[59]] s2) fun _ s3=>reqMore l F f (xs.foldl ZF req) s3
def cMr{α:Type}(sub:PS->Qb (α×PS)):Nat->List α->PS->Qb (List α)
 |0,acc,_=>.ok acc
 |f+1,acc,s=>if s.1.kind=0 then .ok acc else
  match sub s with
  | .error e=>.error e
  | .ok y=>cMr sub f (acc++[y.1]) y.2
def prL(l:L8):Qb (Qa×List (QF 7)):=
 let F:=2*l.length+10
 match nL l 0 with
 | .error f=>.error f
 | .ok s=>
  match reqMore l F F [] s with
  | .error f=>.error f
  | .ok y=>
   match cMr (cmdL l y.1 F 7) F [] y.2 with
   | .error f=>.error f
   | .ok cs=>.ok (y.1,cs)
def Gd(l:L8)(s:PS):Prop:=s.2<=l.length/\(s.1.kind=0->s.1.spelt=[])
def Dn{α:Type}(c:Nat)(l:L8)(r:Qb (α×PS))(s:PS):Prop:=∀ y,r=.ok y->Gd l y.2/\mu l.length y.2+c<=mu l.length s
theorem Dn.err{c:Nat}:Dn c l (.error f:Qb (α×PS)) s:=fun y h=>by cases h
theorem Dn.ok{α:Type}{l:L8}{a:α}{s:PS}(h:Gd l s):Dn 0 l (.ok (a,s):Qb (α×PS)) s:=fun y e=>by cases e;exact⟨h,Nat.le_refl _⟩
theorem Dn.weak{c:Nat}(h:Dn c l r s)(hc:c'<=c):Dn c' l r s:=fun y e=>⟨(h y e).1,by have:=(h y e).2;omega⟩
theorem Dn.andThen{c:Nat}(h:Dn c l r s)(g:∀ a s1,Gd l s1->Dn c' l (k a s1) s1):Dn (c+c') l (Qp r k) s:=fun y e=>by
 cases hr:r with
 |error f=>rw[Qi hr]at e;cases e
 |ok z=>
  rw[Qe hr]at e;obtain⟨b,i⟩:=h z hr;obtain⟨d,j⟩:=g z.1 z.2 b y e;exact⟨d,by omega⟩
theorem GJ{y:PS}(h:Gd l s)(c:nL l s.2=.ok y):Gd l y:=by
 obtain⟨d,a,e,b,f⟩:=U0 l s.2 h.1 y c;exact⟨a,b⟩
theorem Dn.next{c:Nat}{k:PS->Qb (β×PS)}(h:Gd l s)(d:¬ s.1.kind=0)(b:∀ s1,Gd l s1->Dn c l (k s1) s1):Dn (c+1) l (nextThen l s k) s:=fun y e=>by
 cases hr:nL l s.2 with
 |error f=>rw[Yd hr]at e;cases e
 |ok z=>
  rw[XV hr]at e;have g:=Y8 h.1 d hr;obtain⟨a,i⟩:=b z (GJ h hr) y e;exact⟨a,by omega⟩
theorem Vm(h:Gd l s)(a:∀ z∈zs,z≠[]):Dn 1 l (paL l zs s) s:=fun y e=>by
 refine⟨?_,(Ai h.1 h.2 a e).1⟩;unfold paL at e
 split at e
 ·cases e
 ·cases hn:nL l s.2 with
  |error f=>rw[hn]at e;cases e
  |ok s'=>rw[hn]at e;cases e;exact GJ h hn
theorem Gg(h:Gd l s)(a:∀ z∈zs,z≠[]):Dn 0 l (mayL l zs s) s:=fun y e=>by
 refine⟨?_,(GS h.1 h.2 a e).1⟩;unfold mayL at e
 split at e
 ·cases e;exact h
 ·cases hn:nL l s.2 with
  |error f=>rw[hn]at e;cases e
  |ok s'=>rw[hn]at e;cases e;exact GJ h hn
theorem KR(h:Gd l s):Dn 1 l (sL l chk s) s:=fun y e=>by
 refine⟨?_,(Vf h.1 e).1⟩;unfold sL at e
 split at e
 ·split at e
  ·cases hn:nL l s.2 with
   |error f=>rw[hn]at e;cases e
   |ok s'=>rw[hn]at e;cases e;exact GJ h hn
  ·cases e
 ·cases e
theorem Ip{l:L8}{chk:L8->Nat}:∀(f:Nat) (acc:Qa) (s:PS),Gd l s->Dn 0 l (moreL l chk f acc s) s
 |0,acc,s,h=>Dn.ok h
 |f+1,acc,s,h=>fun y e=>by
  rw[moreL]at e
  cases hp:paL l [[44],[93]] s with
  |error g=>rw[hp]at e;cases e
  |ok z=>
   rw[hp]at e;obtain⟨a,d⟩:=Vm (zs:=[[44],[93]]) h (by decide) z hp;dsimp only at e
   split at e
   ·cases hs:sL l chk z.2 with
    |error g=>rw[hs]at e;cases e
    |ok x=>
     rw[hs]at e;obtain⟨b,i⟩:=KR a x hs;obtain⟨c,j⟩:=Ip f _ x.2 b y e;exact⟨c,by omega⟩
   ·cases e;exact⟨a,by dsimp only;omega⟩
theorem NN(h:Gd l s):Dn 1 l (sLs l chk F s) s:=fun y e=>by
 unfold sLs at e
 cases hm:mayL l [[91]] s with
 |error g=>rw[hm]at e;cases e
 |ok z=>
  rw[hm]at e;obtain⟨b,d⟩:=Gg (zs:=[[91]]) h (by decide) z hm;dsimp only at e
  cases hs:sL l chk z.2 with
  |error g=>rw[hs]at e;cases e
  |ok x=>
   rw[hs]at e;obtain⟨a,f⟩:=KR b x hs;dsimp only at e
   split at e
   ·cases e;exact⟨a,by dsimp only;omega⟩
   ·obtain⟨c,i⟩:=Ip F _ x.2 a y e;exact⟨c,by omega⟩
theorem Ax(h:Gd l s)(hz:∀ z∈zs,z≠[])(h0:¬ wL zs s.1.spelt=0):¬ s.1.kind=0:=fun e=>h0 (by rw[h.2 e];exact G0 zs hz)
theorem Cz{l:L8}:∀(f b:Nat) (e a:Bool) (s:PS),Gd l s->Dn 0 l (Zb l f b e a s) s
 |0,b,e,a,s,h=>Dn.ok h
 |f+1,b,e,a,s,h=>by
  rw[Zb];by_cases h1:wL [tIs,Zo,Zp] s.1.spelt=0
  ·rw[if_pos h1];by_cases h2:wL [Xi] s.1.spelt=0
   ·rw[if_pos h2];exact Dn.ok h
   ·rw[if_neg h2];cases a
    ·rw[if_neg (by decide)];refine(Dn.next (c:=0) h (Ax (zs:=[Xi]) h (by decide) h2) fun g d=>?_).weak (by omega);exact((KR d).andThen (c':=0) fun x j i=>Cz f _ _ _ j i).weak (by omega)
    ·rw[if_pos rfl];exact Dn.err
  ·rw[if_neg h1];by_cases ht:b=0
   ·rw[if_pos ht];exact(Dn.next (c:=0) h (Ax (zs:=[tIs,Zo,Zp]) h (by decide) h1) fun g d=>Cz f _ _ _ g d).weak (by omega)
   ·rw[if_neg ht];exact Dn.err
theorem CA{k:Nat}(h:Gd l s):Dn 0 l (ZR l F chk k pos s) s:=by
 unfold ZR;exact((Cz F 0 false false s h).andThen (c':=1) fun o f a=>((NN a).andThen (c':=0) fun d g b=>((NN b).andThen (c':=0) fun e i c=>Dn.ok c).weak (by omega)).weak (by omega)).weak (by omega)
theorem Iq{α:Type}{l:L8}{sub:PS->Qb (α×PS)}(b:∀ s,Gd l s->Dn 1 l (sub s) s):∀(f:Nat) (acc:List α) (s:PS),Gd l s->Dn 0 l (gMr l sub f acc s) s
 |0,acc,s,h=>Dn.ok h
 |f+1,acc,s,h=>by
  rw[gMr];refine((Vm h (by decide)).andThen (c':=0) fun i d a=>?_).weak (by omega);split
  ·exact((b d a).andThen (c':=0) fun t e c=>Iq b f _ e c).weak (by omega)
  ·exact Dn.ok a
theorem Ir(a:∀ s,Gd l s->Dn 1 l (sub s) s)(h:Gd l s):Dn 0 l (groupL l F sub s) s:=by
 unfold groupL;exact((Vm h (by decide)).andThen (c':=0) fun _ d b=>((a d b).andThen (c':=0) fun t e c=>Iq a F _ e c).weak (by omega)).weak (by omega)
theorem Qx7(h:Gd l s):Dn 0 l (sizeL l pos s) s:=by
 unfold sizeL;refine((Vm h (by decide)).andThen (c':=0) fun i d a=>?_).weak (by omega);split
 ·rename_i hk;exact(Dn.next (c:=0) a (by omega) fun e b=>Dn.ok b).weak (by omega)
 ·exact Dn.err
theorem Qpn(a:∀ s,Gd l s->Dn 1 l (sub s) s)(k pos:Nat)(h:Gd l s):Dn 0 l (tBd l F sub k pos s) s:=by
 unfold tBd;split
 ·exact Dn.ok h
 ·exact Dn.ok h
 ·exact((a s h).andThen (c':=0) fun _ _ g=>Dn.ok g).weak (by omega)
 ·exact((Ir a h).andThen (c':=0) fun _ _ g=>Dn.ok g).weak (by omega)
 ·exact((Ir a h).andThen (c':=0) fun _ _ g=>Dn.ok g).weak (by omega)
 ·exact((CA h).andThen (c':=0) fun _ _ g=>Dn.ok g).weak (by omega)
 ·exact((CA h).andThen (c':=0) fun _ _ g=>Dn.ok g).weak (by omega)
 ·exact((CA h).andThen (c':=0) fun _ _ g=>Dn.ok g).weak (by omega)
 ·exact((NN h).andThen (c':=0) fun _ _ g=>Dn.ok g).weak (by omega)
 ·exact((Qx7 h).andThen (c':=0) fun _ _ g=>Dn.ok g).weak (by omega)
theorem U4{l:L8}{req:Qa}{F:Nat}:∀(n:Nat) (s:PS),Gd l s->Dn 1 l (Qq l req F n s) s
 |0,s,h=>by
  rw[Qq];split<;>exact Dn.err
 |n+1,s,h=>by
  rw[Qq];by_cases h0:wL tNs s.1.spelt=0
  ·rw[if_pos h0];exact Dn.err
  ·rw[if_neg h0];cases hu:Zw req s.1.spelt
   ·rw[if_neg (by decide)];exact Dn.err
   ·rw[if_pos rfl];exact(Dn.next (c:=0) h (Ax (zs:=tNs) h (by decide) h0) fun b a=>Qpn (fun s g=>U4 n s g) _ _ a).weak (by omega)
theorem Is{α:Type}{l:L8}{sub:PS->Qb (α×PS)}(b:∀ s,Gd l s->Dn 1 l (sub s) s):∀(f:Nat) (acc:List α) (s:PS),Gd l s->Dn 0 l (bMr l sub f acc s) s
 |0,acc,s,h=>Dn.ok h
 |f+1,acc,s,h=>by
  rw[bMr];refine((Gg h (by decide)).andThen (c':=0) fun i d a=>?_).weak (by omega);split
  ·exact((b d a).andThen (c':=0) fun t e c=>Is b f _ e c).weak (by omega)
  ·exact Dn.ok a
theorem BS(b:∀ s,Gd l s->Dn 1 l (sub s) s)(h:Gd l s):Dn 1 l (blockL l F sub s) s:=by
 unfold blockL;exact(Vm h (by decide)).andThen (c':=0) fun _ c a=>Is b F _ c a
theorem BJ(d:∀ s,Gd l s->Dn 1 l (tst s) s)(c:∀ s,Gd l s->Dn 1 l (sub s) s)(h:Gd l s):Dn 1 l (armL l F tst sub s) s:=by
 unfold armL;exact((d s h).andThen (c':=0) fun t f a=>((BS c a).andThen (c':=0) fun e g b=>Dn.ok b).weak (by omega))
theorem It{α β:Type}{l:L8}{F:Nat}{tst:PS->Qb (β×PS)}{sub:PS->Qb (α×PS)}(d:∀ s,Gd l s->Dn 1 l (tst s) s)(c:∀ s,Gd l s->Dn 1 l (sub s) s):∀(f:Nat) (acc:List (β×List α)) (s:PS),Gd l s->Dn 0 l (aMr l F tst sub f acc s) s
 |0,acc,s,h=>Dn.ok h
 |f+1,acc,s,h=>by
  rw[aMr];refine((Gg h (by decide)).andThen (c':=0) fun i j b=>?_).weak (by omega);split
  ·exact Dn.ok b
  ·exact((BJ d c b).andThen (c':=0) fun a g e=>It d c f _ g e).weak (by omega)
theorem Vu(h:Gd l s):Dn 0 l (semi l s a) s:=by
 unfold semi;exact((Vm h (by decide)).andThen (c':=0) fun _ c b=>Dn.ok b).weak (by omega)
theorem Qr0(f:∀ s,Gd l s->Dn 1 l (tst s) s)(e:∀ s,Gd l s->Dn 1 l (sub s) s)(k pos:Nat)(h:Gd l s):Dn 0 l (cBd l F tst sub k pos s) s:=by
 unfold cBd;split
 ·exact Vu h
 ·exact Vu h
 ·exact Vu h
 ·exact((KR h).andThen (c':=0) fun _ _ g=>Vu g).weak (by omega)
 ·exact((KR h).andThen (c':=0) fun _ _ g=>Vu g).weak (by omega)
 ·exact((KR h).andThen (c':=0) fun _ _ g=>Vu g).weak (by omega)
 ·exact((Gg h (by decide)).andThen (c':=0) fun _ _ c=>((KR c).andThen (c':=0) fun _ _ d=>((KR d).andThen (c':=0) fun _ _ b=>Vu b).weak (by omega)).weak (by omega)).weak (by omega)
 ·refine((BJ f e h).andThen (c':=0) fun a m c=>((It f e F _ m c).andThen (c':=0) fun n o d=>((Gg d (by decide)).andThen (c':=0) fun i p b=>?_).weak (by omega)).weak (by omega)).weak (by omega);split
  ·exact Dn.ok b
  ·exact((BS e b).andThen (c':=0) fun _ _ j=>Dn.ok j).weak (by omega)
theorem U3{l:L8}{req:Qa}{F:Nat}:∀(n:Nat) (s:PS),Gd l s->Dn 1 l (cmdL l req F n s) s
 |0,s,h=>by
  rw[cmdL];split<;>exact Dn.err
 |n+1,s,h=>by
  rw[cmdL];by_cases h0:wL cNs s.1.spelt=0
  ·rw[if_pos h0];exact Dn.err
  ·rw[if_neg h0];cases hu:Zw req s.1.spelt
   ·rw[if_neg (by decide)];exact Dn.err
   ·rw[if_pos rfl];exact(Dn.next (c:=0) h (Ax (zs:=cNs) h (by decide) h0) fun b a=>Qr0 (fun s g=>U4 n s g) (fun s g=>U3 n s g) _ _ a).weak (by omega)
def skipS(r:L8)(p:Nat):Qb Nat:=QW (r.length+1) r p
theorem Ay:∀(f g:Nat) (r:L8) (p:Nat),r.length<f->r.length<g->QW f r p=QW g r p
 |0,_,r,p,h,_=>absurd h (Nat.not_lt_zero _)
 |_+1,0,r,p,_,h=>absurd h (Nat.not_lt_zero _)
 |f+1,g+1,[],p,_,_=>rfl
 |f+1,g+1,c::r,p,h1,h2=>by
  simp only[QD]at h1 h2;simp only[QW];have a:=AR c r;rw[Ay f g r (p+1) (by omega) (by omega)];rw[Ay f g (List.drop (lineLen (c::r)) (c::r)) _ (by rw[List.length_drop];simp only[QD];omega) (by rw[List.length_drop];simp only[QD];omega)];rw[Ay f g (List.drop (4+(Lib.index (r.drop 1) [42,47]).toNat) (c::r)) _ (by rw[List.length_drop];simp only[QD];omega) (by rw[List.length_drop];simp only[QD];omega)]
theorem CB(f:Nat)(r:L8)(p:Nat)(h:r.length<f):QW f r p=skipS r p:=Ay _ _ _ _ h (Nat.lt_succ_self _)
theorem E7(r:L8)(p:Nat)(h:ZN c.toNat=true):skipS (c::r) p=skipS r (p+1):=by
 show QW (r.length+1+1) (c::r) p=_
 simp only[QW];rw[if_pos h];rfl
theorem QrP(r:L8)(p:Nat)(h:ZN c.toNat=false)(a:c.toNat=35):skipS (c::r) p=skipS ((c::r).drop (lineLen (c::r))) (p+lineLen (c::r)):=by
 show QW (r.length+1+1) (c::r) p=_
 simp only[QW];have b:=AR c r;rw[if_neg (by rw[h];decide),if_pos a,CB _ _ _ (by rw[List.length_drop];simp only[QD];omega)]
theorem Qot{c:UInt8}(r:L8)(p:Nat)(h:ZN c.toNat=false)(a:¬ c.toNat=35)(b:Lib.hasPrefix (c::r) [47,42]=true)(d:Lib.index (r.drop 1) [42,47]<0):skipS (c::r) p=.error ⟨2,p⟩:=by
 show QW (r.length+1+1) (c::r) p=_
 simp only[QW];rw[if_neg (by rw[h];decide),if_neg a,if_pos b,if_pos d]
theorem QtL{c:UInt8}(r:L8)(p:Nat)(h:ZN c.toNat=false)(a:¬ c.toNat=35)(b:Lib.hasPrefix (c::r) [47,42]=true)(d:¬ Lib.index (r.drop 1) [42,47]<0):skipS (c::r) p=skipS ((c::r).drop (4+(Lib.index (r.drop 1) [42,47]).toNat)) (p+(4+(Lib.index (r.drop 1) [42,47]).toNat)):=by
 show QW (r.length+1+1) (c::r) p=_
 simp only[QW];rw[if_neg (by rw[h];decide),if_neg a,if_pos b,if_neg d,CB _ _ _ (by rw[List.length_drop];simp only[QD];omega)]
theorem QrC{c:UInt8}(r:L8)(p:Nat)(h:ZN c.toNat=false)(a:¬ c.toNat=35)(b:Lib.hasPrefix (c::r) [47,42]=false):skipS (c::r) p=.ok p:=by
 show QW (r.length+1+1) (c::r) p=_
 simp only[QW];rw[if_neg (by rw[h];decide),if_neg a,if_neg (by rw[b];decide)]
theorem Qx9(l:L8)(p:Nat):nL l p=match skipS (l.drop p) p with
 | .error f=>.error f
 | .ok n=>QV (l.drop n) n:=by
 unfold nL;rw[CB _ _ _ (by rw[List.length_drop];omega)]
 all_goals (cases skipS (List.drop p l) p<;>rfl)
def KT(c:UInt8):L8:=if c=34\/c=92 then [92,c]else [c]
def QR(x:L8):L8:=34::(x.flatMap KT++[34])
def YM(sep:L8):Qa->L8
 | []=>[]
 | [x]=>x
 |x::y::r=>x++sep++YM sep (y::r)
def Z4(xs:Qa):L8:=
 match xs with
 | [x]=>QR x
 |xs=>[91]++YM [44,32] (xs.map QR)++[93]
def YL(t p:L8):L8:=(if t≠[]/\p≠[]then t++[32]else t)++p
def Zc(parts:Qa):L8:=parts.foldl YL []
def YO(tag:Nat)(tags:Qa):L8:=if tag=0 then []else tags.getD (tag - 1) []
def V0(n:Nat):L8:=Lib.decDigits n
def YN(hw:L8)(x:QX):L8:=
 Zc [hw,if x.octet then Zc [Xi,QR Z0]else [],if x.tag≠1 then YO x.tag [tIs,Zo,Zp]else [],Z4 x.fr,Z4 x.keys]
def Yu(hw:L8)(ts:Qa):L8:=hw++[32,40]++YM [44,32] ts++[41]
def ZP(x:QX)(ts:Qa):L8:=
 match x.kind with
 |0=>Jv
 |1=>Jw
 |2=>Zc (kNot::ts)
 |3=>Yu YF ts
 |4=>Yu YG ts
 |5=>YN X7 x
 |6=>YN QN x
 |7=>YN ZA x
 |8=>Zc [XO,Z4 x.fr]
 |_=>Zc [Yh,YO x.tag [X3,X4],V0 x.num]
def Q3:(n:Nat)->QQ n->L8
 |0,_=>[]
 |n+1,x=>ZP x.1 (x.2.map (Q3 n))
def KI:L8:=125::32::Xe
def JG:L8:=[123,10]
def UC:L8:=125::32::(Xv++[32,123,10])
def Q7{α:Type}(txt:α->L8->L8)(cs:List α)(i:L8):L8:=cs.flatMap fun c=>i++txt c i++[10]
def Jp(word i:L8)(t b:L8):L8:=Zc [word,t,JG]++b++i
def Xh(i:L8):L8->List (L8×L8)->L8
 |_,[]=>[]
 |word,a::r=>Jp word i a.1 a.2++Xh i KI r
def XM(x:Zx)(i:L8)(arms:List (L8×L8))(els:L8):L8:=
 match x.kind with
 |0=>JH++[59]
 |1=>JI++[59]
 |2=>JJ++[59]
 |3=>Zc [Ze,QR x.arg]++[59]
 |4=>Zc [Yn,QR x.arg]++[59]
 |5=>Zc [Zf,QR x.arg]++[59]
 |6=>Zc [ZW,YO x.tag [Xs,Xt,Xu],QR x.var,QR x.arg]++[59]
 |_=>Xh i kIf arms++(if x.els then UC++els++i else [])++[125]
def Q8:(n:Nat)->QF n->L8->L8
 |0,_,_=>[]
 |n+1,x,i=>XM x.1 i (x.2.1.map fun a=>(Q3 n a.1,Q7 (Q8 n) a.2 (i++[32,32]))) (Q7 (Q8 n) x.2.2 (i++[32,32]))
def Gb(req:Qa):L8:=if req=[]then []else YY++[32]++Z4 req++[59,10]
def JK(t:Qa×List (QF 7)):L8:=Gb t.1++Q7 (Q8 7) t.2 []
theorem Iu:∀(ps:Qa) (t:L8),t.length<=(ps.foldl YL t).length
 | [],t=>Nat.le_refl _
 |p::r,t=>by
  have a:=Iu r (YL t p);have b:t.length<=(YL t p).length:=by unfold YL;split<;>simp
  rw[List.foldl_cons];omega
theorem Iv:∀(ps:Qa) (t p:L8),p∈ps->p.length<=(ps.foldl YL t).length
 | [],t,p,h=>by cases h
 |q::r,t,p,h=>by
  rw[List.foldl_cons];rcases List.mem_cons.1 h with h|h
  ·subst h;have a:=Iu r (YL t p);have b:p.length<=(YL t p).length:=by unfold YL;rw[Qk];omega
   omega
  ·exact Iv r _ p h
theorem Jf{ps:Qa}{p:L8}(h:p∈ps):p.length<=(Zc ps).length:=Iv ps [] p h
theorem Au:∀(xs:Qa) (x:L8),x∈xs->x.length<=(YM [44,32] xs).length
 | [],x,h=>by cases h
 | [y],x,h=>by rw[QY h];exact Nat.le_refl _
 |y::z::r,x,h=>by
  simp only[YM,Qk];rcases List.mem_cons.1 h with h|h
  ·subst h;omega
  ·have:=Au (z::r) x h;omega
theorem Hp{a:Qa}{hw:L8}{t:L8}(h:t∈a):t.length<=(Yu hw a).length:=by
 have:=Au a t h;unfold Yu;simp only[Qk];omega
theorem Ng:∀ xs:Qa,xs.length<=(YM [44,32] xs).length+1
 | []=>by simp
 | [x]=>by simp
 |x::y::r=>by
  have:=Ng (y::r);simp only[YM,Qk,QD,Q4]at this ⊢;omega
def Vv(i:L8)(ts:Qa):L8:=ts.flatMap fun t=>i++t++[10]
theorem Qv1(txt:α->L8->L8)(a:List α)(i:L8):Q7 txt a i=Vv i (a.map fun c=>txt c i):=by
 unfold Q7 Vv;rw[List.flatMap_map]
theorem Ht(i:L8):∀ ts:Qa,ts.length<=(Vv i ts).length
 | []=>by simp
 |t::ts=>by
  have:=Ht i ts;unfold Vv at this ⊢;rw[List.flatMap_cons];simp only[Qk,QD,Q4]at this ⊢;omega
theorem Hu(i:L8):∀(a:Qa) (t:L8),t∈a->t.length<=(Vv i a).length
 | [],t,h=>by cases h
 |u::a,t,h=>by
  unfold Vv;rw[List.flatMap_cons];simp only[Qk,QD,Q4];rcases List.mem_cons.1 h with h|h
  ·subst h;omega
  ·have:=Hu i a t h;unfold Vv at this;simp only[List.append_assoc]at *;omega
theorem Hw(i:L8):∀(al:List (L8×L8)) (b:L8),al.length<=(Xh i b al).length
 | [],b=>by simp
 |a::r,b=>by
  have:=Hw i r KI
  have c:1<=(Jp b i a.1 a.2).length:=by
   unfold Jp;rw[Qk,Qk];have:=Jf (ps:=[b,a.1,JG]) (p:=JG) (by simp);have:JG.length=2:=rfl;omega
  show(a::r).length<=(Jp b i a.1 a.2++Xh i KI r).length
  rw[Qk,QD];omega
theorem Hx(i:L8):∀(al:List (L8×L8)) (b:L8) (a:L8×L8),a∈al->a.1.length<=(Xh i b al).length/\a.2.length<=(Xh i b al).length
 | [],b,a,h=>by cases h
 |u::al,b,a,h=>by
  show a.1.length<=(Jp b i u.1 u.2++Xh i KI al).length/\a.2.length<=(Jp b i u.1 u.2++Xh i KI al).length
  rw[Qk];rcases List.mem_cons.1 h with h|h
  ·subst h;have c:=Jf (ps:=[b,a.1,JG]) (p:=a.1) (by simp);unfold Jp;rw[Qk,Qk];omega
  ·have:=Hx i al KI a h;omega
structure Gp (l:L8) (s:PS):Prop where
 le:s.2<=l.length
 lt:s.1.pos<=s.2
 word:s.1.kind≠0->s.1.pos < s.2
 said:s.1.kind=5->s.1.said.length+2<=s.2 - s.1.pos
 spelt:s.1.kind=0->s.1.spelt=[]
 num:s.1.num<=2147483647
 spl:s.1.spelt.length<=s.2 - s.1.pos
def ph(l:L8)(s:PS):Nat:=l.length - s.1.pos
theorem Quo{r:L8}{x:PS}(h:QV r p=.ok x):x.1.spelt.length<=x.2 - x.1.pos:=by
 have a:∀(k n:Nat) (t:L8),(XC k t p n).1.spelt.length<=(XC k t p n).2 - (XC k t p n).1.pos:=fun k n t=>by
  unfold XC;simp[zL];omega
 cases r with
 |nil=>unfold QV at h;dsimp only at h;cases h;simp
 |cons c r=>
  unfold QV at h;dsimp only at h
  split at h
  ·cases h;exact a _ _ _
  ·split at h
   ·split at h
    ·cases h
    ·cases h;exact a _ _ _
   ·split at h
    ·obtain⟨b,d,he⟩:∃ b d:Nat,sNL (c::r) p=if Q1 ((c::r).getD b 0)then .error ⟨2,p⟩else if 2147483647<d then .error ⟨3,p⟩else .ok (⟨4,p,[],[],d⟩,p+b):=⟨_,_,rfl⟩
     rw[he]at h
     split at h
     ·cases h
     ·split at h
      ·cases h
      ·cases h;simp
    ·split at h
     ·unfold quoteR at h
      cases hq:qL r with
      |none=>rw[hq]at h;cases h
      |some y=>rw[hq]at h;cases h;simp
     ·split at h
      ·cases h;exact a _ _ _
      ·cases h
theorem GU(l:L8)(p:Nat)(j:p<=l.length)(x:PS)(h:QV (l.drop p) p=.ok x):Gp l x/\x.1.pos=p:=by
 obtain⟨f,e,k,g,i⟩:=Im l p j x h;refine⟨⟨e,by omega,fun a=>by have:=i a;omega,fun a=>?_,fun a=>(g a).2,(In l p x h).2,Quo h⟩,f⟩;generalize l.drop p=r at h
 cases r with
 |nil=>unfold QV at h;dsimp only at h;cases h;cases a
 |cons c r=>
  unfold QV at h;dsimp only at h
  split at h
  ·cases h;cases a
  ·split at h
   ·split at h
    ·cases h
    ·cases h;cases a
   ·split at h
    ·obtain⟨b,d,he⟩:∃ b d:Nat,sNL (c::r) p=if Q1 ((c::r).getD b 0)then .error ⟨2,p⟩else if 2147483647<d then .error ⟨3,p⟩else .ok (⟨4,p,[],[],d⟩,p+b):=⟨_,_,rfl⟩
     rw[he]at h
     split at h
     ·cases h
     ·split at h
      ·cases h
      ·cases h;cases a
    ·split at h
     ·unfold quoteR at h
      cases hq:qL r with
      |none=>rw[hq]at h;cases h
      |some y=>
       rw[hq]at h;have e:=Aw _ _ hq;cases h;simp;omega
     ·split at h
      ·cases h;cases a
      ·cases h
theorem V8{y:PS}(h:Gp l s)(a:nL l s.2=.ok y):Gp l y/\s.2<=y.1.pos:=by
 unfold nL at a
 cases hs:QW (l.length+1) (l.drop s.2) s.2 with
 |error f=>rw[hs]at a;cases a
 |ok n=>
  rw[hs]at a;have b:=Kb l _ s.2 n h.le hs;have c:=GU l n b.2 y a;exact⟨c.1,by omega⟩
def Bd{α:Type}(c:Nat)(l:L8)(len:α->Nat)(r:Qb (α×PS))(s:PS):Prop:=∀ y,r=.ok y->Gp l y.2/\len y.1+c+64*ph l y.2<=64*ph l s
theorem Bd.err{c:Nat}{a:α->Nat}:Bd c l a (.error f) s:=fun y h=>by cases h
theorem Bd.okk{b:α->Nat}(h:Gp l s)(c:b a=0):Bd 0 l b (.ok (a,s)) s:=fun y e=>by cases e;exact⟨h,by simp only[c];omega⟩
theorem J5{y:PS}(h:Gp l s)(b:s.1.kind≠0)(c:nL l s.2=.ok y):Gp l y/\64+64*ph l y<=64*ph l s:=by
 obtain⟨a,d⟩:=V8 h c;have e:=h.word b;have f:=h.le;have g:=a.le;have i:=a.lt;refine⟨a,?_⟩;unfold ph;omega
theorem Km(h:Gp l s)(hz:∀ z∈zs,z≠[])(h0:¬ wL zs s.1.spelt=0):s.1.kind≠0:=fun e=>h0 (by rw[h.spelt e];exact G0 zs hz)
theorem Xj(h:Gp l s)(a:∀ z∈zs,z≠[]):Bd 64 l (fun _=>0) (paL l zs s) s:=fun y e=>by
 unfold paL at e
 split at e
 ·cases e
 ·rename_i h0
  cases hn:nL l s.2 with
  |error f=>rw[hn]at e;cases e
  |ok s'=>rw[hn]at e;cases e;have:=J5 h (Km h a h0) hn;exact⟨this.1,by dsimp only;omega⟩
theorem XW(h:Gp l s)(a:∀ z∈zs,z≠[]):Bd 0 l (fun i=>if i=0 then 0 else 64) (mayL l zs s) s:=fun y e=>by
 unfold mayL at e
 split at e
 ·cases e;exact⟨h,by simp⟩
 ·rename_i h0
  cases hn:nL l s.2 with
  |error f=>rw[hn]at e;cases e
  |ok s'=>rw[hn]at e;cases e;have:=J5 h (Km h a h0) hn;exact⟨this.1,by dsimp only;rw[if_neg h0];omega⟩
theorem Iw(x:L8):(QR x).length<=2*x.length+2:=by
 unfold QR;rw[QD,Qk]
 have:(x.flatMap KT).length<=2*x.length:=by
  induction x with
  |nil=>simp
  |cons c r ih=>
   rw[List.flatMap_cons,Qk,QD];have:(KT c).length<=2:=by unfold KT;split<;>simp
   omega
 simp only[QD,Q4];omega
theorem XN(h:Gp l s):Bd 32 l (fun x=>(QR x).length) (sL l chk s) s:=fun y e=>by
 unfold sL at e
 split at e
 ·rename_i hk
  split at e
  ·cases hn:nL l s.2 with
   |error f=>rw[hn]at e;cases e
   |ok s'=>
    rw[hn]at e;cases e;obtain⟨a,b⟩:=V8 h hn;have c:=h.said hk;have d:=h.le;have g:=a.le;have i:=a.lt;have j:=Iw s.1.said;have k:=h.lt;refine⟨a,?_⟩;show(QR s.1.said).length+32+64*ph l s'<=64*ph l s
    unfold ph;omega
  ·cases e
 ·cases e
def YR(xs:Qa):Nat:=(xs.map fun x=>x.length+2).sum
theorem Ix(x:L8)(xs:Qa):YR (x::xs)=x.length+2+YR xs:=by simp[YR]
theorem CD(xs a:Qa):YR (xs++a)=YR xs+YR a:=by simp[YR]
theorem Gq(x:L8):YR [x]=x.length+2:=by simp[YR]
theorem Iy(xs:Qa):(YM [44,32] xs).length<=YR xs:=by
 induction xs with
 |nil=>simp[YM,YR]
 |cons x r ih=>
  cases r with
  |nil=>simp[YM,YR]
  |cons y r=>
   rw[Ix];simp only[YM,Qk,QD,Q4];omega
def Xk(xs:Qa):Nat:=YR (xs.map QR)
theorem Az(xs:Qa):(Z4 xs).length<=Xk xs+2:=by
 unfold Z4 Xk;split
 ·rw[List.map_cons,List.map_nil,Gq];omega
 ·have:=Iy (xs.map QR);simp only[Qk,QD,Q4];omega
theorem Iz{l:L8}{chk:L8->Nat}:∀(f:Nat) (acc:Qa) (s:PS),Gp l s->∀ y,moreL l chk f acc s=.ok y->Gp l y.2/\Xk y.1+64*ph l y.2<=Xk acc+64*ph l s
 |0,acc,s,h=>fun y e=>by cases e;exact⟨h,Nat.le_refl _⟩
 |f+1,acc,s,h=>fun y e=>by
  rw[moreL]at e
  cases hp:paL l [[44],[93]] s with
  |error g=>rw[hp]at e;cases e
  |ok z=>
   rw[hp]at e;obtain⟨a,i⟩:=Xj (zs:=[[44],[93]]) h (by decide) z hp;dsimp only at e
   split at e
   ·cases hs:sL l chk z.2 with
    |error g=>rw[hs]at e;cases e
    |ok x=>
     rw[hs]at e;obtain⟨b,j⟩:=XN a x hs;obtain⟨c,d⟩:=Iz f _ x.2 b y e;refine⟨c,?_⟩;unfold Xk at *;rw[List.map_append,CD,List.map_cons,List.map_nil,Gq]at d;dsimp only at *;omega
   ·cases e;exact⟨a,by dsimp only;omega⟩
theorem K9(h:Gp l s):Bd 16 l Xk (sLs l chk F s) s:=fun y e=>by
 unfold sLs at e
 cases hm:mayL l [[91]] s with
 |error g=>rw[hm]at e;cases e
 |ok z=>
  rw[hm]at e;obtain⟨b,d⟩:=XW (zs:=[[91]]) h (by decide) z hm;dsimp only at e
  cases hs:sL l chk z.2 with
  |error g=>rw[hs]at e;cases e
  |ok x=>
   rw[hs]at e;obtain⟨a,f⟩:=XN b x hs;dsimp only at e;have j:Xk [x.1]=(QR x.1).length+2:=by unfold Xk;rw[List.map_cons,List.map_nil,Gq]
   split at e
   ·cases e;exact⟨a,by dsimp only at *;omega⟩
   ·obtain⟨c,i⟩:=Iz F _ x.2 a y e;exact⟨c,by dsimp only at *;omega⟩
theorem QjX(t p:L8):(YL t p).length<=t.length+1+p.length:=by
 unfold YL;split<;>simp only[Qk,QD,Q4]<;>omega
def JR(ps:Qa):Nat:=(ps.map fun p=>p.length+1).sum
theorem IA:∀(ps:Qa) (t:L8),(ps.foldl YL t).length<=t.length+JR ps
 | [],t=>by simp[JR]
 |p::r,t=>by
  have a:=IA r (YL t p);have b:=QjX t p;rw[List.foldl_cons];simp only[JR,List.map_cons,List.sum_cons]at a ⊢;omega
theorem Ui(ps:Qa):(Zc ps).length<=JR ps:=by
 have:=IA ps [];simpa[Zc]using this
theorem CE(b:Nat)(a:Qa)(m:Nat)(h:∀ z∈a,z.length<=m):(YO b a).length<=m:=by
 unfold YO;split
 ·simp
 ·rw[List.getD_eq_getElem?_getD]
  cases he:a[b - 1]? with
  |none=>simp
  |some z=>exact h z (List.mem_of_getElem? he)
theorem AA{l:L8}:∀(f b:Nat) (i a:Bool) (s:PS),Gp l s->Bd 0 l (fun _=>0) (Zb l f b i a s) s
 |0,b,i,a,s,h=>Bd.okk h rfl
 |f+1,b,i,a,s,h=>fun y e=>by
  rw[Zb]at e;by_cases h1:wL [tIs,Zo,Zp] s.1.spelt=0
  ·rw[if_pos h1]at e;by_cases h2:wL [Xi] s.1.spelt=0
   ·rw[if_pos h2]at e;cases e;exact⟨h,by simp⟩
   ·rw[if_neg h2]at e;cases a
    ·rw[if_neg (by decide)]at e
     cases hn:nL l s.2 with
     |error g=>rw[Yd hn]at e;cases e
     |ok z=>
      rw[XV hn]at e;obtain⟨c,j⟩:=J5 h (Km (zs:=[Xi]) h (by decide) h2) hn
      cases hs:sL l (fun x=>if 0<wL [Z0,Jd] x then 0 else 7) z with
      |error g=>rw[Qi hs]at e;cases e
      |ok x=>
       rw[Qe hs]at e;obtain⟨k,n⟩:=XN c x hs;obtain⟨d,m⟩:=AA f _ _ _ x.2 k y e;exact⟨d,by dsimp only at *;omega⟩
    ·rw[if_pos rfl]at e;cases e
  ·rw[if_neg h1]at e;by_cases ht:b=0
   ·rw[if_pos ht]at e
    cases hn:nL l s.2 with
    |error g=>rw[Yd hn]at e;cases e
    |ok z=>
     rw[XV hn]at e;obtain⟨c,j⟩:=J5 h (Km (zs:=[tIs,Zo,Zp]) h (by decide) h1) hn;obtain⟨d,m⟩:=AA f _ _ _ z c y e;exact⟨d,by dsimp only at *;omega⟩
   ·rw[if_neg ht]at e;cases e
theorem CF(hw:L8)(x:QX)(h:hw.length<=8):(YN hw x).length<=52+Xk x.fr+Xk x.keys:=by
 unfold YN;have a:=Ui [hw,if x.octet then Zc [Xi,QR Z0]else [],if x.tag≠1 then YO x.tag [tIs,Zo,Zp]else [],Z4 x.fr,Z4 x.keys];have b:=Az x.fr;have c:=Az x.keys
 have d:(if x.octet then Zc [Xi,QR Z0]else []).length<=21:=by
  split
  ·decide
  ·simp
 have e:(if x.tag≠1 then YO x.tag [tIs,Zo,Zp]else []).length<=9:=by
  split
  ·exact CE _ _ 9 (by decide)
  ·simp
 simp only[JR,List.map_cons,List.map_nil,List.sum_cons,List.sum_nil]at a;omega
theorem Vg{k:Nat}(h:Gp l s):Bd 16 l (fun x=>Xk x.fr+Xk x.keys) (ZR l F chk k pos s) s:=fun y e=>by
 unfold ZR at e
 cases h1:Zb l F 0 false false s with
 |error f=>rw[Qi h1]at e;cases e
 |ok a=>
  rw[Qe h1]at e;obtain⟨b,j⟩:=AA F 0 false false s h a h1
  cases h2:sLs l chk F a.2 with
  |error f=>rw[Qi h2]at e;cases e
  |ok c=>
   rw[Qe h2]at e;obtain⟨g,m⟩:=K9 b c h2
   cases h3:sLs l (fun _=>0) F c.2 with
   |error f=>rw[Qi h3]at e;cases e
   |ok d=>
    rw[Qe h3]at e;obtain⟨i,n⟩:=K9 g d h3;cases e;exact⟨i,by dsimp only at *;omega⟩
theorem IB{α:Type}{l:L8}{sub:PS->Qb (α×PS)}{txt:α->L8}(b:∀ s,Gp l s->Bd 8 l (fun x=>(txt x).length) (sub s) s):∀(f:Nat) (acc:List α) (s:PS),Gp l s->∀ y,gMr l sub f acc s=.ok y->Gp l y.2/\YR (y.1.map txt)+64*ph l y.2<=YR (acc.map txt)+64*ph l s
 |0,acc,s,h=>fun y e=>by cases e;exact⟨h,Nat.le_refl _⟩
 |f+1,acc,s,h=>fun y e=>by
  rw[gMr]at e
  cases hp:paL l [[44],[41]] s with
  |error g=>rw[Qi hp]at e;cases e
  |ok z=>
   rw[Qe hp]at e;obtain⟨a,j⟩:=Xj (zs:=[[44],[41]]) h (by decide) z hp
   split at e
   ·cases hq:sub z.2 with
    |error g=>rw[Qi hq]at e;cases e
    |ok x=>
     rw[Qe hq]at e;obtain⟨c,k⟩:=b z.2 a x hq;obtain⟨d,i⟩:=IB b f _ x.2 c y e;refine⟨d,?_⟩;rw[List.map_append,CD,List.map_cons,List.map_nil,Gq]at i;dsimp only at *;omega
   ·cases e;exact⟨a,by dsimp only at *;omega⟩
theorem IC{txt:α->L8}(a:∀ s,Gp l s->Bd 8 l (fun x=>(txt x).length) (sub s) s)(h:Gp l s):Bd 16 l (fun xs=>YR (xs.map txt)) (groupL l F sub s) s:=fun y e=>by
 unfold groupL at e
 cases hp:paL l [[40]] s with
 |error g=>rw[Qi hp]at e;cases e
 |ok z=>
  rw[Qe hp]at e;obtain⟨b,i⟩:=Xj (zs:=[[40]]) h (by decide) z hp
  cases hq:sub z.2 with
  |error g=>rw[Qi hq]at e;cases e
  |ok x=>
   rw[Qe hq]at e;obtain⟨c,j⟩:=a z.2 b x hq;obtain⟨d,f⟩:=IB a F _ x.2 c y e;refine⟨d,?_⟩;rw[List.map_cons,List.map_nil,Gq]at f;dsimp only at *;omega
theorem QtN(n:Nat)(h:n<=2147483647):(V0 n).length<=21:=by
 have:=Lib.itoa_length_le n (by omega) (by omega);rw[Lib.itoa_nonneg]at this;exact this
theorem EO(h:Gp l s):∀ y,sizeL l pos s=.ok y->Gp l y.2/\64*ph l y.2+16<=64*ph l s/\y.1.kind=9/\y.1.num<=2147483647:=fun y e=>by
 unfold sizeL at e
 cases hp:paL l [X3,X4] s with
 |error g=>rw[Qi hp]at e;cases e
 |ok z=>
  rw[Qe hp]at e;obtain⟨a,d⟩:=Xj (zs:=[X3,X4]) h (by decide) z hp
  split at e
  ·rename_i hk
   cases hn:nL l z.2.2 with
   |error g=>rw[Yd hn]at e;cases e
   |ok x=>
    rw[XV hn]at e;obtain⟨b,c⟩:=J5 a (by omega) hn;cases e;exact⟨b,by dsimp only at *;omega,rfl,a.num⟩
  ·cases e
theorem Ga{k:Nat}{y:QX×PS}(h:ZR l F chk k pos s=.ok y):y.1.kind=k:=by
 unfold ZR at h
 cases h1:Zb l F 0 false false s with
 |error f=>rw[Qi h1]at h;cases h
 |ok a=>
  rw[Qe h1]at h
  cases h2:sLs l chk F a.2 with
  |error f=>rw[Qi h2]at h;cases h
  |ok c=>
   rw[Qe h2]at h
   cases h3:sLs l (fun _=>0) F c.2 with
   |error f=>rw[Qi h3]at h;cases h
   |ok e=>rw[Qe h3]at h;cases h;rfl
theorem Qsa(x:QX)(a:Qa)(h:x.kind=5):ZP x a=YN X7 x:=by simp only[ZP,h]
theorem QrR(x:QX)(a:Qa)(h:x.kind=6):ZP x a=YN QN x:=by simp only[ZP,h]
theorem QsS(x:QX)(a:Qa)(h:x.kind=7):ZP x a=YN ZA x:=by simp only[ZP,h]
theorem Qrh(x:QX)(a:Qa)(h:x.kind=9):ZP x a=Zc [Yh,YO x.tag [X3,X4],V0 x.num]:=by simp only[ZP,h]
theorem Qpo(n:Nat){sub:PS->Qb (QQ n×PS)}(f:∀ s,Gp l s->Bd 8 l (fun x=>(Q3 n x).length) (sub s) s)(k pos:Nat)(h:Gp l s):∀ y,tBd l F sub k pos s=.ok y->Gp l y.2/\(Q3 (n+1) y.1).length+64*ph l y.2<=56+64*ph l s:=by
 intro y e
 have m:∀(i:L8) (d:Qa),i.length<=8->(Yu i d).length<=12+YR d:=fun i d r=>by
  have:=Iy d;simp only[Yu,Qk,QD,Q4];omega
 unfold tBd at e
 split at e
 ·cases e;exact⟨h,by show(4:Nat)+64*ph l s<=_;omega⟩
 ·cases e;exact⟨h,by show(5:Nat)+64*ph l s<=_;omega⟩
 ·cases hq:sub s with
  |error g=>rw[Qi hq]at e;cases e
  |ok x=>
   rw[Qe hq]at e;obtain⟨a,c⟩:=f s h x hq;cases e;refine⟨a,?_⟩;show(Zc [kNot,Q3 n x.1]).length+64*ph l x.2<=_
   have:=Ui [kNot,Q3 n x.1];simp only[JR,List.map_cons,List.map_nil,List.sum_cons,List.sum_nil,show kNot.length=3 from rfl]at this;dsimp only at *;omega
 ·cases hq:groupL l F sub s with
  |error g=>rw[Qi hq]at e;cases e
  |ok x=>
   rw[Qe hq]at e;obtain⟨a,c⟩:=IC f h x hq;cases e;refine⟨a,?_⟩;show(Yu YF (x.1.map (Q3 n))).length+64*ph l x.2<=_
   have:=m YF (x.1.map (Q3 n)) (by decide);dsimp only at *;omega
 ·cases hq:groupL l F sub s with
  |error g=>rw[Qi hq]at e;cases e
  |ok x=>
   rw[Qe hq]at e;obtain⟨a,c⟩:=IC f h x hq;cases e;refine⟨a,?_⟩;show(Yu YG (x.1.map (Q3 n))).length+64*ph l x.2<=_
   have:=m YG (x.1.map (Q3 n)) (by decide);dsimp only at *;omega
 ·cases hq:ZR l F (fun _=>0) 5 pos s with
  |error g=>rw[Qi hq]at e;cases e
  |ok x=>
   rw[Qe hq]at e;obtain⟨a,c⟩:=Vg h x hq;have b:=Ga hq;cases e;refine⟨a,?_⟩;show(ZP x.1 []).length+64*ph l x.2<=_
   have:=CF X7 x.1 (by decide);rw[Qsa _ _ b];dsimp only at *;omega
 ·cases hq:ZR l F (fun x=>if 0<wL [Yy,kTo] (zL x)then 0 else 7) 6 pos s with
  |error g=>rw[Qi hq]at e;cases e
  |ok x=>
   rw[Qe hq]at e;obtain⟨a,c⟩:=Vg h x hq;have b:=Ga hq;cases e;refine⟨a,?_⟩;show(ZP x.1 []).length+64*ph l x.2<=_
   have:=CF QN x.1 (by decide);rw[QrR _ _ b];dsimp only at *;omega
 ·cases hq:ZR l F (fun _=>0) 7 pos s with
  |error g=>rw[Qi hq]at e;cases e
  |ok x=>
   rw[Qe hq]at e;obtain⟨a,c⟩:=Vg h x hq;have b:=Ga hq;cases e;refine⟨a,?_⟩;show(ZP x.1 []).length+64*ph l x.2<=_
   have:=CF ZA x.1 (by decide);rw[QsS _ _ b];dsimp only at *;omega
 ·cases hq:sLs l (fun _=>0) F s with
  |error g=>rw[Qi hq]at e;cases e
  |ok x=>
   rw[Qe hq]at e;obtain⟨a,c⟩:=K9 h x hq;cases e;refine⟨a,?_⟩;show(Zc [XO,Z4 x.1]).length+64*ph l x.2<=_
   have b:=Ui [XO,Z4 x.1];have j:=Az x.1;simp only[JR,List.map_cons,List.map_nil,List.sum_cons,List.sum_nil,show XO.length=6 from rfl]at b;omega
 ·cases hq:sizeL l pos s with
  |error g=>rw[Qi hq]at e;cases e
  |ok x=>
   rw[Qe hq]at e;obtain⟨a,c,b,j⟩:=EO h x hq;cases e;refine⟨a,?_⟩;show(ZP x.1 []).length+64*ph l x.2<=_
   have o:=Ui [Yh,YO x.1.tag [X3,X4],V0 x.1.num];have p:=CE x.1.tag [X3,X4] 6 (by decide);have q:=QtN x.1.num j;simp only[JR,List.map_cons,List.map_nil,List.sum_cons,List.sum_nil,show Yh.length=4 from rfl]at o;rw[Qrh _ _ b];omega
theorem Gr{l:L8}{req:Qa}{F:Nat}:∀(n:Nat) (s:PS),Gp l s->Bd 8 l (fun x=>(Q3 n x).length) (Qq l req F n s) s
 |0,s,h=>by
  rw[Qq];split<;>exact Bd.err
 |n+1,s,h=>fun y e=>by
  rw[Qq]at e;by_cases h0:wL tNs s.1.spelt=0
  ·rw[if_pos h0]at e;cases e
  ·rw[if_neg h0]at e;cases hu:Zw req s.1.spelt
   ·rw[hu,if_neg (by decide)]at e;cases e
   ·rw[hu,if_pos rfl]at e
    cases hn:nL l s.2 with
    |error g=>cases(Yd hn).symm.trans e
    |ok z=>
     replace e:=(XV hn).symm.trans e;obtain⟨a,c⟩:=J5 h (Km (zs:=tNs) h (by decide) h0) hn;obtain⟨b,d⟩:=Qpo n (fun s g=>Gr n s g) _ _ a y e;exact⟨b,by dsimp only at *;omega⟩
def QU{α:Type}(c:α->Nat)(xs:List α):Nat:=(xs.map c).sum
theorem V9(c:α->Nat)(xs:List α)(x:α):QU c (xs++[x])=QU c xs+c x:=by simp[QU]
theorem AB{α:Type}(txt:α->L8->L8)(i:L8):∀ cs:List α,(Q7 txt cs i).length=QU (fun c=>i.length+(txt c i).length+1) cs
 | []=>rfl
 |c::r=>by
  have:=AB txt i r;simp only[Q7,QU,List.flatMap_cons,Qk,List.map_cons,List.sum_cons,QD,Q4]at this ⊢;omega
def Ct{α:Type}(k:Nat)(l:L8)(c:α->Nat)(r:Qb (α×PS))(s:PS):Prop:=∀ y,r=.ok y->Gp l y.2/\c y.1+k+64*ph l y.2<=64*ph l s
theorem ID{α:Type}{l:L8}{sub:PS->Qb (α×PS)}{c:α->Nat}(b:∀ s,Gp l s->Ct 0 l c (sub s) s):∀(f:Nat) (acc:List α) (s:PS),Gp l s->∀ y,bMr l sub f acc s=.ok y->Gp l y.2/\QU c y.1+64*ph l y.2<=QU c acc+64*ph l s
 |0,acc,s,h=>fun y e=>by cases e;exact⟨h,Nat.le_refl _⟩
 |f+1,acc,s,h=>fun y e=>by
  rw[bMr]at e
  cases hp:mayL l [[125]] s with
  |error g=>rw[Qi hp]at e;cases e
  |ok z=>
   rw[Qe hp]at e;obtain⟨a,k⟩:=XW (zs:=[[125]]) h (by decide) z hp
   split at e
   ·cases hq:sub z.2 with
    |error g=>rw[Qi hq]at e;cases e
    |ok x=>
     rw[Qe hq]at e;obtain⟨d,m⟩:=b z.2 a x hq;obtain⟨i,j⟩:=ID b f _ x.2 d y e;refine⟨i,?_⟩;rw[V9]at j;dsimp only at *;omega
   ·cases e;exact⟨a,by dsimp only at *;omega⟩
theorem IE{c:α->Nat}(d:∀ s,Gp l s->Ct 0 l c (sub s) s)(h:Gp l s):Ct 64 l (QU c) (blockL l F sub s) s:=fun y e=>by
 unfold blockL at e
 cases hp:paL l [[123]] s with
 |error g=>rw[Qi hp]at e;cases e
 |ok z=>
  rw[Qe hp]at e;obtain⟨a,f⟩:=Xj (zs:=[[123]]) h (by decide) z hp;obtain⟨b,i⟩:=ID d F _ z.2 a y e;refine⟨b,?_⟩;have:QU c ([]:List α)=0:=rfl;dsimp only at *;omega
theorem IF{b:β->Nat}{c:α->Nat}(j:∀ s,Gp l s->Ct 0 l b (tst s) s)(i:∀ s,Gp l s->Ct 0 l c (sub s) s)(h:Gp l s):Ct 0 l (fun a=>64+b a.1+QU c a.2) (armL l F tst sub s) s:=fun y e=>by
 unfold armL at e
 cases hp:tst s with
 |error g=>rw[Qi hp]at e;cases e
 |ok z=>
  rw[Qe hp]at e;obtain⟨d,k⟩:=j s h z hp
  cases hq:blockL l F sub z.2 with
  |error g=>rw[Qi hq]at e;cases e
  |ok x=>
   rw[Qe hq]at e;obtain⟨f,m⟩:=IE i d x hq;cases e;exact⟨f,by dsimp only at *;omega⟩
theorem IG{α β:Type}{l:L8}{F:Nat}{tst:PS->Qb (β×PS)}{sub:PS->Qb (α×PS)}{b:β->Nat}{c:α->Nat}(j:∀ s,Gp l s->Ct 0 l b (tst s) s)(i:∀ s,Gp l s->Ct 0 l c (sub s) s):∀(f:Nat) (acc:List (β×List α)) (s:PS),Gp l s->∀ y,aMr l F tst sub f acc s=.ok y->Gp l y.2/\QU (fun a=>64+b a.1+QU c a.2) y.1+64*ph l y.2<=QU (fun a=>64+b a.1+QU c a.2) acc+64*ph l s
 |0,acc,s,h=>fun y e=>by cases e;exact⟨h,Nat.le_refl _⟩
 |f+1,acc,s,h=>fun y e=>by
  rw[aMr]at e
  cases hp:mayL l [Xe] s with
  |error g=>rw[Qi hp]at e;cases e
  |ok z=>
   rw[Qe hp]at e;obtain⟨d,o⟩:=XW (zs:=[Xe]) h (by decide) z hp
   split at e
   ·cases e;exact⟨d,by dsimp only at *;omega⟩
   ·cases hq:armL l F tst sub z.2 with
    |error g=>rw[Qi hq]at e;cases e
    |ok x=>
     rw[Qe hq]at e;obtain⟨k,p⟩:=IF j i d x hq;obtain⟨m,n⟩:=IG j i f _ x.2 k y e;refine⟨m,?_⟩;rw[V9]at n;dsimp only at *;omega
theorem Qsl(a i t b:L8)(hw:a.length<=7)(c:i.length<=14):(Jp a i t b).length<=32+t.length+b.length:=by
 have:=Ui [a,t,JG];simp only[JR,List.map_cons,List.map_nil,List.sum_cons,List.sum_nil,show JG.length=2 from rfl]at this;simp only[Jp,Qk];omega
theorem IH(i:L8)(c:i.length<=14):∀(as:List (L8×L8)) (b:L8),b.length<=7->(Xh i b as).length<=QU (fun a=>32+a.1.length+a.2.length) as
 | [],b,_=>by simp[Xh,QU]
 |a::r,b,hw=>by
  have e:=Qsl b i a.1 a.2 hw c;have d:=IH i c r KI (by decide);simp only[Xh,QU,Qk,List.map_cons,List.sum_cons]at d ⊢;omega
theorem II{α β:Type}(f:α->β)(c:β->Nat)(d:α->Nat)(h:∀ a,c (f a)<=d a):∀ xs:List α,QU c (xs.map f)<=QU d xs
 | []=>Nat.le_refl _
 |x::r=>by
  have b:=II f c d h r;have e:=h x;simp only[QU,List.map_cons,List.sum_cons,List.map_map]at b ⊢;omega
def JL(n:Nat)(i:L8)(x:QF n):Nat:=i.length+(Q8 n x i).length+1
theorem Vw(h:Gp l s):∀ y,semi l s a=.ok y->y.1=a/\Gp l y.2/\64*ph l y.2<=64*ph l s:=fun y e=>by
 unfold semi at e
 cases hp:paL l [[59]] s with
 |error g=>rw[Qi hp]at e;cases e
 |ok z=>
  rw[Qe hp]at e;obtain⟨b,c⟩:=Xj (zs:=[[59]]) h (by decide) z hp;cases e;exact⟨rfl,b,by dsimp only at *;omega⟩
theorem Qlw(x:L8):(QR (zL x)).length<=2*x.length+2:=by
 have:=Iw (zL x);simpa[zL]using this
theorem Qop(h:Gp l s):∀ y,sL l chk s=.ok y->2*y.1.length+2+32+64*ph l y.2<=64*ph l s:=fun y e=>by
 unfold sL at e
 split at e
 ·rename_i hk
  split at e
  ·cases hn:nL l s.2 with
   |error f=>rw[hn]at e;cases e
   |ok s'=>
    rw[hn]at e;cases e;obtain⟨a,b⟩:=V8 h hn;have c:=h.said hk;have d:=h.le;have g:=a.le;have i:=a.lt;have j:=h.lt;show 2*s.1.said.length+2+32+64*ph l s'<=64*ph l s
    unfold ph;omega
  ·cases e
 ·cases e
theorem Qrn(n:Nat){tst:PS->Qb (QQ n×PS)}{sub:PS->Qb (QF n×PS)}(i:L8)(D:i.length<=14)(A:∀ s,Gp l s->Ct 0 l (fun x=>(Q3 n x).length) (tst s) s)(t:∀ s,Gp l s->Ct 0 l (JL n (i++[32,32])) (sub s) s)(k pos:Nat)(h:Gp l s):∀ y,cBd l F tst sub k pos s=.ok y->Gp l y.2/\JL (n+1) i y.1+64*ph l y.2<=64+64*ph l s:=by
 intro y e;unfold cBd at e
 split at e
 ·obtain⟨b,d,p⟩:=Vw h y e;refine⟨d,?_⟩;rw[b];show i.length+5+1+64*ph l y.2<=_
  omega
 ·obtain⟨b,d,p⟩:=Vw h y e;refine⟨d,?_⟩;rw[b];show i.length+8+1+64*ph l y.2<=_
  omega
 ·obtain⟨b,d,p⟩:=Vw h y e;refine⟨d,?_⟩;rw[b];show i.length+5+1+64*ph l y.2<=_
  omega
 ·cases hq:sL l (fun _=>0) s with
  |error g=>rw[Qi hq]at e;cases e
  |ok x=>
   rw[Qe hq]at e;obtain⟨f,j⟩:=XN h x hq;obtain⟨b,d,p⟩:=Vw f y e;refine⟨d,?_⟩;rw[b];show i.length+(Zc [Ze,QR x.1]++[59]).length+1+64*ph l y.2<=_
   have o:=Ui [Ze,QR x.1];simp only[JR,List.map_cons,List.map_nil,List.sum_cons,List.sum_nil,show Ze.length=8 from rfl]at o;simp only[Qk,QD,Q4];dsimp only at j;omega
 ·cases hq:sL l (fun _=>0) s with
  |error g=>rw[Qi hq]at e;cases e
  |ok x=>
   rw[Qe hq]at e;obtain⟨f,j⟩:=XN h x hq;obtain⟨b,d,p⟩:=Vw f y e;refine⟨d,?_⟩;rw[b];show i.length+(Zc [Yn,QR x.1]++[59]).length+1+64*ph l y.2<=_
   have o:=Ui [Yn,QR x.1];simp only[JR,List.map_cons,List.map_nil,List.sum_cons,List.sum_nil,show Yn.length=8 from rfl]at o;simp only[Qk,QD,Q4];dsimp only at j;omega
 ·cases hq:sL l (fun _=>0) s with
  |error g=>rw[Qi hq]at e;cases e
  |ok x=>
   rw[Qe hq]at e;obtain⟨f,j⟩:=XN h x hq;obtain⟨b,d,p⟩:=Vw f y e;refine⟨d,?_⟩;rw[b];show i.length+(Zc [Zf,QR x.1]++[59]).length+1+64*ph l y.2<=_
   have o:=Ui [Zf,QR x.1];simp only[JR,List.map_cons,List.map_nil,List.sum_cons,List.sum_nil,show Zf.length=6 from rfl]at o;simp only[Qk,QD,Q4];dsimp only at j;omega
 ·cases hm:mayL l [Xs,Xt,Xu] s with
  |error g=>rw[Qi hm]at e;cases e
  |ok m=>
   rw[Qe hm]at e;obtain⟨u,B⟩:=XW (zs:=[Xs,Xt,Xu]) h (by decide) m hm
   cases hv:sL l (fun x=>if isNameL x then 0 else 7) m.2 with
   |error g=>rw[Qi hv]at e;cases e
   |ok v=>
    rw[Qe hv]at e;obtain⟨q,w⟩:=XN u v hv;have r:=Qop u v hv
    cases hq:sL l (fun _=>0) v.2 with
    |error g=>rw[Qi hq]at e;cases e
    |ok x=>
     rw[Qe hq]at e;obtain⟨f,j⟩:=XN q x hq;obtain⟨b,d,p⟩:=Vw f y e;refine⟨d,?_⟩;rw[b];show i.length+(Zc [ZW,YO m.1 [Xs,Xt,Xu],QR (zL v.1),QR x.1]++[59]).length+1+64*ph l y.2<=_
     have o:=Ui [ZW,YO m.1 [Xs,Xt,Xu],QR (zL v.1),QR x.1];have H:=CE m.1 [Xs,Xt,Xu] 7 (by decide);have J:=Qlw v.1;simp only[JR,List.map_cons,List.map_nil,List.sum_cons,List.sum_nil,show ZW.length=3 from rfl]at o;simp only[Qk,QD,Q4];dsimp only at j B w;omega
 ·cases ha:armL l F tst sub s with
  |error g=>rw[Qi ha]at e;cases e
  |ok a=>
   rw[Qe ha]at e;obtain⟨f,j⟩:=IF A t h a ha
   cases hb:aMr l F tst sub F [a.1] a.2 with
   |error g=>rw[Qi hb]at e;cases e
   |ok bb=>
    rw[Qe hb]at e;obtain⟨q,w⟩:=IG A t F _ a.2 f bb hb;have L:QU (fun a:QQ n×List (QF n)=>64+(Q3 n a.1).length+QU (JL n (i++[32,32])) a.2) [a.1]=64+(Q3 n a.1.1).length+QU (JL n (i++[32,32])) a.1.2:=by simp[QU]
    cases hm:mayL l [Xv] bb.2 with
    |error g=>rw[Qi hm]at e;cases e
    |ok m=>
     rw[Qe hm]at e;obtain⟨r,E⟩:=XW (zs:=[Xv]) q (by decide) m hm
     have K:(Xh i kIf (bb.1.map fun a:QQ n×List (QF n)=>(Q3 n a.1,Q7 (Q8 n) a.2 (i++[32,32])))).length<=QU (fun a:QQ n×List (QF n)=>64+(Q3 n a.1).length+QU (JL n (i++[32,32])) a.2) bb.1:=by
      refine Qm (IH i D _ kIf (by decide)) (II _ _ _ (fun a=>?_) bb.1);dsimp only;have:=AB (Q8 n) (i++[32,32]) a.2;rw[this];unfold JL;omega
     split at e
     ·cases e;refine⟨r,?_⟩;show i.length+(Xh i kIf (bb.1.map fun a:QQ n×List (QF n)=>(Q3 n a.1,Q7 (Q8 n) a.2 (i++[32,32])))++(if false then UC++Q7 (Q8 n) [] (i++[32,32])++i else [])++[125]).length+1+64*ph l m.2<=_
      simp only[Bool.false_eq_true,if_false,Qk,QD,Q4];dsimp only at *;omega
     ·rename_i hm0
      cases hc:blockL l F sub m.2 with
      |error g=>rw[Qi hc]at e;cases e
      |ok cs=>
       rw[Qe hc]at e;obtain⟨C,G⟩:=IE t r cs hc;cases e;refine⟨C,?_⟩;show i.length+(Xh i kIf (bb.1.map fun a:QQ n×List (QF n)=>(Q3 n a.1,Q7 (Q8 n) a.2 (i++[32,32])))++(if true then UC++Q7 (Q8 n) cs.1 (i++[32,32])++i else [])++[125]).length+1+64*ph l cs.2<=_
       have z:=AB (Q8 n) (i++[32,32]) cs.1;simp only[if_true,Qk,QD,Q4,show UC.length=9 from rfl]at z ⊢;rw[z]
       have:QU (fun c=>i.length+(0+1+1)+(Q8 n c (i++[32,32])).length+1) cs.1=QU (JL n (i++[32,32])) cs.1:=by
        congr 1;funext c;simp[JL]
       dsimp only at *;omega
theorem GT{l:L8}{req:Qa}{F:Nat}:∀(n:Nat) (i:L8),i.length+2*n<=14->∀(s:PS),Gp l s->Ct 0 l (JL n i) (cmdL l req F n s) s
 |0,i,hi,s,h=>by
  rw[cmdL];split<;>exact fun y e=>by cases e
 |n+1,i,hi,s,h=>fun y e=>by
  rw[cmdL]at e;by_cases h0:wL cNs s.1.spelt=0
  ·rw[if_pos h0]at e;cases e
  ·rw[if_neg h0]at e;cases hu:Zw req s.1.spelt
   ·rw[hu,if_neg (by decide)]at e;cases e
   ·rw[hu,if_pos rfl]at e
    cases hn:nL l s.2 with
    |error g=>cases(Yd hn).symm.trans e
    |ok z=>
     replace e:=(XV hn).symm.trans e;obtain⟨b,f⟩:=J5 h (Km (zs:=cNs) h (by decide) h0) hn;obtain⟨c,j⟩:=Qrn n i (by omega) (fun s g y e=>by obtain⟨a,d⟩:=Gr n s g y e;exact⟨a,by dsimp only at *;omega⟩) (fun s g=>GT n (i++[32,32]) (by simp only[Qk,QD,Q4];omega) s g) _ _ b y e;exact⟨c,by omega⟩
theorem QrS(req:Qa)(x:L8):Xk (ZF req x)<=Xk req+(QR x).length+2:=by
 unfold ZF;split
 ·omega
 ·unfold Xk;rw[List.map_append,CD,List.map_cons,List.map_nil,Gq];omega
theorem IJ:∀(xs req:Qa),Xk (xs.foldl ZF req)<=Xk req+Xk xs
 | [],req=>by simp
 |x::r,req=>by
  have a:=IJ r (ZF req x);have b:=QrS req x;have c:Xk (x::r)=(QR x).length+2+Xk r:=by unfold Xk;rw[List.map_cons,Ix]
  rw[List.foldl_cons];omega
theorem GV{l:L8}{F:Nat}:∀(f:Nat) (req:Qa) (s:PS),Gp l s->∀ y,reqMore l F f req s=.ok y->Gp l y.2/\Xk y.1+64*ph l y.2<=Xk req+64*ph l s
 |0,req,s,h=>fun y e=>by cases e;exact⟨h,Nat.le_refl _⟩
 |f+1,req,s,h=>fun y e=>by
  rw[reqMore]at e
  cases hp:mayL l [YY] s with
  |error g=>rw[Qi hp]at e;cases e
  |ok z=>
   rw[Qe hp]at e;obtain⟨a,i⟩:=XW (zs:=[YY]) h (by decide) z hp
   split at e
   ·cases e;exact⟨a,by dsimp only at *;omega⟩
   ·cases hq:sLs l (fun x=>if 0<wL [QN,Ze,Zf,ZJ] x then 0 else 6) F z.2 with
    |error g=>rw[Qi hq]at e;cases e
    |ok x=>
     rw[Qe hq]at e;obtain⟨b,j⟩:=K9 a x hq
     cases hr:paL l [[59]] x.2 with
     |error g=>rw[Qi hr]at e;cases e
     |ok v=>
      rw[Qe hr]at e;obtain⟨c,k⟩:=Xj (zs:=[[59]]) b (by decide) v hr;obtain⟨d,m⟩:=GV f _ v.2 c y e;have n:=IJ x.1 req;refine⟨d,?_⟩;dsimp only at *;omega
theorem BN{α:Type}{l:L8}{sub:PS->Qb (α×PS)}{c:α->Nat}(a:∀ s,Gp l s->Ct 0 l c (sub s) s):∀(f:Nat) (acc:List α) (s:PS),Gp l s->∀ y,cMr sub f acc s=.ok y->QU c y<=QU c acc+64*ph l s
 |0,acc,s,h=>fun y e=>by cases e;omega
 |f+1,acc,s,h=>fun y e=>by
  rw[cMr]at e
  split at e
  ·cases e;omega
  ·cases hq:sub s with
   |error g=>rw[hq]at e;cases e
   |ok x=>
    rw[hq]at e;obtain⟨b,i⟩:=a s h x hq;have d:=BN a f _ x.2 b y e;rw[V9]at d;omega
theorem SV(h:prL l=.ok y):(JK y).length<=64*l.length+64:=by
 unfold prL at h;dsimp only at h;generalize 2*l.length+10=F at h
 cases h1:nL l 0 with
 |error f=>rw[h1]at h;cases h
 |ok s=>
  rw[h1]at h;dsimp only at h
  have b:Gp l s:=by
   unfold nL at h1
   cases hs:QW (l.length+1) (l.drop 0) 0 with
   |error f=>rw[hs]at h1;cases h1
   |ok n=>
    rw[hs]at h1;exact(GU l n (Kb l _ 0 n QC hs).2 s h1).1
  cases h3:reqMore l F F [] s with
  |error f=>rw[h3]at h;cases h
  |ok z=>
   rw[h3]at h;dsimp only at h;obtain⟨a,d⟩:=GV F [] s b z h3
   cases h4:cMr (cmdL l z.1 F 7) F [] z.2 with
   |error f=>rw[h4]at h;cases h
   |ok cs=>
    rw[h4]at h;have e:=BN (c:=JL 7 []) (fun s g=>GT 7 [] (by decide) s g) F [] z.2 a cs h4;cases h;have i:=AB (Q8 7) [] cs;have j:QU (fun c=>([]:L8).length+(Q8 7 c []).length+1) cs=QU (JL 7 []) cs:=rfl
    have k:(Gb z.1).length<=Xk z.1+12:=by
     unfold Gb;split
     ·simp
     ·have:=Az z.1;simp only[Qk,QD,Q4,show YY.length=7 from rfl];omega
    have m:Xk ([]:Qa)=0:=rfl;have o:QU (JL 7 []) ([]:List (QF 7))=0:=rfl;have p:ph l s<=l.length:=by unfold ph;omega
    show(Gb z.1++Q7 (Q8 7) cs []).length<=_
    rw[Qk];omega
structure WfT (req:Qa) (x:QX) (m:Nat):Prop where
 kind:x.kind<=9
 use:Zw req (tNs.getD x.kind [])=true
 one:x.kind=2->m=1
 many:x.kind=3∨x.kind=4->0 < m
 leaf:x.kind<=1∨5<=x.kind->m=0
 tag:5<=x.kind->x.kind<=7->1<=x.tag∧x.tag<=3
 frm:5<=x.kind->x.kind<=8->x.fr≠[]
 keys:5<=x.kind->x.kind<=7->x.keys≠[]
 env:x.kind=6->∀ z∈x.fr,0 < wL [Yy,kTo] (zL z)
 size:x.kind=9->1<=x.tag∧x.tag<=2
 num:x.num<=2147483647
 num0:x.kind≠9->x.num=0
 tag0:x.kind<=4∨x.kind=8->x.tag=0
 oct0:x.kind<=4∨8<=x.kind->x.octet=false
 fr0:x.kind<=4∨x.kind=9->x.fr=[]
 keys0:x.kind<=4∨8<=x.kind->x.keys=[]
structure WfC (req:Qa) (x:Zx) (a e:Nat):Prop where
 kind:x.kind<=7
 use:Zw req (cNs.getD x.kind [])=true
 tag:x.tag<=3
 tag0:x.kind≠6->x.tag=0
 arg0:x.kind<=2∨x.kind=7->x.arg=[]
 var0:x.kind≠6->x.var=[]
 var:x.kind=6->∃ v,isNameL v=true∧x.var=zL v
 els0:x.kind≠7->x.els=false
 arms:x.kind=7->0 < a
 arms0:x.kind≠7->a=0
 else0:x.els=false->e=0
def Yl(p:QX->Nat->Prop):(n:Nat)->QQ n->Prop
 |0,_=>False
 |n+1,x=>p x.1 x.2.length/\∀ a∈x.2,Yl p n a
def XU(p:QX->Nat->Prop)(q:Zx->Nat->Nat->Prop):(n:Nat)->QF n->Prop
 |0,_=>False
 |n+1,x=>q x.1 x.2.1.length x.2.2.length/\(∀ a∈x.2.1,Yl p n a.1/\∀ c∈a.2,XU p q n c)/\∀ c∈x.2.2,XU p q n c
theorem Ab:∀(zs:Qa) (x:L8),¬ wL zs x=0->zs.getD (wL zs x - 1) []=x
 | [],x,h=>absurd rfl h
 |s::r,x,h=>by
  unfold wL at h ⊢;split
  ·rename_i e;simp[e]
  ·rename_i e;rw[if_neg e]at h;split
   ·rename_i e0;rw[if_pos e0]at h;exact absurd rfl h
   ·rename_i e0;have b:=Ab r x e0;have a:wL r x+1 - 1=(wL r x - 1)+1:=by omega
    rw[a];simpa using b
def Has{α:Type}(P:α->Prop)(r:Qb (α×PS)):Prop:=∀ y,r=.ok y->P y.1
theorem CG:Has (fun x=>chk x=0) (sL l chk s):=fun y e=>by
 unfold sL at e
 split at e
 ·split at e
  ·rename_i hc
   cases hn:nL l s.2 with
   |error f=>rw[hn]at e;cases e
   |ok s'=>rw[hn]at e;cases e;exact hc
  ·cases e
 ·cases e
theorem IK{l:L8}{chk:L8->Nat}:∀(f:Nat) (acc:Qa) (s:PS),acc≠[]->(∀ z∈acc,chk z=0)->Has (fun xs=>xs≠[]/\∀ z∈xs,chk z=0) (moreL l chk f acc s)
 |0,acc,s,h,hc=>fun y e=>by cases e;exact⟨h,hc⟩
 |f+1,acc,s,h,hc=>fun y e=>by
  rw[moreL]at e
  cases hp:paL l [[44],[93]] s with
  |error g=>rw[hp]at e;cases e
  |ok z=>
   rw[hp]at e;dsimp only at e
   split at e
   ·cases hs:sL l chk z.2 with
    |error g=>rw[hs]at e;cases e
    |ok x=>
     rw[hs]at e;have a:=CG x hs;refine IK f _ x.2 (by simp) (fun u hu=>?_) y e;rcases List.mem_append.1 hu with hu|hu
     ·exact hc u hu
     ·rw[QY hu];exact a
   ·cases e;exact⟨h,hc⟩
theorem AC:Has (fun xs=>xs≠[]/\∀ z∈xs,chk z=0) (sLs l chk F s):=fun y e=>by
 unfold sLs at e
 cases hm:mayL l [[91]] s with
 |error g=>rw[hm]at e;cases e
 |ok z=>
  rw[hm]at e;dsimp only at e
  cases hs:sL l chk z.2 with
  |error g=>rw[hs]at e;cases e
  |ok x=>
   rw[hs]at e;have b:=CG x hs;dsimp only at e
   split at e
   ·cases e;exact⟨by simp,fun u a=>by rw[QY a];exact b⟩
   ·exact IK F [x.1] x.2 (by simp) (fun u a=>by rw[QY a];exact b) y e
theorem Qvq:Has (fun i=>1<=i/\i<=zs.length) (paL l zs s):=fun y e=>by
 unfold paL at e
 split at e
 ·cases e
 ·rename_i h0
  cases hn:nL l s.2 with
  |error f=>rw[hn]at e;cases e
  |ok s'=>rw[hn]at e;cases e;have:=YU zs s.1.spelt;dsimp only;omega
theorem Qyj:Has (fun i=>i<=zs.length) (mayL l zs s):=fun y e=>by
 unfold mayL at e
 split at e
 ·cases e;exact QC
 ·cases hn:nL l s.2 with
  |error f=>rw[hn]at e;cases e
  |ok s'=>rw[hn]at e;cases e;exact YU zs s.1.spelt
theorem CH{l:L8}:∀(f a:Nat) (d b:Bool) (s:PS),Gp l s->ph l s<f->a<=3->Has (fun o=>1<=o.1/\o.1<=3) (Zb l f a d b s)
 |0,a,d,b,s,h,hf,ht=>by omega
 |f+1,a,d,b,s,h,hf,ht=>fun y e=>by
  rw[Zb]at e;by_cases h1:wL [tIs,Zo,Zp] s.1.spelt=0
  ·rw[if_pos h1]at e;by_cases h2:wL [Xi] s.1.spelt=0
   ·rw[if_pos h2]at e;cases e;dsimp only;omega
   ·rw[if_neg h2]at e;cases b
    ·rw[if_neg (by decide)]at e
     cases hn:nL l s.2 with
     |error g=>rw[Yd hn]at e;cases e
     |ok z=>
      rw[XV hn]at e;obtain⟨c,i⟩:=J5 h (Km (zs:=[Xi]) h (by decide) h2) hn
      cases hs:sL l (fun x=>if 0<wL [Z0,Jd] x then 0 else 7) z with
      |error g=>rw[Qi hs]at e;cases e
      |ok x=>
       rw[Qe hs]at e;obtain⟨j,k⟩:=XN c x hs;exact CH f _ _ _ x.2 j (by omega) ht y e
    ·rw[if_pos rfl]at e;cases e
  ·rw[if_neg h1]at e;by_cases h3:a=0
   ·rw[if_pos h3]at e
    cases hn:nL l s.2 with
    |error g=>rw[Yd hn]at e;cases e
    |ok z=>
     rw[XV hn]at e;obtain⟨c,i⟩:=J5 h (Km (zs:=[tIs,Zo,Zp]) h (by decide) h1) hn;exact CH f _ _ _ z c (by omega) (YU [tIs,Zo,Zp] s.1.spelt) y e
   ·rw[if_neg h3]at e;cases e
theorem CJ{k:Nat}(h:Gp l s)(hF:l.length<F):Has (fun x=>x=⟨k,pos,x.tag,x.octet,x.fr,x.keys,0⟩/\1<=x.tag/\x.tag<=3/\x.fr≠[]/\x.keys≠[]/\∀ z∈x.fr,chk z=0) (ZR l F chk k pos s):=fun y e=>by
 unfold ZR at e
 cases h1:Zb l F 0 false false s with
 |error f=>rw[Qi h1]at e;cases e
 |ok a=>
  rw[Qe h1]at e;have b:=CH F 0 false false s h (by unfold ph;omega) (by omega) a h1
  cases h2:sLs l chk F a.2 with
  |error f=>rw[Qi h2]at e;cases e
  |ok c=>
   rw[Qe h2]at e;have g:=AC c h2
   cases h3:sLs l (fun _=>0) F c.2 with
   |error f=>rw[Qi h3]at e;cases e
   |ok d=>
    rw[Qe h3]at e;have i:=AC d h3;cases e;exact⟨rfl,b.1,b.2,g.1,i.1,g.2⟩
theorem IL{α:Type}{l:L8}{sub:PS->Qb (α×PS)}{P:α->Prop}(c:∀ s,Gp l s->∀ y,sub s=.ok y->Gp l y.2)(d:∀ s,Gp l s->Has P (sub s)):∀(f:Nat) (acc:List α) (s:PS),Gp l s->acc≠[]->(∀ a∈acc,P a)->Has (fun xs=>xs≠[]/\∀ a∈xs,P a) (gMr l sub f acc s)
 |0,acc,s,g,h,hc=>fun y e=>by cases e;exact⟨h,hc⟩
 |f+1,acc,s,g,h,hc=>fun y e=>by
  rw[gMr]at e
  cases hp:paL l [[44],[41]] s with
  |error g=>rw[Qi hp]at e;cases e
  |ok z=>
   rw[Qe hp]at e;obtain⟨b,i⟩:=Xj (zs:=[[44],[41]]) g (by decide) z hp
   split at e
   ·cases hq:sub z.2 with
    |error g=>rw[Qi hq]at e;cases e
    |ok x=>
     rw[Qe hq]at e;refine IL c d f _ x.2 (c _ b x hq) (by simp) (fun u hu=>?_) y e;rcases List.mem_append.1 hu with hu|hu
     ·exact hc u hu
     ·rw[QY hu];exact d _ b x hq
   ·cases e;exact⟨h,hc⟩
theorem IM(c:∀ s,Gp l s->∀ y,sub s=.ok y->Gp l y.2)(d:∀ s,Gp l s->Has P (sub s))(h:Gp l s):Has (fun xs=>xs≠[]/\∀ a∈xs,P a) (groupL l F sub s):=fun y e=>by
 unfold groupL at e
 cases hp:paL l [[40]] s with
 |error g=>rw[Qi hp]at e;cases e
 |ok z=>
  rw[Qe hp]at e;obtain⟨b,i⟩:=Xj (zs:=[[40]]) h (by decide) z hp
  cases hq:sub z.2 with
  |error g=>rw[Qi hq]at e;cases e
  |ok x=>
   rw[Qe hq]at e;exact IL c d F [x.1] x.2 (c _ b x hq) (by simp) (fun u f=>by rw[QY f];exact d _ b x hq) y e
theorem Qm3(n:Nat){sub:PS->Qb (QQ n×PS)}(hF:l.length<F)(t:∀ s,Gp l s->∀ y,sub s=.ok y->Gp l y.2)(q:∀ s,Gp l s->Has (Yl (WfT req) n) (sub s))(k pos:Nat)(Q:k<=9)(c:Zw req (tNs.getD k [])=true)(h:Gp l s):Has (fun x:QX×List (QQ n)=>WfT req x.1 x.2.length/\∀ a∈x.2,Yl (WfT req) n a) (tBd l F sub k pos s):=fun y e=>by
 unfold tBd at e
 split at e
 ·cases e;exact⟨by constructor<;>simp<;>(first|exact c|skip),by simp⟩
 ·cases e;exact⟨by constructor<;>simp<;>(first|exact c|skip),by simp⟩
 ·cases hq:sub s with
  |error g=>rw[Qi hq]at e;cases e
  |ok x=>
   rw[Qe hq]at e;cases e;exact⟨by constructor<;>simp<;>(first|exact c|skip),fun a A=>by rw[QY A];exact q _ h x hq⟩
 ·cases hq:groupL l F sub s with
  |error g=>rw[Qi hq]at e;cases e
  |ok x=>
   rw[Qe hq]at e;have b:=IM t q h x hq;cases e;exact⟨by constructor<;>simp<;>(first|exact c|exact List.length_pos_iff.2 b.1|skip),b.2⟩
 ·cases hq:groupL l F sub s with
  |error g=>rw[Qi hq]at e;cases e
  |ok x=>
   rw[Qe hq]at e;have b:=IM t q h x hq;cases e;exact⟨by constructor<;>simp<;>(first|exact c|exact List.length_pos_iff.2 b.1|skip),b.2⟩
 ·cases hq:ZR l F (fun _=>0) 5 pos s with
  |error g=>rw[Qi hq]at e;cases e
  |ok x=>
   rw[Qe hq]at e;obtain⟨b,d,j,o,p,m⟩:=CJ h hF x hq;cases e;dsimp only;rw[b];exact⟨by constructor<;>simp<;>(first|exact c|exact⟨d,j⟩|assumption|skip),by simp⟩
 ·cases hq:ZR l F (fun x=>if 0<wL [Yy,kTo] (zL x)then 0 else 7) 6 pos s with
  |error g=>rw[Qi hq]at e;cases e
  |ok x=>
   rw[Qe hq]at e;obtain⟨b,d,j,o,p,m⟩:=CJ h hF x hq
   have r:∀ z∈x.1.fr,0<wL [Yy,kTo] (zL z):=fun z C=>by
    have:=m z C
    split at this
    ·assumption
    ·cases this
   cases e;dsimp only;rw[b];exact⟨by constructor<;>simp<;>(first|exact c|exact⟨d,j⟩|assumption|skip),by simp⟩
 ·cases hq:ZR l F (fun _=>0) 7 pos s with
  |error g=>rw[Qi hq]at e;cases e
  |ok x=>
   rw[Qe hq]at e;obtain⟨b,d,j,o,p,m⟩:=CJ h hF x hq;cases e;dsimp only;rw[b];exact⟨by constructor<;>simp<;>(first|exact c|exact⟨d,j⟩|assumption|skip),by simp⟩
 ·cases hq:sLs l (fun _=>0) F s with
  |error g=>rw[Qi hq]at e;cases e
  |ok x=>
   rw[Qe hq]at e;have b:=AC x hq;cases e;exact⟨by constructor<;>simp<;>(first|exact c|exact b.1|skip),by simp⟩
 ·rename_i h0 b d j o p m r h8
  cases hq:sizeL l pos s with
  |error g=>rw[Qi hq]at e;cases e
  |ok x=>
   rw[Qe hq]at e
   have B:k=9:=by
    have D:k≠0:=h0;have E:k≠1:=b;have G:k≠2:=d;have H:k≠3:=j;have J:k≠4:=o;have K:k≠5:=p;have L:k≠6:=m;have M:k≠7:=r;have N:k≠8:=h8;omega
   subst B;unfold sizeL at hq
   cases hp:paL l [X3,X4] s with
   |error g=>rw[Qi hp]at hq;cases hq
   |ok i=>
    rw[Qe hp]at hq;have u:=Qvq i hp;obtain⟨v,P⟩:=Xj (zs:=[X3,X4]) h (by decide) i hp;have w:=v.num
    split at hq
    ·cases hn:nL l i.2.2 with
     |error f=>rw[Yd hn]at hq;cases hq
     |ok z=>
      rw[XV hn]at hq;cases hq;cases e;exact⟨by constructor<;>simp<;>(first|exact c|exact w|exact u|skip),by simp⟩
    ·cases hq
theorem IN{l:L8}{req:Qa}{F:Nat}(hF:l.length<F):∀(n:Nat) (s:PS),Gp l s->Has (Yl (WfT req) n) (Qq l req F n s)
 |0,s,h=>fun y e=>by rw[Qq]at e;split at e<;>cases e
 |n+1,s,h=>fun y e=>by
  rw[Qq]at e;by_cases h0:wL tNs s.1.spelt=0
  ·rw[if_pos h0]at e;cases e
  ·rw[if_neg h0]at e;cases hu:Zw req s.1.spelt
   ·rw[hu,if_neg (by decide)]at e;cases e
   ·rw[hu,if_pos rfl]at e
    cases hn:nL l s.2 with
    |error g=>cases(Yd hn).symm.trans e
    |ok z=>
     replace e:=(XV hn).symm.trans e;obtain⟨a,b⟩:=J5 h (Km (zs:=tNs) h (by decide) h0) hn;exact Qm3 n hF (fun s g y e=>(Gr n s g y e).1) (fun s g=>IN hF n s g) _ _ (by have:=YU tNs s.1.spelt;have:tNs.length=10:=rfl;omega) (by rw[Ab _ _ h0];exact hu) a y e
theorem IP{α:Type}{l:L8}{sub:PS->Qb (α×PS)}{P:α->Prop}(c:∀ s,Gp l s->∀ y,sub s=.ok y->Gp l y.2)(d:∀ s,Gp l s->Has P (sub s)):∀(f:Nat) (acc:List α) (s:PS),Gp l s->(∀ a∈acc,P a)->∀ y,bMr l sub f acc s=.ok y->Gp l y.2/\∀ a∈y.1,P a
 |0,acc,s,g,hc=>fun y e=>by cases e;exact⟨g,hc⟩
 |f+1,acc,s,g,hc=>fun y e=>by
  rw[bMr]at e
  cases hp:mayL l [[125]] s with
  |error g=>rw[Qi hp]at e;cases e
  |ok z=>
   rw[Qe hp]at e;obtain⟨b,i⟩:=XW (zs:=[[125]]) g (by decide) z hp
   split at e
   ·cases hq:sub z.2 with
    |error g=>rw[Qi hq]at e;cases e
    |ok x=>
     rw[Qe hq]at e;refine IP c d f _ x.2 (c _ b x hq) (fun u hu=>?_) y e;rcases List.mem_append.1 hu with hu|hu
     ·exact hc u hu
     ·rw[QY hu];exact d _ b x hq
   ·cases e;exact⟨b,hc⟩
theorem IQ(c:∀ s,Gp l s->∀ y,sub s=.ok y->Gp l y.2)(d:∀ s,Gp l s->Has P (sub s))(h:Gp l s):∀ y,blockL l F sub s=.ok y->Gp l y.2/\∀ a∈y.1,P a:=fun y e=>by
 unfold blockL at e
 cases hp:paL l [[123]] s with
 |error g=>rw[Qi hp]at e;cases e
 |ok z=>
  rw[Qe hp]at e;obtain⟨b,f⟩:=Xj (zs:=[[123]]) h (by decide) z hp;exact IP c d F [] z.2 b (by simp) y e
theorem IR{Q:β->Prop}(j:∀ s,Gp l s->∀ y,tst s=.ok y->Gp l y.2)(i:∀ s,Gp l s->Has Q (tst s))(d:∀ s,Gp l s->∀ y,sub s=.ok y->Gp l y.2)(f:∀ s,Gp l s->Has P (sub s))(h:Gp l s):∀ y,armL l F tst sub s=.ok y->Gp l y.2/\Q y.1.1/\∀ a∈y.1.2,P a:=fun y e=>by
 unfold armL at e
 cases hp:tst s with
 |error g=>rw[Qi hp]at e;cases e
 |ok z=>
  rw[Qe hp]at e
  cases hq:blockL l F sub z.2 with
  |error g=>rw[Qi hq]at e;cases e
  |ok x=>
   rw[Qe hq]at e;have b:=IQ d f (j _ h z hp) x hq;have c:=i _ h z hp;cases e;exact⟨b.1,c,b.2⟩
theorem IS{α β:Type}{l:L8}{F:Nat}{tst:PS->Qb (β×PS)}{sub:PS->Qb (α×PS)}{P:α->Prop}{Q:β->Prop}(k:∀ s,Gp l s->∀ y,tst s=.ok y->Gp l y.2)(j:∀ s,Gp l s->Has Q (tst s))(d:∀ s,Gp l s->∀ y,sub s=.ok y->Gp l y.2)(i:∀ s,Gp l s->Has P (sub s)):∀(f:Nat) (acc:List (β×List α)) (s:PS),Gp l s->acc≠[]->(∀ a∈acc,Q a.1/\∀ c∈a.2,P c)->∀ y,aMr l F tst sub f acc s=.ok y->Gp l y.2/\y.1≠[]/\∀ a∈y.1,Q a.1/\∀ c∈a.2,P c
 |0,acc,s,g,h,hc=>fun y e=>by cases e;exact⟨g,h,hc⟩
 |f+1,acc,s,g,h,hc=>fun y e=>by
  rw[aMr]at e
  cases hp:mayL l [Xe] s with
  |error g=>rw[Qi hp]at e;cases e
  |ok z=>
   rw[Qe hp]at e;obtain⟨b,p⟩:=XW (zs:=[Xe]) g (by decide) z hp
   split at e
   ·cases e;exact⟨b,h,hc⟩
   ·cases hq:armL l F tst sub z.2 with
    |error g=>rw[Qi hq]at e;cases e
    |ok x=>
     rw[Qe hq]at e;obtain⟨m,n,o⟩:=IR k j d i b x hq;refine IS k j d i f _ x.2 m (by simp) (fun u hu=>?_) y e;rcases List.mem_append.1 hu with hu|hu
     ·exact hc u hu
     ·rw[QY hu];exact⟨n,o⟩
theorem Vx:Has (fun x=>x=a) (semi l s a):=fun y e=>by
 unfold semi at e
 cases hp:paL l [[59]] s with
 |error g=>rw[Qi hp]at e;cases e
 |ok z=>rw[Qe hp]at e;cases e;rfl
theorem QoF(n:Nat){tst:PS->Qb (QQ n×PS)}{sub:PS->Qb (QF n×PS)}(r:∀ s,Gp l s->∀ y,tst s=.ok y->Gp l y.2)(q:∀ s,Gp l s->Has (Yl (WfT req) n) (tst s))(i:∀ s,Gp l s->∀ y,sub s=.ok y->Gp l y.2)(j:∀ s,Gp l s->Has (XU (WfT req) (WfC req) n) (sub s))(k pos:Nat)(N:k<=7)(b:Zw req (cNs.getD k [])=true)(h:Gp l s):Has (fun x:Zx×List (QQ n×List (QF n))×List (QF n)=>WfC req x.1 x.2.1.length x.2.2.length/\(∀ a∈x.2.1,Yl (WfT req) n a.1/\∀ c∈a.2,XU (WfT req) (WfC req) n c)/\∀ c∈x.2.2,XU (WfT req) (WfC req) n c) (cBd l F tst sub k pos s):=fun y e=>by
 unfold cBd at e
 split at e
 ·rw[Vx y e];exact⟨by constructor<;>simp<;>(first|exact b|skip),by simp,by simp⟩
 ·rw[Vx y e];exact⟨by constructor<;>simp<;>(first|exact b|skip),by simp,by simp⟩
 ·rw[Vx y e];exact⟨by constructor<;>simp<;>(first|exact b|skip),by simp,by simp⟩
 ·cases hq:sL l (fun _=>0) s with
  |error g=>rw[Qi hq]at e;cases e
  |ok x=>rw[Qe hq]at e;rw[Vx y e];exact⟨by constructor<;>simp<;>(first|exact b|skip),by simp,by simp⟩
 ·cases hq:sL l (fun _=>0) s with
  |error g=>rw[Qi hq]at e;cases e
  |ok x=>rw[Qe hq]at e;rw[Vx y e];exact⟨by constructor<;>simp<;>(first|exact b|skip),by simp,by simp⟩
 ·cases hq:sL l (fun _=>0) s with
  |error g=>rw[Qi hq]at e;cases e
  |ok x=>rw[Qe hq]at e;rw[Vx y e];exact⟨by constructor<;>simp<;>(first|exact b|skip),by simp,by simp⟩
 ·cases hm:mayL l [Xs,Xt,Xu] s with
  |error g=>rw[Qi hm]at e;cases e
  |ok m=>
   rw[Qe hm]at e;have t:=Qyj m hm
   cases hv:sL l (fun x=>if isNameL x then 0 else 7) m.2 with
   |error g=>rw[Qi hv]at e;cases e
   |ok v=>
    rw[Qe hv]at e;have d:=CG v hv
    have f:isNameL v.1=true:=by
     dsimp only at d
     split at d
     ·assumption
     ·cases d
    cases hq:sL l (fun _=>0) v.2 with
    |error g=>rw[Qi hq]at e;cases e
    |ok x=>
     rw[Qe hq]at e;rw[Vx y e];exact⟨by constructor<;>simp<;>(first|exact b|exact t|exact⟨v.1,f,rfl⟩|skip),by simp,by simp⟩
 ·rename_i h0 h1 h2 h3 h4 h5 h6
  have C:k=7:=by
   have D:k≠0:=h0;have E:k≠1:=h1;have G:k≠2:=h2;have H:k≠3:=h3;have J:k≠4:=h4;have K:k≠5:=h5;have L:k≠6:=h6;omega
  subst C
  cases ha:armL l F tst sub s with
  |error g=>rw[Qi ha]at e;cases e
  |ok a=>
   rw[Qe ha]at e;obtain⟨d,f,w⟩:=IR r q i j h a ha
   cases hb:aMr l F tst sub F [a.1] a.2 with
   |error g=>rw[Qi hb]at e;cases e
   |ok bb=>
    rw[Qe hb]at e;obtain⟨z,o,p⟩:=IS r q i j F [a.1] a.2 d (by simp) (fun u b=>by rw[QY b];exact⟨f,w⟩) bb hb
    cases hm:mayL l [Xv] bb.2 with
    |error g=>rw[Qi hm]at e;cases e
    |ok m=>
     rw[Qe hm]at e;obtain⟨A,M⟩:=XW (zs:=[Xv]) z (by decide) m hm
     split at e
     ·cases e;exact⟨by constructor<;>simp<;>(first|exact b|exact List.length_pos_iff.2 o|skip),p,by simp⟩
     ·cases hc:blockL l F sub m.2 with
      |error g=>rw[Qi hc]at e;cases e
      |ok cs=>
       rw[Qe hc]at e;have B:=IQ i j A cs hc;cases e;exact⟨by constructor<;>simp<;>(first|exact b|exact List.length_pos_iff.2 o|skip),p,B.2⟩
theorem IT:∀(n:Nat) (hn:n<=7) (s:PS),Gp l s->∀ y,cmdL l req F n s=.ok y->Gp l y.2:=fun n hn s h y e=>(GT n [] (by simp;omega) s h y e).1
theorem IU{l:L8}{req:Qa}{F:Nat}(hF:l.length<F):∀(n:Nat) (a:n<=7) (s:PS),Gp l s->Has (XU (WfT req) (WfC req) n) (cmdL l req F n s)
 |0,a,s,h=>fun y e=>by rw[cmdL]at e;split at e<;>cases e
 |n+1,hn7,s,h=>fun y e=>by
  rw[cmdL]at e;by_cases h0:wL cNs s.1.spelt=0
  ·rw[if_pos h0]at e;cases e
  ·rw[if_neg h0]at e;cases hu:Zw req s.1.spelt
   ·rw[hu,if_neg (by decide)]at e;cases e
   ·rw[hu,if_pos rfl]at e
    cases a:nL l s.2 with
    |error g=>cases(Yd a).symm.trans e
    |ok z=>
     replace e:=(XV a).symm.trans e;obtain⟨b,c⟩:=J5 h (Km (zs:=cNs) h (by decide) h0) a;exact QoF n (fun s g y e=>(Gr n s g y e).1) (fun s g=>IN hF n s g) (IT n (by omega)) (fun s g=>IU hF n (by omega) s g) _ _ (by have:=YU cNs s.1.spelt;have:cNs.length=8:=rfl;omega) (by rw[Ab _ _ h0];exact hu) b y e
def WfR(req:Qa):Prop:=req.Nodup/\∀ z∈req,0<wL [QN,Ze,Zf,ZJ] z
theorem IW:∀(zs:Qa) (x:L8),x∈zs->0<wL zs x
 | [],x,h=>by cases h
 |s::r,x,h=>by
  unfold wL;split
  ·omega
  ·rename_i e;rcases List.mem_cons.1 h with h|h
   ·exact absurd h.symm e
   ·have:=IW r x h;rw[if_neg (by omega)];omega
theorem IX:∀(xs req:Qa),WfR req->(∀ z∈xs,0<wL [QN,Ze,Zf,ZJ] z)->WfR (xs.foldl ZF req)
 | [],req,h,hx=>h
 |x::r,req,h,hx=>by
  rw[List.foldl_cons];refine IX r _ ?_ (fun z hz=>hx z (by simp[hz]));unfold ZF;split
  ·exact h
  ·rename_i h0;refine⟨?_,fun z hz=>?_⟩
   ·rw[List.nodup_append];refine⟨h.1,by simp,fun a c b d=>?_⟩;rw[QY d];intro e;subst e;exact h0 (IW _ _ c)
   ·rcases List.mem_append.1 hz with hz|hz
    ·exact h.2 z hz
    ·rw[QY hz];exact hx x (by simp)
theorem IY{l:L8}{F:Nat}:∀(f:Nat) (req:Qa) (s:PS),WfR req->Has WfR (reqMore l F f req s)
 |0,req,s,h=>fun y e=>by cases e;exact h
 |f+1,req,s,h=>fun y e=>by
  rw[reqMore]at e
  cases hp:mayL l [YY] s with
  |error g=>rw[Qi hp]at e;cases e
  |ok z=>
   rw[Qe hp]at e
   split at e
   ·cases e;exact h
   ·cases hq:sLs l (fun x=>if 0<wL [QN,Ze,Zf,ZJ] x then 0 else 6) F z.2 with
    |error g=>rw[Qi hq]at e;cases e
    |ok x=>
     rw[Qe hq]at e;have a:=AC x hq
     cases hr:paL l [[59]] x.2 with
     |error g=>rw[Qi hr]at e;cases e
     |ok v=>
      rw[Qe hr]at e;refine IY f _ v.2 (IX x.1 req h (fun z b=>?_)) y e;have:=a.2 z b
      split at this
      ·assumption
      ·cases this
theorem IZ{α:Type}{l:L8}{sub:PS->Qb (α×PS)}{P:α->Prop}(b:∀ s,Gp l s->∀ y,sub s=.ok y->Gp l y.2)(c:∀ s,Gp l s->Has P (sub s)):∀(f:Nat) (acc:List α) (s:PS),Gp l s->(∀ a∈acc,P a)->∀ y,cMr sub f acc s=.ok y->∀ a∈y,P a
 |0,acc,s,h,hc=>fun y e=>by cases e;exact hc
 |f+1,acc,s,h,hc=>fun y e=>by
  rw[cMr]at e
  split at e
  ·cases e;exact hc
  ·cases hq:sub s with
   |error g=>rw[hq]at e;cases e
   |ok x=>
    rw[hq]at e;refine IZ b c f _ x.2 (b _ h x hq) (fun u hu=>?_) y e;rcases List.mem_append.1 hu with hu|hu
    ·exact hc u hu
    ·rw[QY hu];exact c _ h x hq
theorem SW(h:prL l=.ok y):WfR y.1/\∀ c∈y.2,XU (WfT y.1) (WfC y.1) 7 c:=by
 unfold prL at h;dsimp only at h;have hF:l.length<2*l.length+10:=by omega
 generalize 2*l.length+10=F at h hF
 cases h1:nL l 0 with
 |error f=>rw[h1]at h;cases h
 |ok s=>
  rw[h1]at h;dsimp only at h
  have e:Gp l s:=by
   unfold nL at h1
   cases hs:QW (l.length+1) (l.drop 0) 0 with
   |error f=>rw[hs]at h1;cases h1
   |ok n=>
    rw[hs]at h1;exact(GU l n (Kb l _ 0 n QC hs).2 s h1).1
  cases h3:reqMore l F F [] s with
  |error f=>rw[h3]at h;cases h
  |ok z=>
   rw[h3]at h;dsimp only at h;have a:=(GV F [] s e z h3).1;have b:=IY F [] s ⟨by simp,by simp⟩ z h3
   cases h4:cMr (cmdL l z.1 F 7) F [] z.2 with
   |error f=>rw[h4]at h;cases h
   |ok cs=>
    rw[h4]at h;have d:=IZ (P:=XU (WfT z.1) (WfC z.1) 7) (IT 7 (by omega)) (fun s g=>IU hF 7 (by omega) s g) F [] z.2 a (by simp) cs h4;cases h;exact⟨b,d⟩
def FOk{α:Type}(l:L8)(r:Qb α):Prop:=∀ f,r=.error f->2<=f.err/\f.err<=7/\f.pos<=l.length
theorem AD(l:L8):∀(f p:Nat) (e:Flt),p<=l.length->QW f (l.drop p) p=.error e->e.err=2/\e.pos<=l.length
 |0,p,e,hp,h=>by simp only[QW]at h;cases h
 |f+1,p,e,hp,h=>by
  by_cases hlt:p<l.length
  ·rw[List.drop_eq_getElem_cons hlt]at h;simp only[QW]at h
   split at h
   ·exact AD l f (p+1) e (by omega) h
   ·rw[<-List.drop_eq_getElem_cons hlt]at h
    split at h
    ·rw[List.drop_drop]at h;have a:=AQ (l.drop p);rw[List.length_drop]at a;exact AD l f _ e (by omega) h
    ·split at h
     ·split at h
      ·cases h;exact⟨rfl,hp⟩
      ·rename_i hp2 hi;have b:List.drop 1 (List.drop (p+1) l)=List.drop (p+1+1) l:=by rw[List.drop_drop]
       rw[b]at h hi;rw[List.drop_drop]at h;have a:=AS (l.drop (p+1+1)) [42,47];rw[List.length_drop]at a
       have c:2<=(l.drop p).length:=by
        have:=(List.isPrefixOf_iff_prefix.1 hp2).length_le;simpa using this
       rw[List.length_drop]at c;have d:([42,47]:L8).length=2:=rfl;rw[d]at a;exact AD l f _ e (by omega) h
     ·cases h
  ·rw[Zi (by omega)]at h;simp only[QW]at h;cases h
theorem QuH(l:L8)(p:Nat)(a:p<=l.length):FOk l (QV (l.drop p) p):=fun f h=>by
 generalize l.drop p=r at h
 cases r with
 |nil=>unfold QV at h;dsimp only at h;cases h
 |cons c r=>
  unfold QV at h;dsimp only at h
  split at h
  ·cases h
  ·split at h
   ·split at h
    ·cases h;exact⟨by simp,by simp,a⟩
    ·cases h
   ·split at h
    ·obtain⟨b,d,he⟩:∃ b d:Nat,sNL (c::r) p=if Q1 ((c::r).getD b 0)then .error ⟨2,p⟩else if 2147483647<d then .error ⟨3,p⟩else .ok (⟨4,p,[],[],d⟩,p+b):=⟨_,_,rfl⟩
     rw[he]at h
     split at h
     ·cases h;exact⟨by simp,by simp,a⟩
     ·split at h
      ·cases h;exact⟨by simp,by simp,a⟩
      ·cases h
    ·split at h
     ·unfold quoteR at h
      cases hq:qL r with
      |none=>rw[hq]at h;cases h;exact⟨by simp,by simp,a⟩
      |some y=>rw[hq]at h;cases h
     ·split at h
      ·cases h
      ·cases h;exact⟨by simp,by simp,a⟩
theorem Nk(l:L8)(p:Nat)(a:p<=l.length):FOk l (nL l p):=fun f h=>by
 unfold nL at h
 cases hs:QW (l.length+1) (l.drop p) p with
 |error e=>
  rw[hs]at h;cases h;have:=AD l _ p _ a hs;omega
 |ok n=>
  rw[hs]at h;exact QuH l n (Kb l _ p n a hs).2 f h
theorem Z6:FOk l (.ok a):=fun f h=>by cases h
theorem Ju(h:Gp l s)(a:2<=n)(b:n<=7):FOk (α:=α) l (.error ⟨n,s.1.pos⟩):=fun f e=>by
 cases e;exact⟨a,b,Qm h.lt h.le⟩
theorem FOk.andThen(h:FOk l r)(b:∀ y,r=.ok y->Gp l y.2)(c:∀ a s,Gp l s->FOk l (k a s)):FOk l (Qp r k):=fun f e=>by
 cases hr:r with
 |error g=>rw[Qi hr]at e;cases e;exact h _ hr
 |ok y=>rw[Qe hr]at e;exact c y.1 y.2 (b y hr) f e
theorem FOk.next{k:PS->Qb (β×PS)}(h:Gp l s)(a:∀ s1,Gp l s1->FOk l (k s1)):FOk l (nextThen l s k):=fun f e=>by
 cases hn:nL l s.2 with
 |error g=>rw[Yd hn]at e;cases e;exact Nk l s.2 h.le _ hn
 |ok y=>rw[XV hn]at e;exact a y (V8 h hn).1 f e
theorem Vy(h:Gp l s):FOk l (paL l zs s):=fun f e=>by
 unfold paL at e
 split at e
 ·exact Ju h (by decide) (by decide) f e
 ·cases hn:nL l s.2 with
  |error g=>rw[hn]at e;cases e;exact Nk l s.2 h.le _ hn
  |ok y=>rw[hn]at e;cases e
theorem Gs(h:Gp l s):FOk l (mayL l zs s):=fun f e=>by
 unfold mayL at e
 split at e
 ·cases e
 ·cases hn:nL l s.2 with
  |error g=>rw[hn]at e;cases e;exact Nk l s.2 h.le _ hn
  |ok y=>rw[hn]at e;cases e
def Vz(chk:L8->Nat):Prop:=∀ x,chk x=0\/(2<=chk x/\chk x<=7)
theorem UT(a:Vz chk)(h:Gp l s):FOk l (sL l chk s):=fun f e=>by
 unfold sL at e
 split at e
 ·split at e
  ·cases hn:nL l s.2 with
   |error g=>rw[hn]at e;cases e;exact Nk l s.2 h.le _ hn
   |ok y=>rw[hn]at e;cases e
  ·rename_i h0;rcases a s.1.said with h1|h1
   ·exact absurd h1 h0
   ·exact Ju h h1.1 h1.2 f e
 ·exact Ju h (by decide) (by decide) f e
theorem UU:Vz (fun _=>0):=fun _=>Qd rfl
theorem Qzy(p:L8->Bool)(n:Nat)(a:2<=n)(b:n<=7):Vz (fun x=>if p x then 0 else n):=fun x=>by
 dsimp only;split
 ·exact Qd rfl
 ·exact Qc ⟨a,b⟩
theorem CK(g:L8->L8)(zs:Qa)(n:Nat)(a:2<=n)(b:n<=7):Vz (fun x=>if 0<wL zs (g x)then 0 else n):=fun x=>by
 dsimp only;split
 ·exact Qd rfl
 ·exact Qc ⟨a,b⟩
theorem I0{l:L8}{chk:L8->Nat}(b:Vz chk):∀(f:Nat) (acc:Qa) (s:PS),Gp l s->FOk l (moreL l chk f acc s)
 |0,acc,s,h=>Z6
 |f+1,acc,s,h=>fun g e=>by
  rw[moreL]at e
  cases hp:paL l [[44],[93]] s with
  |error g=>rw[hp]at e;cases e;exact Vy h _ hp
  |ok z=>
   rw[hp]at e;have a:=(Xj (zs:=[[44],[93]]) h (by decide) z hp).1;dsimp only at e
   split at e
   ·cases hs:sL l chk z.2 with
    |error g=>rw[hs]at e;cases e;exact UT b a _ hs
    |ok x=>rw[hs]at e;exact I0 b f _ x.2 (XN a x hs).1 g e
   ·cases e
theorem AE(b:Vz chk)(h:Gp l s):FOk l (sLs l chk F s):=fun g e=>by
 unfold sLs at e
 cases hm:mayL l [[91]] s with
 |error g=>rw[hm]at e;cases e;exact Gs h _ hm
 |ok z=>
  rw[hm]at e;have a:=(XW (zs:=[[91]]) h (by decide) z hm).1;dsimp only at e
  cases hs:sL l chk z.2 with
  |error g=>rw[hs]at e;cases e;exact UT b a _ hs
  |ok x=>
   rw[hs]at e;dsimp only at e
   split at e
   ·cases e
   ·exact I0 b F _ x.2 (XN a x hs).1 g e
theorem CM{l:L8}:∀(f d:Nat) (c b:Bool) (s:PS),Gp l s->FOk l (Zb l f d c b s)
 |0,d,c,b,s,h=>Z6
 |f+1,d,c,b,s,h=>by
  rw[Zb];split
  ·split
   ·exact Z6
   ·split
    ·exact Ju h (by decide) (by decide)
    ·refine FOk.next h (fun g a=>FOk.andThen (UT (CK id _ 7 (by decide) (by decide)) a) (fun y e=>(XN a y e).1) (fun x j i=>CM f _ _ _ j i))
  ·split
   ·exact FOk.next h (fun g a=>CM f _ _ _ g a)
   ·exact Ju h (by decide) (by decide)
theorem CN{k:Nat}(hc:Vz chk)(h:Gp l s):FOk l (ZR l F chk k pos s):=
 FOk.andThen (CM F 0 false false s h) (fun y e=>(AA F 0 false false s h y e).1) fun o s1 g1=>
  FOk.andThen (AE hc g1) (fun y e=>(K9 g1 y e).1) fun fr s2 g2=>
   FOk.andThen (AE UU g2) (fun y e=>(K9 g2 y e).1) fun ks s3 g3=>Z6
theorem I1{α:Type}{l:L8}{sub:PS->Qb (α×PS)}(b:∀ s,Gp l s->∀ y,sub s=.ok y->Gp l y.2)(c:∀ s,Gp l s->FOk l (sub s)):∀(f:Nat) (acc:List α) (s:PS),Gp l s->FOk l (gMr l sub f acc s)
 |0,acc,s,h=>Z6
 |f+1,acc,s,h=>by
  rw[gMr];refine FOk.andThen (Vy h) (fun y e=>(Xj (zs:=[[44],[41]]) h (by decide) y e).1) (fun i d a=>?_);split
  ·exact FOk.andThen (c d a) (b d a) (fun t j g=>I1 b c f _ j g)
  ·exact Z6
theorem I2(hg:∀ s,Gp l s->∀ y,sub s=.ok y->Gp l y.2)(hs:∀ s,Gp l s->FOk l (sub s))(h:Gp l s):FOk l (groupL l F sub s):=
 FOk.andThen (Vy h) (fun y e=>(Xj (zs:=[[40]]) h (by decide) y e).1) fun i s1 g1=>
  FOk.andThen (hs s1 g1) (hg s1 g1) fun t s2 g2=>I1 hg hs F _ s2 g2
theorem I3{α:Type}{l:L8}{sub:PS->Qb (α×PS)}(b:∀ s,Gp l s->∀ y,sub s=.ok y->Gp l y.2):∀(f:Nat) (acc:List α) (s:PS),Gp l s->∀ y,gMr l sub f acc s=.ok y->Gp l y.2
 |0,acc,s,h=>fun y e=>by cases e;exact h
 |f+1,acc,s,h=>fun y e=>by
  rw[gMr]at e
  cases hp:paL l [[44],[41]] s with
  |error g=>rw[Qi hp]at e;cases e
  |ok z=>
   rw[Qe hp]at e;have a:=(Xj (zs:=[[44],[41]]) h (by decide) z hp).1
   split at e
   ·cases hq:sub z.2 with
    |error g=>rw[Qi hq]at e;cases e
    |ok x=>rw[Qe hq]at e;exact I3 b f _ x.2 (b _ a x hq) y e
   ·cases e;exact a
theorem I4(a:∀ s,Gp l s->∀ y,sub s=.ok y->Gp l y.2)(h:Gp l s):∀ y,groupL l F sub s=.ok y->Gp l y.2:=fun y e=>by
 unfold groupL at e
 cases hp:paL l [[40]] s with
 |error g=>rw[Qi hp]at e;cases e
 |ok z=>
  rw[Qe hp]at e;have b:=(Xj (zs:=[[40]]) h (by decide) z hp).1
  cases hq:sub z.2 with
  |error g=>rw[Qi hq]at e;cases e
  |ok x=>rw[Qe hq]at e;exact I3 a F _ x.2 (a _ b x hq) y e
theorem QwD(h:Gp l s):FOk l (sizeL l pos s):=by
 refine FOk.andThen (Vy h) (fun y e=>(Xj (zs:=[X3,X4]) h (by decide) y e).1) (fun i c a=>?_);split
 ·exact FOk.next a (fun d b=>Z6)
 ·exact Ju a (by decide) (by decide)
theorem QyI(h:Gp l s):∀ y,sizeL l pos s=.ok y->Gp l y.2:=fun y e=>by
 unfold sizeL at e
 cases hp:paL l [X3,X4] s with
 |error g=>rw[Qi hp]at e;cases e
 |ok i=>
  rw[Qe hp]at e;have a:=(Xj (zs:=[X3,X4]) h (by decide) i hp).1
  split at e
  ·cases hn:nL l i.2.2 with
   |error f=>rw[Yd hn]at e;cases e
   |ok z=>rw[XV hn]at e;cases e;exact(V8 a hn).1
  ·cases e
theorem QmH(a:∀ s,Gp l s->∀ y,sub s=.ok y->Gp l y.2)(b:∀ s,Gp l s->FOk l (sub s))(k pos:Nat)(h:Gp l s):FOk l (tBd l F sub k pos s):=by
 unfold tBd;split
 ·exact Z6
 ·exact Z6
 ·exact FOk.andThen (b s h) (a s h) (fun _ _ _=>Z6)
 ·exact FOk.andThen (I2 a b h) (I4 a h) (fun _ _ _=>Z6)
 ·exact FOk.andThen (I2 a b h) (I4 a h) (fun _ _ _=>Z6)
 ·exact FOk.andThen (CN UU h) (fun y e=>(Vg h y e).1) (fun _ _ _=>Z6)
 ·exact FOk.andThen (CN (CK zL _ 7 (by decide) (by decide)) h) (fun y e=>(Vg h y e).1) (fun _ _ _=>Z6)
 ·exact FOk.andThen (CN UU h) (fun y e=>(Vg h y e).1) (fun _ _ _=>Z6)
 ·exact FOk.andThen (AE UU h) (fun y e=>(K9 h y e).1) (fun _ _ _=>Z6)
 ·exact FOk.andThen (QwD h) (QyI h) (fun _ _ _=>Z6)
theorem I5{l:L8}{req:Qa}{F:Nat}:∀(n:Nat) (s:PS),Gp l s->FOk l (Qq l req F n s)
 |0,s,h=>by
  rw[Qq];split
  ·exact Ju h (by decide) (by decide)
  ·exact Ju h (by decide) (by decide)
 |n+1,s,h=>by
  rw[Qq];split
  ·exact Ju h (by decide) (by decide)
  ·split
   ·exact FOk.next h (fun b a=>QmH (fun s g y e=>(Gr n s g y e).1) (fun s g=>I5 n s g) _ _ a)
   ·exact Ju h (by decide) (by decide)
theorem AF{α:Type}{l:L8}{sub:PS->Qb (α×PS)}(a:∀ s,Gp l s->∀ y,sub s=.ok y->Gp l y.2)(b:∀ s,Gp l s->FOk l (sub s)):∀(f:Nat) (acc:List α) (s:PS),Gp l s->FOk l (bMr l sub f acc s)/\∀ y,bMr l sub f acc s=.ok y->Gp l y.2
 |0,acc,s,h=>⟨Z6,fun y e=>by cases e;exact h⟩
 |f+1,acc,s,h=>by
  rw[bMr];constructor
  ·refine FOk.andThen (Gs h) (fun y e=>(XW (zs:=[[125]]) h (by decide) y e).1) (fun i j c=>?_);split
   ·exact FOk.andThen (b j c) (a j c) (fun t m k=>(AF a b f _ m k).1)
   ·exact Z6
  ·intro y e
   cases hp:mayL l [[125]] s with
   |error g=>rw[Qi hp]at e;cases e
   |ok z=>
    rw[Qe hp]at e;have d:=(XW (zs:=[[125]]) h (by decide) z hp).1
    split at e
    ·cases hq:sub z.2 with
     |error g=>rw[Qi hq]at e;cases e
     |ok x=>rw[Qe hq]at e;exact(AF a b f _ x.2 (a _ d x hq)).2 y e
    ·cases e;exact d
theorem Nl(a:∀ s,Gp l s->∀ y,sub s=.ok y->Gp l y.2)(b:∀ s,Gp l s->FOk l (sub s))(h:Gp l s):FOk l (blockL l F sub s)/\∀ y,blockL l F sub s=.ok y->Gp l y.2:=by
 constructor
 ·exact FOk.andThen (Vy h) (fun y e=>(Xj (zs:=[[123]]) h (by decide) y e).1) (fun i d c=>(AF a b F [] d c).1)
 ·intro y e;unfold blockL at e
  cases hp:paL l [[123]] s with
  |error g=>rw[Qi hp]at e;cases e
  |ok z=>
   rw[Qe hp]at e;exact(AF a b F [] z.2 (Xj (zs:=[[123]]) h (by decide) z hp).1).2 y e
theorem Nm(d:∀ s,Gp l s->∀ y,tst s=.ok y->Gp l y.2)(f:∀ s,Gp l s->FOk l (tst s))(a:∀ s,Gp l s->∀ y,sub s=.ok y->Gp l y.2)(b:∀ s,Gp l s->FOk l (sub s))(h:Gp l s):FOk l (armL l F tst sub s)/\∀ y,armL l F tst sub s=.ok y->Gp l y.2:=by
 constructor
 ·exact FOk.andThen (f s h) (d s h) (fun t i c=>FOk.andThen (Nl a b c).1 (Nl a b c).2 (fun _ _ _=>Z6))
 ·intro y e;unfold armL at e
  cases hp:tst s with
  |error g=>rw[Qi hp]at e;cases e
  |ok z=>
   rw[Qe hp]at e
   cases hq:blockL l F sub z.2 with
   |error g=>rw[Qi hq]at e;cases e
   |ok x=>rw[Qe hq]at e;cases e;exact(Nl a b (d _ h z hp)).2 x hq
theorem AG{α β:Type}{l:L8}{F:Nat}{tst:PS->Qb (β×PS)}{sub:PS->Qb (α×PS)}(d:∀ s,Gp l s->∀ y,tst s=.ok y->Gp l y.2)(c:∀ s,Gp l s->FOk l (tst s))(a:∀ s,Gp l s->∀ y,sub s=.ok y->Gp l y.2)(b:∀ s,Gp l s->FOk l (sub s)):∀(f:Nat) (acc:List (β×List α)) (s:PS),Gp l s->FOk l (aMr l F tst sub f acc s)/\∀ y,aMr l F tst sub f acc s=.ok y->Gp l y.2
 |0,acc,s,h=>⟨Z6,fun y e=>by cases e;exact h⟩
 |f+1,acc,s,h=>by
  rw[aMr];constructor
  ·refine FOk.andThen (Gs h) (fun y e=>(XW (zs:=[Xe]) h (by decide) y e).1) (fun i o j=>?_);split
   ·exact Z6
   ·exact FOk.andThen (Nm d c a b j).1 (Nm d c a b j).2 (fun t n m=>(AG d c a b f _ n m).1)
  ·intro y e
   cases hp:mayL l [Xe] s with
   |error g=>rw[Qi hp]at e;cases e
   |ok z=>
    rw[Qe hp]at e;have k:=(XW (zs:=[Xe]) h (by decide) z hp).1
    split at e
    ·cases e;exact k
    ·cases hq:armL l F tst sub z.2 with
     |error g=>rw[Qi hq]at e;cases e
     |ok x=>rw[Qe hq]at e;exact(AG d c a b f _ x.2 ((Nm d c a b k).2 x hq)).2 y e
theorem VA(h:Gp l s):FOk l (semi l s a):=
 FOk.andThen (Vy h) (fun y e=>(Xj (zs:=[[59]]) h (by decide) y e).1) (fun _ _ _=>Z6)
theorem QoS(n:∀ s,Gp l s->∀ y,tst s=.ok y->Gp l y.2)(m:∀ s,Gp l s->FOk l (tst s))(c:∀ s,Gp l s->∀ y,sub s=.ok y->Gp l y.2)(d:∀ s,Gp l s->FOk l (sub s))(k pos:Nat)(h:Gp l s):FOk l (cBd l F tst sub k pos s):=by
 unfold cBd;split
 ·exact VA h
 ·exact VA h
 ·exact VA h
 ·exact FOk.andThen (UT UU h) (fun y e=>(XN h y e).1) (fun _ f b=>VA b)
 ·exact FOk.andThen (UT UU h) (fun y e=>(XN h y e).1) (fun _ f b=>VA b)
 ·exact FOk.andThen (UT UU h) (fun y e=>(XN h y e).1) (fun _ f b=>VA b)
 ·exact FOk.andThen (Gs h) (fun y e=>(XW (zs:=[Xs,Xt,Xu]) h (by decide) y e).1) (fun _ f b=>FOk.andThen (UT (Qzy isNameL 7 (by decide) (by decide)) b) (fun y e=>(XN b y e).1) (fun _ o g=>FOk.andThen (UT UU g) (fun y e=>(XN g y e).1) (fun _ p j=>VA j)))
 ·refine FOk.andThen (Nm n m c d h).1 (Nm n m c d h).2 (fun a f b=>FOk.andThen (AG n m c d F [a] f b).1 (AG n m c d F [a] f b).2 (fun as o g=>FOk.andThen (Gs g) (fun y e=>(XW (zs:=[Xv]) g (by decide) y e).1) (fun i p j=>?_)));split
  ·exact Z6
  ·exact FOk.andThen (Nl c d j).1 (Nl c d j).2 (fun _ _ _=>Z6)
theorem I6(n:Nat)(hn:n<=7)(s:PS)(h:Gp l s):∀ y,cmdL l req F n s=.ok y->Gp l y.2:=fun y e=>(GT n [] (by simp;omega) s h y e).1
theorem I7{l:L8}{req:Qa}{F:Nat}:∀(n:Nat),n<=7->∀(s:PS),Gp l s->FOk l (cmdL l req F n s)
 |0,_,s,h=>by
  rw[cmdL];split
  ·exact Ju h (by decide) (by decide)
  ·exact Ju h (by decide) (by decide)
 |n+1,hn,s,h=>by
  rw[cmdL];split
  ·exact Ju h (by decide) (by decide)
  ·split
   ·exact FOk.next h (fun b a=>QoS (fun s g y e=>(Gr n s g y e).1) (fun s g=>I5 n s g) (I6 n (by omega)) (fun s g=>I7 n (by omega) s g) _ _ a)
   ·exact Ju h (by decide) (by decide)
theorem I8{l:L8}{F:Nat}:∀(f:Nat) (req:Qa) (s:PS),Gp l s->FOk l (reqMore l F f req s)
 |0,req,s,h=>Z6
 |f+1,req,s,h=>by
  rw[reqMore];refine FOk.andThen (Gs h) (fun y e=>(XW (zs:=[YY]) h (by decide) y e).1) (fun i g a=>?_);split
  ·exact Z6
  ·exact FOk.andThen (AE (CK id _ 6 (by decide) (by decide)) a) (fun y e=>(K9 a y e).1) (fun k j b=>FOk.andThen (Vy b) (fun y e=>(Xj (zs:=[[59]]) b (by decide) y e).1) (fun _ d c=>I8 f _ d c))
theorem I9{α:Type}{l:L8}{sub:PS->Qb (α×PS)}(a:∀ s,Gp l s->∀ y,sub s=.ok y->Gp l y.2)(b:∀ s,Gp l s->FOk l (sub s)):∀(f:Nat) (acc:List α) (s:PS),Gp l s->FOk l (cMr sub f acc s)
 |0,acc,s,h=>Z6
 |f+1,acc,s,h=>fun g e=>by
  rw[cMr]at e
  split at e
  ·cases e
  ·cases hq:sub s with
   |error g=>rw[hq]at e;cases e;exact b s h _ hq
   |ok x=>rw[hq]at e;exact I9 a b f _ x.2 (a s h x hq) g e
theorem Qwh(a:nL l 0=.ok s):Gp l s:=by
 unfold nL at a
 cases hs:QW (l.length+1) (l.drop 0) 0 with
 |error f=>rw[hs]at a;cases a
 |ok n=>
  rw[hs]at a;exact(GU l n (Kb l _ 0 n QC hs).2 s a).1
theorem SC(l:L8):FOk l (prL l):=fun f h=>by
 unfold prL at h;dsimp only at h;generalize 2*l.length+10=F at h
 cases h1:nL l 0 with
 |error g=>rw[h1]at h;cases h;exact Nk l 0 QC _ h1
 |ok s=>
  rw[h1]at h;dsimp only at h;have a:=Qwh h1
  cases h3:reqMore l F F [] s with
  |error g=>rw[h3]at h;cases h;exact I8 F [] s a _ h3
  |ok z=>
   rw[h3]at h;dsimp only at h;have b:=(GV F [] s a z h3).1
   cases h4:cMr (cmdL l z.1 F 7) F [] z.2 with
   |error g=>rw[h4]at h;cases h;exact I9 (I6 7 (by omega)) (fun s g=>I7 7 (by omega) s g) F [] z.2 b _ h4
   |ok cs=>rw[h4]at h;cases h
def Ub:L8->Nat->Qb Nat
 | [],p=>.ok p
 |c::r,p=>if c=10 then skipS (c::r) p else Ub r (p+1)
theorem La:∀(r:L8) (p:Nat),Ub r p=skipS (r.drop (lineLen r)) (p+lineLen r)
 | [],p=>rfl
 |c::r,p=>by
  rw[Ub];by_cases h:c=10
  ·subst h;rw[if_pos rfl];have e:lineLen (10::r)=1:=by simp[lineLen,Lib.indexByte]
   rw[e,E7 r p (by decide)];rfl
  ·rw[if_neg h,La r (p+1)]
   have e:lineLen (c::r)=1+lineLen r:=by
    have d:(c==10)=false:=by simpa using h
    have a:Lib.indexByte (c::r) 10=if Lib.indexByte r 10 == -1 then -1 else Lib.indexByte r 10+1:=by
     rw[Lib.indexByte,d];rfl
    have g:=AP r 10;unfold lineLen;rw[a];by_cases hr:Lib.indexByte r 10<0
    ·have f:Lib.indexByte r 10 = -1:=by have:=Lib.indexByte_ge r 10;omega
     rw[f];simp;omega
    ·have b:(Lib.indexByte r 10 == -1)=false:=by rw[beq_eq_false_iff_ne];omega
     rw[b,if_neg (by simp;omega),if_neg hr];simp;omega
   rw[e,Nat.add_comm 1 (lineLen r),List.drop_succ_cons];congr 1;omega
theorem Se(r:L8)(p:Nat)(a:c.toNat=35):skipS (c::r) p=Ub (c::r) p:=by
 have b:ZN c.toNat=false:=by unfold ZN;simp;omega
 rw[La,QrP r p b a]
def J6(q:Nat):L8->Nat->Qb Nat
 | [],_=>.error ⟨2,q⟩
 | [_],_=>.error ⟨2,q⟩
 |c::d::r,p=>if c=42/\d=47 then skipS r (p+2)else J6 q (d::r) (p+1)
theorem Lb(q:Nat):∀(r:L8) (p:Nat),J6 q r p=if Lib.index r [42,47]<0 then .error ⟨2,q⟩else skipS (r.drop (2+(Lib.index r [42,47]).toNat)) (p+(2+(Lib.index r [42,47]).toNat))
 | [],p=>rfl
 | [c],p=>by
  rw[J6]
  have e:Lib.index [c] [42,47] = -1:=by
   unfold Lib.index;have:([42,47]:L8).isPrefixOf [c]=false:=by simp[List.isPrefixOf]
   rw[this];simp[Lib.index]
  rw[e];rfl
 |c::d::r,p=>by
  rw[J6]
  have a:Lib.index (c::d::r) [42,47]=if([42,47]:L8).isPrefixOf (c::d::r)then 0 else if Lib.index (d::r) [42,47] == -1 then -1 else Lib.index (d::r) [42,47]+1:=by
   rw[Lib.index]
  by_cases h:c=42/\d=47
  ·obtain⟨rfl,rfl⟩:=h;rw[if_pos ⟨rfl,rfl⟩,a];simp[List.isPrefixOf]
  ·have g:([42,47]:L8).isPrefixOf (c::d::r)=false:=by
    simp only[List.isPrefixOf,Bool.and_true,Bool.and_eq_false_iff];by_cases hc:c=42
    ·right;have:¬ d=47:=fun e=>h ⟨hc,e⟩
     simpa using fun e=>this e.symm
    ·left;simpa using fun e=>hc e.symm
   rw[if_neg h,a,g,Lb q (d::r) (p+1)];have j:=Lib.index_ge (d::r) [42,47];by_cases hr:Lib.index (d::r) [42,47]<0
   ·have i:Lib.index (d::r) [42,47] = -1:=by omega
    rw[i];rfl
   ·have f:(Lib.index (d::r) [42,47] == -1)=false:=by rw[beq_eq_false_iff_ne];omega
    rw[if_neg hr,f];simp only[Bool.false_eq_true,if_false];rw[if_neg (by omega)];have e:(Lib.index (d::r) [42,47]+1).toNat=(Lib.index (d::r) [42,47]).toNat+1:=by omega
    rw[e];have b:2+((Lib.index (d::r) [42,47]).toNat+1)=(2+(Lib.index (d::r) [42,47]).toNat)+1:=by omega
    rw[b,List.drop_succ_cons];congr 1;omega
theorem Sf(r:L8)(p:Nat):skipS (47::42::r) p=J6 p r (p+2):=by
 have a:Lib.hasPrefix (47::42::r) [47,42]=true:=rfl;rw[Lb];by_cases h3:Lib.index r [42,47]<0
 ·rw[if_pos h3,Qot (42::r) p (by decide) (by decide) a h3]
 ·rw[if_neg h3,QtL (42::r) p (by decide) (by decide) a h3]
  have e:4+(Lib.index (List.drop 1 (42::r)) [42,47]).toNat=(2+(Lib.index r [42,47]).toNat)+2:=by
   show 4+(Lib.index r [42,47]).toNat=_
   omega
  rw[e,List.drop_succ_cons,List.drop_succ_cons];congr 1;omega
theorem BX(r:L8)(p:Nat)(h:ZN c.toNat=false)(a:¬ c=35)(b:¬(c=47/\r.head?=some 42)):skipS (c::r) p=.ok p:=by
 refine QrC r p h (fun e=>a (UInt8.toNat_inj.1 e)) ?_
 cases hh:Lib.hasPrefix (c::r) [47,42]with
 |false=>rfl
 |true=>
  exfalso;apply b
  cases r with
  |nil=>simp[Lib.hasPrefix,List.isPrefixOf]at hh
  |cons d r=>
   simp[Lib.hasPrefix,List.isPrefixOf]at hh;exact⟨hh.1.symm,by rw[<-hh.2];rfl⟩
section
def kQ(x:Wd):Nat:=if x.kind=0 then 0 else if x.kind=1 then 119 else if x.kind=2 then 58 else if x.kind=3 then(x.spelt.headD 0).toNat else if x.kind=4 then 48 else 34
def sQ(x:Wd):L8:=if x.kind=1 then x.spelt else if x.kind=2 then x.spelt.drop 1 else if x.kind=5 then x.said else []
def WdQ(x:Wd):Prop:=
 (x.kind=0/\x.spelt=[]/\x.said=[]/\x.num=0)\/
 (x.kind=1/\(∃ c r,x.spelt=c::r/\QP c.toNat=true)/\x.said=[]/\x.num=0)\/
 (x.kind=2/\(∃ c r,x.spelt=58::c::r/\QP c.toNat=true)/\x.said=[]/\x.num=0)\/
 (x.kind=3/\(∃ c,x.spelt=[c]/\Yk c=true)/\x.said=[]/\x.num=0)\/
 (x.kind=4/\x.spelt=[]/\x.said=[])\/
 (x.kind=5/\x.spelt=[]/\x.num=0)
theorem Lc(c:UInt8)(h:QP c.toNat=true):QP (X8 c).toNat=true:=by
 unfold X8;split
 ·rename_i hc;have a:=UInt8.toNat_lt c;unfold Yj at hc;simp at hc
  have e:((c - 65+97).toNat:Int)=(c.toNat:Int)+32:=by
   rw[UInt8.toNat_add,UInt8.toNat_sub];simp;omega
  rw[e];unfold QP;simp;omega
 ·exact h
theorem sign_cases(h:Yk c=true):c=59\/c=44\/c=40\/c=41\/c=123\/c=125\/c=91\/c=93:=by
 unfold Yk at h;have a:=Cy _ _ (of_decide_eq_true h);simpa using a
theorem Qor{r:L8}(h:¬ nameLen r=0):∃ c r',r=c::r'/\QP c.toNat=true:=by
 cases r with
 |nil=>exact absurd rfl h
 |cons c r'=>
  refine⟨c,r',rfl,?_⟩;rw[nameLen]at h
  cases hc:QP c.toNat with
  |true=>rfl
  |false=>rw[hc]at h;exact absurd rfl h
theorem Qxf(r:L8)(p:Nat)(x:PS)(h:QV r p=.ok x):WdQ x.1:=by
 cases r with
 |nil=>unfold QV at h;dsimp only at h;cases h;exact Qd ⟨rfl,rfl,rfl,rfl⟩
 |cons c r=>
  unfold QV at h;dsimp only at h
  split at h
  ·rename_i hl;cases h;refine Qc (Qd ⟨rfl,?_,rfl,rfl⟩)
   have e:∃ m,nameLen (c::r)=m+1:=by
    refine⟨nameLen (c::r) - 1,?_⟩;have:1<=nameLen (c::r):=by simp only[nameLen];rw[if_pos hl];omega
    omega
   obtain⟨m,b⟩:=e;refine⟨X8 c,zL (r.take m),?_,Lc c hl⟩;show zL ((c::r).take (nameLen (c::r)))=_
   rw[b];rfl
  ·split at h
   ·rename_i h58
    split at h
    ·cases h
    ·rename_i e;cases h;refine Qc (Qc (Qd ⟨rfl,?_,rfl,rfl⟩));obtain⟨d,a,rfl,j⟩:=Qor e;obtain⟨m,b⟩:∃ m,nameLen (d::a)=m+1:=⟨nameLen (d::a) - 1,by omega⟩;refine⟨X8 d,zL (a.take m),?_,Lc d j⟩;show zL ((c::d::a).take (1+nameLen (d::a)))=_
     rw[b,show 1+(m+1)=m+1+1 by omega];have i:c=58:=UInt8.toNat_inj.1 h58;subst i;rfl
   ·split at h
    ·obtain⟨f,g,he⟩:∃ f g:Nat,sNL (c::r) p=if Q1 ((c::r).getD f 0)then .error ⟨2,p⟩else if 2147483647<g then .error ⟨3,p⟩else .ok (⟨4,p,[],[],g⟩,p+f):=⟨_,_,rfl⟩
     rw[he]at h
     split at h
     ·cases h
     ·split at h
      ·cases h
      ·cases h;exact Qc (Qc (Qc (Qc (Qd ⟨rfl,rfl,rfl⟩))))
    ·split at h
     ·unfold quoteR at h
      cases hq:qL r with
      |none=>rw[hq]at h;cases h
      |some y=>
       rw[hq]at h;cases h;exact Qc (Qc (Qc (Qc (Qc ⟨rfl,rfl,rfl⟩))))
     ·split at h
      ·rename_i hs;cases h;refine Qc (Qc (Qc (Qd ⟨rfl,⟨c,?_,hs⟩,rfl,rfl⟩)));have:X8 c=c:=by rcases sign_cases hs with rfl|rfl|rfl|rfl|rfl|rfl|rfl|rfl<;>rfl
       show [X8 c]=[c]
       rw[this]
      ·cases h
theorem Qro(r:L8)(p:Nat)(x:PS)(h:QV r p=.ok x):x.1.spelt.length<=r.length:=by
 have a:∀(k n:Nat) (q:L8),(XC k q p n).1.spelt.length<=q.length:=fun k n q=>by
  show(zL (q.take n)).length<=_
  unfold zL;rw[List.length_map,List.length_take];omega
 cases r with
 |nil=>unfold QV at h;dsimp only at h;cases h;simp
 |cons c r=>
  unfold QV at h;dsimp only at h
  split at h
  ·cases h;exact a _ _ _
  ·split at h
   ·split at h
    ·cases h
    ·cases h;exact a _ _ _
   ·split at h
    ·obtain⟨b,d,he⟩:∃ b d:Nat,sNL (c::r) p=if Q1 ((c::r).getD b 0)then .error ⟨2,p⟩else if 2147483647<d then .error ⟨3,p⟩else .ok (⟨4,p,[],[],d⟩,p+b):=⟨_,_,rfl⟩
     rw[he]at h
     split at h
     ·cases h
     ·split at h
      ·cases h
      ·cases h;simp
    ·split at h
     ·unfold quoteR at h
      cases hq:qL r with
      |none=>rw[hq]at h;cases h
      |some y=>rw[hq]at h;cases h;simp
     ·split at h
      ·cases h;exact a _ _ _
      ·cases h
theorem QrN(h:nL l p=.ok s):s.1.spelt.length<=l.length:=by
 unfold nL at h
 cases hs:QW (l.length+1) (l.drop p) p with
 |error f=>rw[hs]at h;cases h
 |ok n=>
  rw[hs]at h;have:=Qro _ n s h;rw[List.length_drop]at this;omega
theorem Qxa(h:nL l p=.ok s):WdQ s.1:=by
 unfold nL at h
 cases hs:QW (l.length+1) (l.drop p) p with
 |error f=>rw[hs]at h;cases h
 |ok n=>rw[hs]at h;exact Qxf _ n s h
section
variable {x:Wd} (h:WdQ x)
include h
theorem JN(f:Yk c=true):kQ x=c.toNat↔x.spelt=[c]:=by
 have a:=sign_cases f;rcases h with⟨k,s,_⟩ | ⟨k,⟨d,r,s,b⟩,_⟩ | ⟨k,⟨d,r,s,b⟩,_⟩ | ⟨k,⟨d,s,b⟩,_⟩ | ⟨k,s,_⟩ | ⟨k,s,_⟩
 all_goals (unfold kQ;rw[k,s];simp)
 ·rcases a with rfl|rfl|rfl|rfl|rfl|rfl|rfl|rfl<;>decide
 ·constructor
  ·intro e;rcases a with rfl|rfl|rfl|rfl|rfl|rfl|rfl|rfl<;>exact absurd e (by decide)
  ·rintro⟨rfl,_⟩;rcases a with rfl|rfl|rfl|rfl|rfl|rfl|rfl|rfl<;>exact absurd b (by decide)
 ·rcases a with rfl|rfl|rfl|rfl|rfl|rfl|rfl|rfl<;>decide
 ·exact UInt8.toNat_inj
 ·rcases a with rfl|rfl|rfl|rfl|rfl|rfl|rfl|rfl<;>decide
 ·rcases a with rfl|rfl|rfl|rfl|rfl|rfl|rfl|rfl<;>decide
theorem K4:kQ x=119↔x.kind=1:=by
 rcases h with⟨k,s,_⟩ | ⟨k,⟨d,r,s,a⟩,_⟩ | ⟨k,⟨d,r,s,a⟩,_⟩ | ⟨k,⟨d,s,a⟩,_⟩ | ⟨k,s,_⟩ | ⟨k,s,_⟩
 all_goals (unfold kQ;rw[k];simp)
 rw[s];rcases sign_cases a with rfl|rfl|rfl|rfl|rfl|rfl|rfl|rfl<;>decide
theorem Ut:kQ x=58↔x.kind=2:=by
 rcases h with⟨k,s,_⟩ | ⟨k,⟨d,r,s,a⟩,_⟩ | ⟨k,⟨d,r,s,a⟩,_⟩ | ⟨k,⟨d,s,a⟩,_⟩ | ⟨k,s,_⟩ | ⟨k,s,_⟩
 all_goals (unfold kQ;rw[k];simp)
 rw[s];rcases sign_cases a with rfl|rfl|rfl|rfl|rfl|rfl|rfl|rfl<;>decide
theorem Ez:kQ x=34↔x.kind=5:=by
 rcases h with⟨k,s,_⟩ | ⟨k,⟨d,r,s,a⟩,_⟩ | ⟨k,⟨d,r,s,a⟩,_⟩ | ⟨k,⟨d,s,a⟩,_⟩ | ⟨k,s,_⟩ | ⟨k,s,_⟩
 all_goals (unfold kQ;rw[k];simp)
 rw[s];rcases sign_cases a with rfl|rfl|rfl|rfl|rfl|rfl|rfl|rfl<;>decide
theorem E2:kQ x=48↔x.kind=4:=by
 rcases h with⟨k,s,_⟩ | ⟨k,⟨d,r,s,a⟩,_⟩ | ⟨k,⟨d,r,s,a⟩,_⟩ | ⟨k,⟨d,s,a⟩,_⟩ | ⟨k,s,_⟩ | ⟨k,s,_⟩
 all_goals (unfold kQ;rw[k];simp)
 rw[s];rcases sign_cases a with rfl|rfl|rfl|rfl|rfl|rfl|rfl|rfl<;>decide
theorem VO:kQ x=0↔x.kind=0:=by
 rcases h with⟨k,s,_⟩ | ⟨k,⟨d,r,s,a⟩,_⟩ | ⟨k,⟨d,r,s,a⟩,_⟩ | ⟨k,⟨d,s,a⟩,_⟩ | ⟨k,s,_⟩ | ⟨k,s,_⟩
 all_goals (unfold kQ;rw[k];simp)
 rw[s];rcases sign_cases a with rfl|rfl|rfl|rfl|rfl|rfl|rfl|rfl<;>decide
theorem GX(e:∃ c r,z=c::r/\QP c.toNat=true):x.spelt=z↔(x.kind=1/\sQ x=z):=by
 obtain⟨c,r,rfl,b⟩:=e;rcases h with⟨k,s,_⟩ | ⟨k,⟨d,r,s,a⟩,_⟩ | ⟨k,⟨d,r,s,a⟩,_⟩ | ⟨k,⟨d,s,a⟩,_⟩ | ⟨k,s,_⟩ | ⟨k,s,_⟩
 all_goals (unfold sQ;rw[k,s];simp)
 ·rintro rfl;exact absurd b (by decide)
 ·rintro rfl;rcases sign_cases a with rfl|rfl|rfl|rfl|rfl|rfl|rfl|rfl<;>exact absurd b (by decide)
theorem P6(b:z≠[]):x.spelt=58::z↔(x.kind=2/\sQ x=z):=by
 rcases h with⟨k,s,_⟩ | ⟨k,⟨d,r,s,a⟩,_⟩ | ⟨k,⟨d,r,s,a⟩,_⟩ | ⟨k,⟨d,s,a⟩,_⟩ | ⟨k,s,_⟩ | ⟨k,s,_⟩
 all_goals (unfold sQ;rw[k,s];simp)
 ·rintro rfl;exact absurd a (by decide)
 ·rintro rfl;exact absurd a (by decide)
end
theorem PV{x:Wd}(a:x.spelt.length<=n)(b:x.said.length<=n):(sQ x).length<=n:=by
 unfold sQ;split
 ·exact a
 ·split
  ·rw[List.length_drop];omega
  ·split
   ·exact b
   ·simp
def Ve(l:L8)(chk:L8->Nat)(f:Nat)(acc:Qa)(s:PS):Qb (Qa×PS):=Qp (sL l chk s) fun x s1=>moreL l chk f (acc++[x]) s1
theorem KL(z x:L8):wL [z] x=if z=x then 1 else 0:=by
 unfold wL;by_cases h:z=x
 ·rw[if_pos h,if_pos h]
 ·rw[if_neg h,if_neg h];rfl
section
variable {l:L8} {chk:L8->Nat} {F:Nat} {s:PS} (hw:WdQ s.1)
include hw
theorem EB(a:¬ kQ s.1=91):sLs l chk F s=Qp (sL l chk s) fun x s1=>.ok ([x],s1):=by
 have h:¬ s.1.spelt=[91]:=fun e=>a ((JN hw (c:=91) (by decide)).2 e)
 have e:mayL l [[91]] s=.ok (0,s):=by
  have b:wL [[91]] s.1.spelt=0:=by rw[KL,if_neg (fun e=>h e.symm)]
  unfold mayL;rw[if_pos b]
 unfold sLs;rw[e];dsimp only
 cases sL l chk s with
 |error f=>rfl
 |ok z=>rfl
theorem P3(a:kQ s.1=91):sLs l chk F s=match nL l s.2 with | .ok s1=>Ve l chk F [] s1 | .error f=>.error f:=by
 have h:s.1.spelt=[91]:=(JN hw (c:=91) (by decide)).1 a
 have e:mayL l [[91]] s=match nL l s.2 with | .ok s'=>.ok (1,s') | .error f=>.error f:=by
  have b:wL [[91]] s.1.spelt=1:=by rw[KL,if_pos h.symm]
  unfold mayL;rw[b,if_neg (by decide)];cases nL l s.2<;>rfl
 unfold sLs;rw[e]
 cases nL l s.2 with
 |error f=>rfl
 |ok s1=>
  dsimp only;unfold Ve
  cases sL l chk s1 with
  |error f=>rfl
  |ok z=>rfl
theorem PY(a:kQ s.1=44):moreL l chk (F+1) acc s=match nL l s.2 with | .ok s1=>Ve l chk F acc s1 | .error f=>.error f:=by
 have h:s.1.spelt=[44]:=(JN hw (c:=44) (by decide)).1 a
 have e:paL l [[44],[93]] s=match nL l s.2 with | .ok s'=>.ok (1,s') | .error f=>.error f:=by
  unfold paL;have b:wL [[44],[93]] s.1.spelt=1:=by rw[h];rfl
  rw[b,if_neg (by decide)];cases nL l s.2<;>rfl
 rw[moreL,e]
 cases nL l s.2 with
 |error f=>rfl
 |ok s1=>
  dsimp only;unfold Ve;rw[if_pos rfl]
  cases sL l chk s1 with
  |error f=>rfl
  |ok z=>rfl
theorem PZ(a:kQ s.1=93):moreL l chk (F+1) acc s=match nL l s.2 with | .ok s1=>.ok (acc,s1) | .error f=>.error f:=by
 have h:s.1.spelt=[93]:=(JN hw (c:=93) (by decide)).1 a
 have e:paL l [[44],[93]] s=match nL l s.2 with | .ok s'=>.ok (2,s') | .error f=>.error f:=by
  unfold paL;have b:wL [[44],[93]] s.1.spelt=2:=by rw[h];rfl
  rw[b,if_neg (by decide)];cases nL l s.2<;>rfl
 rw[moreL,e]
 cases nL l s.2 with
 |error f=>rfl
 |ok s1=>
  dsimp only;rw[if_neg (by decide)]
theorem P0(a:¬ kQ s.1=44)(b:¬ kQ s.1=93):moreL l chk (F+1) acc s=.error ⟨4,s.1.pos⟩:=by
 have g:¬ s.1.spelt=[44]:=fun e=>a ((JN hw (c:=44) (by decide)).2 e)
 have i:¬ s.1.spelt=[93]:=fun e=>b ((JN hw (c:=93) (by decide)).2 e)
 have e:paL l [[44],[93]] s=.error ⟨4,s.1.pos⟩:=by
  unfold paL
  have d:wL [[44],[93]] s.1.spelt=0:=by
   have f:wL [[93]] s.1.spelt=0:=by rw[KL,if_neg (fun e=>i e.symm)]
   unfold wL;rw[if_neg (fun e=>g e.symm),if_pos f]
  rw[d,if_pos rfl]
 rw[moreL,e]
end
end
end Go.Proofs.YtgnkjijocdmniaaGreatDoor
