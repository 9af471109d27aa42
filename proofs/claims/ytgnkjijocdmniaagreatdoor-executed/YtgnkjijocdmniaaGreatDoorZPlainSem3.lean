import Derived.Lib.Index
import Derived.Lib.SlicesS
import Derived.Lib.ItoaLen
import Derived.Lib.Join
namespace Go.Proofs.YtgnkjijocdmniaaGreatDoor
set_option linter.unusedVariables false
set_option linter.unusedSimpArgs false
set_option maxRecDepth 100000
set_option maxHeartbeats 4000000
abbrev L8:=List UInt8
variable{α β:Type}{F c' n p pos:Nat}{a:α}{b:Prop}{c:UInt8}{chk:L8->Nat}{l x z:L8}
theorem Q4{p q:Prop}[Decidable p](h:decide p=false:=by decide):p->q:=fun x=>absurd x (of_decide_eq_false h)
theorem Zs{a b c:Nat}(h:a<b)(g:b<=c):a<c:=Nat.lt_of_lt_of_le h g
abbrev Qa:=List L8
variable{acc zs:Qa}
theorem QF(a:α):∃ b,b=a:=⟨a,rfl⟩
theorem Qe(a:α):∃ b,a=b:=⟨a,rfl⟩
theorem Ql:n<=n:=Nat.le_refl n
theorem Ze{a b:List α}:(a++b).length=a.length+b.length:=List.length_append
theorem ZN{l:List α}:(a::l).length=l.length+1:=List.length_cons
theorem Up:([]:List α).length=0:=rfl
theorem XH{b:α}(h:a∈[b]):a=b:=List.mem_singleton.1 h
theorem Zb{l:List α}{i:Nat}(h:l.length<=i):l.drop i=[]:=List.drop_of_length_le h
theorem Xz{l:List α}(h:l.length=0):l=[]:=List.eq_nil_of_length_eq_zero h
theorem Zo{a b:Bool}:a=b↔(a=true↔b=true):=Bool.eq_iff_iff
theorem Qs{a b c:Nat}(h:a<=b)(g:b<=c):a<=c:=Nat.le_trans h g
theorem Qh{p:Prop}[Decidable p](h:¬p):decide p=false:=decide_eq_false h
theorem Qw{p:Prop}[Decidable p](h:p):decide p=true:=decide_eq_true h
theorem Qc{a:Prop}(h:b):a\/b:=Or.inr h
theorem Qd{a:Prop}(h:a):a\/b:=Or.inl h
theorem QE:0<=n:=Nat.zero_le n
def QI(c:Int):Bool:=decide (48<=c)&&decide (c<=57)
def Zn(c:Int):Bool:=c==32 || c==9 || c==10 || c==13
def XT(c:Int):Bool:=decide (65<=c)&&decide (c<=90)
def YJ(c:Int):Bool:=decide (97<=c)&&decide (c<=122)
def QL(c:Int):Bool:=(decide (97<=c)&&decide (c<=122)) || XT c || c==95
theorem PW(c:Int):QL c=(YJ c || XT c || c==95):=rfl
def Q0(c:UInt8):Bool:=QL c.toNat || QI c.toNat
def Za(l:L8):Nat:=(l.takeWhile Q0).length
def nameLen:L8->Nat
 | []=>0
 |c::r=>if QL c.toNat then 1+Za r else 0
def Z3(l:L8):Bool:=!l.isEmpty&&nameLen l==l.length
def XK(c:UInt8):UInt8:=if XT c.toNat then c - 65+97 else c
def zL(l:L8):L8:=l.map XK
theorem VJ(c:UInt8)(r:L8):Za (c::r)=if Q0 c then 1+Za r else 0:=by
 unfold Za;rw[List.takeWhile_cons];split
 ·rw[ZN];omega
 ·rfl
theorem LH(l:L8):Za l<=l.length:=by
 induction l with
 |nil=>simp[Za]
 |cons c r ih=>rw[VJ];split<;>simp<;>omega
theorem Uu(l:L8):nameLen l<=l.length:=by
 cases l with
 |nil=>simp[nameLen]
 |cons c r=>have:=LH r;simp only[nameLen];split<;>simp<;>omega
structure Flt where
 err:Nat
 pos:Nat
variable{f:Flt}
abbrev Qb:=Except Flt
structure Wd where
 kind:Nat
 pos:Nat
 spelt:L8
 said:L8
 num:Nat
def lineLen(l:L8):Nat:=if Lib.indexByte l 10<0 then l.length else(Lib.indexByte l 10).toNat+1
theorem NT(l:L8)(c:UInt8):Lib.indexByte l c<l.length:=by
 induction l with
 |nil=>simp[Lib.indexByte]
 |cons b l ih=>
  unfold Lib.indexByte;rw[ZN];split
  ·omega
  ·split<;>omega
theorem Cw(l sub:L8):Lib.index l sub<0\/Lib.index l sub+sub.length<=l.length:=by
 induction l with
 |nil=>
  unfold Lib.index
  cases sub with
  |nil=>right;decide
  |cons a t=>left;simp
 |cons b l ih=>
  unfold Lib.index;split
  ·rename_i h;right;have:=(List.isPrefixOf_iff_prefix.1 h).length_le;simp at this ⊢;omega
  ·split
   ·left;decide
   ·have:=Lib.index_ge l sub;rename_i h1 h2;have c:¬ Lib.index l sub = -1:=by simpa using h2
    simp;omega
theorem CO(l:L8):lineLen l<=l.length:=by
 have:=NT l 10;unfold lineLen;split<;>omega
theorem NX(c:UInt8)(l:L8):1<=lineLen (c::l):=by
 unfold lineLen;split
 ·simp
 ·omega
def Q7:Nat->L8->Nat->Qb Nat
 |0,_,p=>.ok p
 |_+1,[],p=>.ok p
 |f+1,c::r,p=>
  if Zn c.toNat then Q7 f r (p+1)
  else if c.toNat=35 then Q7 f ((c::r).drop (lineLen (c::r))) (p+lineLen (c::r))
  else if Lib.hasPrefix (c::r) [47,42]then
   if Lib.index (r.drop 1) [42,47]<0 then .error ⟨2,p⟩
   else Q7 f ((c::r).drop (4+(Lib.index (r.drop 1) [42,47]).toNat)) (p+(4+(Lib.index (r.drop 1) [42,47]).toNat))
  else .ok p
def XM(k:Nat)(rest:L8)(p n:Nat):Wd×Nat:=(⟨k,p,zL (rest.take n),[],0⟩,p+n)
def Zd(l:L8):Nat:=(l.takeWhile fun c=>QI c.toNat).length
def X3(v:Nat)(c:UInt8):Nat:=min (v*10+(c.toNat - 48)) 2147483648
def Yx(l:L8):Nat:=(l.takeWhile fun c=>QI c.toNat).foldl X3 0
def isM(c:UInt8):Bool:=c.toNat==77 || c.toNat==109
def isK(c:UInt8):Bool:=c.toNat==75 || c.toNat==107
def sNL(rest:L8)(p:Nat):Qb (Wd×Nat):=
 let n:=Zd rest
 let v:=Yx rest
 let c:=rest.getD n 0
 let v':=if isM c then v*1048576 else if isK c then v*1024 else v
 let n':=if isM c || isK c then n+1 else n
 if Q0 (rest.getD n' 0)then .error ⟨2,p⟩
 else if 2147483647<v' then .error ⟨3,p⟩
 else .ok (⟨4,p,[],[],v'⟩,p+n')
def qL:L8->Option (L8×Nat)
 | []=>none
 |c::r=>
  if c.toNat=34 then some ([],1)
  else if c.toNat=92 then
   match r with
   | []=>none
   |d::r'=>(qL r').map fun x=>(d::x.1,x.2+2)
  else(qL r).map fun x=>(c::x.1,x.2+1)
def quoteR(r:L8)(p:Nat):Qb (Wd×Nat):=
 match qL r with
 |none=>.error ⟨2,p⟩
 |some x=>.ok (⟨5,p,[],x.1,0⟩,p+(1+x.2))
def XS(c:UInt8):Bool:=decide (0<=Lib.indexByte [59,44,40,41,123,125,91,93] c)
def Q1(rest:L8)(p:Nat):Qb (Wd×Nat):=
 match rest with
 | []=>.ok (⟨0,p,[],[],0⟩,p)
 |c::r=>
  if QL c.toNat then .ok (XM 1 (c::r) p (nameLen (c::r)))
  else if c.toNat=58 then
   if nameLen r=0 then .error ⟨2,p⟩else .ok (XM 2 (c::r) p (1+nameLen r))
  else if QI c.toNat then sNL (c::r) p
  else if c.toNat=34 then quoteR r p
  else if XS c then .ok (XM 3 (c::r) p 1)
  else .error ⟨2,p⟩
def nL(l:L8)(p:Nat):Qb (Wd×Nat):=
 match Q7 (l.length+1) (l.drop p) p with
 | .error f=>.error f
 | .ok n=>Q1 (l.drop n) n
theorem VY(l:L8):∀(f p n:Nat),p<=l.length->Q7 f (l.drop p) p=.ok n->p<=n/\n<=l.length
 |0,p,n,hp,h=>by
  simp only[Q7]at h;cases h;exact⟨Nat.le_refl _,hp⟩
 |f+1,p,n,hp,h=>by
  by_cases hlt:p<l.length
  ·rw[List.drop_eq_getElem_cons hlt]at h;simp only[Q7]at h
   split at h
   ·have:=VY l f (p+1) n (by omega) h;omega
   ·rw[<-List.drop_eq_getElem_cons hlt]at h
    split at h
    ·rw[List.drop_drop]at h;have h1:=CO (l.drop p);rw[List.length_drop]at h1;have:=VY l f _ n (by omega) h;omega
    ·split at h
     ·split at h
      ·cases h
      ·rename_i hp2 hi;have e:List.drop 1 (List.drop (p+1) l)=List.drop (p+1+1) l:=by rw[List.drop_drop]
       rw[e]at h hi;rw[List.drop_drop]at h;have h1:=Cw (l.drop (p+1+1)) [42,47];rw[List.length_drop]at h1
       have a:2<=(l.drop p).length:=by
        have:=(List.isPrefixOf_iff_prefix.1 hp2).length_le;simpa using this
       rw[List.length_drop]at a
       have b:Lib.index (l.drop (p+1+1)) [42,47]+2<=(l.length - (p+1+1):Nat):=by
        rcases h1 with h1|h1
        ·exact absurd h1 hi
        ·simpa using h1
       have:=VY l f _ n (by omega) h;omega
     ·cases h;exact⟨Nat.le_refl _,hp⟩
  ·rw[Zb (by omega)]at h;simp only[Q7]at h;cases h;exact⟨Nat.le_refl _,hp⟩
theorem GY:∀(r:L8) (x:L8×Nat),qL r=some x->1<=x.2/\x.2<=r.length
 | [],x,h=>by cases h
 |c::r,x,h=>by
  rw[qL.eq_def]at h;dsimp only at h
  split at h
  ·cases h;simp
  ·split at h
   ·cases r with
    |nil=>cases h
    |cons d r'=>
     dsimp only at h
     cases hq:qL r' with
     |none=>rw[hq]at h;cases h
     |some y=>
      have:=GY r' y hq;rw[hq]at h;cases h;simp;omega
   ·cases hq:qL r with
    |none=>rw[hq]at h;cases h
    |some y=>
     have:=GY r y hq;rw[hq]at h;cases h;simp;omega
theorem NW:∀(r:L8) (x:L8×Nat),qL r=some x->x.1.length<x.2
 | [],x,h=>by cases h
 |c::r,x,h=>by
  rw[qL.eq_def]at h;dsimp only at h
  split at h
  ·cases h;simp
  ·split at h
   ·cases r with
    |nil=>cases h
    |cons d r'=>
     dsimp only at h
     cases hq:qL r' with
     |none=>rw[hq]at h;cases h
     |some y=>
      have:=NW r' y hq;rw[hq]at h;cases h;simp;omega
   ·cases hq:qL r with
    |none=>rw[hq]at h;cases h
    |some y=>
     have:=NW r y hq;rw[hq]at h;cases h;simp;omega
theorem Oh(l:L8):Zd l<=l.length:=by
 unfold Zd;exact(List.takeWhile_prefix _).length_le
theorem U2(l:L8)(n:Nat)(h:l.length<=n):l.getD n 0=0:=by
 rw[List.getD_eq_getElem?_getD,List.getElem?_eq_none h];rfl
theorem Rw(l:L8)(p:Nat)(q:p<=l.length)(x:Wd×Nat)(h:Q1 (l.drop p) p=.ok x) :
 x.1.pos=p/\x.2<=l.length/\p<=x.2/\(x.1.kind=0->p=l.length/\x.1.spelt=[])/\(x.1.kind≠0->p<x.2):=by
 by_cases hlt:p<l.length
 ·obtain⟨c,r,d,t⟩:∃ c r,l.drop p=c::r/\r.length=l.length - (p+1):=⟨_,_,List.drop_eq_getElem_cons hlt,by simp⟩;rw[d]at h;clear d;unfold Q1 at h;dsimp only at h;have j:=Uu (c::r);have k:=Uu r;simp only[ZN]at j k
  split at h
  ·rename_i hl
   have s:1<=nameLen (c::r):=by
    simp only[nameLen];rw[if_pos hl];omega
   cases h;simp[XM];omega
  ·split at h
   ·split at h
    ·cases h
    ·cases h;simp[XM];omega
   ·split at h
    ·rename_i hg;have g:=Oh (c::r)
     have m:1<=Zd (c::r):=by
      simp[Zd,hg]
     simp only[ZN]at g
     obtain⟨a,b,f,he⟩:∃ a b:Nat,a=(if isM ((c::r).getD (Zd (c::r)) 0) || isK ((c::r).getD (Zd (c::r)) 0)then Zd (c::r)+1 else Zd (c::r))/\
      sNL (c::r) p=if Q0 ((c::r).getD a 0)then .error ⟨2,p⟩else if 2147483647<b then .error ⟨3,p⟩else .ok (⟨4,p,[],[],b⟩,p+a):=⟨_,_,rfl,rfl⟩
     rw[he]at h
     have o:a<=l.length - p/\1<=a:=by
      by_cases hm:(isM ((c::r).getD (Zd (c::r)) 0) || isK ((c::r).getD (Zd (c::r)) 0))=true
      ·have i:Zd (c::r)<(c::r).length:=by
        apply Classical.byContradiction;intro n;rw[U2 _ _ (by omega)]at hm;exact absurd hm (by decide)
       simp only[ZN]at i;rw[f,if_pos hm];omega
      ·rw[f,if_neg hm];omega
     split at h
     ·cases h
     ·split at h
      ·cases h
      ·cases h;simp;omega
    ·split at h
     ·unfold quoteR at h
      cases hq:qL r with
      |none=>rw[hq]at h;cases h
      |some y=>
       rw[hq]at h;have:=GY _ _ hq;cases h;simp;omega
     ·split at h
      ·cases h;simp[XM];omega
      ·cases h
 ·have e:p=l.length:=by omega
  rw[Zb (by omega)]at h;unfold Q1 at h;dsimp only at h;cases h;simp;omega
theorem Lh(l:L8)(p:Nat)(x:Wd×Nat)(h:Q1 (l.drop p) p=.ok x):x.1.said.length<=l.length/\x.1.num<=2147483647:=by
 have d:(l.drop p).length<=l.length:=by simp
 generalize l.drop p=r at h d
 cases r with
 |nil=>unfold Q1 at h;dsimp only at h;cases h;simp
 |cons c r=>
  unfold Q1 at h;dsimp only at h
  split at h
  ·cases h;simp[XM]
  ·split at h
   ·split at h
    ·cases h
    ·cases h;simp[XM]
   ·split at h
    ·obtain⟨a,b,he⟩:∃ a b:Nat,sNL (c::r) p=if Q0 ((c::r).getD a 0)then .error ⟨2,p⟩else if 2147483647<b then .error ⟨3,p⟩else .ok (⟨4,p,[],[],b⟩,p+a):=⟨_,_,rfl⟩
     rw[he]at h
     split at h
     ·cases h
     ·split at h
      ·cases h
      ·cases h;simp;omega
    ·split at h
     ·unfold quoteR at h
      cases hq:qL r with
      |none=>rw[hq]at h;cases h
      |some y=>
       rw[hq]at h;have e:=GY _ _ hq;have f:=NW _ _ hq;cases h;simp at d ⊢;omega
     ·split at h
      ·cases h;simp[XM]
      ·cases h
theorem Ca(l:L8)(p:Nat)(x:Wd×Nat)(h:nL l p=.ok x):x.1.said.length<=l.length/\x.1.num<=2147483647:=by
 unfold nL at h
 cases hs:Q7 (l.length+1) (l.drop p) p with
 |error f=>rw[hs]at h;cases h
 |ok n=>rw[hs]at h;exact Lh l n x h
def Vk(sp:L8):Prop:=∀ c r,sp=c::r->QL c.toNat=false
theorem NO:∀(l:L8) (c:UInt8),0<=Lib.indexByte l c->c∈l
 | [],c,h=>by simp[Lib.indexByte]at h
 |b::l,c,h=>by
  unfold Lib.indexByte at h
  split at h
  ·rename_i hb;have:b=c:=by simpa using hb
   subst this;simp
  ·split at h
   ·exact absurd h (by decide)
   ·have a:=Lib.indexByte_ge l c;rename_i h2;have d:¬ Lib.indexByte l c = -1:=by simpa using h2
    have:=NO l c (by omega);simp[this]
theorem Hr(c:UInt8)(h:XS c=true):QL (XK c).toNat=false:=by
 have a:=NO _ _ (of_decide_eq_true h);simp at a;rcases a with h|h|h|h|h|h|h|h<;>subst h<;>decide
theorem H6(l:L8)(p:Nat)(x:Wd×Nat)(h:Q1 (l.drop p) p=.ok x)(f:¬ x.1.kind=1):Vk x.1.spelt:=by
 generalize l.drop p=r at h
 cases r with
 |nil=>unfold Q1 at h;dsimp only at h;cases h;intro c r e;cases e
 |cons c r=>
  unfold Q1 at h;dsimp only at h
  split at h
  ·cases h;exact absurd rfl f
  ·split at h
   ·rename_i h58
    split at h
    ·cases h
    ·cases h;intro d g e;rw[show 1+nameLen r=nameLen r+1 from by omega]at e;simp[XM,zL,List.take_succ_cons]at e;obtain⟨e,-⟩:=e;subst e;have:c=58:=UInt8.toNat_inj.1 h58;subst this;decide
   ·split at h
    ·obtain⟨a,b,he⟩:∃ a b:Nat,sNL (c::r) p=if Q0 ((c::r).getD a 0)then .error ⟨2,p⟩else if 2147483647<b then .error ⟨3,p⟩else .ok (⟨4,p,[],[],b⟩,p+a):=⟨_,_,rfl⟩
     rw[he]at h
     split at h
     ·cases h
     ·split at h
      ·cases h
      ·cases h;intro c r e;cases e
    ·split at h
     ·unfold quoteR at h
      cases hq:qL r with
      |none=>rw[hq]at h;cases h
      |some y=>rw[hq]at h;cases h;intro c r e;cases e
     ·split at h
      ·rename_i hs;cases h;intro d g e;simp[XM,zL]at e;obtain⟨e,-⟩:=e;subst e;exact Hr c hs
      ·cases h
theorem Ha(l:L8)(p:Nat)(x:Wd×Nat)(h:nL l p=.ok x)(a:¬ x.1.kind=1):Vk x.1.spelt:=by
 unfold nL at h
 cases hs:Q7 (l.length+1) (l.drop p) p with
 |error f=>rw[hs]at h;cases h
 |ok n=>rw[hs]at h;exact H6 l n x h a
theorem Uy(l:L8)(p:Nat)(d:p<=l.length)(x:Wd×Nat)(h:nL l p=.ok x) :
 x.1.pos<=l.length/\x.2<=l.length/\p<=x.2/\(x.1.kind=0->x.1.spelt=[])/\(x.1.kind≠0->p<x.2):=by
 unfold nL at h
 cases hs:Q7 (l.length+1) (l.drop p) p with
 |error f=>rw[hs]at h;cases h
 |ok n=>
  rw[hs]at h;have c:=VY l _ p n d hs;have a:=Rw l n c.2 x h;refine⟨by omega,a.2.1,by omega,fun b=>(a.2.2.2.1 b).2,fun b=>by have:=a.2.2.2.2 b;omega⟩
def wL:Qa->L8->Nat
 | [],_=>0
 |s::r,x=>if s=x then 1 else if wL r x=0 then 0 else wL r x+1
def sA(x:L8):ByteArray:=⟨x.toArray⟩
theorem U9{y:L8}(h:sA x=sA y):x=y:=by
 have:=congrArg (fun b:ByteArray=>b.data.toList) h;simpa[sA]using this
theorem Bu(x:L8):∀(zs:Qa) (i:Nat),Lib.idxFromS (zs.map sA) (sA x) i=if wL zs x=0 then -1 else(i:Int)+wL zs x - 1
 | [],i=>rfl
 |s::r,i=>by
  rw[List.map_cons];unfold wL Lib.idxFromS;by_cases h:s=x
  ·subst h;simp
  ·have a:¬ sA s=sA x:=fun e=>h (U9 e)
   rw[if_neg h,if_neg a,Bu x r (i+1)];by_cases h0:wL r x=0
   ·simp[h0]
   ·simp[h0];omega
theorem DK(zs:Qa)(x:L8):Lib.idxOfS (zs.map sA) (sA x)+1=wL zs x:=by
 unfold Lib.idxOfS;rw[Bu];split<;>omega
theorem FL(zs:Qa)(x:L8):Lib.containsS (zs.map sA) (sA x)=decide (0<wL zs x):=by
 unfold Lib.containsS;have:=DK zs x;by_cases h:0<wL zs x
 ·simp[h];omega
 ·simp[h];omega
theorem JP(zs:Qa)(x:L8):wL zs x<=zs.length:=by
 induction zs with
 |nil=>simp[wL]
 |cons s r ih=>
  unfold wL;split
  ·simp
  ·split<;>simp<;>omega
abbrev PS:=Wd×Nat
variable{k:α->PS->Qb (β×PS)}{r:Qb (α×PS)}{s:PS}{sub:PS->Qb (α×PS)}{tst:PS->Qb (β×PS)}{y:Nat×PS}
def mayL(l:L8)(zs:Qa)(s:PS):Qb (Nat×PS):=
 if wL zs s.1.spelt=0 then .ok (0,s)else
 match nL l s.2 with
 | .error f=>.error f
 | .ok s'=>.ok (wL zs s.1.spelt,s')
def paL(l:L8)(zs:Qa)(s:PS):Qb (Nat×PS):=
 if wL zs s.1.spelt=0 then .error ⟨4,s.1.pos⟩else
 match nL l s.2 with
 | .error f=>.error f
 | .ok s'=>.ok (wL zs s.1.spelt,s')
def sL(l:L8)(chk:L8->Nat)(s:PS):Qb (L8×PS):=
 if s.1.kind=5 then
  if chk s.1.said=0 then
   match nL l s.2 with
   | .error f=>.error f
   | .ok s'=>.ok (s.1.said,s')
  else .error ⟨chk s.1.said,s.1.pos⟩
 else .error ⟨4,s.1.pos⟩
def mu(n:Nat)(s:PS):Nat:=2*(n - s.2)+(if s.1.kind=0 then 0 else 1)
theorem Yt{y:PS}(c:s.2<=l.length)(b:¬ s.1.kind=0)(h:nL l s.2=.ok y):mu l.length y<mu l.length s:=by
 obtain⟨d,e,f,g,a⟩:=Uy l s.2 c y h;unfold mu;rw[if_neg b];by_cases h0:y.1.kind=0
 ·rw[if_pos h0];omega
 ·have:=a h0;rw[if_neg h0];omega
theorem GG(zs:Qa)(h:∀ z∈zs,z≠[]):wL zs []=0:=by
 induction zs with
 |nil=>rfl
 |cons a r ih=>
  unfold wL;rw[if_neg (h a (by simp)),if_pos (ih fun z b=>h z (by simp[b]))]
theorem G3(b:s.2<=l.length)(he:s.1.kind=0->s.1.spelt=[])(c:∀ z∈zs,z≠[])(h:paL l zs s=.ok y):mu l.length y.2<mu l.length s/\y.1=wL zs s.1.spelt/\¬ y.1=0:=by
 unfold paL at h
 split at h
 ·cases h
 ·rename_i h0;have a:¬ s.1.kind=0:=fun e=>h0 (by rw[he e];exact GG zs c)
  cases hn:nL l s.2 with
  |error f=>rw[hn]at h;cases h
  |ok s'=>rw[hn]at h;cases h;exact⟨Yt b a hn,rfl,h0⟩
theorem V2(b:s.2<=l.length)(he:s.1.kind=0->s.1.spelt=[])(c:∀ z∈zs,z≠[])(h:mayL l zs s=.ok y):mu l.length y.2<=mu l.length s/\(¬ y.1=0->mu l.length y.2<mu l.length s)/\y.1=wL zs s.1.spelt/\(y.1=0->y.2=s):=by
 unfold mayL at h
 split at h
 ·rename_i h0;cases h;exact⟨Nat.le_refl _,fun h=>absurd rfl h,h0.symm,fun _=>rfl⟩
 ·rename_i h0;have a:¬ s.1.kind=0:=fun e=>h0 (by rw[he e];exact GG zs c)
  cases hn:nL l s.2 with
  |error f=>rw[hn]at h;cases h
  |ok s'=>
   rw[hn]at h;cases h;exact⟨Nat.le_of_lt (Yt b a hn),fun _=>Yt b a hn,rfl,fun e=>absurd e h0⟩
theorem Ut{y:L8×PS}(a:s.2<=l.length)(h:sL l chk s=.ok y):mu l.length y.2<mu l.length s/\y.1=s.1.said:=by
 unfold sL at h
 split at h
 ·rename_i hk
  split at h
  ·cases hn:nL l s.2 with
   |error f=>rw[hn]at h;cases h
   |ok s'=>rw[hn]at h;cases h;exact⟨Yt a (by omega) hn,rfl⟩
  ·cases h
 ·cases h
def moreL(l:L8)(chk:L8->Nat):Nat->Qa->PS->Qb (Qa×PS)
 |0,acc,s=>.ok (acc,s)
 |f+1,acc,s=>
  match paL l [[44],[93]] s with
  | .error e=>.error e
  | .ok y=>
   if y.1=1 then
    match sL l chk y.2 with
    | .error e=>.error e
    | .ok z=>moreL l chk f (acc++[z.1]) z.2
   else .ok (acc,y.2)
def sLs(l:L8)(chk:L8->Nat)(fuel:Nat)(s:PS):Qb (Qa×PS):=
 match mayL l [[91]] s with
 | .error e=>.error e
 | .ok y=>
  match sL l chk y.2 with
  | .error e=>.error e
  | .ok z=>if y.1=0 then .ok ([z.1],z.2)else moreL l chk fuel [z.1] z.2
def KM:L8:=[107,101,101,112]
def Kt:L8:=[100,105,115,99,97,114,100]
def KH:L8:=[115,116,111,112]
def ZB:L8:=[102,105,108,101,105,110,116,111]
def Kk:L8:=[114,101,100,105,114,101,99,116]
def ZD:L8:=[114,101,106,101,99,116]
def Xy:L8:=[115,101,116]
def kIf:L8:=[105,102]
def KF:L8:=[116,114,117,101]
def KD:L8:=[102,97,108,115,101]
def KS:L8:=[110,111,116]
def Kx:L8:=[97,108,108,111,102]
def Kz:L8:=[97,110,121,111,102]
def JR:L8:=[104,101,97,100,101,114]
def QX:L8:=[101,110,118,101,108,111,112,101]
def Z4:L8:=[115,116,114,105,110,103]
def Kw:L8:=[101,120,105,115,116,115]
def KI:L8:=[115,105,122,101]
def Yi:L8:=[101,108,115,105,102]
def Yk:L8:=[101,108,115,101]
def JN:L8:=[114,101,113,117,105,114,101]
def Xc:L8:=[118,97,114,105,97,98,108,101,115]
def YV:L8:=[102,114,111,109]
def kTo:L8:=[116,111]
def J5:L8:=[58,108,111,119,101,114]
def J7:L8:=[58,117,112,112,101,114]
def JS:L8:=[58,108,101,110,103,116,104]
def tIs:L8:=[58,105,115]
def Zw:L8:=[58,99,111,110,116,97,105,110,115]
def Zu:L8:=[58,109,97,116,99,104,101,115]
def UO:L8:=[58,111,118,101,114]
def UL:L8:=[58,117,110,100,101,114]
def XI:L8:=[58,99,111,109,112,97,114,97,116,111,114]
def Xd:L8:=[105,59,111,99,116,101,116]
def YP:L8:=[105,59,97,115,99,105,105,45,99,97,115,101,109,97,112]
def cNs:Qa:=[KM,Kt,KH,ZB,Kk,ZD,Xy,kIf]
def tNs:Qa:=[KF,KD,KS,Kx,Kz,JR,QX,Z4,Kw,KI]
structure ZV where
 kind:Nat
 pos:Nat
 tag:Nat
 octet:Bool
 fr:Qa
 keys:Qa
 num:Nat
def Yn:Nat->Type
 |0=>Unit
 |n+1=>ZV×List (Yn n)
structure Xj where
 kind:Nat
 pos:Nat
 tag:Nat
 arg:L8
 var:L8
 els:Bool
def Zt:Nat->Type
 |0=>Unit
 |n+1=>Xj×List (Yn n×List (Zt n))×List (Zt n)
def ZX(req:Qa)(sp:L8):Bool:=
 if sp=ZB\/sp=ZD\/sp=QX then decide (0<wL req sp)
 else if sp=Xy\/sp=Z4 then decide (0<wL req Xc)
 else true
def Qo{α β:Type}(r:Qb (α×PS))(k:α->PS->Qb (β×PS)):Qb (β×PS):=
 match r with
 | .error f=>.error f
 | .ok y=>k y.1 y.2
def nextThen{β:Type}(l:L8)(s:PS)(k:PS->Qb (β×PS)):Qb (β×PS):=
 match nL l s.2 with
 | .error f=>.error f
 | .ok y=>k y
theorem Q6(h:r=.error f):Qo r k=.error f:=by subst h;rfl
theorem QD{y:α×PS}(h:r=.ok y):Qo r k=k y.1 y.2:=by subst h;rfl
theorem VH{k:PS->Qb (β×PS)}(h:nL l s.2=.error f):nextThen l s k=.error f:=by unfold nextThen;rw[h]
theorem Ux{y:PS}{k:PS->Qb (β×PS)}(h:nL l s.2=.ok y):nextThen l s k=k y:=by unfold nextThen;rw[h]
def Zi(l:L8):Nat->Nat->Bool->Bool->PS->Qb ((Nat×Bool)×PS)
 |0,tag,oct,_,s=>.ok ((tag,oct),s)
 |f+1,tag,oct,cmp,s=>
  if wL [tIs,Zw,Zu] s.1.spelt=0 then
   if wL [XI] s.1.spelt=0 then .ok ((max tag 1,oct),s)
   else if cmp then .error ⟨7,s.1.pos⟩
   else nextThen l s fun s1=>Qo (sL l (fun x=>if 0<wL [Xd,YP] x then 0 else 7) s1) fun x s2=>Zi l f tag (decide (x=Xd)) true s2
  else if tag=0 then nextThen l s fun s1=>Zi l f (wL [tIs,Zw,Zu] s.1.spelt) oct cmp s1
  else .error ⟨7,s.1.pos⟩
def Yw(l:L8)(F:Nat)(chk:L8->Nat)(k pos:Nat)(s:PS):Qb (ZV×PS):=
 Qo (Zi l F 0 false false s) fun o s1=>Qo (sLs l chk F s1) fun fr s2=>Qo (sLs l (fun _=>0) F s2) fun ks s3=>
  .ok (⟨k,pos,o.1,o.2,fr,ks,0⟩,s3)
def X7{α:Type}(l:L8)(sub:PS->Qb (α×PS)):Nat->List α->PS->Qb (List α×PS)
 |0,acc,s=>.ok (acc,s)
 |f+1,acc,s=>Qo (paL l [[44],[41]] s) fun i s1=>
  if i=1 then Qo (sub s1) fun t s2=>X7 l sub f (acc++[t]) s2 else .ok (acc,s1)
def groupL{α:Type}(l:L8)(F:Nat)(sub:PS->Qb (α×PS))(s:PS):Qb (List α×PS):=
 Qo (paL l [[40]] s) fun _ s1=>Qo (sub s1) fun t s2=>X7 l sub F [t] s2
def sizeL(l:L8)(pos:Nat)(s:PS):Qb (ZV×PS):=
 Qo (paL l [UO,UL] s) fun i s1=>
  if s1.1.kind=4 then nextThen l s1 fun s2=>.ok (⟨9,pos,i,false,[],[],s1.1.num⟩,s2)else .error ⟨4,s1.1.pos⟩
def Zl{α:Type}(l:L8)(F:Nat)(sub:PS->Qb (α×PS))(k pos:Nat)(s:PS):Qb ((ZV×List α)×PS):=
 match k with
 |0=>.ok ((⟨0,pos,0,false,[],[],0⟩,[]),s)
 |1=>.ok ((⟨1,pos,0,false,[],[],0⟩,[]),s)
 |2=>Qo (sub s) fun t s1=>.ok ((⟨2,pos,0,false,[],[],0⟩,[t]),s1)
 |3=>Qo (groupL l F sub s) fun ts s1=>.ok ((⟨3,pos,0,false,[],[],0⟩,ts),s1)
 |4=>Qo (groupL l F sub s) fun ts s1=>.ok ((⟨4,pos,0,false,[],[],0⟩,ts),s1)
 |5=>Qo (Yw l F (fun _=>0) 5 pos s) fun x s1=>.ok ((x,[]),s1)
 |6=>Qo (Yw l F (fun x=>if 0<wL [YV,kTo] (zL x)then 0 else 7) 6 pos s) fun x s1=>.ok ((x,[]),s1)
 |7=>Qo (Yw l F (fun _=>0) 7 pos s) fun x s1=>.ok ((x,[]),s1)
 |8=>Qo (sLs l (fun _=>0) F s) fun xs s1=>.ok ((⟨8,pos,0,false,xs,[],0⟩,[]),s1)
 |_=>Qo (sizeL l pos s) fun x s1=>.ok ((x,[]),s1)
def Qy(l:L8)(req:Qa)(F:Nat):(n:Nat)->PS->Qb (Yn n×PS)
 |0,s=>if s.1.kind=1 then .error ⟨5,s.1.pos⟩else .error ⟨4,s.1.pos⟩
 |n+1,s=>
  if wL tNs s.1.spelt=0 then .error ⟨4,s.1.pos⟩
  else if ZX req s.1.spelt then nextThen l s fun s1=>Zl l F (Qy l req F n) (wL tNs s.1.spelt - 1) s.1.pos s1
  else .error ⟨6,s.1.pos⟩
def Xu{α:Type}(l:L8)(sub:PS->Qb (α×PS)):Nat->List α->PS->Qb (List α×PS)
 |0,acc,s=>.ok (acc,s)
 |f+1,acc,s=>Qo (mayL l [[125]] s) fun i s1=>
  if i=0 then Qo (sub s1) fun c s2=>Xu l sub f (acc++[c]) s2 else .ok (acc,s1)
def blockL{α:Type}(l:L8)(F:Nat)(sub:PS->Qb (α×PS))(s:PS):Qb (List α×PS):=
 Qo (paL l [[123]] s) fun _ s1=>Xu l sub F [] s1
def armL{α β:Type}(l:L8)(F:Nat)(tst:PS->Qb (β×PS))(sub:PS->Qb (α×PS))(s:PS):Qb ((β×List α)×PS):=
 Qo (tst s) fun t s1=>Qo (blockL l F sub s1) fun cs s2=>.ok ((t,cs),s2)
def Z9{α β:Type}(l:L8)(F:Nat)(tst:PS->Qb (β×PS))(sub:PS->Qb (α×PS)):Nat->List (β×List α)->PS->Qb (List (β×List α)×PS)
 |0,acc,s=>.ok (acc,s)
 |f+1,acc,s=>Qo (mayL l [Yi] s) fun i s1=>
  if i=0 then .ok (acc,s1)else Qo (armL l F tst sub s1) fun a s2=>Z9 l F tst sub f (acc++[a]) s2
def ZK{α:Type}(l:L8)(s:PS)(a:α):Qb (α×PS):=Qo (paL l [[59]] s) fun _ s1=>.ok (a,s1)
def Zp{α β:Type}(l:L8)(F:Nat)(tst:PS->Qb (β×PS))(sub:PS->Qb (α×PS))(k pos:Nat)(s:PS):Qb ((Xj×List (β×List α)×List α)×PS):=
 match k with
 |0=>ZK l s (⟨0,pos,0,[],[],false⟩,[],[])
 |1=>ZK l s (⟨1,pos,0,[],[],false⟩,[],[])
 |2=>ZK l s (⟨2,pos,0,[],[],false⟩,[],[])
 |3=>Qo (sL l (fun _=>0) s) fun x s1=>ZK l s1 (⟨3,pos,0,x,[],false⟩,[],[])
 |4=>Qo (sL l (fun _=>0) s) fun x s1=>ZK l s1 (⟨4,pos,0,x,[],false⟩,[],[])
 |5=>Qo (sL l (fun _=>0) s) fun x s1=>ZK l s1 (⟨5,pos,0,x,[],false⟩,[],[])
 |6=>Qo (mayL l [J5,J7,JS] s) fun tag s1=>Qo (sL l (fun x=>if Z3 x then 0 else 7) s1) fun v s2=>
  Qo (sL l (fun _=>0) s2) fun x s3=>ZK l s3 (⟨6,pos,tag,x,zL v,false⟩,[],[])
 |_=>Qo (armL l F tst sub s) fun a s1=>Qo (Z9 l F tst sub F [a] s1) fun arms s2=>Qo (mayL l [Yk] s2) fun i s3=>
  if i=0 then .ok ((⟨7,pos,0,[],[],false⟩,arms,[]),s3)
  else Qo (blockL l F sub s3) fun cs s4=>.ok ((⟨7,pos,0,[],[],true⟩,arms,cs),s4)
def QG(l:L8)(req:Qa)(F:Nat):(n:Nat)->PS->Qb (Zt n×PS)
 |0,s=>if s.1.kind=1 then .error ⟨5,s.1.pos⟩else .error ⟨4,s.1.pos⟩
 |n+1,s=>
  if wL cNs s.1.spelt=0 then .error ⟨4,s.1.pos⟩
  else if ZX req s.1.spelt then nextThen l s fun s1=>Zp l F (Qy l req F n) (QG l req F n) (wL cNs s.1.spelt - 1) s.1.pos s1
  else .error ⟨6,s.1.pos⟩
def ZQ(req:Qa)(x:L8):Qa:=if 0<wL req x then req else req++[x]
def X2(l:L8)(F:Nat):Nat->Qa->PS->Qb (Qa×PS)
 |0,req,s=>.ok (req,s)
 |f+1,req,s=>Qo (mayL l [JN] s) fun i s1=>
  if i=0 then .ok (req,s1)
  else Qo (sLs l (fun x=>if 0<wL [QX,ZB,ZD,Xc] x then 0 else 6) F s1) fun xs s2=>
   Qo (paL l [[59]] s2) fun _ s3=>X2 l F f (xs.foldl ZQ req) s3
def cMr{α:Type}(sub:PS->Qb (α×PS)):Nat->List α->PS->Qb (List α)
 |0,acc,_=>.ok acc
 |f+1,acc,s=>if s.1.kind=0 then .ok acc else
  match sub s with
  | .error e=>.error e
  | .ok y=>cMr sub f (acc++[y.1]) y.2
def prL(l:L8):Qb (Qa×List (Zt 7)):=
 let F:=2*l.length+10
 match nL l 0 with
 | .error f=>.error f
 | .ok s=>
  match X2 l F F [] s with
  | .error f=>.error f
  | .ok y=>
   match cMr (QG l y.1 F 7) F [] y.2 with
   | .error f=>.error f
   | .ok cs=>.ok (y.1,cs)
def Gd(l:L8)(s:PS):Prop:=s.2<=l.length/\(s.1.kind=0->s.1.spelt=[])
def Dn{α:Type}(c:Nat)(l:L8)(r:Qb (α×PS))(s:PS):Prop:=∀ y,r=.ok y->Gd l y.2/\mu l.length y.2+c<=mu l.length s
theorem Dn.err{c:Nat}:Dn c l (.error f:Qb (α×PS)) s:=fun y h=>by cases h
theorem Dn.ok{α:Type}{l:L8}{a:α}{s:PS}(h:Gd l s):Dn 0 l (.ok (a,s):Qb (α×PS)) s:=fun y e=>by cases e;exact⟨h,Nat.le_refl _⟩
theorem Dn.weak{c:Nat}(h:Dn c l r s)(hc:c'<=c):Dn c' l r s:=fun y e=>⟨(h y e).1,by have:=(h y e).2;omega⟩
theorem Dn.andThen{c:Nat}(h:Dn c l r s)(g:∀ a s1,Gd l s1->Dn c' l (k a s1) s1):Dn (c+c') l (Qo r k) s:=fun y e=>by
 cases hr:r with
 |error f=>rw[Q6 hr]at e;cases e
 |ok z=>
  rw[QD hr]at e;obtain⟨b,i⟩:=h z hr;obtain⟨d,j⟩:=g z.1 z.2 b y e;exact⟨d,by omega⟩
theorem V5{y:PS}(h:Gd l s)(c:nL l s.2=.ok y):Gd l y:=by
 obtain⟨d,a,e,b,f⟩:=Uy l s.2 h.1 y c;exact⟨a,b⟩
theorem Dn.next{c:Nat}{k:PS->Qb (β×PS)}(h:Gd l s)(d:¬ s.1.kind=0)(b:∀ s1,Gd l s1->Dn c l (k s1) s1):Dn (c+1) l (nextThen l s k) s:=fun y e=>by
 cases hr:nL l s.2 with
 |error f=>rw[VH hr]at e;cases e
 |ok z=>
  rw[Ux hr]at e;have g:=Yt h.1 d hr;obtain⟨a,i⟩:=b z (V5 h hr) y e;exact⟨a,by omega⟩
theorem UH(h:Gd l s)(a:∀ z∈zs,z≠[]):Dn 1 l (paL l zs s) s:=fun y e=>by
 refine⟨?_,(G3 h.1 h.2 a e).1⟩;unfold paL at e
 split at e
 ·cases e
 ·cases hn:nL l s.2 with
  |error f=>rw[hn]at e;cases e
  |ok s'=>rw[hn]at e;cases e;exact V5 h hn
theorem Vj(h:Gd l s)(a:∀ z∈zs,z≠[]):Dn 0 l (mayL l zs s) s:=fun y e=>by
 refine⟨?_,(V2 h.1 h.2 a e).1⟩;unfold mayL at e
 split at e
 ·cases e;exact h
 ·cases hn:nL l s.2 with
  |error f=>rw[hn]at e;cases e
  |ok s'=>rw[hn]at e;cases e;exact V5 h hn
theorem JO(h:Gd l s):Dn 1 l (sL l chk s) s:=fun y e=>by
 refine⟨?_,(Ut h.1 e).1⟩;unfold sL at e
 split at e
 ·split at e
  ·cases hn:nL l s.2 with
   |error f=>rw[hn]at e;cases e
   |ok s'=>rw[hn]at e;cases e;exact V5 h hn
  ·cases e
 ·cases e
theorem Ey{l:L8}{chk:L8->Nat}:∀(f:Nat) (acc:Qa) (s:PS),Gd l s->Dn 0 l (moreL l chk f acc s) s
 |0,acc,s,h=>Dn.ok h
 |f+1,acc,s,h=>fun y e=>by
  rw[moreL]at e
  cases hp:paL l [[44],[93]] s with
  |error g=>rw[hp]at e;cases e
  |ok z=>
   rw[hp]at e;obtain⟨a,d⟩:=UH (zs:=[[44],[93]]) h (by decide) z hp;dsimp only at e
   split at e
   ·cases hs:sL l chk z.2 with
    |error g=>rw[hs]at e;cases e
    |ok x=>
     rw[hs]at e;obtain⟨b,i⟩:=JO a x hs;obtain⟨c,j⟩:=Ey f _ x.2 b y e;exact⟨c,by omega⟩
   ·cases e;exact⟨a,by dsimp only;omega⟩
theorem GL(h:Gd l s):Dn 1 l (sLs l chk F s) s:=fun y e=>by
 unfold sLs at e
 cases hm:mayL l [[91]] s with
 |error g=>rw[hm]at e;cases e
 |ok z=>
  rw[hm]at e;obtain⟨b,d⟩:=Vj (zs:=[[91]]) h (by decide) z hm;dsimp only at e
  cases hs:sL l chk z.2 with
  |error g=>rw[hs]at e;cases e
  |ok x=>
   rw[hs]at e;obtain⟨a,f⟩:=JO b x hs;dsimp only at e
   split at e
   ·cases e;exact⟨a,by dsimp only;omega⟩
   ·obtain⟨c,i⟩:=Ey F _ x.2 a y e;exact⟨c,by omega⟩
theorem GF(h:Gd l s)(hz:∀ z∈zs,z≠[])(h0:¬ wL zs s.1.spelt=0):¬ s.1.kind=0:=fun e=>h0 (by rw[h.2 e];exact GG zs hz)
theorem Bc{l:L8}:∀(f tag:Nat) (oct a:Bool) (s:PS),Gd l s->Dn 0 l (Zi l f tag oct a s) s
 |0,tag,oct,a,s,h=>Dn.ok h
 |f+1,tag,oct,a,s,h=>by
  rw[Zi];by_cases h1:wL [tIs,Zw,Zu] s.1.spelt=0
  ·rw[if_pos h1];by_cases h2:wL [XI] s.1.spelt=0
   ·rw[if_pos h2];exact Dn.ok h
   ·rw[if_neg h2];cases a
    ·rw[if_neg (by decide)];refine(Dn.next (c:=0) h (GF (zs:=[XI]) h (by decide) h2) fun d b=>?_).weak (by omega);exact((JO b).andThen (c':=0) fun x g e=>Bc f _ _ _ g e).weak (by omega)
    ·rw[if_pos rfl];exact Dn.err
  ·rw[if_neg h1];by_cases ht:tag=0
   ·rw[if_pos ht];exact(Dn.next (c:=0) h (GF (zs:=[tIs,Zw,Zu]) h (by decide) h1) fun d b=>Bc f _ _ _ d b).weak (by omega)
   ·rw[if_neg ht];exact Dn.err
theorem AW{k:Nat}(h:Gd l s):Dn 0 l (Yw l F chk k pos s) s:=by
 unfold Yw;exact((Bc F 0 false false s h).andThen (c':=1) fun o f a=>((GL a).andThen (c':=0) fun d g b=>((GL b).andThen (c':=0) fun e i c=>Dn.ok c).weak (by omega)).weak (by omega)).weak (by omega)
theorem BN{α:Type}{l:L8}{sub:PS->Qb (α×PS)}(b:∀ s,Gd l s->Dn 1 l (sub s) s):∀(f:Nat) (acc:List α) (s:PS),Gd l s->Dn 0 l (X7 l sub f acc s) s
 |0,acc,s,h=>Dn.ok h
 |f+1,acc,s,h=>by
  rw[X7];refine((UH h (by decide)).andThen (c':=0) fun i d a=>?_).weak (by omega);split
  ·exact((b d a).andThen (c':=0) fun t e c=>BN b f _ e c).weak (by omega)
  ·exact Dn.ok a
theorem Em(a:∀ s,Gd l s->Dn 1 l (sub s) s)(h:Gd l s):Dn 0 l (groupL l F sub s) s:=by
 unfold groupL;exact((UH h (by decide)).andThen (c':=0) fun _ d b=>((a d b).andThen (c':=0) fun t e c=>BN a F _ e c).weak (by omega)).weak (by omega)
theorem S4(h:Gd l s):Dn 0 l (sizeL l pos s) s:=by
 unfold sizeL;refine((UH h (by decide)).andThen (c':=0) fun i d a=>?_).weak (by omega);split
 ·rename_i hk;exact(Dn.next (c:=0) a (by omega) fun e b=>Dn.ok b).weak (by omega)
 ·exact Dn.err
theorem Ld(a:∀ s,Gd l s->Dn 1 l (sub s) s)(k pos:Nat)(h:Gd l s):Dn 0 l (Zl l F sub k pos s) s:=by
 unfold Zl;split
 ·exact Dn.ok h
 ·exact Dn.ok h
 ·exact((a s h).andThen (c':=0) fun _ _ g=>Dn.ok g).weak (by omega)
 ·exact((Em a h).andThen (c':=0) fun _ _ g=>Dn.ok g).weak (by omega)
 ·exact((Em a h).andThen (c':=0) fun _ _ g=>Dn.ok g).weak (by omega)
 ·exact((AW h).andThen (c':=0) fun _ _ g=>Dn.ok g).weak (by omega)
 ·exact((AW h).andThen (c':=0) fun _ _ g=>Dn.ok g).weak (by omega)
 ·exact((AW h).andThen (c':=0) fun _ _ g=>Dn.ok g).weak (by omega)
 ·exact((GL h).andThen (c':=0) fun _ _ g=>Dn.ok g).weak (by omega)
 ·exact((S4 h).andThen (c':=0) fun _ _ g=>Dn.ok g).weak (by omega)
theorem Va{l:L8}{req:Qa}{F:Nat}:∀(n:Nat) (s:PS),Gd l s->Dn 1 l (Qy l req F n s) s
 |0,s,h=>by
  rw[Qy];split<;>exact Dn.err
 |n+1,s,h=>by
  rw[Qy];by_cases h0:wL tNs s.1.spelt=0
  ·rw[if_pos h0];exact Dn.err
  ·rw[if_neg h0];cases hu:ZX req s.1.spelt
   ·rw[if_neg (by decide)];exact Dn.err
   ·rw[if_pos rfl];exact(Dn.next (c:=0) h (GF (zs:=tNs) h (by decide) h0) fun b a=>Ld (fun s g=>Va n s g) _ _ a).weak (by omega)
theorem BU{α:Type}{l:L8}{sub:PS->Qb (α×PS)}(b:∀ s,Gd l s->Dn 1 l (sub s) s):∀(f:Nat) (acc:List α) (s:PS),Gd l s->Dn 0 l (Xu l sub f acc s) s
 |0,acc,s,h=>Dn.ok h
 |f+1,acc,s,h=>by
  rw[Xu];refine((Vj h (by decide)).andThen (c':=0) fun i d a=>?_).weak (by omega);split
  ·exact((b d a).andThen (c':=0) fun t e c=>BU b f _ e c).weak (by omega)
  ·exact Dn.ok a
theorem AH(b:∀ s,Gd l s->Dn 1 l (sub s) s)(h:Gd l s):Dn 1 l (blockL l F sub s) s:=by
 unfold blockL;exact(UH h (by decide)).andThen (c':=0) fun _ c a=>BU b F _ c a
theorem Ba(d:∀ s,Gd l s->Dn 1 l (tst s) s)(c:∀ s,Gd l s->Dn 1 l (sub s) s)(h:Gd l s):Dn 1 l (armL l F tst sub s) s:=by
 unfold armL;exact((d s h).andThen (c':=0) fun t f a=>((AH c a).andThen (c':=0) fun e g b=>Dn.ok b).weak (by omega))
theorem EE{α β:Type}{l:L8}{F:Nat}{tst:PS->Qb (β×PS)}{sub:PS->Qb (α×PS)}(d:∀ s,Gd l s->Dn 1 l (tst s) s)(c:∀ s,Gd l s->Dn 1 l (sub s) s):∀(f:Nat) (acc:List (β×List α)) (s:PS),Gd l s->Dn 0 l (Z9 l F tst sub f acc s) s
 |0,acc,s,h=>Dn.ok h
 |f+1,acc,s,h=>by
  rw[Z9];refine((Vj h (by decide)).andThen (c':=0) fun i j b=>?_).weak (by omega);split
  ·exact Dn.ok b
  ·exact((Ba d c b).andThen (c':=0) fun a g e=>EE d c f _ g e).weak (by omega)
theorem UF(h:Gd l s):Dn 0 l (ZK l s a) s:=by
 unfold ZK;exact((UH h (by decide)).andThen (c':=0) fun _ c b=>Dn.ok b).weak (by omega)
theorem OO(f:∀ s,Gd l s->Dn 1 l (tst s) s)(e:∀ s,Gd l s->Dn 1 l (sub s) s)(k pos:Nat)(h:Gd l s):Dn 0 l (Zp l F tst sub k pos s) s:=by
 unfold Zp;split
 ·exact UF h
 ·exact UF h
 ·exact UF h
 ·exact((JO h).andThen (c':=0) fun _ _ g=>UF g).weak (by omega)
 ·exact((JO h).andThen (c':=0) fun _ _ g=>UF g).weak (by omega)
 ·exact((JO h).andThen (c':=0) fun _ _ g=>UF g).weak (by omega)
 ·exact((Vj h (by decide)).andThen (c':=0) fun _ _ c=>((JO c).andThen (c':=0) fun _ _ d=>((JO d).andThen (c':=0) fun _ _ b=>UF b).weak (by omega)).weak (by omega)).weak (by omega)
 ·refine((Ba f e h).andThen (c':=0) fun a m c=>((EE f e F _ m c).andThen (c':=0) fun n o d=>((Vj d (by decide)).andThen (c':=0) fun i p b=>?_).weak (by omega)).weak (by omega)).weak (by omega);split
  ·exact Dn.ok b
  ·exact((AH e b).andThen (c':=0) fun _ _ j=>Dn.ok j).weak (by omega)
theorem UJ{l:L8}{req:Qa}{F:Nat}:∀(n:Nat) (s:PS),Gd l s->Dn 1 l (QG l req F n s) s
 |0,s,h=>by
  rw[QG];split<;>exact Dn.err
 |n+1,s,h=>by
  rw[QG];by_cases h0:wL cNs s.1.spelt=0
  ·rw[if_pos h0];exact Dn.err
  ·rw[if_neg h0];cases hu:ZX req s.1.spelt
   ·rw[if_neg (by decide)];exact Dn.err
   ·rw[if_pos rfl];exact(Dn.next (c:=0) h (GF (zs:=cNs) h (by decide) h0) fun b a=>OO (fun s g=>Va n s g) (fun s g=>UJ n s g) _ _ a).weak (by omega)
def skipS(r:L8)(p:Nat):Qb Nat:=Q7 (r.length+1) r p
theorem GH:∀(f g:Nat) (r:L8) (p:Nat),r.length<f->r.length<g->Q7 f r p=Q7 g r p
 |0,_,r,p,h,_=>absurd h (Nat.not_lt_zero _)
 |_+1,0,r,p,_,h=>absurd h (Nat.not_lt_zero _)
 |f+1,g+1,[],p,_,_=>rfl
 |f+1,g+1,c::r,p,h1,h2=>by
  simp only[ZN]at h1 h2;simp only[Q7];have a:=NX c r;rw[GH f g r (p+1) (by omega) (by omega)];rw[GH f g (List.drop (lineLen (c::r)) (c::r)) _ (by rw[List.length_drop];simp only[ZN];omega) (by rw[List.length_drop];simp only[ZN];omega)];rw[GH f g (List.drop (4+(Lib.index (r.drop 1) [42,47]).toNat) (c::r)) _ (by rw[List.length_drop];simp only[ZN];omega) (by rw[List.length_drop];simp only[ZN];omega)]
theorem A8(f:Nat)(r:L8)(p:Nat)(h:r.length<f):Q7 f r p=skipS r p:=GH _ _ _ _ h (Nat.lt_succ_self _)
theorem Cs(r:L8)(p:Nat)(h:Zn c.toNat=true):skipS (c::r) p=skipS r (p+1):=by
 show Q7 (r.length+1+1) (c::r) p=_
 simp only[Q7];rw[if_pos h];rfl
theorem Ov(r:L8)(p:Nat)(h:Zn c.toNat=false)(a:c.toNat=35):skipS (c::r) p=skipS ((c::r).drop (lineLen (c::r))) (p+lineLen (c::r)):=by
 show Q7 (r.length+1+1) (c::r) p=_
 simp only[Q7];have b:=NX c r;rw[if_neg (by rw[h];decide),if_pos a,A8 _ _ _ (by rw[List.length_drop];simp only[ZN];omega)]
theorem Iz{c:UInt8}(r:L8)(p:Nat)(h:Zn c.toNat=false)(a:¬ c.toNat=35)(b:Lib.hasPrefix (c::r) [47,42]=true)(d:Lib.index (r.drop 1) [42,47]<0):skipS (c::r) p=.error ⟨2,p⟩:=by
 show Q7 (r.length+1+1) (c::r) p=_
 simp only[Q7];rw[if_neg (by rw[h];decide),if_neg a,if_pos b,if_pos d]
theorem Ps{c:UInt8}(r:L8)(p:Nat)(h:Zn c.toNat=false)(a:¬ c.toNat=35)(b:Lib.hasPrefix (c::r) [47,42]=true)(d:¬ Lib.index (r.drop 1) [42,47]<0):skipS (c::r) p=skipS ((c::r).drop (4+(Lib.index (r.drop 1) [42,47]).toNat)) (p+(4+(Lib.index (r.drop 1) [42,47]).toNat)):=by
 show Q7 (r.length+1+1) (c::r) p=_
 simp only[Q7];rw[if_neg (by rw[h];decide),if_neg a,if_pos b,if_neg d,A8 _ _ _ (by rw[List.length_drop];simp only[ZN];omega)]
theorem M2{c:UInt8}(r:L8)(p:Nat)(h:Zn c.toNat=false)(a:¬ c.toNat=35)(b:Lib.hasPrefix (c::r) [47,42]=false):skipS (c::r) p=.ok p:=by
 show Q7 (r.length+1+1) (c::r) p=_
 simp only[Q7];rw[if_neg (by rw[h];decide),if_neg a,if_neg (by rw[b];decide)]
theorem Tq(l:L8)(p:Nat):nL l p=match skipS (l.drop p) p with
 | .error f=>.error f
 | .ok n=>Q1 (l.drop n) n:=by
 unfold nL;rw[A8 _ _ _ (by rw[List.length_drop];omega)]
 all_goals (cases skipS (List.drop p l) p<;>rfl)
def iL(n:Nat):L8:=Lib.decDigits n
section
def pcL:L8->List (Nat×UInt8)
 | []=>[]
 | [c]=>[if c=42 then(2,0)else if c=63 then(1,0)else(0,c)]
 |c::d::r=>if c=42 then(2,0)::pcL (d::r)else if c=63 then(1,0)::pcL (d::r)else if c=92 then(0,d)::pcL r else(0,c)::pcL (d::r)
def J2(p:Nat×UInt8)(c:UInt8):Bool:=p.1==1 || (p.1==0&&p.2==c)
def QH:List (Nat×UInt8)->L8->Bool
 | [],v=>v.isEmpty
 |p::k,[]=>p.1==2&&QH k []
 |p::k,c::v=>if p.1=2 then QH k (c::v) || QH (p::k) v else J2 p c&&QH k v
termination_by k v=>k.length+v.length
def ZM:List (Nat×UInt8)->L8->Bool
 | [],[]=>true
 |p::k,c::v=>p.1 != 2&&(J2 p c&&ZM k v)
 |_,_=>false
theorem VU:∀(k:List (Nat×UInt8)) (v:L8),ZM k v=true->k.length=v.length
 | [],[],_=>rfl
 | [],_::_,h=>by simp[ZM]at h
 |_::_,[],h=>by simp[ZM]at h
 |p::k,c::v,h=>by
  simp only[ZM,Bool.and_eq_true]at h;simp[VU k v h.2.2]
theorem CE:∀(k:List (Nat×UInt8)) (v:L8) (p:Nat×UInt8) (c:UInt8),ZM k v=true->p.1≠2->J2 p c=true->ZM (k++[p]) (v++[c])=true
 | [],[],p,c,_,h1,h2=>by simp[ZM,h1,h2]
 | [],_::_,_,_,h,_,_=>by simp[ZM]at h
 |_::_,[],_,_,h,_,_=>by simp[ZM]at h
 |p::k,c::v,q,d,h,h1,h2=>by
  simp only[ZM,Bool.and_eq_true,List.cons_append]at h ⊢;exact⟨h.1,h.2.1,CE k v q d h.2.2 h1 h2⟩
theorem Ai:∀(k:List (Nat×UInt8)) (v:L8) (a:List (Nat×UInt8)) (v':L8),ZM k v=true->QH (k++a) (v++v')=QH a v'
 | [],[],_,_,_=>rfl
 | [],_::_,_,_,h=>by simp[ZM]at h
 |_::_,[],_,_,h=>by simp[ZM]at h
 |p::k,c::v,a,v',h=>by
  simp only[ZM,Bool.and_eq_true,bne_iff_ne,ne_eq]at h;rw[List.cons_append,List.cons_append,QH,if_neg h.1,h.2.1,Bool.true_and];exact Ai k v a v' h.2.2
theorem Ft(x:UInt8)(k:List (Nat×UInt8))(c:UInt8)(v:L8)(h:QH ((2,x)::k) v=true):QH ((2,x)::k) (c::v)=true:=by
 rw[QH,if_pos rfl,h,Bool.or_true]
theorem FK(x:UInt8)(k:List (Nat×UInt8))(u v:L8)(h:QH ((2,x)::k) v=true):QH ((2,x)::k) (u++v)=true:=by
 induction u with
 |nil=>exact h
 |cons c u ih=>exact Ft x k c _ ih
theorem Bp(x:UInt8)(k:List (Nat×UInt8))(v:L8)(h:QH k v=true):QH ((2,x)::k) v=true:=by
 cases v with
 |nil=>rw[QH];simp[h]
 |cons c v=>rw[QH,if_pos rfl,h,Bool.true_or]
theorem Aj:∀(k:List (Nat×UInt8)) (d:List (Nat×UInt8)) (v:L8),(∀ p,p∈k->p.1≠2)->QH (k++d) v=true->∃ u v',v=u++v'/\ZM k u=true/\QH d v'=true
 | [],d,v,_,h=>⟨[],v,rfl,rfl,h⟩
 |p::k,d,[],hk,h=>by
  rw[List.cons_append,QH]at h;simp[hk p (List.mem_cons_self ..)]at h
 |p::k,d,c::v,hk,h=>by
  rw[List.cons_append,QH,if_neg (hk p (List.mem_cons_self ..)),Bool.and_eq_true]at h;obtain⟨u,v',e,a,b⟩:=Aj k d v (fun q f=>hk q (List.mem_cons_of_mem _ f)) h.2;exact⟨c::u,v',by rw[e];rfl,by simp[ZM,hk p (List.mem_cons_self ..),h.1,a],b⟩
theorem NN:∀(k:List (Nat×UInt8)) (v:L8),ZM k v=true->∀ p,p∈k->p.1≠2
 | [],_,_,p,hp=>by cases hp
 |_::_,[],h,_,_=>by simp[ZM]at h
 |q::k,c::v,h,p,hp=>by
  simp only[ZM,Bool.and_eq_true,bne_iff_ne,ne_eq]at h;rcases List.mem_cons.1 hp with rfl|hp
  ·exact h.1
  ·exact NN k v h.2.2 p hp
theorem Cn(x:UInt8)(k:List (Nat×UInt8))(v:L8)(h:QH ((2,x)::k) v=true):∃ u v',v=u++v'/\QH k v'=true:=by
 induction v with
 |nil=>rw[QH]at h;simp at h;exact⟨[],[],rfl,h⟩
 |cons c v ih=>
  rw[QH,if_pos rfl,Bool.or_eq_true]at h;rcases h with h|h
  ·exact⟨[],c::v,rfl,h⟩
  ·obtain⟨u,v',e,a⟩:=ih h;exact⟨c::u,v',by rw[e];rfl,a⟩
theorem Mf(x y:UInt8)(k:List (Nat×UInt8))(u:L8)(g:List (Nat×UInt8))(v:L8)(h:ZM k u=true):QH ((2,x)::(k++(2,y)::g)) (u++v)=QH ((2,y)::g) v:=by
 rw[Zo];constructor
 ·intro f;obtain⟨a,b,e,j⟩:=Cn x _ _ f;obtain⟨c,d,i,l,m⟩:=Aj k _ b (NN k u h) j;have n:c.length=u.length:=by rw[<-VU _ _ l,VU _ _ h]
  have:v=((a++c).drop u.length)++d:=by
   have:=congrArg (List.drop u.length) e;rw[List.drop_left,i,<-List.append_assoc,List.drop_append_of_le_length (by rw[Ze];omega)]at this;exact this
  rw[this];exact FK y g _ _ m
 ·intro f;exact Bp x _ _ (by rw[Ai k u _ _ h];exact f)
theorem BW(x:UInt8)(k:List (Nat×UInt8))(c:UInt8)(v:L8)(h:QH k (c::v)=false):QH ((2,x)::k) (c::v)=QH ((2,x)::k) v:=by
 rw[QH,if_pos rfl,h,Bool.false_or]
theorem LI(x:UInt8)(k:List (Nat×UInt8))(u:L8)(p:Nat×UInt8)(k':List (Nat×UInt8))(h:ZM k u=true)(hp:p.1≠2):QH ((2,x)::(k++p::k')) u=false:=by
 rw[Bool.eq_false_iff];intro j;obtain⟨a,b,e,i⟩:=Cn x _ _ j;have hb':QH ((k++[p])++k') b=true:=by rw[List.append_assoc];exact i
 obtain ⟨c,d,e2,hc,_⟩:=Aj (k++[p]) k' b (fun q hq=>by
  rcases List.mem_append.1 hq with hq|hq
  ·exact NN k u h q hq
  ·rw [XH hq];exact hp) hb'
 have g:=VU _ _ hc;have l:=VU _ _ h;have f:=congrArg List.length e;rw[e2]at f;simp only[Ze,ZN,Up]at g f;omega
def Xa(k:List (Nat×UInt8)):L8->Nat
 | []=>0
 |c::v=>if QH k (c::v)=true then 0 else Xa k v+1
def plL:List (Nat×UInt8)->L8->Nat->List Nat
 | [],_,o=>[o]
 |p::k,v,o=>o::(if p.1=2 then plL k (v.drop (Xa k v)) (o+Xa k v)else plL k (v.drop 1) (o+1))
theorem CM(k:List (Nat×UInt8))(v:L8)(h:QH k v=true):Xa k v=0:=by
 cases v with
 |nil=>rfl
 |cons c v=>rw[Xa,if_pos h]
theorem Cu:∀(k:List (Nat×UInt8)) (v:L8) (a:List (Nat×UInt8)) (v':L8) (o:Nat),ZM k v=true->plL (k++a) (v++v') o=List.range' o k.length++plL a v' (o+k.length)
 | [],[],_,_,_,_=>rfl
 | [],_::_,_,_,_,h=>by simp[ZM]at h
 |_::_,[],_,_,_,h=>by simp[ZM]at h
 |p::k,c::v,a,v',o,h=>by
  simp only[ZM,Bool.and_eq_true,bne_iff_ne,ne_eq]at h;rw[List.cons_append,List.cons_append,plL,if_neg h.1,ZN,List.range'_succ,List.cons_append];rw[List.drop_succ_cons,List.drop_zero,Cu k v a v' (o+1) h.2.2,Nat.add_assoc,Nat.add_comm 1]
structure Zr (v:L8) (key:List (Nat×UInt8)) (s e a k:Nat) (pl:List Nat):Prop where
 sk:s<=k
 kl:k<=key.length
 ea:e+(k - s)=a
 al:a<=v.length
 just:ZM ((key.drop s).take (k - s)) ((v.drop e).take (k - s))=true
 pll:pl.length=key.length+1
 last:pl[key.length]?=some v.length
 run:∀ i,i < k - s->pl[s+i]?=some (e+i)
 same:QH key v=if s=0 then QH (key.drop s) (v.drop e) else QH ((2,0) :: key.drop s) (v.drop e)
 places:QH key v=true->plL key v 0=pl.take s++(if s=0 then plL (key.drop s) (v.drop e) e else plL (key.drop s) ((v.drop e).drop (Xa (key.drop s) (v.drop e))) (e+Xa (key.drop s) (v.drop e)))
theorem SO(v:L8)(a:List (Nat×UInt8))(b:List Nat)(c:b.length=a.length+1)(d:b[a.length]?=some v.length):Zr v a 0 0 0 0 b:=
 ⟨Nat.le_refl _,QE,rfl,QE,rfl,c,d,fun i h=>absurd h (Nat.not_lt_zero _),by simp,fun _=>by simp⟩
variable {v:L8} {key:List (Nat×UInt8)} {s e a k:Nat} {pl:List Nat}
theorem Zr.keyEq(h:Zr v key s e a k pl):key.drop s=(key.drop s).take (k - s)++key.drop k:=by
 have:=(List.take_append_drop (k - s) (key.drop s)).symm;rwa [List.drop_drop,Nat.add_sub_cancel' h.sk]at this
theorem Zr.valEq(h:Zr v key s e a k pl):v.drop e=(v.drop e).take (k - s)++v.drop a:=by
 have:=(List.take_append_drop (k - s) (v.drop e)).symm;rwa [List.drop_drop,h.ea]at this
theorem Zr.keyLen(h:Zr v key s e a k pl):((key.drop s).take (k - s)).length=k - s:=by
 rw[List.length_take,List.length_drop];have:=h.sk;have:=h.kl;omega
theorem Zr.rest(h:Zr v key s e a k pl):QH (key.drop s) (v.drop e)=QH (key.drop k) (v.drop a):=by
 conv=>lhs;rw[h.keyEq,h.valEq]
 exact Ai _ _ _ _ h.just
theorem Zr.restPlaces(h:Zr v key s e a k pl):plL (key.drop s) (v.drop e) e=List.range' e (k - s)++plL (key.drop k) (v.drop a) a:=by
 conv=>lhs;rw[h.keyEq,h.valEq]
 rw[Cu _ _ _ _ _ h.just,h.keyLen,h.ea]
theorem Zr.takeEq(h:Zr v key s e a k pl):pl.take s++List.range' e (k - s)=pl.take k:=by
 apply List.ext_getElem?;intro i;have c:=h.sk;have d:=h.kl;have f:=h.pll;have b:(pl.take s).length=s:=by rw[List.length_take];omega
 rw[List.getElem?_append,b];split
 ·next hi=>rw[List.getElem?_take,List.getElem?_take,if_pos hi,if_pos (by omega)]
 ·next hi=>
  rw[List.getElem?_take];split
  ·next hk=>
   rw[List.getElem?_range' (by omega)];have:=h.run (i - s) (by omega);rw[Nat.add_sub_cancel' (by omega)]at this;rw[this,Nat.one_mul]
  ·next hk=>rw[List.getElem?_eq_none];rw[List.length_range'];omega
theorem Zr.star(h:Zr v key s e a k pl)(c:k<key.length)(j:key[k]=(2,0)):Zr v key (k+1) a a (k+1) (pl.set k a):=by
 have b:key.drop k=(2,0)::key.drop (k+1):=by rw[List.drop_eq_getElem_cons c,j]
 have f:QH key v=QH ((2,0)::key.drop (k+1)) (v.drop a):=by
  rw[h.same];split
  ·rw[h.rest,b]
  ·conv=>lhs;rw[h.keyEq,h.valEq,b]
   exact Mf 0 0 _ _ _ _ h.just
 refine⟨Nat.le_refl _,c,by simp,h.al,by simp[ZM],by simp[h.pll],?_,fun i m=>by omega,?_,fun d=>?_⟩
 ·rw[List.getElem?_set_ne (by omega)];exact h.last
 ·rw[if_neg (Nat.succ_ne_zero _)];exact f
 ·rw[if_neg (Nat.succ_ne_zero _),h.places d];have l:QH (key.drop s) (v.drop e)=true:=by rw[h.rest,b,<-f,d]
  rw[CM _ _ l,List.drop_zero,Nat.add_zero,ite_self,h.restPlaces,b,plL,if_pos rfl,<-List.append_assoc,h.takeEq]
  have:(pl.set k a).take (k+1)=pl.take k++[a]:=by
   have g:k<(pl.set k a).length:=by rw[List.length_set,h.pll];omega
   rw[List.take_succ_eq_append_getElem g,List.getElem_set_self,List.take_set_of_le Ql]
  rw[this,List.append_assoc];rfl
theorem Zr.take(h:Zr v key s e a k pl)(g:k<key.length)(f:a<v.length)(l:key[k].1≠2)(m:J2 key[k] v[a]=true):Zr v key s e (a+1) (k+1) (pl.set k a):=by
 have b:=h.sk;have d:=h.ea;have c:k+1 - s=(k - s)+1:=by omega
 refine⟨by omega,g,by omega,f,?_,by simp[h.pll],?_,fun i n=>?_,h.same,fun j=>?_⟩
 ·rw[c,List.take_succ_eq_append_getElem (by rw[List.length_drop];omega),List.take_succ_eq_append_getElem (by rw[List.length_drop];omega)];apply CE _ _ _ _ h.just
  ·simp only[List.getElem_drop,Nat.add_sub_cancel' b];exact l
  ·simp only[List.getElem_drop,Nat.add_sub_cancel' b,d];exact m
 ·rw[List.getElem?_set_ne (by omega)];exact h.last
 ·by_cases hi':i<k - s
  ·rw[List.getElem?_set_ne (by omega)];exact h.run i hi'
  ·have:s+i=k:=by omega
   rw[this,List.getElem?_set_self (by rw[h.pll];omega)];congr 1;omega
 ·rw[List.take_set_of_le b];exact h.places j
theorem Zr.no(h:Zr v key s e a k pl)(g:(k=key.length/\a<v.length)\/∃(c:k<key.length),key[k].1≠2/\∀(b:a<v.length),J2 key[k] v[a]=false):QH (key.drop s) (v.drop e)=false:=by
 rw[h.rest];rcases g with⟨f,b⟩ | ⟨c,d,i⟩
 ·rw[f,List.drop_length,List.drop_eq_getElem_cons b,QH];rfl
 ·rw[List.drop_eq_getElem_cons c];by_cases b:a<v.length
  ·rw[List.drop_eq_getElem_cons b,QH,if_neg d,i b,Bool.false_and]
  ·rw[List.drop_eq_nil_of_le (show v.length<=a by omega),QH];simp[d]
theorem Zr.longer(h:Zr v key s e a k pl)(b:s≠0)(f:a<v.length)(g:k=key.length\/∃(hk:k<key.length),key[k].1≠2/\J2 key[k] v[a]=false):Zr v key s (e+1) (e+1) s pl:=by
 have hno:QH (key.drop s) (v.drop e)=false:=h.no (by
  rcases g with d | ⟨hk,hn,ht⟩
  ·exact .inl ⟨d,f⟩
  ·exact .inr ⟨hk,hn,fun _=>ht⟩)
 have l:=h.ea;have c:v.drop e=v[e]::v.drop (e+1):=List.drop_eq_getElem_cons (by omega);rw[c]at hno;refine⟨Nat.le_refl _,Qs h.sk h.kl,by simp,by omega,by simp[ZM],h.pll,h.last,fun i m=>by omega,?_,fun j=>?_⟩
 ·rw[h.same,if_neg b,if_neg b,c,BW 0 _ _ _ hno]
 ·rw[h.places j,if_neg b,if_neg b,c,Xa,hno];simp only[Bool.false_eq_true,if_false,List.drop_succ_cons];rw[Nat.add_assoc,Nat.add_comm 1]
theorem Zr.yes(h:Zr v key s e a k pl)(j:¬ a<v.length)(l:¬ k<key.length):QH key v=true/\pl=plL key v 0:=by
 have c:a=v.length:=Nat.le_antisymm h.al (Nat.not_lt.1 j);have d:k=key.length:=Nat.le_antisymm h.kl (Nat.not_lt.1 l)
 have b:QH (key.drop s) (v.drop e)=true:=by
  rw[h.rest,c,d,List.drop_length,List.drop_length,QH];rfl
 have g:QH key v=true:=by
  rw[h.same];split
  ·exact b
  ·exact Bp 0 _ _ b
 refine⟨g,?_⟩;rw[h.places g,CM _ _ b,List.drop_zero,Nat.add_zero,ite_self,h.restPlaces,<-List.append_assoc,h.takeEq,c,d,List.drop_length,plL];have f:key.length<pl.length:=by rw[h.pll];omega
 have i:pl[key.length]=v.length:=by
  have:=h.last;rw[List.getElem?_eq_getElem f]at this;exact Option.some.inj this
 have:=List.take_succ_eq_append_getElem f;rw[i,List.take_of_length_le (by rw[h.pll];omega)]at this;exact this
theorem Zr.never(h:Zr v key s e a k pl)(j:a<v.length\/k<key.length)(c:∀(b:k<key.length),key[k].1≠2)(f:∀(b:k<key.length)(i:a<v.length),J2 key[k] v[a]=false)(g:¬(s≠0/\a<v.length)):QH key v=false:=by
 rw[h.same];split
 ·apply h.no;by_cases b:k<key.length
  ·exact .inr ⟨b,c b,f b⟩
  ·have:=h.kl;exact .inl ⟨by omega,by omega⟩
 ·next hs=>
  have i:¬ a<v.length:=fun x=>g ⟨hs,x⟩
  have b:k<key.length:=by omega
  have d:=h.valEq;rw[List.drop_eq_nil_of_le (show v.length<=a by omega),List.append_nil]at d;rw[h.keyEq,List.drop_eq_getElem_cons b,d];exact LI 0 _ _ _ _ h.just (c b)
def Jf(v:L8)(key:List (Nat×UInt8))(s e a:Nat):Nat:=(key.length+v.length - (s+e))*(v.length+1)+(v.length - (a - e))
theorem Zr.muTake(h:Zr v key s e a k pl)(b:a<v.length):Jf v key s e (a+1)<Jf v key s e a:=by
 have:=h.ea;unfold Jf;omega
theorem EI{x y q:Nat}(h:x<y)(a:p<=n):x*(n+1)+p<y*(n+1)+q:=by
 have:(x+1)*(n+1)<=y*(n+1):=Nat.mul_le_mul_right _ h;rw[Nat.add_mul]at this;omega
theorem Zr.muStar(h:Zr v key s e a k pl)(b:k<key.length):Jf v key (k+1) a a<Jf v key s e a:=by
 have:=h.ea;have:=h.sk;have:=h.al;exact EI (by omega) (Nat.sub_le _ _)
theorem Zr.muLonger(h:Zr v key s e a k pl)(b:a<v.length):Jf v key s (e+1) (e+1)<Jf v key s e a:=by
 have:=h.ea;have:=h.sk;have:=h.kl;exact EI (by omega) (Nat.sub_le _ _)
end
theorem Da(x:UInt8)(k:List (Nat×UInt8))(v:L8)(h:QH ((2,x)::k) v=true):Xa k v<=v.length/\QH k (v.drop (Xa k v))=true:=by
 induction v with
 |nil=>rw[QH]at h;simp at h;exact⟨Nat.le_refl _,h⟩
 |cons c v ih=>
  rw[Xa];split
  ·next hm=>exact⟨QE,hm⟩
  ·next hm=>
   rw[BW x k c v (by simpa using hm)]at h;exact⟨Nat.succ_le_succ (ih h).1,by rw[List.drop_succ_cons];exact(ih h).2⟩
theorem N8:∀(k:List (Nat×UInt8)) (v:L8) (o:Nat),(plL k v o).length=k.length+1
 | [],_,_=>rfl
 |p::k,v,o=>by
  rw[plL,ZN,ZN];split
  ·rw[N8 k]
  ·rw[N8 k]
theorem It(k:List (Nat×UInt8))(v:L8)(o:Nat):(plL k v o)[0]?=some o:=by
 cases k<;>rfl
theorem DP:∀(k:List (Nat×UInt8)) (v:L8) (o:Nat),QH k v=true->∀ i,i<k.length->∃ x y,(plL k v o)[i]?=some x/\(plL k v o)[i+1]?=some y/\o<=x/\x<=y/\y<=o+v.length
 | [],_,_,_,i,hi=>absurd hi (Nat.not_lt_zero _)
 |p::k,v,o,h,i,hi=>by
  have j:∃ n,plL (p::k) v o=o::plL k (v.drop n) (o+n)/\n<=v.length/\QH k (v.drop n)=true:=by
   by_cases hp:p.1=2
   ·obtain⟨q,x⟩:=p;subst hp;obtain⟨a,b⟩:=Da x k v h;exact⟨Xa k v,by rw[plL,if_pos rfl],a,b⟩
   ·cases v with
    |nil=>rw[QH]at h;simp[hp]at h
    |cons c v=>
     rw[QH,if_neg hp,Bool.and_eq_true]at h;exact⟨1,by rw[plL,if_neg hp],Nat.succ_le_succ QE,h.2⟩
  obtain⟨n,e,m,g⟩:=j;rw[e];have l:(v.drop n).length=v.length - n:=List.length_drop ..
  cases i with
  |zero=>exact⟨o,o+n,rfl,by rw[List.getElem?_cons_succ];exact It ..,Nat.le_refl _,by omega,by omega⟩
  |succ i=>
   obtain⟨x,y,a,b,c,d,f⟩:=DP k (v.drop n) (o+n) g i (Nat.lt_of_succ_lt_succ hi);exact⟨x,y,by rw[List.getElem?_cons_succ];exact a,by rw[List.getElem?_cons_succ];exact b,by omega,d,by omega⟩
def toldTo(v:L8)(key:List (Nat×UInt8))(pl:List Nat):Nat->Qa
 |0=>[v]
 |n+1=>toldTo v key pl n++(if(key.getD n (0,0)).1=0 then []else [(v.drop (pl.getD n 0)).take (pl.getD (n+1) 0 - pl.getD n 0)])
theorem LF(v:L8)(a:List (Nat×UInt8))(b:List Nat)(n:Nat):∃ r,toldTo v a b n=v::r:=by
 induction n with
 |zero=>exact⟨[],rfl⟩
 |succ n ih=>
  obtain⟨r,e⟩:=ih;exact⟨_,by rw[toldTo,e,List.cons_append]⟩
theorem B8(w:L8):pcL (42::w)=(2,0)::pcL w:=by
 cases w with
 |nil=>rfl
 |cons d r=>rw[pcL,if_pos rfl]
theorem MA(w:L8):pcL (63::w)=(1,0)::pcL w:=by
 cases w with
 |nil=>rfl
 |cons d r=>rw[pcL,if_neg (by decide),if_pos rfl]
structure Msg where
 fr:L8
 to:L8
 size:Int
 hdrs:List (L8×L8)
structure SS where
 vs:Bool
 vals:L8->Option (L8)
 told:Qa
 met:List (Int×L8)
 disc:Bool
abbrev FZ:=Int×Int
def KK(s:SS)(t:Qa):SS:=⟨s.vs,s.vals,t,s.met,s.disc⟩
def XE(s:SS)(l:List (Int×L8)):SS:=⟨s.vs,s.vals,s.told,l,s.disc⟩
def KJ(s:SS):SS:=⟨s.vs,s.vals,s.told,s.met,true⟩
def ss0(v:Bool):SS:=⟨v,fun _=>none,[],[],false⟩
def nmLen(l:L8):Nat:=
 match l with
 | []=>0
 |c::r=>if QI c.toNat then 1 else nameLen (c::r)
def UK(s:SS)(name:L8):L8:=
 match name with
 | []=>[]
 |c::r=>if QI c.toNat then s.told.getD (c.toNat - 48) []else(s.vals (zL (c::r))).getD []
def Z5(l:L8):Nat:=
 if l.take 2=[36,123]/\((l.drop 2).drop (nmLen (l.drop 2))).take 1=[125]then nmLen (l.drop 2)else 0
def standL(s:SS)(l:L8):L8×Nat:=
 if Z5 l=0 then(l.take 1,1)else(UK s ((l.drop 2).take (Z5 l)),3+Z5 l)
def Yq(s:SS):Nat->L8->L8->L8
 |0,_,acc=>acc
 |n+1,l,acc=>if l≠[]/\acc.length<1024 then Yq s n (l.drop (standL s l).2) (acc++(standL s l).1.take (1024 - acc.length))else acc
def expL(s:SS)(l:L8):L8:=if s.vs then Yq s (l.length+1) l []else l
def lookL(oct:Bool)(x:L8):L8:=if oct then x else zL x
def Z7(k:L8):L8->Bool
 | []=>k.isPrefixOf []
 |c::v=>k.isPrefixOf (c::v) || Z7 k v
def wayB(tag:Int)(oct:Bool)(v k:L8):Bool:=
 if tag=1 then decide (lookL oct v=lookL oct k)
 else if tag=2 then Z7 (lookL oct k) (lookL oct v)
 else QH (pcL (lookL oct k)) (lookL oct v)
def wayT(tag:Int)(oct:Bool)(v k:L8):Option (Qa):=
 if tag=3 then some (toldTo v (pcL (lookL oct k)) (plL (pcL (lookL oct k)) (lookL oct v) 0) (pcL (lookL oct k)).length)else none
def XX(tag:Int)(oct:Bool)(v:L8):Qa->Option (L8)
 | []=>none
 |k::r=>if wayB tag oct v k then some k else XX tag oct v r
def Xs(tag:Int)(oct:Bool)(keys:Qa):Qa->Option (L8×L8)
 | []=>none
 |v::r=>match XX tag oct v keys with
  |some k=>some (v,k)
  |none=>Xs tag oct keys r
def askL(s:SS)(tag:Int)(oct:Bool)(vals keys:Qa):Bool×SS:=
 match Xs tag oct (keys.map (expL s)) vals with
 |none=>(false,s)
 | some (v,k)=>(true,match wayT tag oct v k with
  |some t=>KK s t
  | none=>s)
def Z1(h:L8×L8)(n:L8):Bool:=decide (zL h.1=zL n)
def fieldsL(M:Msg)(names:Qa):Qa:=names.flatMap fun n=>(M.hdrs.filter (Z1 · n)).map (·.2)
def envL(M:Msg)(parts:Qa):Qa:=parts.flatMap fun p=>if zL p=[102,114,111,109]then [M.fr]else if zL p=[116,111]then [M.to]else []
def existsL(M:Msg)(names:Qa):Bool:=names.all fun n=>M.hdrs.any (Z1 · n)
def sizeB(M:Msg)(tag n:Int):Bool:=if tag=2 then decide (M.size<n)else decide (n<M.size)
def JE(c:UInt8):Bool:=Q0 c || c==45 || c==46
def isBoxL(x:L8):Bool:=!x.isEmpty&&(decide (x.length<=16)&&(x.head? != some 46&&x.all JE))
def isAddrL(x:L8):Bool:=decide (3<=x.length)&&(decide (x.length<=32)&&(decide (x.count 64=1)&&(x.all (fun c=>!Zn c.toNat)&&(x.head? != some 64&&x.getLast? != some 64))))
def cutArg(kind:Int)(arg:L8):L8:=if kind=4 then arg.take 48 else arg
def addL(met:List (Int×L8))(kind:Int)(arg:L8):Int×List (Int×L8):=
 if kind=2/\isBoxL arg=false then(8,met)
 else if kind=3/\isAddrL arg=false then(9,met)
 else if(kind,cutArg kind arg)∈met then(0,met)
 else if met≠[]/\(kind=4\/(met.headD (0,[])).1=4)then(10,met)
 else if met.length=6 then(11,met)
 else(0,met++[(kind,cutArg kind arg)])
def YX(s:SS):List (Int×L8):=if s.met=[]/\s.disc=false then [(1,[])]else s.met
def Ji(c:UInt8):UInt8:=if YJ c.toNat then c - 97+65 else c
def capL(l:L8):L8:=l.map Ji
def turnL(tag:Int)(x:L8):L8:=
 if tag=1 then zL x else if tag=2 then capL x else if tag=3 then Lib.decDigits x.length else x
def KQ(s:SS)(name:L8)(tag:Int)(said:L8):SS:=
 ⟨s.vs,fun x=>if x=name then some ((turnL tag (expL s said)).take 48)else s.vals x,s.told,s.met,s.disc⟩
structure Ins where
 op:Int
 n:Int
 tag:Int
 oct:Bool
 a:Qa
 b:Qa
 at_:Int
variable{i:Ins}
structure MS where
 st:SS
 stack:List Bool
 now:Nat
 next:Nat
variable{m:MS}
def Xl(v:Bool)(m:MS):Except FZ MS:=if m.stack.length<8 then .ok ⟨m.st,m.stack++[v],m.now,m.next⟩else .error (12,m.now)
def YO(m:MS):MS:=⟨m.st,m.stack.dropLast,m.now,m.next⟩
def goL(m:MS)(n:Nat):MS:=⟨m.st,m.stack,m.now,n⟩
def stL(m:MS)(s:SS):MS:=⟨s,m.stack,m.now,m.next⟩
def atL(m:MS):MS:=⟨m.st,m.stack,m.next,m.next+1⟩
def topL(m:MS):Bool:=m.stack.getLastD false
def YG(count:Nat)(m:MS)(n:Int):Bool:=decide (0<=n)&&decide (n<=(count:Int) - m.next)
def Vx(i:Ins)(m:MS)(arg:L8):Except FZ MS:=
 if(addL m.st.met i.tag (expL m.st arg)).1=0 then .ok (stL m (XE m.st (addL m.st.met i.tag (expL m.st arg)).2))else .error ((addL m.st.met i.tag (expL m.st arg)).1,i.at_)
def Nn(r:Bool×SS)(m:MS):Except FZ MS:=Xl r.1 (stL m r.2)
def ZI(m:MS):Except FZ MS:=.error (12,m.now)
def J1(i:Ins)(m:MS):Except FZ MS:=if i.n=0\/i.n=1 then Xl (decide (i.n=1)) m else ZI m
def J9(m:MS):Except FZ MS:=if m.stack=[]then ZI m else Xl (!topL m) (YO m)
def J3(count:Nat)(i:Ins)(m:MS):Except FZ MS:=if YG count m i.n then .ok (goL m (m.next+i.n.toNat))else ZI m
def doCond(taken:Bool)(count:Nat)(i:Ins)(m:MS):Except FZ MS:=
 if YG count m i.n then
  (if m.stack=[]then ZI m else .ok (if topL m=taken then goL (YO m) (m.next+i.n.toNat)else YO m))
 else ZI m
def doAsk(vals:Qa)(i:Ins)(m:MS):Except FZ MS:=
 if 1<=i.tag/\i.tag<=3 then Nn (askL m.st i.tag i.oct vals i.b) m else ZI m
def JY(M:Msg)(i:Ins)(m:MS):Except FZ MS:=if i.tag=1\/i.tag=2 then Xl (sizeB M i.tag i.n) m else ZI m
def YI(i:Ins)(m:MS):Except FZ MS:=
 if i.tag=1 then Vx i m []else if 2<=i.tag/\i.tag<=4/\i.a≠[]then Vx i m (i.a.headD [])else ZI m
def Ka(i:Ins)(m:MS):Except FZ MS:=
 if 0<=i.tag/\i.tag<=3/\i.a≠[]/\i.b≠[]then .ok (stL m (KQ m.st (i.a.headD []) i.tag (i.b.headD [])))else ZI m
def stepL(M:Msg)(count:Nat)(i:Ins)(m:MS):Except FZ MS:=
 if i.op=1 then J1 i m
 else if i.op=2 then J9 m
 else if i.op=3 then J3 count i m
 else if i.op=4 then doCond true count i m
 else if i.op=5 then doCond false count i m
 else if i.op=6 then doAsk (fieldsL M (i.a.map (expL m.st))) i m
 else if i.op=7 then doAsk (envL M i.a) i m
 else if i.op=8 then doAsk (i.a.map (expL m.st)) i m
 else if i.op=9 then Xl (existsL M (i.a.map (expL m.st))) m
 else if i.op=10 then JY M i m
 else if i.op=11 then YI i m
 else if i.op=12 then Ka i m
 else if i.op=13 then .ok (stL m (KJ m.st))
 else if i.op=14 then .ok (goL m count)
 else ZI m
def E9:Ins:=⟨0,0,0,false,[],[],0⟩
def Xh(M:Msg)(code:List Ins):Nat->MS->Nat->Except FZ MS×Nat
 |0,m,d=>(.ok m,d)
 |f+1,m,d=>
  if m.next<code.length then
   (match stepL M code.length (code.getD m.next E9) (atL m) with
    | .error e=>(.error e,d+1)
    | .ok m'=>Xh M code f m' (d+1))
  else(.ok m,d)
def ms0(v:Bool):MS:=⟨ss0 v,[],0,0⟩
def execL(v:Bool)(code:List Ins)(M:Msg):List (Int×L8)×Nat×Option FZ:=
 if 400<code.length then([(1,[])],0,some (12,400))
 else match Xh M code code.length (ms0 v) 0 with
  |(.error e,d)=>([(1,[])],d,some e)
  |(.ok m,d)=>(YX m.st,d,none)
theorem VS{v:Bool}{a:MS}(h:Xl v m=.ok a):a.next=m.next:=by
 unfold Xl at h
 split at h
 ·cases h;rfl
 ·cases h
theorem DM{a:MS}(h:Vx i m x=.ok a):a.next=m.next:=by
 unfold Vx at h
 split at h
 ·cases h;rfl
 ·cases h
theorem Nm{a:Nat}{n:Int}(h:YG a m n=true):m.next+n.toNat<=a:=by
 unfold YG at h;simp at h;omega
theorem Oq{M:Msg}{c:Nat}{b:MS}(h:stepL M c i m=.ok b)(e:m.next<=c):m.next<=b.next/\b.next<=c:=by
 have d:∀ k:Nat,k=m.next->k=b.next->m.next<=b.next/\b.next<=c:=fun k a n=>by omega
 unfold stepL at h;by_cases a:i.op=1
 ·rw[if_pos a]at h;unfold J1 ZI at h
  split at h
  ·exact d _ rfl (VS h).symm
  ·cases h
 rw[if_neg a]at h;by_cases a:i.op=2
 ·rw[if_pos a]at h;unfold J9 ZI at h
  split at h
  ·cases h
  ·exact d _ rfl (VS h).symm
 rw[if_neg a]at h;by_cases a:i.op=3
 ·rw[if_pos a]at h;unfold J3 ZI at h
  split at h
  ·next hm=>cases h;exact⟨Nat.le_add_right _ _,Nm hm⟩
  ·cases h
 rw[if_neg a]at h
 have g:∀ j,doCond j c i m=.ok b->m.next<=b.next/\b.next<=c:=fun j h=>by
  unfold doCond ZI at h
  split at h
  ·next hm=>
   split at h
   ·cases h
   ·cases h;split
    ·exact⟨Nat.le_add_right _ _,Nm hm⟩
    ·exact⟨Nat.le_refl _,e⟩
  ·cases h
 by_cases a:i.op=4
 ·rw[if_pos a]at h;exact g _ h
 rw[if_neg a]at h;by_cases a:i.op=5
 ·rw[if_pos a]at h;exact g _ h
 rw[if_neg a]at h
 have f:∀ l,doAsk l i m=.ok b->m.next<=b.next/\b.next<=c:=fun l h=>by
  unfold doAsk ZI Nn at h
  split at h
  ·exact d _ rfl (VS h).symm
  ·cases h
 by_cases a:i.op=6
 ·rw[if_pos a]at h;exact f _ h
 rw[if_neg a]at h;by_cases a:i.op=7
 ·rw[if_pos a]at h;exact f _ h
 rw[if_neg a]at h;by_cases a:i.op=8
 ·rw[if_pos a]at h;exact f _ h
 rw[if_neg a]at h;by_cases a:i.op=9
 ·rw[if_pos a]at h;exact d _ rfl (VS h).symm
 rw[if_neg a]at h;by_cases a:i.op=10
 ·rw[if_pos a]at h;unfold JY ZI at h
  split at h
  ·exact d _ rfl (VS h).symm
  ·cases h
 rw[if_neg a]at h;by_cases a:i.op=11
 ·rw[if_pos a]at h;unfold YI ZI at h
  split at h
  ·exact d _ rfl (DM h).symm
  ·split at h
   ·exact d _ rfl (DM h).symm
   ·cases h
 rw[if_neg a]at h;by_cases a:i.op=12
 ·rw[if_pos a]at h;unfold Ka ZI at h
  split at h
  ·cases h;exact⟨Nat.le_refl _,e⟩
  ·cases h
 rw[if_neg a]at h;by_cases a:i.op=13
 ·rw[if_pos a]at h;cases h;exact⟨Nat.le_refl _,e⟩
 rw[if_neg a]at h;by_cases a:i.op=14
 ·rw[if_pos a]at h;cases h;exact⟨e,Nat.le_refl _⟩
 rw[if_neg a]at h;cases h
def KE:L8->Nat->Qb Nat
 | [],p=>.ok p
 |c::r,p=>if c=10 then skipS (c::r) p else KE r (p+1)
theorem Di:∀(r:L8) (p:Nat),KE r p=skipS (r.drop (lineLen r)) (p+lineLen r)
 | [],p=>rfl
 |c::r,p=>by
  rw[KE];by_cases h:c=10
  ·subst h;rw[if_pos rfl];have e:lineLen (10::r)=1:=by simp[lineLen,Lib.indexByte]
   rw[e,Cs r p (by decide)];rfl
  ·rw[if_neg h,Di r (p+1)]
   have e:lineLen (c::r)=1+lineLen r:=by
    have d:(c==10)=false:=by simpa using h
    have a:Lib.indexByte (c::r) 10=if Lib.indexByte r 10 == -1 then -1 else Lib.indexByte r 10+1:=by
     rw[Lib.indexByte,d];rfl
    have g:=NT r 10;unfold lineLen;rw[a];by_cases hr:Lib.indexByte r 10<0
    ·have f:Lib.indexByte r 10 = -1:=by have:=Lib.indexByte_ge r 10;omega
     rw[f];simp;omega
    ·have b:(Lib.indexByte r 10 == -1)=false:=by rw[beq_eq_false_iff_ne];omega
     rw[b,if_neg (by simp;omega),if_neg hr];simp;omega
   rw[e,Nat.add_comm 1 (lineLen r),List.drop_succ_cons];congr 1;omega
theorem Hc(r:L8)(p:Nat)(a:c.toNat=35):skipS (c::r) p=KE (c::r) p:=by
 have b:Zn c.toNat=false:=by unfold Zn;simp;omega
 rw[Di,Ov r p b a]
def Je(q:Nat):L8->Nat->Qb Nat
 | [],_=>.error ⟨2,q⟩
 | [_],_=>.error ⟨2,q⟩
 |c::d::r,p=>if c=42/\d=47 then skipS r (p+2)else Je q (d::r) (p+1)
theorem DZ(q:Nat):∀(r:L8) (p:Nat),Je q r p=if Lib.index r [42,47]<0 then .error ⟨2,q⟩else skipS (r.drop (2+(Lib.index r [42,47]).toNat)) (p+(2+(Lib.index r [42,47]).toNat))
 | [],p=>rfl
 | [c],p=>by
  rw[Je]
  have e:Lib.index [c] [42,47] = -1:=by
   unfold Lib.index;have:([42,47]:L8).isPrefixOf [c]=false:=by simp[List.isPrefixOf]
   rw[this];simp[Lib.index]
  rw[e];rfl
 |c::d::r,p=>by
  rw[Je]
  have a:Lib.index (c::d::r) [42,47]=if([42,47]:L8).isPrefixOf (c::d::r)then 0 else if Lib.index (d::r) [42,47] == -1 then -1 else Lib.index (d::r) [42,47]+1:=by
   rw[Lib.index]
  by_cases h:c=42/\d=47
  ·obtain⟨rfl,rfl⟩:=h;rw[if_pos ⟨rfl,rfl⟩,a];simp[List.isPrefixOf]
  ·have g:([42,47]:L8).isPrefixOf (c::d::r)=false:=by
    simp only[List.isPrefixOf,Bool.and_true,Bool.and_eq_false_iff];by_cases hc:c=42
    ·right;have:¬ d=47:=fun e=>h ⟨hc,e⟩
     simpa using fun e=>this e.symm
    ·left;simpa using fun e=>hc e.symm
   rw[if_neg h,a,g,DZ q (d::r) (p+1)];have j:=Lib.index_ge (d::r) [42,47];by_cases hr:Lib.index (d::r) [42,47]<0
   ·have i:Lib.index (d::r) [42,47] = -1:=by omega
    rw[i];rfl
   ·have f:(Lib.index (d::r) [42,47] == -1)=false:=by rw[beq_eq_false_iff_ne];omega
    rw[if_neg hr,f];simp only[Bool.false_eq_true,if_false];rw[if_neg (by omega)];have e:(Lib.index (d::r) [42,47]+1).toNat=(Lib.index (d::r) [42,47]).toNat+1:=by omega
    rw[e];have b:2+((Lib.index (d::r) [42,47]).toNat+1)=(2+(Lib.index (d::r) [42,47]).toNat)+1:=by omega
    rw[b,List.drop_succ_cons];congr 1;omega
theorem L6(r:L8)(p:Nat):skipS (47::42::r) p=Je p r (p+2):=by
 have a:Lib.hasPrefix (47::42::r) [47,42]=true:=rfl;rw[DZ];by_cases h3:Lib.index r [42,47]<0
 ·rw[if_pos h3,Iz (42::r) p (by decide) (by decide) a h3]
 ·rw[if_neg h3,Ps (42::r) p (by decide) (by decide) a h3]
  have e:4+(Lib.index (List.drop 1 (42::r)) [42,47]).toNat=(2+(Lib.index r [42,47]).toNat)+2:=by
   show 4+(Lib.index r [42,47]).toNat=_
   omega
  rw[e,List.drop_succ_cons,List.drop_succ_cons];congr 1;omega
theorem NV(r:L8)(p:Nat)(h:Zn c.toNat=false)(a:¬ c=35)(b:¬(c=47/\r.head?=some 42)):skipS (c::r) p=.ok p:=by
 refine M2 r p h (fun e=>a (UInt8.toNat_inj.1 e)) ?_
 cases hh:Lib.hasPrefix (c::r) [47,42]with
 |false=>rfl
 |true=>
  exfalso;apply b
  cases r with
  |nil=>simp[Lib.hasPrefix,List.isPrefixOf]at hh
  |cons d r=>
   simp[Lib.hasPrefix,List.isPrefixOf]at hh;exact⟨hh.1.symm,by rw[<-hh.2];rfl⟩
section
def kQ(x:Wd):Nat:=if x.kind=0 then 0 else if x.kind=1 then 119 else if x.kind=2 then 58 else if x.kind=3 then(x.spelt.headD 0).toNat else if x.kind=4 then 48 else 34
def sQ(x:Wd):L8:=if x.kind=1 then x.spelt else if x.kind=2 then x.spelt.drop 1 else if x.kind=5 then x.said else []
def WdQ(x:Wd):Prop:=
 (x.kind=0/\x.spelt=[]/\x.said=[]/\x.num=0)\/
 (x.kind=1/\(∃ c r,x.spelt=c::r/\QL c.toNat=true)/\x.said=[]/\x.num=0)\/
 (x.kind=2/\(∃ c r,x.spelt=58::c::r/\QL c.toNat=true)/\x.said=[]/\x.num=0)\/
 (x.kind=3/\(∃ c,x.spelt=[c]/\XS c=true)/\x.said=[]/\x.num=0)\/
 (x.kind=4/\x.spelt=[]/\x.said=[])\/
 (x.kind=5/\x.spelt=[]/\x.num=0)
theorem CF(c:UInt8)(h:QL c.toNat=true):QL (XK c).toNat=true:=by
 unfold XK;split
 ·rename_i hc;have a:=UInt8.toNat_lt c;unfold XT at hc;simp at hc
  have e:((c - 65+97).toNat:Int)=(c.toNat:Int)+32:=by
   rw[UInt8.toNat_add,UInt8.toNat_sub];simp;omega
  rw[e];unfold QL;simp;omega
 ·exact h
theorem sign_cases(h:XS c=true):c=59\/c=44\/c=40\/c=41\/c=123\/c=125\/c=91\/c=93:=by
 unfold XS at h;have a:=NO _ _ (of_decide_eq_true h);simpa using a
theorem Lc{r:L8}(h:¬ nameLen r=0):∃ c r',r=c::r'/\QL c.toNat=true:=by
 cases r with
 |nil=>exact absurd rfl h
 |cons c r'=>
  refine⟨c,r',rfl,?_⟩;rw[nameLen]at h
  cases hc:QL c.toNat with
  |true=>rfl
  |false=>rw[hc]at h;exact absurd rfl h
theorem Sn(r:L8)(p:Nat)(x:PS)(h:Q1 r p=.ok x):WdQ x.1:=by
 cases r with
 |nil=>unfold Q1 at h;dsimp only at h;cases h;exact Qd ⟨rfl,rfl,rfl,rfl⟩
 |cons c r=>
  unfold Q1 at h;dsimp only at h
  split at h
  ·rename_i hl;cases h;refine Qc (Qd ⟨rfl,?_,rfl,rfl⟩)
   have e:∃ m,nameLen (c::r)=m+1:=by
    refine⟨nameLen (c::r) - 1,?_⟩;have:1<=nameLen (c::r):=by simp only[nameLen];rw[if_pos hl];omega
    omega
   obtain⟨m,b⟩:=e;refine⟨XK c,zL (r.take m),?_,CF c hl⟩;show zL ((c::r).take (nameLen (c::r)))=_
   rw[b];rfl
  ·split at h
   ·rename_i h58
    split at h
    ·cases h
    ·rename_i e;cases h;refine Qc (Qc (Qd ⟨rfl,?_,rfl,rfl⟩));obtain⟨d,a,rfl,j⟩:=Lc e;obtain⟨m,b⟩:∃ m,nameLen (d::a)=m+1:=⟨nameLen (d::a) - 1,by omega⟩;refine⟨XK d,zL (a.take m),?_,CF d j⟩;show zL ((c::d::a).take (1+nameLen (d::a)))=_
     rw[b,show 1+(m+1)=m+1+1 by omega];have i:c=58:=UInt8.toNat_inj.1 h58;subst i;rfl
   ·split at h
    ·obtain⟨f,g,he⟩:∃ f g:Nat,sNL (c::r) p=if Q0 ((c::r).getD f 0)then .error ⟨2,p⟩else if 2147483647<g then .error ⟨3,p⟩else .ok (⟨4,p,[],[],g⟩,p+f):=⟨_,_,rfl⟩
     rw[he]at h
     split at h
     ·cases h
     ·split at h
      ·cases h
      ·cases h;exact Qc (Qc (Qc (Qc (Qd ⟨rfl,rfl,rfl⟩))))
    ·split at h
     ·unfold quoteR at h
      cases hq:qL r with
      |none=>rw[hq]at h;cases h
      |some y=>
       rw[hq]at h;cases h;exact Qc (Qc (Qc (Qc (Qc ⟨rfl,rfl,rfl⟩))))
     ·split at h
      ·rename_i hs;cases h;refine Qc (Qc (Qc (Qd ⟨rfl,⟨c,?_,hs⟩,rfl,rfl⟩)));have:XK c=c:=by rcases sign_cases hs with rfl|rfl|rfl|rfl|rfl|rfl|rfl|rfl<;>rfl
       show [XK c]=[c]
       rw[this]
      ·cases h
theorem OB(r:L8)(p:Nat)(x:PS)(h:Q1 r p=.ok x):x.1.spelt.length<=r.length:=by
 have a:∀(k n:Nat) (q:L8),(XM k q p n).1.spelt.length<=q.length:=fun k n q=>by
  show(zL (q.take n)).length<=_
  unfold zL;rw[List.length_map,List.length_take];omega
 cases r with
 |nil=>unfold Q1 at h;dsimp only at h;cases h;simp
 |cons c r=>
  unfold Q1 at h;dsimp only at h
  split at h
  ·cases h;exact a _ _ _
  ·split at h
   ·split at h
    ·cases h
    ·cases h;exact a _ _ _
   ·split at h
    ·obtain⟨b,d,he⟩:∃ b d:Nat,sNL (c::r) p=if Q0 ((c::r).getD b 0)then .error ⟨2,p⟩else if 2147483647<d then .error ⟨3,p⟩else .ok (⟨4,p,[],[],d⟩,p+b):=⟨_,_,rfl⟩
     rw[he]at h
     split at h
     ·cases h
     ·split at h
      ·cases h
      ·cases h;simp
    ·split at h
     ·unfold quoteR at h
      cases hq:qL r with
      |none=>rw[hq]at h;cases h
      |some y=>rw[hq]at h;cases h;simp
     ·split at h
      ·cases h;exact a _ _ _
      ·cases h
theorem Oy(h:nL l p=.ok s):s.1.spelt.length<=l.length:=by
 unfold nL at h
 cases hs:Q7 (l.length+1) (l.drop p) p with
 |error f=>rw[hs]at h;cases h
 |ok n=>
  rw[hs]at h;have:=OB _ n s h;rw[List.length_drop]at this;omega
theorem Sw(h:nL l p=.ok s):WdQ s.1:=by
 unfold nL at h
 cases hs:Q7 (l.length+1) (l.drop p) p with
 |error f=>rw[hs]at h;cases h
 |ok n=>rw[hs]at h;exact Sn _ n s h
section
variable {x:Wd} (h:WdQ x)
include h
theorem YS(f:XS c=true):kQ x=c.toNat↔x.spelt=[c]:=by
 have a:=sign_cases f;rcases h with⟨k,s,_⟩ | ⟨k,⟨d,r,s,b⟩,_⟩ | ⟨k,⟨d,r,s,b⟩,_⟩ | ⟨k,⟨d,s,b⟩,_⟩ | ⟨k,s,_⟩ | ⟨k,s,_⟩
 all_goals (unfold kQ;rw[k,s];simp)
 ·rcases a with rfl|rfl|rfl|rfl|rfl|rfl|rfl|rfl<;>decide
 ·constructor
  ·intro e;rcases a with rfl|rfl|rfl|rfl|rfl|rfl|rfl|rfl<;>exact absurd e (by decide)
  ·rintro⟨rfl,_⟩;rcases a with rfl|rfl|rfl|rfl|rfl|rfl|rfl|rfl<;>exact absurd b (by decide)
 ·rcases a with rfl|rfl|rfl|rfl|rfl|rfl|rfl|rfl<;>decide
 ·exact UInt8.toNat_inj
 ·rcases a with rfl|rfl|rfl|rfl|rfl|rfl|rfl|rfl<;>decide
 ·rcases a with rfl|rfl|rfl|rfl|rfl|rfl|rfl|rfl<;>decide
theorem Kv:kQ x=119↔x.kind=1:=by
 rcases h with⟨k,s,_⟩ | ⟨k,⟨d,r,s,a⟩,_⟩ | ⟨k,⟨d,r,s,a⟩,_⟩ | ⟨k,⟨d,s,a⟩,_⟩ | ⟨k,s,_⟩ | ⟨k,s,_⟩
 all_goals (unfold kQ;rw[k];simp)
 rw[s];rcases sign_cases a with rfl|rfl|rfl|rfl|rfl|rfl|rfl|rfl<;>decide
theorem Ua:kQ x=58↔x.kind=2:=by
 rcases h with⟨k,s,_⟩ | ⟨k,⟨d,r,s,a⟩,_⟩ | ⟨k,⟨d,r,s,a⟩,_⟩ | ⟨k,⟨d,s,a⟩,_⟩ | ⟨k,s,_⟩ | ⟨k,s,_⟩
 all_goals (unfold kQ;rw[k];simp)
 rw[s];rcases sign_cases a with rfl|rfl|rfl|rfl|rfl|rfl|rfl|rfl<;>decide
theorem EW:kQ x=34↔x.kind=5:=by
 rcases h with⟨k,s,_⟩ | ⟨k,⟨d,r,s,a⟩,_⟩ | ⟨k,⟨d,r,s,a⟩,_⟩ | ⟨k,⟨d,s,a⟩,_⟩ | ⟨k,s,_⟩ | ⟨k,s,_⟩
 all_goals (unfold kQ;rw[k];simp)
 rw[s];rcases sign_cases a with rfl|rfl|rfl|rfl|rfl|rfl|rfl|rfl<;>decide
theorem E3:kQ x=48↔x.kind=4:=by
 rcases h with⟨k,s,_⟩ | ⟨k,⟨d,r,s,a⟩,_⟩ | ⟨k,⟨d,r,s,a⟩,_⟩ | ⟨k,⟨d,s,a⟩,_⟩ | ⟨k,s,_⟩ | ⟨k,s,_⟩
 all_goals (unfold kQ;rw[k];simp)
 rw[s];rcases sign_cases a with rfl|rfl|rfl|rfl|rfl|rfl|rfl|rfl<;>decide
theorem Vi:kQ x=0↔x.kind=0:=by
 rcases h with⟨k,s,_⟩ | ⟨k,⟨d,r,s,a⟩,_⟩ | ⟨k,⟨d,r,s,a⟩,_⟩ | ⟨k,⟨d,s,a⟩,_⟩ | ⟨k,s,_⟩ | ⟨k,s,_⟩
 all_goals (unfold kQ;rw[k];simp)
 rw[s];rcases sign_cases a with rfl|rfl|rfl|rfl|rfl|rfl|rfl|rfl<;>decide
theorem VM(e:∃ c r,z=c::r/\QL c.toNat=true):x.spelt=z↔(x.kind=1/\sQ x=z):=by
 obtain⟨c,r,rfl,b⟩:=e;rcases h with⟨k,s,_⟩ | ⟨k,⟨d,r,s,a⟩,_⟩ | ⟨k,⟨d,r,s,a⟩,_⟩ | ⟨k,⟨d,s,a⟩,_⟩ | ⟨k,s,_⟩ | ⟨k,s,_⟩
 all_goals (unfold sQ;rw[k,s];simp)
 ·rintro rfl;exact absurd b (by decide)
 ·rintro rfl;rcases sign_cases a with rfl|rfl|rfl|rfl|rfl|rfl|rfl|rfl<;>exact absurd b (by decide)
theorem OZ(b:z≠[]):x.spelt=58::z↔(x.kind=2/\sQ x=z):=by
 rcases h with⟨k,s,_⟩ | ⟨k,⟨d,r,s,a⟩,_⟩ | ⟨k,⟨d,r,s,a⟩,_⟩ | ⟨k,⟨d,s,a⟩,_⟩ | ⟨k,s,_⟩ | ⟨k,s,_⟩
 all_goals (unfold sQ;rw[k,s];simp)
 ·rintro rfl;exact absurd a (by decide)
 ·rintro rfl;exact absurd a (by decide)
end
theorem Ws{x:Wd}(a:x.spelt.length<=n)(b:x.said.length<=n):(sQ x).length<=n:=by
 unfold sQ;split
 ·exact a
 ·split
  ·rw[List.length_drop];omega
  ·split
   ·exact b
   ·simp
def UP(l:L8)(chk:L8->Nat)(f:Nat)(acc:Qa)(s:PS):Qb (Qa×PS):=Qo (sL l chk s) fun x s1=>moreL l chk f (acc++[x]) s1
theorem JZ(z x:L8):wL [z] x=if z=x then 1 else 0:=by
 unfold wL;by_cases h:z=x
 ·rw[if_pos h,if_pos h]
 ·rw[if_neg h,if_neg h];rfl
section
variable {l:L8} {chk:L8->Nat} {F:Nat} {s:PS} (hw:WdQ s.1)
include hw
theorem B6(a:¬ kQ s.1=91):sLs l chk F s=Qo (sL l chk s) fun x s1=>.ok ([x],s1):=by
 have h:¬ s.1.spelt=[91]:=fun e=>a ((YS hw (c:=91) (by decide)).2 e)
 have e:mayL l [[91]] s=.ok (0,s):=by
  have b:wL [[91]] s.1.spelt=0:=by rw[JZ,if_neg (fun e=>h e.symm)]
  unfold mayL;rw[if_pos b]
 unfold sLs;rw[e];dsimp only
 cases sL l chk s with
 |error f=>rfl
 |ok z=>rfl
theorem IY(a:kQ s.1=91):sLs l chk F s=match nL l s.2 with | .ok s1=>UP l chk F [] s1 | .error f=>.error f:=by
 have h:s.1.spelt=[91]:=(YS hw (c:=91) (by decide)).1 a
 have e:mayL l [[91]] s=match nL l s.2 with | .ok s'=>.ok (1,s') | .error f=>.error f:=by
  have b:wL [[91]] s.1.spelt=1:=by rw[JZ,if_pos h.symm]
  unfold mayL;rw[b,if_neg (by decide)];cases nL l s.2<;>rfl
 unfold sLs;rw[e]
 cases nL l s.2 with
 |error f=>rfl
 |ok s1=>
  dsimp only;unfold UP
  cases sL l chk s1 with
  |error f=>rfl
  |ok z=>rfl
theorem Ot(a:kQ s.1=44):moreL l chk (F+1) acc s=match nL l s.2 with | .ok s1=>UP l chk F acc s1 | .error f=>.error f:=by
 have h:s.1.spelt=[44]:=(YS hw (c:=44) (by decide)).1 a
 have e:paL l [[44],[93]] s=match nL l s.2 with | .ok s'=>.ok (1,s') | .error f=>.error f:=by
  unfold paL;have b:wL [[44],[93]] s.1.spelt=1:=by rw[h];rfl
  rw[b,if_neg (by decide)];cases nL l s.2<;>rfl
 rw[moreL,e]
 cases nL l s.2 with
 |error f=>rfl
 |ok s1=>
  dsimp only;unfold UP;rw[if_pos rfl]
  cases sL l chk s1 with
  |error f=>rfl
  |ok z=>rfl
theorem OD(a:kQ s.1=93):moreL l chk (F+1) acc s=match nL l s.2 with | .ok s1=>.ok (acc,s1) | .error f=>.error f:=by
 have h:s.1.spelt=[93]:=(YS hw (c:=93) (by decide)).1 a
 have e:paL l [[44],[93]] s=match nL l s.2 with | .ok s'=>.ok (2,s') | .error f=>.error f:=by
  unfold paL;have b:wL [[44],[93]] s.1.spelt=2:=by rw[h];rfl
  rw[b,if_neg (by decide)];cases nL l s.2<;>rfl
 rw[moreL,e]
 cases nL l s.2 with
 |error f=>rfl
 |ok s1=>
  dsimp only;rw[if_neg (by decide)]
theorem RS(a:¬ kQ s.1=44)(b:¬ kQ s.1=93):moreL l chk (F+1) acc s=.error ⟨4,s.1.pos⟩:=by
 have g:¬ s.1.spelt=[44]:=fun e=>a ((YS hw (c:=44) (by decide)).2 e)
 have i:¬ s.1.spelt=[93]:=fun e=>b ((YS hw (c:=93) (by decide)).2 e)
 have e:paL l [[44],[93]] s=.error ⟨4,s.1.pos⟩:=by
  unfold paL
  have d:wL [[44],[93]] s.1.spelt=0:=by
   have f:wL [[93]] s.1.spelt=0:=by rw[JZ,if_neg (fun e=>i e.symm)]
   unfold wL;rw[if_neg (fun e=>g e.symm),if_pos f]
  rw[d,if_pos rfl]
 rw[moreL,e]
end
end
abbrev CR:=Except FZ (SS×Bool)
def Y1(r:CR):List (Int×L8)×Option FZ:=
 match r with
 | .error e=>([(1,[])],some e)
 | .ok (s,_)=>(YX s,none)
end Go.Proofs.YtgnkjijocdmniaaGreatDoor
