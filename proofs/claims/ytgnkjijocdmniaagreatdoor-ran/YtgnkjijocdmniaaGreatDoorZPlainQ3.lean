import Derived.Lib.Index
import Derived.Lib.SlicesS
import Derived.Lib.ItoaLen
import Derived.Lib.Join
namespace Go.Proofs.YtgnkjijocdmniaaGreatDoor
set_option linter.all false
set_option maxRecDepth 100000
set_option maxHeartbeats 4000000
abbrev L8:=List UInt8
theorem I{p:Prop}(h:p:=by omega):p:=h
theorem Qb{p:Prop}(h:p:=by decide):p:=h
theorem Qh{p:Prop}(h:p:=by simp):p:=h
theorem Q8{c:Prop}[Decidable c]{α:Type}{a b:α}(h:¬c:=by omega):ite c a b=b:=if_neg h
theorem Xy{c:Prop}[Decidable c]{α:Type}{a b:α}(h:c:=by omega):ite c a b=a:=if_pos h
variable{α β:Type}{F c' n p pos:Nat}{a:List α}{b:Prop}{c:UInt8}{chk:L8->Nat}{l x z:L8}
theorem ZA{p q:Prop}[Decidable p](h:decide p=false:=by decide):p->q:=fun x=>absurd x (of_decide_eq_false h)
theorem Yq{a b c:Nat}(h:a<b)(g:b<=c):a<c:=Nat.lt_of_lt_of_le h g
abbrev Qn:=List L8
variable{acc zs:Qn}
theorem Q3(a:α):∃b,b=a:=⟨a,rfl⟩
theorem Qw(a:α):∃b,a=b:=⟨a,rfl⟩
theorem Q4:type_of%@Nat.le_refl:=@Nat.le_refl
theorem QF:n<=n:=Q4 n
theorem Qz{b:List α}:(a++b).length=a.length+b.length:=List.length_append
theorem Q1{a:α}{l:List α}:(a::l).length=l.length+1:=List.length_cons
theorem Zl:([]:List α).length=0:=rfl
theorem ZV{a b:α}(h:a∈[b]):a=b:=List.mem_singleton.1 h
theorem ZE{l:List α}{i:Nat}(h:l.length<=i):l.drop i=[]:=List.drop_of_length_le h
theorem XV{l:List α}(h:l.length=0):l=[]:=List.eq_nil_of_length_eq_zero h
theorem Xb{a b:Bool}:a=b↔(a=true↔b=true):=Bool.eq_iff_iff
theorem QE{a b c:Nat}(h:a<=b)(g:b<=c):a<=c:=Nat.le_trans h g
theorem QB{p:Prop}[Decidable p](h:¬p):decide p=false:=decide_eq_false h
theorem QU{p:Prop}[Decidable p](h:p):decide p=true:=decide_eq_true h
theorem Qr{a:Prop}(h:b):a\/b:=Or.inr h
theorem Qt{a:Prop}(h:a):a\/b:=Or.inl h
theorem QR:0<=n:=Nat.zero_le n
def Q7(c:Int):Bool:=decide (48<=c)&&decide (c<=57)
def ZZ(c:Int):Bool:=c==32 || c==9 || c==10 || c==13
def Jb(c:Int):Bool:=decide (65<=c)&&decide (c<=90)
def Ku(c:Int):Bool:=decide (97<=c)&&decide (c<=122)
def Za(c:Int):Bool:=(decide (97<=c)&&decide (c<=122)) || Jb c || c==95
theorem Qvl{c:Int}:Za c=(Ku c || Jb c || c==95):=rfl
def Zr(c:UInt8):Bool:=Za c.toNat || Q7 c.toNat
def ZF(l:L8):Nat:=(l.takeWhile Zr).length
def nameLen:L8->Nat
 | []=>0
 |c::r=>if Za c.toNat then 1+ZF r else 0
def isNameL(l:L8):Bool:=!l.isEmpty&&nameLen l==l.length
def YX(c:UInt8):UInt8:=if Jb c.toNat then c-65+97 else c
def zL(l:L8):L8:=l.map YX
theorem Am{r:L8}:ZF (c::r)=if Zr c then 1+ZF r else 0:=by
 unfold ZF;rw[List.takeWhile_cons];split
 .rw[Q1];omega
 .rfl
theorem Wi(l:L8):ZF l<=l.length:=by
 induction l with
 |nil=>simp[ZF]
 |cons c r ih=>rw[Am];split<;>simp<;>omega
theorem GT(l:L8):nameLen l<=l.length:=by
 cases l with
 |nil=>simp[nameLen]
 |cons c r=>have:=Wi r;simp only[nameLen];split<;>simp<;>omega
structure Flt where
 err:Nat
 pos:Nat
variable{f:Flt}
abbrev Qq:=Except Flt
structure Wd where
 kind:Nat
 pos:Nat
 spelt:L8
 said:L8
 num:Nat
def lineLen(l:L8):Nat:=if Lib.indexByte l 10<0 then l.length else(Lib.indexByte l 10).toNat+1
theorem CX(l:L8)(c:UInt8):Lib.indexByte l c<l.length:=by
 induction l with
 |nil=>simp[Lib.indexByte]
 |cons b l ih=>
  unfold Lib.indexByte;rw[Q1];split
  .omega
  .split<;>omega
theorem N_:type_of%@List.isPrefixOf_iff_prefix:=@List.isPrefixOf_iff_prefix
theorem IJ(l sub:L8):Lib.index l sub<0\/Lib.index l sub+sub.length<=l.length:=by
 induction l with
 |nil=>
  unfold Lib.index
  cases sub with
  |nil=>right;decide
  |cons a t=>left;simp
 |cons b l ih=>
  unfold Lib.index;split
  .rename_i h;right;have:=(N_.1 h).length_le;simp at this ⊢;omega
  .split
   .left;decide
   .have:=Lib.index_ge l sub;rename_i h1 h2;have c:¬Lib.index l sub = -1:=by simpa using h2
    simp;omega
theorem IB(l:L8):lineLen l<=l.length:=by
 have:=CX l 10;unfold lineLen;split<;>omega
theorem C6(c:UInt8)(l:L8):1<=lineLen (c::l):=by
 unfold lineLen;split
 .simp
 .omega
def Zw:Nat->L8->Nat->Qq Nat
 |0,_,p=>.ok p
 |_+1,[],p=>.ok p
 |f+1,c::r,p=>
  if ZZ c.toNat then Zw f r (p+1)
  else if c.toNat=35 then Zw f ((c::r).drop (lineLen (c::r))) (p+lineLen (c::r))
  else if Lib.hasPrefix (c::r) [47,42]then
   if Lib.index (r.drop 1) [42,47]<0 then .error ⟨2,p⟩
   else Zw f ((c::r).drop (4+(Lib.index (r.drop 1) [42,47]).toNat)) (p+(4+(Lib.index (r.drop 1) [42,47]).toNat))
  else .ok p
def Yl(k:Nat)(rest:L8)(p n:Nat):Wd×Nat:=(⟨k,p,zL (rest.take n),[],0⟩,p+n)
def ZP(l:L8):Nat:=(l.takeWhile fun c=>Q7 c.toNat).length
def JA(v:Nat)(c:UInt8):Nat:=min (v*10+(c.toNat-48)) 2147483648
def Kb(l:L8):Nat:=(l.takeWhile fun c=>Q7 c.toNat).foldl JA 0
def isM(c:UInt8):Bool:=c.toNat==77 || c.toNat==109
def isK(c:UInt8):Bool:=c.toNat==75 || c.toNat==107
def sNL(rest:L8)(p:Nat):Qq (Wd×Nat):=
 let n:=ZP rest
 let v:=Kb rest
 let c:=rest.getD n 0
 let v':=if isM c then v*1048576 else if isK c then v*1024 else v
 let n':=if isM c || isK c then n+1 else n
 if Zr (rest.getD n' 0)then .error ⟨2,p⟩
 else if 2147483647<v' then .error ⟨3,p⟩
 else .ok (⟨4,p,[],[],v'⟩,p+n')
def qL:L8->Option (L8×Nat)
 | []=>none
 |c::r=>
  if c.toNat=34 then some ([],1)
  else if c.toNat=92 then
   match r with
   | []=>none
   |d::r'=>(qL r').map fun x=>(d::x.1,x.2+2)
  else(qL r).map fun x=>(c::x.1,x.2+1)
def quoteR(r:L8)(p:Nat):Qq (Wd×Nat):=
 match qL r with
 |none=>.error ⟨2,p⟩
 |some x=>.ok (⟨5,p,[],x.1,0⟩,p+(1+x.2))
def Y'(c:UInt8):Bool:=decide (0<=Lib.indexByte [59,44,40,41,123,125,91,93] c)
def Zm(rest:L8)(p:Nat):Qq (Wd×Nat):=
 match rest with
 | []=>.ok (⟨0,p,[],[],0⟩,p)
 |c::r=>
  if Za c.toNat then .ok (Yl 1 (c::r) p (nameLen (c::r)))
  else if c.toNat=58 then
   if nameLen r=0 then .error ⟨2,p⟩else .ok (Yl 2 (c::r) p (1+nameLen r))
  else if Q7 c.toNat then sNL (c::r) p
  else if c.toNat=34 then quoteR r p
  else if Y' c then .ok (Yl 3 (c::r) p 1)
  else .error ⟨2,p⟩
def nL(l:L8)(p:Nat):Qq (Wd×Nat):=
 match Zw (l.length+1) (l.drop p) p with
 | .error f=>.error f
 | .ok n=>Zm (l.drop n) n
theorem Xq:type_of%@List.length_drop:=@List.length_drop
theorem XN:type_of%@List.drop_drop:=@List.drop_drop
theorem Xt:type_of%@List.drop_eq_getElem_cons:=@List.drop_eq_getElem_cons
theorem Vy(l:L8):∀(f p n:Nat),p<=l.length->Zw f (l.drop p) p=.ok n->p<=n/\n<=l.length
 |0,p,n,hp,h=>by
  simp only[Zw]at h;cases h;exact⟨Q4 _,hp⟩
 |f+1,p,n,hp,h=>by
  by_cases hlt:p<l.length
  .rw[Xt hlt]at h;simp only[Zw]at h
   split at h
   .have:=Vy l f (p+1) n I h;omega
   .rw[<-Xt hlt]at h
    split at h
    .rw[XN]at h;have h1:=IB (l.drop p);rw[Xq]at h1;have:=Vy l f _ n I h;omega
    .split at h
     .split at h
      .cases h
      .rename_i hp2 hi;have e:List.drop 1 (List.drop (p+1) l)=List.drop (p+1+1) l:=by rw[XN]
       rw[e]at h hi;rw[XN]at h;have h1:=IJ (l.drop (p+1+1)) [42,47];rw[Xq]at h1
       have a:2<=(l.drop p).length:=by
        have:=(N_.1 hp2).length_le;simpa using this
       rw[Xq]at a
       have b:Lib.index (l.drop (p+1+1)) [42,47]+2<=(l.length-(p+1+1):Nat):=by
        rcases h1 with h1|h1
        .exact absurd h1 hi
        .simpa using h1
       have:=Vy l f _ n I h;omega
     .cases h;exact⟨Q4 _,hp⟩
  .rw[ZE I]at h;simp only[Zw]at h;cases h;exact⟨Q4 _,hp⟩
theorem BK:∀(r:L8) (x:L8×Nat),qL r=some x->1<=x.2/\x.2<=r.length
 | [],x,h=>by cases h
 |c::r,x,h=>by
  rw[qL.eq_def]at h;dsimp only at h
  split at h
  .cases h;simp
  .split at h
   .cases r with
    |nil=>cases h
    |cons d r'=>
     dsimp only at h
     cases hq:qL r' with
     |none=>rw[hq]at h;cases h
     |some y=>
      have:=BK r' y hq;rw[hq]at h;cases h;simp;omega
   .cases hq:qL r with
    |none=>rw[hq]at h;cases h
    |some y=>
     have:=BK r y hq;rw[hq]at h;cases h;simp;omega
theorem Be:∀(r:L8) (x:L8×Nat),qL r=some x->x.1.length<x.2
 | [],x,h=>by cases h
 |c::r,x,h=>by
  rw[qL.eq_def]at h;dsimp only at h
  split at h
  .cases h;simp
  .split at h
   .cases r with
    |nil=>cases h
    |cons d r'=>
     dsimp only at h
     cases hq:qL r' with
     |none=>rw[hq]at h;cases h
     |some y=>
      have:=Be r' y hq;rw[hq]at h;cases h;simp;omega
   .cases hq:qL r with
    |none=>rw[hq]at h;cases h
    |some y=>
     have:=Be r y hq;rw[hq]at h;cases h;simp;omega
theorem QtI(l:L8):ZP l<=l.length:=by
 unfold ZP;exact(List.takeWhile_prefix _).length_le
theorem Zv:type_of%@List.getD_eq_getElem?_getD:=@List.getD_eq_getElem?_getD
theorem GI:type_of%@List.getElem?_eq_none:=@List.getElem?_eq_none
theorem ND(h:l.length<=n):l.getD n 0=0:=by
 rw[Zv,GI h];rfl
theorem Qg:type_of%@if_neg:=@if_neg
theorem Qi:type_of%@if_pos:=@if_pos
theorem GE:type_of%@Classical.byContradiction:=@Classical.byContradiction
theorem LX(o:p<=l.length)(x:Wd×Nat)(h:Zm (l.drop p) p=.ok x) :
 x.1.pos=p/\x.2<=l.length/\p<=x.2/\(x.1.kind=0->p=l.length/\x.1.spelt=[])/\(x.1.kind≠0->p<x.2):=by
 by_cases hlt:p<l.length
 .obtain⟨c,r,d,s⟩:∃c r,l.drop p=c::r/\r.length=l.length-(p+1):=⟨_,_,Xt hlt,Qh⟩;rw[d]at h;clear d;unfold Zm at h;dsimp only at h;have i:=GT (c::r);have j:=GT r;simp only[Q1]at i j
  split at h
  .rename_i hl
   have q:1<=nameLen (c::r):=by
    simp only[nameLen];rw[Qi hl];omega
   cases h;simp[Yl];omega
  .split at h
   .split at h
    .cases h
    .cases h;simp[Yl];omega
   .split at h
    .rename_i hg;have f:=QtI (c::r)
     have k:1<=ZP (c::r):=by
      simp[ZP,hg]
     simp only[Q1]at f
     obtain⟨a,b,e,he⟩:∃a b:Nat,a=(if isM ((c::r).getD (ZP (c::r)) 0) || isK ((c::r).getD (ZP (c::r)) 0)then ZP (c::r)+1 else ZP (c::r))/\
      sNL (c::r) p=if Zr ((c::r).getD a 0)then .error ⟨2,p⟩else if 2147483647<b then .error ⟨3,p⟩else .ok (⟨4,p,[],[],b⟩,p+a):=⟨_,_,rfl,rfl⟩
     rw[he]at h
     have n:a<=l.length-p/\1<=a:=by
      by_cases hm:(isM ((c::r).getD (ZP (c::r)) 0) || isK ((c::r).getD (ZP (c::r)) 0))=true
      .have g:ZP (c::r)<(c::r).length:=by
        apply GE;intro m;rw[ND I]at hm;exact absurd hm Qb
       simp only[Q1]at g;rw[e,Qi hm];omega
      .rw[e,Qg hm];omega
     split at h
     .cases h
     .split at h
      .cases h
      .cases h;simp;omega
    .split at h
     .unfold quoteR at h
      cases hq:qL r with
      |none=>rw[hq]at h;cases h
      |some y=>
       rw[hq]at h;have:=BK _ _ hq;cases h;simp;omega
     .split at h
      .cases h;simp[Yl];omega
      .cases h
 .rw[ZE I]at h;unfold Zm at h;dsimp only at h;cases h;simp;omega
theorem Hn(l:L8)(x:Wd×Nat)(h:Zm (l.drop p) p=.ok x):x.1.said.length<=l.length/\x.1.num<=2147483647:=by
 have d:(l.drop p).length<=l.length:=Qh
 generalize l.drop p=r at h d
 cases r with
 |nil=>unfold Zm at h;dsimp only at h;cases h;simp
 |cons c r=>
  unfold Zm at h;dsimp only at h
  split at h
  .cases h;simp[Yl]
  .split at h
   .split at h
    .cases h
    .cases h;simp[Yl]
   .split at h
    .obtain⟨a,b,he⟩:∃a b:Nat,sNL (c::r) p=if Zr ((c::r).getD a 0)then .error ⟨2,p⟩else if 2147483647<b then .error ⟨3,p⟩else .ok (⟨4,p,[],[],b⟩,p+a):=⟨_,_,rfl⟩
     rw[he]at h
     split at h
     .cases h
     .split at h
      .cases h
      .cases h;simp;omega
    .split at h
     .unfold quoteR at h
      cases hq:qL r with
      |none=>rw[hq]at h;cases h
      |some y=>
       rw[hq]at h;have e:=BK _ _ hq;have f:=Be _ _ hq;cases h;simp at d ⊢;omega
     .split at h
      .cases h;simp[Yl]
      .cases h
theorem Hh(x:Wd×Nat)(h:nL l p=.ok x):x.1.said.length<=l.length/\x.1.num<=2147483647:=by
 unfold nL at h
 cases hs:Zw (l.length+1) (l.drop p) p with
 |error f=>rw[hs]at h;cases h
 |ok n=>rw[hs]at h;exact Hn l x h
def N1(sp:L8):Prop:=∀c r,sp=c::r->Za c.toNat=false
theorem CY:∀(l:L8) (c:UInt8),0<=Lib.indexByte l c->c∈l
 | [],c,h=>by simp[Lib.indexByte]at h
 |b::l,c,h=>by
  unfold Lib.indexByte at h
  split at h
  .rename_i hb;have:b=c:=by simpa using hb
   subst this;simp
  .split at h
   .exact absurd h Qb
   .have a:=Lib.indexByte_ge l c;rename_i h2;have d:¬Lib.indexByte l c = -1:=by simpa using h2
    have:=CY l c I;simp[this]
theorem K5:type_of%@of_decide_eq_true:=@of_decide_eq_true
theorem Sh(h:Y' c=true):Za (YX c).toNat=false:=by
 have a:=CY _ _ (K5 h);simp at a;rcases a with h|h|h|h|h|h|h|h<;>subst h<;>decide
theorem Xi:type_of%@UInt8.toNat_inj:=@UInt8.toNat_inj
theorem SD(l:L8){x:Wd×Nat}(h:Zm (l.drop p) p=.ok x)(f:¬x.1.kind=1):N1 x.1.spelt:=by
 generalize l.drop p=r at h
 cases r with
 |nil=>unfold Zm at h;dsimp only at h;cases h;intro c r e;cases e
 |cons c r=>
  unfold Zm at h;dsimp only at h
  split at h
  .cases h;exact absurd rfl f
  .split at h
   .rename_i h58
    split at h
    .cases h
    .cases h;intro d g e;rw[show 1+nameLen r=nameLen r+1 from I]at e;simp[Yl,zL,List.take_succ_cons]at e;obtain⟨e,-⟩:=e;subst e;have:c=58:=Xi.1 h58;subst this;decide
   .split at h
    .obtain⟨a,b,he⟩:∃a b:Nat,sNL (c::r) p=if Zr ((c::r).getD a 0)then .error ⟨2,p⟩else if 2147483647<b then .error ⟨3,p⟩else .ok (⟨4,p,[],[],b⟩,p+a):=⟨_,_,rfl⟩
     rw[he]at h
     split at h
     .cases h
     .split at h
      .cases h
      .cases h;intro c r e;cases e
    .split at h
     .unfold quoteR at h
      cases hq:qL r with
      |none=>rw[hq]at h;cases h
      |some y=>rw[hq]at h;cases h;intro c r e;cases e
     .split at h
      .rename_i hs;cases h;intro d g e;simp[Yl,zL]at e;obtain⟨e,-⟩:=e;subst e;exact Sh hs
      .cases h
theorem TN(l:L8)(p:Nat)(x:Wd×Nat)(h:nL l p=.ok x)(a:¬x.1.kind=1):N1 x.1.spelt:=by
 unfold nL at h
 cases hs:Zw (l.length+1) (l.drop p) p with
 |error f=>rw[hs]at h;cases h
 |ok n=>rw[hs]at h;exact SD l h a
theorem GX(d:p<=l.length)(x:Wd×Nat)(h:nL l p=.ok x) :
 x.1.pos<=l.length/\x.2<=l.length/\p<=x.2/\(x.1.kind=0->x.1.spelt=[])/\(x.1.kind≠0->p<x.2):=by
 unfold nL at h
 cases hs:Zw (l.length+1) (l.drop p) p with
 |error f=>rw[hs]at h;cases h
 |ok n=>
  rw[hs]at h;have c:=Vy l _ p n d hs;have a:=LX c.2 x h;refine⟨I,a.2.1,I,fun b=>(a.2.2.2.1 b).2,fun b=>by have:=a.2.2.2.2 b;omega⟩
def wL:Qn->L8->Nat
 | [],_=>0
 |s::r,x=>if s=x then 1 else if wL r x=0 then 0 else wL r x+1
def sA(x:L8):ByteArray:=⟨x.toArray⟩
theorem ZI:type_of%@congrArg:=@congrArg
theorem NM{y:L8}(h:sA x=sA y):x=y:=by
 have:=ZI (fun b:ByteArray=>b.data.toList) h;simpa[sA]using this
theorem XZ:type_of%@List.map_cons:=@List.map_cons
theorem Fq(x:L8):∀(zs:Qn) (i:Nat),Lib.idxFromS (zs.map sA) (sA x) i=if wL zs x=0 then -1 else(i:Int)+wL zs x-1
 | [],i=>rfl
 |s::r,i=>by
  rw[XZ];unfold wL Lib.idxFromS;by_cases h:s=x
  .subst h;simp
  .have a:¬sA s=sA x:=fun e=>h (NM e)
   rw[Qg h,Qg a,Fq x r (i+1)];by_cases h0:wL r x=0
   .simp[h0]
   .simp[h0];omega
theorem Lv(zs:Qn)(x:L8):Lib.idxOfS (zs.map sA) (sA x)+1=wL zs x:=by
 unfold Lib.idxOfS;rw[Fq];split<;>omega
theorem Fs:Lib.containsS (zs.map sA) (sA x)=decide (0<wL zs x):=by
 unfold Lib.containsS;have:=Lv zs x;by_cases h:0<wL zs x
 .simp[h];omega
 .simp[h];omega
theorem KK(zs:Qn)(x:L8):wL zs x<=zs.length:=by
 induction zs with
 |nil=>simp[wL]
 |cons s r ih=>
  unfold wL;split
  .simp
  .split<;>simp<;>omega
abbrev PS:=Wd×Nat
variable{k:α->PS->Qq (β×PS)}{r:Qq (α×PS)}{s:PS}{sub:PS->Qq (α×PS)}{tst:PS->Qq (β×PS)}{y:Nat×PS}
def mayL(l:L8)(zs:Qn)(s:PS):Qq (Nat×PS):=
 if wL zs s.1.spelt=0 then .ok (0,s)else
 match nL l s.2 with
 | .error f=>.error f
 | .ok s'=>.ok (wL zs s.1.spelt,s')
def paL(l:L8)(zs:Qn)(s:PS):Qq (Nat×PS):=
 if wL zs s.1.spelt=0 then .error ⟨4,s.1.pos⟩else
 match nL l s.2 with
 | .error f=>.error f
 | .ok s'=>.ok (wL zs s.1.spelt,s')
def sL(l:L8)(chk:L8->Nat)(s:PS):Qq (L8×PS):=
 if s.1.kind=5 then
  if chk s.1.said=0 then
   match nL l s.2 with
   | .error f=>.error f
   | .ok s'=>.ok (s.1.said,s')
  else .error ⟨chk s.1.said,s.1.pos⟩
 else .error ⟨4,s.1.pos⟩
def mu(n:Nat)(s:PS):Nat:=2*(n-s.2)+(if s.1.kind=0 then 0 else 1)
theorem J'{y:PS}(c:s.2<=l.length)(b:¬s.1.kind=0)(h:nL l s.2=.ok y):mu l.length y<mu l.length s:=by
 obtain⟨d,e,f,g,a⟩:=GX c y h;unfold mu;rw[Qg b];by_cases h0:y.1.kind=0
 .rw[Qi h0];omega
 .have:=a h0;rw[Qg h0];omega
theorem Aq(h:∀z∈zs,z≠[]):wL zs []=0:=by
 induction zs with
 |nil=>rfl
 |cons a r ih=>
  unfold wL;rw[Qg (h a Qh),Qi (ih fun z b=>h z (by simp[b]))]
theorem B7(b:s.2<=l.length)(he:s.1.kind=0->s.1.spelt=[])(c:∀z∈zs,z≠[])(h:paL l zs s=.ok y):mu l.length y.2<mu l.length s/\y.1=wL zs s.1.spelt/\¬y.1=0:=by
 unfold paL at h
 split at h
 .cases h
 .rename_i h0;have a:¬s.1.kind=0:=fun e=>h0 (by rw[he e];exact Aq c)
  cases hn:nL l s.2 with
  |error f=>rw[hn]at h;cases h
  |ok s'=>rw[hn]at h;cases h;exact⟨J' b a hn,rfl,h0⟩
theorem Xj:type_of%@Nat.le_of_lt:=@Nat.le_of_lt
theorem AN(b:s.2<=l.length)(he:s.1.kind=0->s.1.spelt=[])(c:∀z∈zs,z≠[])(h:mayL l zs s=.ok y):mu l.length y.2<=mu l.length s/\(¬y.1=0->mu l.length y.2<mu l.length s)/\y.1=wL zs s.1.spelt/\(y.1=0->y.2=s):=by
 unfold mayL at h
 split at h
 .rename_i h0;cases h;exact⟨Q4 _,fun h=>absurd rfl h,h0.symm,fun _=>rfl⟩
 .rename_i h0;have a:¬s.1.kind=0:=fun e=>h0 (by rw[he e];exact Aq c)
  cases hn:nL l s.2 with
  |error f=>rw[hn]at h;cases h
  |ok s'=>
   rw[hn]at h;cases h;exact⟨Xj (J' b a hn),fun _=>J' b a hn,rfl,fun e=>absurd e h0⟩
theorem GS{y:L8×PS}(a:s.2<=l.length)(h:sL l chk s=.ok y):mu l.length y.2<mu l.length s/\y.1=s.1.said:=by
 unfold sL at h
 split at h
 .rename_i hk
  split at h
  .cases hn:nL l s.2 with
   |error f=>rw[hn]at h;cases h
   |ok s'=>rw[hn]at h;cases h;exact⟨J' a I hn,rfl⟩
  .cases h
 .cases h
def moreL(l:L8)(chk:L8->Nat):Nat->Qn->PS->Qq (Qn×PS)
 |0,acc,s=>.ok (acc,s)
 |f+1,acc,s=>
  match paL l [[44],[93]] s with
  | .error e=>.error e
  | .ok y=>
   if y.1=1 then
    match sL l chk y.2 with
    | .error e=>.error e
    | .ok z=>moreL l chk f (acc++[z.1]) z.2
   else .ok (acc,y.2)
def sLs(l:L8)(chk:L8->Nat)(fuel:Nat)(s:PS):Qq (Qn×PS):=
 match mayL l [[91]] s with
 | .error e=>.error e
 | .ok y=>
  match sL l chk y.2 with
  | .error e=>.error e
  | .ok z=>if y.1=0 then .ok ([z.1],z.2)else moreL l chk fuel [z.1] z.2
def Ul:L8:=[107,101,101,112]
def K_:L8:=[100,105,115,99,97,114,100]
def Uk:L8:=[115,116,111,112]
def ZN:L8:=[102,105,108,101,105,110,116,111]
def Jt:L8:=[114,101,100,105,114,101,99,116]
def ZM:L8:=[114,101,106,101,99,116]
def Xw:L8:=[115,101,116]
def kIf:L8:=[105,102]
def Uj:L8:=[116,114,117,101]
def Ud:L8:=[102,97,108,115,101]
def kNot:L8:=[110,111,116]
def JV:L8:=[97,108,108,111,102]
def JU:L8:=[97,110,121,111,102]
def Y_:L8:=[104,101,97,100,101,114]
def Zb:L8:=[101,110,118,101,108,111,112,101]
def Xc:L8:=[115,116,114,105,110,103]
def YL:L8:=[101,120,105,115,116,115]
def JK:L8:=[115,105,122,101]
def YB:L8:=[101,108,115,105,102]
def Yv:L8:=[101,108,115,101]
def Kn:L8:=[114,101,113,117,105,114,101]
def Z8:L8:=[118,97,114,105,97,98,108,101,115]
def JL:L8:=[102,114,111,109]
def kTo:L8:=[116,111]
def Yn:L8:=[58,108,111,119,101,114]
def Ym:L8:=[58,117,112,112,101,114]
def Yj:L8:=[58,108,101,110,103,116,104]
def tIs:L8:=[58,105,115]
def ZW:L8:=[58,99,111,110,116,97,105,110,115]
def ZX:L8:=[58,109,97,116,99,104,101,115]
def JI:L8:=[58,111,118,101,114]
def JE:L8:=[58,117,110,100,101,114]
def Yb:L8:=[58,99,111,109,112,97,114,97,116,111,114]
def XR:L8:=[105,59,111,99,116,101,116]
def Ko:L8:=[105,59,97,115,99,105,105,45,99,97,115,101,109,97,112]
def cNs:Qn:=[Ul,K_,Uk,ZN,Jt,ZM,Xw,kIf]
def tNs:Qn:=[Uj,Ud,kNot,JV,JU,Y_,Zb,Xc,YL,JK]
structure Zk where
 kind:Nat
 pos:Nat
 tag:Nat
 octet:Bool
 fr:Qn
 keys:Qn
 num:Nat
def Zn:Nat->Type
 |0=>Unit
 |n+1=>Zk×List (Zn n)
structure Xa where
 kind:Nat
 pos:Nat
 tag:Nat
 arg:L8
 var:L8
 els:Bool
def Q5:Nat->Type
 |0=>Unit
 |n+1=>Xa×List (Zn n×List (Q5 n))×List (Q5 n)
def Z4(req:Qn)(sp:L8):Bool:=
 if sp=ZN\/sp=ZM\/sp=Zb then decide (0<wL req sp)
 else if sp=Xw\/sp=Xc then decide (0<wL req Z8)
 else true
def QL{α β:Type}(r:Qq (α×PS))(k:α->PS->Qq (β×PS)):Qq (β×PS):=
 match r with
 | .error f=>.error f
 | .ok y=>k y.1 y.2
def nextThen{β:Type}(l:L8)(s:PS)(k:PS->Qq (β×PS)):Qq (β×PS):=
 match nL l s.2 with
 | .error f=>.error f
 | .ok y=>k y
theorem QC(h:r=.error f):QL r k=.error f:=by subst h;rfl
theorem Qx{y:α×PS}(h:r=.ok y):QL r k=k y.1 y.2:=by subst h;rfl
theorem Jv{k:PS->Qq (β×PS)}(h:nL l s.2=.error f):nextThen l s k=.error f:=by unfold nextThen;rw[h]
theorem YV{y:PS}{k:PS->Qq (β×PS)}(h:nL l s.2=.ok y):nextThen l s k=k y:=by unfold nextThen;rw[h]
def ZH(l:L8):Nat->Nat->Bool->Bool->PS->Qq ((Nat×Bool)×PS)
 |0,tag,oct,_,s=>.ok ((tag,oct),s)
 |f+1,tag,oct,cmp,s=>
  if wL [tIs,ZW,ZX] s.1.spelt=0 then
   if wL [Yb] s.1.spelt=0 then .ok ((max tag 1,oct),s)
   else if cmp then .error ⟨7,s.1.pos⟩
   else nextThen l s fun s1=>QL (sL l (fun x=>if 0<wL [XR,Ko] x then 0 else 7) s1) fun x s2=>ZH l f tag (decide (x=XR)) true s2
  else if tag=0 then nextThen l s fun s1=>ZH l f (wL [tIs,ZW,ZX] s.1.spelt) oct cmp s1
  else .error ⟨7,s.1.pos⟩
def Xr(l:L8)(F:Nat)(chk:L8->Nat)(k pos:Nat)(s:PS):Qq (Zk×PS):=
 QL (ZH l F 0 false false s) fun o s1=>QL (sLs l chk F s1) fun fr s2=>QL (sLs l (fun _=>0) F s2) fun ks s3=>
  .ok (⟨k,pos,o.1,o.2,fr,ks,0⟩,s3)
def gMr{α:Type}(l:L8)(sub:PS->Qq (α×PS)):Nat->List α->PS->Qq (List α×PS)
 |0,acc,s=>.ok (acc,s)
 |f+1,acc,s=>QL (paL l [[44],[41]] s) fun i s1=>
  if i=1 then QL (sub s1) fun t s2=>gMr l sub f (acc++[t]) s2 else .ok (acc,s1)
def groupL{α:Type}(l:L8)(F:Nat)(sub:PS->Qq (α×PS))(s:PS):Qq (List α×PS):=
 QL (paL l [[40]] s) fun _ s1=>QL (sub s1) fun t s2=>gMr l sub F [t] s2
def sizeL(l:L8)(pos:Nat)(s:PS):Qq (Zk×PS):=
 QL (paL l [JI,JE] s) fun i s1=>
  if s1.1.kind=4 then nextThen l s1 fun s2=>.ok (⟨9,pos,i,false,[],[],s1.1.num⟩,s2)else .error ⟨4,s1.1.pos⟩
def tBd{α:Type}(l:L8)(F:Nat)(sub:PS->Qq (α×PS))(k pos:Nat)(s:PS):Qq ((Zk×List α)×PS):=
 match k with
 |0=>.ok ((⟨0,pos,0,false,[],[],0⟩,[]),s)
 |1=>.ok ((⟨1,pos,0,false,[],[],0⟩,[]),s)
 |2=>QL (sub s) fun t s1=>.ok ((⟨2,pos,0,false,[],[],0⟩,[t]),s1)
 |3=>QL (groupL l F sub s) fun ts s1=>.ok ((⟨3,pos,0,false,[],[],0⟩,ts),s1)
 |4=>QL (groupL l F sub s) fun ts s1=>.ok ((⟨4,pos,0,false,[],[],0⟩,ts),s1)
 |5=>QL (Xr l F (fun _=>0) 5 pos s) fun x s1=>.ok ((x,[]),s1)
 |6=>QL (Xr l F (fun x=>if 0<wL [JL,kTo] (zL x)then 0 else 7) 6 pos s) fun x s1=>.ok ((x,[]),s1)
 |7=>QL (Xr l F (fun _=>0) 7 pos s) fun x s1=>.ok ((x,[]),s1)
 |8=>QL (sLs l (fun _=>0) F s) fun xs s1=>.ok ((⟨8,pos,0,false,xs,[],0⟩,[]),s1)
 |_=>QL (sizeL l pos s) fun x s1=>.ok ((x,[]),s1)
def QP(l:L8)(req:Qn)(F:Nat):(n:Nat)->PS->Qq (Zn n×PS)
 |0,s=>if s.1.kind=1 then .error ⟨5,s.1.pos⟩else .error ⟨4,s.1.pos⟩
 |n+1,s=>
  if wL tNs s.1.spelt=0 then .error ⟨4,s.1.pos⟩
  else if Z4 req s.1.spelt then nextThen l s fun s1=>tBd l F (QP l req F n) (wL tNs s.1.spelt-1) s.1.pos s1
  else .error ⟨6,s.1.pos⟩
def bMr{α:Type}(l:L8)(sub:PS->Qq (α×PS)):Nat->List α->PS->Qq (List α×PS)
 |0,acc,s=>.ok (acc,s)
 |f+1,acc,s=>QL (mayL l [[125]] s) fun i s1=>
  if i=0 then QL (sub s1) fun c s2=>bMr l sub f (acc++[c]) s2 else .ok (acc,s1)
def blockL{α:Type}(l:L8)(F:Nat)(sub:PS->Qq (α×PS))(s:PS):Qq (List α×PS):=
 QL (paL l [[123]] s) fun _ s1=>bMr l sub F [] s1
def armL{α β:Type}(l:L8)(F:Nat)(tst:PS->Qq (β×PS))(sub:PS->Qq (α×PS))(s:PS):Qq ((β×List α)×PS):=
 QL (tst s) fun t s1=>QL (blockL l F sub s1) fun cs s2=>.ok ((t,cs),s2)
def aMr{α β:Type}(l:L8)(F:Nat)(tst:PS->Qq (β×PS))(sub:PS->Qq (α×PS)):Nat->List (β×List α)->PS->Qq (List (β×List α)×PS)
 |0,acc,s=>.ok (acc,s)
 |f+1,acc,s=>QL (mayL l [YB] s) fun i s1=>
  if i=0 then .ok (acc,s1)else QL (armL l F tst sub s1) fun a s2=>aMr l F tst sub f (acc++[a]) s2
def semi{α:Type}(l:L8)(s:PS)(a:α):Qq (α×PS):=QL (paL l [[59]] s) fun _ s1=>.ok (a,s1)
def cBd{α β:Type}(l:L8)(F:Nat)(tst:PS->Qq (β×PS))(sub:PS->Qq (α×PS))(k pos:Nat)(s:PS):Qq ((Xa×List (β×List α)×List α)×PS):=
 match k with
 |0=>semi l s (⟨0,pos,0,[],[],false⟩,[],[])
 |1=>semi l s (⟨1,pos,0,[],[],false⟩,[],[])
 |2=>semi l s (⟨2,pos,0,[],[],false⟩,[],[])
 |3=>QL (sL l (fun _=>0) s) fun x s1=>semi l s1 (⟨3,pos,0,x,[],false⟩,[],[])
 |4=>QL (sL l (fun _=>0) s) fun x s1=>semi l s1 (⟨4,pos,0,x,[],false⟩,[],[])
 |5=>QL (sL l (fun _=>0) s) fun x s1=>semi l s1 (⟨5,pos,0,x,[],false⟩,[],[])
 |6=>QL (mayL l [Yn,Ym,Yj] s) fun tag s1=>QL (sL l (fun x=>if isNameL x then 0 else 7) s1) fun v s2=>
  QL (sL l (fun _=>0) s2) fun x s3=>semi l s3 (⟨6,pos,tag,x,zL v,false⟩,[],[])
 |_=>QL (armL l F tst sub s) fun a s1=>QL (aMr l F tst sub F [a] s1) fun arms s2=>QL (mayL l [Yv] s2) fun i s3=>
  if i=0 then .ok ((⟨7,pos,0,[],[],false⟩,arms,[]),s3)
  else QL (blockL l F sub s3) fun cs s4=>.ok ((⟨7,pos,0,[],[],true⟩,arms,cs),s4)
def cmdL(l:L8)(req:Qn)(F:Nat):(n:Nat)->PS->Qq (Q5 n×PS)
 |0,s=>if s.1.kind=1 then .error ⟨5,s.1.pos⟩else .error ⟨4,s.1.pos⟩
 |n+1,s=>
  if wL cNs s.1.spelt=0 then .error ⟨4,s.1.pos⟩
  else if Z4 req s.1.spelt then nextThen l s fun s1=>cBd l F (QP l req F n) (cmdL l req F n) (wL cNs s.1.spelt-1) s.1.pos s1
  else .error ⟨6,s.1.pos⟩
def Xf(req:Qn)(x:L8):Qn:=if 0<wL req x then req else req++[x]
def reqMore(l:L8)(F:Nat):Nat->Qn->PS->Qq (Qn×PS)
 |0,req,s=>.ok (req,s)
 |f+1,req,s=>QL (mayL l [Kn] s) fun i s1=>
  if i=0 then .ok (req,s1)
  else QL (sLs l (fun x=>if 0<wL [Zb,ZN,ZM,Z8] x then 0 else 6) F s1) fun xs s2=>
   QL (paL l [[59]] s2) fun _ s3=>reqMore l F f (xs.foldl Xf req) s3
def cMr{α:Type}(sub:PS->Qq (α×PS)):Nat->List α->PS->Qq (List α)
 |0,acc,_=>.ok acc
 |f+1,acc,s=>if s.1.kind=0 then .ok acc else
  match sub s with
  | .error e=>.error e
  | .ok y=>cMr sub f (acc++[y.1]) y.2
def prL(l:L8):Qq (Qn×List (Q5 7)):=
 let F:=2*l.length+10
 match nL l 0 with
 | .error f=>.error f
 | .ok s=>
  match reqMore l F F [] s with
  | .error f=>.error f
  | .ok y=>
   match cMr (cmdL l y.1 F 7) F [] y.2 with
   | .error f=>.error f
   | .ok cs=>.ok (y.1,cs)
def Gd(l:L8)(s:PS):Prop:=s.2<=l.length/\(s.1.kind=0->s.1.spelt=[])
def Dn{α:Type}(c:Nat)(l:L8)(r:Qq (α×PS))(s:PS):Prop:=∀y,r=.ok y->Gd l y.2/\mu l.length y.2+c<=mu l.length s
theorem Dn.err{c:Nat}:Dn c l (.error f:Qq (α×PS)) s:=fun y h=>by cases h
theorem Dn.ok{α:Type}{l:L8}{a:α}{s:PS}(h:Gd l s):Dn 0 l (.ok (a,s):Qq (α×PS)) s:=fun y e=>by cases e;exact⟨h,Q4 _⟩
theorem Dn.weak{c:Nat}(h:Dn c l r s)(hc:c'<=c):Dn c' l r s:=fun y e=>⟨(h y e).1,by have:=(h y e).2;omega⟩
theorem Dn.andThen{c:Nat}(h:Dn c l r s)(g:∀a s1,Gd l s1->Dn c' l (k a s1) s1):Dn (c+c') l (QL r k) s:=fun y e=>by
 cases hr:r with
 |error f=>rw[QC hr]at e;cases e
 |ok z=>
  rw[Qx hr]at e;obtain⟨b,i⟩:=h z hr;obtain⟨d,j⟩:=g z.1 z.2 b y e;exact⟨d,I⟩
theorem AQ{y:PS}(h:Gd l s)(c:nL l s.2=.ok y):Gd l y:=by
 obtain⟨d,a,e,b,f⟩:=GX h.1 y c;exact⟨a,b⟩
theorem Dn.next{c:Nat}{k:PS->Qq (β×PS)}(h:Gd l s)(d:¬s.1.kind=0)(b:∀s1,Gd l s1->Dn c l (k s1) s1):Dn (c+1) l (nextThen l s k) s:=fun y e=>by
 cases hr:nL l s.2 with
 |error f=>rw[Jv hr]at e;cases e
 |ok z=>
  rw[YV hr]at e;have g:=J' h.1 d hr;obtain⟨a,i⟩:=b z (AQ h hr) y e;exact⟨a,I⟩
theorem G8(h:Gd l s)(a:∀z∈zs,z≠[]):Dn 1 l (paL l zs s) s:=fun y e=>by
 refine⟨?_,(B7 h.1 h.2 a e).1⟩;unfold paL at e
 split at e
 .cases e
 .cases hn:nL l s.2 with
  |error f=>rw[hn]at e;cases e
  |ok s'=>rw[hn]at e;cases e;exact AQ h hn
theorem NX(h:Gd l s)(a:∀z∈zs,z≠[]):Dn 0 l (mayL l zs s) s:=fun y e=>by
 refine⟨?_,(AN h.1 h.2 a e).1⟩;unfold mayL at e
 split at e
 .cases e;exact h
 .cases hn:nL l s.2 with
  |error f=>rw[hn]at e;cases e
  |ok s'=>rw[hn]at e;cases e;exact AQ h hn
theorem UZ(h:Gd l s):Dn 1 l (sL l chk s) s:=fun y e=>by
 refine⟨?_,(GS h.1 e).1⟩;unfold sL at e
 split at e
 .split at e
  .cases hn:nL l s.2 with
   |error f=>rw[hn]at e;cases e
   |ok s'=>rw[hn]at e;cases e;exact AQ h hn
  .cases e
 .cases e
theorem M1{l:L8}{chk:L8->Nat}:∀(f:Nat) (acc:Qn) (s:PS),Gd l s->Dn 0 l (moreL l chk f acc s) s
 |0,acc,s,h=>Dn.ok h
 |f+1,acc,s,h=>fun y e=>by
  rw[moreL]at e
  cases hp:paL l [[44],[93]] s with
  |error g=>rw[hp]at e;cases e
  |ok z=>
   rw[hp]at e;obtain⟨a,d⟩:=G8 (zs:=[[44],[93]]) h Qb z hp;dsimp only at e
   split at e
   .cases hs:sL l chk z.2 with
    |error g=>rw[hs]at e;cases e
    |ok x=>
     rw[hs]at e;obtain⟨b,i⟩:=UZ a x hs;obtain⟨c,j⟩:=M1 f _ x.2 b y e;exact⟨c,I⟩
   .cases e;exact⟨a,by dsimp only;omega⟩
theorem Bp(h:Gd l s):Dn 1 l (sLs l chk F s) s:=fun y e=>by
 unfold sLs at e
 cases hm:mayL l [[91]] s with
 |error g=>rw[hm]at e;cases e
 |ok z=>
  rw[hm]at e;obtain⟨b,d⟩:=NX (zs:=[[91]]) h Qb z hm;dsimp only at e
  cases hs:sL l chk z.2 with
  |error g=>rw[hs]at e;cases e
  |ok x=>
   rw[hs]at e;obtain⟨a,f⟩:=UZ b x hs;dsimp only at e
   split at e
   .cases e;exact⟨a,by dsimp only;omega⟩
   .obtain⟨c,i⟩:=M1 F _ x.2 a y e;exact⟨c,I⟩
theorem Bx(h:Gd l s)(hz:∀z∈zs,z≠[])(h0:¬wL zs s.1.spelt=0):¬s.1.kind=0:=fun e=>h0 (by rw[h.2 e];exact Aq hz)
theorem EQ{l:L8}:∀(f tag:Nat) (oct a:Bool) (s:PS),Gd l s->Dn 0 l (ZH l f tag oct a s) s
 |0,tag,oct,a,s,h=>Dn.ok h
 |f+1,tag,oct,a,s,h=>by
  rw[ZH];by_cases h1:wL [tIs,ZW,ZX] s.1.spelt=0
  .rw[Qi h1];by_cases h2:wL [Yb] s.1.spelt=0
   .rw[Qi h2];exact Dn.ok h
   .rw[Qg h2];cases a
    .rw[Qg Qb];refine(Dn.next (c:=0) h (Bx (zs:=[Yb]) h Qb h2) fun d b=>?_).weak I;exact((UZ b).andThen (c':=0) fun x g e=>EQ f _ _ _ g e).weak I
    .rw[Qi rfl];exact Dn.err
  .rw[Qg h1];by_cases ht:tag=0
   .rw[Qi ht];exact(Dn.next (c:=0) h (Bx (zs:=[tIs,ZW,ZX]) h Qb h1) fun d b=>EQ f _ _ _ d b).weak I
   .rw[Qg ht];exact Dn.err
theorem DZ{k:Nat}(h:Gd l s):Dn 0 l (Xr l F chk k pos s) s:=by
 unfold Xr;exact((EQ F 0 false false s h).andThen (c':=1) fun o f a=>((Bp a).andThen (c':=0) fun d g b=>((Bp b).andThen (c':=0) fun e i c=>Dn.ok c).weak I).weak I).weak I
theorem F1{α:Type}{l:L8}{sub:PS->Qq (α×PS)}(b:∀s,Gd l s->Dn 1 l (sub s) s):∀(f:Nat) (acc:List α) (s:PS),Gd l s->Dn 0 l (gMr l sub f acc s) s
 |0,acc,s,h=>Dn.ok h
 |f+1,acc,s,h=>by
  rw[gMr];refine((G8 h Qb).andThen (c':=0) fun i d a=>?_).weak I;split
  .exact((b d a).andThen (c':=0) fun t e c=>F1 b f _ e c).weak I
  .exact Dn.ok a
theorem Mb(a:∀s,Gd l s->Dn 1 l (sub s) s)(h:Gd l s):Dn 0 l (groupL l F sub s) s:=by
 unfold groupL;exact((G8 h Qb).andThen (c':=0) fun _ d b=>((a d b).andThen (c':=0) fun t e c=>F1 a F _ e c).weak I).weak I
theorem O8(h:Gd l s):Dn 0 l (sizeL l pos s) s:=by
 unfold sizeL;refine((G8 h Qb).andThen (c':=0) fun i d a=>?_).weak I;split
 .rename_i hk;exact(Dn.next (c:=0) a I fun e b=>Dn.ok b).weak I
 .exact Dn.err
theorem WX(a:∀s,Gd l s->Dn 1 l (sub s) s){k:Nat}(h:Gd l s):Dn 0 l (tBd l F sub k pos s) s:=by
 unfold tBd;split
 .exact Dn.ok h
 .exact Dn.ok h
 .exact((a s h).andThen (c':=0) fun _ _ g=>Dn.ok g).weak I
 .exact((Mb a h).andThen (c':=0) fun _ _ g=>Dn.ok g).weak I
 .exact((Mb a h).andThen (c':=0) fun _ _ g=>Dn.ok g).weak I
 .exact((DZ h).andThen (c':=0) fun _ _ g=>Dn.ok g).weak I
 .exact((DZ h).andThen (c':=0) fun _ _ g=>Dn.ok g).weak I
 .exact((DZ h).andThen (c':=0) fun _ _ g=>Dn.ok g).weak I
 .exact((Bp h).andThen (c':=0) fun _ _ g=>Dn.ok g).weak I
 .exact((O8 h).andThen (c':=0) fun _ _ g=>Dn.ok g).weak I
theorem NQ{l:L8}{req:Qn}{F:Nat}:∀(n:Nat) (s:PS),Gd l s->Dn 1 l (QP l req F n s) s
 |0,s,h=>by
  rw[QP];split<;>exact Dn.err
 |n+1,s,h=>by
  rw[QP];by_cases h0:wL tNs s.1.spelt=0
  .rw[Qi h0];exact Dn.err
  .rw[Qg h0];cases hu:Z4 req s.1.spelt
   .rw[Qg Qb];exact Dn.err
   .rw[Qi rfl];exact(Dn.next (c:=0) h (Bx (zs:=tNs) h Qb h0) fun b a=>WX (fun s g=>NQ n s g) a).weak I
theorem FR{α:Type}{l:L8}{sub:PS->Qq (α×PS)}(b:∀s,Gd l s->Dn 1 l (sub s) s):∀(f:Nat) (acc:List α) (s:PS),Gd l s->Dn 0 l (bMr l sub f acc s) s
 |0,acc,s,h=>Dn.ok h
 |f+1,acc,s,h=>by
  rw[bMr];refine((NX h Qb).andThen (c':=0) fun i d a=>?_).weak I;split
  .exact((b d a).andThen (c':=0) fun t e c=>FR b f _ e c).weak I
  .exact Dn.ok a
theorem D4(b:∀s,Gd l s->Dn 1 l (sub s) s)(h:Gd l s):Dn 1 l (blockL l F sub s) s:=by
 unfold blockL;exact(G8 h Qb).andThen (c':=0) fun _ c a=>FR b F _ c a
theorem ER(d:∀s,Gd l s->Dn 1 l (tst s) s)(c:∀s,Gd l s->Dn 1 l (sub s) s)(h:Gd l s):Dn 1 l (armL l F tst sub s) s:=by
 unfold armL;exact((d s h).andThen (c':=0) fun t f a=>((D4 c a).andThen (c':=0) fun e g b=>Dn.ok b).weak I)
theorem MP{α β:Type}{l:L8}{F:Nat}{tst:PS->Qq (β×PS)}{sub:PS->Qq (α×PS)}(d:∀s,Gd l s->Dn 1 l (tst s) s)(c:∀s,Gd l s->Dn 1 l (sub s) s):∀(f:Nat) (acc:List (β×List α)) (s:PS),Gd l s->Dn 0 l (aMr l F tst sub f acc s) s
 |0,acc,s,h=>Dn.ok h
 |f+1,acc,s,h=>by
  rw[aMr];refine((NX h Qb).andThen (c':=0) fun i j b=>?_).weak I;split
  .exact Dn.ok b
  .exact((ER d c b).andThen (c':=0) fun a g e=>MP d c f _ g e).weak I
theorem G9{a:α}(h:Gd l s):Dn 0 l (semi l s a) s:=by
 unfold semi;exact((G8 h Qb).andThen (c':=0) fun _ c b=>Dn.ok b).weak I
theorem QsD(f:∀s,Gd l s->Dn 1 l (tst s) s)(e:∀s,Gd l s->Dn 1 l (sub s) s){k:Nat}(h:Gd l s):Dn 0 l (cBd l F tst sub k pos s) s:=by
 unfold cBd;split
 .exact G9 h
 .exact G9 h
 .exact G9 h
 .exact((UZ h).andThen (c':=0) fun _ _ g=>G9 g).weak I
 .exact((UZ h).andThen (c':=0) fun _ _ g=>G9 g).weak I
 .exact((UZ h).andThen (c':=0) fun _ _ g=>G9 g).weak I
 .exact((NX h Qb).andThen (c':=0) fun _ _ c=>((UZ c).andThen (c':=0) fun _ _ d=>((UZ d).andThen (c':=0) fun _ _ b=>G9 b).weak I).weak I).weak I
 .refine((ER f e h).andThen (c':=0) fun a m c=>((MP f e F _ m c).andThen (c':=0) fun n o d=>((NX d Qb).andThen (c':=0) fun i p b=>?_).weak I).weak I).weak I;split
  .exact Dn.ok b
  .exact((D4 e b).andThen (c':=0) fun _ _ j=>Dn.ok j).weak I
theorem Na{l:L8}{req:Qn}{F:Nat}:∀(n:Nat) (s:PS),Gd l s->Dn 1 l (cmdL l req F n s) s
 |0,s,h=>by
  rw[cmdL];split<;>exact Dn.err
 |n+1,s,h=>by
  rw[cmdL];by_cases h0:wL cNs s.1.spelt=0
  .rw[Qi h0];exact Dn.err
  .rw[Qg h0];cases hu:Z4 req s.1.spelt
   .rw[Qg Qb];exact Dn.err
   .rw[Qi rfl];exact(Dn.next (c:=0) h (Bx (zs:=cNs) h Qb h0) fun b a=>QsD (fun s g=>NQ n s g) (fun s g=>Na n s g) a).weak I
def skipS(r:L8)(p:Nat):Qq Nat:=Zw (r.length+1) r p
theorem XA:type_of%@Nat.not_lt_zero:=@Nat.not_lt_zero
theorem Bw:∀(f g:Nat) (r:L8) (p:Nat),r.length<f->r.length<g->Zw f r p=Zw g r p
 |0,_,r,p,h,_=>absurd h (XA _)
 |_+1,0,r,p,_,h=>absurd h (XA _)
 |f+1,g+1,[],p,_,_=>rfl
 |f+1,g+1,c::r,p,h1,h2=>by
  simp only[Q1]at h1 h2;simp only[Zw];have a:=C6 c r;rw[Bw f g r (p+1) I I];rw[Bw f g (List.drop (lineLen (c::r)) (c::r)) _ (by rw[Xq];simp only[Q1];omega) (by rw[Xq];simp only[Q1];omega)];rw[Bw f g (List.drop (4+(Lib.index (r.drop 1) [42,47]).toNat) (c::r)) _ (by rw[Xq];simp only[Q1];omega) (by rw[Xq];simp only[Q1];omega)]
theorem Xp:type_of%@Nat.lt_succ_self:=@Nat.lt_succ_self
theorem Ez{f:Nat}{r:L8}(h:r.length<f):Zw f r p=skipS r p:=Bw _ _ _ _ h (Xp _)
theorem Ha(r:L8)(p:Nat)(h:ZZ c.toNat=true):skipS (c::r) p=skipS r (p+1):=by
 show Zw (r.length+1+1) (c::r) p=_
 simp only[Zw];rw[Qi h];rfl
theorem Qtr(r:L8)(p:Nat)(h:ZZ c.toNat=false)(a:c.toNat=35):skipS (c::r) p=skipS ((c::r).drop (lineLen (c::r))) (p+lineLen (c::r)):=by
 show Zw (r.length+1+1) (c::r) p=_
 simp only[Zw];have b:=C6 c r;rw[Qg (by rw[h];decide),Qi a,Ez (by rw[Xq];simp only[Q1];omega)]
theorem T4{c:UInt8}(r:L8)(p:Nat)(h:ZZ c.toNat=false)(a:¬c.toNat=35)(b:Lib.hasPrefix (c::r) [47,42]=true)(d:Lib.index (r.drop 1) [42,47]<0):skipS (c::r) p=.error ⟨2,p⟩:=by
 show Zw (r.length+1+1) (c::r) p=_
 simp only[Zw];rw[Qg (by rw[h];decide),Qg a,Qi b,Qi d]
theorem Qwb{c:UInt8}(r:L8)(p:Nat)(h:ZZ c.toNat=false)(a:¬c.toNat=35)(b:Lib.hasPrefix (c::r) [47,42]=true)(d:¬Lib.index (r.drop 1) [42,47]<0):skipS (c::r) p=skipS ((c::r).drop (4+(Lib.index (r.drop 1) [42,47]).toNat)) (p+(4+(Lib.index (r.drop 1) [42,47]).toNat)):=by
 show Zw (r.length+1+1) (c::r) p=_
 simp only[Zw];rw[Qg (by rw[h];decide),Qg a,Qi b,Qg d,Ez (by rw[Xq];simp only[Q1];omega)]
theorem Qtl{c:UInt8}(r:L8)(h:ZZ c.toNat=false)(a:¬c.toNat=35)(b:Lib.hasPrefix (c::r) [47,42]=false):skipS (c::r) p=.ok p:=by
 show Zw (r.length+1+1) (c::r) p=_
 simp only[Zw];rw[Qg (by rw[h];decide),Qg a,Qg (by rw[b];decide)]
theorem Pp:nL l p=match skipS (l.drop p) p with
 | .error f=>.error f
 | .ok n=>Zm (l.drop n) n:=by
 unfold nL;rw[Ez (by rw[Xq];omega)]
 all_goals (cases skipS (List.drop p l) p<;>rfl)
def Va(c:UInt8):L8:=if c=34\/c=92 then [92,c]else [c]
def Zd(x:L8):L8:=34::(x.flatMap Va++[34])
def JJ(sep:L8):Qn->L8
 | []=>[]
 | [x]=>x
 |x::y::r=>x++sep++JJ sep (y::r)
def XF(xs:Qn):L8:=
 match xs with
 | [x]=>Zd x
 |xs=>[91]++JJ [44,32] (xs.map Zd)++[93]
def Jy(t p:L8):L8:=(if t≠[]/\p≠[]then t++[32]else t)++p
def ZC(parts:Qn):L8:=parts.foldl Jy []
def Jp(tag:Nat)(tags:Qn):L8:=if tag=0 then []else tags.getD (tag-1) []
def iL(n:Nat):L8:=Lib.decDigits n
def Jq(hw:L8)(x:Zk):L8:=
 ZC [hw,if x.octet then ZC [Yb,Zd XR]else [],if x.tag≠1 then Jp x.tag [tIs,ZW,ZX]else [],XF x.fr,XF x.keys]
def Y7(hw:L8)(ts:Qn):L8:=hw++[32,40]++JJ [44,32] ts++[41]
def Xl(x:Zk)(ts:Qn):L8:=
 match x.kind with
 |0=>Uj
 |1=>Ud
 |2=>ZC (kNot::ts)
 |3=>Y7 JV ts
 |4=>Y7 JU ts
 |5=>Jq Y_ x
 |6=>Jq Zb x
 |7=>Jq Xc x
 |8=>ZC [YL,XF x.fr]
 |_=>ZC [JK,Jp x.tag [JI,JE],iL x.num]
def Zx:(n:Nat)->Zn n->L8
 |0,_=>[]
 |n+1,x=>Xl x.1 (x.2.map (Zx n))
def U7:L8:=125::32::YB
def KS:L8:=[123,10]
def Nh:L8:=125::32::(Yv++[32,123,10])
def ZJ{α:Type}(txt:α->L8->L8)(cs:List α)(i:L8):L8:=cs.flatMap fun c=>i++txt c i++[10]
def Kq(word i:L8)(t b:L8):L8:=ZC [word,t,KS]++b++i
def X7(i:L8):L8->List (L8×L8)->L8
 |_,[]=>[]
 |word,a::r=>Kq word i a.1 a.2++X7 i U7 r
def YM(x:Xa)(i:L8)(arms:List (L8×L8))(els:L8):L8:=
 match x.kind with
 |0=>Ul++[59]
 |1=>K_++[59]
 |2=>Uk++[59]
 |3=>ZC [ZN,Zd x.arg]++[59]
 |4=>ZC [Jt,Zd x.arg]++[59]
 |5=>ZC [ZM,Zd x.arg]++[59]
 |6=>ZC [Xw,Jp x.tag [Yn,Ym,Yj],Zd x.var,Zd x.arg]++[59]
 |_=>X7 i kIf arms++(if x.els then Nh++els++i else [])++[125]
def ZR:(n:Nat)->Q5 n->L8->L8
 |0,_,_=>[]
 |n+1,x,i=>YM x.1 i (x.2.1.map fun a=>(Zx n a.1,ZJ (ZR n) a.2 (i++[32,32]))) (ZJ (ZR n) x.2.2 (i++[32,32]))
def NF(req:Qn):L8:=if req=[]then []else Kn++[32]++XF req++[59,10]
def KU(t:Qn×List (Q5 7)):L8:=NF t.1++ZJ (ZR 7) t.2 []
theorem K7:type_of%@List.foldl_cons:=@List.foldl_cons
theorem Hi:∀(ps:Qn) (t:L8),t.length<=(ps.foldl Jy t).length
 | [],t=>Q4 _
 |p::r,t=>by
  have a:=Hi r (Jy t p);have b:t.length<=(Jy t p).length:=by unfold Jy;split<;>simp
  rw[K7];omega
theorem XW:type_of%@List.mem_cons:=@List.mem_cons
theorem Hu:∀(ps:Qn) (t p:L8),p∈ps->p.length<=(ps.foldl Jy t).length
 | [],t,p,h=>by cases h
 |q::r,t,p,h=>by
  rw[K7];rcases XW.1 h with h|h
  .subst h;have a:=Hi r (Jy t p);have b:p.length<=(Jy t p).length:=by unfold Jy;rw[Qz];omega
   omega
  .exact Hu r _ p h
theorem J9{ps:Qn}{p:L8}(h:p∈ps):p.length<=(ZC ps).length:=Hu ps [] p h
theorem BG:∀(xs:Qn) (x:L8),x∈xs->x.length<=(JJ [44,32] xs).length
 | [],x,h=>by cases h
 | [y],x,h=>by rw[ZV h];exact Q4 _
 |y::z::r,x,h=>by
  simp only[JJ,Qz];rcases XW.1 h with h|h
  .subst h;omega
  .have:=BG (z::r) x h;omega
theorem F4{a:Qn}{hw:L8}{t:L8}(h:t∈a):t.length<=(Y7 hw a).length:=by
 have:=BG a t h;unfold Y7;simp only[Qz];omega
theorem At:∀xs:Qn,xs.length<=(JJ [44,32] xs).length+1
 | []=>Qh
 | [x]=>Qh
 |x::y::r=>by
  have:=At (y::r);simp only[JJ,Qz,Q1,Zl]at this ⊢;omega
def Nd(i:L8)(ts:Qn):L8:=ts.flatMap fun t=>i++t++[10]
theorem Qw1(txt:α->L8->L8){i:L8}:ZJ txt a i=Nd i (a.map fun c=>txt c i):=by
 unfold ZJ Nd;rw[List.flatMap_map]
theorem YS:type_of%@List.flatMap_cons:=@List.flatMap_cons
theorem IQ(i:L8):∀ts:Qn,ts.length<=(Nd i ts).length
 | []=>Qh
 |t::ts=>by
  have:=IQ i ts;unfold Nd at this ⊢;rw[YS];simp only[Qz,Q1,Zl]at this ⊢;omega
theorem YG:type_of%@List.append_assoc:=@List.append_assoc
theorem IG(i:L8):∀(a:Qn) (t:L8),t∈a->t.length<=(Nd i a).length
 | [],t,h=>by cases h
 |u::a,t,h=>by
  unfold Nd;rw[YS];simp only[Qz,Q1,Zl];rcases XW.1 h with h|h
  .subst h;omega
  .have:=IG i a t h;unfold Nd at this;simp only[YG]at *;omega
theorem H9(i:L8):∀(al:List (L8×L8)) (b:L8),al.length<=(X7 i b al).length
 | [],b=>Qh
 |a::r,b=>by
  have:=H9 i r U7
  have c:1<=(Kq b i a.1 a.2).length:=by
   unfold Kq;rw[Qz,Qz];have:=J9 (ps:=[b,a.1,KS]) (p:=KS) Qh;have:KS.length=2:=rfl;omega
  show(a::r).length<=(Kq b i a.1 a.2++X7 i U7 r).length
  rw[Qz,Q1];omega
theorem F_(i:L8):∀(al:List (L8×L8)) (b:L8) (a:L8×L8),a∈al->a.1.length<=(X7 i b al).length/\a.2.length<=(X7 i b al).length
 | [],b,a,h=>by cases h
 |u::al,b,a,h=>by
  show a.1.length<=(Kq b i u.1 u.2++X7 i U7 al).length/\a.2.length<=(Kq b i u.1 u.2++X7 i U7 al).length
  rw[Qz];rcases XW.1 h with h|h
  .subst h;have c:=J9 (ps:=[b,a.1,KS]) (p:=a.1) Qh;unfold Kq;rw[Qz,Qz];omega
  .have:=F_ i al U7 a h;omega
def VM:L8->Nat->Qq Nat
 | [],p=>.ok p
 |c::r,p=>if c=10 then skipS (c::r) p else VM r (p+1)
theorem V1:type_of%@List.drop_succ_cons:=@List.drop_succ_cons
theorem LF:∀(r:L8) (p:Nat),VM r p=skipS (r.drop (lineLen r)) (p+lineLen r)
 | [],p=>rfl
 |c::r,p=>by
  rw[VM];by_cases h:c=10
  .subst h;rw[Qi rfl];have e:lineLen (10::r)=1:=by simp[lineLen,Lib.indexByte]
   rw[e,Ha r p Qb];rfl
  .rw[Qg h,LF r (p+1)]
   have e:lineLen (c::r)=1+lineLen r:=by
    have d:(c==10)=false:=by simpa using h
    have a:Lib.indexByte (c::r) 10=if Lib.indexByte r 10 == -1 then -1 else Lib.indexByte r 10+1:=by
     rw[Lib.indexByte,d];rfl
    have g:=CX r 10;unfold lineLen;rw[a];by_cases hr:Lib.indexByte r 10<0
    .have f:Lib.indexByte r 10 = -1:=by have:=Lib.indexByte_ge r 10;omega
     rw[f];simp;omega
    .have b:(Lib.indexByte r 10 == -1)=false:=by rw[beq_eq_false_iff_ne];omega
     rw[b,Qg (by simp;omega),Qg hr];simp;omega
   rw[e,Nat.add_comm 1 (lineLen r),V1];congr 1;omega
theorem S7{r:L8}(a:c.toNat=35):skipS (c::r) p=VM (c::r) p:=by
 have b:ZZ c.toNat=false:=by unfold ZZ;simp;omega
 rw[LF,Qtr r p b a]
def Uo(q:Nat):L8->Nat->Qq Nat
 | [],_=>.error ⟨2,q⟩
 | [_],_=>.error ⟨2,q⟩
 |c::d::r,p=>if c=42/\d=47 then skipS r (p+2)else Uo q (d::r) (p+1)
theorem J2:type_of%@Bool.false_eq_true:=@Bool.false_eq_true
theorem LY(q:Nat):∀(r:L8) (p:Nat),Uo q r p=if Lib.index r [42,47]<0 then .error ⟨2,q⟩else skipS (r.drop (2+(Lib.index r [42,47]).toNat)) (p+(2+(Lib.index r [42,47]).toNat))
 | [],p=>rfl
 | [c],p=>by
  rw[Uo]
  have e:Lib.index [c] [42,47] = -1:=by
   unfold Lib.index;have:([42,47]:L8).isPrefixOf [c]=false:=by simp[List.isPrefixOf]
   rw[this];simp[Lib.index]
  rw[e];rfl
 |c::d::r,p=>by
  rw[Uo]
  have a:Lib.index (c::d::r) [42,47]=if([42,47]:L8).isPrefixOf (c::d::r)then 0 else if Lib.index (d::r) [42,47] == -1 then -1 else Lib.index (d::r) [42,47]+1:=by
   rw[Lib.index]
  by_cases h:c=42/\d=47
  .obtain⟨rfl,rfl⟩:=h;rw[Qi ⟨rfl,rfl⟩,a];simp[List.isPrefixOf]
  .have g:([42,47]:L8).isPrefixOf (c::d::r)=false:=by
    simp only[List.isPrefixOf,Bool.and_true,Bool.and_eq_false_iff];by_cases hc:c=42
    .right;have:¬d=47:=fun e=>h ⟨hc,e⟩
     simpa using fun e=>this e.symm
    .left;simpa using fun e=>hc e.symm
   rw[Qg h,a,g,LY q (d::r) (p+1)];have j:=Lib.index_ge (d::r) [42,47];by_cases hr:Lib.index (d::r) [42,47]<0
   .have i:Lib.index (d::r) [42,47] = -1:=I
    rw[i];rfl
   .have f:(Lib.index (d::r) [42,47] == -1)=false:=by rw[beq_eq_false_iff_ne];omega
    rw[Qg hr,f];simp only[J2,if_false];rw[Q8];have e:(Lib.index (d::r) [42,47]+1).toNat=(Lib.index (d::r) [42,47]).toNat+1:=I
    rw[e];have b:2+((Lib.index (d::r) [42,47]).toNat+1)=(2+(Lib.index (d::r) [42,47]).toNat)+1:=I
    rw[b,V1];congr 1;omega
theorem Wl{r:L8}:skipS (47::42::r) p=Uo p r (p+2):=by
 have a:Lib.hasPrefix (47::42::r) [47,42]=true:=rfl;rw[LY];by_cases h3:Lib.index r [42,47]<0
 .rw[Qi h3,T4 (42::r) p Qb Qb a h3]
 .rw[Qg h3,Qwb (42::r) p Qb Qb a h3]
  have e:4+(Lib.index (List.drop 1 (42::r)) [42,47]).toNat=(2+(Lib.index r [42,47]).toNat)+2:=by
   show 4+(Lib.index r [42,47]).toNat=_
   omega
  rw[e,V1,V1];congr 1;omega
theorem C8{r:L8}(h:ZZ c.toNat=false)(a:¬c=35)(b:¬(c=47/\r.head?=some 42)):skipS (c::r) p=.ok p:=by
 refine Qtl r h (fun e=>a (Xi.1 e)) ?_
 cases hh:Lib.hasPrefix (c::r) [47,42]with
 |false=>rfl
 |true=>
  exfalso;apply b
  cases r with
  |nil=>simp[Lib.hasPrefix,List.isPrefixOf]at hh
  |cons d r=>
   simp[Lib.hasPrefix,List.isPrefixOf]at hh;exact⟨hh.1.symm,by rw[<-hh.2];rfl⟩
section
def kQ(x:Wd):Nat:=if x.kind=0 then 0 else if x.kind=1 then 119 else if x.kind=2 then 58 else if x.kind=3 then(x.spelt.headD 0).toNat else if x.kind=4 then 48 else 34
def sQ(x:Wd):L8:=if x.kind=1 then x.spelt else if x.kind=2 then x.spelt.drop 1 else if x.kind=5 then x.said else []
def WdQ(x:Wd):Prop:=
 (x.kind=0/\x.spelt=[]/\x.said=[]/\x.num=0)\/
 (x.kind=1/\(∃c r,x.spelt=c::r/\Za c.toNat=true)/\x.said=[]/\x.num=0)\/
 (x.kind=2/\(∃c r,x.spelt=58::c::r/\Za c.toNat=true)/\x.said=[]/\x.num=0)\/
 (x.kind=3/\(∃c,x.spelt=[c]/\Y' c=true)/\x.said=[]/\x.num=0)\/
 (x.kind=4/\x.spelt=[]/\x.said=[])\/
 (x.kind=5/\x.spelt=[]/\x.num=0)
theorem Is(h:Za c.toNat=true):Za (YX c).toNat=true:=by
 unfold YX;split
 .rename_i hc;have a:=UInt8.toNat_lt c;unfold Jb at hc;simp at hc
  have e:((c-65+97).toNat:Int)=(c.toNat:Int)+32:=by
   rw[UInt8.toNat_add,UInt8.toNat_sub];simp;omega
  rw[e];unfold Za;simp;omega
 .exact h
theorem sign_cases(h:Y' c=true):c=59\/c=44\/c=40\/c=41\/c=123\/c=125\/c=91\/c=93:=by
 unfold Y' at h;have a:=CY _ _ (K5 h);simpa using a
theorem WD{r:L8}(h:¬nameLen r=0):∃c r',r=c::r'/\Za c.toNat=true:=by
 cases r with
 |nil=>exact absurd rfl h
 |cons c r'=>
  refine⟨c,r',rfl,?_⟩;rw[nameLen]at h
  cases hc:Za c.toNat with
  |true=>rfl
  |false=>rw[hc]at h;exact absurd rfl h
theorem Qw8{r:L8}{x:PS}(h:Zm r p=.ok x):WdQ x.1:=by
 cases r with
 |nil=>unfold Zm at h;dsimp only at h;cases h;exact Qt ⟨rfl,rfl,rfl,rfl⟩
 |cons c r=>
  unfold Zm at h;dsimp only at h
  split at h
  .rename_i hl;cases h;refine Qr (Qt ⟨rfl,?_,rfl,rfl⟩)
   have e:∃m,nameLen (c::r)=m+1:=by
    refine⟨nameLen (c::r)-1,?_⟩;have:1<=nameLen (c::r):=by simp only[nameLen];rw[Qi hl];omega
    omega
   obtain⟨m,b⟩:=e;refine⟨YX c,zL (r.take m),?_,Is hl⟩;show zL ((c::r).take (nameLen (c::r)))=_
   rw[b];rfl
  .split at h
   .rename_i h58
    split at h
    .cases h
    .rename_i e;cases h;refine Qr (Qr (Qt ⟨rfl,?_,rfl,rfl⟩));obtain⟨d,a,rfl,j⟩:=WD e;obtain⟨m,b⟩:∃m,nameLen (d::a)=m+1:=⟨nameLen (d::a)-1,I⟩;refine⟨YX d,zL (a.take m),?_,Is j⟩;show zL ((c::d::a).take (1+nameLen (d::a)))=_
     rw[b,show 1+(m+1)=m+1+1 by omega];have i:c=58:=Xi.1 h58;subst i;rfl
   .split at h
    .obtain⟨f,g,he⟩:∃f g:Nat,sNL (c::r) p=if Zr ((c::r).getD f 0)then .error ⟨2,p⟩else if 2147483647<g then .error ⟨3,p⟩else .ok (⟨4,p,[],[],g⟩,p+f):=⟨_,_,rfl⟩
     rw[he]at h
     split at h
     .cases h
     .split at h
      .cases h
      .cases h;exact Qr (Qr (Qr (Qr (Qt ⟨rfl,rfl,rfl⟩))))
    .split at h
     .unfold quoteR at h
      cases hq:qL r with
      |none=>rw[hq]at h;cases h
      |some y=>
       rw[hq]at h;cases h;exact Qr (Qr (Qr (Qr (Qr ⟨rfl,rfl,rfl⟩))))
     .split at h
      .rename_i hs;cases h;refine Qr (Qr (Qr (Qt ⟨rfl,⟨c,?_,hs⟩,rfl,rfl⟩)));have:YX c=c:=by rcases sign_cases hs with rfl|rfl|rfl|rfl|rfl|rfl|rfl|rfl<;>rfl
       show [YX c]=[c]
       rw[this]
      .cases h
theorem XB:type_of%@List.length_map:=@List.length_map
theorem YT:type_of%@List.length_take:=@List.length_take
theorem Qub{r:L8}(x:PS)(h:Zm r p=.ok x):x.1.spelt.length<=r.length:=by
 have a:∀(k n:Nat) (q:L8),(Yl k q p n).1.spelt.length<=q.length:=fun k n q=>by
  show(zL (q.take n)).length<=_
  unfold zL;rw[XB,YT];omega
 cases r with
 |nil=>unfold Zm at h;dsimp only at h;cases h;simp
 |cons c r=>
  unfold Zm at h;dsimp only at h
  split at h
  .cases h;exact a _ _ _
  .split at h
   .split at h
    .cases h
    .cases h;exact a _ _ _
   .split at h
    .obtain⟨b,d,he⟩:∃b d:Nat,sNL (c::r) p=if Zr ((c::r).getD b 0)then .error ⟨2,p⟩else if 2147483647<d then .error ⟨3,p⟩else .ok (⟨4,p,[],[],d⟩,p+b):=⟨_,_,rfl⟩
     rw[he]at h
     split at h
     .cases h
     .split at h
      .cases h
      .cases h;simp
    .split at h
     .unfold quoteR at h
      cases hq:qL r with
      |none=>rw[hq]at h;cases h
      |some y=>rw[hq]at h;cases h;simp
     .split at h
      .cases h;exact a _ _ _
      .cases h
theorem QtC(h:nL l p=.ok s):s.1.spelt.length<=l.length:=by
 unfold nL at h
 cases hs:Zw (l.length+1) (l.drop p) p with
 |error f=>rw[hs]at h;cases h
 |ok n=>
  rw[hs]at h;have:=Qub s h;rw[Xq]at this;omega
theorem Qy0(h:nL l p=.ok s):WdQ s.1:=by
 unfold nL at h
 cases hs:Zw (l.length+1) (l.drop p) p with
 |error f=>rw[hs]at h;cases h
 |ok n=>rw[hs]at h;exact Qw8 h
section
variable {x:Wd} (h:WdQ x)
include h
theorem KN(f:Y' c=true):kQ x=c.toNat↔x.spelt=[c]:=by
 have a:=sign_cases f;rcases h with⟨k,s,_⟩ | ⟨k,⟨d,r,s,b⟩,_⟩ | ⟨k,⟨d,r,s,b⟩,_⟩ | ⟨k,⟨d,s,b⟩,_⟩ | ⟨k,s,_⟩ | ⟨k,s,_⟩
 all_goals (unfold kQ;rw[k,s];simp)
 .rcases a with rfl|rfl|rfl|rfl|rfl|rfl|rfl|rfl<;>decide
 .constructor
  .intro e;rcases a with rfl|rfl|rfl|rfl|rfl|rfl|rfl|rfl<;>exact absurd e Qb
  .rintro⟨rfl,_⟩;rcases a with rfl|rfl|rfl|rfl|rfl|rfl|rfl|rfl<;>exact absurd b Qb
 .rcases a with rfl|rfl|rfl|rfl|rfl|rfl|rfl|rfl<;>decide
 .exact Xi
 .rcases a with rfl|rfl|rfl|rfl|rfl|rfl|rfl|rfl<;>decide
 .rcases a with rfl|rfl|rfl|rfl|rfl|rfl|rfl|rfl<;>decide
theorem VH:kQ x=119↔x.kind=1:=by
 rcases h with⟨k,s,_⟩ | ⟨k,⟨d,r,s,a⟩,_⟩ | ⟨k,⟨d,r,s,a⟩,_⟩ | ⟨k,⟨d,s,a⟩,_⟩ | ⟨k,s,_⟩ | ⟨k,s,_⟩
 all_goals (unfold kQ;rw[k];simp)
 rw[s];rcases sign_cases a with rfl|rfl|rfl|rfl|rfl|rfl|rfl|rfl<;>decide
theorem Gj:kQ x=58↔x.kind=2:=by
 rcases h with⟨k,s,_⟩ | ⟨k,⟨d,r,s,a⟩,_⟩ | ⟨k,⟨d,r,s,a⟩,_⟩ | ⟨k,⟨d,s,a⟩,_⟩ | ⟨k,s,_⟩ | ⟨k,s,_⟩
 all_goals (unfold kQ;rw[k];simp)
 rw[s];rcases sign_cases a with rfl|rfl|rfl|rfl|rfl|rfl|rfl|rfl<;>decide
theorem Oq:kQ x=34↔x.kind=5:=by
 rcases h with⟨k,s,_⟩ | ⟨k,⟨d,r,s,a⟩,_⟩ | ⟨k,⟨d,r,s,a⟩,_⟩ | ⟨k,⟨d,s,a⟩,_⟩ | ⟨k,s,_⟩ | ⟨k,s,_⟩
 all_goals (unfold kQ;rw[k];simp)
 rw[s];rcases sign_cases a with rfl|rfl|rfl|rfl|rfl|rfl|rfl|rfl<;>decide
theorem Om:kQ x=48↔x.kind=4:=by
 rcases h with⟨k,s,_⟩ | ⟨k,⟨d,r,s,a⟩,_⟩ | ⟨k,⟨d,r,s,a⟩,_⟩ | ⟨k,⟨d,s,a⟩,_⟩ | ⟨k,s,_⟩ | ⟨k,s,_⟩
 all_goals (unfold kQ;rw[k];simp)
 rw[s];rcases sign_cases a with rfl|rfl|rfl|rfl|rfl|rfl|rfl|rfl<;>decide
theorem NY:kQ x=0↔x.kind=0:=by
 rcases h with⟨k,s,_⟩ | ⟨k,⟨d,r,s,a⟩,_⟩ | ⟨k,⟨d,r,s,a⟩,_⟩ | ⟨k,⟨d,s,a⟩,_⟩ | ⟨k,s,_⟩ | ⟨k,s,_⟩
 all_goals (unfold kQ;rw[k];simp)
 rw[s];rcases sign_cases a with rfl|rfl|rfl|rfl|rfl|rfl|rfl|rfl<;>decide
theorem Ap(e:∃c r,z=c::r/\Za c.toNat=true):x.spelt=z↔(x.kind=1/\sQ x=z):=by
 obtain⟨c,r,rfl,b⟩:=e;rcases h with⟨k,s,_⟩ | ⟨k,⟨d,r,s,a⟩,_⟩ | ⟨k,⟨d,r,s,a⟩,_⟩ | ⟨k,⟨d,s,a⟩,_⟩ | ⟨k,s,_⟩ | ⟨k,s,_⟩
 all_goals (unfold sQ;rw[k,s];simp)
 .rintro rfl;exact absurd b Qb
 .rintro rfl;rcases sign_cases a with rfl|rfl|rfl|rfl|rfl|rfl|rfl|rfl<;>exact absurd b Qb
theorem Qvn(b:z≠[]):x.spelt=58::z↔(x.kind=2/\sQ x=z):=by
 rcases h with⟨k,s,_⟩ | ⟨k,⟨d,r,s,a⟩,_⟩ | ⟨k,⟨d,r,s,a⟩,_⟩ | ⟨k,⟨d,s,a⟩,_⟩ | ⟨k,s,_⟩ | ⟨k,s,_⟩
 all_goals (unfold sQ;rw[k,s];simp)
 .rintro rfl;exact absurd a Qb
 .rintro rfl;exact absurd a Qb
end
theorem P4{x:Wd}(a:x.spelt.length<=n)(b:x.said.length<=n):(sQ x).length<=n:=by
 unfold sQ;split
 .exact a
 .split
  .rw[Xq];omega
  .split
   .exact b
   .simp
def Ni(l:L8)(chk:L8->Nat)(f:Nat)(acc:Qn)(s:PS):Qq (Qn×PS):=QL (sL l chk s) fun x s1=>moreL l chk f (acc++[x]) s1
theorem Vd:wL [z] x=if z=x then 1 else 0:=by
 unfold wL;by_cases h:z=x
 .rw[Qi h,Qi h]
 .rw[Qg h,Qg h];rfl
section
variable {l:L8} {chk:L8->Nat} {F:Nat} {s:PS} (hw:WdQ s.1)
include hw
theorem F7(a:¬kQ s.1=91):sLs l chk F s=QL (sL l chk s) fun x s1=>.ok ([x],s1):=by
 have h:¬s.1.spelt=[91]:=fun e=>a ((KN hw (c:=91) Qb).2 e)
 have e:mayL l [[91]] s=.ok (0,s):=by
  have b:wL [[91]] s.1.spelt=0:=by rw[Vd,Qg (fun e=>h e.symm)]
  unfold mayL;rw[Qi b]
 unfold sLs;rw[e];dsimp only
 cases sL l chk s with
 |error f=>rfl
 |ok z=>rfl
theorem TI(a:kQ s.1=91):sLs l chk F s=match nL l s.2 with | .ok s1=>Ni l chk F [] s1 | .error f=>.error f:=by
 have h:s.1.spelt=[91]:=(KN hw (c:=91) Qb).1 a
 have e:mayL l [[91]] s=match nL l s.2 with | .ok s'=>.ok (1,s') | .error f=>.error f:=by
  have b:wL [[91]] s.1.spelt=1:=by rw[Vd,Qi h.symm]
  unfold mayL;rw[b,Qg Qb];cases nL l s.2<;>rfl
 unfold sLs;rw[e]
 cases nL l s.2 with
 |error f=>rfl
 |ok s1=>
  dsimp only;unfold Ni
  cases sL l chk s1 with
  |error f=>rfl
  |ok z=>rfl
theorem QtK(a:kQ s.1=44):moreL l chk (F+1) acc s=match nL l s.2 with | .ok s1=>Ni l chk F acc s1 | .error f=>.error f:=by
 have h:s.1.spelt=[44]:=(KN hw (c:=44) Qb).1 a
 have e:paL l [[44],[93]] s=match nL l s.2 with | .ok s'=>.ok (1,s') | .error f=>.error f:=by
  unfold paL;have b:wL [[44],[93]] s.1.spelt=1:=by rw[h];rfl
  rw[b,Qg Qb];cases nL l s.2<;>rfl
 rw[moreL,e]
 cases nL l s.2 with
 |error f=>rfl
 |ok s1=>
  dsimp only;unfold Ni;rw[Qi rfl]
  cases sL l chk s1 with
  |error f=>rfl
  |ok z=>rfl
theorem Qua(a:kQ s.1=93):moreL l chk (F+1) acc s=match nL l s.2 with | .ok s1=>.ok (acc,s1) | .error f=>.error f:=by
 have h:s.1.spelt=[93]:=(KN hw (c:=93) Qb).1 a
 have e:paL l [[44],[93]] s=match nL l s.2 with | .ok s'=>.ok (2,s') | .error f=>.error f:=by
  unfold paL;have b:wL [[44],[93]] s.1.spelt=2:=by rw[h];rfl
  rw[b,Qg Qb];cases nL l s.2<;>rfl
 rw[moreL,e]
 cases nL l s.2 with
 |error f=>rfl
 |ok s1=>
  dsimp only;rw[Qg Qb]
theorem Qy3(a:¬kQ s.1=44)(b:¬kQ s.1=93):moreL l chk (F+1) acc s=.error ⟨4,s.1.pos⟩:=by
 have g:¬s.1.spelt=[44]:=fun e=>a ((KN hw (c:=44) Qb).2 e)
 have i:¬s.1.spelt=[93]:=fun e=>b ((KN hw (c:=93) Qb).2 e)
 have e:paL l [[44],[93]] s=.error ⟨4,s.1.pos⟩:=by
  unfold paL
  have d:wL [[44],[93]] s.1.spelt=0:=by
   have f:wL [[93]] s.1.spelt=0:=by rw[Vd,Qg (fun e=>i e.symm)]
   unfold wL;rw[Qg (fun e=>g e.symm),Qi f]
  rw[d,Qi rfl]
 rw[moreL,e]
end
end
end Go.Proofs.YtgnkjijocdmniaaGreatDoor
