import Derived.Lib.ItoaLen
import Derived.Lib.Join
import Derived.Lib.ItoaNum
import Derived.Test.YtgnkjijocdmniaaGreatDoorZPlainSpace2
namespace Go.Proofs.YtgnkjijocdmniaaGreatDoor
set_option linter.unusedVariables false
set_option linter.unusedSimpArgs false
set_option maxRecDepth 100000
set_option maxHeartbeats 4000000
def QbE (c:UInt8):L8:=if c=34∨c=92 then [92,c] else [c]
def quotedL (x:L8):L8:=34 :: (x.flatMap QbE++[34])
def Qdw (sep:L8):List (L8)→L8
 | []=>[]
 | [x]=>x
 | x :: y :: r=>x++sep++Qdw sep (y :: r)
theorem QiT(aa:L8):∀ xs:List (L8),Qdw aa xs=Lib.join xs aa
 | []=>rfl
 | [x]=>(Lib.join_one x aa).symm
 |x::y::r=>by
  rw[Qdw,QiT aa (y::r),Lib.join_cons,Lib.join_cons];simp[Lib.joinTail]
def Qam (xs:List (L8)):L8:=
 match xs with
 | [x]=>quotedL x
 | xs=>[91]++Qdw [44,32] (xs.map quotedL)++[93]
def QaH (t p:L8):L8:=(if t≠[]∧p≠[] then t++[32] else t)++p
def phraseL (parts:List (L8)):L8:=parts.foldl QaH []
def tagTextL (tag:Nat) (tags:List (L8)):L8:=if tag=0 then [] else tags.getD (tag - 1) []
def iL (n:Nat):L8:=Lib.decDigits n
def Qbd (hw:L8) (x:Qcv):L8:=
 phraseL [hw,if x.octet then phraseL [Qas,quotedL Qcl] else [],if x.tag≠1 then tagTextL x.tag [tIs,Qaq,Qaz] else [],Qam x.fr,Qam x.keys]
def Qbg (hw:L8) (ts:List (L8)):L8:=hw++[32,40]++Qdw [44,32] ts++[41]
def QaB (x:Qcv) (ts:List (L8)):L8:=
 match x.kind with
 | 0=>QfB
 | 1=>QcD
 | 2=>phraseL (kNot :: ts)
 | 3=>Qbg QbW ts
 | 4=>Qbg QbV ts
 | 5=>Qbd QbX x
 | 6=>Qbd QaL x
 | 7=>Qbd Qbx x
 | 8=>phraseL [QbK,Qam x.fr]
 | _=>phraseL [Qd5,tagTextL x.tag [Qdh,Qb9],iL x.num]
def Qay:(n:Nat)→Qa6 n→L8
 | 0,_=>[]
 | n+1,x=>QaB x.1 (x.2.map (Qay n))
def Qce:L8:=125 :: 32 :: QbM
def Qfe:L8:=[123,10]
def QeI:L8:=125 :: 32 :: (Qch++[32,123,10])
def linesL {α:Type} (txt:α→L8→L8) (cs:List α) (i:L8):L8:=cs.flatMap fun c=>i++txt c i++[10]
def Qc4 (word i:L8) (t b:L8):L8:=phraseL [word,t,Qfe]++b++i
def Qa9 (i:L8):L8→List (L8×L8)→L8
 | _,[]=>[]
 | word,a :: r=>Qc4 word i a.1 a.2++Qa9 i Qce r
def Qbh (x:Qgt) (i:L8) (arms:List (L8×L8)) (els:L8):L8:=
 match x.kind with
 | 0=>Qfk++[59]
 | 1=>Qb0++[59]
 | 2=>Qd6++[59]
 | 3=>phraseL [QaO,quotedL x.arg]++[59]
 | 4=>phraseL [Qbl,quotedL x.arg]++[59]
 | 5=>phraseL [Qbc,quotedL x.arg]++[59]
 | 6=>phraseL [QhB,tagTextL x.tag [QbT,QbU,Qbr],quotedL x.var,quotedL x.arg]++[59]
 | _=>Qa9 i kIf arms++(if x.els then QeI++els++i else [])++[125]
def Qa0:(n:Nat)→Qbo n→L8→L8
 | 0,_,_=>[]
 | n+1,x,i=>Qbh x.1 i (x.2.1.map fun a=>(Qay n a.1,linesL (Qa0 n) a.2 (i++[32,32]))) (linesL (Qa0 n) x.2.2 (i++[32,32]))
def requireTxt (req:List (L8)):L8:=if req=[] then [] else kRequire++[32]++Qam req++[59,10]
def textL (t:List (L8)×List (Qbo 7)):L8:=requireTxt t.1++linesL (Qa0 7) t.2 []
theorem QgA:∀(ps:List (L8)) (t:L8),t.length<=(ps.foldl QaH t).length
 | [],t=>Nat.le_refl _
 |p::r,t=>by
  have h1:=QgA r (QaH t p);have h2:t.length<=(QaH t p).length:=by unfold QaH;split<;>simp
  rw[List.foldl_cons];omega
theorem QkY:∀(ps:List (L8)) (t p:L8),p∈ps->p.length<=(ps.foldl QaH t).length
 | [],t,p,h=>by cases h
 |q::r,t,p,h=>by
  rw[List.foldl_cons];rcases List.mem_cons.1 h with h|h
  ·subst h;have h1:=QgA r (QaH t p);have h2:p.length<=(QaH t p).length:=by unfold QaH;rw[List.length_append];omega
   omega
  ·exact QkY r _ p h
theorem QbB{ps:List (L8)}{p:L8}(h:p∈ps):p.length<=(phraseL ps).length:=QkY ps [] p h
theorem Qg0:∀(xs:List (L8)) (x:L8),x∈xs->x.length<=(Qdw [44,32] xs).length
 | [],x,h=>by cases h
 | [y],x,h=>by rw[List.mem_singleton.1 h];exact Nat.le_refl _
 |y::z::r,x,h=>by
  simp only[Qdw,List.length_append];rcases List.mem_cons.1 h with h|h
  ·subst h;omega
  ·have:=Qg0 (z::r) x h;omega
theorem Qh9{ts:List (L8)}{hw:L8}{t:L8}(h:t∈ts):t.length<=(Qbg hw ts).length:=by
 have:=Qg0 ts t h;unfold Qbg;simp only[List.length_append];omega
theorem QfV:∀ xs:List (L8),xs.length<=(Qdw [44,32] xs).length+1
 | []=>by simp
 | [x]=>by simp
 |x::y::r=>by
  have:=QfV (y::r);simp only[Qdw,List.length_append,List.length_cons,List.length_nil]at this ⊢;omega
def QcZ (i:L8) (ts:List (L8)):L8:=ts.flatMap fun t=>i++t++[10]
theorem Qq4{α:Type}(txt:α->L8->L8)(cs:List α)(i:L8):linesL txt cs i=QcZ i (cs.map fun c=>txt c i):=by
 unfold linesL QcZ;rw[List.flatMap_map]
theorem Qkb(i:L8):∀ ts:List (L8),ts.length<=(QcZ i ts).length
 | []=>by simp
 |t::ts=>by
  have:=Qkb i ts;unfold QcZ at this ⊢;rw[List.flatMap_cons];simp only[List.length_append,List.length_cons,List.length_nil]at this ⊢;omega
theorem QhE(i:L8):∀(ts:List (L8)) (t:L8),t∈ts->t.length<=(QcZ i ts).length
 | [],t,h=>by cases h
 |u::ts,t,h=>by
  unfold QcZ;rw[List.flatMap_cons];simp only[List.length_append,List.length_cons,List.length_nil];rcases List.mem_cons.1 h with h|h
  ·subst h;omega
  ·have:=QhE i ts t h;unfold QcZ at this;simp only[List.append_assoc]at *;omega
theorem QhG(i:L8):∀(al:List (L8×L8)) (aa:L8),al.length<=(Qa9 i aa al).length
 | [],aa=>by simp
 |a::r,aa=>by
  have:=QhG i r Qce
  have h2:1<=(Qc4 aa i a.1 a.2).length:=by
   unfold Qc4;rw[List.length_append,List.length_append];have:=QbB (ps:=[aa,a.1,Qfe]) (p:=Qfe) (by simp);have:Qfe.length=2:=rfl;omega
  show(a::r).length<=(Qc4 aa i a.1 a.2++Qa9 i Qce r).length
  rw[List.length_append,List.length_cons];omega
theorem QgO(i:L8):∀(al:List (L8×L8)) (aa:L8) (a:L8×L8),a∈al->a.1.length<=(Qa9 i aa al).length/\a.2.length<=(Qa9 i aa al).length
 | [],aa,a,h=>by cases h
 |u::al,aa,a,h=>by
  show a.1.length<=(Qc4 aa i u.1 u.2++Qa9 i Qce al).length/\a.2.length<=(Qc4 aa i u.1 u.2++Qa9 i Qce al).length
  rw[List.length_append];rcases List.mem_cons.1 h with h|h
  ·subst h;have h1:=QbB (ps:=[aa,a.1,Qfe]) (p:=a.1) (by simp);unfold Qc4;rw[List.length_append,List.length_append];omega
  ·have:=QgO i al Qce a h;omega
section
def pcL:L8→List (Nat×UInt8)
 | []=>[]
 | [c]=>[if c=42 then (2,0) else if c=63 then (1,0) else (0,c)]
 | c :: d :: r=>if c=42 then (2,0) :: pcL (d :: r) else if c=63 then (1,0) :: pcL (d :: r) else if c=92 then (0,d) :: pcL r else (0,c) :: pcL (d :: r)
def Qgj (p:Nat×UInt8) (c:UInt8):Bool:=p.1 == 1 || (p.1 == 0 && p.2 == c)
def QaW:List (Nat×UInt8)→L8→Bool
 | [],v=>v.isEmpty
 | p :: k,[]=>p.1 == 2 && QaW k []
 | p :: k,c :: v=>if p.1=2 then QaW k (c :: v) || QaW (p :: k) v else Qgj p c && QaW k v
termination_by k v=>k.length+v.length
def QcW:List (Nat×UInt8)→L8→Bool
 | [],[]=>true
 | p :: k,c :: v=>p.1 != 2 && (Qgj p c && QcW k v)
 | _,_=>false
theorem Qfh:∀(k:List (Nat×UInt8)) (v:L8),QcW k v=true->k.length=v.length
 | [],[],_=>rfl
 | [],_::_,h=>by simp[QcW]at h
 |_::_,[],h=>by simp[QcW]at h
 |p::k,c::v,h=>by
  simp only[QcW,Bool.and_eq_true]at h;simp[Qfh k v h.2.2]
theorem Qk2:∀(k:List (Nat×UInt8)) (v:L8) (p:Nat×UInt8) (c:UInt8),QcW k v=true->p.1≠2->Qgj p c=true->QcW (k++[p]) (v++[c])=true
 | [],[],p,c,_,h1,h2=>by simp[QcW,h1,h2]
 | [],_::_,_,_,h,_,_=>by simp[QcW]at h
 |_::_,[],_,_,h,_,_=>by simp[QcW]at h
 |p::k,c::v,q,d,h,h1,h2=>by
  simp only[QcW,Bool.and_eq_true,List.cons_append]at h ⊢;exact⟨h.1,h.2.1,Qk2 k v q d h.2.2 h1 h2⟩
theorem QhM:∀(k:List (Nat×UInt8)) (v:L8) (k':List (Nat×UInt8)) (v':L8),QcW k v=true->QaW (k++k') (v++v')=QaW k' v'
 | [],[],_,_,_=>rfl
 | [],_::_,_,_,h=>by simp[QcW]at h
 |_::_,[],_,_,h=>by simp[QcW]at h
 |p::k,c::v,k',v',h=>by
  simp only[QcW,Bool.and_eq_true,bne_iff_ne,ne_eq]at h;rw[List.cons_append,List.cons_append,QaW,if_neg h.1,h.2.1,Bool.true_and];exact QhM k v k' v' h.2.2
theorem Qkf(x:UInt8)(k:List (Nat×UInt8))(c:UInt8)(v:L8)(h:QaW ((2,x)::k) v=true):QaW ((2,x)::k) (c::v)=true:=by
 rw[QaW,if_pos rfl,h,Bool.or_true]
theorem QkH(x:UInt8)(k:List (Nat×UInt8))(u v:L8)(h:QaW ((2,x)::k) v=true):QaW ((2,x)::k) (u++v)=true:=by
 induction u with
 |nil=>exact h
 |cons c u ih=>exact Qkf x k c _ ih
theorem Qfs(x:UInt8)(k:List (Nat×UInt8))(v:L8)(h:QaW k v=true):QaW ((2,x)::k) v=true:=by
 cases v with
 |nil=>rw[QaW];simp[h]
 |cons c v=>rw[QaW,if_pos rfl,h,Bool.true_or]
theorem Qh2:∀(k:List (Nat×UInt8)) (k':List (Nat×UInt8)) (v:L8),(∀ p,p∈k->p.1≠2)->QaW (k++k') v=true->∃ u v',v=u++v'/\QcW k u=true/\QaW k' v'=true
 | [],k',v,_,h=>⟨[],v,rfl,rfl,h⟩
 |p::k,k',[],hk,h=>by
  rw[List.cons_append,QaW]at h;simp[hk p (List.mem_cons_self ..)]at h
 |p::k,k',c::v,hk,h=>by
  rw[List.cons_append,QaW,if_neg (hk p (List.mem_cons_self ..)),Bool.and_eq_true]at h;obtain⟨u,v',e,a,b⟩:=Qh2 k k' v (fun q hq=>hk q (List.mem_cons_of_mem _ hq)) h.2;exact⟨c::u,v',by rw[e];rfl,by simp[QcW,hk p (List.mem_cons_self ..),h.1,a],b⟩
theorem QfT:∀(k:List (Nat×UInt8)) (v:L8),QcW k v=true->∀ p,p∈k->p.1≠2
 | [],_,_,p,hp=>by cases hp
 |_::_,[],h,_,_=>by simp[QcW]at h
 |q::k,c::v,h,p,hp=>by
  simp only[QcW,Bool.and_eq_true,bne_iff_ne,ne_eq]at h;rcases List.mem_cons.1 hp with rfl|hp
  ·exact h.1
  ·exact QfT k v h.2.2 p hp
theorem QlB(x:UInt8)(k:List (Nat×UInt8))(v:L8)(h:QaW ((2,x)::k) v=true):∃ u v',v=u++v'/\QaW k v'=true:=by
 induction v with
 |nil=>rw[QaW]at h;simp at h;exact⟨[],[],rfl,h⟩
 |cons c v ih=>
  rw[QaW,if_pos rfl,Bool.or_eq_true]at h;rcases h with h|h
  ·exact⟨[],c::v,rfl,h⟩
  ·obtain⟨u,v',e,a⟩:=ih h;exact⟨c::u,v',by rw[e];rfl,a⟩
theorem Qr3(x y:UInt8)(k:List (Nat×UInt8))(u:L8)(k':List (Nat×UInt8))(v:L8)(h:QcW k u=true):QaW ((2,x)::(k++(2,y)::k')) (u++v)=QaW ((2,y)::k') v:=by
 rw[Bool.eq_iff_iff];constructor
 ·intro hm;obtain⟨a,b,e,hb⟩:=QlB x _ _ hm;obtain⟨c,d,e2,hc,hd⟩:=Qh2 k _ b (QfT k u h) hb;have hl:c.length=u.length:=by rw[<-Qfh _ _ hc,Qfh _ _ h]
  have:v=((a++c).drop u.length)++d:=by
   have:=congrArg (List.drop u.length) e;rw[List.drop_left,e2,<-List.append_assoc,List.drop_append_of_le_length (by rw[List.length_append];omega)]at this;exact this
  rw[this];exact QkH y k' _ _ hd
 ·intro hm;exact Qfs x _ _ (by rw[QhM k u _ _ h];exact hm)
theorem Qiz(x:UInt8)(k:List (Nat×UInt8))(c:UInt8)(v:L8)(h:QaW k (c::v)=false):QaW ((2,x)::k) (c::v)=QaW ((2,x)::k) v:=by
 rw[QaW,if_pos rfl,h,Bool.false_or]
theorem Qqv(x:UInt8)(k:List (Nat×UInt8))(u:L8)(p:Nat×UInt8)(k':List (Nat×UInt8))(h:QcW k u=true)(hp:p.1≠2):QaW ((2,x)::(k++p::k')) u=false:=by
 rw[Bool.eq_false_iff];intro hm;obtain⟨a,b,e,hb⟩:=QlB x _ _ hm;have hb':QaW ((k++[p])++k') b=true:=by rw[List.append_assoc];exact hb
 obtain ⟨c,d,e2,hc,_⟩:=Qh2 (k++[p]) k' b (fun q hq=>by
  rcases List.mem_append.1 hq with hq|hq
  ·exact QfT k u h q hq
  ·rw [List.mem_singleton.1 hq];exact hp) hb'
 have h1:=Qfh _ _ hc;have h2:=Qfh _ _ h;have h3:=congrArg List.length e;rw[e2]at h3;simp only[List.length_append,List.length_cons,List.length_nil]at h1 h3;omega
def QiJ (k:List (Nat×UInt8)):L8→Nat
 | []=>0
 | c :: v=>if QaW k (c :: v)=true then 0 else QiJ k v+1
def plL:List (Nat×UInt8)→L8→Nat→List Nat
 | [],_,o=>[o]
 | p :: k,v,o=>o :: (if p.1=2 then plL k (v.drop (QiJ k v)) (o+QiJ k v) else plL k (v.drop 1) (o+1))
theorem Qlo(k:List (Nat×UInt8))(v:L8)(h:QaW k v=true):QiJ k v=0:=by
 cases v with
 |nil=>rfl
 |cons c v=>rw[QiJ,if_pos h]
theorem Qj3:∀(k:List (Nat×UInt8)) (v:L8) (k':List (Nat×UInt8)) (v':L8) (o:Nat),QcW k v=true->plL (k++k') (v++v') o=List.range' o k.length++plL k' v' (o+k.length)
 | [],[],_,_,_,_=>rfl
 | [],_::_,_,_,_,h=>by simp[QcW]at h
 |_::_,[],_,_,_,h=>by simp[QcW]at h
 |p::k,c::v,k',v',o,h=>by
  simp only[QcW,Bool.and_eq_true,bne_iff_ne,ne_eq]at h;rw[List.cons_append,List.cons_append,plL,if_neg h.1,List.length_cons,List.range'_succ,List.cons_append];rw[List.drop_succ_cons,List.drop_zero,Qj3 k v k' v' (o+1) h.2.2,Nat.add_assoc,Nat.add_comm 1]
structure Qfy (v:L8) (key:List (Nat×UInt8)) (s e a k:Nat) (pl:List Nat):Prop where
 sk:s≤k
 kl:k≤key.length
 ea:e+(k - s)=a
 al:a≤v.length
 just:QcW ((key.drop s).take (k - s)) ((v.drop e).take (k - s))=true
 pll:pl.length=key.length+1
 last:pl[key.length]?=some v.length
 run:∀ i,i < k - s→pl[s+i]?=some (e+i)
 same:QaW key v=if s=0 then QaW (key.drop s) (v.drop e) else QaW ((2,0) :: key.drop s) (v.drop e)
 places:QaW key v=true→plL key v 0=pl.take s++(if s=0 then plL (key.drop s) (v.drop e) e else plL (key.drop s) ((v.drop e).drop (QiJ (key.drop s) (v.drop e))) (e+QiJ (key.drop s) (v.drop e)))
theorem Qvd(v:L8)(aa:List (Nat×UInt8))(pl:List Nat)(h1:pl.length=aa.length+1)(h2:pl[aa.length]?=some v.length):Qfy v aa 0 0 0 0 pl:=
 ⟨Nat.le_refl _,Nat.zero_le _,rfl,Nat.zero_le _,rfl,h1,h2,fun i h=>absurd h (Nat.not_lt_zero _),by simp,fun _=>by simp⟩
variable {v:L8} {key:List (Nat×UInt8)} {s e a k:Nat} {pl:List Nat}
theorem Qfy.keyEq(h:Qfy v key s e a k pl):key.drop s=(key.drop s).take (k - s)++key.drop k:=by
 have:=(List.take_append_drop (k - s) (key.drop s)).symm;rwa [List.drop_drop,Nat.add_sub_cancel' h.sk]at this
theorem Qfy.valEq(h:Qfy v key s e a k pl):v.drop e=(v.drop e).take (k - s)++v.drop a:=by
 have:=(List.take_append_drop (k - s) (v.drop e)).symm;rwa [List.drop_drop,h.ea]at this
theorem Qfy.keyLen(h:Qfy v key s e a k pl):((key.drop s).take (k - s)).length=k - s:=by
 rw[List.length_take,List.length_drop];have:=h.sk;have:=h.kl;omega
theorem Qfy.rest(h:Qfy v key s e a k pl):QaW (key.drop s) (v.drop e)=QaW (key.drop k) (v.drop a):=by
 conv=>lhs;rw[h.keyEq,h.valEq]
 exact QhM _ _ _ _ h.just
theorem Qfy.restPlaces(h:Qfy v key s e a k pl):plL (key.drop s) (v.drop e) e=List.range' e (k - s)++plL (key.drop k) (v.drop a) a:=by
 conv=>lhs;rw[h.keyEq,h.valEq]
 rw[Qj3 _ _ _ _ _ h.just,h.keyLen,h.ea]
theorem Qfy.takeEq(h:Qfy v key s e a k pl):pl.take s++List.range' e (k - s)=pl.take k:=by
 apply List.ext_getElem?;intro i;have h1:=h.sk;have h2:=h.kl;have h3:=h.pll;have h4:(pl.take s).length=s:=by rw[List.length_take];omega
 rw[List.getElem?_append,h4];split
 ·next hi=>rw[List.getElem?_take,List.getElem?_take,if_pos hi,if_pos (by omega)]
 ·next hi=>
  rw[List.getElem?_take];split
  ·next hk=>
   rw[List.getElem?_range' (by omega)];have:=h.run (i - s) (by omega);rw[Nat.add_sub_cancel' (by omega)]at this;rw[this,Nat.one_mul]
  ·next hk=>rw[List.getElem?_eq_none];rw[List.length_range'];omega
theorem Qfy.star(h:Qfy v key s e a k pl)(hk:k<key.length)(hs:key[k]=(2,0)):Qfy v key (k+1) a a (k+1) (pl.set k a):=by
 have hd:key.drop k=(2,0)::key.drop (k+1):=by rw[List.drop_eq_getElem_cons hk,hs]
 have aa:QaW key v=QaW ((2,0)::key.drop (k+1)) (v.drop a):=by
  rw[h.same];split
  ·rw[h.rest,hd]
  ·conv=>lhs;rw[h.keyEq,h.valEq,hd]
   exact Qr3 0 0 _ _ _ _ h.just
 refine⟨Nat.le_refl _,hk,by simp,h.al,by simp[QcW],by simp[h.pll],?_,fun i hi=>by omega,?_,fun hm=>?_⟩
 ·rw[List.getElem?_set_ne (by omega)];exact h.last
 ·rw[if_neg (Nat.succ_ne_zero _)];exact aa
 ·rw[if_neg (Nat.succ_ne_zero _),h.places hm];have hz:QaW (key.drop s) (v.drop e)=true:=by rw[h.rest,hd,<-aa,hm]
  rw[Qlo _ _ hz,List.drop_zero,Nat.add_zero,ite_self,h.restPlaces,hd,plL,if_pos rfl,<-List.append_assoc,h.takeEq]
  have:(pl.set k a).take (k+1)=pl.take k++[a]:=by
   have hl:k<(pl.set k a).length:=by rw[List.length_set,h.pll];omega
   rw[List.take_succ_eq_append_getElem hl,List.getElem_set_self,List.take_set_of_le (Nat.le_refl _)]
  rw[this,List.append_assoc];rfl
theorem Qfy.take(h:Qfy v key s e a k pl)(hk:k<key.length)(ha:a<v.length)(hn:key[k].1≠2)(ht:Qgj key[k] v[a]=true):Qfy v key s e (a+1) (k+1) (pl.set k a):=by
 have h1:=h.sk;have h2:=h.ea;have e1:k+1 - s=(k - s)+1:=by omega
 refine⟨by omega,hk,by omega,ha,?_,by simp[h.pll],?_,fun i hi=>?_,h.same,fun hm=>?_⟩
 ·rw[e1,List.take_succ_eq_append_getElem (by rw[List.length_drop];omega),List.take_succ_eq_append_getElem (by rw[List.length_drop];omega)];apply Qk2 _ _ _ _ h.just
  ·simp only[List.getElem_drop,Nat.add_sub_cancel' h1];exact hn
  ·simp only[List.getElem_drop,Nat.add_sub_cancel' h1,h2];exact ht
 ·rw[List.getElem?_set_ne (by omega)];exact h.last
 ·by_cases hi':i<k - s
  ·rw[List.getElem?_set_ne (by omega)];exact h.run i hi'
  ·have:s+i=k:=by omega
   rw[this,List.getElem?_set_self (by rw[h.pll];omega)];congr 1;omega
 ·rw[List.take_set_of_le h1];exact h.places hm
theorem Qfy.no(h:Qfy v key s e a k pl)(hc:(k=key.length/\a<v.length)\/∃(hk:k<key.length),key[k].1≠2/\∀(ha:a<v.length),Qgj key[k] v[a]=false):QaW (key.drop s) (v.drop e)=false:=by
 rw[h.rest];rcases hc with⟨e1,ha⟩ | ⟨hk,hn,ht⟩
 ·rw[e1,List.drop_length,List.drop_eq_getElem_cons ha,QaW];rfl
 ·rw[List.drop_eq_getElem_cons hk];by_cases ha:a<v.length
  ·rw[List.drop_eq_getElem_cons ha,QaW,if_neg hn,ht ha,Bool.false_and]
  ·rw[List.drop_eq_nil_of_le (show v.length<=a by omega),QaW];simp[hn]
theorem Qfy.longer(h:Qfy v key s e a k pl)(hs:s≠0)(ha:a<v.length)(hc:k=key.length\/∃(hk:k<key.length),key[k].1≠2/\Qgj key[k] v[a]=false):Qfy v key s (e+1) (e+1) s pl:=by
 have hno:QaW (key.drop s) (v.drop e)=false:=h.no (by
  rcases hc with e1 | ⟨hk,hn,ht⟩
  ·exact .inl ⟨e1,ha⟩
  ·exact .inr ⟨hk,hn,fun _=>ht⟩)
 have h2:=h.ea;have hd:v.drop e=v[e]::v.drop (e+1):=List.drop_eq_getElem_cons (by omega);rw[hd]at hno;refine⟨Nat.le_refl _,Nat.le_trans h.sk h.kl,by simp,by omega,by simp[QcW],h.pll,h.last,fun i hi=>by omega,?_,fun hm=>?_⟩
 ·rw[h.same,if_neg hs,if_neg hs,hd,Qiz 0 _ _ _ hno]
 ·rw[h.places hm,if_neg hs,if_neg hs,hd,QiJ,hno];simp only[Bool.false_eq_true,if_false,List.drop_succ_cons];rw[Nat.add_assoc,Nat.add_comm 1]
theorem Qfy.yes(h:Qfy v key s e a k pl)(ha:¬ a<v.length)(hk:¬ k<key.length):QaW key v=true/\pl=plL key v 0:=by
 have h1:a=v.length:=Nat.le_antisymm h.al (Nat.not_lt.1 ha);have h2:k=key.length:=Nat.le_antisymm h.kl (Nat.not_lt.1 hk)
 have hz:QaW (key.drop s) (v.drop e)=true:=by
  rw[h.rest,h1,h2,List.drop_length,List.drop_length,QaW];rfl
 have hm:QaW key v=true:=by
  rw[h.same];split
  ·exact hz
  ·exact Qfs 0 _ _ hz
 refine⟨hm,?_⟩;rw[h.places hm,Qlo _ _ hz,List.drop_zero,Nat.add_zero,ite_self,h.restPlaces,<-List.append_assoc,h.takeEq,h1,h2,List.drop_length,plL];have hl:key.length<pl.length:=by rw[h.pll];omega
 have e1:pl[key.length]=v.length:=by
  have:=h.last;rw[List.getElem?_eq_getElem hl]at this;exact Option.some.inj this
 have:=List.take_succ_eq_append_getElem hl;rw[e1,List.take_of_length_le (by rw[h.pll];omega)]at this;exact this
theorem Qfy.never(h:Qfy v key s e a k pl)(hg:a<v.length\/k<key.length)(h1:∀(hk:k<key.length),key[k].1≠2)(h2:∀(hk:k<key.length)(ha:a<v.length),Qgj key[k] v[a]=false)(h3:¬(s≠0/\a<v.length)):QaW key v=false:=by
 rw[h.same];split
 ·apply h.no;by_cases hk:k<key.length
  ·exact .inr ⟨hk,h1 hk,h2 hk⟩
  ·have:=h.kl;exact .inl ⟨by omega,by omega⟩
 ·next hs=>
  have ha:¬ a<v.length:=fun x=>h3 ⟨hs,x⟩
  have hk:k<key.length:=by omega
  have hv:=h.valEq;rw[List.drop_eq_nil_of_le (show v.length<=a by omega),List.append_nil]at hv;rw[h.keyEq,List.drop_eq_getElem_cons hk,hv];exact Qqv 0 _ _ _ _ h.just (h1 hk)
def QiI (v:L8) (key:List (Nat×UInt8)) (s e a:Nat):Nat:=(key.length+v.length - (s+e))*(v.length+1)+(v.length - (a - e))
theorem Qfy.muTake(h:Qfy v key s e a k pl)(ha:a<v.length):QiI v key s e (a+1)<QiI v key s e a:=by
 have:=h.ea;unfold QiI;omega
theorem Qt5{x y n p q:Nat}(h:x<y)(hp:p<=n):x*(n+1)+p<y*(n+1)+q:=by
 have:(x+1)*(n+1)<=y*(n+1):=Nat.mul_le_mul_right _ h;rw[Nat.add_mul]at this;omega
theorem Qfy.muStar(h:Qfy v key s e a k pl)(hk:k<key.length):QiI v key (k+1) a a<QiI v key s e a:=by
 have:=h.ea;have:=h.sk;have:=h.al;exact Qt5 (by omega) (Nat.sub_le _ _)
theorem Qfy.muLonger(h:Qfy v key s e a k pl)(ha:a<v.length):QiI v key s (e+1) (e+1)<QiI v key s e a:=by
 have:=h.ea;have:=h.sk;have:=h.kl;exact Qt5 (by omega) (Nat.sub_le _ _)
end
theorem QtK(x:UInt8)(k:List (Nat×UInt8))(v:L8)(h:QaW ((2,x)::k) v=true):QiJ k v<=v.length/\QaW k (v.drop (QiJ k v))=true:=by
 induction v with
 |nil=>rw[QaW]at h;simp at h;exact⟨Nat.le_refl _,h⟩
 |cons c v ih=>
  rw[QiJ];split
  ·next hm=>exact⟨Nat.zero_le _,hm⟩
  ·next hm=>
   rw[Qiz x k c v (by simpa using hm)]at h;exact⟨Nat.succ_le_succ (ih h).1,by rw[List.drop_succ_cons];exact(ih h).2⟩
theorem QfW:∀(k:List (Nat×UInt8)) (v:L8) (o:Nat),(plL k v o).length=k.length+1
 | [],_,_=>rfl
 |p::k,v,o=>by
  rw[plL,List.length_cons,List.length_cons];split
  ·rw[QfW k]
  ·rw[QfW k]
theorem QpR(k:List (Nat×UInt8))(v:L8)(o:Nat):(plL k v o)[0]?=some o:=by
 cases k<;>rfl
theorem QjX:∀(k:List (Nat×UInt8)) (v:L8) (o:Nat),QaW k v=true->∀ i,i<k.length->∃ x y,(plL k v o)[i]?=some x/\(plL k v o)[i+1]?=some y/\o<=x/\x<=y/\y<=o+v.length
 | [],_,_,_,i,hi=>absurd hi (Nat.not_lt_zero _)
 |p::k,v,o,h,i,hi=>by
  have aa:∃ n,plL (p::k) v o=o::plL k (v.drop n) (o+n)/\n<=v.length/\QaW k (v.drop n)=true:=by
   by_cases hp:p.1=2
   ·obtain⟨p1,x⟩:=p;subst hp;obtain⟨a,b⟩:=QtK x k v h;exact⟨QiJ k v,by rw[plL,if_pos rfl],a,b⟩
   ·cases v with
    |nil=>rw[QaW]at h;simp[hp]at h
    |cons c v=>
     rw[QaW,if_neg hp,Bool.and_eq_true]at h;exact⟨1,by rw[plL,if_neg hp],Nat.succ_le_succ (Nat.zero_le _),h.2⟩
  obtain⟨n,e,hn,hm⟩:=aa;rw[e];have hl:(v.drop n).length=v.length - n:=List.length_drop ..
  cases i with
  |zero=>exact⟨o,o+n,rfl,by rw[List.getElem?_cons_succ];exact QpR ..,Nat.le_refl _,by omega,by omega⟩
  |succ i=>
   obtain⟨x,y,a,b,c,d,f⟩:=QjX k (v.drop n) (o+n) hm i (Nat.lt_of_succ_lt_succ hi);exact⟨x,y,by rw[List.getElem?_cons_succ];exact a,by rw[List.getElem?_cons_succ];exact b,by omega,d,by omega⟩
def toldTo (v:L8) (key:List (Nat×UInt8)) (pl:List Nat):Nat→List (L8)
 | 0=>[v]
 | n+1=>toldTo v key pl n++(if (key.getD n (0,0)).1=0 then [] else [(v.drop (pl.getD n 0)).take (pl.getD (n+1) 0 - pl.getD n 0)])
theorem Qke(v:L8)(aa:List (Nat×UInt8))(pl:List Nat)(n:Nat):∃ r,toldTo v aa pl n=v::r:=by
 induction n with
 |zero=>exact⟨[],rfl⟩
 |succ n ih=>
  obtain⟨r,e⟩:=ih;exact⟨_,by rw[toldTo,e,List.cons_append]⟩
structure Msg where
 fr:L8
 to:L8
 size:Int
 hdrs:List (L8×L8)
structure SS where
 vs:Bool
 vals:L8→Option (L8)
 told:List (L8)
 met:List (Int×L8)
 disc:Bool
abbrev FZ:=Int×Int
def QtH (s:SS) (t:List (L8)):SS:=⟨s.vs,s.vals,t,s.met,s.disc⟩
def Qxa (s:SS) (l:List (Int×L8)):SS:=⟨s.vs,s.vals,s.told,l,s.disc⟩
def Qsp (s:SS):SS:=⟨s.vs,s.vals,s.told,s.met,true⟩
def ss0 (v:Bool):SS:=⟨v,fun _=>none,[],[],false⟩
def nmLen (l:L8):Nat:=
 match l with
 | []=>0
 | c :: r=>if QaS c.toNat then 1 else Qa5 (c :: r)
def Qk4 (s:SS) (name:L8):L8:=
 match name with
 | []=>[]
 | c :: r=>if QaS c.toNat then s.told.getD (c.toNat - 48) [] else (s.vals (zL (c :: r))).getD []
def QeO (l:L8):Nat:=
 if l.take 2=[36,123]∧((l.drop 2).drop (nmLen (l.drop 2))).take 1=[125] then nmLen (l.drop 2) else 0
def standL (s:SS) (l:L8):L8×Nat:=
 if QeO l=0 then (l.take 1,1) else (Qk4 s ((l.drop 2).take (QeO l)),3+QeO l)
def QoW (s:SS):Nat→L8→L8→L8
 | 0,_,acc=>acc
 | n+1,l,acc=>if l≠[]∧acc.length < 1024 then QoW s n (l.drop (standL s l).2) (acc++(standL s l).1.take (1024 - acc.length)) else acc
def expL (s:SS) (l:L8):L8:=if s.vs then QoW s (l.length+1) l [] else l
def lookL (oct:Bool) (x:L8):L8:=if oct then x else zL x
def Qyz (k:L8):L8→Bool
 | []=>k.isPrefixOf []
 | c :: v=>k.isPrefixOf (c :: v) || Qyz k v
def QtF (tag:Int) (oct:Bool) (v k:L8):Bool:=
 if tag=1 then decide (lookL oct v=lookL oct k)
 else if tag=2 then Qyz (lookL oct k) (lookL oct v)
 else QaW (pcL (lookL oct k)) (lookL oct v)
def wayT (tag:Int) (oct:Bool) (v k:L8):Option (List (L8)):=
 if tag=3 then some (toldTo v (pcL (lookL oct k)) (plL (pcL (lookL oct k)) (lookL oct v) 0) (pcL (lookL oct k)).length) else none
def Qt8 (tag:Int) (oct:Bool) (v:L8):List (L8)→Option (L8)
 | []=>none
 | k :: r=>if QtF tag oct v k then some k else Qt8 tag oct v r
def QpO (tag:Int) (oct:Bool) (keys:List (L8)):List (L8)→Option (L8×L8)
 | []=>none
 | v :: r=>match Qt8 tag oct v keys with
  | some k=>some (v,k)
  | none=>QpO tag oct keys r
def askL (s:SS) (tag:Int) (oct:Bool) (vals keys:List (L8)):Bool×SS:=
 match QpO tag oct (keys.map (expL s)) vals with
 | none=>(false,s)
 | some (v,k)=>(true,match wayT tag oct v k with
  | some t=>QtH s t
  | none=>s)
def Qcj (h:L8×L8) (n:L8):Bool:=decide (zL h.1=zL n)
def fieldsL (M:Msg) (names:List (L8)):List (L8):=names.flatMap fun n=>(M.hdrs.filter (Qcj · n)).map (·.2)
def QiQ (M:Msg) (parts:List (L8)):List (L8):=parts.flatMap fun p=>if zL p=[102,114,111,109] then [M.fr] else if zL p=[116,111] then [M.to] else []
def existsL (M:Msg) (names:List (L8)):Bool:=names.all fun n=>M.hdrs.any (Qcj · n)
def sizeB (M:Msg) (tag n:Int):Bool:=if tag=2 then decide (M.size < n) else decide (n < M.size)
def QxM (c:UInt8):Bool:=letdig c || c == 45 || c == 46
def Qdp (x:L8):Bool:=!x.isEmpty && (decide (x.length≤16) && (x.head? != some 46 && x.all QxM))
def Qcw (x:L8):Bool:=decide (3≤x.length) && (decide (x.length≤32) && (decide (x.count 64=1) && (x.all (fun c=>!Qa8 c.toNat) && (x.head? != some 64 && x.getLast? != some 64))))
def cutArg (kind:Int) (arg:L8):L8:=if kind=4 then arg.take 48 else arg
def addL (met:List (Int×L8)) (kind:Int) (arg:L8):Int×List (Int×L8):=
 if kind=2∧Qdp arg=false then (8,met)
 else if kind=3∧Qcw arg=false then (9,met)
 else if (kind,cutArg kind arg)∈met then (0,met)
 else if met≠[]∧(kind=4∨(met.headD (0,[])).1=4) then (10,met)
 else if met.length=6 then (11,met)
 else (0,met++[(kind,cutArg kind arg)])
def QxF (s:SS):List (Int×L8):=if s.met=[]∧s.disc=false then [(1,[])] else s.met
def QwN (c:UInt8):UInt8:=if QjS c.toNat then c - 97+65 else c
def capL (l:L8):L8:=l.map QwN
def Qo1 (tag:Int) (x:L8):L8:=
 if tag=1 then zL x else if tag=2 then capL x else if tag=3 then Lib.decDigits x.length else x
def QxK (s:SS) (name:L8) (tag:Int) (said:L8):SS:=
 ⟨s.vs,fun x=>if x=name then some ((Qo1 tag (expL s said)).take 48) else s.vals x,s.told,s.met,s.disc⟩
structure Ins where
 op:Int
 n:Int
 tag:Int
 oct:Bool
 a:List (L8)
 b:List (L8)
 at_:Int
structure MS where
 st:SS
 stack:List Bool
 now:Nat
 next:Nat
def Qm0 (v:Bool) (m:MS):Except FZ MS:=if m.stack.length < 8 then .ok ⟨m.st,m.stack++[v],m.now,m.next⟩ else .error (12,m.now)
def Qrs (m:MS):MS:=⟨m.st,m.stack.dropLast,m.now,m.next⟩
def goL (m:MS) (n:Nat):MS:=⟨m.st,m.stack,m.now,n⟩
def stL (m:MS) (s:SS):MS:=⟨s,m.stack,m.now,m.next⟩
def atL (m:MS):MS:=⟨m.st,m.stack,m.next,m.next+1⟩
def topL (m:MS):Bool:=m.stack.getLastD false
def QiL (count:Nat) (m:MS) (n:Int):Bool:=decide (0≤n) && decide (n≤(count:Int) - m.next)
def Qu1 (i:Ins) (m:MS) (arg:L8):Except FZ MS:=
 if (addL m.st.met i.tag (expL m.st arg)).1=0 then .ok (stL m (Qxa m.st (addL m.st.met i.tag (expL m.st arg)).2)) else .error ((addL m.st.met i.tag (expL m.st arg)).1,i.at_)
def QtW (r:Bool×SS) (m:MS):Except FZ MS:=Qm0 r.1 (stL m r.2)
def Qc1 (m:MS):Except FZ MS:=.error (12,m.now)
def Qix (i:Ins) (m:MS):Except FZ MS:=if i.n=0∨i.n=1 then Qm0 (decide (i.n=1)) m else Qc1 m
def Qnv (m:MS):Except FZ MS:=if m.stack=[] then Qc1 m else Qm0 (!topL m) (Qrs m)
def Qgm (count:Nat) (i:Ins) (m:MS):Except FZ MS:=if QiL count m i.n then .ok (goL m (m.next+i.n.toNat)) else Qc1 m
def doCond (taken:Bool) (count:Nat) (i:Ins) (m:MS):Except FZ MS:=
 if QiL count m i.n then
  (if m.stack=[] then Qc1 m else .ok (if topL m=taken then goL (Qrs m) (m.next+i.n.toNat) else Qrs m))
 else Qc1 m
def doAsk (vals:List (L8)) (i:Ins) (m:MS):Except FZ MS:=
 if 1≤i.tag∧i.tag≤3 then QtW (askL m.st i.tag i.oct vals i.b) m else Qc1 m
def Qgp (M:Msg) (i:Ins) (m:MS):Except FZ MS:=if i.tag=1∨i.tag=2 then Qm0 (sizeB M i.tag i.n) m else Qc1 m
def QiO (i:Ins) (m:MS):Except FZ MS:=
 if i.tag=1 then Qu1 i m [] else if 2≤i.tag∧i.tag≤4∧i.a≠[] then Qu1 i m (i.a.headD []) else Qc1 m
def QkE (i:Ins) (m:MS):Except FZ MS:=
 if 0≤i.tag∧i.tag≤3∧i.a≠[]∧i.b≠[] then .ok (stL m (QxK m.st (i.a.headD []) i.tag (i.b.headD []))) else Qc1 m
def stepL (M:Msg) (count:Nat) (i:Ins) (m:MS):Except FZ MS:=
 if i.op=1 then Qix i m
 else if i.op=2 then Qnv m
 else if i.op=3 then Qgm count i m
 else if i.op=4 then doCond true count i m
 else if i.op=5 then doCond false count i m
 else if i.op=6 then doAsk (fieldsL M (i.a.map (expL m.st))) i m
 else if i.op=7 then doAsk (QiQ M i.a) i m
 else if i.op=8 then doAsk (i.a.map (expL m.st)) i m
 else if i.op=9 then Qm0 (existsL M (i.a.map (expL m.st))) m
 else if i.op=10 then Qgp M i m
 else if i.op=11 then QiO i m
 else if i.op=12 then QkE i m
 else if i.op=13 then .ok (stL m (Qsp m.st))
 else if i.op=14 then .ok (goL m count)
 else Qc1 m
def QyA:Ins:=⟨0,0,0,false,[],[],0⟩
def QdH (M:Msg) (code:List Ins):Nat→MS→Nat→Except FZ MS×Nat
 | 0,m,d=>(.ok m,d)
 | f+1,m,d=>
  if m.next < code.length then
   (match stepL M code.length (code.getD m.next QyA) (atL m) with
    | .error e=>(.error e,d+1)
    | .ok m'=>QdH M code f m' (d+1))
  else (.ok m,d)
def ms0 (v:Bool):MS:=⟨ss0 v,[],0,0⟩
def execL (v:Bool) (code:List Ins) (M:Msg):List (Int×L8)×Nat×Option FZ:=
 if 400 < code.length then ([(1,[])],0,some (12,400))
 else match QdH M code code.length (ms0 v) 0 with
  | (.error e,d)=>([(1,[])],d,some e)
  | (.ok m,d)=>(QxF m.st,d,none)
theorem QfK{v:Bool}{m m':MS}(h:Qm0 v m=.ok m'):m'.next=m.next:=by
 unfold Qm0 at h
 split at h
 ·cases h;rfl
 ·cases h
theorem Qn4{i:Ins}{m m':MS}{x:L8}(h:Qu1 i m x=.ok m'):m'.next=m.next:=by
 unfold Qu1 at h
 split at h
 ·cases h;rfl
 ·cases h
theorem Qrx{aa:Nat}{m:MS}{n:Int}(h:QiL aa m n=true):m.next+n.toNat<=aa:=by
 unfold QiL at h;simp at h;omega
theorem QhI{M:Msg}{aa:Nat}{i:Ins}{m m':MS}(h:stepL M aa i m=.ok m')(hn:m.next<=aa):m.next<=m'.next/\m'.next<=aa:=by
 have ab:∀ k:Nat,k=m.next->k=m'.next->m.next<=m'.next/\m'.next<=aa:=fun k h1 h2=>by omega
 unfold stepL at h;by_cases h1:i.op=1
 ·rw[if_pos h1]at h;unfold Qix Qc1 at h
  split at h
  ·exact ab _ rfl (QfK h).symm
  ·cases h
 rw[if_neg h1]at h;by_cases h1:i.op=2
 ·rw[if_pos h1]at h;unfold Qnv Qc1 at h
  split at h
  ·cases h
  ·exact ab _ rfl (QfK h).symm
 rw[if_neg h1]at h;by_cases h1:i.op=3
 ·rw[if_pos h1]at h;unfold Qgm Qc1 at h
  split at h
  ·next hm=>cases h;exact⟨Nat.le_add_right _ _,Qrx hm⟩
  ·cases h
 rw[if_neg h1]at h
 have hc:∀ tk,doCond tk aa i m=.ok m'->m.next<=m'.next/\m'.next<=aa:=fun tk h=>by
  unfold doCond Qc1 at h
  split at h
  ·next hm=>
   split at h
   ·cases h
   ·cases h;split
    ·exact⟨Nat.le_add_right _ _,Qrx hm⟩
    ·exact⟨Nat.le_refl _,hn⟩
  ·cases h
 by_cases h1:i.op=4
 ·rw[if_pos h1]at h;exact hc _ h
 rw[if_neg h1]at h;by_cases h1:i.op=5
 ·rw[if_pos h1]at h;exact hc _ h
 rw[if_neg h1]at h
 have ha:∀ vals,doAsk vals i m=.ok m'->m.next<=m'.next/\m'.next<=aa:=fun vals h=>by
  unfold doAsk Qc1 QtW at h
  split at h
  ·exact ab _ rfl (QfK h).symm
  ·cases h
 by_cases h1:i.op=6
 ·rw[if_pos h1]at h;exact ha _ h
 rw[if_neg h1]at h;by_cases h1:i.op=7
 ·rw[if_pos h1]at h;exact ha _ h
 rw[if_neg h1]at h;by_cases h1:i.op=8
 ·rw[if_pos h1]at h;exact ha _ h
 rw[if_neg h1]at h;by_cases h1:i.op=9
 ·rw[if_pos h1]at h;exact ab _ rfl (QfK h).symm
 rw[if_neg h1]at h;by_cases h1:i.op=10
 ·rw[if_pos h1]at h;unfold Qgp Qc1 at h
  split at h
  ·exact ab _ rfl (QfK h).symm
  ·cases h
 rw[if_neg h1]at h;by_cases h1:i.op=11
 ·rw[if_pos h1]at h;unfold QiO Qc1 at h
  split at h
  ·exact ab _ rfl (Qn4 h).symm
  ·split at h
   ·exact ab _ rfl (Qn4 h).symm
   ·cases h
 rw[if_neg h1]at h;by_cases h1:i.op=12
 ·rw[if_pos h1]at h;unfold QkE Qc1 at h
  split at h
  ·cases h;exact⟨Nat.le_refl _,hn⟩
  ·cases h
 rw[if_neg h1]at h;by_cases h1:i.op=13
 ·rw[if_pos h1]at h;cases h;exact⟨Nat.le_refl _,hn⟩
 rw[if_neg h1]at h;by_cases h1:i.op=14
 ·rw[if_pos h1]at h;cases h;exact⟨hn,Nat.le_refl _⟩
 rw[if_neg h1]at h;cases h
def insOp (op:Int):Ins:=⟨op,0,0,false,[],[],0⟩
def pushI (h:Bool):Ins:=⟨1,if h then 1 else 0,0,false,[],[],0⟩
def Qb2 (op:Int) (x:Qcv):Ins:=⟨op,0,x.tag,x.octet,x.fr,x.keys,0⟩
def Qgx (kind:Int) (pos:Nat) (a:List (L8)):Ins:=⟨11,0,kind,false,a,[],pos⟩
def Qgg (n:Int) (i:Ins):Ins:=⟨i.op,n,i.tag,i.oct,i.a,i.b,i.at_⟩
def landL (js:List Nat) (cs:List Ins):List Ins:=js.foldl (fun c j=>c.modify j (Qgg ((c.length:Int) - ((j:Int)+1)))) cs
def blockC {α:Type} (sub:α→List Ins→List Ins) (ts:List α) (cs:List Ins):List Ins:=ts.foldl (fun c t=>sub t c) cs
def Qe6 {α:Type} (sub:α→List Ins→List Ins) (jump:Int) (p:List Ins×List Nat) (t:α):List Ins×List Nat:=(sub t p.1++[insOp jump],p.2++[(sub t p.1).length])
def Qed (settled:Bool) (r:List Ins×List Nat):List Ins:=
 landL [r.1.length+1] (landL r.2 (r.1++[pushI (!settled),insOp 3])++[pushI settled])
def Qdb {α:Type} (sub:α→List Ins→List Ins) (jump:Int) (settled:Bool) (ts:List α) (cs:List Ins):List Ins:=
 Qed settled (ts.foldl (Qe6 sub jump) (cs,[]))
def Qa1 {α:Type} (sub:α→List Ins→List Ins) (x:Qcv) (ts:List α) (cs:List Ins):List Ins:=
 match x.kind with
 | 0=>cs++[pushI true]
 | 1=>cs++[pushI false]
 | 2=>blockC sub ts cs++[insOp 2]
 | 3=>Qdb sub 5 false ts cs
 | 4=>Qdb sub 4 true ts cs
 | 5=>cs++[Qb2 6 x]
 | 6=>cs++[Qb2 7 x]
 | 7=>cs++[Qb2 8 x]
 | 8=>cs++[⟨9,0,0,false,x.fr,[],0⟩]
 | _=>cs++[⟨10,x.num,x.tag,false,[],[],0⟩]
def Qb7:(n:Nat)→Qa6 n→List Ins→List Ins
 | 0,_,cs=>cs
 | n+1,x,cs=>Qa1 (Qb7 n) x.1 x.2 cs
def QmZ {α β:Type} (tst:β→List Ins→List Ins) (cmd:α→List Ins→List Ins) (p:List Ins×List Nat) (a:β×List α):List Ins×List Nat:=
 (landL [(tst a.1 p.1).length] (blockC cmd a.2 (tst a.1 p.1++[insOp 5])++[insOp 3]),p.2++[(blockC cmd a.2 (tst a.1 p.1++[insOp 5])).length])
def Qd0 {α:Type} (cmd:α→List Ins→List Ins) (els:List α) (r:List Ins×List Nat):List Ins:=landL r.2 (blockC cmd els r.1)
def QdT {α β:Type} (tst:β→List Ins→List Ins) (cmd:α→List Ins→List Ins) (arms:List (β×List α)) (els:List α) (cs:List Ins):List Ins:=
 Qd0 cmd els (arms.foldl (QmZ tst cmd) (cs,[]))
def Qbn {α β:Type} (tst:β→List Ins→List Ins) (cmd:α→List Ins→List Ins) (x:Qgt) (arms:List (β×List α)) (els:List α) (cs:List Ins):List Ins:=
 match x.kind with
 | 0=>cs++[Qgx 1 x.pos []]
 | 1=>cs++[⟨13,0,0,false,[],[],x.pos⟩]
 | 2=>cs++[⟨14,0,0,false,[],[],x.pos⟩]
 | 3=>cs++[Qgx 2 x.pos [x.arg]]
 | 4=>cs++[Qgx 3 x.pos [x.arg]]
 | 5=>cs++[Qgx 4 x.pos [x.arg]]
 | 6=>cs++[⟨12,0,x.tag,false,[x.var],[x.arg],x.pos⟩]
 | _=>QdT tst cmd arms els cs
def Qkc:(n:Nat)→Qbo n→List Ins→List Ins
 | 0,_,cs=>cs
 | n+1,x,cs=>Qbn (Qb7 n) (Qkc n) x.1 x.2.1 x.2.2 cs
def QcF (cs:List (Qbo 7)):List Ins:=blockC (Qkc 7) cs []
end Go.Proofs.YtgnkjijocdmniaaGreatDoor
