import Derived.Lib.Index
namespace Go.Proofs.YtbiclelojbfnbaaGreatDoor
set_option linter.unusedVariables false
set_option linter.unusedSimpArgs false
set_option maxRecDepth 100000
set_option maxHeartbeats 4000000
section
def piecesL:List UInt8→List (Nat×UInt8)
 | []=>[]
 | [c]=>[if c=42 then (2,0) else if c=63 then (1,0) else (0,c)]
 | c :: d :: r=>if c=42 then (2,0) :: piecesL (d :: r) else if c=63 then (1,0) :: piecesL (d :: r) else if c=92 then (0,d) :: piecesL r else (0,c) :: piecesL (d :: r)
def QfH (p:Nat×UInt8) (c:UInt8):Bool:=p.1 == 1 || (p.1 == 0 && p.2 == c)
def QaU:List (Nat×UInt8)→List UInt8→Bool
 | [],v=>v.isEmpty
 | p :: k,[]=>p.1 == 2 && QaU k []
 | p :: k,c :: v=>if p.1=2 then QaU k (c :: v) || QaU (p :: k) v else QfH p c && QaU k v
termination_by k v=>k.length+v.length
def QcV:List (Nat×UInt8)→List UInt8→Bool
 | [],[]=>true
 | p :: k,c :: v=>p.1 != 2 && (QfH p c && QcV k v)
 | _,_=>false
theorem QeT:∀ (k:List (Nat×UInt8)) (v:List UInt8),QcV k v=true→k.length=v.length
 | [],[],_=>rfl
 | [],_ :: _,h=>by simp [QcV] at h
 | _ :: _,[],h=>by simp [QcV] at h
 | p :: k,c :: v,h=>by
  simp only [QcV,Bool.and_eq_true] at h
  simp [QeT k v h.2.2]
theorem Qj7:∀ (k:List (Nat×UInt8)) (v:List UInt8) (p:Nat×UInt8) (c:UInt8),QcV k v=true→p.1≠2→QfH p c=true→QcV (k++[p]) (v++[c])=true
 | [],[],p,c,_,h1,h2=>by simp [QcV,h1,h2]
 | [],_ :: _,_,_,h,_,_=>by simp [QcV] at h
 | _ :: _,[],_,_,h,_,_=>by simp [QcV] at h
 | p :: k,c :: v,q,d,h,h1,h2=>by
  simp only [QcV,Bool.and_eq_true,List.cons_append] at h ⊢
  exact ⟨h.1,h.2.1,Qj7 k v q d h.2.2 h1 h2⟩
theorem QgP:∀ (k:List (Nat×UInt8)) (v:List UInt8) (k':List (Nat×UInt8)) (v':List UInt8),QcV k v=true→QaU (k++k') (v++v')=QaU k' v'
 | [],[],_,_,_=>rfl
 | [],_ :: _,_,_,h=>by simp [QcV] at h
 | _ :: _,[],_,_,h=>by simp [QcV] at h
 | p :: k,c :: v,k',v',h=>by
  simp only [QcV,Bool.and_eq_true,bne_iff_ne,ne_eq] at h
  rw [List.cons_append,List.cons_append,QaU,if_neg h.1,h.2.1,Bool.true_and]
  exact QgP k v k' v' h.2.2
theorem QiR (x:UInt8) (k:List (Nat×UInt8)) (c:UInt8) (v:List UInt8) (h:QaU ((2,x) :: k) v=true):QaU ((2,x) :: k) (c :: v)=true:=by
 rw [QaU,if_pos rfl,h,Bool.or_true]
theorem Qju (x:UInt8) (k:List (Nat×UInt8)) (u v:List UInt8) (h:QaU ((2,x) :: k) v=true):QaU ((2,x) :: k) (u++v)=true:=by
 induction u with
 | nil=>exact h
 | cons c u ih=>exact QiR x k c _ ih
theorem Qe0 (x:UInt8) (k:List (Nat×UInt8)) (v:List UInt8) (h:QaU k v=true):QaU ((2,x) :: k) v=true:=by
 cases v with
 | nil=>rw [QaU];simp [h]
 | cons c v=>rw [QaU,if_pos rfl,h,Bool.true_or]
theorem QgS:∀ (k:List (Nat×UInt8)) (k':List (Nat×UInt8)) (v:List UInt8),(∀ p,p∈k→p.1≠2)→QaU (k++k') v=true→∃ u v',v=u++v'∧QcV k u=true∧QaU k' v'=true
 | [],k',v,_,h=>⟨[],v,rfl,rfl,h⟩
 | p :: k,k',[],hk,h=>by
  rw [List.cons_append,QaU] at h
  simp [hk p (List.mem_cons_self ..)] at h
 | p :: k,k',c :: v,hk,h=>by
  rw [List.cons_append,QaU,if_neg (hk p (List.mem_cons_self ..)),Bool.and_eq_true] at h
  obtain ⟨u,v',e,a,b⟩:=QgS k k' v (fun q hq=>hk q (List.mem_cons_of_mem _ hq)) h.2
  exact ⟨c :: u,v',by rw [e];rfl,by simp [QcV,hk p (List.mem_cons_self ..),h.1,a],b⟩
theorem QeR:∀ (k:List (Nat×UInt8)) (v:List UInt8),QcV k v=true→∀ p,p∈k→p.1≠2
 | [],_,_,p,hp=>by cases hp
 | _ :: _,[],h,_,_=>by simp [QcV] at h
 | q :: k,c :: v,h,p,hp=>by
  simp only [QcV,Bool.and_eq_true,bne_iff_ne,ne_eq] at h
  rcases List.mem_cons.1 hp with rfl | hp
  ·exact h.1
  ·exact QeR k v h.2.2 p hp
theorem QjB (x:UInt8) (k:List (Nat×UInt8)) (v:List UInt8) (h:QaU ((2,x) :: k) v=true):∃ u v',v=u++v'∧QaU k v'=true:=by
 induction v with
 | nil=>rw [QaU] at h;simp at h;exact ⟨[],[],rfl,h⟩
 | cons c v ih=>
  rw [QaU,if_pos rfl,Bool.or_eq_true] at h
  rcases h with h | h
  ·exact ⟨[],c :: v,rfl,h⟩
  ·obtain ⟨u,v',e,a⟩:=ih h
   exact ⟨c :: u,v',by rw [e];rfl,a⟩
theorem Qp6 (x y:UInt8) (k:List (Nat×UInt8)) (u:List UInt8) (k':List (Nat×UInt8)) (v:List UInt8) (h:QcV k u=true):QaU ((2,x) :: (k++(2,y) :: k')) (u++v)=QaU ((2,y) :: k') v:=by
 rw [Bool.eq_iff_iff]
 constructor
 ·intro hm
  obtain ⟨a,b,e,hb⟩:=QjB x _ _ hm
  obtain ⟨c,d,e2,hc,hd⟩:=QgS k _ b (QeR k u h) hb
  have hl:c.length=u.length:=by rw [← QeT _ _ hc,QeT _ _ h]
  have:v=((a++c).drop u.length)++d:=by
   have:=congrArg (List.drop u.length) e
   rw [List.drop_left,e2,← List.append_assoc,List.drop_append_of_le_length (by rw [List.length_append];omega)] at this
   exact this
  rw [this]
  exact Qju y k' _ _ hd
 ·intro hm
  exact Qe0 x _ _ (by rw [QgP k u _ _ h];exact hm)
theorem Qhy (x:UInt8) (k:List (Nat×UInt8)) (c:UInt8) (v:List UInt8) (h:QaU k (c :: v)=false):QaU ((2,x) :: k) (c :: v)=QaU ((2,x) :: k) v:=by
 rw [QaU,if_pos rfl,h,Bool.false_or]
theorem Qou (x:UInt8) (k:List (Nat×UInt8)) (u:List UInt8) (p:Nat×UInt8) (k':List (Nat×UInt8)) (h:QcV k u=true) (hp:p.1≠2):QaU ((2,x) :: (k++p :: k')) u=false:=by
 rw [Bool.eq_false_iff]
 intro hm
 obtain ⟨a,b,e,hb⟩:=QjB x _ _ hm
 have hb':QaU ((k++[p])++k') b=true:=by rw [List.append_assoc];exact hb
 obtain ⟨c,d,e2,hc,_⟩:=QgS (k++[p]) k' b (fun q hq=>by
  rcases List.mem_append.1 hq with hq | hq
  ·exact QeR k u h q hq
  ·rw [List.mem_singleton.1 hq];exact hp) hb'
 have h1:=QeT _ _ hc
 have h2:=QeT _ _ h
 have h3:=congrArg List.length e
 rw [e2] at h3
 simp only [List.length_append,List.length_cons,List.length_nil] at h1 h3
 omega
def QhP (k:List (Nat×UInt8)):List UInt8→Nat
 | []=>0
 | c :: v=>if QaU k (c :: v)=true then 0 else QhP k v+1
def placesL:List (Nat×UInt8)→List UInt8→Nat→List Nat
 | [],_,o=>[o]
 | p :: k,v,o=>o :: (if p.1=2 then placesL k (v.drop (QhP k v)) (o+QhP k v) else placesL k (v.drop 1) (o+1))
theorem QjE (k:List (Nat×UInt8)) (v:List UInt8) (h:QaU k v=true):QhP k v=0:=by
 cases v with
 | nil=>rfl
 | cons c v=>rw [QhP,if_pos h]
theorem QiZ:∀ (k:List (Nat×UInt8)) (v:List UInt8) (k':List (Nat×UInt8)) (v':List UInt8) (o:Nat),QcV k v=true→placesL (k++k') (v++v') o=List.range' o k.length++placesL k' v' (o+k.length)
 | [],[],_,_,_,_=>rfl
 | [],_ :: _,_,_,_,h=>by simp [QcV] at h
 | _ :: _,[],_,_,_,h=>by simp [QcV] at h
 | p :: k,c :: v,k',v',o,h=>by
  simp only [QcV,Bool.and_eq_true,bne_iff_ne,ne_eq] at h
  rw [List.cons_append,List.cons_append,placesL,if_neg h.1,List.length_cons,List.range'_succ,List.cons_append]
  rw [List.drop_succ_cons,List.drop_zero,QiZ k v k' v' (o+1) h.2.2,Nat.add_assoc,Nat.add_comm 1]
structure Qfg (v:List UInt8) (key:List (Nat×UInt8)) (s e a k:Nat) (pl:List Nat):Prop where
 sk:s≤k
 kl:k≤key.length
 ea:e+(k - s)=a
 al:a≤v.length
 just:QcV ((key.drop s).take (k - s)) ((v.drop e).take (k - s))=true
 pll:pl.length=key.length+1
 last:pl[key.length]?=some v.length
 run:∀ i,i < k - s→pl[s+i]?=some (e+i)
 same:QaU key v=if s=0 then QaU (key.drop s) (v.drop e) else QaU ((2,0) :: key.drop s) (v.drop e)
 places:QaU key v=true→placesL key v 0=pl.take s++(if s=0 then placesL (key.drop s) (v.drop e) e else placesL (key.drop s) ((v.drop e).drop (QhP (key.drop s) (v.drop e))) (e+QhP (key.drop s) (v.drop e)))
theorem QtG (v:List UInt8) (key:List (Nat×UInt8)) (pl:List Nat) (h1:pl.length=key.length+1) (h2:pl[key.length]?=some v.length):Qfg v key 0 0 0 0 pl:=
 ⟨Nat.le_refl _,Nat.zero_le _,rfl,Nat.zero_le _,rfl,h1,h2,fun i h=>absurd h (Nat.not_lt_zero _),by simp,fun _=>by simp⟩
variable {v:List UInt8} {key:List (Nat×UInt8)} {s e a k:Nat} {pl:List Nat}
theorem Qfg.keyEq (h:Qfg v key s e a k pl):key.drop s=(key.drop s).take (k - s)++key.drop k:=by
 have:=(List.take_append_drop (k - s) (key.drop s)).symm
 rwa [List.drop_drop,Nat.add_sub_cancel' h.sk] at this
theorem Qfg.valEq (h:Qfg v key s e a k pl):v.drop e=(v.drop e).take (k - s)++v.drop a:=by
 have:=(List.take_append_drop (k - s) (v.drop e)).symm
 rwa [List.drop_drop,h.ea] at this
theorem Qfg.keyLen (h:Qfg v key s e a k pl):((key.drop s).take (k - s)).length=k - s:=by
 rw [List.length_take,List.length_drop]
 have:=h.sk
 have:=h.kl
 omega
theorem Qfg.rest (h:Qfg v key s e a k pl):QaU (key.drop s) (v.drop e)=QaU (key.drop k) (v.drop a):=by
 conv=>lhs;rw [h.keyEq,h.valEq]
 exact QgP _ _ _ _ h.just
theorem Qfg.restPlaces (h:Qfg v key s e a k pl):placesL (key.drop s) (v.drop e) e=List.range' e (k - s)++placesL (key.drop k) (v.drop a) a:=by
 conv=>lhs;rw [h.keyEq,h.valEq]
 rw [QiZ _ _ _ _ _ h.just,h.keyLen,h.ea]
theorem Qfg.takeEq (h:Qfg v key s e a k pl):pl.take s++List.range' e (k - s)=pl.take k:=by
 apply List.ext_getElem?
 intro i
 have h1:=h.sk
 have h2:=h.kl
 have h3:=h.pll
 have h4:(pl.take s).length=s:=by rw [List.length_take];omega
 rw [List.getElem?_append,h4]
 split
 ·next hi=>rw [List.getElem?_take,List.getElem?_take,if_pos hi,if_pos (by omega)]
 ·next hi=>
  rw [List.getElem?_take]
  split
  ·next hk=>
   rw [List.getElem?_range' (by omega)]
   have:=h.run (i - s) (by omega)
   rw [Nat.add_sub_cancel' (by omega)] at this
   rw [this,Nat.one_mul]
  ·next hk=>rw [List.getElem?_eq_none];rw [List.length_range'];omega
theorem Qfg.star (h:Qfg v key s e a k pl) (hk:k < key.length) (hs:key[k]=(2,0)):Qfg v key (k+1) a a (k+1) (pl.set k a):=by
 have hd:key.drop k=(2,0) :: key.drop (k+1):=by rw [List.drop_eq_getElem_cons hk,hs]
 have hsame:QaU key v=QaU ((2,0) :: key.drop (k+1)) (v.drop a):=by
  rw [h.same]
  split
  ·rw [h.rest,hd]
  ·conv=>lhs;rw [h.keyEq,h.valEq,hd]
   exact Qp6 0 0 _ _ _ _ h.just
 refine ⟨Nat.le_refl _,hk,by simp,h.al,by simp [QcV],by simp [h.pll],?_,fun i hi=>by omega,?_,fun hm=>?_⟩
 ·rw [List.getElem?_set_ne (by omega)];exact h.last
 ·rw [if_neg (Nat.succ_ne_zero _)];exact hsame
 ·rw [if_neg (Nat.succ_ne_zero _),h.places hm]
  have hz:QaU (key.drop s) (v.drop e)=true:=by rw [h.rest,hd,← hsame,hm]
  rw [QjE _ _ hz,List.drop_zero,Nat.add_zero,ite_self,h.restPlaces,hd,placesL,if_pos rfl,← List.append_assoc,h.takeEq]
  have:(pl.set k a).take (k+1)=pl.take k++[a]:=by
   have hl:k < (pl.set k a).length:=by rw [List.length_set,h.pll];omega
   rw [List.take_succ_eq_append_getElem hl,List.getElem_set_self,List.take_set_of_le (Nat.le_refl _)]
  rw [this,List.append_assoc]
  rfl
theorem Qfg.take (h:Qfg v key s e a k pl) (hk:k < key.length) (ha:a < v.length) (hn:key[k].1≠2) (ht:QfH key[k] v[a]=true):Qfg v key s e (a+1) (k+1) (pl.set k a):=by
 have h1:=h.sk
 have h2:=h.ea
 have e1:k+1 - s=(k - s)+1:=by omega
 refine ⟨by omega,hk,by omega,ha,?_,by simp [h.pll],?_,fun i hi=>?_,h.same,fun hm=>?_⟩
 ·rw [e1,List.take_succ_eq_append_getElem (by rw [List.length_drop];omega),List.take_succ_eq_append_getElem (by rw [List.length_drop];omega)]
  apply Qj7 _ _ _ _ h.just
  ·simp only [List.getElem_drop,Nat.add_sub_cancel' h1];exact hn
  ·simp only [List.getElem_drop,Nat.add_sub_cancel' h1,h2];exact ht
 ·rw [List.getElem?_set_ne (by omega)];exact h.last
 ·by_cases hi':i < k - s
  ·rw [List.getElem?_set_ne (by omega)];exact h.run i hi'
  ·have:s+i=k:=by omega
   rw [this,List.getElem?_set_self (by rw [h.pll];omega)]
   congr 1
   omega
 ·rw [List.take_set_of_le h1];exact h.places hm
theorem Qfg.no (h:Qfg v key s e a k pl) (hc:(k=key.length∧a < v.length)∨∃ (hk:k < key.length),key[k].1≠2∧∀ (ha:a < v.length),QfH key[k] v[a]=false):QaU (key.drop s) (v.drop e)=false:=by
 rw [h.rest]
 rcases hc with ⟨e1,ha⟩ | ⟨hk,hn,ht⟩
 ·rw [e1,List.drop_length,List.drop_eq_getElem_cons ha,QaU];rfl
 ·rw [List.drop_eq_getElem_cons hk]
  by_cases ha:a < v.length
  ·rw [List.drop_eq_getElem_cons ha,QaU,if_neg hn,ht ha,Bool.false_and]
  ·rw [List.drop_eq_nil_of_le (show v.length≤a by omega),QaU]
   simp [hn]
theorem Qfg.longer (h:Qfg v key s e a k pl) (hs:s≠0) (ha:a < v.length) (hc:k=key.length∨∃ (hk:k < key.length),key[k].1≠2∧QfH key[k] v[a]=false):Qfg v key s (e+1) (e+1) s pl:=by
 have hno:QaU (key.drop s) (v.drop e)=false:=h.no (by
  rcases hc with e1 | ⟨hk,hn,ht⟩
  ·exact .inl ⟨e1,ha⟩
  ·exact .inr ⟨hk,hn,fun _=>ht⟩)
 have h2:=h.ea
 have hd:v.drop e=v[e] :: v.drop (e+1):=List.drop_eq_getElem_cons (by omega)
 rw [hd] at hno
 refine ⟨Nat.le_refl _,Nat.le_trans h.sk h.kl,by simp,by omega,by simp [QcV],h.pll,h.last,fun i hi=>by omega,?_,fun hm=>?_⟩
 ·rw [h.same,if_neg hs,if_neg hs,hd,Qhy 0 _ _ _ hno]
 ·rw [h.places hm,if_neg hs,if_neg hs,hd,QhP,hno]
  simp only [Bool.false_eq_true,if_false,List.drop_succ_cons]
  rw [Nat.add_assoc,Nat.add_comm 1]
theorem Qfg.yes (h:Qfg v key s e a k pl) (ha:¬ a < v.length) (hk:¬ k < key.length):QaU key v=true∧pl=placesL key v 0:=by
 have h1:a=v.length:=Nat.le_antisymm h.al (Nat.not_lt.1 ha)
 have h2:k=key.length:=Nat.le_antisymm h.kl (Nat.not_lt.1 hk)
 have hz:QaU (key.drop s) (v.drop e)=true:=by
  rw [h.rest,h1,h2,List.drop_length,List.drop_length,QaU];rfl
 have hm:QaU key v=true:=by
  rw [h.same]
  split
  ·exact hz
  ·exact Qe0 0 _ _ hz
 refine ⟨hm,?_⟩
 rw [h.places hm,QjE _ _ hz,List.drop_zero,Nat.add_zero,ite_self,h.restPlaces,← List.append_assoc,h.takeEq,h1,h2,List.drop_length,placesL]
 have hl:key.length < pl.length:=by rw [h.pll];omega
 have e1:pl[key.length]=v.length:=by
  have:=h.last
  rw [List.getElem?_eq_getElem hl] at this
  exact Option.some.inj this
 have:=List.take_succ_eq_append_getElem hl
 rw [e1,List.take_of_length_le (by rw [h.pll];omega)] at this
 exact this
theorem Qfg.never (h:Qfg v key s e a k pl) (hg:a < v.length∨k < key.length) (h1:∀ (hk:k < key.length),key[k].1≠2) (h2:∀ (hk:k < key.length) (ha:a < v.length),QfH key[k] v[a]=false) (h3:¬ (s≠0∧a < v.length)):QaU key v=false:=by
 rw [h.same]
 split
 ·apply h.no
  by_cases hk:k < key.length
  ·exact .inr ⟨hk,h1 hk,h2 hk⟩
  ·have:=h.kl
   exact .inl ⟨by omega,by omega⟩
 ·next hs=>
  have ha:¬ a < v.length:=fun x=>h3 ⟨hs,x⟩
  have hk:k < key.length:=by omega
  have hv:=h.valEq
  rw [List.drop_eq_nil_of_le (show v.length≤a by omega),List.append_nil] at hv
  rw [h.keyEq,List.drop_eq_getElem_cons hk,hv]
  exact Qou 0 _ _ _ _ h.just (h1 hk)
def QhH (v:List UInt8) (key:List (Nat×UInt8)) (s e a:Nat):Nat:=(key.length+v.length - (s+e))*(v.length+1)+(v.length - (a - e))
theorem Qfg.muTake (h:Qfg v key s e a k pl) (ha:a < v.length):QhH v key s e (a+1) < QhH v key s e a:=by
 have:=h.ea
 unfold QhH
 omega
theorem Qr8 {x y n p q:Nat} (h:x < y) (hp:p≤n):x*(n+1)+p < y*(n+1)+q:=by
 have:(x+1)*(n+1)≤y*(n+1):=Nat.mul_le_mul_right _ h
 rw [Nat.add_mul] at this
 omega
theorem Qfg.muStar (h:Qfg v key s e a k pl) (hk:k < key.length):QhH v key (k+1) a a < QhH v key s e a:=by
 have:=h.ea
 have:=h.sk
 have:=h.al
 exact Qr8 (by omega) (Nat.sub_le _ _)
theorem Qfg.muLonger (h:Qfg v key s e a k pl) (ha:a < v.length):QhH v key s (e+1) (e+1) < QhH v key s e a:=by
 have:=h.ea
 have:=h.sk
 have:=h.kl
 exact Qr8 (by omega) (Nat.sub_le _ _)
end
theorem Qrb (x:UInt8) (k:List (Nat×UInt8)) (v:List UInt8) (h:QaU ((2,x) :: k) v=true):QhP k v≤v.length∧QaU k (v.drop (QhP k v))=true:=by
 induction v with
 | nil=>rw [QaU] at h;simp at h;exact ⟨Nat.le_refl _,h⟩
 | cons c v ih=>
  rw [QhP]
  split
  ·next hm=>exact ⟨Nat.zero_le _,hm⟩
  ·next hm=>
   rw [Qhy x k c v (by simpa using hm)] at h
   exact ⟨Nat.succ_le_succ (ih h).1,by rw [List.drop_succ_cons];exact (ih h).2⟩
theorem Qfq:∀ (k:List (Nat×UInt8)) (v:List UInt8) (o:Nat),(placesL k v o).length=k.length+1
 | [],_,_=>rfl
 | p :: k,v,o=>by
  rw [placesL,List.length_cons,List.length_cons]
  split
  ·rw [Qfq k]
  ·rw [Qfq k]
theorem QnZ (k:List (Nat×UInt8)) (v:List UInt8) (o:Nat):(placesL k v o)[0]?=some o:=by
 cases k <;> rfl
theorem Qia:∀ (k:List (Nat×UInt8)) (v:List UInt8) (o:Nat),QaU k v=true→∀ i,i < k.length→∃ x y,(placesL k v o)[i]?=some x∧(placesL k v o)[i+1]?=some y∧o≤x∧x≤y∧y≤o+v.length
 | [],_,_,_,i,hi=>absurd hi (Nat.not_lt_zero _)
 | p :: k,v,o,h,i,hi=>by
  have key:∃ n,placesL (p :: k) v o=o :: placesL k (v.drop n) (o+n)∧n≤v.length∧QaU k (v.drop n)=true:=by
   by_cases hp:p.1=2
   ·obtain ⟨p1,x⟩:=p
    subst hp
    obtain ⟨a,b⟩:=Qrb x k v h
    exact ⟨QhP k v,by rw [placesL,if_pos rfl],a,b⟩
   ·cases v with
    | nil=>rw [QaU] at h;simp [hp] at h
    | cons c v=>
     rw [QaU,if_neg hp,Bool.and_eq_true] at h
     exact ⟨1,by rw [placesL,if_neg hp],Nat.succ_le_succ (Nat.zero_le _),h.2⟩
  obtain ⟨n,e,hn,hm⟩:=key
  rw [e]
  have hl:(v.drop n).length=v.length - n:=List.length_drop ..
  cases i with
  | zero=>exact ⟨o,o+n,rfl,by rw [List.getElem?_cons_succ];exact QnZ ..,Nat.le_refl _,by omega,by omega⟩
  | succ i=>
   obtain ⟨x,y,a,b,c,d,f⟩:=Qia k (v.drop n) (o+n) hm i (Nat.lt_of_succ_lt_succ hi)
   exact ⟨x,y,by rw [List.getElem?_cons_succ];exact a,by rw [List.getElem?_cons_succ];exact b,by omega,d,by omega⟩
def toldTo (v:List UInt8) (key:List (Nat×UInt8)) (pl:List Nat):Nat→List (List UInt8)
 | 0=>[v]
 | n+1=>toldTo v key pl n++(if (key.getD n (0,0)).1=0 then [] else [(v.drop (pl.getD n 0)).take (pl.getD (n+1) 0 - pl.getD n 0)])
theorem Qi5 (v:List UInt8) (key:List (Nat×UInt8)) (pl:List Nat) (n:Nat):∃ r,toldTo v key pl n=v :: r:=by
 induction n with
 | zero=>exact ⟨[],rfl⟩
 | succ n ih=>
  obtain ⟨r,e⟩:=ih
  exact ⟨_,by rw [toldTo,e,List.cons_append]⟩
end Go.Proofs.YtbiclelojbfnbaaGreatDoor
