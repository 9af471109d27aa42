import Derived.Lib.Index
import Derived.Lib.ItoaNum
import Derived.Test.YtbiclelojbfnbaaGreatDoorZPlainAsk
import Derived.Test.YtbiclelojbfnbaaGreatDoorZPlainLen
namespace Go.Proofs.YtbiclelojbfnbaaGreatDoor
set_option linter.unusedVariables false
set_option linter.unusedSimpArgs false
set_option maxRecDepth 100000
set_option maxHeartbeats 4000000
section
def piecesL:List UInt8→List (Nat×UInt8)
 | []=>[]
 | [c]=>[if c=42 then (2,0) else if c=63 then (1,0) else (0,c)]
 | c :: d :: r=>if c=42 then (2,0) :: piecesL (d :: r) else if c=63 then (1,0) :: piecesL (d :: r) else if c=92 then (0,d) :: piecesL r else (0,c) :: piecesL (d :: r)
def takesL (p:Nat×UInt8) (c:UInt8):Bool:=p.1 == 1 || (p.1 == 0 && p.2 == c)
def matchB:List (Nat×UInt8)→List UInt8→Bool
 | [],v=>v.isEmpty
 | p :: k,[]=>p.1 == 2 && matchB k []
 | p :: k,c :: v=>if p.1=2 then matchB k (c :: v) || matchB (p :: k) v else takesL p c && matchB k v
termination_by k v=>k.length+v.length
def justB:List (Nat×UInt8)→List UInt8→Bool
 | [],[]=>true
 | p :: k,c :: v=>p.1 != 2 && (takesL p c && justB k v)
 | _,_=>false
theorem justB_len:∀ (k:List (Nat×UInt8)) (v:List UInt8),justB k v=true→k.length=v.length
 | [],[],_=>rfl
 | [],_ :: _,h=>by simp [justB] at h
 | _ :: _,[],h=>by simp [justB] at h
 | p :: k,c :: v,h=>by
  simp only [justB,Bool.and_eq_true] at h
  simp [justB_len k v h.2.2]
theorem justB_snoc:∀ (k:List (Nat×UInt8)) (v:List UInt8) (p:Nat×UInt8) (c:UInt8),justB k v=true→p.1≠2→takesL p c=true→justB (k++[p]) (v++[c])=true
 | [],[],p,c,_,h1,h2=>by simp [justB,h1,h2]
 | [],_ :: _,_,_,h,_,_=>by simp [justB] at h
 | _ :: _,[],_,_,h,_,_=>by simp [justB] at h
 | p :: k,c :: v,q,d,h,h1,h2=>by
  simp only [justB,Bool.and_eq_true,List.cons_append] at h ⊢
  exact ⟨h.1,h.2.1,justB_snoc k v q d h.2.2 h1 h2⟩
theorem match_just:∀ (k:List (Nat×UInt8)) (v:List UInt8) (k':List (Nat×UInt8)) (v':List UInt8),justB k v=true→matchB (k++k') (v++v')=matchB k' v'
 | [],[],_,_,_=>rfl
 | [],_ :: _,_,_,h=>by simp [justB] at h
 | _ :: _,[],_,_,h=>by simp [justB] at h
 | p :: k,c :: v,k',v',h=>by
  simp only [justB,Bool.and_eq_true,bne_iff_ne,ne_eq] at h
  rw [List.cons_append,List.cons_append,matchB,if_neg h.1,h.2.1,Bool.true_and]
  exact match_just k v k' v' h.2.2
theorem match_star_more (x:UInt8) (k:List (Nat×UInt8)) (c:UInt8) (v:List UInt8) (h:matchB ((2,x) :: k) v=true):matchB ((2,x) :: k) (c :: v)=true:=by
 rw [matchB,if_pos rfl,h,Bool.or_true]
theorem match_star_app (x:UInt8) (k:List (Nat×UInt8)) (u v:List UInt8) (h:matchB ((2,x) :: k) v=true):matchB ((2,x) :: k) (u++v)=true:=by
 induction u with
 | nil=>exact h
 | cons c u ih=>exact match_star_more x k c _ ih
theorem match_star_zero (x:UInt8) (k:List (Nat×UInt8)) (v:List UInt8) (h:matchB k v=true):matchB ((2,x) :: k) v=true:=by
 cases v with
 | nil=>rw [matchB];simp [h]
 | cons c v=>rw [matchB,if_pos rfl,h,Bool.true_or]
theorem match_long:∀ (k:List (Nat×UInt8)) (k':List (Nat×UInt8)) (v:List UInt8),(∀ p,p∈k→p.1≠2)→matchB (k++k') v=true→∃ u v',v=u++v'∧justB k u=true∧matchB k' v'=true
 | [],k',v,_,h=>⟨[],v,rfl,rfl,h⟩
 | p :: k,k',[],hk,h=>by
  rw [List.cons_append,matchB] at h
  simp [hk p (List.mem_cons_self ..)] at h
 | p :: k,k',c :: v,hk,h=>by
  rw [List.cons_append,matchB,if_neg (hk p (List.mem_cons_self ..)),Bool.and_eq_true] at h
  obtain ⟨u,v',e,a,b⟩:=match_long k k' v (fun q hq=>hk q (List.mem_cons_of_mem _ hq)) h.2
  exact ⟨c :: u,v',by rw [e];rfl,by simp [justB,hk p (List.mem_cons_self ..),h.1,a],b⟩
theorem justB_nostar:∀ (k:List (Nat×UInt8)) (v:List UInt8),justB k v=true→∀ p,p∈k→p.1≠2
 | [],_,_,p,hp=>by cases hp
 | _ :: _,[],h,_,_=>by simp [justB] at h
 | q :: k,c :: v,h,p,hp=>by
  simp only [justB,Bool.and_eq_true,bne_iff_ne,ne_eq] at h
  rcases List.mem_cons.1 hp with rfl | hp
  ·exact h.1
  ·exact justB_nostar k v h.2.2 p hp
theorem match_star (x:UInt8) (k:List (Nat×UInt8)) (v:List UInt8) (h:matchB ((2,x) :: k) v=true):∃ u v',v=u++v'∧matchB k v'=true:=by
 induction v with
 | nil=>rw [matchB] at h;simp at h;exact ⟨[],[],rfl,h⟩
 | cons c v ih=>
  rw [matchB,if_pos rfl,Bool.or_eq_true] at h
  rcases h with h | h
  ·exact ⟨[],c :: v,rfl,h⟩
  ·obtain ⟨u,v',e,a⟩:=ih h
   exact ⟨c :: u,v',by rw [e];rfl,a⟩
theorem match_meet (x y:UInt8) (k:List (Nat×UInt8)) (u:List UInt8) (k':List (Nat×UInt8)) (v:List UInt8) (h:justB k u=true):matchB ((2,x) :: (k++(2,y) :: k')) (u++v)=matchB ((2,y) :: k') v:=by
 rw [Bool.eq_iff_iff]
 constructor
 ·intro hm
  obtain ⟨a,b,e,hb⟩:=match_star x _ _ hm
  obtain ⟨c,d,e2,hc,hd⟩:=match_long k _ b (justB_nostar k u h) hb
  have hl:c.length=u.length:=by rw [← justB_len _ _ hc,justB_len _ _ h]
  have:v=((a++c).drop u.length)++d:=by
   have:=congrArg (List.drop u.length) e
   rw [List.drop_left,e2,← List.append_assoc,List.drop_append_of_le_length (by rw [List.length_append];omega)] at this
   exact this
  rw [this]
  exact match_star_app y k' _ _ hd
 ·intro hm
  exact match_star_zero x _ _ (by rw [match_just k u _ _ h];exact hm)
theorem match_longer (x:UInt8) (k:List (Nat×UInt8)) (c:UInt8) (v:List UInt8) (h:matchB k (c :: v)=false):matchB ((2,x) :: k) (c :: v)=matchB ((2,x) :: k) v:=by
 rw [matchB,if_pos rfl,h,Bool.false_or]
theorem match_short (x:UInt8) (k:List (Nat×UInt8)) (u:List UInt8) (p:Nat×UInt8) (k':List (Nat×UInt8)) (h:justB k u=true) (hp:p.1≠2):matchB ((2,x) :: (k++p :: k')) u=false:=by
 rw [Bool.eq_false_iff]
 intro hm
 obtain ⟨a,b,e,hb⟩:=match_star x _ _ hm
 have hb':matchB ((k++[p])++k') b=true:=by rw [List.append_assoc];exact hb
 obtain ⟨c,d,e2,hc,_⟩:=match_long (k++[p]) k' b (fun q hq=>by
  rcases List.mem_append.1 hq with hq | hq
  ·exact justB_nostar k u h q hq
  ·rw [List.mem_singleton.1 hq];exact hp) hb'
 have h1:=justB_len _ _ hc
 have h2:=justB_len _ _ h
 have h3:=congrArg List.length e
 rw [e2] at h3
 simp only [List.length_append,List.length_cons,List.length_nil] at h1 h3
 omega
def starN (k:List (Nat×UInt8)):List UInt8→Nat
 | []=>0
 | c :: v=>if matchB k (c :: v)=true then 0 else starN k v+1
def placesL:List (Nat×UInt8)→List UInt8→Nat→List Nat
 | [],_,o=>[o]
 | p :: k,v,o=>o :: (if p.1=2 then placesL k (v.drop (starN k v)) (o+starN k v) else placesL k (v.drop 1) (o+1))
theorem starN_zero (k:List (Nat×UInt8)) (v:List UInt8) (h:matchB k v=true):starN k v=0:=by
 cases v with
 | nil=>rfl
 | cons c v=>rw [starN,if_pos h]
theorem places_just:∀ (k:List (Nat×UInt8)) (v:List UInt8) (k':List (Nat×UInt8)) (v':List UInt8) (o:Nat),justB k v=true→placesL (k++k') (v++v') o=List.range' o k.length++placesL k' v' (o+k.length)
 | [],[],_,_,_,_=>rfl
 | [],_ :: _,_,_,_,h=>by simp [justB] at h
 | _ :: _,[],_,_,_,h=>by simp [justB] at h
 | p :: k,c :: v,k',v',o,h=>by
  simp only [justB,Bool.and_eq_true,bne_iff_ne,ne_eq] at h
  rw [List.cons_append,List.cons_append,placesL,if_neg h.1,List.length_cons,List.range'_succ,List.cons_append]
  rw [List.drop_succ_cons,List.drop_zero,places_just k v k' v' (o+1) h.2.2,Nat.add_assoc,Nat.add_comm 1]
structure FitI (v:List UInt8) (key:List (Nat×UInt8)) (s e a k:Nat) (pl:List Nat):Prop where
 sk:s≤k
 kl:k≤key.length
 ea:e+(k - s)=a
 al:a≤v.length
 just:justB ((key.drop s).take (k - s)) ((v.drop e).take (k - s))=true
 pll:pl.length=key.length+1
 last:pl[key.length]?=some v.length
 run:∀ i,i < k - s→pl[s+i]?=some (e+i)
 same:matchB key v=if s=0 then matchB (key.drop s) (v.drop e) else matchB ((2,0) :: key.drop s) (v.drop e)
 places:matchB key v=true→placesL key v 0=pl.take s++(if s=0 then placesL (key.drop s) (v.drop e) e else placesL (key.drop s) ((v.drop e).drop (starN (key.drop s) (v.drop e))) (e+starN (key.drop s) (v.drop e)))
theorem fit_init (v:List UInt8) (key:List (Nat×UInt8)) (pl:List Nat) (h1:pl.length=key.length+1) (h2:pl[key.length]?=some v.length):FitI v key 0 0 0 0 pl:=
 ⟨Nat.le_refl _,Nat.zero_le _,rfl,Nat.zero_le _,rfl,h1,h2,fun i h=>absurd h (Nat.not_lt_zero _),by simp,fun _=>by simp⟩
variable {v:List UInt8} {key:List (Nat×UInt8)} {s e a k:Nat} {pl:List Nat}
theorem FitI.keyEq (h:FitI v key s e a k pl):key.drop s=(key.drop s).take (k - s)++key.drop k:=by
 have:=(List.take_append_drop (k - s) (key.drop s)).symm
 rwa [List.drop_drop,Nat.add_sub_cancel' h.sk] at this
theorem FitI.valEq (h:FitI v key s e a k pl):v.drop e=(v.drop e).take (k - s)++v.drop a:=by
 have:=(List.take_append_drop (k - s) (v.drop e)).symm
 rwa [List.drop_drop,h.ea] at this
theorem FitI.keyLen (h:FitI v key s e a k pl):((key.drop s).take (k - s)).length=k - s:=by
 rw [List.length_take,List.length_drop]
 have:=h.sk
 have:=h.kl
 omega
theorem FitI.rest (h:FitI v key s e a k pl):matchB (key.drop s) (v.drop e)=matchB (key.drop k) (v.drop a):=by
 conv=>lhs;rw [h.keyEq,h.valEq]
 exact match_just _ _ _ _ h.just
theorem FitI.restPlaces (h:FitI v key s e a k pl):placesL (key.drop s) (v.drop e) e=List.range' e (k - s)++placesL (key.drop k) (v.drop a) a:=by
 conv=>lhs;rw [h.keyEq,h.valEq]
 rw [places_just _ _ _ _ _ h.just,h.keyLen,h.ea]
theorem FitI.takeEq (h:FitI v key s e a k pl):pl.take s++List.range' e (k - s)=pl.take k:=by
 apply List.ext_getElem?
 intro i
 have h1:=h.sk
 have h2:=h.kl
 have h3:=h.pll
 have h4:(pl.take s).length=s:=by rw [List.length_take];omega
 rw [List.getElem?_append,h4]
 split
 ·next hi=>rw [List.getElem?_take,List.getElem?_take,if_pos hi,if_pos (by omega)]
 ·next hi=>
  rw [List.getElem?_take]
  split
  ·next hk=>
   rw [List.getElem?_range' (by omega)]
   have:=h.run (i - s) (by omega)
   rw [Nat.add_sub_cancel' (by omega)] at this
   rw [this,Nat.one_mul]
  ·next hk=>rw [List.getElem?_eq_none];rw [List.length_range'];omega
theorem FitI.star (h:FitI v key s e a k pl) (hk:k < key.length) (hs:key[k]=(2,0)):FitI v key (k+1) a a (k+1) (pl.set k a):=by
 have hd:key.drop k=(2,0) :: key.drop (k+1):=by rw [List.drop_eq_getElem_cons hk,hs]
 have hsame:matchB key v=matchB ((2,0) :: key.drop (k+1)) (v.drop a):=by
  rw [h.same]
  split
  ·rw [h.rest,hd]
  ·conv=>lhs;rw [h.keyEq,h.valEq,hd]
   exact match_meet 0 0 _ _ _ _ h.just
 refine ⟨Nat.le_refl _,hk,by simp,h.al,by simp [justB],by simp [h.pll],?_,fun i hi=>by omega,?_,fun hm=>?_⟩
 ·rw [List.getElem?_set_ne (by omega)];exact h.last
 ·rw [if_neg (Nat.succ_ne_zero _)];exact hsame
 ·rw [if_neg (Nat.succ_ne_zero _),h.places hm]
  have hz:matchB (key.drop s) (v.drop e)=true:=by rw [h.rest,hd,← hsame,hm]
  rw [starN_zero _ _ hz,List.drop_zero,Nat.add_zero,ite_self,h.restPlaces,hd,placesL,if_pos rfl,← List.append_assoc,h.takeEq]
  have:(pl.set k a).take (k+1)=pl.take k++[a]:=by
   have hl:k < (pl.set k a).length:=by rw [List.length_set,h.pll];omega
   rw [List.take_succ_eq_append_getElem hl,List.getElem_set_self,List.take_set_of_le (Nat.le_refl _)]
  rw [this,List.append_assoc]
  rfl
theorem FitI.take (h:FitI v key s e a k pl) (hk:k < key.length) (ha:a < v.length) (hn:key[k].1≠2) (ht:takesL key[k] v[a]=true):FitI v key s e (a+1) (k+1) (pl.set k a):=by
 have h1:=h.sk
 have h2:=h.ea
 have e1:k+1 - s=(k - s)+1:=by omega
 refine ⟨by omega,hk,by omega,ha,?_,by simp [h.pll],?_,fun i hi=>?_,h.same,fun hm=>?_⟩
 ·rw [e1,List.take_succ_eq_append_getElem (by rw [List.length_drop];omega),List.take_succ_eq_append_getElem (by rw [List.length_drop];omega)]
  apply justB_snoc _ _ _ _ h.just
  ·simp only [List.getElem_drop,Nat.add_sub_cancel' h1];exact hn
  ·simp only [List.getElem_drop,Nat.add_sub_cancel' h1,h2];exact ht
 ·rw [List.getElem?_set_ne (by omega)];exact h.last
 ·by_cases hi':i < k - s
  ·rw [List.getElem?_set_ne (by omega)];exact h.run i hi'
  ·have:s+i=k:=by omega
   rw [this,List.getElem?_set_self (by rw [h.pll];omega)]
   congr 1
   omega
 ·rw [List.take_set_of_le h1];exact h.places hm
theorem FitI.no (h:FitI v key s e a k pl) (hc:(k=key.length∧a < v.length)∨∃ (hk:k < key.length),key[k].1≠2∧∀ (ha:a < v.length),takesL key[k] v[a]=false):matchB (key.drop s) (v.drop e)=false:=by
 rw [h.rest]
 rcases hc with ⟨e1,ha⟩ | ⟨hk,hn,ht⟩
 ·rw [e1,List.drop_length,List.drop_eq_getElem_cons ha,matchB];rfl
 ·rw [List.drop_eq_getElem_cons hk]
  by_cases ha:a < v.length
  ·rw [List.drop_eq_getElem_cons ha,matchB,if_neg hn,ht ha,Bool.false_and]
  ·rw [List.drop_eq_nil_of_le (show v.length≤a by omega),matchB]
   simp [hn]
theorem FitI.longer (h:FitI v key s e a k pl) (hs:s≠0) (ha:a < v.length) (hc:k=key.length∨∃ (hk:k < key.length),key[k].1≠2∧takesL key[k] v[a]=false):FitI v key s (e+1) (e+1) s pl:=by
 have hno:matchB (key.drop s) (v.drop e)=false:=h.no (by
  rcases hc with e1 | ⟨hk,hn,ht⟩
  ·exact .inl ⟨e1,ha⟩
  ·exact .inr ⟨hk,hn,fun _=>ht⟩)
 have h2:=h.ea
 have hd:v.drop e=v[e] :: v.drop (e+1):=List.drop_eq_getElem_cons (by omega)
 rw [hd] at hno
 refine ⟨Nat.le_refl _,Nat.le_trans h.sk h.kl,by simp,by omega,by simp [justB],h.pll,h.last,fun i hi=>by omega,?_,fun hm=>?_⟩
 ·rw [h.same,if_neg hs,if_neg hs,hd,match_longer 0 _ _ _ hno]
 ·rw [h.places hm,if_neg hs,if_neg hs,hd,starN,hno]
  simp only [Bool.false_eq_true,if_false,List.drop_succ_cons]
  rw [Nat.add_assoc,Nat.add_comm 1]
theorem FitI.yes (h:FitI v key s e a k pl) (ha:¬ a < v.length) (hk:¬ k < key.length):matchB key v=true∧pl=placesL key v 0:=by
 have h1:a=v.length:=Nat.le_antisymm h.al (Nat.not_lt.1 ha)
 have h2:k=key.length:=Nat.le_antisymm h.kl (Nat.not_lt.1 hk)
 have hz:matchB (key.drop s) (v.drop e)=true:=by
  rw [h.rest,h1,h2,List.drop_length,List.drop_length,matchB];rfl
 have hm:matchB key v=true:=by
  rw [h.same]
  split
  ·exact hz
  ·exact match_star_zero 0 _ _ hz
 refine ⟨hm,?_⟩
 rw [h.places hm,starN_zero _ _ hz,List.drop_zero,Nat.add_zero,ite_self,h.restPlaces,← List.append_assoc,h.takeEq,h1,h2,List.drop_length,placesL]
 have hl:key.length < pl.length:=by rw [h.pll];omega
 have e1:pl[key.length]=v.length:=by
  have:=h.last
  rw [List.getElem?_eq_getElem hl] at this
  exact Option.some.inj this
 have:=List.take_succ_eq_append_getElem hl
 rw [e1,List.take_of_length_le (by rw [h.pll];omega)] at this
 exact this
theorem FitI.never (h:FitI v key s e a k pl) (hg:a < v.length∨k < key.length) (h1:∀ (hk:k < key.length),key[k].1≠2) (h2:∀ (hk:k < key.length) (ha:a < v.length),takesL key[k] v[a]=false) (h3:¬ (s≠0∧a < v.length)):matchB key v=false:=by
 rw [h.same]
 split
 ·apply h.no
  by_cases hk:k < key.length
  ·exact .inr ⟨hk,h1 hk,h2 hk⟩
  ·have:=h.kl
   exact .inl ⟨by omega,by omega⟩
 ·next hs=>
  have ha:¬ a < v.length:=fun x=>h3 ⟨hs,x⟩
  have hk:k < key.length:=by omega
  have hv:=h.valEq
  rw [List.drop_eq_nil_of_le (show v.length≤a by omega),List.append_nil] at hv
  rw [h.keyEq,List.drop_eq_getElem_cons hk,hv]
  exact match_short 0 _ _ _ _ h.just (h1 hk)
def fitMu (v:List UInt8) (key:List (Nat×UInt8)) (s e a:Nat):Nat:=(key.length+v.length - (s+e))*(v.length+1)+(v.length - (a - e))
theorem FitI.muTake (h:FitI v key s e a k pl) (ha:a < v.length):fitMu v key s e (a+1) < fitMu v key s e a:=by
 have:=h.ea
 unfold fitMu
 omega
theorem mu_less {x y n p q:Nat} (h:x < y) (hp:p≤n):x*(n+1)+p < y*(n+1)+q:=by
 have:(x+1)*(n+1)≤y*(n+1):=Nat.mul_le_mul_right _ h
 rw [Nat.add_mul] at this
 omega
theorem FitI.muStar (h:FitI v key s e a k pl) (hk:k < key.length):fitMu v key (k+1) a a < fitMu v key s e a:=by
 have:=h.ea
 have:=h.sk
 have:=h.al
 exact mu_less (by omega) (Nat.sub_le _ _)
theorem FitI.muLonger (h:FitI v key s e a k pl) (ha:a < v.length):fitMu v key s (e+1) (e+1) < fitMu v key s e a:=by
 have:=h.ea
 have:=h.sk
 have:=h.kl
 exact mu_less (by omega) (Nat.sub_le _ _)
end
theorem star_spec (x:UInt8) (k:List (Nat×UInt8)) (v:List UInt8) (h:matchB ((2,x) :: k) v=true):starN k v≤v.length∧matchB k (v.drop (starN k v))=true:=by
 induction v with
 | nil=>rw [matchB] at h;simp at h;exact ⟨Nat.le_refl _,h⟩
 | cons c v ih=>
  rw [starN]
  split
  ·next hm=>exact ⟨Nat.zero_le _,hm⟩
  ·next hm=>
   rw [match_longer x k c v (by simpa using hm)] at h
   exact ⟨Nat.succ_le_succ (ih h).1,by rw [List.drop_succ_cons];exact (ih h).2⟩
theorem places_len:∀ (k:List (Nat×UInt8)) (v:List UInt8) (o:Nat),(placesL k v o).length=k.length+1
 | [],_,_=>rfl
 | p :: k,v,o=>by
  rw [placesL,List.length_cons,List.length_cons]
  split
  ·rw [places_len k]
  ·rw [places_len k]
theorem places_head (k:List (Nat×UInt8)) (v:List UInt8) (o:Nat):(placesL k v o)[0]?=some o:=by
 cases k <;> rfl
theorem places_up:∀ (k:List (Nat×UInt8)) (v:List UInt8) (o:Nat),matchB k v=true→∀ i,i < k.length→∃ x y,(placesL k v o)[i]?=some x∧(placesL k v o)[i+1]?=some y∧o≤x∧x≤y∧y≤o+v.length
 | [],_,_,_,i,hi=>absurd hi (Nat.not_lt_zero _)
 | p :: k,v,o,h,i,hi=>by
  have key:∃ n,placesL (p :: k) v o=o :: placesL k (v.drop n) (o+n)∧n≤v.length∧matchB k (v.drop n)=true:=by
   by_cases hp:p.1=2
   ·obtain ⟨p1,x⟩:=p
    subst hp
    obtain ⟨a,b⟩:=star_spec x k v h
    exact ⟨starN k v,by rw [placesL,if_pos rfl],a,b⟩
   ·cases v with
    | nil=>rw [matchB] at h;simp [hp] at h
    | cons c v=>
     rw [matchB,if_neg hp,Bool.and_eq_true] at h
     exact ⟨1,by rw [placesL,if_neg hp],Nat.succ_le_succ (Nat.zero_le _),h.2⟩
  obtain ⟨n,e,hn,hm⟩:=key
  rw [e]
  have hl:(v.drop n).length=v.length - n:=List.length_drop ..
  cases i with
  | zero=>exact ⟨o,o+n,rfl,by rw [List.getElem?_cons_succ];exact places_head ..,Nat.le_refl _,by omega,by omega⟩
  | succ i=>
   obtain ⟨x,y,a,b,c,d,f⟩:=places_up k (v.drop n) (o+n) hm i (Nat.lt_of_succ_lt_succ hi)
   exact ⟨x,y,by rw [List.getElem?_cons_succ];exact a,by rw [List.getElem?_cons_succ];exact b,by omega,d,by omega⟩
def toldTo (v:List UInt8) (key:List (Nat×UInt8)) (pl:List Nat):Nat→List (List UInt8)
 | 0=>[v]
 | n+1=>toldTo v key pl n++(if (key.getD n (0,0)).1=0 then [] else [(v.drop (pl.getD n 0)).take (pl.getD (n+1) 0 - pl.getD n 0)])
theorem toldTo_head (v:List UInt8) (key:List (Nat×UInt8)) (pl:List Nat) (n:Nat):∃ r,toldTo v key pl n=v :: r:=by
 induction n with
 | zero=>exact ⟨[],rfl⟩
 | succ n ih=>
  obtain ⟨r,e⟩:=ih
  exact ⟨_,by rw [toldTo,e,List.cons_append]⟩
structure Msg where
 fr:List UInt8
 to:List UInt8
 size:Int
 hdrs:List (List UInt8×List UInt8)
structure SS where
 vs:Bool
 vals:List UInt8→Option (List UInt8)
 told:List (List UInt8)
 met:List (Int×List UInt8)
 disc:Bool
abbrev FZ:=Int×Int
def toldL (s:SS) (t:List (List UInt8)):SS:=⟨s.vs,s.vals,t,s.met,s.disc⟩
def metL (s:SS) (l:List (Int×List UInt8)):SS:=⟨s.vs,s.vals,s.told,l,s.disc⟩
def discL (s:SS):SS:=⟨s.vs,s.vals,s.told,s.met,true⟩
def ss0 (v:Bool):SS:=⟨v,fun _=>none,[],[],false⟩
def nmLen (l:List UInt8):Nat:=
 match l with
 | []=>0
 | c :: r=>if isDigitN c.toNat then 1 else nameLen (c :: r)
def valueL (s:SS) (name:List UInt8):List UInt8:=
 match name with
 | []=>[]
 | c :: r=>if isDigitN c.toNat then s.told.getD (c.toNat - 48) [] else (s.vals (smallL (c :: r))).getD []
def varAt (l:List UInt8):Nat:=
 if l.take 2=[36,123]∧((l.drop 2).drop (nmLen (l.drop 2))).take 1=[125] then nmLen (l.drop 2) else 0
def standL (s:SS) (l:List UInt8):List UInt8×Nat:=
 if varAt l=0 then (l.take 1,1) else (valueL s ((l.drop 2).take (varAt l)),3+varAt l)
def expF (s:SS):Nat→List UInt8→List UInt8→List UInt8
 | 0,_,acc=>acc
 | n+1,l,acc=>if l≠[]∧acc.length < 1024 then expF s n (l.drop (standL s l).2) (acc++(standL s l).1.take (1024 - acc.length)) else acc
def expL (s:SS) (l:List UInt8):List UInt8:=if s.vs then expF s (l.length+1) l [] else l
def lookL (oct:Bool) (x:List UInt8):List UInt8:=if oct then x else smallL x
def hasL (k:List UInt8):List UInt8→Bool
 | []=>k.isPrefixOf []
 | c :: v=>k.isPrefixOf (c :: v) || hasL k v
def wayB (tag:Int) (oct:Bool) (v k:List UInt8):Bool:=
 if tag=1 then decide (lookL oct v=lookL oct k)
 else if tag=2 then hasL (lookL oct k) (lookL oct v)
 else matchB (piecesL (lookL oct k)) (lookL oct v)
def wayT (tag:Int) (oct:Bool) (v k:List UInt8):Option (List (List UInt8)):=
 if tag=3 then some (toldTo v (piecesL (lookL oct k)) (placesL (piecesL (lookL oct k)) (lookL oct v) 0) (piecesL (lookL oct k)).length) else none
def keyL (tag:Int) (oct:Bool) (v:List UInt8):List (List UInt8)→Option (List UInt8)
 | []=>none
 | k :: r=>if wayB tag oct v k then some k else keyL tag oct v r
def hitL (tag:Int) (oct:Bool) (keys:List (List UInt8)):List (List UInt8)→Option (List UInt8×List UInt8)
 | []=>none
 | v :: r=>match keyL tag oct v keys with
  | some k=>some (v,k)
  | none=>hitL tag oct keys r
def askL (s:SS) (tag:Int) (oct:Bool) (vals keys:List (List UInt8)):Bool×SS:=
 match hitL tag oct (keys.map (expL s)) vals with
 | none=>(false,s)
 | some (v,k)=>(true,match wayT tag oct v k with
  | some t=>toldL s t
  | none=>s)
def namedL (h:List UInt8×List UInt8) (n:List UInt8):Bool:=decide (smallL h.1=smallL n)
def fieldsL (M:Msg) (names:List (List UInt8)):List (List UInt8):=names.flatMap fun n=>(M.hdrs.filter (namedL · n)).map (·.2)
def envL (M:Msg) (parts:List (List UInt8)):List (List UInt8):=parts.flatMap fun p=>if smallL p=[102,114,111,109] then [M.fr] else if smallL p=[116,111] then [M.to] else []
def existsL (M:Msg) (names:List (List UInt8)):Bool:=names.all fun n=>M.hdrs.any (namedL · n)
def sizeB (M:Msg) (tag n:Int):Bool:=if tag=2 then decide (M.size < n) else decide (n < M.size)
def boxB (c:UInt8):Bool:=letdig c || c == 45 || c == 46
def isBoxL (x:List UInt8):Bool:=!x.isEmpty && (decide (x.length≤16) && (x.head? != some 46 && x.all boxB))
def isAddrL (x:List UInt8):Bool:=decide (3≤x.length) && (decide (x.length≤32) && (decide (x.count 64=1) && (x.all (fun c=>!isBlankN c.toNat) && (x.head? != some 64 && x.getLast? != some 64))))
def cutArg (kind:Int) (arg:List UInt8):List UInt8:=if kind=4 then arg.take 48 else arg
def addL (met:List (Int×List UInt8)) (kind:Int) (arg:List UInt8):Int×List (Int×List UInt8):=
 if kind=2∧isBoxL arg=false then (8,met)
 else if kind=3∧isAddrL arg=false then (9,met)
 else if (kind,cutArg kind arg)∈met then (0,met)
 else if met≠[]∧(kind=4∨(met.headD (0,[])).1=4) then (10,met)
 else if met.length=6 then (11,met)
 else (0,met++[(kind,cutArg kind arg)])
def allL (s:SS):List (Int×List UInt8):=if s.met=[]∧s.disc=false then [(1,[])] else s.met
def capB (c:UInt8):UInt8:=if isSmN c.toNat then c - 97+65 else c
def capL (l:List UInt8):List UInt8:=l.map capB
def turnL (tag:Int) (x:List UInt8):List UInt8:=
 if tag=1 then smallL x else if tag=2 then capL x else if tag=3 then Lib.decDigits x.length else x
def setS (s:SS) (name:List UInt8) (tag:Int) (said:List UInt8):SS:=
 ⟨s.vs,fun x=>if x=name then some ((turnL tag (expL s said)).take 48) else s.vals x,s.told,s.met,s.disc⟩
structure Ins where
 op:Int
 n:Int
 tag:Int
 oct:Bool
 a:List (List UInt8)
 b:List (List UInt8)
 at_:Int
structure MS where
 st:SS
 stack:List Bool
 now:Nat
 next:Nat
def putL (v:Bool) (m:MS):Except FZ MS:=if m.stack.length < 8 then .ok ⟨m.st,m.stack++[v],m.now,m.next⟩ else .error (12,m.now)
def popL (m:MS):MS:=⟨m.st,m.stack.dropLast,m.now,m.next⟩
def goL (m:MS) (n:Nat):MS:=⟨m.st,m.stack,m.now,n⟩
def stL (m:MS) (s:SS):MS:=⟨s,m.stack,m.now,m.next⟩
def atL (m:MS):MS:=⟨m.st,m.stack,m.next,m.next+1⟩
def topL (m:MS):Bool:=m.stack.getLastD false
def mayL' (count:Nat) (m:MS) (n:Int):Bool:=decide (0≤n) && decide (n≤(count:Int) - m.next)
def actS (i:Ins) (m:MS) (arg:List UInt8):Except FZ MS:=
 if (addL m.st.met i.tag (expL m.st arg)).1=0 then .ok (stL m (metL m.st (addL m.st.met i.tag (expL m.st arg)).2)) else .error ((addL m.st.met i.tag (expL m.st arg)).1,i.at_)
def askPut (r:Bool×SS) (m:MS):Except FZ MS:=putL r.1 (stL m r.2)
def failL (m:MS):Except FZ MS:=.error (12,m.now)
def doPush (i:Ins) (m:MS):Except FZ MS:=if i.n=0∨i.n=1 then putL (decide (i.n=1)) m else failL m
def doNot (m:MS):Except FZ MS:=if m.stack=[] then failL m else putL (!topL m) (popL m)
def doJump (count:Nat) (i:Ins) (m:MS):Except FZ MS:=if mayL' count m i.n then .ok (goL m (m.next+i.n.toNat)) else failL m
def doCond (taken:Bool) (count:Nat) (i:Ins) (m:MS):Except FZ MS:=
 if mayL' count m i.n then
  (if m.stack=[] then failL m else .ok (if topL m=taken then goL (popL m) (m.next+i.n.toNat) else popL m))
 else failL m
def doAsk (vals:List (List UInt8)) (i:Ins) (m:MS):Except FZ MS:=
 if 1≤i.tag∧i.tag≤3 then askPut (askL m.st i.tag i.oct vals i.b) m else failL m
def doSize (M:Msg) (i:Ins) (m:MS):Except FZ MS:=if i.tag=1∨i.tag=2 then putL (sizeB M i.tag i.n) m else failL m
def doAct (i:Ins) (m:MS):Except FZ MS:=
 if i.tag=1 then actS i m [] else if 2≤i.tag∧i.tag≤4∧i.a≠[] then actS i m (i.a.headD []) else failL m
def doSet (i:Ins) (m:MS):Except FZ MS:=
 if 0≤i.tag∧i.tag≤3∧i.a≠[]∧i.b≠[] then .ok (stL m (setS m.st (i.a.headD []) i.tag (i.b.headD []))) else failL m
def stepL (M:Msg) (count:Nat) (i:Ins) (m:MS):Except FZ MS:=
 if i.op=1 then doPush i m
 else if i.op=2 then doNot m
 else if i.op=3 then doJump count i m
 else if i.op=4 then doCond true count i m
 else if i.op=5 then doCond false count i m
 else if i.op=6 then doAsk (fieldsL M (i.a.map (expL m.st))) i m
 else if i.op=7 then doAsk (envL M i.a) i m
 else if i.op=8 then doAsk (i.a.map (expL m.st)) i m
 else if i.op=9 then putL (existsL M (i.a.map (expL m.st))) m
 else if i.op=10 then doSize M i m
 else if i.op=11 then doAct i m
 else if i.op=12 then doSet i m
 else if i.op=13 then .ok (stL m (discL m.st))
 else if i.op=14 then .ok (goL m count)
 else failL m
def ins0:Ins:=⟨0,0,0,false,[],[],0⟩
def loopL (M:Msg) (code:List Ins):Nat→MS→Nat→Except FZ MS×Nat
 | 0,m,d=>(.ok m,d)
 | f+1,m,d=>
  if m.next < code.length then
   (match stepL M code.length (code.getD m.next ins0) (atL m) with
    | .error e=>(.error e,d+1)
    | .ok m'=>loopL M code f m' (d+1))
  else (.ok m,d)
def ms0 (v:Bool):MS:=⟨ss0 v,[],0,0⟩
def execL (v:Bool) (code:List Ins) (M:Msg):List (Int×List UInt8)×Nat×Option FZ:=
 if 400 < code.length then ([(1,[])],0,some (12,400))
 else match loopL M code code.length (ms0 v) 0 with
  | (.error e,d)=>([(1,[])],d,some e)
  | (.ok m,d)=>(allL m.st,d,none)
theorem putL_next {v:Bool} {m m':MS} (h:putL v m=.ok m'):m'.next=m.next:=by
 unfold putL at h
 split at h
 ·cases h;rfl
 ·cases h
theorem actS_next {i:Ins} {m m':MS} {x:List UInt8} (h:actS i m x=.ok m'):m'.next=m.next:=by
 unfold actS at h
 split at h
 ·cases h;rfl
 ·cases h
theorem may_le {count:Nat} {m:MS} {n:Int} (h:mayL' count m n=true):m.next+n.toNat≤count:=by
 unfold mayL' at h
 simp at h
 omega
theorem stepL_next {M:Msg} {count:Nat} {i:Ins} {m m':MS} (h:stepL M count i m=.ok m') (hn:m.next≤count):m.next≤m'.next∧m'.next≤count:=by
 have key:∀ k:Nat,k=m.next→k=m'.next→m.next≤m'.next∧m'.next≤count:=fun k h1 h2=>by omega
 unfold stepL at h
 by_cases h1:i.op=1
 ·rw [if_pos h1] at h
  unfold doPush failL at h
  split at h
  ·exact key _ rfl (putL_next h).symm
  ·cases h
 rw [if_neg h1] at h
 by_cases h1:i.op=2
 ·rw [if_pos h1] at h
  unfold doNot failL at h
  split at h
  ·cases h
  ·exact key _ rfl (putL_next h).symm
 rw [if_neg h1] at h
 by_cases h1:i.op=3
 ·rw [if_pos h1] at h
  unfold doJump failL at h
  split at h
  ·next hm=>cases h;exact ⟨Nat.le_add_right _ _,may_le hm⟩
  ·cases h
 rw [if_neg h1] at h
 have hc:∀ tk,doCond tk count i m=.ok m'→m.next≤m'.next∧m'.next≤count:=fun tk h=>by
  unfold doCond failL at h
  split at h
  ·next hm=>
   split at h
   ·cases h
   ·cases h
    split
    ·exact ⟨Nat.le_add_right _ _,may_le hm⟩
    ·exact ⟨Nat.le_refl _,hn⟩
  ·cases h
 by_cases h1:i.op=4
 ·rw [if_pos h1] at h;exact hc _ h
 rw [if_neg h1] at h
 by_cases h1:i.op=5
 ·rw [if_pos h1] at h;exact hc _ h
 rw [if_neg h1] at h
 have ha:∀ vals,doAsk vals i m=.ok m'→m.next≤m'.next∧m'.next≤count:=fun vals h=>by
  unfold doAsk failL askPut at h
  split at h
  ·exact key _ rfl (putL_next h).symm
  ·cases h
 by_cases h1:i.op=6
 ·rw [if_pos h1] at h;exact ha _ h
 rw [if_neg h1] at h
 by_cases h1:i.op=7
 ·rw [if_pos h1] at h;exact ha _ h
 rw [if_neg h1] at h
 by_cases h1:i.op=8
 ·rw [if_pos h1] at h;exact ha _ h
 rw [if_neg h1] at h
 by_cases h1:i.op=9
 ·rw [if_pos h1] at h;exact key _ rfl (putL_next h).symm
 rw [if_neg h1] at h
 by_cases h1:i.op=10
 ·rw [if_pos h1] at h
  unfold doSize failL at h
  split at h
  ·exact key _ rfl (putL_next h).symm
  ·cases h
 rw [if_neg h1] at h
 by_cases h1:i.op=11
 ·rw [if_pos h1] at h
  unfold doAct failL at h
  split at h
  ·exact key _ rfl (actS_next h).symm
  ·split at h
   ·exact key _ rfl (actS_next h).symm
   ·cases h
 rw [if_neg h1] at h
 by_cases h1:i.op=12
 ·rw [if_pos h1] at h
  unfold doSet failL at h
  split at h
  ·cases h;exact ⟨Nat.le_refl _,hn⟩
  ·cases h
 rw [if_neg h1] at h
 by_cases h1:i.op=13
 ·rw [if_pos h1] at h;cases h;exact ⟨Nat.le_refl _,hn⟩
 rw [if_neg h1] at h
 by_cases h1:i.op=14
 ·rw [if_pos h1] at h;cases h;exact ⟨hn,Nat.le_refl _⟩
 rw [if_neg h1] at h
 cases h
def insOp (op:Int):Ins:=⟨op,0,0,false,[],[],0⟩
def pushI (h:Bool):Ins:=⟨1,if h then 1 else 0,0,false,[],[],0⟩
def matchI (op:Int) (x:TLab):Ins:=⟨op,0,x.tag,x.octet,x.fr,x.keys,0⟩
def actI (kind:Int) (pos:Nat) (a:List (List UInt8)):Ins:=⟨11,0,kind,false,a,[],pos⟩
def setNI (n:Int) (i:Ins):Ins:=⟨i.op,n,i.tag,i.oct,i.a,i.b,i.at_⟩
def landL (js:List Nat) (cs:List Ins):List Ins:=js.foldl (fun c j=>c.modify j (setNI ((c.length:Int) - ((j:Int)+1)))) cs
def blockC {α:Type} (sub:α→List Ins→List Ins) (ts:List α) (cs:List Ins):List Ins:=ts.foldl (fun c t=>sub t c) cs
def gStep {α:Type} (sub:α→List Ins→List Ins) (jump:Int) (p:List Ins×List Nat) (t:α):List Ins×List Nat:=(sub t p.1++[insOp jump],p.2++[(sub t p.1).length])
def groupEnd (settled:Bool) (r:List Ins×List Nat):List Ins:=
 landL [r.1.length+1] (landL r.2 (r.1++[pushI (!settled),insOp 3])++[pushI settled])
def groupC {α:Type} (sub:α→List Ins→List Ins) (jump:Int) (settled:Bool) (ts:List α) (cs:List Ins):List Ins:=
 groupEnd settled (ts.foldl (gStep sub jump) (cs,[]))
def testNodeC {α:Type} (sub:α→List Ins→List Ins) (x:TLab) (ts:List α) (cs:List Ins):List Ins:=
 match x.kind with
 | 0=>cs++[pushI true]
 | 1=>cs++[pushI false]
 | 2=>blockC sub ts cs++[insOp 2]
 | 3=>groupC sub 5 false ts cs
 | 4=>groupC sub 4 true ts cs
 | 5=>cs++[matchI 6 x]
 | 6=>cs++[matchI 7 x]
 | 7=>cs++[matchI 8 x]
 | 8=>cs++[⟨9,0,0,false,x.fr,[],0⟩]
 | _=>cs++[⟨10,x.num,x.tag,false,[],[],0⟩]
def testC:(n:Nat)→TestT n→List Ins→List Ins
 | 0,_,cs=>cs
 | n+1,x,cs=>testNodeC (testC n) x.1 x.2 cs
def armC {α β:Type} (tst:β→List Ins→List Ins) (cmd:α→List Ins→List Ins) (p:List Ins×List Nat) (a:β×List α):List Ins×List Nat:=
 (landL [(tst a.1 p.1).length] (blockC cmd a.2 (tst a.1 p.1++[insOp 5])++[insOp 3]),p.2++[(blockC cmd a.2 (tst a.1 p.1++[insOp 5])).length])
def choiceEnd {α:Type} (cmd:α→List Ins→List Ins) (els:List α) (r:List Ins×List Nat):List Ins:=landL r.2 (blockC cmd els r.1)
def choiceC {α β:Type} (tst:β→List Ins→List Ins) (cmd:α→List Ins→List Ins) (arms:List (β×List α)) (els:List α) (cs:List Ins):List Ins:=
 choiceEnd cmd els (arms.foldl (armC tst cmd) (cs,[]))
def cmdNodeC {α β:Type} (tst:β→List Ins→List Ins) (cmd:α→List Ins→List Ins) (x:CLab) (arms:List (β×List α)) (els:List α) (cs:List Ins):List Ins:=
 match x.kind with
 | 0=>cs++[actI 1 x.pos []]
 | 1=>cs++[⟨13,0,0,false,[],[],x.pos⟩]
 | 2=>cs++[⟨14,0,0,false,[],[],x.pos⟩]
 | 3=>cs++[actI 2 x.pos [x.arg]]
 | 4=>cs++[actI 3 x.pos [x.arg]]
 | 5=>cs++[actI 4 x.pos [x.arg]]
 | 6=>cs++[⟨12,0,x.tag,false,[x.var],[x.arg],x.pos⟩]
 | _=>choiceC tst cmd arms els cs
def cmdC:(n:Nat)→CmdT n→List Ins→List Ins
 | 0,_,cs=>cs
 | n+1,x,cs=>cmdNodeC (testC n) (cmdC n) x.1 x.2.1 x.2.2 cs
def codeL (cs:List (CmdT 7)):List Ins:=blockC (cmdC 7) cs []
theorem loopL_steps (M:Msg) (code:List Ins):∀ (f:Nat) (m:MS) (d:Nat),m.next≤code.length→(loopL M code f m d).2+m.next≤d+code.length
 | 0,m,d,h=>by unfold loopL;dsimp only;omega
 | f+1,m,d,h=>by
  unfold loopL
  by_cases hn:m.next < code.length
  ·rw [if_pos hn]
   cases hs:stepL M code.length (code.getD m.next ins0) (atL m) with
   | error e=>dsimp only;omega
   | ok x=>
    have h1:=stepL_next hs (show (atL m).next≤code.length from hn)
    have h2:(atL m).next=m.next+1:=rfl
    have h3:=loopL_steps M code f x (d+1) h1.2
    dsimp only
    omega
  ·rw [if_neg hn];dsimp only;omega
theorem execL_steps (v:Bool) (code:List Ins) (M:Msg):(execL v code M).2.1≤code.length:=by
 unfold execL
 by_cases hn:400 < code.length
 ·rw [if_pos hn];exact Nat.zero_le _
 ·rw [if_neg hn]
  have:=loopL_steps M code code.length (ms0 v) 0 (Nat.zero_le _)
  generalize loopL M code code.length (ms0 v) 0=x at this
  obtain ⟨x,d⟩:=x
  have h0:(ms0 v).next=0:=rfl
  cases x with
  | error e=>dsimp only at this ⊢;omega
  | ok x=>dsimp only at this ⊢;omega
end Go.Proofs.YtbiclelojbfnbaaGreatDoor
