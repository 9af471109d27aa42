import Derived.Lib.ItoaLen
import Derived.Lib.Join
import Derived.Test.YtbiclelojbfnbabGreatDoorZPlainSpace2
namespace Go.Proofs.YtbiclelojbfnbabGreatDoor
set_option linter.unusedVariables false
set_option linter.unusedSimpArgs false
set_option maxRecDepth 100000
set_option maxHeartbeats 4000000
def Qb9 (c:UInt8):List UInt8:=if c=34∨c=92 then [92,c] else [c]
def Qat (x:List UInt8):List UInt8:=34 :: (x.flatMap Qb9++[34])
def Qd2 (sep:List UInt8):List (List UInt8)→List UInt8
 | []=>[]
 | [x]=>x
 | x :: y :: r=>x++sep++Qd2 sep (y :: r)
def Qa2 (xs:List (List UInt8)):List UInt8:=
 match xs with
 | [x]=>Qat x
 | xs=>[91]++Qd2 [44,32] (xs.map Qat)++[93]
def Qbi (t p:List UInt8):List UInt8:=(if t≠[]∧p≠[] then t++[32] else t)++p
def Qa1 (parts:List (List UInt8)):List UInt8:=parts.foldl Qbi []
def Qbn (tag:Nat) (tags:List (List UInt8)):List UInt8:=if tag=0 then [] else tags.getD (tag - 1) []
def itoaL (n:Nat):List UInt8:=Lib.decDigits n
def QbU (hw:List UInt8) (x:QdG):List UInt8:=
 Qa1 [hw,if x.octet then Qa1 [Qaz,Qat Qb3] else [],if x.tag≠1 then Qbn x.tag [tIs,Qas,Qax] else [],Qa2 x.fr,Qa2 x.keys]
def QbT (hw:List UInt8) (ts:List (List UInt8)):List UInt8:=hw++[32,40]++Qd2 [44,32] ts++[41]
def Qa7 (x:QdG) (ts:List (List UInt8)):List UInt8:=
 match x.kind with
 | 0=>Qfk
 | 1=>QdA
 | 2=>Qa1 (kNot :: ts)
 | 3=>QbT QcG ts
 | 4=>QbT QcF ts
 | 5=>QbU QbA x
 | 6=>QbU QaH x
 | 7=>QbU Qbu x
 | 8=>Qa1 [QbJ,Qa2 x.fr]
 | _=>Qa1 [Qd4,Qbn x.tag [QfB,Qdx],itoaL x.num]
def Qa6:(n:Nat)→Qcy n→List UInt8
 | 0,_=>[]
 | n+1,x=>Qa7 x.1 (x.2.map (Qa6 n))
def Qd7:List UInt8:=125 :: 32 :: Qdh
def QjY:List UInt8:=[123,10]
def Qoq:List UInt8:=125 :: 32 :: (Qfq++[32,123,10])
def QbI {α:Type} (txt:α→List UInt8→List UInt8) (cs:List α) (i:List UInt8):List UInt8:=cs.flatMap fun c=>i++txt c i++[10]
def QeV (word i:List UInt8) (t b:List UInt8):List UInt8:=Qa1 [word,t,QjY]++b++i
def QbW (i:List UInt8):List UInt8→List (List UInt8×List UInt8)→List UInt8
 | _,[]=>[]
 | word,a :: r=>QeV word i a.1 a.2++QbW i Qd7 r
def QcI (x:QgD) (i:List UInt8) (arms:List (List UInt8×List UInt8)) (els:List UInt8):List UInt8:=
 match x.kind with
 | 0=>QfD++[59]
 | 1=>Qb1++[59]
 | 2=>Qfl++[59]
 | 3=>Qa1 [QaK,Qat x.arg]++[59]
 | 4=>Qa1 [Qbl,Qat x.arg]++[59]
 | 5=>Qa1 [QaZ,Qat x.arg]++[59]
 | 6=>Qa1 [Qg1,Qbn x.tag [Qdi,Qdg,Qcn],Qat x.var,Qat x.arg]++[59]
 | _=>QbW i kIf arms++(if x.els then Qoq++els++i else [])++[125]
def QbH:(n:Nat)→QcX n→List UInt8→List UInt8
 | 0,_,_=>[]
 | n+1,x,i=>QcI x.1 i (x.2.1.map fun a=>(Qa6 n a.1,QbI (QbH n) a.2 (i++[32,32]))) (QbI (QbH n) x.2.2 (i++[32,32]))
def Qd1 (req:List (List UInt8)):List UInt8:=if req=[] then [] else Qbw++[32]++Qa2 req++[59,10]
def Qh4 (t:List (List UInt8)×List (QcX 7)):List UInt8:=Qd1 t.1++QbI (QbH 7) t.2 []
theorem QhX:∀ (ps:List (List UInt8)) (t:List UInt8),t.length≤(ps.foldl Qbi t).length
 | [],t=>Nat.le_refl _
 | p :: r,t=>by
  have h1:=QhX r (Qbi t p)
  have h2:t.length≤(Qbi t p).length:=by unfold Qbi;split <;> simp
  rw [List.foldl_cons]
  omega
theorem Qjm:∀ (ps:List (List UInt8)) (t p:List UInt8),p∈ps→p.length≤(ps.foldl Qbi t).length
 | [],t,p,h=>by cases h
 | q :: r,t,p,h=>by
  rw [List.foldl_cons]
  rcases List.mem_cons.1 h with h | h
  ·subst h
   have h1:=QhX r (Qbi t p)
   have h2:p.length≤(Qbi t p).length:=by unfold Qbi;rw [List.length_append];omega
   omega
  ·exact Qjm r _ p h
theorem Qcz {ps:List (List UInt8)} {p:List UInt8} (h:p∈ps):p.length≤(Qa1 ps).length:=Qjm ps [] p h
theorem QhF:∀ (xs:List (List UInt8)) (x:List UInt8),x∈xs→x.length≤(Qd2 [44,32] xs).length
 | [],x,h=>by cases h
 | [y],x,h=>by rw [List.mem_singleton.1 h];exact Nat.le_refl _
 | y :: z :: r,x,h=>by
  simp only [Qd2,List.length_append]
  rcases List.mem_cons.1 h with h | h
  ·subst h;omega
  ·have:=QhF (z :: r) x h
   omega
theorem QkP {ts:List (List UInt8)} {hw:List UInt8} {t:List UInt8} (h:t∈ts):t.length≤(QbT hw ts).length:=by
 have:=QhF ts t h
 unfold QbT
 simp only [List.length_append]
 omega
theorem Qgf:∀ xs:List (List UInt8),xs.length≤(Qd2 [44,32] xs).length+1
 | []=>by simp
 | [x]=>by simp
 | x :: y :: r=>by
  have:=Qgf (y :: r)
  simp only [Qd2,List.length_append,List.length_cons,List.length_nil] at this ⊢
  omega
def Qid (i:List UInt8) (ts:List (List UInt8)):List UInt8:=ts.flatMap fun t=>i++t++[10]
theorem QsG {α:Type} (txt:α→List UInt8→List UInt8) (cs:List α) (i:List UInt8):QbI txt cs i=Qid i (cs.map fun c=>txt c i):=by
 unfold QbI Qid;rw [List.flatMap_map]
theorem QlW (i:List UInt8):∀ ts:List (List UInt8),ts.length≤(Qid i ts).length
 | []=>by simp
 | t :: ts=>by
  have:=QlW i ts
  unfold Qid at this ⊢
  rw [List.flatMap_cons]
  simp only [List.length_append,List.length_cons,List.length_nil] at this ⊢
  omega
theorem QiP (i:List UInt8):∀ (ts:List (List UInt8)) (t:List UInt8),t∈ts→t.length≤(Qid i ts).length
 | [],t,h=>by cases h
 | u :: ts,t,h=>by
  unfold Qid
  rw [List.flatMap_cons]
  simp only [List.length_append,List.length_cons,List.length_nil]
  rcases List.mem_cons.1 h with h | h
  ·subst h;omega
  ·have:=QiP i ts t h
   unfold Qid at this
   simp only [List.append_assoc] at *
   omega
theorem QiM (i:List UInt8):∀ (al:List (List UInt8×List UInt8)) (word:List UInt8),al.length≤(QbW i word al).length
 | [],word=>by simp
 | a :: r,word=>by
  have:=QiM i r Qd7
  have h2:1≤(QeV word i a.1 a.2).length:=by
   unfold QeV
   rw [List.length_append,List.length_append]
   have:=Qcz (ps:=[word,a.1,QjY]) (p:=QjY) (by simp)
   have:QjY.length=2:=rfl
   omega
  show (a :: r).length≤(QeV word i a.1 a.2++QbW i Qd7 r).length
  rw [List.length_append,List.length_cons]
  omega
theorem Qhj (i:List UInt8):∀ (al:List (List UInt8×List UInt8)) (word:List UInt8) (a:List UInt8×List UInt8),a∈al→a.1.length≤(QbW i word al).length∧a.2.length≤(QbW i word al).length
 | [],word,a,h=>by cases h
 | u :: al,word,a,h=>by
  show a.1.length≤(QeV word i u.1 u.2++QbW i Qd7 al).length∧a.2.length≤(QeV word i u.1 u.2++QbW i Qd7 al).length
  rw [List.length_append]
  rcases List.mem_cons.1 h with h | h
  ·subst h
   have h1:=Qcz (ps:=[word,a.1,QjY]) (p:=a.1) (by simp)
   unfold QeV
   rw [List.length_append,List.length_append]
   omega
  ·have:=Qhj i al Qd7 a h
   omega
structure Gp (l:List UInt8) (s:PS):Prop where
 le:s.2≤l.length
 lt:s.1.pos≤s.2
 word:s.1.kind≠0→s.1.pos < s.2
 said:s.1.kind=5→s.1.said.length+2≤s.2 - s.1.pos
 spelt:s.1.kind=0→s.1.spelt=[]
 num:s.1.num≤2147483647
def ph (l:List UInt8) (s:PS):Nat:=l.length - s.1.pos
theorem QjT (l:List UInt8) (p:Nat) (hp:p≤l.length) (x:PS) (h:scanL (l.drop p) p=.ok x):Gp l x∧x.1.pos=p:=by
 obtain ⟨h1,h2,h3,h4,h5⟩:=Qof l p hp x h
 refine ⟨⟨h2,by omega,fun hk=>by have:=h5 hk;omega,fun hk=>?_,fun hk=>(h4 hk).2,(QhQ l p x h).2⟩,h1⟩
 generalize l.drop p=r at h
 cases r with
 | nil=>unfold scanL at h;dsimp only at h;cases h;cases hk
 | cons c r=>
  unfold scanL at h
  dsimp only at h
  split at h
  ·cases h;cases hk
  ·split at h
   ·split at h
    ·cases h
    ·cases h;cases hk
   ·split at h
    ·obtain ⟨n',v',he⟩:∃ n' v':Nat,scanNumL (c :: r) p=if Qbf ((c :: r).getD n' 0) then .error ⟨2,p⟩ else if 2147483647 < v' then .error ⟨3,p⟩ else .ok (⟨4,p,[],[],v'⟩,p+n'):=⟨_,_,rfl⟩
     rw [he] at h
     split at h
     ·cases h
     ·split at h
      ·cases h
      ·cases h;cases hk
    ·split at h
     ·unfold quoteR at h
      cases hq:quoteL r with
      | none=>rw [hq] at h;cases h
      | some y=>
       rw [hq] at h
       have h2:=Qel _ _ hq
       cases h
       simp;omega
     ·split at h
      ·cases h;cases hk
      ·cases h
theorem Qkd {l:List UInt8} {s y:PS} (h:Gp l s) (hn:nextL l s.2=.ok y):Gp l y∧s.2≤y.1.pos:=by
 unfold nextL at hn
 cases hs:QbS (l.length+1) (l.drop s.2) s.2 with
 | error f=>rw [hs] at hn;cases hn
 | ok n=>
  rw [hs] at hn
  have h1:=QdN l _ s.2 n h.le hs
  have h2:=QjT l n h1.2 y hn
  exact ⟨h2.1,by omega⟩
def Bd {α:Type} (c:Nat) (l:List UInt8) (len:α→Nat) (r:Except Flt (α×PS)) (s:PS):Prop:=∀ y,r=.ok y→Gp l y.2∧len y.1+c+64*ph l y.2≤64*ph l s
theorem Bd.err {α:Type} {c:Nat} {l:List UInt8} {len:α→Nat} {f:Flt} {s:PS}:Bd c l len (.error f) s:=fun y h=>by cases h
theorem Bd.okk {α:Type} {l:List UInt8} {len:α→Nat} {a:α} {s:PS} (h:Gp l s) (ha:len a=0):Bd 0 l len (.ok (a,s)) s:=fun y e=>by cases e;exact ⟨h,by simp only [ha];omega⟩
theorem QdD {l:List UInt8} {s y:PS} (h:Gp l s) (hk:s.1.kind≠0) (hn:nextL l s.2=.ok y):Gp l y∧64+64*ph l y≤64*ph l s:=by
 obtain ⟨h1,h2⟩:=Qkd h hn
 have h3:=h.word hk
 have h4:=h.le
 have h5:=h1.le
 have h6:=h1.lt
 refine ⟨h1,?_⟩
 unfold ph
 omega
theorem QdQ {l:List UInt8} {zs:List (List UInt8)} {s:PS} (h:Gp l s) (hz:∀ z∈zs,z≠[]) (h0:¬ whichL zs s.1.spelt=0):s.1.kind≠0:=fun e=>h0 (by rw [h.spelt e];exact Qd0 zs hz)
theorem QdC {l:List UInt8} {zs:List (List UInt8)} {s:PS} (h:Gp l s) (hz:∀ z∈zs,z≠[]):Bd 64 l (fun _=>0) (passL l zs s) s:=fun y e=>by
 unfold passL at e
 split at e
 ·cases e
 ·rename_i h0
  cases hn:nextL l s.2 with
  | error f=>rw [hn] at e;cases e
  | ok s'=>rw [hn] at e;cases e;have:=QdD h (QdQ h hz h0) hn;exact ⟨this.1,by dsimp only;omega⟩
theorem QfH {l:List UInt8} {zs:List (List UInt8)} {s:PS} (h:Gp l s) (hz:∀ z∈zs,z≠[]):Bd 0 l (fun i=>if i=0 then 0 else 64) (mayL l zs s) s:=fun y e=>by
 unfold mayL at e
 split at e
 ·cases e;exact ⟨h,by simp⟩
 ·rename_i h0
  cases hn:nextL l s.2 with
  | error f=>rw [hn] at e;cases e
  | ok s'=>rw [hn] at e;cases e;have:=QdD h (QdQ h hz h0) hn;exact ⟨this.1,by dsimp only;rw [if_neg h0];omega⟩
theorem Qhz (x:List UInt8):(Qat x).length≤2*x.length+2:=by
 unfold Qat
 rw [List.length_cons,List.length_append]
 have:(x.flatMap Qb9).length≤2*x.length:=by
  induction x with
  | nil=>simp
  | cons c r ih=>
   rw [List.flatMap_cons,List.length_append,List.length_cons]
   have:(Qb9 c).length≤2:=by unfold Qb9;split <;> simp
   omega
 simp only [List.length_cons,List.length_nil]
 omega
theorem QcK {l:List UInt8} {chk:List UInt8→Nat} {s:PS} (h:Gp l s):Bd 32 l (fun x=>(Qat x).length) (stringL l chk s) s:=fun y e=>by
 unfold stringL at e
 split at e
 ·rename_i hk
  split at e
  ·cases hn:nextL l s.2 with
   | error f=>rw [hn] at e;cases e
   | ok s'=>
    rw [hn] at e;cases e
    obtain ⟨h1,h2⟩:=Qkd h hn
    have h3:=h.said hk
    have h4:=h.le
    have h5:=h1.le
    have h6:=h1.lt
    have h7:=Qhz s.1.said
    have h8:=h.lt
    refine ⟨h1,?_⟩
    show (Qat s.1.said).length+32+64*ph l s'≤64*ph l s
    unfold ph
    omega
  ·cases e
 ·cases e
def Qc7 (xs:List (List UInt8)):Nat:=(xs.map fun x=>x.length+2).sum
theorem Qh2 (x:List UInt8) (xs:List (List UInt8)):Qc7 (x :: xs)=x.length+2+Qc7 xs:=by simp [Qc7]
theorem Qd9 (xs ys:List (List UInt8)):Qc7 (xs++ys)=Qc7 xs+Qc7 ys:=by simp [Qc7]
theorem Qdq (x:List UInt8):Qc7 [x]=x.length+2:=by simp [Qc7]
theorem QkZ (xs:List (List UInt8)):(Qd2 [44,32] xs).length≤Qc7 xs:=by
 induction xs with
 | nil=>simp [Qd2,Qc7]
 | cons x r ih=>
  cases r with
  | nil=>simp [Qd2,Qc7]
  | cons y r=>
   rw [Qh2]
   simp only [Qd2,List.length_append,List.length_cons,List.length_nil]
   omega
def Qg4 (xs:List (List UInt8)):Nat:=Qc7 (xs.map Qat)
theorem Qeb (xs:List (List UInt8)):(Qa2 xs).length≤Qg4 xs+2:=by
 unfold Qa2 Qg4
 split
 ·rw [List.map_cons,List.map_nil,Qdq];omega
 ·have:=QkZ (xs.map Qat)
  simp only [List.length_append,List.length_cons,List.length_nil]
  omega
theorem QqI {l:List UInt8} {chk:List UInt8→Nat}:∀ (f:Nat) (acc:List (List UInt8)) (s:PS),Gp l s→∀ y,moreL l chk f acc s=.ok y→Gp l y.2∧Qg4 y.1+64*ph l y.2≤Qg4 acc+64*ph l s
 | 0,acc,s,h=>fun y e=>by cases e;exact ⟨h,Nat.le_refl _⟩
 | f+1,acc,s,h=>fun y e=>by
  rw [moreL] at e
  cases hp:passL l [[44],[93]] s with
  | error g=>rw [hp] at e;cases e
  | ok z=>
   rw [hp] at e
   obtain ⟨h1,h2⟩:=QdC (zs:=[[44],[93]]) h (by decide) z hp
   dsimp only at e
   split at e
   ·cases hs:stringL l chk z.2 with
    | error g=>rw [hs] at e;cases e
    | ok x=>
     rw [hs] at e
     obtain ⟨h3,h4⟩:=QcK h1 x hs
     obtain ⟨h5,h6⟩:=QqI f _ x.2 h3 y e
     refine ⟨h5,?_⟩
     unfold Qg4 at *
     rw [List.map_append,Qd9,List.map_cons,List.map_nil,Qdq] at h6
     dsimp only at *
     omega
   ·cases e;exact ⟨h1,by dsimp only;omega⟩
theorem Qfc {l:List UInt8} {chk:List UInt8→Nat} {F:Nat} {s:PS} (h:Gp l s):Bd 16 l Qg4 (stringsL l chk F s) s:=fun y e=>by
 unfold stringsL at e
 cases hm:mayL l [[91]] s with
 | error g=>rw [hm] at e;cases e
 | ok z=>
  rw [hm] at e
  obtain ⟨h1,h2⟩:=QfH (zs:=[[91]]) h (by decide) z hm
  dsimp only at e
  cases hs:stringL l chk z.2 with
  | error g=>rw [hs] at e;cases e
  | ok x=>
   rw [hs] at e
   obtain ⟨h3,h4⟩:=QcK h1 x hs
   dsimp only at e
   have h9:Qg4 [x.1]=(Qat x.1).length+2:=by unfold Qg4;rw [List.map_cons,List.map_nil,Qdq]
   split at e
   ·cases e;exact ⟨h3,by dsimp only at *;omega⟩
   ·obtain ⟨h5,h6⟩:=QqI F _ x.2 h3 y e
    exact ⟨h5,by dsimp only at *;omega⟩
theorem Qis (t p:List UInt8):(Qbi t p).length≤t.length+1+p.length:=by
 unfold Qbi
 split <;> simp only [List.length_append,List.length_cons,List.length_nil] <;> omega
def Qcg (ps:List (List UInt8)):Nat:=(ps.map fun p=>p.length+1).sum
theorem QiJ:∀ (ps:List (List UInt8)) (t:List UInt8),(ps.foldl Qbi t).length≤t.length+Qcg ps
 | [],t=>by simp [Qcg]
 | p :: r,t=>by
  have h1:=QiJ r (Qbi t p)
  have h2:=Qis t p
  rw [List.foldl_cons]
  simp only [Qcg,List.map_cons,List.sum_cons] at h1 ⊢
  omega
theorem QbZ (ps:List (List UInt8)):(Qa1 ps).length≤Qcg ps:=by
 have:=QiJ ps []
 simpa [Qa1] using this
theorem QeN (tag:Nat) (tags:List (List UInt8)) (m:Nat) (h:∀ z∈tags,z.length≤m):(Qbn tag tags).length≤m:=by
 unfold Qbn
 split
 ·simp
 ·rw [List.getD_eq_getElem?_getD]
  cases he:tags[tag - 1]? with
  | none=>simp
  | some z=>exact h z (List.mem_of_getElem? he)
theorem QqD {l:List UInt8}:∀ (f tag:Nat) (oct cmp:Bool) (s:PS),Gp l s→Bd 0 l (fun _=>0) (QdJ l f tag oct cmp s) s
 | 0,tag,oct,cmp,s,h=>Bd.okk h rfl
 | f+1,tag,oct,cmp,s,h=>fun y e=>by
  rw [QdJ] at e
  by_cases h1:whichL [tIs,Qas,Qax] s.1.spelt=0
  ·rw [if_pos h1] at e
   by_cases h2:whichL [Qaz] s.1.spelt=0
   ·rw [if_pos h2] at e;cases e;exact ⟨h,by simp⟩
   ·rw [if_neg h2] at e
    cases cmp
    ·rw [if_neg (by decide)] at e
     cases hn:nextL l s.2 with
     | error g=>rw [Qa9 hn] at e;cases e
     | ok z=>
      rw [QaX hn] at e
      obtain ⟨g1,g2⟩:=QdD h (QdQ (zs:=[Qaz]) h (by decide) h2) hn
      cases hs:stringL l (fun x=>if 0 < whichL [Qb3,Qdp] x then 0 else 7) z with
      | error g=>rw [Qae hs] at e;cases e
      | ok x=>
       rw [Qac hs] at e
       obtain ⟨g3,g4⟩:=QcK g1 x hs
       obtain ⟨g5,g6⟩:=QqD f _ _ _ x.2 g3 y e
       exact ⟨g5,by dsimp only at *;omega⟩
    ·rw [if_pos rfl] at e;cases e
  ·rw [if_neg h1] at e
   by_cases ht:tag=0
   ·rw [if_pos ht] at e
    cases hn:nextL l s.2 with
    | error g=>rw [Qa9 hn] at e;cases e
    | ok z=>
     rw [QaX hn] at e
     obtain ⟨g1,g2⟩:=QdD h (QdQ (zs:=[tIs,Qas,Qax]) h (by decide) h1) hn
     obtain ⟨g5,g6⟩:=QqD f _ _ _ z g1 y e
     exact ⟨g5,by dsimp only at *;omega⟩
   ·rw [if_neg ht] at e;cases e
theorem QeI (hw:List UInt8) (x:QdG) (h:hw.length≤8):(QbU hw x).length≤52+Qg4 x.fr+Qg4 x.keys:=by
 unfold QbU
 have h1:=QbZ [hw,if x.octet then Qa1 [Qaz,Qat Qb3] else [],if x.tag≠1 then Qbn x.tag [tIs,Qas,Qax] else [],Qa2 x.fr,Qa2 x.keys]
 have h2:=Qeb x.fr
 have h3:=Qeb x.keys
 have h4:(if x.octet then Qa1 [Qaz,Qat Qb3] else []).length≤21:=by
  split
  ·decide
  ·simp
 have h5:(if x.tag≠1 then Qbn x.tag [tIs,Qas,Qax] else []).length≤9:=by
  split
  ·exact QeN _ _ 9 (by decide)
  ·simp
 simp only [Qcg,List.map_cons,List.map_nil,List.sum_cons,List.sum_nil] at h1
 omega
theorem Qj9 {l:List UInt8} {F:Nat} {chk:List UInt8→Nat} {k pos:Nat} {s:PS} (h:Gp l s):Bd 16 l (fun x=>Qg4 x.fr+Qg4 x.keys) (QbR l F chk k pos s) s:=fun y e=>by
 unfold QbR at e
 cases h1:QdJ l F 0 false false s with
 | error f=>rw [Qae h1] at e;cases e
 | ok a=>
  rw [Qac h1] at e
  obtain ⟨g1,g2⟩:=QqD F 0 false false s h a h1
  cases h2:stringsL l chk F a.2 with
  | error f=>rw [Qae h2] at e;cases e
  | ok c=>
   rw [Qac h2] at e
   obtain ⟨g3,g4⟩:=Qfc g1 c h2
   cases h3:stringsL l (fun _=>0) F c.2 with
   | error f=>rw [Qae h3] at e;cases e
   | ok d=>
    rw [Qac h3] at e
    obtain ⟨g5,g6⟩:=Qfc g3 d h3
    cases e
    exact ⟨g5,by dsimp only at *;omega⟩
theorem QgP {α:Type} {l:List UInt8} {sub:PS→Except Flt (α×PS)} {txt:α→List UInt8} (hs:∀ s,Gp l s→Bd 8 l (fun x=>(txt x).length) (sub s) s):∀ (f:Nat) (acc:List α) (s:PS),Gp l s→∀ y,groupMore l sub f acc s=.ok y→Gp l y.2∧Qc7 (y.1.map txt)+64*ph l y.2≤Qc7 (acc.map txt)+64*ph l s
 | 0,acc,s,h=>fun y e=>by cases e;exact ⟨h,Nat.le_refl _⟩
 | f+1,acc,s,h=>fun y e=>by
  rw [groupMore] at e
  cases hp:passL l [[44],[41]] s with
  | error g=>rw [Qae hp] at e;cases e
  | ok z=>
   rw [Qac hp] at e
   obtain ⟨h1,h2⟩:=QdC (zs:=[[44],[41]]) h (by decide) z hp
   split at e
   ·cases hq:sub z.2 with
    | error g=>rw [Qae hq] at e;cases e
    | ok x=>
     rw [Qac hq] at e
     obtain ⟨h3,h4⟩:=hs z.2 h1 x hq
     obtain ⟨h5,h6⟩:=QgP hs f _ x.2 h3 y e
     refine ⟨h5,?_⟩
     rw [List.map_append,Qd9,List.map_cons,List.map_nil,Qdq] at h6
     dsimp only at *
     omega
   ·cases e;exact ⟨h1,by dsimp only at *;omega⟩
theorem Qn7 {α:Type} {l:List UInt8} {F:Nat} {sub:PS→Except Flt (α×PS)} {txt:α→List UInt8} (hs:∀ s,Gp l s→Bd 8 l (fun x=>(txt x).length) (sub s) s) {s:PS} (h:Gp l s):Bd 16 l (fun xs=>Qc7 (xs.map txt)) (QcS l F sub s) s:=fun y e=>by
 unfold QcS at e
 cases hp:passL l [[40]] s with
 | error g=>rw [Qae hp] at e;cases e
 | ok z=>
  rw [Qac hp] at e
  obtain ⟨h1,h2⟩:=QdC (zs:=[[40]]) h (by decide) z hp
  cases hq:sub z.2 with
  | error g=>rw [Qae hq] at e;cases e
  | ok x=>
   rw [Qac hq] at e
   obtain ⟨h3,h4⟩:=hs z.2 h1 x hq
   obtain ⟨h5,h6⟩:=QgP hs F _ x.2 h3 y e
   refine ⟨h5,?_⟩
   rw [List.map_cons,List.map_nil,Qdq] at h6
   dsimp only at *
   omega
theorem Qrh (n:Nat) (h:n≤2147483647):(itoaL n).length≤21:=by
 have:=Lib.itoa_length_le n (by omega) (by omega)
 rw [Lib.itoa_nonneg] at this
 exact this
theorem Qtg {l:List UInt8} {pos:Nat} {s:PS} (h:Gp l s):∀ y,sizeL l pos s=.ok y→Gp l y.2∧64*ph l y.2+16≤64*ph l s∧y.1.kind=9∧y.1.num≤2147483647:=fun y e=>by
 unfold sizeL at e
 cases hp:passL l [QfB,Qdx] s with
 | error g=>rw [Qae hp] at e;cases e
 | ok z=>
  rw [Qac hp] at e
  obtain ⟨h1,h2⟩:=QdC (zs:=[QfB,Qdx]) h (by decide) z hp
  split at e
  ·rename_i hk
   cases hn:nextL l z.2.2 with
   | error g=>rw [Qa9 hn] at e;cases e
   | ok x=>
    rw [QaX hn] at e
    obtain ⟨g1,g2⟩:=QdD h1 (by omega) hn
    cases e
    exact ⟨g1,by dsimp only at *;omega,rfl,h1.num⟩
  ·cases e
theorem Qgi {l:List UInt8} {F:Nat} {chk:List UInt8→Nat} {k pos:Nat} {s:PS} {y:QdG×PS} (h:QbR l F chk k pos s=.ok y):y.1.kind=k:=by
 unfold QbR at h
 cases h1:QdJ l F 0 false false s with
 | error f=>rw [Qae h1] at h;cases h
 | ok a=>
  rw [Qac h1] at h
  cases h2:stringsL l chk F a.2 with
  | error f=>rw [Qae h2] at h;cases h
  | ok c=>
   rw [Qac h2] at h
   cases h3:stringsL l (fun _=>0) F c.2 with
   | error f=>rw [Qae h3] at h;cases h
   | ok e=>rw [Qac h3] at h;cases h;rfl
theorem QoP (x:QdG) (ts:List (List UInt8)) (h:x.kind=5):Qa7 x ts=QbU QbA x:=by simp only [Qa7,h]
theorem QpW (x:QdG) (ts:List (List UInt8)) (h:x.kind=6):Qa7 x ts=QbU QaH x:=by simp only [Qa7,h]
theorem QpU (x:QdG) (ts:List (List UInt8)) (h:x.kind=7):Qa7 x ts=QbU Qbu x:=by simp only [Qa7,h]
theorem Qo6 (x:QdG) (ts:List (List UInt8)) (h:x.kind=9):Qa7 x ts=Qa1 [Qd4,Qbn x.tag [QfB,Qdx],itoaL x.num]:=by simp only [Qa7,h]
theorem Qnp (n:Nat) {l:List UInt8} {F:Nat} {sub:PS→Except Flt (Qcy n×PS)} (hs:∀ s,Gp l s→Bd 8 l (fun x=>(Qa6 n x).length) (sub s) s) (k pos:Nat) {s:PS} (h:Gp l s):∀ y,testBody l F sub k pos s=.ok y→Gp l y.2∧(Qa6 (n+1) y.1).length+64*ph l y.2≤56+64*ph l s:=by
 intro y e
 have hg:∀ (hw:List UInt8) (ts:List (List UInt8)),hw.length≤8→(QbT hw ts).length≤12+Qc7 ts:=fun hw ts hl=>by
  have:=QkZ ts
  simp only [QbT,List.length_append,List.length_cons,List.length_nil]
  omega
 unfold testBody at e
 split at e
 ·cases e;exact ⟨h,by show (4:Nat)+64*ph l s≤_;omega⟩
 ·cases e;exact ⟨h,by show (5:Nat)+64*ph l s≤_;omega⟩
 ·cases hq:sub s with
  | error g=>rw [Qae hq] at e;cases e
  | ok x=>
   rw [Qac hq] at e
   obtain ⟨h1,h2⟩:=hs s h x hq
   cases e
   refine ⟨h1,?_⟩
   show (Qa1 [kNot,Qa6 n x.1]).length+64*ph l x.2≤_
   have:=QbZ [kNot,Qa6 n x.1]
   simp only [Qcg,List.map_cons,List.map_nil,List.sum_cons,List.sum_nil,show kNot.length=3 from rfl] at this
   dsimp only at *
   omega
 ·cases hq:QcS l F sub s with
  | error g=>rw [Qae hq] at e;cases e
  | ok x=>
   rw [Qac hq] at e
   obtain ⟨h1,h2⟩:=Qn7 hs h x hq
   cases e
   refine ⟨h1,?_⟩
   show (QbT QcG (x.1.map (Qa6 n))).length+64*ph l x.2≤_
   have:=hg QcG (x.1.map (Qa6 n)) (by decide)
   dsimp only at *
   omega
 ·cases hq:QcS l F sub s with
  | error g=>rw [Qae hq] at e;cases e
  | ok x=>
   rw [Qac hq] at e
   obtain ⟨h1,h2⟩:=Qn7 hs h x hq
   cases e
   refine ⟨h1,?_⟩
   show (QbT QcF (x.1.map (Qa6 n))).length+64*ph l x.2≤_
   have:=hg QcF (x.1.map (Qa6 n)) (by decide)
   dsimp only at *
   omega
 ·cases hq:QbR l F (fun _=>0) 5 pos s with
  | error g=>rw [Qae hq] at e;cases e
  | ok x=>
   rw [Qac hq] at e
   obtain ⟨h1,h2⟩:=Qj9 h x hq
   have h3:=Qgi hq
   cases e
   refine ⟨h1,?_⟩
   show (Qa7 x.1 []).length+64*ph l x.2≤_
   have:=QeI QbA x.1 (by decide)
   rw [QoP _ _ h3]
   dsimp only at *
   omega
 ·cases hq:QbR l F (fun x=>if 0 < whichL [Qh0,kTo] (smallL x) then 0 else 7) 6 pos s with
  | error g=>rw [Qae hq] at e;cases e
  | ok x=>
   rw [Qac hq] at e
   obtain ⟨h1,h2⟩:=Qj9 h x hq
   have h3:=Qgi hq
   cases e
   refine ⟨h1,?_⟩
   show (Qa7 x.1 []).length+64*ph l x.2≤_
   have:=QeI QaH x.1 (by decide)
   rw [QpW _ _ h3]
   dsimp only at *
   omega
 ·cases hq:QbR l F (fun _=>0) 7 pos s with
  | error g=>rw [Qae hq] at e;cases e
  | ok x=>
   rw [Qac hq] at e
   obtain ⟨h1,h2⟩:=Qj9 h x hq
   have h3:=Qgi hq
   cases e
   refine ⟨h1,?_⟩
   show (Qa7 x.1 []).length+64*ph l x.2≤_
   have:=QeI Qbu x.1 (by decide)
   rw [QpU _ _ h3]
   dsimp only at *
   omega
 ·cases hq:stringsL l (fun _=>0) F s with
  | error g=>rw [Qae hq] at e;cases e
  | ok x=>
   rw [Qac hq] at e
   obtain ⟨h1,h2⟩:=Qfc h x hq
   cases e
   refine ⟨h1,?_⟩
   show (Qa1 [QbJ,Qa2 x.1]).length+64*ph l x.2≤_
   have h3:=QbZ [QbJ,Qa2 x.1]
   have h4:=Qeb x.1
   simp only [Qcg,List.map_cons,List.map_nil,List.sum_cons,List.sum_nil,show QbJ.length=6 from rfl] at h3
   omega
 ·cases hq:sizeL l pos s with
  | error g=>rw [Qae hq] at e;cases e
  | ok x=>
   rw [Qac hq] at e
   obtain ⟨h1,h2,h3,h4⟩:=Qtg h x hq
   cases e
   refine ⟨h1,?_⟩
   show (Qa7 x.1 []).length+64*ph l x.2≤_
   have h5:=QbZ [Qd4,Qbn x.1.tag [QfB,Qdx],itoaL x.1.num]
   have h6:=QeN x.1.tag [QfB,Qdx] 6 (by decide)
   have h7:=Qrh x.1.num h4
   simp only [Qcg,List.map_cons,List.map_nil,List.sum_cons,List.sum_nil,show Qd4.length=4 from rfl] at h5
   rw [Qo6 _ _ h3]
   omega
theorem QjU {l:List UInt8} {req:List (List UInt8)} {F:Nat}:∀ (n:Nat) (s:PS),Gp l s→Bd 8 l (fun x=>(Qa6 n x).length) (Qbx l req F n s) s
 | 0,s,h=>by
  rw [Qbx]
  split <;> exact Bd.err
 | n+1,s,h=>fun y e=>by
  rw [Qbx] at e
  by_cases h0:whichL testNames s.1.spelt=0
  ·rw [if_pos h0] at e;cases e
  ·rw [if_neg h0] at e
   cases hu:Qcl req s.1.spelt
   ·rw [hu,if_neg (by decide)] at e;cases e
   ·rw [hu,if_pos rfl] at e
    cases hn:nextL l s.2 with
    | error g=>cases (Qa9 hn).symm.trans e
    | ok z=>
     replace e:=(QaX hn).symm.trans e
     obtain ⟨g1,g2⟩:=QdD h (QdQ (zs:=testNames) h (by decide) h0) hn
     obtain ⟨g3,g4⟩:=Qnp n (fun s g=>QjU n s g) _ _ g1 y e
     exact ⟨g3,by dsimp only at *;omega⟩
def Qcj {α:Type} (c:α→Nat) (xs:List α):Nat:=(xs.map c).sum
theorem Qgz {α:Type} (c:α→Nat) (xs:List α) (x:α):Qcj c (xs++[x])=Qcj c xs+c x:=by simp [Qcj]
theorem Qe3 {α:Type} (txt:α→List UInt8→List UInt8) (i:List UInt8):∀ cs:List α,(QbI txt cs i).length=Qcj (fun c=>i.length+(txt c i).length+1) cs
 | []=>rfl
 | c :: r=>by
  have:=Qe3 txt i r
  simp only [QbI,Qcj,List.flatMap_cons,List.length_append,List.map_cons,List.sum_cons,List.length_cons,List.length_nil] at this ⊢
  omega
def Ct {α:Type} (k:Nat) (l:List UInt8) (c:α→Nat) (r:Except Flt (α×PS)) (s:PS):Prop:=∀ y,r=.ok y→Gp l y.2∧c y.1+k+64*ph l y.2≤64*ph l s
theorem QgO {α:Type} {l:List UInt8} {sub:PS→Except Flt (α×PS)} {c:α→Nat} (hs:∀ s,Gp l s→Ct 0 l c (sub s) s):∀ (f:Nat) (acc:List α) (s:PS),Gp l s→∀ y,blockMore l sub f acc s=.ok y→Gp l y.2∧Qcj c y.1+64*ph l y.2≤Qcj c acc+64*ph l s
 | 0,acc,s,h=>fun y e=>by cases e;exact ⟨h,Nat.le_refl _⟩
 | f+1,acc,s,h=>fun y e=>by
  rw [blockMore] at e
  cases hp:mayL l [[125]] s with
  | error g=>rw [Qae hp] at e;cases e
  | ok z=>
   rw [Qac hp] at e
   obtain ⟨h1,h2⟩:=QfH (zs:=[[125]]) h (by decide) z hp
   split at e
   ·cases hq:sub z.2 with
    | error g=>rw [Qae hq] at e;cases e
    | ok x=>
     rw [Qac hq] at e
     obtain ⟨h3,h4⟩:=hs z.2 h1 x hq
     obtain ⟨h5,h6⟩:=QgO hs f _ x.2 h3 y e
     refine ⟨h5,?_⟩
     rw [Qgz] at h6
     dsimp only at *
     omega
   ·cases e;exact ⟨h1,by dsimp only at *;omega⟩
theorem Qn1 {α:Type} {l:List UInt8} {F:Nat} {sub:PS→Except Flt (α×PS)} {c:α→Nat} (hs:∀ s,Gp l s→Ct 0 l c (sub s) s) {s:PS} (h:Gp l s):Ct 64 l (Qcj c) (blockL l F sub s) s:=fun y e=>by
 unfold blockL at e
 cases hp:passL l [[123]] s with
 | error g=>rw [Qae hp] at e;cases e
 | ok z=>
  rw [Qac hp] at e
  obtain ⟨h1,h2⟩:=QdC (zs:=[[123]]) h (by decide) z hp
  obtain ⟨h5,h6⟩:=QgO hs F _ z.2 h1 y e
  refine ⟨h5,?_⟩
  have:Qcj c ([]:List α)=0:=rfl
  dsimp only at *
  omega
theorem QsV {α β:Type} {l:List UInt8} {F:Nat} {tst:PS→Except Flt (β×PS)} {sub:PS→Except Flt (α×PS)} {ct:β→Nat} {c:α→Nat} (ht:∀ s,Gp l s→Ct 0 l ct (tst s) s) (hs:∀ s,Gp l s→Ct 0 l c (sub s) s) {s:PS} (h:Gp l s):Ct 0 l (fun a=>64+ct a.1+Qcj c a.2) (armL l F tst sub s) s:=fun y e=>by
 unfold armL at e
 cases hp:tst s with
 | error g=>rw [Qae hp] at e;cases e
 | ok z=>
  rw [Qac hp] at e
  obtain ⟨h1,h2⟩:=ht s h z hp
  cases hq:blockL l F sub z.2 with
  | error g=>rw [Qae hq] at e;cases e
  | ok x=>
   rw [Qac hq] at e
   obtain ⟨h3,h4⟩:=Qn1 hs h1 x hq
   cases e
   exact ⟨h3,by dsimp only at *;omega⟩
theorem Qq6 {α β:Type} {l:List UInt8} {F:Nat} {tst:PS→Except Flt (β×PS)} {sub:PS→Except Flt (α×PS)} {ct:β→Nat} {c:α→Nat} (ht:∀ s,Gp l s→Ct 0 l ct (tst s) s) (hs:∀ s,Gp l s→Ct 0 l c (sub s) s):∀ (f:Nat) (acc:List (β×List α)) (s:PS),Gp l s→∀ y,armsMore l F tst sub f acc s=.ok y→Gp l y.2∧Qcj (fun a=>64+ct a.1+Qcj c a.2) y.1+64*ph l y.2≤Qcj (fun a=>64+ct a.1+Qcj c a.2) acc+64*ph l s
 | 0,acc,s,h=>fun y e=>by cases e;exact ⟨h,Nat.le_refl _⟩
 | f+1,acc,s,h=>fun y e=>by
  rw [armsMore] at e
  cases hp:mayL l [Qdh] s with
  | error g=>rw [Qae hp] at e;cases e
  | ok z=>
   rw [Qac hp] at e
   obtain ⟨h1,h2⟩:=QfH (zs:=[Qdh]) h (by decide) z hp
   split at e
   ·cases e;exact ⟨h1,by dsimp only at *;omega⟩
   ·cases hq:armL l F tst sub z.2 with
    | error g=>rw [Qae hq] at e;cases e
    | ok x=>
     rw [Qac hq] at e
     obtain ⟨h3,h4⟩:=QsV ht hs h1 x hq
     obtain ⟨h5,h6⟩:=Qq6 ht hs f _ x.2 h3 y e
     refine ⟨h5,?_⟩
     rw [Qgz] at h6
     dsimp only at *
     omega
theorem Qoz (word i t b:List UInt8) (hw:word.length≤7) (hi:i.length≤14):(QeV word i t b).length≤32+t.length+b.length:=by
 have:=QbZ [word,t,QjY]
 simp only [Qcg,List.map_cons,List.map_nil,List.sum_cons,List.sum_nil,show QjY.length=2 from rfl] at this
 simp only [QeV,List.length_append]
 omega
theorem Qh9 (i:List UInt8) (hi:i.length≤14):∀ (as:List (List UInt8×List UInt8)) (word:List UInt8),word.length≤7→(QbW i word as).length≤Qcj (fun a=>32+a.1.length+a.2.length) as
 | [],word,_=>by simp [QbW,Qcj]
 | a :: r,word,hw=>by
  have h1:=Qoz word i a.1 a.2 hw hi
  have h2:=Qh9 i hi r Qd7 (by decide)
  simp only [QbW,Qcj,List.length_append,List.map_cons,List.sum_cons] at h2 ⊢
  omega
theorem QgK {α β:Type} (f:α→β) (c:β→Nat) (d:α→Nat) (h:∀ a,c (f a)≤d a):∀ xs:List α,Qcj c (xs.map f)≤Qcj d xs
 | []=>Nat.le_refl _
 | x :: r=>by
  have h1:=QgK f c d h r
  have h2:=h x
  simp only [Qcj,List.map_cons,List.sum_cons,List.map_map] at h1 ⊢
  omega
def Qdf (n:Nat) (i:List UInt8) (x:QcX n):Nat:=i.length+(QbH n x i).length+1
theorem QfA {α:Type} {l:List UInt8} {s:PS} {a:α} (h:Gp l s):∀ y,semi l s a=.ok y→y.1=a∧Gp l y.2∧64*ph l y.2≤64*ph l s:=fun y e=>by
 unfold semi at e
 cases hp:passL l [[59]] s with
 | error g=>rw [Qae hp] at e;cases e
 | ok z=>
  rw [Qac hp] at e
  obtain ⟨h1,h2⟩:=QdC (zs:=[[59]]) h (by decide) z hp
  cases e
  exact ⟨rfl,h1,by dsimp only at *;omega⟩
theorem Qkm (x:List UInt8):(Qat (smallL x)).length≤2*x.length+2:=by
 have:=Qhz (smallL x)
 simpa [smallL] using this
theorem Qmw {l:List UInt8} {chk:List UInt8→Nat} {s:PS} (h:Gp l s):∀ y,stringL l chk s=.ok y→2*y.1.length+2+32+64*ph l y.2≤64*ph l s:=fun y e=>by
 unfold stringL at e
 split at e
 ·rename_i hk
  split at e
  ·cases hn:nextL l s.2 with
   | error f=>rw [hn] at e;cases e
   | ok s'=>
    rw [hn] at e;cases e
    obtain ⟨h1,h2⟩:=Qkd h hn
    have h3:=h.said hk
    have h4:=h.le
    have h5:=h1.le
    have h6:=h1.lt
    have h8:=h.lt
    show 2*s.1.said.length+2+32+64*ph l s'≤64*ph l s
    unfold ph
    omega
  ·cases e
 ·cases e
theorem QoJ (n:Nat) {l:List UInt8} {F:Nat} {tst:PS→Except Flt (Qcy n×PS)} {sub:PS→Except Flt (QcX n×PS)} (i:List UInt8) (hi:i.length≤14) (ht:∀ s,Gp l s→Ct 0 l (fun x=>(Qa6 n x).length) (tst s) s) (hs:∀ s,Gp l s→Ct 0 l (Qdf n (i++[32,32])) (sub s) s) (k pos:Nat) {s:PS} (h:Gp l s):∀ y,cmdBody l F tst sub k pos s=.ok y→Gp l y.2∧Qdf (n+1) i y.1+64*ph l y.2≤64+64*ph l s:=by
 intro y e
 unfold cmdBody at e
 split at e
 ·obtain ⟨e1,h1,h2⟩:=QfA h y e
  refine ⟨h1,?_⟩
  rw [e1]
  show i.length+5+1+64*ph l y.2≤_
  omega
 ·obtain ⟨e1,h1,h2⟩:=QfA h y e
  refine ⟨h1,?_⟩
  rw [e1]
  show i.length+8+1+64*ph l y.2≤_
  omega
 ·obtain ⟨e1,h1,h2⟩:=QfA h y e
  refine ⟨h1,?_⟩
  rw [e1]
  show i.length+5+1+64*ph l y.2≤_
  omega
 ·cases hq:stringL l (fun _=>0) s with
  | error g=>rw [Qae hq] at e;cases e
  | ok x=>
   rw [Qac hq] at e
   obtain ⟨g1,g2⟩:=QcK h x hq
   obtain ⟨e1,h1,h2⟩:=QfA g1 y e
   refine ⟨h1,?_⟩
   rw [e1]
   show i.length+(Qa1 [QaK,Qat x.1]++[59]).length+1+64*ph l y.2≤_
   have h3:=QbZ [QaK,Qat x.1]
   simp only [Qcg,List.map_cons,List.map_nil,List.sum_cons,List.sum_nil,show QaK.length=8 from rfl] at h3
   simp only [List.length_append,List.length_cons,List.length_nil]
   dsimp only at g2
   omega
 ·cases hq:stringL l (fun _=>0) s with
  | error g=>rw [Qae hq] at e;cases e
  | ok x=>
   rw [Qac hq] at e
   obtain ⟨g1,g2⟩:=QcK h x hq
   obtain ⟨e1,h1,h2⟩:=QfA g1 y e
   refine ⟨h1,?_⟩
   rw [e1]
   show i.length+(Qa1 [Qbl,Qat x.1]++[59]).length+1+64*ph l y.2≤_
   have h3:=QbZ [Qbl,Qat x.1]
   simp only [Qcg,List.map_cons,List.map_nil,List.sum_cons,List.sum_nil,show Qbl.length=8 from rfl] at h3
   simp only [List.length_append,List.length_cons,List.length_nil]
   dsimp only at g2
   omega
 ·cases hq:stringL l (fun _=>0) s with
  | error g=>rw [Qae hq] at e;cases e
  | ok x=>
   rw [Qac hq] at e
   obtain ⟨g1,g2⟩:=QcK h x hq
   obtain ⟨e1,h1,h2⟩:=QfA g1 y e
   refine ⟨h1,?_⟩
   rw [e1]
   show i.length+(Qa1 [QaZ,Qat x.1]++[59]).length+1+64*ph l y.2≤_
   have h3:=QbZ [QaZ,Qat x.1]
   simp only [Qcg,List.map_cons,List.map_nil,List.sum_cons,List.sum_nil,show QaZ.length=6 from rfl] at h3
   simp only [List.length_append,List.length_cons,List.length_nil]
   dsimp only at g2
   omega
 ·cases hm:mayL l [Qdi,Qdg,Qcn] s with
  | error g=>rw [Qae hm] at e;cases e
  | ok m=>
   rw [Qac hm] at e
   obtain ⟨g0,g0'⟩:=QfH (zs:=[Qdi,Qdg,Qcn]) h (by decide) m hm
   cases hv:stringL l (fun x=>if isNameL x then 0 else 7) m.2 with
   | error g=>rw [Qae hv] at e;cases e
   | ok v=>
    rw [Qac hv] at e
    obtain ⟨g3,g4⟩:=QcK g0 v hv
    have g5:=Qmw g0 v hv
    cases hq:stringL l (fun _=>0) v.2 with
    | error g=>rw [Qae hq] at e;cases e
    | ok x=>
     rw [Qac hq] at e
     obtain ⟨g1,g2⟩:=QcK g3 x hq
     obtain ⟨e1,h1,h2⟩:=QfA g1 y e
     refine ⟨h1,?_⟩
     rw [e1]
     show i.length+(Qa1 [Qg1,Qbn m.1 [Qdi,Qdg,Qcn],Qat (smallL v.1),Qat x.1]++[59]).length+1+64*ph l y.2≤_
     have h3:=QbZ [Qg1,Qbn m.1 [Qdi,Qdg,Qcn],Qat (smallL v.1),Qat x.1]
     have h4:=QeN m.1 [Qdi,Qdg,Qcn] 7 (by decide)
     have h5:=Qkm v.1
     simp only [Qcg,List.map_cons,List.map_nil,List.sum_cons,List.sum_nil,show Qg1.length=3 from rfl] at h3
     simp only [List.length_append,List.length_cons,List.length_nil]
     dsimp only at g2 g0' g4
     omega
 ·cases ha:armL l F tst sub s with
  | error g=>rw [Qae ha] at e;cases e
  | ok a=>
   rw [Qac ha] at e
   obtain ⟨g1,g2⟩:=QsV ht hs h a ha
   cases hb:armsMore l F tst sub F [a.1] a.2 with
   | error g=>rw [Qae hb] at e;cases e
   | ok bb=>
    rw [Qac hb] at e
    obtain ⟨g3,g4⟩:=Qq6 ht hs F _ a.2 g1 bb hb
    have hone:Qcj (fun a:Qcy n×List (QcX n)=>64+(Qa6 n a.1).length+Qcj (Qdf n (i++[32,32])) a.2) [a.1]=64+(Qa6 n a.1.1).length+Qcj (Qdf n (i++[32,32])) a.1.2:=by simp [Qcj]
    cases hm:mayL l [Qfq] bb.2 with
    | error g=>rw [Qae hm] at e;cases e
    | ok m=>
     rw [Qac hm] at e
     obtain ⟨g5,g6⟩:=QfH (zs:=[Qfq]) g3 (by decide) m hm
     have hA:(QbW i kIf (bb.1.map fun a:Qcy n×List (QcX n)=>(Qa6 n a.1,QbI (QbH n) a.2 (i++[32,32])))).length≤Qcj (fun a:Qcy n×List (QcX n)=>64+(Qa6 n a.1).length+Qcj (Qdf n (i++[32,32])) a.2) bb.1:=by
      refine Nat.le_trans (Qh9 i hi _ kIf (by decide)) (QgK _ _ _ (fun a=>?_) bb.1)
      dsimp only
      have:=Qe3 (QbH n) (i++[32,32]) a.2
      rw [this]
      unfold Qdf
      omega
     split at e
     ·cases e
      refine ⟨g5,?_⟩
      show i.length+(QbW i kIf (bb.1.map fun a:Qcy n×List (QcX n)=>(Qa6 n a.1,QbI (QbH n) a.2 (i++[32,32])))++(if false then Qoq++QbI (QbH n) [] (i++[32,32])++i else [])++[125]).length+1+64*ph l m.2≤_
      simp only [Bool.false_eq_true,if_false,List.length_append,List.length_cons,List.length_nil]
      dsimp only at *
      omega
     ·rename_i hm0
      cases hc:blockL l F sub m.2 with
      | error g=>rw [Qae hc] at e;cases e
      | ok cs=>
       rw [Qac hc] at e
       obtain ⟨g7,g8⟩:=Qn1 hs g5 cs hc
       cases e
       refine ⟨g7,?_⟩
       show i.length+(QbW i kIf (bb.1.map fun a:Qcy n×List (QcX n)=>(Qa6 n a.1,QbI (QbH n) a.2 (i++[32,32])))++(if true then Qoq++QbI (QbH n) cs.1 (i++[32,32])++i else [])++[125]).length+1+64*ph l cs.2≤_
       have hl:=Qe3 (QbH n) (i++[32,32]) cs.1
       simp only [if_true,List.length_append,List.length_cons,List.length_nil,show Qoq.length=9 from rfl] at hl ⊢
       rw [hl]
       have:Qcj (fun c=>i.length+(0+1+1)+(QbH n c (i++[32,32])).length+1) cs.1=Qcj (Qdf n (i++[32,32])) cs.1:=by
        congr 1
        funext c
        simp [Qdf]
       dsimp only at *
       omega
theorem Qq0 {l:List UInt8} {req:List (List UInt8)} {F:Nat}:∀ (n:Nat) (i:List UInt8),i.length+2*n≤14→∀ (s:PS),Gp l s→Ct 0 l (Qdf n i) (cmdL l req F n s) s
 | 0,i,hi,s,h=>by
  rw [cmdL]
  split <;> exact fun y e=>by cases e
 | n+1,i,hi,s,h=>fun y e=>by
  rw [cmdL] at e
  by_cases h0:whichL cmdNames s.1.spelt=0
  ·rw [if_pos h0] at e;cases e
  ·rw [if_neg h0] at e
   cases hu:Qcl req s.1.spelt
   ·rw [hu,if_neg (by decide)] at e;cases e
   ·rw [hu,if_pos rfl] at e
    cases hn:nextL l s.2 with
    | error g=>cases (Qa9 hn).symm.trans e
    | ok z=>
     replace e:=(QaX hn).symm.trans e
     obtain ⟨g1,g2⟩:=QdD h (QdQ (zs:=cmdNames) h (by decide) h0) hn
     obtain ⟨g3,g4⟩:=QoJ n i (by omega) (fun s g y e=>by obtain ⟨a1,a2⟩:=QjU n s g y e;exact ⟨a1,by dsimp only at *;omega⟩) (fun s g=>Qq0 n (i++[32,32]) (by simp only [List.length_append,List.length_cons,List.length_nil];omega) s g) _ _ g1 y e
     exact ⟨g3,by omega⟩
theorem Qo9 (req:List (List UInt8)) (x:List UInt8):Qg4 (QbQ req x)≤Qg4 req+(Qat x).length+2:=by
 unfold QbQ
 split
 ·omega
 ·unfold Qg4;rw [List.map_append,Qd9,List.map_cons,List.map_nil,Qdq];omega
theorem QhT:∀ (xs req:List (List UInt8)),Qg4 (xs.foldl QbQ req)≤Qg4 req+Qg4 xs
 | [],req=>by simp
 | x :: r,req=>by
  have h1:=QhT r (QbQ req x)
  have h2:=Qo9 req x
  have h3:Qg4 (x :: r)=(Qat x).length+2+Qg4 r:=by unfold Qg4;rw [List.map_cons,Qh2]
  rw [List.foldl_cons]
  omega
theorem Qgb {l:List UInt8} {F:Nat}:∀ (f:Nat) (req:List (List UInt8)) (s:PS),Gp l s→∀ y,reqMore l F f req s=.ok y→Gp l y.2∧Qg4 y.1+64*ph l y.2≤Qg4 req+64*ph l s
 | 0,req,s,h=>fun y e=>by cases e;exact ⟨h,Nat.le_refl _⟩
 | f+1,req,s,h=>fun y e=>by
  rw [reqMore] at e
  cases hp:mayL l [Qbw] s with
  | error g=>rw [Qae hp] at e;cases e
  | ok z=>
   rw [Qac hp] at e
   obtain ⟨h1,h2⟩:=QfH (zs:=[Qbw]) h (by decide) z hp
   split at e
   ·cases e;exact ⟨h1,by dsimp only at *;omega⟩
   ·cases hq:stringsL l (fun x=>if 0 < whichL [QaH,QaK,QaZ,Qbc] x then 0 else 6) F z.2 with
    | error g=>rw [Qae hq] at e;cases e
    | ok x=>
     rw [Qac hq] at e
     obtain ⟨h3,h4⟩:=Qfc h1 x hq
     cases hr:passL l [[59]] x.2 with
     | error g=>rw [Qae hr] at e;cases e
     | ok v=>
      rw [Qac hr] at e
      obtain ⟨h5,h6⟩:=QdC (zs:=[[59]]) h3 (by decide) v hr
      obtain ⟨h7,h8⟩:=Qgb f _ v.2 h5 y e
      have h9:=QhT x.1 req
      refine ⟨h7,?_⟩
      dsimp only at *
      omega
theorem Qif {α:Type} {l:List UInt8} {sub:PS→Except Flt (α×PS)} {c:α→Nat} (hs:∀ s,Gp l s→Ct 0 l c (sub s) s):∀ (f:Nat) (acc:List α) (s:PS),Gp l s→∀ y,cmdsMore sub f acc s=.ok y→Qcj c y≤Qcj c acc+64*ph l s
 | 0,acc,s,h=>fun y e=>by cases e;omega
 | f+1,acc,s,h=>fun y e=>by
  rw [cmdsMore] at e
  split at e
  ·cases e;omega
  ·cases hq:sub s with
   | error g=>rw [hq] at e;cases e
   | ok x=>
    rw [hq] at e
    obtain ⟨h3,h4⟩:=hs s h x hq
    have h6:=Qif hs f _ x.2 h3 y e
    rw [Qgz] at h6
    omega
theorem Qra {l:List UInt8} {y:List (List UInt8)×List (QcX 7)} (h:parseL l=.ok y):(Qh4 y).length≤64*l.length+64:=by
 unfold parseL at h
 dsimp only at h
 generalize 2*l.length+10=F at h
 cases h1:nextL l 0 with
 | error f=>rw [h1] at h;cases h
 | ok s=>
  rw [h1] at h
  dsimp only at h
  have hg:Gp l s:=by
   unfold nextL at h1
   cases hs:QbS (l.length+1) (l.drop 0) 0 with
   | error f=>rw [hs] at h1;cases h1
   | ok n=>
    rw [hs] at h1
    exact (QjT l n (QdN l _ 0 n (Nat.zero_le _) hs).2 s h1).1
  cases h3:reqMore l F F [] s with
  | error f=>rw [h3] at h;cases h
  | ok z=>
   rw [h3] at h
   dsimp only at h
   obtain ⟨g1,g2⟩:=Qgb F [] s hg z h3
   cases h4:cmdsMore (cmdL l z.1 F 7) F [] z.2 with
   | error f=>rw [h4] at h;cases h
   | ok cs=>
    rw [h4] at h
    have g3:=Qif (c:=Qdf 7 []) (fun s g=>Qq0 7 [] (by decide) s g) F [] z.2 g1 cs h4
    cases h
    have g4:=Qe3 (QbH 7) [] cs
    have g5:Qcj (fun c=>([]:List UInt8).length+(QbH 7 c []).length+1) cs=Qcj (Qdf 7 []) cs:=rfl
    have g6:(Qd1 z.1).length≤Qg4 z.1+12:=by
     unfold Qd1
     split
     ·simp
     ·have:=Qeb z.1
      simp only [List.length_append,List.length_cons,List.length_nil,show Qbw.length=7 from rfl]
      omega
    have g7:Qg4 ([]:List (List UInt8))=0:=rfl
    have g8:Qcj (Qdf 7 []) ([]:List (QcX 7))=0:=rfl
    have g9:ph l s≤l.length:=by unfold ph;omega
    show (Qd1 z.1++QbI (QbH 7) cs []).length≤_
    rw [List.length_append]
    omega
structure WfT (req:List (List UInt8)) (x:QdG) (m:Nat):Prop where
 kind:x.kind≤9
 use:Qcl req (testNames.getD x.kind [])=true
 one:x.kind=2→m=1
 many:x.kind=3∨x.kind=4→0 < m
 leaf:x.kind≤1∨5≤x.kind→m=0
 tag:5≤x.kind→x.kind≤7→1≤x.tag∧x.tag≤3
 frm:5≤x.kind→x.kind≤8→x.fr≠[]
 keys:5≤x.kind→x.kind≤7→x.keys≠[]
 env:x.kind=6→∀ z∈x.fr,0 < whichL [Qh0,kTo] (smallL z)
 size:x.kind=9→1≤x.tag∧x.tag≤2
 num:x.num≤2147483647
 num0:x.kind≠9→x.num=0
 tag0:x.kind≤4∨x.kind=8→x.tag=0
 oct0:x.kind≤4∨8≤x.kind→x.octet=false
 fr0:x.kind≤4∨x.kind=9→x.fr=[]
 keys0:x.kind≤4∨8≤x.kind→x.keys=[]
structure WfC (req:List (List UInt8)) (x:QgD) (a e:Nat):Prop where
 kind:x.kind≤7
 use:Qcl req (cmdNames.getD x.kind [])=true
 tag:x.tag≤3
 tag0:x.kind≠6→x.tag=0
 arg0:x.kind≤2∨x.kind=7→x.arg=[]
 var0:x.kind≠6→x.var=[]
 var:x.kind=6→∃ v,isNameL v=true∧x.var=smallL v
 els0:x.kind≠7→x.els=false
 arms:x.kind=7→0 < a
 arms0:x.kind≠7→a=0
 else0:x.els=false→e=0
def Qs3 (p:QdG→Nat→Prop):(n:Nat)→Qcy n→Prop
 | 0,_=>False
 | n+1,x=>p x.1 x.2.length∧∀ a∈x.2,Qs3 p n a
def Qmf (p:QdG→Nat→Prop) (q:QgD→Nat→Nat→Prop):(n:Nat)→QcX n→Prop
 | 0,_=>False
 | n+1,x=>q x.1 x.2.1.length x.2.2.length∧(∀ a∈x.2.1,Qs3 p n a.1∧∀ c∈a.2,Qmf p q n c)∧∀ c∈x.2.2,Qmf p q n c
theorem Qgv:∀ (zs:List (List UInt8)) (x:List UInt8),¬ whichL zs x=0→zs.getD (whichL zs x - 1) []=x
 | [],x,h=>absurd rfl h
 | s :: r,x,h=>by
  unfold whichL at h ⊢
  split
  ·rename_i e;simp [e]
  ·rename_i e
   rw [if_neg e] at h
   split
   ·rename_i e0;rw [if_pos e0] at h;exact absurd rfl h
   ·rename_i e0
    have ih:=Qgv r x e0
    have e1:whichL r x+1 - 1=(whichL r x - 1)+1:=by omega
    rw [e1]
    simpa using ih
def Has {α:Type} (P:α→Prop) (r:Except Flt (α×PS)):Prop:=∀ y,r=.ok y→P y.1
theorem Qgu {l:List UInt8} {chk:List UInt8→Nat} {s:PS}:Has (fun x=>chk x=0) (stringL l chk s):=fun y e=>by
 unfold stringL at e
 split at e
 ·split at e
  ·rename_i hc
   cases hn:nextL l s.2 with
   | error f=>rw [hn] at e;cases e
   | ok s'=>rw [hn] at e;cases e;exact hc
  ·cases e
 ·cases e
theorem Qoo {l:List UInt8} {chk:List UInt8→Nat}:∀ (f:Nat) (acc:List (List UInt8)) (s:PS),acc≠[]→(∀ z∈acc,chk z=0)→Has (fun xs=>xs≠[]∧∀ z∈xs,chk z=0) (moreL l chk f acc s)
 | 0,acc,s,h,hc=>fun y e=>by cases e;exact ⟨h,hc⟩
 | f+1,acc,s,h,hc=>fun y e=>by
  rw [moreL] at e
  cases hp:passL l [[44],[93]] s with
  | error g=>rw [hp] at e;cases e
  | ok z=>
   rw [hp] at e
   dsimp only at e
   split at e
   ·cases hs:stringL l chk z.2 with
    | error g=>rw [hs] at e;cases e
    | ok x=>
     rw [hs] at e
     have h1:=Qgu x hs
     refine Qoo f _ x.2 (by simp) (fun u hu=>?_) y e
     rcases List.mem_append.1 hu with hu | hu
     ·exact hc u hu
     ·rw [List.mem_singleton.1 hu];exact h1
   ·cases e;exact ⟨h,hc⟩
theorem Qei {l:List UInt8} {chk:List UInt8→Nat} {F:Nat} {s:PS}:Has (fun xs=>xs≠[]∧∀ z∈xs,chk z=0) (stringsL l chk F s):=fun y e=>by
 unfold stringsL at e
 cases hm:mayL l [[91]] s with
 | error g=>rw [hm] at e;cases e
 | ok z=>
  rw [hm] at e
  dsimp only at e
  cases hs:stringL l chk z.2 with
  | error g=>rw [hs] at e;cases e
  | ok x=>
   rw [hs] at e
   have h1:=Qgu x hs
   dsimp only at e
   split at e
   ·cases e;exact ⟨by simp,fun u hu=>by rw [List.mem_singleton.1 hu];exact h1⟩
   ·exact Qoo F [x.1] x.2 (by simp) (fun u hu=>by rw [List.mem_singleton.1 hu];exact h1) y e
theorem QrV {l:List UInt8} {zs:List (List UInt8)} {s:PS}:Has (fun i=>1≤i∧i≤zs.length) (passL l zs s):=fun y e=>by
 unfold passL at e
 split at e
 ·cases e
 ·rename_i h0
  cases hn:nextL l s.2 with
  | error f=>rw [hn] at e;cases e
  | ok s'=>rw [hn] at e;cases e;have:=QbM zs s.1.spelt;dsimp only;omega
theorem QtB {l:List UInt8} {zs:List (List UInt8)} {s:PS}:Has (fun i=>i≤zs.length) (mayL l zs s):=fun y e=>by
 unfold mayL at e
 split at e
 ·cases e;exact Nat.zero_le _
 ·cases hn:nextL l s.2 with
  | error f=>rw [hn] at e;cases e
  | ok s'=>rw [hn] at e;cases e;exact QbM zs s.1.spelt
theorem Qnx {l:List UInt8}:∀ (f tag:Nat) (oct cmp:Bool) (s:PS),Gp l s→ph l s < f→tag≤3→Has (fun o=>1≤o.1∧o.1≤3) (QdJ l f tag oct cmp s)
 | 0,tag,oct,cmp,s,h,hf,ht=>by omega
 | f+1,tag,oct,cmp,s,h,hf,ht=>fun y e=>by
  rw [QdJ] at e
  by_cases h1:whichL [tIs,Qas,Qax] s.1.spelt=0
  ·rw [if_pos h1] at e
   by_cases h2:whichL [Qaz] s.1.spelt=0
   ·rw [if_pos h2] at e;cases e;dsimp only;omega
   ·rw [if_neg h2] at e
    cases cmp
    ·rw [if_neg (by decide)] at e
     cases hn:nextL l s.2 with
     | error g=>rw [Qa9 hn] at e;cases e
     | ok z=>
      rw [QaX hn] at e
      obtain ⟨g1,g2⟩:=QdD h (QdQ (zs:=[Qaz]) h (by decide) h2) hn
      cases hs:stringL l (fun x=>if 0 < whichL [Qb3,Qdp] x then 0 else 7) z with
      | error g=>rw [Qae hs] at e;cases e
      | ok x=>
       rw [Qac hs] at e
       obtain ⟨g3,g4⟩:=QcK g1 x hs
       exact Qnx f _ _ _ x.2 g3 (by omega) ht y e
    ·rw [if_pos rfl] at e;cases e
  ·rw [if_neg h1] at e
   by_cases h3:tag=0
   ·rw [if_pos h3] at e
    cases hn:nextL l s.2 with
    | error g=>rw [Qa9 hn] at e;cases e
    | ok z=>
     rw [QaX hn] at e
     obtain ⟨g1,g2⟩:=QdD h (QdQ (zs:=[tIs,Qas,Qax]) h (by decide) h1) hn
     exact Qnx f _ _ _ z g1 (by omega) (QbM [tIs,Qas,Qax] s.1.spelt) y e
   ·rw [if_neg h3] at e;cases e
theorem Qh8 {l:List UInt8} {F:Nat} {chk:List UInt8→Nat} {k pos:Nat} {s:PS} (h:Gp l s) (hF:l.length < F):Has (fun x=>x=⟨k,pos,x.tag,x.octet,x.fr,x.keys,0⟩∧1≤x.tag∧x.tag≤3∧x.fr≠[]∧x.keys≠[]∧∀ z∈x.fr,chk z=0) (QbR l F chk k pos s):=fun y e=>by
 unfold QbR at e
 cases h1:QdJ l F 0 false false s with
 | error f=>rw [Qae h1] at e;cases e
 | ok a=>
  rw [Qac h1] at e
  have g0:=Qnx F 0 false false s h (by unfold ph;omega) (by omega) a h1
  cases h2:stringsL l chk F a.2 with
  | error f=>rw [Qae h2] at e;cases e
  | ok c=>
   rw [Qac h2] at e
   have g1:=Qei c h2
   cases h3:stringsL l (fun _=>0) F c.2 with
   | error f=>rw [Qae h3] at e;cases e
   | ok d=>
    rw [Qac h3] at e
    have g2:=Qei d h3
    cases e
    exact ⟨rfl,g0.1,g0.2,g1.1,g2.1,g1.2⟩
theorem Qf2 {α:Type} {l:List UInt8} {sub:PS→Except Flt (α×PS)} {P:α→Prop} (hg:∀ s,Gp l s→∀ y,sub s=.ok y→Gp l y.2) (hs:∀ s,Gp l s→Has P (sub s)):∀ (f:Nat) (acc:List α) (s:PS),Gp l s→acc≠[]→(∀ a∈acc,P a)→Has (fun xs=>xs≠[]∧∀ a∈xs,P a) (groupMore l sub f acc s)
 | 0,acc,s,g,h,hc=>fun y e=>by cases e;exact ⟨h,hc⟩
 | f+1,acc,s,g,h,hc=>fun y e=>by
  rw [groupMore] at e
  cases hp:passL l [[44],[41]] s with
  | error g=>rw [Qae hp] at e;cases e
  | ok z=>
   rw [Qac hp] at e
   obtain ⟨h1,h2⟩:=QdC (zs:=[[44],[41]]) g (by decide) z hp
   split at e
   ·cases hq:sub z.2 with
    | error g=>rw [Qae hq] at e;cases e
    | ok x=>
     rw [Qac hq] at e
     refine Qf2 hg hs f _ x.2 (hg _ h1 x hq) (by simp) (fun u hu=>?_) y e
     rcases List.mem_append.1 hu with hu | hu
     ·exact hc u hu
     ·rw [List.mem_singleton.1 hu];exact hs _ h1 x hq
   ·cases e;exact ⟨h,hc⟩
theorem QkY {α:Type} {l:List UInt8} {F:Nat} {sub:PS→Except Flt (α×PS)} {P:α→Prop} (hg:∀ s,Gp l s→∀ y,sub s=.ok y→Gp l y.2) (hs:∀ s,Gp l s→Has P (sub s)) {s:PS} (h:Gp l s):Has (fun xs=>xs≠[]∧∀ a∈xs,P a) (QcS l F sub s):=fun y e=>by
 unfold QcS at e
 cases hp:passL l [[40]] s with
 | error g=>rw [Qae hp] at e;cases e
 | ok z=>
  rw [Qac hp] at e
  obtain ⟨h1,h2⟩:=QdC (zs:=[[40]]) h (by decide) z hp
  cases hq:sub z.2 with
  | error g=>rw [Qae hq] at e;cases e
  | ok x=>
   rw [Qac hq] at e
   exact Qf2 hg hs F [x.1] x.2 (hg _ h1 x hq) (by simp) (fun u hu=>by rw [List.mem_singleton.1 hu];exact hs _ h1 x hq) y e
theorem Ql0 (n:Nat) {l:List UInt8} {req:List (List UInt8)} {F:Nat} {sub:PS→Except Flt (Qcy n×PS)} (hF:l.length < F) (hg:∀ s,Gp l s→∀ y,sub s=.ok y→Gp l y.2) (hs:∀ s,Gp l s→Has (Qs3 (WfT req) n) (sub s)) (k pos:Nat) (hk:k≤9) (hu:Qcl req (testNames.getD k [])=true) {s:PS} (h:Gp l s):Has (fun x:QdG×List (Qcy n)=>WfT req x.1 x.2.length∧∀ a∈x.2,Qs3 (WfT req) n a) (testBody l F sub k pos s):=fun y e=>by
 unfold testBody at e
 split at e
 ·cases e;exact ⟨by constructor <;> simp <;> (first | exact hu | skip),by simp⟩
 ·cases e;exact ⟨by constructor <;> simp <;> (first | exact hu | skip),by simp⟩
 ·cases hq:sub s with
  | error g=>rw [Qae hq] at e;cases e
  | ok x=>
   rw [Qac hq] at e
   cases e
   exact ⟨by constructor <;> simp <;> (first | exact hu | skip),fun a ha=>by rw [List.mem_singleton.1 ha];exact hs _ h x hq⟩
 ·cases hq:QcS l F sub s with
  | error g=>rw [Qae hq] at e;cases e
  | ok x=>
   rw [Qac hq] at e
   have h1:=QkY hg hs h x hq
   cases e
   exact ⟨by constructor <;> simp <;> (first | exact hu | exact List.length_pos_iff.2 h1.1 | skip),h1.2⟩
 ·cases hq:QcS l F sub s with
  | error g=>rw [Qae hq] at e;cases e
  | ok x=>
   rw [Qac hq] at e
   have h1:=QkY hg hs h x hq
   cases e
   exact ⟨by constructor <;> simp <;> (first | exact hu | exact List.length_pos_iff.2 h1.1 | skip),h1.2⟩
 ·cases hq:QbR l F (fun _=>0) 5 pos s with
  | error g=>rw [Qae hq] at e;cases e
  | ok x=>
   rw [Qac hq] at e
   obtain ⟨h1,h2,h3,h4,h5,h6⟩:=Qh8 h hF x hq
   cases e
   dsimp only
   rw [h1]
   exact ⟨by constructor <;> simp <;> (first | exact hu | exact ⟨h2,h3⟩ | assumption | skip),by simp⟩
 ·cases hq:QbR l F (fun x=>if 0 < whichL [Qh0,kTo] (smallL x) then 0 else 7) 6 pos s with
  | error g=>rw [Qae hq] at e;cases e
  | ok x=>
   rw [Qac hq] at e
   obtain ⟨h1,h2,h3,h4,h5,h6⟩:=Qh8 h hF x hq
   have h7:∀ z∈x.1.fr,0 < whichL [Qh0,kTo] (smallL z):=fun z hz=>by
    have:=h6 z hz
    split at this
    ·assumption
    ·cases this
   cases e
   dsimp only
   rw [h1]
   exact ⟨by constructor <;> simp <;> (first | exact hu | exact ⟨h2,h3⟩ | assumption | skip),by simp⟩
 ·cases hq:QbR l F (fun _=>0) 7 pos s with
  | error g=>rw [Qae hq] at e;cases e
  | ok x=>
   rw [Qac hq] at e
   obtain ⟨h1,h2,h3,h4,h5,h6⟩:=Qh8 h hF x hq
   cases e
   dsimp only
   rw [h1]
   exact ⟨by constructor <;> simp <;> (first | exact hu | exact ⟨h2,h3⟩ | assumption | skip),by simp⟩
 ·cases hq:stringsL l (fun _=>0) F s with
  | error g=>rw [Qae hq] at e;cases e
  | ok x=>
   rw [Qac hq] at e
   have h1:=Qei x hq
   cases e
   exact ⟨by constructor <;> simp <;> (first | exact hu | exact h1.1 | skip),by simp⟩
 ·rename_i h0 h1 h2 h3 h4 h5 h6 h7 h8
  cases hq:sizeL l pos s with
  | error g=>rw [Qae hq] at e;cases e
  | ok x=>
   rw [Qac hq] at e
   have hk9:k=9:=by
    have a0:k≠0:=h0
    have a1:k≠1:=h1
    have a2:k≠2:=h2
    have a3:k≠3:=h3
    have a4:k≠4:=h4
    have a5:k≠5:=h5
    have a6:k≠6:=h6
    have a7:k≠7:=h7
    have a8:k≠8:=h8
    omega
   subst hk9
   unfold sizeL at hq
   cases hp:passL l [QfB,Qdx] s with
   | error g=>rw [Qae hp] at hq;cases hq
   | ok i=>
    rw [Qac hp] at hq
    have g1:=QrV i hp
    obtain ⟨g2,g3⟩:=QdC (zs:=[QfB,Qdx]) h (by decide) i hp
    have g4:=g2.num
    split at hq
    ·cases hn:nextL l i.2.2 with
     | error f=>rw [Qa9 hn] at hq;cases hq
     | ok z=>
      rw [QaX hn] at hq
      cases hq
      cases e
      exact ⟨by constructor <;> simp <;> (first | exact hu | exact g4 | exact g1 | skip),by simp⟩
    ·cases hq
theorem Qoa {l:List UInt8} {req:List (List UInt8)} {F:Nat} (hF:l.length < F):∀ (n:Nat) (s:PS),Gp l s→Has (Qs3 (WfT req) n) (Qbx l req F n s)
 | 0,s,h=>fun y e=>by rw [Qbx] at e;split at e <;> cases e
 | n+1,s,h=>fun y e=>by
  rw [Qbx] at e
  by_cases h0:whichL testNames s.1.spelt=0
  ·rw [if_pos h0] at e;cases e
  ·rw [if_neg h0] at e
   cases hu:Qcl req s.1.spelt
   ·rw [hu,if_neg (by decide)] at e;cases e
   ·rw [hu,if_pos rfl] at e
    cases hn:nextL l s.2 with
    | error g=>cases (Qa9 hn).symm.trans e
    | ok z=>
     replace e:=(QaX hn).symm.trans e
     obtain ⟨g1,g2⟩:=QdD h (QdQ (zs:=testNames) h (by decide) h0) hn
     exact Ql0 n hF (fun s g y e=>(QjU n s g y e).1) (fun s g=>Qoa hF n s g) _ _ (by have:=QbM testNames s.1.spelt;have:testNames.length=10:=rfl;omega) (by rw [Qgv _ _ h0];exact hu) g1 y e
theorem Qf4 {α:Type} {l:List UInt8} {sub:PS→Except Flt (α×PS)} {P:α→Prop} (hg:∀ s,Gp l s→∀ y,sub s=.ok y→Gp l y.2) (hs:∀ s,Gp l s→Has P (sub s)):∀ (f:Nat) (acc:List α) (s:PS),Gp l s→(∀ a∈acc,P a)→∀ y,blockMore l sub f acc s=.ok y→Gp l y.2∧∀ a∈y.1,P a
 | 0,acc,s,g,hc=>fun y e=>by cases e;exact ⟨g,hc⟩
 | f+1,acc,s,g,hc=>fun y e=>by
  rw [blockMore] at e
  cases hp:mayL l [[125]] s with
  | error g=>rw [Qae hp] at e;cases e
  | ok z=>
   rw [Qac hp] at e
   obtain ⟨h1,h2⟩:=QfH (zs:=[[125]]) g (by decide) z hp
   split at e
   ·cases hq:sub z.2 with
    | error g=>rw [Qae hq] at e;cases e
    | ok x=>
     rw [Qac hq] at e
     refine Qf4 hg hs f _ x.2 (hg _ h1 x hq) (fun u hu=>?_) y e
     rcases List.mem_append.1 hu with hu | hu
     ·exact hc u hu
     ·rw [List.mem_singleton.1 hu];exact hs _ h1 x hq
   ·cases e;exact ⟨h1,hc⟩
theorem Qln {α:Type} {l:List UInt8} {F:Nat} {sub:PS→Except Flt (α×PS)} {P:α→Prop} (hg:∀ s,Gp l s→∀ y,sub s=.ok y→Gp l y.2) (hs:∀ s,Gp l s→Has P (sub s)) {s:PS} (h:Gp l s):∀ y,blockL l F sub s=.ok y→Gp l y.2∧∀ a∈y.1,P a:=fun y e=>by
 unfold blockL at e
 cases hp:passL l [[123]] s with
 | error g=>rw [Qae hp] at e;cases e
 | ok z=>
  rw [Qac hp] at e
  obtain ⟨h1,h2⟩:=QdC (zs:=[[123]]) h (by decide) z hp
  exact Qf4 hg hs F [] z.2 h1 (by simp) y e
theorem Qqu {α β:Type} {l:List UInt8} {F:Nat} {tst:PS→Except Flt (β×PS)} {sub:PS→Except Flt (α×PS)} {P:α→Prop} {Q:β→Prop} (htg:∀ s,Gp l s→∀ y,tst s=.ok y→Gp l y.2) (ht:∀ s,Gp l s→Has Q (tst s)) (hg:∀ s,Gp l s→∀ y,sub s=.ok y→Gp l y.2) (hs:∀ s,Gp l s→Has P (sub s)) {s:PS} (h:Gp l s):∀ y,armL l F tst sub s=.ok y→Gp l y.2∧Q y.1.1∧∀ a∈y.1.2,P a:=fun y e=>by
 unfold armL at e
 cases hp:tst s with
 | error g=>rw [Qae hp] at e;cases e
 | ok z=>
  rw [Qac hp] at e
  cases hq:blockL l F sub z.2 with
  | error g=>rw [Qae hq] at e;cases e
  | ok x=>
   rw [Qac hq] at e
   have h1:=Qln hg hs (htg _ h z hp) x hq
   have h2:=ht _ h z hp
   cases e
   exact ⟨h1.1,h2,h1.2⟩
theorem Qod {α β:Type} {l:List UInt8} {F:Nat} {tst:PS→Except Flt (β×PS)} {sub:PS→Except Flt (α×PS)} {P:α→Prop} {Q:β→Prop} (htg:∀ s,Gp l s→∀ y,tst s=.ok y→Gp l y.2) (ht:∀ s,Gp l s→Has Q (tst s)) (hg:∀ s,Gp l s→∀ y,sub s=.ok y→Gp l y.2) (hs:∀ s,Gp l s→Has P (sub s)):∀ (f:Nat) (acc:List (β×List α)) (s:PS),Gp l s→acc≠[]→(∀ a∈acc,Q a.1∧∀ c∈a.2,P c)→∀ y,armsMore l F tst sub f acc s=.ok y→Gp l y.2∧y.1≠[]∧∀ a∈y.1,Q a.1∧∀ c∈a.2,P c
 | 0,acc,s,g,h,hc=>fun y e=>by cases e;exact ⟨g,h,hc⟩
 | f+1,acc,s,g,h,hc=>fun y e=>by
  rw [armsMore] at e
  cases hp:mayL l [Qdh] s with
  | error g=>rw [Qae hp] at e;cases e
  | ok z=>
   rw [Qac hp] at e
   obtain ⟨h1,h2⟩:=QfH (zs:=[Qdh]) g (by decide) z hp
   split at e
   ·cases e;exact ⟨h1,h,hc⟩
   ·cases hq:armL l F tst sub z.2 with
    | error g=>rw [Qae hq] at e;cases e
    | ok x=>
     rw [Qac hq] at e
     obtain ⟨h3,h4,h5⟩:=Qqu htg ht hg hs h1 x hq
     refine Qod htg ht hg hs f _ x.2 h3 (by simp) (fun u hu=>?_) y e
     rcases List.mem_append.1 hu with hu | hu
     ·exact hc u hu
     ·rw [List.mem_singleton.1 hu];exact ⟨h4,h5⟩
theorem Qen {α:Type} {l:List UInt8} {s:PS} {a:α}:Has (fun x=>x=a) (semi l s a):=fun y e=>by
 unfold semi at e
 cases hp:passL l [[59]] s with
 | error g=>rw [Qae hp] at e;cases e
 | ok z=>rw [Qac hp] at e;cases e;rfl
theorem Qnw (n:Nat) {l:List UInt8} {req:List (List UInt8)} {F:Nat} {tst:PS→Except Flt (Qcy n×PS)} {sub:PS→Except Flt (QcX n×PS)} (htg:∀ s,Gp l s→∀ y,tst s=.ok y→Gp l y.2) (ht:∀ s,Gp l s→Has (Qs3 (WfT req) n) (tst s)) (hg:∀ s,Gp l s→∀ y,sub s=.ok y→Gp l y.2) (hs:∀ s,Gp l s→Has (Qmf (WfT req) (WfC req) n) (sub s)) (k pos:Nat) (hk:k≤7) (hu:Qcl req (cmdNames.getD k [])=true) {s:PS} (h:Gp l s):Has (fun x:QgD×List (Qcy n×List (QcX n))×List (QcX n)=>WfC req x.1 x.2.1.length x.2.2.length∧(∀ a∈x.2.1,Qs3 (WfT req) n a.1∧∀ c∈a.2,Qmf (WfT req) (WfC req) n c)∧∀ c∈x.2.2,Qmf (WfT req) (WfC req) n c) (cmdBody l F tst sub k pos s):=fun y e=>by
 unfold cmdBody at e
 split at e
 ·rw [Qen y e];exact ⟨by constructor <;> simp <;> (first | exact hu | skip),by simp,by simp⟩
 ·rw [Qen y e];exact ⟨by constructor <;> simp <;> (first | exact hu | skip),by simp,by simp⟩
 ·rw [Qen y e];exact ⟨by constructor <;> simp <;> (first | exact hu | skip),by simp,by simp⟩
 ·cases hq:stringL l (fun _=>0) s with
  | error g=>rw [Qae hq] at e;cases e
  | ok x=>rw [Qac hq] at e;rw [Qen y e];exact ⟨by constructor <;> simp <;> (first | exact hu | skip),by simp,by simp⟩
 ·cases hq:stringL l (fun _=>0) s with
  | error g=>rw [Qae hq] at e;cases e
  | ok x=>rw [Qac hq] at e;rw [Qen y e];exact ⟨by constructor <;> simp <;> (first | exact hu | skip),by simp,by simp⟩
 ·cases hq:stringL l (fun _=>0) s with
  | error g=>rw [Qae hq] at e;cases e
  | ok x=>rw [Qac hq] at e;rw [Qen y e];exact ⟨by constructor <;> simp <;> (first | exact hu | skip),by simp,by simp⟩
 ·cases hm:mayL l [Qdi,Qdg,Qcn] s with
  | error g=>rw [Qae hm] at e;cases e
  | ok m=>
   rw [Qac hm] at e
   have g0:=QtB m hm
   cases hv:stringL l (fun x=>if isNameL x then 0 else 7) m.2 with
   | error g=>rw [Qae hv] at e;cases e
   | ok v=>
    rw [Qac hv] at e
    have g1:=Qgu v hv
    have g2:isNameL v.1=true:=by
     dsimp only at g1
     split at g1
     ·assumption
     ·cases g1
    cases hq:stringL l (fun _=>0) v.2 with
    | error g=>rw [Qae hq] at e;cases e
    | ok x=>
     rw [Qac hq] at e
     rw [Qen y e]
     exact ⟨by constructor <;> simp <;> (first | exact hu | exact g0 | exact ⟨v.1,g2,rfl⟩ | skip),by simp,by simp⟩
 ·rename_i h0 h1 h2 h3 h4 h5 h6
  have hk7:k=7:=by
   have a0:k≠0:=h0
   have a1:k≠1:=h1
   have a2:k≠2:=h2
   have a3:k≠3:=h3
   have a4:k≠4:=h4
   have a5:k≠5:=h5
   have a6:k≠6:=h6
   omega
  subst hk7
  cases ha:armL l F tst sub s with
  | error g=>rw [Qae ha] at e;cases e
  | ok a=>
   rw [Qac ha] at e
   obtain ⟨g1,g2,g3⟩:=Qqu htg ht hg hs h a ha
   cases hb:armsMore l F tst sub F [a.1] a.2 with
   | error g=>rw [Qae hb] at e;cases e
   | ok bb=>
    rw [Qac hb] at e
    obtain ⟨g4,g5,g6⟩:=Qod htg ht hg hs F [a.1] a.2 g1 (by simp) (fun u hu=>by rw [List.mem_singleton.1 hu];exact ⟨g2,g3⟩) bb hb
    cases hm:mayL l [Qfq] bb.2 with
    | error g=>rw [Qae hm] at e;cases e
    | ok m=>
     rw [Qac hm] at e
     obtain ⟨g7,g8⟩:=QfH (zs:=[Qfq]) g4 (by decide) m hm
     split at e
     ·cases e
      exact ⟨by constructor <;> simp <;> (first | exact hu | exact List.length_pos_iff.2 g5 | skip),g6,by simp⟩
     ·cases hc:blockL l F sub m.2 with
      | error g=>rw [Qae hc] at e;cases e
      | ok cs=>
       rw [Qac hc] at e
       have g9:=Qln hg hs g7 cs hc
       cases e
       exact ⟨by constructor <;> simp <;> (first | exact hu | exact List.length_pos_iff.2 g5 | skip),g6,g9.2⟩
theorem QsQ {l:List UInt8} {req:List (List UInt8)} {F:Nat}:∀ (n:Nat) (hn:n≤7) (s:PS),Gp l s→∀ y,cmdL l req F n s=.ok y→Gp l y.2:=fun n hn s h y e=>(Qq0 n [] (by simp;omega) s h y e).1
theorem Qqm {l:List UInt8} {req:List (List UInt8)} {F:Nat} (hF:l.length < F):∀ (n:Nat) (hn:n≤7) (s:PS),Gp l s→Has (Qmf (WfT req) (WfC req) n) (cmdL l req F n s)
 | 0,hn,s,h=>fun y e=>by rw [cmdL] at e;split at e <;> cases e
 | n+1,hn7,s,h=>fun y e=>by
  rw [cmdL] at e
  by_cases h0:whichL cmdNames s.1.spelt=0
  ·rw [if_pos h0] at e;cases e
  ·rw [if_neg h0] at e
   cases hu:Qcl req s.1.spelt
   ·rw [hu,if_neg (by decide)] at e;cases e
   ·rw [hu,if_pos rfl] at e
    cases hn:nextL l s.2 with
    | error g=>cases (Qa9 hn).symm.trans e
    | ok z=>
     replace e:=(QaX hn).symm.trans e
     obtain ⟨g1,g2⟩:=QdD h (QdQ (zs:=cmdNames) h (by decide) h0) hn
     exact Qnw n (fun s g y e=>(QjU n s g y e).1) (fun s g=>Qoa hF n s g) (QsQ n (by omega)) (fun s g=>Qqm hF n (by omega) s g) _ _ (by have:=QbM cmdNames s.1.spelt;have:cmdNames.length=8:=rfl;omega) (by rw [Qgv _ _ h0];exact hu) g1 y e
def WfR (req:List (List UInt8)):Prop:=req.Nodup∧∀ z∈req,0 < whichL [QaH,QaK,QaZ,Qbc] z
theorem Ql1:∀ (zs:List (List UInt8)) (x:List UInt8),x∈zs→0 < whichL zs x
 | [],x,h=>by cases h
 | s :: r,x,h=>by
  unfold whichL
  split
  ·omega
  ·rename_i e
   rcases List.mem_cons.1 h with h | h
   ·exact absurd h.symm e
   ·have:=Ql1 r x h
    rw [if_neg (by omega)]
    omega
theorem Qjh:∀ (xs req:List (List UInt8)),WfR req→(∀ z∈xs,0 < whichL [QaH,QaK,QaZ,Qbc] z)→WfR (xs.foldl QbQ req)
 | [],req,h,hx=>h
 | x :: r,req,h,hx=>by
  rw [List.foldl_cons]
  refine Qjh r _ ?_ (fun z hz=>hx z (by simp [hz]))
  unfold QbQ
  split
  ·exact h
  ·rename_i h0
   refine ⟨?_,fun z hz=>?_⟩
   ·rw [List.nodup_append]
    refine ⟨h.1,by simp,fun a ha b hb=>?_⟩
    rw [List.mem_singleton.1 hb]
    intro e
    subst e
    exact h0 (Ql1 _ _ ha)
   ·rcases List.mem_append.1 hz with hz | hz
    ·exact h.2 z hz
    ·rw [List.mem_singleton.1 hz];exact hx x (by simp)
theorem Qjg {l:List UInt8} {F:Nat}:∀ (f:Nat) (req:List (List UInt8)) (s:PS),WfR req→Has WfR (reqMore l F f req s)
 | 0,req,s,h=>fun y e=>by cases e;exact h
 | f+1,req,s,h=>fun y e=>by
  rw [reqMore] at e
  cases hp:mayL l [Qbw] s with
  | error g=>rw [Qae hp] at e;cases e
  | ok z=>
   rw [Qac hp] at e
   split at e
   ·cases e;exact h
   ·cases hq:stringsL l (fun x=>if 0 < whichL [QaH,QaK,QaZ,Qbc] x then 0 else 6) F z.2 with
    | error g=>rw [Qae hq] at e;cases e
    | ok x=>
     rw [Qac hq] at e
     have h1:=Qei x hq
     cases hr:passL l [[59]] x.2 with
     | error g=>rw [Qae hr] at e;cases e
     | ok v=>
      rw [Qac hr] at e
      refine Qjg f _ v.2 (Qjh x.1 req h (fun z hz=>?_)) y e
      have:=h1.2 z hz
      split at this
      ·assumption
      ·cases this
theorem QgT {α:Type} {l:List UInt8} {sub:PS→Except Flt (α×PS)} {P:α→Prop} (hg:∀ s,Gp l s→∀ y,sub s=.ok y→Gp l y.2) (hs:∀ s,Gp l s→Has P (sub s)):∀ (f:Nat) (acc:List α) (s:PS),Gp l s→(∀ a∈acc,P a)→∀ y,cmdsMore sub f acc s=.ok y→∀ a∈y,P a
 | 0,acc,s,h,hc=>fun y e=>by cases e;exact hc
 | f+1,acc,s,h,hc=>fun y e=>by
  rw [cmdsMore] at e
  split at e
  ·cases e;exact hc
  ·cases hq:sub s with
   | error g=>rw [hq] at e;cases e
   | ok x=>
    rw [hq] at e
    refine QgT hg hs f _ x.2 (hg _ h x hq) (fun u hu=>?_) y e
    rcases List.mem_append.1 hu with hu | hu
    ·exact hc u hu
    ·rw [List.mem_singleton.1 hu];exact hs _ h x hq
theorem Qr9 {l:List UInt8} {y:List (List UInt8)×List (QcX 7)} (h:parseL l=.ok y):WfR y.1∧∀ c∈y.2,Qmf (WfT y.1) (WfC y.1) 7 c:=by
 unfold parseL at h
 dsimp only at h
 have hF:l.length < 2*l.length+10:=by omega
 generalize 2*l.length+10=F at h hF
 cases h1:nextL l 0 with
 | error f=>rw [h1] at h;cases h
 | ok s=>
  rw [h1] at h
  dsimp only at h
  have hg:Gp l s:=by
   unfold nextL at h1
   cases hs:QbS (l.length+1) (l.drop 0) 0 with
   | error f=>rw [hs] at h1;cases h1
   | ok n=>
    rw [hs] at h1
    exact (QjT l n (QdN l _ 0 n (Nat.zero_le _) hs).2 s h1).1
  cases h3:reqMore l F F [] s with
  | error f=>rw [h3] at h;cases h
  | ok z=>
   rw [h3] at h
   dsimp only at h
   have g1:=(Qgb F [] s hg z h3).1
   have g2:=Qjg F [] s ⟨by simp,by simp⟩ z h3
   cases h4:cmdsMore (cmdL l z.1 F 7) F [] z.2 with
   | error f=>rw [h4] at h;cases h
   | ok cs=>
    rw [h4] at h
    have g3:=QgT (P:=Qmf (WfT z.1) (WfC z.1) 7) (QsQ 7 (by omega)) (fun s g=>Qqm hF 7 (by omega) s g) F [] z.2 g1 (by simp) cs h4
    cases h
    exact ⟨g2,g3⟩
theorem QfN {l:List UInt8} {q:Nat} {c:UInt8} {r:List UInt8} (h:l.drop q=c :: r):l.drop (q+1)=r:=by
 rw [← List.drop_drop,h];rfl
def Qhv (r:List UInt8):Prop:=∀ c t,r=c :: t→Qbf c=false
theorem QpM {c:UInt8} {t:List UInt8} (h:Qbf c=false):Qhv (c :: t):=fun d u e=>by cases e;exact h
def Tok (r r':List UInt8) (k:Nat) (sp sa:List UInt8) (nu:Nat):Prop:=∀ l q,l.drop q=r→∃ q1 q2,nextL l q=.ok (⟨k,q1,sp,sa,nu⟩,q2)∧l.drop q2=r'
theorem Ql6 {c:UInt8} {r r':List UInt8} {k:Nat} {sp sa:List UInt8} {nu:Nat} (hb:Qbb c.toNat=true) (h:Tok r r' k sp sa nu):Tok (c :: r) r' k sp sa nu:=fun l q hq=>by
 obtain ⟨q1,q2,h1,h2⟩:=h l (q+1) (QfN hq)
 refine ⟨q1,q2,?_,h2⟩
 rw [Qgm,QfN hq] at h1
 rw [Qgm,hq,Qh6 r q hb]
 exact h1
theorem Qg9 {c:UInt8} {r r':List UInt8} {k:Nat} {sp sa:List UInt8} {nu m:Nat} (hb:Qbb c.toNat=false) (h35:¬ c.toNat=35) (h47:¬ c.toNat=47) (hs:∀ q,scanL (c :: r) q=.ok (⟨k,q,sp,sa,nu⟩,q+m)) (hr:(c :: r).drop m=r'):Tok (c :: r) r' k sp sa nu:=fun l q hq=>by
 refine ⟨q,q+m,?_,?_⟩
 ·rw [Qgm,hq,Qo2 r q hb h35 ?_]
  ·show scanL (l.drop q) q=_
   rw [hq]
   exact hs q
  ·unfold Lib.hasPrefix
   have:¬ (47:UInt8)=c:=fun e=>h47 (by rw [← e];rfl)
   simp [List.isPrefixOf,this]
 ·rw [← List.drop_drop,hq,hr]
theorem Qh5 {r:List UInt8} (h:Qhv r):r.takeWhile Qbf=[]:=by
 cases r with
 | nil=>rfl
 | cons c t=>rw [List.takeWhile_cons,h c t rfl];rfl
theorem Qli {w r:List UInt8} (hw:∀ c∈w,Qbf c=true) (h:Qhv r):Qbr (w++r)=w.length:=by
 unfold Qbr
 rw [List.takeWhile_append_of_pos hw,Qh5 h,List.append_nil]
theorem QiW:∀ t:List UInt8,(t.takeWhile Qbf).length=t.length→∀ d∈t,Qbf d=true
 | [],_=>fun d hd=>by cases hd
 | c :: t,h=>fun d hd=>by
  rw [List.takeWhile_cons] at h
  cases hc:Qbf c
  ·rw [hc] at h;simp at h
  ·rw [hc] at h
   rcases List.mem_cons.1 hd with hd | hd
   ·rw [hd];exact hc
   ·exact QiW t (by simpa using h) d hd
theorem QeT {w:List UInt8} (h:isNameL w=true):∃ c t,w=c :: t∧Qbg c.toNat=true∧∀ d∈t,Qbf d=true:=by
 cases w with
 | nil=>cases h
 | cons c t=>
  have h:(!(c :: t).isEmpty && (if Qbg c.toNat then 1+Qbr t else 0) == (c :: t).length)=true:=h
  refine ⟨c,t,rfl,?_⟩
  cases hc:Qbg c.toNat
  ·rw [hc] at h;simp at h
  ·rw [hc] at h
   refine ⟨rfl,?_⟩
   simp at h
   exact QiW t (by unfold Qbr at h;omega)
theorem Qhq {w r:List UInt8} (h:isNameL w=true) (hr:Qhv r):Qa4 (w++r)=w.length:=by
 obtain ⟨c,t,rfl,h1,h2⟩:=QeT h
 show (if Qbg c.toNat then 1+Qbr (t++r) else 0)=_
 rw [if_pos h1,Qli h2 hr,List.length_cons]
 omega
theorem Qp3 {c:UInt8} (h:Qbg c.toNat=true):Qbb c.toNat=false∧¬ c.toNat=35∧¬ c.toNat=47:=by
 unfold Qbg QdO at h
 unfold Qbb
 simp at h ⊢
 omega
def Kw (w:List UInt8):Prop:=isNameL w=true∧smallL w=w
theorem Qe7 {w r:List UInt8} (hw:Kw w) (hr:Qhv r):Tok (w++r) r 1 w [] 0:=by
 have h1:=Qhq hw.1 hr
 obtain ⟨c,t,e,h2,h3⟩:=QeT hw.1
 have hs:=hw.2
 subst e
 rw [List.cons_append] at h1 ⊢
 obtain ⟨a,b,d⟩:=Qp3 h2
 refine Qg9 (m:=(c :: t).length) a b d (fun q=>?_) (by rw [← List.cons_append,List.drop_left])
 unfold scanL
 dsimp only
 rw [if_pos h2,h1]
 unfold QcC
 rw [← List.cons_append,List.take_left,hs]
theorem Qhh {w r:List UInt8} (hw:Kw w) (hr:Qhv r):Tok (58 :: (w++r)) r 2 (58 :: w) [] 0:=by
 have h1:=Qhq hw.1 hr
 have h0:w.length≠0:=by obtain ⟨c,t,e,_⟩:=QeT hw.1;subst e;simp
 refine Qg9 (m:=1+w.length) (by decide) (by decide) (by decide) (fun q=>?_) ?_
 ·unfold scanL
  dsimp only
  rw [if_neg (by decide),if_pos (by decide),if_neg (by rw [h1];exact h0),h1]
  unfold QcC
  have e:(58 :: (w++r)).take (1+w.length)=58 :: w:=by rw [Nat.add_comm,List.take_succ_cons,List.take_left]
  rw [e]
  have e2:smallL (58 :: w)=58 :: w:=by
   have:=hw.2
   unfold smallL at this ⊢
   rw [List.map_cons,this]
   rfl
  rw [e2]
 ·rw [Nat.add_comm,List.drop_succ_cons,List.drop_left]
theorem Qe8 {c:UInt8} {r:List UInt8} (hs:QhL c=true) (hl:Qbg c.toNat=false) (hd:QaE c.toNat=false) (h58:¬ c.toNat=58) (h34:¬ c.toNat=34) (hb:Qbb c.toNat=false) (h35:¬ c.toNat=35) (h47:¬ c.toNat=47) (hsm:Qc5 c=c):Tok (c :: r) r 3 [c] [] 0:=by
 refine Qg9 (m:=1) hb h35 h47 (fun q=>?_) rfl
 unfold scanL
 dsimp only
 rw [if_neg (by rw [hl];decide),if_neg h58,if_neg (by rw [hd];decide),if_neg h34,if_pos hs]
 unfold QcC
 simp [smallL,hsm]
theorem QfY (r:List UInt8):∀ x:List UInt8,quoteL (x.flatMap Qb9++34 :: r)=some (x,(x.flatMap Qb9).length+1)
 | []=>by
  show quoteL (34 :: r)=_
  unfold quoteL
  rw [if_pos (by decide)]
  rfl
 | c :: x=>by
  have ih:=QfY r x
  rw [List.flatMap_cons]
  by_cases h:c=34∨c=92
  ·have hb:Qb9 c=[92,c]:=by unfold Qb9;rw [if_pos h]
   rw [hb]
   show quoteL (92 :: c :: (x.flatMap Qb9++34 :: r))=_
   rw [quoteL.eq_def]
   dsimp only
   rw [if_neg (by decide),if_pos (by decide),ih]
   simp
  ·have hb:Qb9 c=[c]:=by unfold Qb9;rw [if_neg h]
   rw [hb]
   show quoteL (c :: (x.flatMap Qb9++34 :: r))=_
   have h1:¬ c.toNat=34:=fun e=>h (Or.inl (UInt8.toNat_inj.1 (by rw [e];rfl)))
   have h2:¬ c.toNat=92:=fun e=>h (Or.inr (UInt8.toNat_inj.1 (by rw [e];rfl)))
   rw [quoteL.eq_def]
   dsimp only
   rw [if_neg h1,if_neg h2,ih]
   simp
theorem Qe9 (x r:List UInt8):Tok (Qat x++r) r 5 [] x 0:=by
 unfold Qat
 rw [List.cons_append,List.append_assoc]
 have h:=QfY r x
 refine Qg9 (m:=1+((x.flatMap Qb9).length+1)) (by decide) (by decide) (by decide) (fun q=>?_) ?_
 ·unfold scanL
  dsimp only
  rw [if_neg (by decide),if_neg (by decide),if_neg (by decide),if_pos (by decide)]
  unfold quoteR
  have e:x.flatMap Qb9++([34]++r)=x.flatMap Qb9++34 :: r:=rfl
  rw [e,h]
 ·rw [Nat.add_comm,List.drop_succ_cons]
  have:x.flatMap Qb9++([34]++r)=(x.flatMap Qb9++[34])++r:=by simp
  rw [this]
  have e:(x.flatMap Qb9).length+1=(x.flatMap Qb9++[34]).length:=by simp
  rw [e,List.drop_left]
theorem Qke:Tok [] [] 0 [] [] 0:=fun l q hq=>by
 refine ⟨q,q,?_,hq⟩
 rw [Qgm,hq,Qq1]
 show scanL (l.drop q) q=_
 rw [hq]
 rfl
def Lx (r:List UInt8):Prop:=∃ r' k sp sa nu,Tok r r' k sp sa nu
theorem Tok.lx {r r':List UInt8} {k:Nat} {sp sa:List UInt8} {nu:Nat} (h:Tok r r' k sp sa nu):Lx r:=⟨_,_,_,_,_,h⟩
theorem Qcv {c:UInt8} {r:List UInt8} (hb:Qbb c.toNat=true) (h:Lx r):Lx (c :: r):=by
 obtain ⟨_,_,_,_,_,h⟩:=h;exact (Ql6 hb h).lx
def Nx (l r:List UInt8) (s:PS):Prop:=∃ q,l.drop q=r∧nextL l q=.ok s
theorem Nx.blank {l:List UInt8} {c:UInt8} {r:List UInt8} {s:PS} (hb:Qbb c.toNat=true) (h:Nx l (c :: r) s):Nx l r s:=by
 obtain ⟨q,h1,h2⟩:=h
 refine ⟨q+1,QfN h1,?_⟩
 rw [Qgm,h1,Qh6 r q hb] at h2
 rw [Qgm,QfN h1]
 exact h2
theorem Nx.tok {l r r':List UInt8} {k:Nat} {sp sa:List UInt8} {nu:Nat} {s:PS} (h:Nx l r s) (ht:Tok r r' k sp sa nu):(∃ q1,s.1=⟨k,q1,sp,sa,nu⟩)∧l.drop s.2=r':=by
 obtain ⟨q,h1,h2⟩:=h
 obtain ⟨q1,q2,h3,h4⟩:=ht l q h1
 rw [h3] at h2
 cases h2
 exact ⟨⟨q1,rfl⟩,h4⟩
theorem Nx.next {l r:List UInt8} {s:PS} (hl:Lx r) (h:l.drop s.2=r):∃ y,nextL l s.2=.ok y∧Nx l r y:=by
 obtain ⟨_,_,_,_,_,ht⟩:=hl
 obtain ⟨q1,q2,h3,h4⟩:=ht l s.2 h
 exact ⟨_,h3,s.2,h,h3⟩
def Reads {α:Type} (l r r':List UInt8) (f:PS→Except Flt (α×PS)) (P:α→Prop):Prop:=∀ s,Nx l r s→∃ a s',f s=.ok (a,s')∧P a∧Nx l r' s'
theorem Reads.blank {α:Type} {l r r':List UInt8} {c:UInt8} {f:PS→Except Flt (α×PS)} {P:α→Prop} (hb:Qbb c.toNat=true) (h:Reads l r r' f P):Reads l (c :: r) r' f P:=fun s hs=>h s (hs.blank hb)
theorem Reads.andThen {α β:Type} {l r r1 r2:List UInt8} {f:PS→Except Flt (α×PS)} {P:α→Prop} {k:α→PS→Except Flt (β×PS)} {Q:β→Prop} (h:Reads l r r1 f P) (hk:∀ a,P a→Reads l r1 r2 (k a) Q):Reads l r r2 (fun s=>QaQ (f s) k) Q:=fun s hs=>by
 obtain ⟨a,s1,h1,h2,h3⟩:=h s hs
 obtain ⟨b,s2,h4,h5,h6⟩:=hk a h2 s1 h3
 exact ⟨b,s2,(Qac h1).trans h4,h5,h6⟩
theorem Reads.ok {α:Type} {l r:List UInt8} {a:α} {P:α→Prop} (h:P a):Reads l r r (fun s=>.ok (a,s)) P:=fun s hs=>⟨a,s,rfl,h,hs⟩
theorem QdU {l r r':List UInt8} {k:Nat} {sp sa:List UInt8} {nu:Nat} {zs:List (List UInt8)} (ht:Tok r r' k sp sa nu) (hi:¬ whichL zs sp=0) (hl:Lx r'):Reads l r r' (passL l zs) (fun i=>i=whichL zs sp):=fun s hs=>by
 obtain ⟨⟨q,h1⟩,h2⟩:=hs.tok ht
 obtain ⟨y,h3,h4⟩:=Nx.next hl h2
 refine ⟨whichL zs sp,y,?_,rfl,h4⟩
 unfold passL
 rw [h1,if_neg hi,h3]
theorem Qhu {l r r':List UInt8} {k:Nat} {sp sa:List UInt8} {nu:Nat} {zs:List (List UInt8)} (ht:Tok r r' k sp sa nu) (hi:¬ whichL zs sp=0) (hl:Lx r'):Reads l r r' (mayL l zs) (fun i=>i=whichL zs sp):=fun s hs=>by
 obtain ⟨⟨q,h1⟩,h2⟩:=hs.tok ht
 obtain ⟨y,h3,h4⟩:=Nx.next hl h2
 refine ⟨whichL zs sp,y,?_,rfl,h4⟩
 unfold mayL
 rw [h1,if_neg hi,h3]
theorem QhW {l r r':List UInt8} {k:Nat} {sp sa:List UInt8} {nu:Nat} {zs:List (List UInt8)} (ht:Tok r r' k sp sa nu) (hi:whichL zs sp=0):Reads l r r (mayL l zs) (fun i=>i=0):=fun s hs=>by
 obtain ⟨⟨q,h1⟩,h2⟩:=hs.tok ht
 refine ⟨0,s,?_,rfl,hs⟩
 unfold mayL
 rw [h1,if_pos hi]
theorem Qdb {l:List UInt8} {x r':List UInt8} {chk:List UInt8→Nat} (hc:chk x=0) (hl:Lx r'):Reads l (Qat x++r') r' (stringL l chk) (fun y=>y=x):=fun s hs=>by
 obtain ⟨⟨q,h1⟩,h2⟩:=hs.tok (Qe9 x r')
 obtain ⟨y,h3,h4⟩:=Nx.next hl h2
 refine ⟨x,y,?_,rfl,h4⟩
 unfold stringL
 rw [h1]
 dsimp only
 rw [if_pos rfl,if_pos hc,h3]
theorem QeO (x r:List UInt8):Lx (Qat x++r):=(Qe9 x r).lx
theorem Qp8 (r:List UInt8):Tok (44 :: r) r 3 [44] [] 0:=Qe8 (by decide) (by decide) (by decide) (by decide) (by decide) (by decide) (by decide) (by decide) (by decide)
theorem QsX (r:List UInt8):Tok (93 :: r) r 3 [93] [] 0:=Qe8 (by decide) (by decide) (by decide) (by decide) (by decide) (by decide) (by decide) (by decide) (by decide)
theorem Qp4 (r:List UInt8):Tok (91 :: r) r 3 [91] [] 0:=Qe8 (by decide) (by decide) (by decide) (by decide) (by decide) (by decide) (by decide) (by decide) (by decide)
theorem QnX (r:List UInt8):Tok (59 :: r) r 3 [59] [] 0:=Qe8 (by decide) (by decide) (by decide) (by decide) (by decide) (by decide) (by decide) (by decide) (by decide)
theorem QqR (r:List UInt8):Tok (123 :: r) r 3 [123] [] 0:=Qe8 (by decide) (by decide) (by decide) (by decide) (by decide) (by decide) (by decide) (by decide) (by decide)
theorem Qqp (r:List UInt8):Tok (125 :: r) r 3 [125] [] 0:=Qe8 (by decide) (by decide) (by decide) (by decide) (by decide) (by decide) (by decide) (by decide) (by decide)
def QhN (xs:List (List UInt8)):List UInt8:=xs.flatMap fun x=>44 :: 32 :: Qat x
theorem Qud (x:List UInt8):∀ xs:List (List UInt8),Qd2 [44,32] ((x :: xs).map Qat)=Qat x++QhN xs
 | []=>by simp [Qd2,QhN]
 | y :: r=>by
  have ih:=Qud y r
  show Qat x++[44,32]++Qd2 [44,32] ((y :: r).map Qat)=_
  rw [ih]
  simp [QhN]
theorem QiR {l:List UInt8} {r':List UInt8} {chk:List UInt8→Nat} (hl:Lx r'):∀ (xs:List (List UInt8)) (f:Nat) (acc:List (List UInt8)),(∀ x∈xs,chk x=0)→xs.length < f→Reads l (QhN xs++93 :: r') r' (moreL l chk f acc) (fun ys=>ys=acc++xs)
 | xs,0,acc,hc,hf=>by omega
 | [],f+1,acc,hc,hf=>fun s hs=>by
  obtain ⟨i,s1,h1,h2,h3⟩:=QdU (zs:=[[44],[93]]) (QsX r') (by decide) hl s hs
  refine ⟨acc,s1,?_,by simp,h3⟩
  rw [moreL,h1]
  dsimp only
  rw [h2,if_neg (by decide)]
 | x :: xs,f+1,acc,hc,hf=>fun s hs=>by
  have e:QhN (x :: xs)++93 :: r'=44 :: 32 :: (Qat x++(QhN xs++93 :: r')):=by simp [QhN]
  rw [e] at hs
  have hl2:Lx (QhN xs++93 :: r'):=by
   cases xs with
   | nil=>exact (QsX r').lx
   | cons y ys=>exact (Qp8 _).lx
  obtain ⟨i,s1,h1,h2,h3⟩:=QdU (zs:=[[44],[93]]) (Qp8 _) (by decide) (Qcv (by decide) (QeO x _)) s hs
  obtain ⟨y,s2,h4,h5,h6⟩:=Qdb (chk:=chk) (hc x (by simp)) hl2 s1 (h3.blank (by decide))
  obtain ⟨ys,s3,h7,h8,h9⟩:=QiR hl xs f (acc++[x]) (fun z hz=>hc z (by simp [hz])) (by simp at hf;omega) s2 h6
  refine ⟨ys,s3,?_,by rw [h8];simp,h9⟩
  rw [moreL,h1]
  dsimp only
  rw [h2,if_pos (by decide),h4]
  dsimp only
  rw [h5]
  exact h7
theorem QdI (x y:List UInt8) (r:List (List UInt8)):Qa2 (x :: y :: r)=91 :: (Qat x++(QhN (y :: r)++[93])):=by
 show [91]++Qd2 [44,32] ((x :: y :: r).map Qat)++[93]=_
 rw [Qud]
 simp
theorem Ql9 {xs:List (List UInt8)} (hx:xs≠[]) (r:List UInt8):Lx (Qa2 xs++r):=by
 match xs,hx with
 | [x],_=>exact QeO x r
 | x :: y :: t,_=>rw [QdI];exact (Qp4 _).lx
theorem Qee {l:List UInt8} {r':List UInt8} {chk:List UInt8→Nat} {F:Nat} {xs:List (List UInt8)} (hl:Lx r') (hx:xs≠[]) (hc:∀ x∈xs,chk x=0) (hF:xs.length≤F):Reads l (Qa2 xs++r') r' (stringsL l chk F) (fun ys=>ys=xs):=fun s hs=>by
 match xs,hx with
 | [x],_=>
  obtain ⟨i,s1,h1,h2,h3⟩:=QhW (l:=l) (zs:=[[91]]) (Qe9 x r') (by decide) s hs
  obtain ⟨y,s2,h4,h5,h6⟩:=Qdb (chk:=chk) (hc x (by simp)) hl s1 h3
  refine ⟨[x],s2,?_,rfl,h6⟩
  unfold stringsL
  rw [h1]
  dsimp only
  rw [h4]
  dsimp only
  rw [h2,if_pos rfl,h5]
 | x :: y :: t,_=>
  have e:Qa2 (x :: y :: t)++r'=91 :: (Qat x++(QhN (y :: t)++93 :: r')):=by rw [QdI];simp
  rw [e] at hs
  obtain ⟨i,s1,h1,h2,h3⟩:=Qhu (zs:=[[91]]) (Qp4 _) (by decide) (QeO x _) s hs
  have hl2:Lx (QhN (y :: t)++93 :: r'):=(Qp8 _).lx
  obtain ⟨z,s2,h4,h5,h6⟩:=Qdb (chk:=chk) (hc x (by simp)) hl2 s1 h3
  obtain ⟨ys,s3,h7,h8,h9⟩:=QiR (chk:=chk) hl (y :: t) F [x] (fun z hz=>hc z (by simp at hz ⊢;right;exact hz)) (by simp at hF ⊢;omega) s2 h6
  refine ⟨ys,s3,?_,by rw [h8];simp,h9⟩
  unfold stringsL
  rw [h1]
  dsimp only
  rw [h4]
  dsimp only
  rw [h2,if_neg (by decide),h5]
  exact h7
def QcE (i:Ins):Ins:=⟨i.op,i.n,i.tag,i.oct,i.a,i.b,0⟩
def QcD (op:Int):Ins:=⟨op,0,0,false,[],[],0⟩
def QcQ (h:Bool):Ins:=⟨1,if h then 1 else 0,0,false,[],[],0⟩
def Qcu (op:Int) (x:QdG):Ins:=⟨op,0,x.tag,x.octet,x.fr,x.keys,0⟩
def Qim (kind:Int) (pos:Nat) (a:List (List UInt8)):Ins:=⟨11,0,kind,false,a,[],pos⟩
def QeF (n:Int) (i:Ins):Ins:=⟨i.op,n,i.tag,i.oct,i.a,i.b,i.at_⟩
def landL (js:List Nat) (cs:List Ins):List Ins:=js.foldl (fun c j=>c.modify j (QeF ((c.length:Int) - ((j:Int)+1)))) cs
def blockC {α:Type} (sub:α→List Ins→List Ins) (ts:List α) (cs:List Ins):List Ins:=ts.foldl (fun c t=>sub t c) cs
def QdW {α:Type} (sub:α→List Ins→List Ins) (jump:Int) (p:List Ins×List Nat) (t:α):List Ins×List Nat:=(sub t p.1++[QcD jump],p.2++[(sub t p.1).length])
def QcY (settled:Bool) (r:List Ins×List Nat):List Ins:=
 landL [r.1.length+1] (landL r.2 (r.1++[QcQ (!settled),QcD 3])++[QcQ settled])
def QcH {α:Type} (sub:α→List Ins→List Ins) (jump:Int) (settled:Bool) (ts:List α) (cs:List Ins):List Ins:=
 QcY settled (ts.foldl (QdW sub jump) (cs,[]))
def QaT {α:Type} (sub:α→List Ins→List Ins) (x:QdG) (ts:List α) (cs:List Ins):List Ins:=
 match x.kind with
 | 0=>cs++[QcQ true]
 | 1=>cs++[QcQ false]
 | 2=>blockC sub ts cs++[QcD 2]
 | 3=>QcH sub 5 false ts cs
 | 4=>QcH sub 4 true ts cs
 | 5=>cs++[Qcu 6 x]
 | 6=>cs++[Qcu 7 x]
 | 7=>cs++[Qcu 8 x]
 | 8=>cs++[⟨9,0,0,false,x.fr,[],0⟩]
 | _=>cs++[⟨10,x.num,x.tag,false,[],[],0⟩]
def Qb5:(n:Nat)→Qcy n→List Ins→List Ins
 | 0,_,cs=>cs
 | n+1,x,cs=>QaT (Qb5 n) x.1 x.2 cs
def QjC {α β:Type} (tst:β→List Ins→List Ins) (cmd:α→List Ins→List Ins) (p:List Ins×List Nat) (a:β×List α):List Ins×List Nat:=
 (landL [(tst a.1 p.1).length] (blockC cmd a.2 (tst a.1 p.1++[QcD 5])++[QcD 3]),p.2++[(blockC cmd a.2 (tst a.1 p.1++[QcD 5])).length])
def Qdy {α:Type} (cmd:α→List Ins→List Ins) (els:List α) (r:List Ins×List Nat):List Ins:=landL r.2 (blockC cmd els r.1)
def QdP {α β:Type} (tst:β→List Ins→List Ins) (cmd:α→List Ins→List Ins) (arms:List (β×List α)) (els:List α) (cs:List Ins):List Ins:=
 Qdy cmd els (arms.foldl (QjC tst cmd) (cs,[]))
def Qba {α β:Type} (tst:β→List Ins→List Ins) (cmd:α→List Ins→List Ins) (x:QgD) (arms:List (β×List α)) (els:List α) (cs:List Ins):List Ins:=
 match x.kind with
 | 0=>cs++[Qim 1 x.pos []]
 | 1=>cs++[⟨13,0,0,false,[],[],x.pos⟩]
 | 2=>cs++[⟨14,0,0,false,[],[],x.pos⟩]
 | 3=>cs++[Qim 2 x.pos [x.arg]]
 | 4=>cs++[Qim 3 x.pos [x.arg]]
 | 5=>cs++[Qim 4 x.pos [x.arg]]
 | 6=>cs++[⟨12,0,x.tag,false,[x.var],[x.arg],x.pos⟩]
 | _=>QdP tst cmd arms els cs
def Qin:(n:Nat)→QcX n→List Ins→List Ins
 | 0,_,cs=>cs
 | n+1,x,cs=>Qba (Qb5 n) (Qin n) x.1 x.2.1 x.2.2 cs
def Qdm (cs:List (QcX 7)):List Ins:=blockC (Qin 7) cs []
theorem QsD (cs:List Ins) (j:Nat) (n:Int):(cs.map QcE).modify j (QeF n)=(cs.modify j (QeF n)).map QcE:=by
 induction cs generalizing j with
 | nil=>cases j <;> rfl
 | cons c r ih=>
  cases j with
  | zero=>rfl
  | succ j=>show QcE c :: (r.map QcE).modify j (QeF n)=QcE c :: (r.modify j (QeF n)).map QcE;rw [ih]
theorem Qjs (js:List Nat) (cs:List Ins):landL js (cs.map QcE)=(landL js cs).map QcE:=by
 induction js generalizing cs with
 | nil=>rfl
 | cons j r ih=>
  show landL r ((cs.map QcE).modify j (QeF (((cs.map QcE).length:Int) - ((j:Int)+1))))=(landL r (cs.modify j (QeF ((cs.length:Int) - ((j:Int)+1))))).map QcE
  rw [List.length_map,QsD,ih]
theorem QfR {α:Type} {sub:α→List Ins→List Ins} {z:α→α} (h:∀ t cs,sub (z t) (cs.map QcE)=(sub t cs).map QcE) (ts:List α) (cs:List Ins):blockC sub (ts.map z) (cs.map QcE)=(blockC sub ts cs).map QcE:=by
 induction ts generalizing cs with
 | nil=>rfl
 | cons t r ih=>
  show blockC sub (r.map z) (sub (z t) (cs.map QcE))=(blockC sub r (sub t cs)).map QcE
  rw [h,ih]
theorem Qto {α:Type} {sub:α→List Ins→List Ins} {z:α→α} (h:∀ t cs,sub (z t) (cs.map QcE)=(sub t cs).map QcE) (jump:Int) (ts:List α) (p:List Ins×List Nat) :
 (ts.map z).foldl (QdW sub jump) (p.1.map QcE,p.2)=(((ts.foldl (QdW sub jump) p).1).map QcE,(ts.foldl (QdW sub jump) p).2):=by
 induction ts generalizing p with
 | nil=>rfl
 | cons t r ih=>
  rw [List.map_cons,List.foldl_cons,List.foldl_cons,← ih]
  congr 1
  unfold QdW
  rw [h,List.length_map,List.map_append]
  rfl
theorem QoX (settled:Bool) (r:List Ins×List Nat):QcY settled (r.1.map QcE,r.2)=(QcY settled r).map QcE:=by
 unfold QcY
 dsimp only
 rw [List.length_map,← Qjs,List.map_append,← Qjs,List.map_append]
 rfl
theorem QnV {α:Type} {sub:α→List Ins→List Ins} {z:α→α} (h:∀ t cs,sub (z t) (cs.map QcE)=(sub t cs).map QcE) (jump:Int) (settled:Bool) (ts:List α) (cs:List Ins):QcH sub jump settled (ts.map z) (cs.map QcE)=(QcH sub jump settled ts cs).map QcE:=by
 unfold QcH
 rw [← QoX,Qto h jump ts (cs,[])]
theorem QmT {α:Type} {sub:α→List Ins→List Ins} {z:α→α} (h:∀ t cs,sub (z t) (cs.map QcE)=(sub t cs).map QcE) (x:QdG) (ts:List α) (cs:List Ins):QaT sub (zT x) (ts.map z) (cs.map QcE)=(QaT sub x ts cs).map QcE:=by
 have hk:(zT x).kind=x.kind:=rfl
 unfold QaT
 rw [hk]
 split
 ·rw [List.map_append];rfl
 ·rw [List.map_append];rfl
 ·rw [List.map_append,QfR h];rfl
 ·exact QnV h _ _ _ _
 ·exact QnV h _ _ _ _
 ·rw [List.map_append];rfl
 ·rw [List.map_append];rfl
 ·rw [List.map_append];rfl
 ·rw [List.map_append];rfl
 ·rw [List.map_append];rfl
theorem Qqo:∀ (n:Nat) (t:Qcy n) (cs:List Ins),Qb5 n (QoT n t) (cs.map QcE)=(Qb5 n t cs).map QcE
 | 0,_,_=>rfl
 | n+1,x,cs=>QmT (Qqo n) x.1 x.2 cs
theorem Qqz {α β:Type} {tst:β→List Ins→List Ins} {cmd:α→List Ins→List Ins} {zt:β→β} {zc:α→α} (ht:∀ t cs,tst (zt t) (cs.map QcE)=(tst t cs).map QcE) (hc:∀ t cs,cmd (zc t) (cs.map QcE)=(cmd t cs).map QcE) (as:List (β×List α)) (p:List Ins×List Nat) :
 (as.map fun a=>(zt a.1,a.2.map zc)).foldl (QjC tst cmd) (p.1.map QcE,p.2)=(((as.foldl (QjC tst cmd) p).1).map QcE,(as.foldl (QjC tst cmd) p).2):=by
 induction as generalizing p with
 | nil=>rfl
 | cons a r ih=>
  rw [List.map_cons,List.foldl_cons,List.foldl_cons,← ih]
  congr 1
  unfold QjC
  dsimp only
  rw [ht,List.length_map,← Qjs,List.map_append]
  have e:(tst a.1 p.1).map QcE++[QcD 5]=(tst a.1 p.1++[QcD 5]).map QcE:=by rw [List.map_append];rfl
  rw [e,QfR hc,List.length_map]
  rfl
theorem Qpc {α β:Type} {tst:β→List Ins→List Ins} {cmd:α→List Ins→List Ins} {zt:β→β} {zc:α→α} (ht:∀ t cs,tst (zt t) (cs.map QcE)=(tst t cs).map QcE) (hc:∀ t cs,cmd (zc t) (cs.map QcE)=(cmd t cs).map QcE) (x:QgD) (as:List (β×List α)) (es:List α) (cs:List Ins) :
 Qba tst cmd (zC x) (as.map fun a=>(zt a.1,a.2.map zc)) (es.map zc) (cs.map QcE)=(Qba tst cmd x as es cs).map QcE:=by
 have hk:(zC x).kind=x.kind:=rfl
 unfold Qba
 rw [hk]
 split
 ·rw [List.map_append];rfl
 ·rw [List.map_append];rfl
 ·rw [List.map_append];rfl
 ·rw [List.map_append];rfl
 ·rw [List.map_append];rfl
 ·rw [List.map_append];rfl
 ·rw [List.map_append];rfl
 ·unfold QdP Qdy
  rw [Qqz ht hc as (cs,[])]
  dsimp only
  rw [QfR hc,Qjs]
theorem QqT:∀ (n:Nat) (t:QcX n) (cs:List Ins),Qin n (QmN n t) (cs.map QcE)=(Qin n t cs).map QcE
 | 0,_,_=>rfl
 | n+1,x,cs=>Qpc (Qqo n) (QqT n) x.1 x.2.1 x.2.2 cs
theorem QtR {cs ds:List (QcX 7)} (h:cs.map (QmN 7)=ds.map (QmN 7)):(Qdm cs).map QcE=(Qdm ds).map QcE:=by
 unfold Qdm
 rw [← QfR (QqT 7) cs [],← QfR (QqT 7) ds [],h]
def SameZ (a b:Except FZ MS):Prop:=
 match a,b with
 | .ok x,.ok y=>x=y
 | .error e,.error f=>e.1=f.1
 | _,_=>False
theorem SameZ.refl (a:Except FZ MS):SameZ a a:=by cases a <;> rfl
theorem Qta (M:Msg) (count:Nat) (i j:Ins) (m:MS) (h:QcE i=QcE j):SameZ (stepL M count i m) (stepL M count j m):=by
 obtain ⟨o,n,t,oc,a,b,at_⟩:=i
 obtain ⟨o',n',t',oc',a',b',at'⟩:=j
 unfold QcE at h
 injection h with h1 h2 h3 h4 h5 h6 h7
 subst h1 h2 h3 h4 h5 h6
 have hact:∀ x,SameZ (Qp5 ⟨o,n,t,oc,a,b,at_⟩ m x) (Qp5 ⟨o,n,t,oc,a,b,at'⟩ m x):=fun x=>by
  unfold Qp5
  dsimp only
  by_cases h:(addL m.st.met t (expL m.st x)).1=0
  ·rw [if_pos h,if_pos h];rfl
  ·rw [if_neg h,if_neg h];rfl
 have hact':SameZ (Qfx ⟨o,n,t,oc,a,b,at_⟩ m) (Qfx ⟨o,n,t,oc,a,b,at'⟩ m):=by
  unfold Qfx
  dsimp only
  by_cases h:t=1
  ·rw [if_pos h,if_pos h];exact hact _
  ·rw [if_neg h,if_neg h]
   by_cases h:2≤t∧t≤4∧a≠[]
   ·rw [if_pos h,if_pos h];exact hact _
   ·rw [if_neg h,if_neg h];rfl
 by_cases h11:o=11
 ·subst h11
  exact hact'
 ·have e:∀ q:Int,stepL M count ⟨o,n,t,oc,a,b,q⟩ m=stepL M count ⟨o,n,t,oc,a,b,0⟩ m:=fun q=>by
   unfold stepL QfJ QfT doCond doAsk QfK Qki
   dsimp only
   rw [if_neg h11,if_neg h11]
  rw [e at_,e at']
  exact SameZ.refl _
theorem Qq9 (M:Msg) {code code':List Ins} (h:code.map QcE=code'.map QcE):∀ (f:Nat) (m:MS) (d:Nat),SameZ (loopL M code f m d).1 (loopL M code' f m d).1∧(loopL M code f m d).2=(loopL M code' f m d).2
 | 0,m,d=>⟨SameZ.refl _,rfl⟩
 | f+1,m,d=>by
  have hl:code.length=code'.length:=by simpa using congrArg List.length h
  unfold loopL
  rw [hl]
  by_cases hn:m.next < code'.length
  ·rw [if_pos hn,if_pos hn]
   have hz:QcE (code.getD m.next QpY)=QcE (code'.getD m.next QpY):=by
    have:=congrArg (fun l=>l.getD m.next (QcE QpY)) h
    simpa [List.getD_eq_getElem?_getD,List.getElem?_eq_getElem hn,List.getElem?_eq_getElem (show m.next < code.length by omega)] using this
   have hs:=Qta M code'.length _ _ (atL m) hz
   generalize stepL M code'.length (code.getD m.next QpY) (atL m)=x at hs
   generalize stepL M code'.length (code'.getD m.next QpY) (atL m)=y at hs
   cases x with
   | error e=>
    cases y with
    | error g=>exact ⟨hs,rfl⟩
    | ok y=>exact hs.elim
   | ok x=>
    cases y with
    | error g=>exact hs.elim
    | ok y=>
     have:x=y:=hs
     subst this
     exact Qq9 M h f x (d+1)
  ·rw [if_neg hn,if_neg hn]
   exact ⟨SameZ.refl _,rfl⟩
theorem QtO (v:Bool) (M:Msg) {code code':List Ins} (h:code.map QcE=code'.map QcE):(execL v code M).1=(execL v code' M).1∧(execL v code M).2.1=(execL v code' M).2.1∧(execL v code M).2.2.map Prod.fst=(execL v code' M).2.2.map Prod.fst:=by
 have hl:code.length=code'.length:=by simpa using congrArg List.length h
 unfold execL
 rw [hl]
 by_cases hn:400 < code'.length
 ·rw [if_pos hn,if_pos hn];exact ⟨rfl,rfl,rfl⟩
 ·rw [if_neg hn,if_neg hn]
  obtain ⟨h1,h2⟩:=Qq9 M h code'.length (ms0 v) 0
  generalize loopL M code code'.length (ms0 v) 0=x at h1 h2
  generalize loopL M code' code'.length (ms0 v) 0=y at h1 h2
  obtain ⟨x,d⟩:=x
  obtain ⟨y,d'⟩:=y
  dsimp only at h1 h2
  subst h2
  cases x with
  | error e=>
   cases y with
   | error g=>exact ⟨rfl,rfl,congrArg some h1⟩
   | ok y=>exact h1.elim
  | ok x=>
   cases y with
   | error g=>exact h1.elim
   | ok y=>
    have:x=y:=h1
    subst this
    exact ⟨rfl,rfl,rfl⟩
theorem Qbh:∀ (js:List Nat) (cs:List Ins),(landL js cs).length=cs.length
 | [],_=>rfl
 | j :: r,cs=>by
  show (landL r (cs.modify j _)).length=_
  rw [Qbh r,List.length_modify]
theorem Qda {α:Type} {sub:α→List Ins→List Ins} (h:∀ t cs,cs.length≤(sub t cs).length):∀ (ts:List α) (cs:List Ins),cs.length≤(blockC sub ts cs).length
 | [],_=>Nat.le_refl _
 | t :: r,cs=>Nat.le_trans (h t cs) (Qda h r (sub t cs))
theorem QjF {α:Type} {sub:α→List Ins→List Ins} (h:∀ t cs,cs.length≤(sub t cs).length) (jump:Int):∀ (ts:List α) (p:List Ins×List Nat),p.1.length≤(ts.foldl (QdW sub jump) p).1.length
 | [],_=>Nat.le_refl _
 | t :: r,p=>by
  have h1:=QjF h jump r (QdW sub jump p t)
  have h2:=h t p.1
  have h3:(QdW sub jump p t).1.length=(sub t p.1).length+1:=by unfold QdW;simp
  rw [List.foldl_cons];omega
theorem Qdw (b:Bool) (r:List Ins×List Nat):(QcY b r).length=r.1.length+3:=by
 unfold QcY
 rw [Qbh,List.length_append,Qbh,List.length_append];rfl
theorem QkL {α:Type} {sub:α→List Ins→List Ins} (h:∀ t cs,cs.length≤(sub t cs).length) (x:QdG) (ts:List α) (cs:List Ins):cs.length≤(QaT sub x ts cs).length:=by
 have hg:∀ jump b,cs.length≤(QcH sub jump b ts cs).length:=fun jump b=>by
  unfold QcH
  rw [Qdw]
  have:=QjF h jump ts (cs,[])
  dsimp only at this
  omega
 unfold QaT
 split
 all_goals first | exact hg _ _ | (rw [List.length_append];first | (have:=Qda h ts cs;omega) | omega)
theorem Qhd:∀ (n:Nat) (t:Qcy n) (cs:List Ins),cs.length≤(Qb5 n t cs).length
 | 0,_,_=>Nat.le_refl _
 | n+1,x,cs=>QkL (Qhd n) x.1 x.2 cs
theorem QtU {α β:Type} {tst:β→List Ins→List Ins} {cmd:α→List Ins→List Ins} (ht:∀ t cs,cs.length≤(tst t cs).length) (hc:∀ t cs,cs.length≤(cmd t cs).length) (p:List Ins×List Nat) (a:β×List α):p.1.length≤(QjC tst cmd p a).1.length:=by
 unfold QjC
 dsimp only
 rw [Qbh,List.length_append]
 have h1:=ht a.1 p.1
 have h2:=Qda hc a.2 (tst a.1 p.1++[QcD 5])
 rw [List.length_append] at h2
 omega
theorem Qgg {α β:Type} {tst:β→List Ins→List Ins} {cmd:α→List Ins→List Ins} (ht:∀ t cs,cs.length≤(tst t cs).length) (hc:∀ t cs,cs.length≤(cmd t cs).length):∀ (as_:List (β×List α)) (p:List Ins×List Nat),p.1.length≤(as_.foldl (QjC tst cmd) p).1.length
 | [],_=>Nat.le_refl _
 | a :: r,p=>Nat.le_trans (QtU ht hc p a) (Qgg ht hc r _)
theorem QgF {α:Type} {cmd:α→List Ins→List Ins} (hc:∀ t cs,cs.length≤(cmd t cs).length) (els:List α) (r:List Ins×List Nat):r.1.length≤(Qdy cmd els r).length:=by
 unfold Qdy
 rw [Qbh]
 exact Qda hc els r.1
theorem Qnd {α β:Type} {tst:β→List Ins→List Ins} {cmd:α→List Ins→List Ins} (ht:∀ t cs,cs.length≤(tst t cs).length) (hc:∀ t cs,cs.length≤(cmd t cs).length) (x:QgD) (arms:List (β×List α)) (els:List α) (cs:List Ins):cs.length≤(Qba tst cmd x arms els cs).length:=by
 have hg:cs.length≤(QdP tst cmd arms els cs).length:=Nat.le_trans (Qgg ht hc arms (cs,[])) (QgF hc els _)
 unfold Qba
 split
 all_goals first | exact hg | (rw [List.length_append];omega)
theorem QmR:∀ (n:Nat) (t:QcX n) (cs:List Ins),cs.length≤(Qin n t cs).length
 | 0,_,_=>Nat.le_refl _
 | n+1,x,cs=>Qnd (Qhd n) (QmR n) x.1 x.2.1 x.2.2 cs
def QnW (xs:List (List UInt8)):Nat:=(xs.map List.length).sum
theorem Qcp (x:List UInt8) (xs:List (List UInt8)):QnW (x :: xs)=x.length+QnW xs:=by simp [QnW]
theorem Qk7:∀ (ps:List (List UInt8)) (t:List UInt8),t.length+QnW ps≤(ps.foldl Qbi t).length
 | [],t=>by simp [QnW]
 | p :: r,t=>by
  have h1:=Qk7 r (Qbi t p)
  have h2:t.length+p.length≤(Qbi t p).length:=by
   unfold Qbi
   split <;> simp only [List.length_append,List.length_cons,List.length_nil] <;> omega
  rw [List.foldl_cons,Qcp];omega
theorem Qgl (ps:List (List UInt8)):QnW ps≤(Qa1 ps).length:=by
 have:=Qk7 ps []
 unfold Qa1
 simp only [List.length_nil] at this
 omega
theorem QnQ:∀ (xs:List (List UInt8)),QnW xs+2*xs.length≤(Qd2 [44,32] xs).length+2
 | []=>by simp [QnW,Qd2]
 | [x]=>by simp [QnW,Qd2]
 | x :: y :: r=>by
  have:=QnQ (y :: r)
  rw [Qcp]
  simp only [Qd2,List.length_append,List.length_cons,List.length_nil] at this ⊢
  omega
theorem QeL {α:Type} {sub:α→List Ins→List Ins} {txt:α→List UInt8}:∀ (ts:List α) (cs:List Ins),(∀ t∈ts,∀ cs,(sub t cs).length≤cs.length+4*(txt t).length)→(blockC sub ts cs).length≤cs.length+4*QnW (ts.map txt)
 | [],cs,_=>by simp [blockC]
 | t :: r,cs,h=>by
  have h1:=h t (by simp) cs
  have h2:=QeL r (sub t cs) (fun t ht=>h t (by simp [ht]))
  rw [List.map_cons,Qcp]
  show (blockC sub r (sub t cs)).length≤_
  omega
theorem QnM {α:Type} {sub:α→List Ins→List Ins} {txt:α→List UInt8} (h:∀ t cs,(sub t cs).length≤cs.length+4*(txt t).length) (jump:Int):∀ (ts:List α) (p:List Ins×List Nat),(ts.foldl (QdW sub jump) p).1.length≤p.1.length+4*QnW (ts.map txt)+ts.length
 | [],p=>by simp
 | t :: r,p=>by
  have h1:=QnM h jump r (QdW sub jump p t)
  have h2:=h t p.1
  have h3:(QdW sub jump p t).1.length=(sub t p.1).length+1:=by unfold QdW;simp
  rw [List.foldl_cons,List.map_cons,Qcp,List.length_cons];omega
theorem Qmc {α:Type} {sub:α→List Ins→List Ins} {txt:α→List UInt8} (h:∀ t cs,(sub t cs).length≤cs.length+4*(txt t).length) (x:QdG) (ts:List α) (cs:List Ins):(QaT sub x ts cs).length≤cs.length+4*(Qa7 x (ts.map txt)).length:=by
 have hg:∀ jump b hw,(QcH sub jump b ts cs).length≤cs.length+4*(QbT hw (ts.map txt)).length:=fun jump b hw=>by
  unfold QcH QbT
  rw [Qdw]
  have h1:=QnM h jump ts (cs,[])
  have h2:=QnQ (ts.map txt)
  simp only [List.length_append,List.length_cons,List.length_nil,List.length_map] at h1 h2 ⊢
  omega
 have hp:∀ (w:List UInt8) (r:List (List UInt8)),w.length≤(Qa1 (w :: r)).length:=fun w r=>by
  have:=Qgl (w :: r)
  rw [Qcp] at this
  omega
 have hm:∀ hw:List UInt8,hw.length≤(QbU hw x).length:=fun hw=>hp _ _
 unfold QaT Qa7
 generalize x.kind=k
 match k with
 | 0=>
  show (cs++[QcQ true]).length≤cs.length+4*(Qfk).length
  rw [List.length_append];show _≤_+4*4;simp
 | 1=>
  show (cs++[QcQ false]).length≤cs.length+4*(QdA).length
  rw [List.length_append];show _≤_+4*5;simp
 | 2=>
  show (blockC sub ts cs++[QcD 2]).length≤cs.length+4*(Qa1 (kNot :: ts.map txt)).length
  rw [List.length_append]
  have h1:=QeL (txt:=txt) ts cs (fun t _=>h t)
  have h2:=Qgl (kNot :: ts.map txt)
  rw [Qcp] at h2
  have h3:kNot.length=3:=rfl
  simp only [List.length_cons,List.length_nil]
  omega
 | 3=>
  show (QcH sub 5 false ts cs).length≤cs.length+4*(QbT QcG (ts.map txt)).length
  exact hg _ _ _
 | 4=>
  show (QcH sub 4 true ts cs).length≤cs.length+4*(QbT QcF (ts.map txt)).length
  exact hg _ _ _
 | 5=>
  show (cs++[Qcu 6 x]).length≤cs.length+4*(QbU QbA x).length
  rw [List.length_append];have h1:=hm QbA;have h2:QbA.length=6:=rfl;simp only [List.length_cons,List.length_nil];omega
 | 6=>
  show (cs++[Qcu 7 x]).length≤cs.length+4*(QbU QaH x).length
  rw [List.length_append];have h1:=hm QaH;have h2:QaH.length=8:=rfl;simp only [List.length_cons,List.length_nil];omega
 | 7=>
  show (cs++[Qcu 8 x]).length≤cs.length+4*(QbU Qbu x).length
  rw [List.length_append];have h1:=hm Qbu;have h2:Qbu.length=6:=rfl;simp only [List.length_cons,List.length_nil];omega
 | 8=>
  show (cs++[(⟨9,0,0,false,x.fr,[],0⟩:Ins)]).length≤cs.length+4*(Qa1 [QbJ,Qa2 x.fr]).length
  rw [List.length_append];have h1:=hp QbJ [Qa2 x.fr];have h2:QbJ.length=6:=rfl;simp only [List.length_cons,List.length_nil];omega
 | _+9=>
  show (cs++[(⟨10,x.num,x.tag,false,[],[],0⟩:Ins)]).length≤cs.length+4*(Qa1 [Qd4,Qbn x.tag [QfB,Qdx],itoaL x.num]).length
  rw [List.length_append];have h1:=hp Qd4 [Qbn x.tag [QfB,Qdx],itoaL x.num];have h2:Qd4.length=4:=rfl;simp only [List.length_cons,List.length_nil];omega
theorem Qn5:∀ (n:Nat) (t:Qcy n) (cs:List Ins),(Qb5 n t cs).length≤cs.length+4*(Qa6 n t).length
 | 0,_,cs=>by show cs.length≤_;omega
 | n+1,x,cs=>Qmc (Qn5 n) x.1 x.2 cs
theorem Qib {α:Type} (txt:α→List UInt8→List UInt8) (cs:List α) (i:List UInt8):QnW (cs.map fun c=>txt c i)≤(QbI txt cs i).length:=by
 induction cs with
 | nil=>simp [QnW]
 | cons c r ih=>
  unfold QbI at ih ⊢
  rw [List.map_cons,Qcp,List.flatMap_cons]
  simp only [List.length_append]
  omega
theorem Qi3 {α β:Type} {tst:β→List Ins→List Ins} {cmd:α→List Ins→List Ins} {tt:β→List UInt8} {ct:α→List UInt8→List UInt8} (j i:List UInt8) (ht:∀ t cs,(tst t cs).length≤cs.length+4*(tt t).length):∀ (as_:List (β×List α)) (word:List UInt8) (p:List Ins×List Nat),(∀ a∈as_,∀ t∈a.2,∀ cs i,(cmd t cs).length≤cs.length+4*(ct t i).length)→(as_.foldl (QjC tst cmd) p).1.length≤p.1.length+4*(QbW j word (as_.map fun a=>(tt a.1,QbI ct a.2 i))).length
 | [],_,p,_=>by simp [QbW]
 | a :: r,word,p,hc=>by
  have h1:=Qi3 j i ht r Qd7 (QjC tst cmd p a) (fun a ha=>hc a (by simp [ha]))
  have h2:=ht a.1 p.1
  have h3:=QeL (txt:=fun c=>ct c i) a.2 (tst a.1 p.1++[QcD 5]) (fun t h cs=>hc a (by simp) t h cs i)
  have h4:(QjC tst cmd p a).1.length=(blockC cmd a.2 (tst a.1 p.1++[QcD 5])).length+1:=by unfold QjC;dsimp only;rw [Qbh,List.length_append];rfl
  have h5:=Qib ct a.2 i
  have h6:=Qgl [word,tt a.1,QjY]
  rw [Qcp,Qcp,Qcp] at h6
  have h7:QjY.length=2:=rfl
  rw [List.foldl_cons,List.map_cons]
  show _≤p.1.length+4*(QeV word j (tt a.1) (QbI ct a.2 i)++QbW j Qd7 (r.map fun a=>(tt a.1,QbI ct a.2 i))).length
  unfold QeV
  simp only [List.length_append,List.length_cons,List.length_nil] at h3 ⊢
  omega
theorem Qm1 {α β:Type} {tst:β→List Ins→List Ins} {cmd:α→List Ins→List Ins} {tt:β→List UInt8} {ct:α→List UInt8→List UInt8} (j i:List UInt8) (ht:∀ t cs,(tst t cs).length≤cs.length+4*(tt t).length) (x:QgD) (arms:List (β×List α)) (els:List α) (cs:List Ins) (hc:∀ a∈arms,∀ t∈a.2,∀ cs i,(cmd t cs).length≤cs.length+4*(ct t i).length) (hc2:∀ t∈els,∀ cs i,(cmd t cs).length≤cs.length+4*(ct t i).length) (he:x.els=false→els=[]) :
 (Qba tst cmd x arms els cs).length≤cs.length+4*(QcI x j (arms.map fun a=>(tt a.1,QbI ct a.2 i)) (QbI ct els i)).length:=by
 unfold Qba QcI
 generalize x.kind=k
 match k with
 | 0=>
  show (cs++[Qim 1 x.pos []]).length≤cs.length+4*(QfD++[59]).length
  rw [List.length_append,List.length_append];simp only [List.length_cons,List.length_nil];omega
 | 1=>
  show (cs++[(⟨13,0,0,false,[],[],x.pos⟩:Ins)]).length≤cs.length+4*(Qb1++[59]).length
  rw [List.length_append,List.length_append];simp only [List.length_cons,List.length_nil];omega
 | 2=>
  show (cs++[(⟨14,0,0,false,[],[],x.pos⟩:Ins)]).length≤cs.length+4*(Qfl++[59]).length
  rw [List.length_append,List.length_append];simp only [List.length_cons,List.length_nil];omega
 | 3=>
  show (cs++[Qim 2 x.pos [x.arg]]).length≤cs.length+4*(Qa1 [QaK,Qat x.arg]++[59]).length
  rw [List.length_append,List.length_append];simp only [List.length_cons,List.length_nil];omega
 | 4=>
  show (cs++[Qim 3 x.pos [x.arg]]).length≤cs.length+4*(Qa1 [Qbl,Qat x.arg]++[59]).length
  rw [List.length_append,List.length_append];simp only [List.length_cons,List.length_nil];omega
 | 5=>
  show (cs++[Qim 4 x.pos [x.arg]]).length≤cs.length+4*(Qa1 [QaZ,Qat x.arg]++[59]).length
  rw [List.length_append,List.length_append];simp only [List.length_cons,List.length_nil];omega
 | 6=>
  show (cs++[(⟨12,0,x.tag,false,[x.var],[x.arg],x.pos⟩:Ins)]).length≤cs.length+4*(Qa1 [Qg1,Qbn x.tag [Qdi,Qdg,Qcn],Qat x.var,Qat x.arg]++[59]).length
  rw [List.length_append,List.length_append];simp only [List.length_cons,List.length_nil];omega
 | _+7=>
  show (QdP tst cmd arms els cs).length≤cs.length+4*(QbW j kIf (arms.map fun (a:β×List α)=>(tt a.1,QbI ct a.2 i))++(if x.els then Qoq++QbI ct els i++j else [])++[125]).length
  unfold QdP Qdy
  rw [Qbh]
  have h1:=Qi3 j i ht arms kIf (cs,[]) hc
  have h2:=QeL (txt:=fun c=>ct c i) els (arms.foldl (QjC tst cmd) (cs,[])).1 (fun t h cs=>hc2 t h cs i)
  have h3:=Qib ct els i
  dsimp only at h1
  rw [List.length_append,List.length_append]
  by_cases hx:x.els=true
  ·rw [if_pos hx]
   simp only [List.length_append]
   omega
  ·have hn:els=[]:=he (by cases h:x.els with | false=>rfl | true=>exact absurd h hx)
   subst hn
   have h4:QnW (([]:List α).map fun c=>ct c i)=0:=rfl
   omega
theorem Qnr (req:List (List UInt8)):∀ (n:Nat) (t:QcX n),Qmf (WfT req) (WfC req) n t→∀ (cs:List Ins) (i:List UInt8),(Qin n t cs).length≤cs.length+4*(QbH n t i).length
 | 0,_,h,cs,i=>h.elim
 | n+1,x,h,cs,i=>by
  obtain ⟨h1,h2,h3⟩:=h
  refine Qm1 i (i++[32,32]) (Qn5 n) x.1 x.2.1 x.2.2 cs (fun a ha t ht cs i=>Qnr req n t ((h2 a ha).2 t ht) cs i) (fun t ht cs i=>Qnr req n t (h3 t ht) cs i) (fun he=>?_)
  exact List.eq_nil_of_length_eq_zero (h1.else0 he)
theorem QnY {y:List (List UInt8)×List (QcX 7)} (h:∀ c∈y.2,Qmf (WfT y.1) (WfC y.1) 7 c):(Qdm y.2).length≤4*(Qh4 y).length:=by
 have h1:=QeL (txt:=fun c=>QbH 7 c []) y.2 [] (fun t ht cs=>Qnr y.1 7 t (h t ht) cs [])
 have h2:=Qib (QbH 7) y.2 []
 unfold Qdm Qh4
 rw [List.length_append]
 simp only [List.length_nil] at h1
 omega
end Go.Proofs.YtbiclelojbfnbabGreatDoor
