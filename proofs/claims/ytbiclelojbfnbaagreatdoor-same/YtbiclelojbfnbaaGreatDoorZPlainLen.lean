import Derived.Lib.ItoaLen
import Derived.Lib.Join
import Derived.Test.YtbiclelojbfnbaaGreatDoorZPlainParse
import Derived.Test.YtbiclelojbfnbaaGreatDoorZPlainSpace2
namespace Go.Proofs.YtbiclelojbfnbaaGreatDoor
set_option linter.unusedVariables false
set_option linter.unusedSimpArgs false
set_option maxRecDepth 100000
set_option maxHeartbeats 4000000
def QbI (c:UInt8):List UInt8:=if c=34∨c=92 then [92,c] else [c]
def quotedL (x:List UInt8):List UInt8:=34 :: (x.flatMap QbI++[34])
def Qcr (sep:List UInt8):List (List UInt8)→List UInt8
 | []=>[]
 | [x]=>x
 | x :: y :: r=>x++sep++Qcr sep (y :: r)
theorem QhY (sep:List UInt8):∀ xs:List (List UInt8),Qcr sep xs=Lib.join xs sep
 | []=>rfl
 | [x]=>(Lib.join_one x sep).symm
 | x :: y :: r=>by
  rw [Qcr,QhY sep (y :: r),Lib.join_cons,Lib.join_cons]
  simp [Lib.joinTail]
def Qak (xs:List (List UInt8)):List UInt8:=
 match xs with
 | [x]=>quotedL x
 | xs=>[91]++Qcr [44,32] (xs.map quotedL)++[93]
def QaJ (t p:List UInt8):List UInt8:=(if t≠[]∧p≠[] then t++[32] else t)++p
def phraseL (parts:List (List UInt8)):List UInt8:=parts.foldl QaJ []
def tagTextL (tag:Nat) (tags:List (List UInt8)):List UInt8:=if tag=0 then [] else tags.getD (tag - 1) []
def itoaL (n:Nat):List UInt8:=Lib.decDigits n
def Qa9 (hw:List UInt8) (x:QcT):List UInt8:=
 phraseL [hw,if x.octet then phraseL [Qar,quotedL Qbz] else [],if x.tag≠1 then tagTextL x.tag [tIs,Qas,QaA] else [],Qak x.fr,Qak x.keys]
def Qbd (hw:List UInt8) (ts:List (List UInt8)):List UInt8:=hw++[32,40]++Qcr [44,32] ts++[41]
def testNode (x:QcT) (ts:List (List UInt8)):List UInt8:=
 match x.kind with
 | 0=>Qe5
 | 1=>Qdf
 | 2=>phraseL (kNot :: ts)
 | 3=>Qbd Qcy ts
 | 4=>Qbd QcA ts
 | 5=>Qa9 QbT x
 | 6=>Qa9 QaM x
 | 7=>Qa9 Qby x
 | 8=>phraseL [QbG,Qak x.fr]
 | _=>phraseL [QdC,tagTextL x.tag [QcY,QbY],itoaL x.num]
def Qaj:(n:Nat)→Qbx n→List UInt8
 | 0,_=>[]
 | n+1,x=>testNode x.1 (x.2.map (Qaj n))
def QbL:List UInt8:=125 :: 32 :: Qb7
def Qfz:List UInt8:=[123,10]
def Qdw:List UInt8:=125 :: 32 :: (QdS++[32,123,10])
def linesL {α:Type} (txt:α→List UInt8→List UInt8) (cs:List α) (i:List UInt8):List UInt8:=cs.flatMap fun c=>i++txt c i++[10]
def Qcp (word i:List UInt8) (t b:List UInt8):List UInt8:=phraseL [word,t,Qfz]++b++i
def QaX (i:List UInt8):List UInt8→List (List UInt8×List UInt8)→List UInt8
 | _,[]=>[]
 | word,a :: r=>Qcp word i a.1 a.2++QaX i QbL r
def cmdNode (x:QfA) (i:List UInt8) (arms:List (List UInt8×List UInt8)) (els:List UInt8):List UInt8:=
 match x.kind with
 | 0=>Qfa++[59]
 | 1=>QbV++[59]
 | 2=>Qe3++[59]
 | 3=>phraseL [QaK,quotedL x.arg]++[59]
 | 4=>phraseL [Qbk,quotedL x.arg]++[59]
 | 5=>phraseL [Qbb,quotedL x.arg]++[59]
 | 6=>phraseL [Qgh,tagTextL x.tag [Qbn,Qbm,Qa1],quotedL x.var,quotedL x.arg]++[59]
 | _=>QaX i kIf arms++(if x.els then Qdw++els++i else [])++[125]
def Qaw:(n:Nat)→Qcd n→List UInt8→List UInt8
 | 0,_,_=>[]
 | n+1,x,i=>cmdNode x.1 i (x.2.1.map fun a=>(Qaj n a.1,linesL (Qaw n) a.2 (i++[32,32]))) (linesL (Qaw n) x.2.2 (i++[32,32]))
def requireTxt (req:List (List UInt8)):List UInt8:=if req=[] then [] else kRequire++[32]++Qak req++[59,10]
def QcL (t:List (List UInt8)×List (Qcd 7)):List UInt8:=requireTxt t.1++linesL (Qaw 7) t.2 []
theorem QfR:∀ (ps:List (List UInt8)) (t:List UInt8),t.length≤(ps.foldl QaJ t).length
 | [],t=>Nat.le_refl _
 | p :: r,t=>by
  have h1:=QfR r (QaJ t p)
  have h2:t.length≤(QaJ t p).length:=by unfold QaJ;split <;> simp
  rw [List.foldl_cons]
  omega
theorem Qkc:∀ (ps:List (List UInt8)) (t p:List UInt8),p∈ps→p.length≤(ps.foldl QaJ t).length
 | [],t,p,h=>by cases h
 | q :: r,t,p,h=>by
  rw [List.foldl_cons]
  rcases List.mem_cons.1 h with h | h
  ·subst h
   have h1:=QfR r (QaJ t p)
   have h2:p.length≤(QaJ t p).length:=by unfold QaJ;rw [List.length_append];omega
   omega
  ·exact Qkc r _ p h
theorem QbA {ps:List (List UInt8)} {p:List UInt8} (h:p∈ps):p.length≤(phraseL ps).length:=Qkc ps [] p h
theorem Qgo:∀ (xs:List (List UInt8)) (x:List UInt8),x∈xs→x.length≤(Qcr [44,32] xs).length
 | [],x,h=>by cases h
 | [y],x,h=>by rw [List.mem_singleton.1 h];exact Nat.le_refl _
 | y :: z :: r,x,h=>by
  simp only [Qcr,List.length_append]
  rcases List.mem_cons.1 h with h | h
  ·subst h;omega
  ·have:=Qgo (z :: r) x h
   omega
theorem Qhw {ts:List (List UInt8)} {hw:List UInt8} {t:List UInt8} (h:t∈ts):t.length≤(Qbd hw ts).length:=by
 have:=Qgo ts t h
 unfold Qbd
 simp only [List.length_append]
 omega
theorem Qfs:∀ xs:List (List UInt8),xs.length≤(Qcr [44,32] xs).length+1
 | []=>by simp
 | [x]=>by simp
 | x :: y :: r=>by
  have:=Qfs (y :: r)
  simp only [Qcr,List.length_append,List.length_cons,List.length_nil] at this ⊢
  omega
def Qc5 (i:List UInt8) (ts:List (List UInt8)):List UInt8:=ts.flatMap fun t=>i++t++[10]
theorem QoW {α:Type} (txt:α→List UInt8→List UInt8) (cs:List α) (i:List UInt8):linesL txt cs i=Qc5 i (cs.map fun c=>txt c i):=by
 unfold linesL Qc5;rw [List.flatMap_map]
theorem Qh1 (i:List UInt8):∀ ts:List (List UInt8),ts.length≤(Qc5 i ts).length
 | []=>by simp
 | t :: ts=>by
  have:=Qh1 i ts
  unfold Qc5 at this ⊢
  rw [List.flatMap_cons]
  simp only [List.length_append,List.length_cons,List.length_nil] at this ⊢
  omega
theorem QgJ (i:List UInt8):∀ (ts:List (List UInt8)) (t:List UInt8),t∈ts→t.length≤(Qc5 i ts).length
 | [],t,h=>by cases h
 | u :: ts,t,h=>by
  unfold Qc5
  rw [List.flatMap_cons]
  simp only [List.length_append,List.length_cons,List.length_nil]
  rcases List.mem_cons.1 h with h | h
  ·subst h;omega
  ·have:=QgJ i ts t h
   unfold Qc5 at this
   simp only [List.append_assoc] at *
   omega
theorem QgR (i:List UInt8):∀ (al:List (List UInt8×List UInt8)) (word:List UInt8),al.length≤(QaX i word al).length
 | [],word=>by simp
 | a :: r,word=>by
  have:=QgR i r QbL
  have h2:1≤(Qcp word i a.1 a.2).length:=by
   unfold Qcp
   rw [List.length_append,List.length_append]
   have:=QbA (ps:=[word,a.1,Qfz]) (p:=Qfz) (by simp)
   have:Qfz.length=2:=rfl
   omega
  show (a :: r).length≤(Qcp word i a.1 a.2++QaX i QbL r).length
  rw [List.length_append,List.length_cons]
  omega
theorem QfJ (i:List UInt8):∀ (al:List (List UInt8×List UInt8)) (word:List UInt8) (a:List UInt8×List UInt8),a∈al→a.1.length≤(QaX i word al).length∧a.2.length≤(QaX i word al).length
 | [],word,a,h=>by cases h
 | u :: al,word,a,h=>by
  show a.1.length≤(Qcp word i u.1 u.2++QaX i QbL al).length∧a.2.length≤(Qcp word i u.1 u.2++QaX i QbL al).length
  rw [List.length_append]
  rcases List.mem_cons.1 h with h | h
  ·subst h
   have h1:=QbA (ps:=[word,a.1,Qfz]) (p:=a.1) (by simp)
   unfold Qcp
   rw [List.length_append,List.length_append]
   omega
  ·have:=QfJ i al QbL a h
   omega
structure Gp (l:List UInt8) (s:PS):Prop where
 le:s.2≤l.length
 lt:s.1.pos≤s.2
 word:s.1.kind≠0→s.1.pos < s.2
 said:s.1.kind=5→s.1.said.length+2≤s.2 - s.1.pos
 spelt:s.1.kind=0→s.1.spelt=[]
 num:s.1.num≤2147483647
def ph (l:List UInt8) (s:PS):Nat:=l.length - s.1.pos
theorem QkK (l:List UInt8) (p:Nat) (hp:p≤l.length) (x:PS) (h:scanL (l.drop p) p=.ok x):Gp l x∧x.1.pos=p:=by
 obtain ⟨h1,h2,h3,h4,h5⟩:=Qph l p hp x h
 refine ⟨⟨h2,by omega,fun hk=>by have:=h5 hk;omega,fun hk=>?_,fun hk=>(h4 hk).2,(Qin l p x h).2⟩,h1⟩
 generalize l.drop p=r at h
 cases r with
 | nil=>unfold scanL at h;dsimp only at h;cases h;cases hk
 | cons c r=>
  unfold scanL at h
  dsimp only at h
  split at h
  ·cases h;cases hk
  ·split at h
   ·split at h
    ·cases h
    ·cases h;cases hk
   ·split at h
    ·obtain ⟨n',v',he⟩:∃ n' v':Nat,scanNumL (c :: r) p=if Qbg ((c :: r).getD n' 0) then .error ⟨2,p⟩ else if 2147483647 < v' then .error ⟨3,p⟩ else .ok (⟨4,p,[],[],v'⟩,p+n'):=⟨_,_,rfl⟩
     rw [he] at h
     split at h
     ·cases h
     ·split at h
      ·cases h
      ·cases h;cases hk
    ·split at h
     ·unfold quoteR at h
      cases hq:quoteL r with
      | none=>rw [hq] at h;cases h
      | some y=>
       rw [hq] at h
       have h2:=QeG _ _ hq
       cases h
       simp;omega
     ·split at h
      ·cases h;cases hk
      ·cases h
theorem Qlc {l:List UInt8} {s y:PS} (h:Gp l s) (hn:nextL l s.2=.ok y):Gp l y∧s.2≤y.1.pos:=by
 unfold nextL at hn
 cases hs:Qb4 (l.length+1) (l.drop s.2) s.2 with
 | error f=>rw [hs] at hn;cases hn
 | ok n=>
  rw [hs] at hn
  have h1:=QdX l _ s.2 n h.le hs
  have h2:=QkK l n h1.2 y hn
  exact ⟨h2.1,by omega⟩
def Bd {α:Type} (c:Nat) (l:List UInt8) (len:α→Nat) (r:Except Flt (α×PS)) (s:PS):Prop:=∀ y,r=.ok y→Gp l y.2∧len y.1+c+64*ph l y.2≤64*ph l s
theorem Bd.err {α:Type} {c:Nat} {l:List UInt8} {len:α→Nat} {f:Flt} {s:PS}:Bd c l len (.error f) s:=fun y h=>by cases h
theorem Bd.okk {α:Type} {l:List UInt8} {len:α→Nat} {a:α} {s:PS} (h:Gp l s) (ha:len a=0):Bd 0 l len (.ok (a,s)) s:=fun y e=>by cases e;exact ⟨h,by simp only [ha];omega⟩
theorem QdN {l:List UInt8} {s y:PS} (h:Gp l s) (hk:s.1.kind≠0) (hn:nextL l s.2=.ok y):Gp l y∧64+64*ph l y≤64*ph l s:=by
 obtain ⟨h1,h2⟩:=Qlc h hn
 have h3:=h.word hk
 have h4:=h.le
 have h5:=h1.le
 have h6:=h1.lt
 refine ⟨h1,?_⟩
 unfold ph
 omega
theorem Qd7 {l:List UInt8} {zs:List (List UInt8)} {s:PS} (h:Gp l s) (hz:∀ z∈zs,z≠[]) (h0:¬ whichL zs s.1.spelt=0):s.1.kind≠0:=fun e=>h0 (by rw [h.spelt e];exact Qej zs hz)
theorem QdJ {l:List UInt8} {zs:List (List UInt8)} {s:PS} (h:Gp l s) (hz:∀ z∈zs,z≠[]):Bd 64 l (fun _=>0) (passL l zs s) s:=fun y e=>by
 unfold passL at e
 split at e
 ·cases e
 ·rename_i h0
  cases hn:nextL l s.2 with
  | error f=>rw [hn] at e;cases e
  | ok s'=>rw [hn] at e;cases e;have:=QdN h (Qd7 h hz h0) hn;exact ⟨this.1,by dsimp only;omega⟩
theorem Qge {l:List UInt8} {zs:List (List UInt8)} {s:PS} (h:Gp l s) (hz:∀ z∈zs,z≠[]):Bd 0 l (fun i=>if i=0 then 0 else 64) (mayL l zs s) s:=fun y e=>by
 unfold mayL at e
 split at e
 ·cases e;exact ⟨h,by simp⟩
 ·rename_i h0
  cases hn:nextL l s.2 with
  | error f=>rw [hn] at e;cases e
  | ok s'=>rw [hn] at e;cases e;have:=QdN h (Qd7 h hz h0) hn;exact ⟨this.1,by dsimp only;rw [if_neg h0];omega⟩
theorem Qic (x:List UInt8):(quotedL x).length≤2*x.length+2:=by
 unfold quotedL
 rw [List.length_cons,List.length_append]
 have:(x.flatMap QbI).length≤2*x.length:=by
  induction x with
  | nil=>simp
  | cons c r ih=>
   rw [List.flatMap_cons,List.length_append,List.length_cons]
   have:(QbI c).length≤2:=by unfold QbI;split <;> simp
   omega
 simp only [List.length_cons,List.length_nil]
 omega
theorem Qc0 {l:List UInt8} {chk:List UInt8→Nat} {s:PS} (h:Gp l s):Bd 32 l (fun x=>(quotedL x).length) (stringL l chk s) s:=fun y e=>by
 unfold stringL at e
 split at e
 ·rename_i hk
  split at e
  ·cases hn:nextL l s.2 with
   | error f=>rw [hn] at e;cases e
   | ok s'=>
    rw [hn] at e;cases e
    obtain ⟨h1,h2⟩:=Qlc h hn
    have h3:=h.said hk
    have h4:=h.le
    have h5:=h1.le
    have h6:=h1.lt
    have h7:=Qic s.1.said
    have h8:=h.lt
    refine ⟨h1,?_⟩
    show (quotedL s.1.said).length+32+64*ph l s'≤64*ph l s
    unfold ph
    omega
  ·cases e
 ·cases e
def Qdm (xs:List (List UInt8)):Nat:=(xs.map fun x=>x.length+2).sum
theorem Qie (x:List UInt8) (xs:List (List UInt8)):Qdm (x :: xs)=x.length+2+Qdm xs:=by simp [Qdm]
theorem QeD (xs ys:List (List UInt8)):Qdm (xs++ys)=Qdm xs+Qdm ys:=by simp [Qdm]
theorem QdI (x:List UInt8):Qdm [x]=x.length+2:=by simp [Qdm]
theorem QlJ (xs:List (List UInt8)):(Qcr [44,32] xs).length≤Qdm xs:=by
 induction xs with
 | nil=>simp [Qcr,Qdm]
 | cons x r ih=>
  cases r with
  | nil=>simp [Qcr,Qdm]
  | cons y r=>
   rw [Qie]
   simp only [Qcr,List.length_append,List.length_cons,List.length_nil]
   omega
def QhK (xs:List (List UInt8)):Nat:=Qdm (xs.map quotedL)
theorem QeA (xs:List (List UInt8)):(Qak xs).length≤QhK xs+2:=by
 unfold Qak QhK
 split
 ·rw [List.map_cons,List.map_nil,QdI];omega
 ·have:=QlJ (xs.map quotedL)
  simp only [List.length_append,List.length_cons,List.length_nil]
  omega
theorem QrS {l:List UInt8} {chk:List UInt8→Nat}:∀ (f:Nat) (acc:List (List UInt8)) (s:PS),Gp l s→∀ y,moreL l chk f acc s=.ok y→Gp l y.2∧QhK y.1+64*ph l y.2≤QhK acc+64*ph l s
 | 0,acc,s,h=>fun y e=>by cases e;exact ⟨h,Nat.le_refl _⟩
 | f+1,acc,s,h=>fun y e=>by
  rw [moreL] at e
  cases hp:passL l [[44],[93]] s with
  | error g=>rw [hp] at e;cases e
  | ok z=>
   rw [hp] at e
   obtain ⟨h1,h2⟩:=QdJ (zs:=[[44],[93]]) h (by decide) z hp
   dsimp only at e
   split at e
   ·cases hs:stringL l chk z.2 with
    | error g=>rw [hs] at e;cases e
    | ok x=>
     rw [hs] at e
     obtain ⟨h3,h4⟩:=Qc0 h1 x hs
     obtain ⟨h5,h6⟩:=QrS f _ x.2 h3 y e
     refine ⟨h5,?_⟩
     unfold QhK at *
     rw [List.map_append,QeD,List.map_cons,List.map_nil,QdI] at h6
     dsimp only at *
     omega
   ·cases e;exact ⟨h1,by dsimp only;omega⟩
theorem Qfr {l:List UInt8} {chk:List UInt8→Nat} {F:Nat} {s:PS} (h:Gp l s):Bd 16 l QhK (stringsL l chk F s) s:=fun y e=>by
 unfold stringsL at e
 cases hm:mayL l [[91]] s with
 | error g=>rw [hm] at e;cases e
 | ok z=>
  rw [hm] at e
  obtain ⟨h1,h2⟩:=Qge (zs:=[[91]]) h (by decide) z hm
  dsimp only at e
  cases hs:stringL l chk z.2 with
  | error g=>rw [hs] at e;cases e
  | ok x=>
   rw [hs] at e
   obtain ⟨h3,h4⟩:=Qc0 h1 x hs
   dsimp only at e
   have h9:QhK [x.1]=(quotedL x.1).length+2:=by unfold QhK;rw [List.map_cons,List.map_nil,QdI]
   split at e
   ·cases e;exact ⟨h3,by dsimp only at *;omega⟩
   ·obtain ⟨h5,h6⟩:=QrS F _ x.2 h3 y e
    exact ⟨h5,by dsimp only at *;omega⟩
theorem Qjl (t p:List UInt8):(QaJ t p).length≤t.length+1+p.length:=by
 unfold QaJ
 split <;> simp only [List.length_append,List.length_cons,List.length_nil] <;> omega
def Qcx (ps:List (List UInt8)):Nat:=(ps.map fun p=>p.length+1).sum
theorem Qj1:∀ (ps:List (List UInt8)) (t:List UInt8),(ps.foldl QaJ t).length≤t.length+Qcx ps
 | [],t=>by simp [Qcx]
 | p :: r,t=>by
  have h1:=Qj1 r (QaJ t p)
  have h2:=Qjl t p
  rw [List.foldl_cons]
  simp only [Qcx,List.map_cons,List.sum_cons] at h1 ⊢
  omega
theorem Qcc (ps:List (List UInt8)):(phraseL ps).length≤Qcx ps:=by
 have:=Qj1 ps []
 simpa [phraseL] using this
theorem Qfi (tag:Nat) (tags:List (List UInt8)) (m:Nat) (h:∀ z∈tags,z.length≤m):(tagTextL tag tags).length≤m:=by
 unfold tagTextL
 split
 ·simp
 ·rw [List.getD_eq_getElem?_getD]
  cases he:tags[tag - 1]? with
  | none=>simp
  | some z=>exact h z (List.mem_of_getElem? he)
theorem Qsr {l:List UInt8}:∀ (f tag:Nat) (oct cmp:Bool) (s:PS),Gp l s→Bd 0 l (fun _=>0) (QdV l f tag oct cmp s) s
 | 0,tag,oct,cmp,s,h=>Bd.okk h rfl
 | f+1,tag,oct,cmp,s,h=>fun y e=>by
  rw [QdV] at e
  by_cases h1:whichL [tIs,Qas,QaA] s.1.spelt=0
  ·rw [if_pos h1] at e
   by_cases h2:whichL [Qar] s.1.spelt=0
   ·rw [if_pos h2] at e;cases e;exact ⟨h,by simp⟩
   ·rw [if_neg h2] at e
    cases cmp
    ·rw [if_neg (by decide)] at e
     cases hn:nextL l s.2 with
     | error g=>rw [Qbj hn] at e;cases e
     | ok z=>
      rw [Qa0 hn] at e
      obtain ⟨g1,g2⟩:=QdN h (Qd7 (zs:=[Qar]) h (by decide) h2) hn
      cases hs:stringL l (fun x=>if 0 < whichL [Qbz,Qdu] x then 0 else 7) z with
      | error g=>rw [Qaf hs] at e;cases e
      | ok x=>
       rw [Qae hs] at e
       obtain ⟨g3,g4⟩:=Qc0 g1 x hs
       obtain ⟨g5,g6⟩:=Qsr f _ _ _ x.2 g3 y e
       exact ⟨g5,by dsimp only at *;omega⟩
    ·rw [if_pos rfl] at e;cases e
  ·rw [if_neg h1] at e
   by_cases ht:tag=0
   ·rw [if_pos ht] at e
    cases hn:nextL l s.2 with
    | error g=>rw [Qbj hn] at e;cases e
    | ok z=>
     rw [Qa0 hn] at e
     obtain ⟨g1,g2⟩:=QdN h (Qd7 (zs:=[tIs,Qas,QaA]) h (by decide) h1) hn
     obtain ⟨g5,g6⟩:=Qsr f _ _ _ z g1 y e
     exact ⟨g5,by dsimp only at *;omega⟩
   ·rw [if_neg ht] at e;cases e
theorem QeQ (hw:List UInt8) (x:QcT) (h:hw.length≤8):(Qa9 hw x).length≤52+QhK x.fr+QhK x.keys:=by
 unfold Qa9
 have h1:=Qcc [hw,if x.octet then phraseL [Qar,quotedL Qbz] else [],if x.tag≠1 then tagTextL x.tag [tIs,Qas,QaA] else [],Qak x.fr,Qak x.keys]
 have h2:=QeA x.fr
 have h3:=QeA x.keys
 have h4:(if x.octet then phraseL [Qar,quotedL Qbz] else []).length≤21:=by
  split
  ·decide
  ·simp
 have h5:(if x.tag≠1 then tagTextL x.tag [tIs,Qas,QaA] else []).length≤9:=by
  split
  ·exact Qfi _ _ 9 (by decide)
  ·simp
 simp only [Qcx,List.map_cons,List.map_nil,List.sum_cons,List.sum_nil] at h1
 omega
theorem Qks {l:List UInt8} {F:Nat} {chk:List UInt8→Nat} {k pos:Nat} {s:PS} (h:Gp l s):Bd 16 l (fun x=>QhK x.fr+QhK x.keys) (QbS l F chk k pos s) s:=fun y e=>by
 unfold QbS at e
 cases h1:QdV l F 0 false false s with
 | error f=>rw [Qaf h1] at e;cases e
 | ok a=>
  rw [Qae h1] at e
  obtain ⟨g1,g2⟩:=Qsr F 0 false false s h a h1
  cases h2:stringsL l chk F a.2 with
  | error f=>rw [Qaf h2] at e;cases e
  | ok c=>
   rw [Qae h2] at e
   obtain ⟨g3,g4⟩:=Qfr g1 c h2
   cases h3:stringsL l (fun _=>0) F c.2 with
   | error f=>rw [Qaf h3] at e;cases e
   | ok d=>
    rw [Qae h3] at e
    obtain ⟨g5,g6⟩:=Qfr g3 d h3
    cases e
    exact ⟨g5,by dsimp only at *;omega⟩
theorem Qhs {α:Type} {l:List UInt8} {sub:PS→Except Flt (α×PS)} {txt:α→List UInt8} (hs:∀ s,Gp l s→Bd 8 l (fun x=>(txt x).length) (sub s) s):∀ (f:Nat) (acc:List α) (s:PS),Gp l s→∀ y,groupMore l sub f acc s=.ok y→Gp l y.2∧Qdm (y.1.map txt)+64*ph l y.2≤Qdm (acc.map txt)+64*ph l s
 | 0,acc,s,h=>fun y e=>by cases e;exact ⟨h,Nat.le_refl _⟩
 | f+1,acc,s,h=>fun y e=>by
  rw [groupMore] at e
  cases hp:passL l [[44],[41]] s with
  | error g=>rw [Qaf hp] at e;cases e
  | ok z=>
   rw [Qae hp] at e
   obtain ⟨h1,h2⟩:=QdJ (zs:=[[44],[41]]) h (by decide) z hp
   split at e
   ·cases hq:sub z.2 with
    | error g=>rw [Qaf hq] at e;cases e
    | ok x=>
     rw [Qae hq] at e
     obtain ⟨h3,h4⟩:=hs z.2 h1 x hq
     obtain ⟨h5,h6⟩:=Qhs hs f _ x.2 h3 y e
     refine ⟨h5,?_⟩
     rw [List.map_append,QeD,List.map_cons,List.map_nil,QdI] at h6
     dsimp only at *
     omega
   ·cases e;exact ⟨h1,by dsimp only at *;omega⟩
theorem Qpd {α:Type} {l:List UInt8} {F:Nat} {sub:PS→Except Flt (α×PS)} {txt:α→List UInt8} (hs:∀ s,Gp l s→Bd 8 l (fun x=>(txt x).length) (sub s) s) {s:PS} (h:Gp l s):Bd 16 l (fun xs=>Qdm (xs.map txt)) (QcB l F sub s) s:=fun y e=>by
 unfold QcB at e
 cases hp:passL l [[40]] s with
 | error g=>rw [Qaf hp] at e;cases e
 | ok z=>
  rw [Qae hp] at e
  obtain ⟨h1,h2⟩:=QdJ (zs:=[[40]]) h (by decide) z hp
  cases hq:sub z.2 with
  | error g=>rw [Qaf hq] at e;cases e
  | ok x=>
   rw [Qae hq] at e
   obtain ⟨h3,h4⟩:=hs z.2 h1 x hq
   obtain ⟨h5,h6⟩:=Qhs hs F _ x.2 h3 y e
   refine ⟨h5,?_⟩
   rw [List.map_cons,List.map_nil,QdI] at h6
   dsimp only at *
   omega
theorem Qsl (n:Nat) (h:n≤2147483647):(itoaL n).length≤21:=by
 have:=Lib.itoa_length_le n (by omega) (by omega)
 rw [Lib.itoa_nonneg] at this
 exact this
theorem QuC {l:List UInt8} {pos:Nat} {s:PS} (h:Gp l s):∀ y,sizeL l pos s=.ok y→Gp l y.2∧64*ph l y.2+16≤64*ph l s∧y.1.kind=9∧y.1.num≤2147483647:=fun y e=>by
 unfold sizeL at e
 cases hp:passL l [QcY,QbY] s with
 | error g=>rw [Qaf hp] at e;cases e
 | ok z=>
  rw [Qae hp] at e
  obtain ⟨h1,h2⟩:=QdJ (zs:=[QcY,QbY]) h (by decide) z hp
  split at e
  ·rename_i hk
   cases hn:nextL l z.2.2 with
   | error g=>rw [Qbj hn] at e;cases e
   | ok x=>
    rw [Qa0 hn] at e
    obtain ⟨g1,g2⟩:=QdN h1 (by omega) hn
    cases e
    exact ⟨g1,by dsimp only at *;omega,rfl,h1.num⟩
  ·cases e
theorem QgY {l:List UInt8} {F:Nat} {chk:List UInt8→Nat} {k pos:Nat} {s:PS} {y:QcT×PS} (h:QbS l F chk k pos s=.ok y):y.1.kind=k:=by
 unfold QbS at h
 cases h1:QdV l F 0 false false s with
 | error f=>rw [Qaf h1] at h;cases h
 | ok a=>
  rw [Qae h1] at h
  cases h2:stringsL l chk F a.2 with
  | error f=>rw [Qaf h2] at h;cases h
  | ok c=>
   rw [Qae h2] at h
   cases h3:stringsL l (fun _=>0) F c.2 with
   | error f=>rw [Qaf h3] at h;cases h
   | ok e=>rw [Qae h3] at h;cases h;rfl
theorem Qqq (x:QcT) (ts:List (List UInt8)) (h:x.kind=5):testNode x ts=Qa9 QbT x:=by simp only [testNode,h]
theorem Qp7 (x:QcT) (ts:List (List UInt8)) (h:x.kind=6):testNode x ts=Qa9 QaM x:=by simp only [testNode,h]
theorem QpC (x:QcT) (ts:List (List UInt8)) (h:x.kind=7):testNode x ts=Qa9 Qby x:=by simp only [testNode,h]
theorem Qqk (x:QcT) (ts:List (List UInt8)) (h:x.kind=9):testNode x ts=phraseL [QdC,tagTextL x.tag [QcY,QbY],itoaL x.num]:=by simp only [testNode,h]
theorem Qoo (n:Nat) {l:List UInt8} {F:Nat} {sub:PS→Except Flt (Qbx n×PS)} (hs:∀ s,Gp l s→Bd 8 l (fun x=>(Qaj n x).length) (sub s) s) (k pos:Nat) {s:PS} (h:Gp l s):∀ y,testBody l F sub k pos s=.ok y→Gp l y.2∧(Qaj (n+1) y.1).length+64*ph l y.2≤56+64*ph l s:=by
 intro y e
 have hg:∀ (hw:List UInt8) (ts:List (List UInt8)),hw.length≤8→(Qbd hw ts).length≤12+Qdm ts:=fun hw ts hl=>by
  have:=QlJ ts
  simp only [Qbd,List.length_append,List.length_cons,List.length_nil]
  omega
 unfold testBody at e
 split at e
 ·cases e;exact ⟨h,by show (4:Nat)+64*ph l s≤_;omega⟩
 ·cases e;exact ⟨h,by show (5:Nat)+64*ph l s≤_;omega⟩
 ·cases hq:sub s with
  | error g=>rw [Qaf hq] at e;cases e
  | ok x=>
   rw [Qae hq] at e
   obtain ⟨h1,h2⟩:=hs s h x hq
   cases e
   refine ⟨h1,?_⟩
   show (phraseL [kNot,Qaj n x.1]).length+64*ph l x.2≤_
   have:=Qcc [kNot,Qaj n x.1]
   simp only [Qcx,List.map_cons,List.map_nil,List.sum_cons,List.sum_nil,show kNot.length=3 from rfl] at this
   dsimp only at *
   omega
 ·cases hq:QcB l F sub s with
  | error g=>rw [Qaf hq] at e;cases e
  | ok x=>
   rw [Qae hq] at e
   obtain ⟨h1,h2⟩:=Qpd hs h x hq
   cases e
   refine ⟨h1,?_⟩
   show (Qbd Qcy (x.1.map (Qaj n))).length+64*ph l x.2≤_
   have:=hg Qcy (x.1.map (Qaj n)) (by decide)
   dsimp only at *
   omega
 ·cases hq:QcB l F sub s with
  | error g=>rw [Qaf hq] at e;cases e
  | ok x=>
   rw [Qae hq] at e
   obtain ⟨h1,h2⟩:=Qpd hs h x hq
   cases e
   refine ⟨h1,?_⟩
   show (Qbd QcA (x.1.map (Qaj n))).length+64*ph l x.2≤_
   have:=hg QcA (x.1.map (Qaj n)) (by decide)
   dsimp only at *
   omega
 ·cases hq:QbS l F (fun _=>0) 5 pos s with
  | error g=>rw [Qaf hq] at e;cases e
  | ok x=>
   rw [Qae hq] at e
   obtain ⟨h1,h2⟩:=Qks h x hq
   have h3:=QgY hq
   cases e
   refine ⟨h1,?_⟩
   show (testNode x.1 []).length+64*ph l x.2≤_
   have:=QeQ QbT x.1 (by decide)
   rw [Qqq _ _ h3]
   dsimp only at *
   omega
 ·cases hq:QbS l F (fun x=>if 0 < whichL [Qg7,kTo] (smallL x) then 0 else 7) 6 pos s with
  | error g=>rw [Qaf hq] at e;cases e
  | ok x=>
   rw [Qae hq] at e
   obtain ⟨h1,h2⟩:=Qks h x hq
   have h3:=QgY hq
   cases e
   refine ⟨h1,?_⟩
   show (testNode x.1 []).length+64*ph l x.2≤_
   have:=QeQ QaM x.1 (by decide)
   rw [Qp7 _ _ h3]
   dsimp only at *
   omega
 ·cases hq:QbS l F (fun _=>0) 7 pos s with
  | error g=>rw [Qaf hq] at e;cases e
  | ok x=>
   rw [Qae hq] at e
   obtain ⟨h1,h2⟩:=Qks h x hq
   have h3:=QgY hq
   cases e
   refine ⟨h1,?_⟩
   show (testNode x.1 []).length+64*ph l x.2≤_
   have:=QeQ Qby x.1 (by decide)
   rw [QpC _ _ h3]
   dsimp only at *
   omega
 ·cases hq:stringsL l (fun _=>0) F s with
  | error g=>rw [Qaf hq] at e;cases e
  | ok x=>
   rw [Qae hq] at e
   obtain ⟨h1,h2⟩:=Qfr h x hq
   cases e
   refine ⟨h1,?_⟩
   show (phraseL [QbG,Qak x.1]).length+64*ph l x.2≤_
   have h3:=Qcc [QbG,Qak x.1]
   have h4:=QeA x.1
   simp only [Qcx,List.map_cons,List.map_nil,List.sum_cons,List.sum_nil,show QbG.length=6 from rfl] at h3
   omega
 ·cases hq:sizeL l pos s with
  | error g=>rw [Qaf hq] at e;cases e
  | ok x=>
   rw [Qae hq] at e
   obtain ⟨h1,h2,h3,h4⟩:=QuC h x hq
   cases e
   refine ⟨h1,?_⟩
   show (testNode x.1 []).length+64*ph l x.2≤_
   have h5:=Qcc [QdC,tagTextL x.1.tag [QcY,QbY],itoaL x.1.num]
   have h6:=Qfi x.1.tag [QcY,QbY] 6 (by decide)
   have h7:=Qsl x.1.num h4
   simp only [Qcx,List.map_cons,List.map_nil,List.sum_cons,List.sum_nil,show QdC.length=4 from rfl] at h5
   rw [Qqk _ _ h3]
   omega
theorem QkD {l:List UInt8} {req:List (List UInt8)} {F:Nat}:∀ (n:Nat) (s:PS),Gp l s→Bd 8 l (fun x=>(Qaj n x).length) (QbD l req F n s) s
 | 0,s,h=>by
  rw [QbD]
  split <;> exact Bd.err
 | n+1,s,h=>fun y e=>by
  rw [QbD] at e
  by_cases h0:whichL testNames s.1.spelt=0
  ·rw [if_pos h0] at e;cases e
  ·rw [if_neg h0] at e
   cases hu:QcE req s.1.spelt
   ·rw [hu,if_neg (by decide)] at e;cases e
   ·rw [hu,if_pos rfl] at e
    cases hn:nextL l s.2 with
    | error g=>cases (Qbj hn).symm.trans e
    | ok z=>
     replace e:=(Qa0 hn).symm.trans e
     obtain ⟨g1,g2⟩:=QdN h (Qd7 (zs:=testNames) h (by decide) h0) hn
     obtain ⟨g3,g4⟩:=Qoo n (fun s g=>QkD n s g) _ _ g1 y e
     exact ⟨g3,by dsimp only at *;omega⟩
def QcC {α:Type} (c:α→Nat) (xs:List α):Nat:=(xs.map c).sum
theorem QgX {α:Type} (c:α→Nat) (xs:List α) (x:α):QcC c (xs++[x])=QcC c xs+c x:=by simp [QcC]
theorem Qfn {α:Type} (txt:α→List UInt8→List UInt8) (i:List UInt8):∀ cs:List α,(linesL txt cs i).length=QcC (fun c=>i.length+(txt c i).length+1) cs
 | []=>rfl
 | c :: r=>by
  have:=Qfn txt i r
  simp only [linesL,QcC,List.flatMap_cons,List.length_append,List.map_cons,List.sum_cons,List.length_cons,List.length_nil] at this ⊢
  omega
def Ct {α:Type} (k:Nat) (l:List UInt8) (c:α→Nat) (r:Except Flt (α×PS)) (s:PS):Prop:=∀ y,r=.ok y→Gp l y.2∧c y.1+k+64*ph l y.2≤64*ph l s
theorem QhC {α:Type} {l:List UInt8} {sub:PS→Except Flt (α×PS)} {c:α→Nat} (hs:∀ s,Gp l s→Ct 0 l c (sub s) s):∀ (f:Nat) (acc:List α) (s:PS),Gp l s→∀ y,blockMore l sub f acc s=.ok y→Gp l y.2∧QcC c y.1+64*ph l y.2≤QcC c acc+64*ph l s
 | 0,acc,s,h=>fun y e=>by cases e;exact ⟨h,Nat.le_refl _⟩
 | f+1,acc,s,h=>fun y e=>by
  rw [blockMore] at e
  cases hp:mayL l [[125]] s with
  | error g=>rw [Qaf hp] at e;cases e
  | ok z=>
   rw [Qae hp] at e
   obtain ⟨h1,h2⟩:=Qge (zs:=[[125]]) h (by decide) z hp
   split at e
   ·cases hq:sub z.2 with
    | error g=>rw [Qaf hq] at e;cases e
    | ok x=>
     rw [Qae hq] at e
     obtain ⟨h3,h4⟩:=hs z.2 h1 x hq
     obtain ⟨h5,h6⟩:=QhC hs f _ x.2 h3 y e
     refine ⟨h5,?_⟩
     rw [QgX] at h6
     dsimp only at *
     omega
   ·cases e;exact ⟨h1,by dsimp only at *;omega⟩
theorem Qo4 {α:Type} {l:List UInt8} {F:Nat} {sub:PS→Except Flt (α×PS)} {c:α→Nat} (hs:∀ s,Gp l s→Ct 0 l c (sub s) s) {s:PS} (h:Gp l s):Ct 64 l (QcC c) (blockL l F sub s) s:=fun y e=>by
 unfold blockL at e
 cases hp:passL l [[123]] s with
 | error g=>rw [Qaf hp] at e;cases e
 | ok z=>
  rw [Qae hp] at e
  obtain ⟨h1,h2⟩:=QdJ (zs:=[[123]]) h (by decide) z hp
  obtain ⟨h5,h6⟩:=QhC hs F _ z.2 h1 y e
  refine ⟨h5,?_⟩
  have:QcC c ([]:List α)=0:=rfl
  dsimp only at *
  omega
theorem QtM {α β:Type} {l:List UInt8} {F:Nat} {tst:PS→Except Flt (β×PS)} {sub:PS→Except Flt (α×PS)} {ct:β→Nat} {c:α→Nat} (ht:∀ s,Gp l s→Ct 0 l ct (tst s) s) (hs:∀ s,Gp l s→Ct 0 l c (sub s) s) {s:PS} (h:Gp l s):Ct 0 l (fun a=>64+ct a.1+QcC c a.2) (armL l F tst sub s) s:=fun y e=>by
 unfold armL at e
 cases hp:tst s with
 | error g=>rw [Qaf hp] at e;cases e
 | ok z=>
  rw [Qae hp] at e
  obtain ⟨h1,h2⟩:=ht s h z hp
  cases hq:blockL l F sub z.2 with
  | error g=>rw [Qaf hq] at e;cases e
  | ok x=>
   rw [Qae hq] at e
   obtain ⟨h3,h4⟩:=Qo4 hs h1 x hq
   cases e
   exact ⟨h3,by dsimp only at *;omega⟩
theorem QrK {α β:Type} {l:List UInt8} {F:Nat} {tst:PS→Except Flt (β×PS)} {sub:PS→Except Flt (α×PS)} {ct:β→Nat} {c:α→Nat} (ht:∀ s,Gp l s→Ct 0 l ct (tst s) s) (hs:∀ s,Gp l s→Ct 0 l c (sub s) s):∀ (f:Nat) (acc:List (β×List α)) (s:PS),Gp l s→∀ y,armsMore l F tst sub f acc s=.ok y→Gp l y.2∧QcC (fun a=>64+ct a.1+QcC c a.2) y.1+64*ph l y.2≤QcC (fun a=>64+ct a.1+QcC c a.2) acc+64*ph l s
 | 0,acc,s,h=>fun y e=>by cases e;exact ⟨h,Nat.le_refl _⟩
 | f+1,acc,s,h=>fun y e=>by
  rw [armsMore] at e
  cases hp:mayL l [Qb7] s with
  | error g=>rw [Qaf hp] at e;cases e
  | ok z=>
   rw [Qae hp] at e
   obtain ⟨h1,h2⟩:=Qge (zs:=[Qb7]) h (by decide) z hp
   split at e
   ·cases e;exact ⟨h1,by dsimp only at *;omega⟩
   ·cases hq:armL l F tst sub z.2 with
    | error g=>rw [Qaf hq] at e;cases e
    | ok x=>
     rw [Qae hq] at e
     obtain ⟨h3,h4⟩:=QtM ht hs h1 x hq
     obtain ⟨h5,h6⟩:=QrK ht hs f _ x.2 h3 y e
     refine ⟨h5,?_⟩
     rw [QgX] at h6
     dsimp only at *
     omega
theorem QqW (word i t b:List UInt8) (hw:word.length≤7) (hi:i.length≤14):(Qcp word i t b).length≤32+t.length+b.length:=by
 have:=Qcc [word,t,Qfz]
 simp only [Qcx,List.map_cons,List.map_nil,List.sum_cons,List.sum_nil,show Qfz.length=2 from rfl] at this
 simp only [Qcp,List.length_append]
 omega
theorem Qiu (i:List UInt8) (hi:i.length≤14):∀ (as:List (List UInt8×List UInt8)) (word:List UInt8),word.length≤7→(QaX i word as).length≤QcC (fun a=>32+a.1.length+a.2.length) as
 | [],word,_=>by simp [QaX,QcC]
 | a :: r,word,hw=>by
  have h1:=QqW word i a.1 a.2 hw hi
  have h2:=Qiu i hi r QbL (by decide)
  simp only [QaX,QcC,List.length_append,List.map_cons,List.sum_cons] at h2 ⊢
  omega
theorem Qhl {α β:Type} (f:α→β) (c:β→Nat) (d:α→Nat) (h:∀ a,c (f a)≤d a):∀ xs:List α,QcC c (xs.map f)≤QcC d xs
 | []=>Nat.le_refl _
 | x :: r=>by
  have h1:=Qhl f c d h r
  have h2:=h x
  simp only [QcC,List.map_cons,List.sum_cons,List.map_map] at h1 ⊢
  omega
def Qdr (n:Nat) (i:List UInt8) (x:Qcd n):Nat:=i.length+(Qaw n x i).length+1
theorem QfY {α:Type} {l:List UInt8} {s:PS} {a:α} (h:Gp l s):∀ y,semi l s a=.ok y→y.1=a∧Gp l y.2∧64*ph l y.2≤64*ph l s:=fun y e=>by
 unfold semi at e
 cases hp:passL l [[59]] s with
 | error g=>rw [Qaf hp] at e;cases e
 | ok z=>
  rw [Qae hp] at e
  obtain ⟨h1,h2⟩:=QdJ (zs:=[[59]]) h (by decide) z hp
  cases e
  exact ⟨rfl,h1,by dsimp only at *;omega⟩
theorem Qkx (x:List UInt8):(quotedL (smallL x)).length≤2*x.length+2:=by
 have:=Qic (smallL x)
 simpa [smallL] using this
theorem QoD {l:List UInt8} {chk:List UInt8→Nat} {s:PS} (h:Gp l s):∀ y,stringL l chk s=.ok y→2*y.1.length+2+32+64*ph l y.2≤64*ph l s:=fun y e=>by
 unfold stringL at e
 split at e
 ·rename_i hk
  split at e
  ·cases hn:nextL l s.2 with
   | error f=>rw [hn] at e;cases e
   | ok s'=>
    rw [hn] at e;cases e
    obtain ⟨h1,h2⟩:=Qlc h hn
    have h3:=h.said hk
    have h4:=h.le
    have h5:=h1.le
    have h6:=h1.lt
    have h8:=h.lt
    show 2*s.1.said.length+2+32+64*ph l s'≤64*ph l s
    unfold ph
    omega
  ·cases e
 ·cases e
theorem QpU (n:Nat) {l:List UInt8} {F:Nat} {tst:PS→Except Flt (Qbx n×PS)} {sub:PS→Except Flt (Qcd n×PS)} (i:List UInt8) (hi:i.length≤14) (ht:∀ s,Gp l s→Ct 0 l (fun x=>(Qaj n x).length) (tst s) s) (hs:∀ s,Gp l s→Ct 0 l (Qdr n (i++[32,32])) (sub s) s) (k pos:Nat) {s:PS} (h:Gp l s):∀ y,cmdBody l F tst sub k pos s=.ok y→Gp l y.2∧Qdr (n+1) i y.1+64*ph l y.2≤64+64*ph l s:=by
 intro y e
 unfold cmdBody at e
 split at e
 ·obtain ⟨e1,h1,h2⟩:=QfY h y e
  refine ⟨h1,?_⟩
  rw [e1]
  show i.length+5+1+64*ph l y.2≤_
  omega
 ·obtain ⟨e1,h1,h2⟩:=QfY h y e
  refine ⟨h1,?_⟩
  rw [e1]
  show i.length+8+1+64*ph l y.2≤_
  omega
 ·obtain ⟨e1,h1,h2⟩:=QfY h y e
  refine ⟨h1,?_⟩
  rw [e1]
  show i.length+5+1+64*ph l y.2≤_
  omega
 ·cases hq:stringL l (fun _=>0) s with
  | error g=>rw [Qaf hq] at e;cases e
  | ok x=>
   rw [Qae hq] at e
   obtain ⟨g1,g2⟩:=Qc0 h x hq
   obtain ⟨e1,h1,h2⟩:=QfY g1 y e
   refine ⟨h1,?_⟩
   rw [e1]
   show i.length+(phraseL [QaK,quotedL x.1]++[59]).length+1+64*ph l y.2≤_
   have h3:=Qcc [QaK,quotedL x.1]
   simp only [Qcx,List.map_cons,List.map_nil,List.sum_cons,List.sum_nil,show QaK.length=8 from rfl] at h3
   simp only [List.length_append,List.length_cons,List.length_nil]
   dsimp only at g2
   omega
 ·cases hq:stringL l (fun _=>0) s with
  | error g=>rw [Qaf hq] at e;cases e
  | ok x=>
   rw [Qae hq] at e
   obtain ⟨g1,g2⟩:=Qc0 h x hq
   obtain ⟨e1,h1,h2⟩:=QfY g1 y e
   refine ⟨h1,?_⟩
   rw [e1]
   show i.length+(phraseL [Qbk,quotedL x.1]++[59]).length+1+64*ph l y.2≤_
   have h3:=Qcc [Qbk,quotedL x.1]
   simp only [Qcx,List.map_cons,List.map_nil,List.sum_cons,List.sum_nil,show Qbk.length=8 from rfl] at h3
   simp only [List.length_append,List.length_cons,List.length_nil]
   dsimp only at g2
   omega
 ·cases hq:stringL l (fun _=>0) s with
  | error g=>rw [Qaf hq] at e;cases e
  | ok x=>
   rw [Qae hq] at e
   obtain ⟨g1,g2⟩:=Qc0 h x hq
   obtain ⟨e1,h1,h2⟩:=QfY g1 y e
   refine ⟨h1,?_⟩
   rw [e1]
   show i.length+(phraseL [Qbb,quotedL x.1]++[59]).length+1+64*ph l y.2≤_
   have h3:=Qcc [Qbb,quotedL x.1]
   simp only [Qcx,List.map_cons,List.map_nil,List.sum_cons,List.sum_nil,show Qbb.length=6 from rfl] at h3
   simp only [List.length_append,List.length_cons,List.length_nil]
   dsimp only at g2
   omega
 ·cases hm:mayL l [Qbn,Qbm,Qa1] s with
  | error g=>rw [Qaf hm] at e;cases e
  | ok m=>
   rw [Qae hm] at e
   obtain ⟨g0,g0'⟩:=Qge (zs:=[Qbn,Qbm,Qa1]) h (by decide) m hm
   cases hv:stringL l (fun x=>if isNameL x then 0 else 7) m.2 with
   | error g=>rw [Qaf hv] at e;cases e
   | ok v=>
    rw [Qae hv] at e
    obtain ⟨g3,g4⟩:=Qc0 g0 v hv
    have g5:=QoD g0 v hv
    cases hq:stringL l (fun _=>0) v.2 with
    | error g=>rw [Qaf hq] at e;cases e
    | ok x=>
     rw [Qae hq] at e
     obtain ⟨g1,g2⟩:=Qc0 g3 x hq
     obtain ⟨e1,h1,h2⟩:=QfY g1 y e
     refine ⟨h1,?_⟩
     rw [e1]
     show i.length+(phraseL [Qgh,tagTextL m.1 [Qbn,Qbm,Qa1],quotedL (smallL v.1),quotedL x.1]++[59]).length+1+64*ph l y.2≤_
     have h3:=Qcc [Qgh,tagTextL m.1 [Qbn,Qbm,Qa1],quotedL (smallL v.1),quotedL x.1]
     have h4:=Qfi m.1 [Qbn,Qbm,Qa1] 7 (by decide)
     have h5:=Qkx v.1
     simp only [Qcx,List.map_cons,List.map_nil,List.sum_cons,List.sum_nil,show Qgh.length=3 from rfl] at h3
     simp only [List.length_append,List.length_cons,List.length_nil]
     dsimp only at g2 g0' g4
     omega
 ·cases ha:armL l F tst sub s with
  | error g=>rw [Qaf ha] at e;cases e
  | ok a=>
   rw [Qae ha] at e
   obtain ⟨g1,g2⟩:=QtM ht hs h a ha
   cases hb:armsMore l F tst sub F [a.1] a.2 with
   | error g=>rw [Qaf hb] at e;cases e
   | ok bb=>
    rw [Qae hb] at e
    obtain ⟨g3,g4⟩:=QrK ht hs F _ a.2 g1 bb hb
    have hone:QcC (fun a:Qbx n×List (Qcd n)=>64+(Qaj n a.1).length+QcC (Qdr n (i++[32,32])) a.2) [a.1]=64+(Qaj n a.1.1).length+QcC (Qdr n (i++[32,32])) a.1.2:=by simp [QcC]
    cases hm:mayL l [QdS] bb.2 with
    | error g=>rw [Qaf hm] at e;cases e
    | ok m=>
     rw [Qae hm] at e
     obtain ⟨g5,g6⟩:=Qge (zs:=[QdS]) g3 (by decide) m hm
     have hA:(QaX i kIf (bb.1.map fun a:Qbx n×List (Qcd n)=>(Qaj n a.1,linesL (Qaw n) a.2 (i++[32,32])))).length≤QcC (fun a:Qbx n×List (Qcd n)=>64+(Qaj n a.1).length+QcC (Qdr n (i++[32,32])) a.2) bb.1:=by
      refine Nat.le_trans (Qiu i hi _ kIf (by decide)) (Qhl _ _ _ (fun a=>?_) bb.1)
      dsimp only
      have:=Qfn (Qaw n) (i++[32,32]) a.2
      rw [this]
      unfold Qdr
      omega
     split at e
     ·cases e
      refine ⟨g5,?_⟩
      show i.length+(QaX i kIf (bb.1.map fun a:Qbx n×List (Qcd n)=>(Qaj n a.1,linesL (Qaw n) a.2 (i++[32,32])))++(if false then Qdw++linesL (Qaw n) [] (i++[32,32])++i else [])++[125]).length+1+64*ph l m.2≤_
      simp only [Bool.false_eq_true,if_false,List.length_append,List.length_cons,List.length_nil]
      dsimp only at *
      omega
     ·rename_i hm0
      cases hc:blockL l F sub m.2 with
      | error g=>rw [Qaf hc] at e;cases e
      | ok cs=>
       rw [Qae hc] at e
       obtain ⟨g7,g8⟩:=Qo4 hs g5 cs hc
       cases e
       refine ⟨g7,?_⟩
       show i.length+(QaX i kIf (bb.1.map fun a:Qbx n×List (Qcd n)=>(Qaj n a.1,linesL (Qaw n) a.2 (i++[32,32])))++(if true then Qdw++linesL (Qaw n) cs.1 (i++[32,32])++i else [])++[125]).length+1+64*ph l cs.2≤_
       have hl:=Qfn (Qaw n) (i++[32,32]) cs.1
       simp only [if_true,List.length_append,List.length_cons,List.length_nil,show Qdw.length=9 from rfl] at hl ⊢
       rw [hl]
       have:QcC (fun c=>i.length+(0+1+1)+(Qaw n c (i++[32,32])).length+1) cs.1=QcC (Qdr n (i++[32,32])) cs.1:=by
        congr 1
        funext c
        simp [Qdr]
       dsimp only at *
       omega
theorem Qsa {l:List UInt8} {req:List (List UInt8)} {F:Nat}:∀ (n:Nat) (i:List UInt8),i.length+2*n≤14→∀ (s:PS),Gp l s→Ct 0 l (Qdr n i) (cmdL l req F n s) s
 | 0,i,hi,s,h=>by
  rw [cmdL]
  split <;> exact fun y e=>by cases e
 | n+1,i,hi,s,h=>fun y e=>by
  rw [cmdL] at e
  by_cases h0:whichL cmdNames s.1.spelt=0
  ·rw [if_pos h0] at e;cases e
  ·rw [if_neg h0] at e
   cases hu:QcE req s.1.spelt
   ·rw [hu,if_neg (by decide)] at e;cases e
   ·rw [hu,if_pos rfl] at e
    cases hn:nextL l s.2 with
    | error g=>cases (Qbj hn).symm.trans e
    | ok z=>
     replace e:=(Qa0 hn).symm.trans e
     obtain ⟨g1,g2⟩:=QdN h (Qd7 (zs:=cmdNames) h (by decide) h0) hn
     obtain ⟨g3,g4⟩:=QpU n i (by omega) (fun s g y e=>by obtain ⟨a1,a2⟩:=QkD n s g y e;exact ⟨a1,by dsimp only at *;omega⟩) (fun s g=>Qsa n (i++[32,32]) (by simp only [List.length_append,List.length_cons,List.length_nil];omega) s g) _ _ g1 y e
     exact ⟨g3,by omega⟩
theorem QqE (req:List (List UInt8)) (x:List UInt8):QhK (Qb9 req x)≤QhK req+(quotedL x).length+2:=by
 unfold Qb9
 split
 ·omega
 ·unfold QhK;rw [List.map_append,QeD,List.map_cons,List.map_nil,QdI];omega
theorem Qio:∀ (xs req:List (List UInt8)),QhK (xs.foldl Qb9 req)≤QhK req+QhK xs
 | [],req=>by simp
 | x :: r,req=>by
  have h1:=Qio r (Qb9 req x)
  have h2:=QqE req x
  have h3:QhK (x :: r)=(quotedL x).length+2+QhK r:=by unfold QhK;rw [List.map_cons,Qie]
  rw [List.foldl_cons]
  omega
theorem Qhd {l:List UInt8} {F:Nat}:∀ (f:Nat) (req:List (List UInt8)) (s:PS),Gp l s→∀ y,reqMore l F f req s=.ok y→Gp l y.2∧QhK y.1+64*ph l y.2≤QhK req+64*ph l s
 | 0,req,s,h=>fun y e=>by cases e;exact ⟨h,Nat.le_refl _⟩
 | f+1,req,s,h=>fun y e=>by
  rw [reqMore] at e
  cases hp:mayL l [kRequire] s with
  | error g=>rw [Qaf hp] at e;cases e
  | ok z=>
   rw [Qae hp] at e
   obtain ⟨h1,h2⟩:=Qge (zs:=[kRequire]) h (by decide) z hp
   split at e
   ·cases e;exact ⟨h1,by dsimp only at *;omega⟩
   ·cases hq:stringsL l (fun x=>if 0 < whichL [QaM,QaK,Qbb,QbB] x then 0 else 6) F z.2 with
    | error g=>rw [Qaf hq] at e;cases e
    | ok x=>
     rw [Qae hq] at e
     obtain ⟨h3,h4⟩:=Qfr h1 x hq
     cases hr:passL l [[59]] x.2 with
     | error g=>rw [Qaf hr] at e;cases e
     | ok v=>
      rw [Qae hr] at e
      obtain ⟨h5,h6⟩:=QdJ (zs:=[[59]]) h3 (by decide) v hr
      obtain ⟨h7,h8⟩:=Qhd f _ v.2 h5 y e
      have h9:=Qio x.1 req
      refine ⟨h7,?_⟩
      dsimp only at *
      omega
theorem Qh8 {α:Type} {l:List UInt8} {sub:PS→Except Flt (α×PS)} {c:α→Nat} (hs:∀ s,Gp l s→Ct 0 l c (sub s) s):∀ (f:Nat) (acc:List α) (s:PS),Gp l s→∀ y,cmdsMore sub f acc s=.ok y→QcC c y≤QcC c acc+64*ph l s
 | 0,acc,s,h=>fun y e=>by cases e;omega
 | f+1,acc,s,h=>fun y e=>by
  rw [cmdsMore] at e
  split at e
  ·cases e;omega
  ·cases hq:sub s with
   | error g=>rw [hq] at e;cases e
   | ok x=>
    rw [hq] at e
    obtain ⟨h3,h4⟩:=hs s h x hq
    have h6:=Qh8 hs f _ x.2 h3 y e
    rw [QgX] at h6
    omega
theorem Qis {l:List UInt8} {y:List (List UInt8)×List (Qcd 7)} (h:parseL l=.ok y):(QcL y).length≤64*l.length+64:=by
 unfold parseL at h
 dsimp only at h
 generalize 2*l.length+10=F at h
 cases h1:nextL l 0 with
 | error f=>rw [h1] at h;cases h
 | ok s=>
  rw [h1] at h
  dsimp only at h
  have hg:Gp l s:=by
   unfold nextL at h1
   cases hs:Qb4 (l.length+1) (l.drop 0) 0 with
   | error f=>rw [hs] at h1;cases h1
   | ok n=>
    rw [hs] at h1
    exact (QkK l n (QdX l _ 0 n (Nat.zero_le _) hs).2 s h1).1
  cases h3:reqMore l F F [] s with
  | error f=>rw [h3] at h;cases h
  | ok z=>
   rw [h3] at h
   dsimp only at h
   obtain ⟨g1,g2⟩:=Qhd F [] s hg z h3
   cases h4:cmdsMore (cmdL l z.1 F 7) F [] z.2 with
   | error f=>rw [h4] at h;cases h
   | ok cs=>
    rw [h4] at h
    have g3:=Qh8 (c:=Qdr 7 []) (fun s g=>Qsa 7 [] (by decide) s g) F [] z.2 g1 cs h4
    cases h
    have g4:=Qfn (Qaw 7) [] cs
    have g5:QcC (fun c=>([]:List UInt8).length+(Qaw 7 c []).length+1) cs=QcC (Qdr 7 []) cs:=rfl
    have g6:(requireTxt z.1).length≤QhK z.1+12:=by
     unfold requireTxt
     split
     ·simp
     ·have:=QeA z.1
      simp only [List.length_append,List.length_cons,List.length_nil,show kRequire.length=7 from rfl]
      omega
    have g7:QhK ([]:List (List UInt8))=0:=rfl
    have g8:QcC (Qdr 7 []) ([]:List (Qcd 7))=0:=rfl
    have g9:ph l s≤l.length:=by unfold ph;omega
    show (requireTxt z.1++linesL (Qaw 7) cs []).length≤_
    rw [List.length_append]
    omega
def QcS (i:Ins):Ins:=⟨i.op,i.n,i.tag,i.oct,i.a,i.b,0⟩
def QcR (op:Int):Ins:=⟨op,0,0,false,[],[],0⟩
def QcW (h:Bool):Ins:=⟨1,if h then 1 else 0,0,false,[],[],0⟩
def QcF (op:Int) (x:QcT):Ins:=⟨op,0,x.tag,x.octet,x.fr,x.keys,0⟩
def Qjb (kind:Int) (pos:Nat) (a:List (List UInt8)):Ins:=⟨11,0,kind,false,a,[],pos⟩
def QeP (n:Int) (i:Ins):Ins:=⟨i.op,n,i.tag,i.oct,i.a,i.b,i.at_⟩
def landL (js:List Nat) (cs:List Ins):List Ins:=js.foldl (fun c j=>c.modify j (QeP ((c.length:Int) - ((j:Int)+1)))) cs
def blockC {α:Type} (sub:α→List Ins→List Ins) (ts:List α) (cs:List Ins):List Ins:=ts.foldl (fun c t=>sub t c) cs
def Qea {α:Type} (sub:α→List Ins→List Ins) (jump:Int) (p:List Ins×List Nat) (t:α):List Ins×List Nat:=(sub t p.1++[QcR jump],p.2++[(sub t p.1).length])
def Qdb (settled:Bool) (r:List Ins×List Nat):List Ins:=
 landL [r.1.length+1] (landL r.2 (r.1++[QcW (!settled),QcR 3])++[QcW settled])
def QcZ {α:Type} (sub:α→List Ins→List Ins) (jump:Int) (settled:Bool) (ts:List α) (cs:List Ins):List Ins:=
 Qdb settled (ts.foldl (Qea sub jump) (cs,[]))
def QaZ {α:Type} (sub:α→List Ins→List Ins) (x:QcT) (ts:List α) (cs:List Ins):List Ins:=
 match x.kind with
 | 0=>cs++[QcW true]
 | 1=>cs++[QcW false]
 | 2=>blockC sub ts cs++[QcR 2]
 | 3=>QcZ sub 5 false ts cs
 | 4=>QcZ sub 4 true ts cs
 | 5=>cs++[QcF 6 x]
 | 6=>cs++[QcF 7 x]
 | 7=>cs++[QcF 8 x]
 | 8=>cs++[⟨9,0,0,false,x.fr,[],0⟩]
 | _=>cs++[⟨10,x.num,x.tag,false,[],[],0⟩]
def Qcf:(n:Nat)→Qbx n→List Ins→List Ins
 | 0,_,cs=>cs
 | n+1,x,cs=>QaZ (Qcf n) x.1 x.2 cs
def Qlg {α β:Type} (tst:β→List Ins→List Ins) (cmd:α→List Ins→List Ins) (p:List Ins×List Nat) (a:β×List α):List Ins×List Nat:=
 (landL [(tst a.1 p.1).length] (blockC cmd a.2 (tst a.1 p.1++[QcR 5])++[QcR 3]),p.2++[(blockC cmd a.2 (tst a.1 p.1++[QcR 5])).length])
def QdL {α:Type} (cmd:α→List Ins→List Ins) (els:List α) (r:List Ins×List Nat):List Ins:=landL r.2 (blockC cmd els r.1)
def Qd4 {α β:Type} (tst:β→List Ins→List Ins) (cmd:α→List Ins→List Ins) (arms:List (β×List α)) (els:List α) (cs:List Ins):List Ins:=
 QdL cmd els (arms.foldl (Qlg tst cmd) (cs,[]))
def Qbp {α β:Type} (tst:β→List Ins→List Ins) (cmd:α→List Ins→List Ins) (x:QfA) (arms:List (β×List α)) (els:List α) (cs:List Ins):List Ins:=
 match x.kind with
 | 0=>cs++[Qjb 1 x.pos []]
 | 1=>cs++[⟨13,0,0,false,[],[],x.pos⟩]
 | 2=>cs++[⟨14,0,0,false,[],[],x.pos⟩]
 | 3=>cs++[Qjb 2 x.pos [x.arg]]
 | 4=>cs++[Qjb 3 x.pos [x.arg]]
 | 5=>cs++[Qjb 4 x.pos [x.arg]]
 | 6=>cs++[⟨12,0,x.tag,false,[x.var],[x.arg],x.pos⟩]
 | _=>Qd4 tst cmd arms els cs
def Qjc:(n:Nat)→Qcd n→List Ins→List Ins
 | 0,_,cs=>cs
 | n+1,x,cs=>Qbp (Qcf n) (Qjc n) x.1 x.2.1 x.2.2 cs
def Qd5 (cs:List (Qcd 7)):List Ins:=blockC (Qjc 7) cs []
theorem Qtw (cs:List Ins) (j:Nat) (n:Int):(cs.map QcS).modify j (QeP n)=(cs.modify j (QeP n)).map QcS:=by
 induction cs generalizing j with
 | nil=>cases j <;> rfl
 | cons c r ih=>
  cases j with
  | zero=>rfl
  | succ j=>show QcS c :: (r.map QcS).modify j (QeP n)=QcS c :: (r.modify j (QeP n)).map QcS;rw [ih]
theorem QkO (js:List Nat) (cs:List Ins):landL js (cs.map QcS)=(landL js cs).map QcS:=by
 induction js generalizing cs with
 | nil=>rfl
 | cons j r ih=>
  show landL r ((cs.map QcS).modify j (QeP (((cs.map QcS).length:Int) - ((j:Int)+1))))=(landL r (cs.modify j (QeP ((cs.length:Int) - ((j:Int)+1))))).map QcS
  rw [List.length_map,Qtw,ih]
theorem Qf8 {α:Type} {sub:α→List Ins→List Ins} {z:α→α} (h:∀ t cs,sub (z t) (cs.map QcS)=(sub t cs).map QcS) (ts:List α) (cs:List Ins):blockC sub (ts.map z) (cs.map QcS)=(blockC sub ts cs).map QcS:=by
 induction ts generalizing cs with
 | nil=>rfl
 | cons t r ih=>
  show blockC sub (r.map z) (sub (z t) (cs.map QcS))=(blockC sub r (sub t cs)).map QcS
  rw [h,ih]
theorem Quy {α:Type} {sub:α→List Ins→List Ins} {z:α→α} (h:∀ t cs,sub (z t) (cs.map QcS)=(sub t cs).map QcS) (jump:Int) (ts:List α) (p:List Ins×List Nat) :
 (ts.map z).foldl (Qea sub jump) (p.1.map QcS,p.2)=(((ts.foldl (Qea sub jump) p).1).map QcS,(ts.foldl (Qea sub jump) p).2):=by
 induction ts generalizing p with
 | nil=>rfl
 | cons t r ih=>
  rw [List.map_cons,List.foldl_cons,List.foldl_cons,← ih]
  congr 1
  unfold Qea
  rw [h,List.length_map,List.map_append]
  rfl
theorem QpS (settled:Bool) (r:List Ins×List Nat):Qdb settled (r.1.map QcS,r.2)=(Qdb settled r).map QcS:=by
 unfold Qdb
 dsimp only
 rw [List.length_map,← QkO,List.map_append,← QkO,List.map_append]
 rfl
theorem QoO {α:Type} {sub:α→List Ins→List Ins} {z:α→α} (h:∀ t cs,sub (z t) (cs.map QcS)=(sub t cs).map QcS) (jump:Int) (settled:Bool) (ts:List α) (cs:List Ins):QcZ sub jump settled (ts.map z) (cs.map QcS)=(QcZ sub jump settled ts cs).map QcS:=by
 unfold QcZ
 rw [← QpS,Quy h jump ts (cs,[])]
theorem Qoi {α:Type} {sub:α→List Ins→List Ins} {z:α→α} (h:∀ t cs,sub (z t) (cs.map QcS)=(sub t cs).map QcS) (x:QcT) (ts:List α) (cs:List Ins):QaZ sub (zT x) (ts.map z) (cs.map QcS)=(QaZ sub x ts cs).map QcS:=by
 have hk:(zT x).kind=x.kind:=rfl
 unfold QaZ
 rw [hk]
 split
 ·rw [List.map_append];rfl
 ·rw [List.map_append];rfl
 ·rw [List.map_append,Qf8 h];rfl
 ·exact QoO h _ _ _ _
 ·exact QoO h _ _ _ _
 ·rw [List.map_append];rfl
 ·rw [List.map_append];rfl
 ·rw [List.map_append];rfl
 ·rw [List.map_append];rfl
 ·rw [List.map_append];rfl
theorem QrQ:∀ (n:Nat) (t:Qbx n) (cs:List Ins),Qcf n (QdR n t) (cs.map QcS)=(Qcf n t cs).map QcS
 | 0,_,_=>rfl
 | n+1,x,cs=>Qoi (QrQ n) x.1 x.2 cs
theorem Qr4 {α β:Type} {tst:β→List Ins→List Ins} {cmd:α→List Ins→List Ins} {zt:β→β} {zc:α→α} (ht:∀ t cs,tst (zt t) (cs.map QcS)=(tst t cs).map QcS) (hc:∀ t cs,cmd (zc t) (cs.map QcS)=(cmd t cs).map QcS) (as:List (β×List α)) (p:List Ins×List Nat) :
 (as.map fun a=>(zt a.1,a.2.map zc)).foldl (Qlg tst cmd) (p.1.map QcS,p.2)=(((as.foldl (Qlg tst cmd) p).1).map QcS,(as.foldl (Qlg tst cmd) p).2):=by
 induction as generalizing p with
 | nil=>rfl
 | cons a r ih=>
  rw [List.map_cons,List.foldl_cons,List.foldl_cons,← ih]
  congr 1
  unfold Qlg
  dsimp only
  rw [ht,List.length_map,← QkO,List.map_append]
  have e:(tst a.1 p.1).map QcS++[QcR 5]=(tst a.1 p.1++[QcR 5]).map QcS:=by rw [List.map_append];rfl
  rw [e,Qf8 hc,List.length_map]
  rfl
theorem Qpv {α β:Type} {tst:β→List Ins→List Ins} {cmd:α→List Ins→List Ins} {zt:β→β} {zc:α→α} (ht:∀ t cs,tst (zt t) (cs.map QcS)=(tst t cs).map QcS) (hc:∀ t cs,cmd (zc t) (cs.map QcS)=(cmd t cs).map QcS) (x:QfA) (as:List (β×List α)) (es:List α) (cs:List Ins) :
 Qbp tst cmd (zC x) (as.map fun a=>(zt a.1,a.2.map zc)) (es.map zc) (cs.map QcS)=(Qbp tst cmd x as es cs).map QcS:=by
 have hk:(zC x).kind=x.kind:=rfl
 unfold Qbp
 rw [hk]
 split
 ·rw [List.map_append];rfl
 ·rw [List.map_append];rfl
 ·rw [List.map_append];rfl
 ·rw [List.map_append];rfl
 ·rw [List.map_append];rfl
 ·rw [List.map_append];rfl
 ·rw [List.map_append];rfl
 ·unfold Qd4 QdL
  rw [Qr4 ht hc as (cs,[])]
  dsimp only
  rw [Qf8 hc,QkO]
theorem QrW:∀ (n:Nat) (t:Qcd n) (cs:List Ins),Qjc n (Qja n t) (cs.map QcS)=(Qjc n t cs).map QcS
 | 0,_,_=>rfl
 | n+1,x,cs=>Qpv (QrQ n) (QrW n) x.1 x.2.1 x.2.2 cs
theorem Quh {cs ds:List (Qcd 7)} (h:cs.map (Qja 7)=ds.map (Qja 7)):(Qd5 cs).map QcS=(Qd5 ds).map QcS:=by
 unfold Qd5
 rw [← Qf8 (QrW 7) cs [],← Qf8 (QrW 7) ds [],h]
def SameZ (a b:Except FZ MS):Prop:=
 match a,b with
 | .ok x,.ok y=>x=y
 | .error e,.error f=>e.1=f.1
 | _,_=>False
theorem SameZ.refl (a:Except FZ MS):SameZ a a:=by cases a <;> rfl
theorem QuW (M:Msg) (count:Nat) (i j:Ins) (m:MS) (h:QcS i=QcS j):SameZ (stepL M count i m) (stepL M count j m):=by
 obtain ⟨o,n,t,oc,a,b,at_⟩:=i
 obtain ⟨o',n',t',oc',a',b',at'⟩:=j
 unfold QcS at h
 injection h with h1 h2 h3 h4 h5 h6 h7
 subst h1 h2 h3 h4 h5 h6
 have hact:∀ x,SameZ (Qtp ⟨o,n,t,oc,a,b,at_⟩ m x) (Qtp ⟨o,n,t,oc,a,b,at'⟩ m x):=fun x=>by
  unfold Qtp
  dsimp only
  by_cases h:(addL m.st.met t (expL m.st x)).1=0
  ·rw [if_pos h,if_pos h];rfl
  ·rw [if_neg h,if_neg h];rfl
 have hact':SameZ (QfU ⟨o,n,t,oc,a,b,at_⟩ m) (QfU ⟨o,n,t,oc,a,b,at'⟩ m):=by
  unfold QfU
  dsimp only
  by_cases h:t=1
  ·rw [if_pos h,if_pos h];exact hact _
  ·rw [if_neg h,if_neg h]
   by_cases h:2≤t∧t≤4∧a≠[]
   ·rw [if_pos h,if_pos h];exact hact _
   ·rw [if_neg h,if_neg h];rfl
 by_cases h11:o=11
 ·subst h11
  exact hact'
 ·have e:∀ q:Int,stepL M count ⟨o,n,t,oc,a,b,q⟩ m=stepL M count ⟨o,n,t,oc,a,b,0⟩ m:=fun q=>by
   unfold stepL Qgf Qgl doCond doAsk QgD Qle
   dsimp only
   rw [if_neg h11,if_neg h11]
  rw [e at_,e at']
  exact SameZ.refl _
theorem QrN (M:Msg) {code code':List Ins} (h:code.map QcS=code'.map QcS):∀ (f:Nat) (m:MS) (d:Nat),SameZ (loopL M code f m d).1 (loopL M code' f m d).1∧(loopL M code f m d).2=(loopL M code' f m d).2
 | 0,m,d=>⟨SameZ.refl _,rfl⟩
 | f+1,m,d=>by
  have hl:code.length=code'.length:=by simpa using congrArg List.length h
  unfold loopL
  rw [hl]
  by_cases hn:m.next < code'.length
  ·rw [if_pos hn,if_pos hn]
   have hz:QcS (code.getD m.next QuD)=QcS (code'.getD m.next QuD):=by
    have:=congrArg (fun l=>l.getD m.next (QcS QuD)) h
    simpa [List.getD_eq_getElem?_getD,List.getElem?_eq_getElem hn,List.getElem?_eq_getElem (show m.next < code.length by omega)] using this
   have hs:=QuW M code'.length _ _ (atL m) hz
   generalize stepL M code'.length (code.getD m.next QuD) (atL m)=x at hs
   generalize stepL M code'.length (code'.getD m.next QuD) (atL m)=y at hs
   cases x with
   | error e=>
    cases y with
    | error g=>exact ⟨hs,rfl⟩
    | ok y=>exact hs.elim
   | ok x=>
    cases y with
    | error g=>exact hs.elim
    | ok y=>
     have:x=y:=hs
     subst this
     exact QrN M h f x (d+1)
  ·rw [if_neg hn,if_neg hn]
   exact ⟨SameZ.refl _,rfl⟩
theorem Qum (v:Bool) (M:Msg) {code code':List Ins} (h:code.map QcS=code'.map QcS):(execL v code M).1=(execL v code' M).1∧(execL v code M).2.1=(execL v code' M).2.1∧(execL v code M).2.2.map Prod.fst=(execL v code' M).2.2.map Prod.fst:=by
 have hl:code.length=code'.length:=by simpa using congrArg List.length h
 unfold execL
 rw [hl]
 by_cases hn:400 < code'.length
 ·rw [if_pos hn,if_pos hn];exact ⟨rfl,rfl,rfl⟩
 ·rw [if_neg hn,if_neg hn]
  obtain ⟨h1,h2⟩:=QrN M h code'.length (ms0 v) 0
  generalize loopL M code code'.length (ms0 v) 0=x at h1 h2
  generalize loopL M code' code'.length (ms0 v) 0=y at h1 h2
  obtain ⟨x,d⟩:=x
  obtain ⟨y,d'⟩:=y
  dsimp only at h1 h2
  subst h2
  cases x with
  | error e=>
   cases y with
   | error g=>exact ⟨rfl,rfl,congrArg some h1⟩
   | ok y=>exact h1.elim
  | ok x=>
   cases y with
   | error g=>exact h1.elim
   | ok y=>
    have:x=y:=h1
    subst this
    exact ⟨rfl,rfl,rfl⟩
end Go.Proofs.YtbiclelojbfnbaaGreatDoor
