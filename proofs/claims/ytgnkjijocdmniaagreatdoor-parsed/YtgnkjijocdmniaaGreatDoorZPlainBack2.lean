import Derived.Lib.ItoaLen
import Derived.Lib.Join
import Derived.Test.YtgnkjijocdmniaaGreatDoorZPlainQ3
namespace Go.Proofs.YtgnkjijocdmniaaGreatDoor
set_option linter.unusedVariables false
set_option linter.unusedSimpArgs false
set_option maxRecDepth 100000
set_option maxHeartbeats 4000000
def quoteB (c:UInt8):List UInt8:=if c=34∨c=92 then [92,c] else [c]
def quotedL (x:List UInt8):List UInt8:=34 :: (x.flatMap quoteB++[34])
def joinL (sep:List UInt8):List (List UInt8)→List UInt8
 | []=>[]
 | [x]=>x
 | x :: y :: r=>x++sep++joinL sep (y :: r)
theorem joinL_eq (sep:List UInt8):∀ xs:List (List UInt8),joinL sep xs=Lib.join xs sep
 | []=>rfl
 | [x]=>(Lib.join_one x sep).symm
 | x :: y :: r=>by
  rw [joinL,joinL_eq sep (y :: r),Lib.join_cons,Lib.join_cons]
  simp [Lib.joinTail]
def quotesL (xs:List (List UInt8)):List UInt8:=
 match xs with
 | [x]=>quotedL x
 | xs=>[91]++joinL [44,32] (xs.map quotedL)++[93]
def phraseStep (t p:List UInt8):List UInt8:=(if t≠[]∧p≠[] then t++[32] else t)++p
def phraseL (parts:List (List UInt8)):List UInt8:=parts.foldl phraseStep []
def tagTextL (tag:Nat) (tags:List (List UInt8)):List UInt8:=if tag=0 then [] else tags.getD (tag - 1) []
def itoaL (n:Nat):List UInt8:=Lib.decDigits n
def matchTxt (hw:List UInt8) (x:TLab):List UInt8:=
 phraseL [hw,if x.octet then phraseL [tComparator,quotedL cOctet] else [],if x.tag≠1 then tagTextL x.tag [tIs,tContains,tMatches] else [],quotesL x.fr,quotesL x.keys]
def groupTxt (hw:List UInt8) (ts:List (List UInt8)):List UInt8:=hw++[32,40]++joinL [44,32] ts++[41]
def testNode (x:TLab) (ts:List (List UInt8)):List UInt8:=
 match x.kind with
 | 0=>kTrue
 | 1=>kFalse
 | 2=>phraseL (kNot :: ts)
 | 3=>groupTxt kAllof ts
 | 4=>groupTxt kAnyof ts
 | 5=>matchTxt kHeader x
 | 6=>matchTxt kEnvelope x
 | 7=>matchTxt kString x
 | 8=>phraseL [kExists,quotesL x.fr]
 | _=>phraseL [kSize,tagTextL x.tag [tOver,tUnder],itoaL x.num]
def testTxt:(n:Nat)→TestT n→List UInt8
 | 0,_=>[]
 | n+1,x=>testNode x.1 (x.2.map (testTxt n))
def kElsifB:List UInt8:=125 :: 32 :: kElsif
def openB:List UInt8:=[123,10]
def elseB:List UInt8:=125 :: 32 :: (kElse++[32,123,10])
def linesL {α:Type} (txt:α→List UInt8→List UInt8) (cs:List α) (i:List UInt8):List UInt8:=cs.flatMap fun c=>i++txt c i++[10]
def armTxt (word i:List UInt8) (t b:List UInt8):List UInt8:=phraseL [word,t,openB]++b++i
def armsTxt (i:List UInt8):List UInt8→List (List UInt8×List UInt8)→List UInt8
 | _,[]=>[]
 | word,a :: r=>armTxt word i a.1 a.2++armsTxt i kElsifB r
def cmdNode (x:CLab) (i:List UInt8) (arms:List (List UInt8×List UInt8)) (els:List UInt8):List UInt8:=
 match x.kind with
 | 0=>kKeep++[59]
 | 1=>kDiscard++[59]
 | 2=>kStop++[59]
 | 3=>phraseL [kFileinto,quotedL x.arg]++[59]
 | 4=>phraseL [kRedirect,quotedL x.arg]++[59]
 | 5=>phraseL [kReject,quotedL x.arg]++[59]
 | 6=>phraseL [kSet,tagTextL x.tag [tLower,tUpper,tLength],quotedL x.var,quotedL x.arg]++[59]
 | _=>armsTxt i kIf arms++(if x.els then elseB++els++i else [])++[125]
def cmdTxt:(n:Nat)→CmdT n→List UInt8→List UInt8
 | 0,_,_=>[]
 | n+1,x,i=>cmdNode x.1 i (x.2.1.map fun a=>(testTxt n a.1,linesL (cmdTxt n) a.2 (i++[32,32]))) (linesL (cmdTxt n) x.2.2 (i++[32,32]))
def requireTxt (req:List (List UInt8)):List UInt8:=if req=[] then [] else kRequire++[32]++quotesL req++[59,10]
def textL (t:List (List UInt8)×List (CmdT 7)):List UInt8:=requireTxt t.1++linesL (cmdTxt 7) t.2 []
theorem phrase_grow:∀ (ps:List (List UInt8)) (t:List UInt8),t.length≤(ps.foldl phraseStep t).length
 | [],t=>Nat.le_refl _
 | p :: r,t=>by
  have h1:=phrase_grow r (phraseStep t p)
  have h2:t.length≤(phraseStep t p).length:=by unfold phraseStep;split <;> simp
  rw [List.foldl_cons]
  omega
theorem phrase_mem:∀ (ps:List (List UInt8)) (t p:List UInt8),p∈ps→p.length≤(ps.foldl phraseStep t).length
 | [],t,p,h=>by cases h
 | q :: r,t,p,h=>by
  rw [List.foldl_cons]
  rcases List.mem_cons.1 h with h | h
  ·subst h
   have h1:=phrase_grow r (phraseStep t p)
   have h2:p.length≤(phraseStep t p).length:=by unfold phraseStep;rw [List.length_append];omega
   omega
  ·exact phrase_mem r _ p h
theorem phraseL_mem {ps:List (List UInt8)} {p:List UInt8} (h:p∈ps):p.length≤(phraseL ps).length:=phrase_mem ps [] p h
theorem joinL_mem:∀ (xs:List (List UInt8)) (x:List UInt8),x∈xs→x.length≤(joinL [44,32] xs).length
 | [],x,h=>by cases h
 | [y],x,h=>by rw [List.mem_singleton.1 h];exact Nat.le_refl _
 | y :: z :: r,x,h=>by
  simp only [joinL,List.length_append]
  rcases List.mem_cons.1 h with h | h
  ·subst h;omega
  ·have:=joinL_mem (z :: r) x h
   omega
theorem joinL_memlen {ts:List (List UInt8)} {hw:List UInt8} {t:List UInt8} (h:t∈ts):t.length≤(groupTxt hw ts).length:=by
 have:=joinL_mem ts t h
 unfold groupTxt
 simp only [List.length_append]
 omega
theorem join_count:∀ xs:List (List UInt8),xs.length≤(joinL [44,32] xs).length+1
 | []=>by simp
 | [x]=>by simp
 | x :: y :: r=>by
  have:=join_count (y :: r)
  simp only [joinL,List.length_append,List.length_cons,List.length_nil] at this ⊢
  omega
def linesT (i:List UInt8) (ts:List (List UInt8)):List UInt8:=ts.flatMap fun t=>i++t++[10]
theorem linesL_T {α:Type} (txt:α→List UInt8→List UInt8) (cs:List α) (i:List UInt8):linesL txt cs i=linesT i (cs.map fun c=>txt c i):=by
 unfold linesL linesT;rw [List.flatMap_map]
theorem linesT_ge (i:List UInt8):∀ ts:List (List UInt8),ts.length≤(linesT i ts).length
 | []=>by simp
 | t :: ts=>by
  have:=linesT_ge i ts
  unfold linesT at this ⊢
  rw [List.flatMap_cons]
  simp only [List.length_append,List.length_cons,List.length_nil] at this ⊢
  omega
theorem linesT_mem (i:List UInt8):∀ (ts:List (List UInt8)) (t:List UInt8),t∈ts→t.length≤(linesT i ts).length
 | [],t,h=>by cases h
 | u :: ts,t,h=>by
  unfold linesT
  rw [List.flatMap_cons]
  simp only [List.length_append,List.length_cons,List.length_nil]
  rcases List.mem_cons.1 h with h | h
  ·subst h;omega
  ·have:=linesT_mem i ts t h
   unfold linesT at this
   simp only [List.append_assoc] at *
   omega
theorem armsTxt_ge (i:List UInt8):∀ (al:List (List UInt8×List UInt8)) (word:List UInt8),al.length≤(armsTxt i word al).length
 | [],word=>by simp
 | a :: r,word=>by
  have:=armsTxt_ge i r kElsifB
  have h2:1≤(armTxt word i a.1 a.2).length:=by
   unfold armTxt
   rw [List.length_append,List.length_append]
   have:=phraseL_mem (ps:=[word,a.1,openB]) (p:=openB) (by simp)
   have:openB.length=2:=rfl
   omega
  show (a :: r).length≤(armTxt word i a.1 a.2++armsTxt i kElsifB r).length
  rw [List.length_append,List.length_cons]
  omega
theorem armsTxt_mem (i:List UInt8):∀ (al:List (List UInt8×List UInt8)) (word:List UInt8) (a:List UInt8×List UInt8),a∈al→a.1.length≤(armsTxt i word al).length∧a.2.length≤(armsTxt i word al).length
 | [],word,a,h=>by cases h
 | u :: al,word,a,h=>by
  show a.1.length≤(armTxt word i u.1 u.2++armsTxt i kElsifB al).length∧a.2.length≤(armTxt word i u.1 u.2++armsTxt i kElsifB al).length
  rw [List.length_append]
  rcases List.mem_cons.1 h with h | h
  ·subst h
   have h1:=phraseL_mem (ps:=[word,a.1,openB]) (p:=a.1) (by simp)
   unfold armTxt
   rw [List.length_append,List.length_append]
   omega
  ·have:=armsTxt_mem i al kElsifB a h
   omega
structure Gp (l:List UInt8) (s:PS):Prop where
 le:s.2≤l.length
 lt:s.1.pos≤s.2
 word:s.1.kind≠0→s.1.pos < s.2
 said:s.1.kind=5→s.1.said.length+2≤s.2 - s.1.pos
 spelt:s.1.kind=0→s.1.spelt=[]
 num:s.1.num≤2147483647
 spl:s.1.spelt.length≤s.2 - s.1.pos
def ph (l:List UInt8) (s:PS):Nat:=l.length - s.1.pos
theorem scanL_spl {r:List UInt8} {p:Nat} {x:PS} (h:scanL r p=.ok x):x.1.spelt.length≤x.2 - x.1.pos:=by
 have hsp:∀ (k n:Nat) (t:List UInt8),(spellL k t p n).1.spelt.length≤(spellL k t p n).2 - (spellL k t p n).1.pos:=fun k n t=>by
  unfold spellL
  simp [smallL]
  omega
 cases r with
 | nil=>unfold scanL at h;dsimp only at h;cases h;simp
 | cons c r=>
  unfold scanL at h
  dsimp only at h
  split at h
  ·cases h;exact hsp _ _ _
  ·split at h
   ·split at h
    ·cases h
    ·cases h;exact hsp _ _ _
   ·split at h
    ·obtain ⟨n',v',he⟩:∃ n' v':Nat,scanNumL (c :: r) p=if letdig ((c :: r).getD n' 0) then .error ⟨2,p⟩ else if 2147483647 < v' then .error ⟨3,p⟩ else .ok (⟨4,p,[],[],v'⟩,p+n'):=⟨_,_,rfl⟩
     rw [he] at h
     split at h
     ·cases h
     ·split at h
      ·cases h
      ·cases h;simp
    ·split at h
     ·unfold quoteR at h
      cases hq:quoteL r with
      | none=>rw [hq] at h;cases h
      | some y=>rw [hq] at h;cases h;simp
     ·split at h
      ·cases h;exact hsp _ _ _
      ·cases h
theorem scanL_gp (l:List UInt8) (p:Nat) (hp:p≤l.length) (x:PS) (h:scanL (l.drop p) p=.ok x):Gp l x∧x.1.pos=p:=by
 obtain ⟨h1,h2,h3,h4,h5⟩:=scanL_le l p hp x h
 refine ⟨⟨h2,by omega,fun hk=>by have:=h5 hk;omega,fun hk=>?_,fun hk=>(h4 hk).2,(scanL_small l p x h).2,scanL_spl h⟩,h1⟩
 generalize l.drop p=r at h
 cases r with
 | nil=>unfold scanL at h;dsimp only at h;cases h;cases hk
 | cons c r=>
  unfold scanL at h
  dsimp only at h
  split at h
  ·cases h;cases hk
  ·split at h
   ·split at h
    ·cases h
    ·cases h;cases hk
   ·split at h
    ·obtain ⟨n',v',he⟩:∃ n' v':Nat,scanNumL (c :: r) p=if letdig ((c :: r).getD n' 0) then .error ⟨2,p⟩ else if 2147483647 < v' then .error ⟨3,p⟩ else .ok (⟨4,p,[],[],v'⟩,p+n'):=⟨_,_,rfl⟩
     rw [he] at h
     split at h
     ·cases h
     ·split at h
      ·cases h
      ·cases h;cases hk
    ·split at h
     ·unfold quoteR at h
      cases hq:quoteL r with
      | none=>rw [hq] at h;cases h
      | some y=>
       rw [hq] at h
       have h2:=quoteL_said _ _ hq
       cases h
       simp;omega
     ·split at h
      ·cases h;cases hk
      ·cases h
theorem nextL_gp {l:List UInt8} {s y:PS} (h:Gp l s) (hn:nextL l s.2=.ok y):Gp l y∧s.2≤y.1.pos:=by
 unfold nextL at hn
 cases hs:skipF (l.length+1) (l.drop s.2) s.2 with
 | error f=>rw [hs] at hn;cases hn
 | ok n=>
  rw [hs] at hn
  have h1:=skipF_le l _ s.2 n h.le hs
  have h2:=scanL_gp l n h1.2 y hn
  exact ⟨h2.1,by omega⟩
def Bd {α:Type} (c:Nat) (l:List UInt8) (len:α→Nat) (r:Except Flt (α×PS)) (s:PS):Prop:=∀ y,r=.ok y→Gp l y.2∧len y.1+c+64*ph l y.2≤64*ph l s
theorem Bd.err {α:Type} {c:Nat} {l:List UInt8} {len:α→Nat} {f:Flt} {s:PS}:Bd c l len (.error f) s:=fun y h=>by cases h
theorem Bd.okk {α:Type} {l:List UInt8} {len:α→Nat} {a:α} {s:PS} (h:Gp l s) (ha:len a=0):Bd 0 l len (.ok (a,s)) s:=fun y e=>by cases e;exact ⟨h,by simp only [ha];omega⟩
theorem gp_next {l:List UInt8} {s y:PS} (h:Gp l s) (hk:s.1.kind≠0) (hn:nextL l s.2=.ok y):Gp l y∧64+64*ph l y≤64*ph l s:=by
 obtain ⟨h1,h2⟩:=nextL_gp h hn
 have h3:=h.word hk
 have h4:=h.le
 have h5:=h1.le
 have h6:=h1.lt
 refine ⟨h1,?_⟩
 unfold ph
 omega
theorem gp_kind {l:List UInt8} {zs:List (List UInt8)} {s:PS} (h:Gp l s) (hz:∀ z∈zs,z≠[]) (h0:¬ whichL zs s.1.spelt=0):s.1.kind≠0:=fun e=>h0 (by rw [h.spelt e];exact whichL_nil zs hz)
theorem pass_bd {l:List UInt8} {zs:List (List UInt8)} {s:PS} (h:Gp l s) (hz:∀ z∈zs,z≠[]):Bd 64 l (fun _=>0) (passL l zs s) s:=fun y e=>by
 unfold passL at e
 split at e
 ·cases e
 ·rename_i h0
  cases hn:nextL l s.2 with
  | error f=>rw [hn] at e;cases e
  | ok s'=>rw [hn] at e;cases e;have:=gp_next h (gp_kind h hz h0) hn;exact ⟨this.1,by dsimp only;omega⟩
theorem may_bd {l:List UInt8} {zs:List (List UInt8)} {s:PS} (h:Gp l s) (hz:∀ z∈zs,z≠[]):Bd 0 l (fun i=>if i=0 then 0 else 64) (mayL l zs s) s:=fun y e=>by
 unfold mayL at e
 split at e
 ·cases e;exact ⟨h,by simp⟩
 ·rename_i h0
  cases hn:nextL l s.2 with
  | error f=>rw [hn] at e;cases e
  | ok s'=>rw [hn] at e;cases e;have:=gp_next h (gp_kind h hz h0) hn;exact ⟨this.1,by dsimp only;rw [if_neg h0];omega⟩
theorem quotedL_len (x:List UInt8):(quotedL x).length≤2*x.length+2:=by
 unfold quotedL
 rw [List.length_cons,List.length_append]
 have:(x.flatMap quoteB).length≤2*x.length:=by
  induction x with
  | nil=>simp
  | cons c r ih=>
   rw [List.flatMap_cons,List.length_append,List.length_cons]
   have:(quoteB c).length≤2:=by unfold quoteB;split <;> simp
   omega
 simp only [List.length_cons,List.length_nil]
 omega
theorem string_bd {l:List UInt8} {chk:List UInt8→Nat} {s:PS} (h:Gp l s):Bd 32 l (fun x=>(quotedL x).length) (stringL l chk s) s:=fun y e=>by
 unfold stringL at e
 split at e
 ·rename_i hk
  split at e
  ·cases hn:nextL l s.2 with
   | error f=>rw [hn] at e;cases e
   | ok s'=>
    rw [hn] at e;cases e
    obtain ⟨h1,h2⟩:=nextL_gp h hn
    have h3:=h.said hk
    have h4:=h.le
    have h5:=h1.le
    have h6:=h1.lt
    have h7:=quotedL_len s.1.said
    have h8:=h.lt
    refine ⟨h1,?_⟩
    show (quotedL s.1.said).length+32+64*ph l s'≤64*ph l s
    unfold ph
    omega
  ·cases e
 ·cases e
def sumLen (xs:List (List UInt8)):Nat:=(xs.map fun x=>x.length+2).sum
theorem sumLen_cons (x:List UInt8) (xs:List (List UInt8)):sumLen (x :: xs)=x.length+2+sumLen xs:=by simp [sumLen]
theorem sumLen_append (xs ys:List (List UInt8)):sumLen (xs++ys)=sumLen xs+sumLen ys:=by simp [sumLen]
theorem sumLen_one (x:List UInt8):sumLen [x]=x.length+2:=by simp [sumLen]
theorem joinL_len (xs:List (List UInt8)):(joinL [44,32] xs).length≤sumLen xs:=by
 induction xs with
 | nil=>simp [joinL,sumLen]
 | cons x r ih=>
  cases r with
  | nil=>simp [joinL,sumLen]
  | cons y r=>
   rw [sumLen_cons]
   simp only [joinL,List.length_append,List.length_cons,List.length_nil]
   omega
def qLen (xs:List (List UInt8)):Nat:=sumLen (xs.map quotedL)
theorem quotesL_len (xs:List (List UInt8)):(quotesL xs).length≤qLen xs+2:=by
 unfold quotesL qLen
 split
 ·rw [List.map_cons,List.map_nil,sumLen_one];omega
 ·have:=joinL_len (xs.map quotedL)
  simp only [List.length_append,List.length_cons,List.length_nil]
  omega
theorem more_bd {l:List UInt8} {chk:List UInt8→Nat}:∀ (f:Nat) (acc:List (List UInt8)) (s:PS),Gp l s→∀ y,moreL l chk f acc s=.ok y→Gp l y.2∧qLen y.1+64*ph l y.2≤qLen acc+64*ph l s
 | 0,acc,s,h=>fun y e=>by cases e;exact ⟨h,Nat.le_refl _⟩
 | f+1,acc,s,h=>fun y e=>by
  rw [moreL] at e
  cases hp:passL l [[44],[93]] s with
  | error g=>rw [hp] at e;cases e
  | ok z=>
   rw [hp] at e
   obtain ⟨h1,h2⟩:=pass_bd (zs:=[[44],[93]]) h (by decide) z hp
   dsimp only at e
   split at e
   ·cases hs:stringL l chk z.2 with
    | error g=>rw [hs] at e;cases e
    | ok x=>
     rw [hs] at e
     obtain ⟨h3,h4⟩:=string_bd h1 x hs
     obtain ⟨h5,h6⟩:=more_bd f _ x.2 h3 y e
     refine ⟨h5,?_⟩
     unfold qLen at *
     rw [List.map_append,sumLen_append,List.map_cons,List.map_nil,sumLen_one] at h6
     dsimp only at *
     omega
   ·cases e;exact ⟨h1,by dsimp only;omega⟩
theorem strings_bd {l:List UInt8} {chk:List UInt8→Nat} {F:Nat} {s:PS} (h:Gp l s):Bd 16 l qLen (stringsL l chk F s) s:=fun y e=>by
 unfold stringsL at e
 cases hm:mayL l [[91]] s with
 | error g=>rw [hm] at e;cases e
 | ok z=>
  rw [hm] at e
  obtain ⟨h1,h2⟩:=may_bd (zs:=[[91]]) h (by decide) z hm
  dsimp only at e
  cases hs:stringL l chk z.2 with
  | error g=>rw [hs] at e;cases e
  | ok x=>
   rw [hs] at e
   obtain ⟨h3,h4⟩:=string_bd h1 x hs
   dsimp only at e
   have h9:qLen [x.1]=(quotedL x.1).length+2:=by unfold qLen;rw [List.map_cons,List.map_nil,sumLen_one]
   split at e
   ·cases e;exact ⟨h3,by dsimp only at *;omega⟩
   ·obtain ⟨h5,h6⟩:=more_bd F _ x.2 h3 y e
    exact ⟨h5,by dsimp only at *;omega⟩
theorem phraseStep_len (t p:List UInt8):(phraseStep t p).length≤t.length+1+p.length:=by
 unfold phraseStep
 split <;> simp only [List.length_append,List.length_cons,List.length_nil] <;> omega
def plainLen (ps:List (List UInt8)):Nat:=(ps.map fun p=>p.length+1).sum
theorem phrase_len:∀ (ps:List (List UInt8)) (t:List UInt8),(ps.foldl phraseStep t).length≤t.length+plainLen ps
 | [],t=>by simp [plainLen]
 | p :: r,t=>by
  have h1:=phrase_len r (phraseStep t p)
  have h2:=phraseStep_len t p
  rw [List.foldl_cons]
  simp only [plainLen,List.map_cons,List.sum_cons] at h1 ⊢
  omega
theorem phraseL_len (ps:List (List UInt8)):(phraseL ps).length≤plainLen ps:=by
 have:=phrase_len ps []
 simpa [phraseL] using this
theorem tagTextL_len (tag:Nat) (tags:List (List UInt8)) (m:Nat) (h:∀ z∈tags,z.length≤m):(tagTextL tag tags).length≤m:=by
 unfold tagTextL
 split
 ·simp
 ·rw [List.getD_eq_getElem?_getD]
  cases he:tags[tag - 1]? with
  | none=>simp
  | some z=>exact h z (List.mem_of_getElem? he)
theorem opt_bd {l:List UInt8}:∀ (f tag:Nat) (oct cmp:Bool) (s:PS),Gp l s→Bd 0 l (fun _=>0) (optL l f tag oct cmp s) s
 | 0,tag,oct,cmp,s,h=>Bd.okk h rfl
 | f+1,tag,oct,cmp,s,h=>fun y e=>by
  rw [optL] at e
  by_cases h1:whichL [tIs,tContains,tMatches] s.1.spelt=0
  ·rw [if_pos h1] at e
   by_cases h2:whichL [tComparator] s.1.spelt=0
   ·rw [if_pos h2] at e;cases e;exact ⟨h,by simp⟩
   ·rw [if_neg h2] at e
    cases cmp
    ·rw [if_neg (by decide)] at e
     cases hn:nextL l s.2 with
     | error g=>rw [nextThen_err hn] at e;cases e
     | ok z=>
      rw [nextThen_ok hn] at e
      obtain ⟨g1,g2⟩:=gp_next h (gp_kind (zs:=[tComparator]) h (by decide) h2) hn
      cases hs:stringL l (fun x=>if 0 < whichL [cOctet,cCasemap] x then 0 else 7) z with
      | error g=>rw [thenL_err hs] at e;cases e
      | ok x=>
       rw [thenL_ok hs] at e
       obtain ⟨g3,g4⟩:=string_bd g1 x hs
       obtain ⟨g5,g6⟩:=opt_bd f _ _ _ x.2 g3 y e
       exact ⟨g5,by dsimp only at *;omega⟩
    ·rw [if_pos rfl] at e;cases e
  ·rw [if_neg h1] at e
   by_cases ht:tag=0
   ·rw [if_pos ht] at e
    cases hn:nextL l s.2 with
    | error g=>rw [nextThen_err hn] at e;cases e
    | ok z=>
     rw [nextThen_ok hn] at e
     obtain ⟨g1,g2⟩:=gp_next h (gp_kind (zs:=[tIs,tContains,tMatches]) h (by decide) h1) hn
     obtain ⟨g5,g6⟩:=opt_bd f _ _ _ z g1 y e
     exact ⟨g5,by dsimp only at *;omega⟩
   ·rw [if_neg ht] at e;cases e
theorem matchTxt_len (hw:List UInt8) (x:TLab) (h:hw.length≤8):(matchTxt hw x).length≤52+qLen x.fr+qLen x.keys:=by
 unfold matchTxt
 have h1:=phraseL_len [hw,if x.octet then phraseL [tComparator,quotedL cOctet] else [],if x.tag≠1 then tagTextL x.tag [tIs,tContains,tMatches] else [],quotesL x.fr,quotesL x.keys]
 have h2:=quotesL_len x.fr
 have h3:=quotesL_len x.keys
 have h4:(if x.octet then phraseL [tComparator,quotedL cOctet] else []).length≤21:=by
  split
  ·decide
  ·simp
 have h5:(if x.tag≠1 then tagTextL x.tag [tIs,tContains,tMatches] else []).length≤9:=by
  split
  ·exact tagTextL_len _ _ 9 (by decide)
  ·simp
 simp only [plainLen,List.map_cons,List.map_nil,List.sum_cons,List.sum_nil] at h1
 omega
theorem match_bd {l:List UInt8} {F:Nat} {chk:List UInt8→Nat} {k pos:Nat} {s:PS} (h:Gp l s):Bd 16 l (fun x=>qLen x.fr+qLen x.keys) (matchL l F chk k pos s) s:=fun y e=>by
 unfold matchL at e
 cases h1:optL l F 0 false false s with
 | error f=>rw [thenL_err h1] at e;cases e
 | ok a=>
  rw [thenL_ok h1] at e
  obtain ⟨g1,g2⟩:=opt_bd F 0 false false s h a h1
  cases h2:stringsL l chk F a.2 with
  | error f=>rw [thenL_err h2] at e;cases e
  | ok c=>
   rw [thenL_ok h2] at e
   obtain ⟨g3,g4⟩:=strings_bd g1 c h2
   cases h3:stringsL l (fun _=>0) F c.2 with
   | error f=>rw [thenL_err h3] at e;cases e
   | ok d=>
    rw [thenL_ok h3] at e
    obtain ⟨g5,g6⟩:=strings_bd g3 d h3
    cases e
    exact ⟨g5,by dsimp only at *;omega⟩
theorem groupMore_bd {α:Type} {l:List UInt8} {sub:PS→Except Flt (α×PS)} {txt:α→List UInt8} (hs:∀ s,Gp l s→Bd 8 l (fun x=>(txt x).length) (sub s) s):∀ (f:Nat) (acc:List α) (s:PS),Gp l s→∀ y,groupMore l sub f acc s=.ok y→Gp l y.2∧sumLen (y.1.map txt)+64*ph l y.2≤sumLen (acc.map txt)+64*ph l s
 | 0,acc,s,h=>fun y e=>by cases e;exact ⟨h,Nat.le_refl _⟩
 | f+1,acc,s,h=>fun y e=>by
  rw [groupMore] at e
  cases hp:passL l [[44],[41]] s with
  | error g=>rw [thenL_err hp] at e;cases e
  | ok z=>
   rw [thenL_ok hp] at e
   obtain ⟨h1,h2⟩:=pass_bd (zs:=[[44],[41]]) h (by decide) z hp
   split at e
   ·cases hq:sub z.2 with
    | error g=>rw [thenL_err hq] at e;cases e
    | ok x=>
     rw [thenL_ok hq] at e
     obtain ⟨h3,h4⟩:=hs z.2 h1 x hq
     obtain ⟨h5,h6⟩:=groupMore_bd hs f _ x.2 h3 y e
     refine ⟨h5,?_⟩
     rw [List.map_append,sumLen_append,List.map_cons,List.map_nil,sumLen_one] at h6
     dsimp only at *
     omega
   ·cases e;exact ⟨h1,by dsimp only at *;omega⟩
theorem group_bd {α:Type} {l:List UInt8} {F:Nat} {sub:PS→Except Flt (α×PS)} {txt:α→List UInt8} (hs:∀ s,Gp l s→Bd 8 l (fun x=>(txt x).length) (sub s) s) {s:PS} (h:Gp l s):Bd 16 l (fun xs=>sumLen (xs.map txt)) (groupL l F sub s) s:=fun y e=>by
 unfold groupL at e
 cases hp:passL l [[40]] s with
 | error g=>rw [thenL_err hp] at e;cases e
 | ok z=>
  rw [thenL_ok hp] at e
  obtain ⟨h1,h2⟩:=pass_bd (zs:=[[40]]) h (by decide) z hp
  cases hq:sub z.2 with
  | error g=>rw [thenL_err hq] at e;cases e
  | ok x=>
   rw [thenL_ok hq] at e
   obtain ⟨h3,h4⟩:=hs z.2 h1 x hq
   obtain ⟨h5,h6⟩:=groupMore_bd hs F _ x.2 h3 y e
   refine ⟨h5,?_⟩
   rw [List.map_cons,List.map_nil,sumLen_one] at h6
   dsimp only at *
   omega
theorem itoaL_len (n:Nat) (h:n≤2147483647):(itoaL n).length≤21:=by
 have:=Lib.itoa_length_le n (by omega) (by omega)
 rw [Lib.itoa_nonneg] at this
 exact this
theorem size_bd {l:List UInt8} {pos:Nat} {s:PS} (h:Gp l s):∀ y,sizeL l pos s=.ok y→Gp l y.2∧64*ph l y.2+16≤64*ph l s∧y.1.kind=9∧y.1.num≤2147483647:=fun y e=>by
 unfold sizeL at e
 cases hp:passL l [tOver,tUnder] s with
 | error g=>rw [thenL_err hp] at e;cases e
 | ok z=>
  rw [thenL_ok hp] at e
  obtain ⟨h1,h2⟩:=pass_bd (zs:=[tOver,tUnder]) h (by decide) z hp
  split at e
  ·rename_i hk
   cases hn:nextL l z.2.2 with
   | error g=>rw [nextThen_err hn] at e;cases e
   | ok x=>
    rw [nextThen_ok hn] at e
    obtain ⟨g1,g2⟩:=gp_next h1 (by omega) hn
    cases e
    exact ⟨g1,by dsimp only at *;omega,rfl,h1.num⟩
  ·cases e
theorem match_kind {l:List UInt8} {F:Nat} {chk:List UInt8→Nat} {k pos:Nat} {s:PS} {y:TLab×PS} (h:matchL l F chk k pos s=.ok y):y.1.kind=k:=by
 unfold matchL at h
 cases h1:optL l F 0 false false s with
 | error f=>rw [thenL_err h1] at h;cases h
 | ok a=>
  rw [thenL_ok h1] at h
  cases h2:stringsL l chk F a.2 with
  | error f=>rw [thenL_err h2] at h;cases h
  | ok c=>
   rw [thenL_ok h2] at h
   cases h3:stringsL l (fun _=>0) F c.2 with
   | error f=>rw [thenL_err h3] at h;cases h
   | ok e=>rw [thenL_ok h3] at h;cases h;rfl
theorem testNode_5 (x:TLab) (ts:List (List UInt8)) (h:x.kind=5):testNode x ts=matchTxt kHeader x:=by simp only [testNode,h]
theorem testNode_6 (x:TLab) (ts:List (List UInt8)) (h:x.kind=6):testNode x ts=matchTxt kEnvelope x:=by simp only [testNode,h]
theorem testNode_7 (x:TLab) (ts:List (List UInt8)) (h:x.kind=7):testNode x ts=matchTxt kString x:=by simp only [testNode,h]
theorem testNode_9 (x:TLab) (ts:List (List UInt8)) (h:x.kind=9):testNode x ts=phraseL [kSize,tagTextL x.tag [tOver,tUnder],itoaL x.num]:=by simp only [testNode,h]
theorem testBody_bd (n:Nat) {l:List UInt8} {F:Nat} {sub:PS→Except Flt (TestT n×PS)} (hs:∀ s,Gp l s→Bd 8 l (fun x=>(testTxt n x).length) (sub s) s) (k pos:Nat) {s:PS} (h:Gp l s):∀ y,testBody l F sub k pos s=.ok y→Gp l y.2∧(testTxt (n+1) y.1).length+64*ph l y.2≤56+64*ph l s:=by
 intro y e
 have hg:∀ (hw:List UInt8) (ts:List (List UInt8)),hw.length≤8→(groupTxt hw ts).length≤12+sumLen ts:=fun hw ts hl=>by
  have:=joinL_len ts
  simp only [groupTxt,List.length_append,List.length_cons,List.length_nil]
  omega
 unfold testBody at e
 split at e
 ·cases e;exact ⟨h,by show (4:Nat)+64*ph l s≤_;omega⟩
 ·cases e;exact ⟨h,by show (5:Nat)+64*ph l s≤_;omega⟩
 ·cases hq:sub s with
  | error g=>rw [thenL_err hq] at e;cases e
  | ok x=>
   rw [thenL_ok hq] at e
   obtain ⟨h1,h2⟩:=hs s h x hq
   cases e
   refine ⟨h1,?_⟩
   show (phraseL [kNot,testTxt n x.1]).length+64*ph l x.2≤_
   have:=phraseL_len [kNot,testTxt n x.1]
   simp only [plainLen,List.map_cons,List.map_nil,List.sum_cons,List.sum_nil,show kNot.length=3 from rfl] at this
   dsimp only at *
   omega
 ·cases hq:groupL l F sub s with
  | error g=>rw [thenL_err hq] at e;cases e
  | ok x=>
   rw [thenL_ok hq] at e
   obtain ⟨h1,h2⟩:=group_bd hs h x hq
   cases e
   refine ⟨h1,?_⟩
   show (groupTxt kAllof (x.1.map (testTxt n))).length+64*ph l x.2≤_
   have:=hg kAllof (x.1.map (testTxt n)) (by decide)
   dsimp only at *
   omega
 ·cases hq:groupL l F sub s with
  | error g=>rw [thenL_err hq] at e;cases e
  | ok x=>
   rw [thenL_ok hq] at e
   obtain ⟨h1,h2⟩:=group_bd hs h x hq
   cases e
   refine ⟨h1,?_⟩
   show (groupTxt kAnyof (x.1.map (testTxt n))).length+64*ph l x.2≤_
   have:=hg kAnyof (x.1.map (testTxt n)) (by decide)
   dsimp only at *
   omega
 ·cases hq:matchL l F (fun _=>0) 5 pos s with
  | error g=>rw [thenL_err hq] at e;cases e
  | ok x=>
   rw [thenL_ok hq] at e
   obtain ⟨h1,h2⟩:=match_bd h x hq
   have h3:=match_kind hq
   cases e
   refine ⟨h1,?_⟩
   show (testNode x.1 []).length+64*ph l x.2≤_
   have:=matchTxt_len kHeader x.1 (by decide)
   rw [testNode_5 _ _ h3]
   dsimp only at *
   omega
 ·cases hq:matchL l F (fun x=>if 0 < whichL [kFrom,kTo] (smallL x) then 0 else 7) 6 pos s with
  | error g=>rw [thenL_err hq] at e;cases e
  | ok x=>
   rw [thenL_ok hq] at e
   obtain ⟨h1,h2⟩:=match_bd h x hq
   have h3:=match_kind hq
   cases e
   refine ⟨h1,?_⟩
   show (testNode x.1 []).length+64*ph l x.2≤_
   have:=matchTxt_len kEnvelope x.1 (by decide)
   rw [testNode_6 _ _ h3]
   dsimp only at *
   omega
 ·cases hq:matchL l F (fun _=>0) 7 pos s with
  | error g=>rw [thenL_err hq] at e;cases e
  | ok x=>
   rw [thenL_ok hq] at e
   obtain ⟨h1,h2⟩:=match_bd h x hq
   have h3:=match_kind hq
   cases e
   refine ⟨h1,?_⟩
   show (testNode x.1 []).length+64*ph l x.2≤_
   have:=matchTxt_len kString x.1 (by decide)
   rw [testNode_7 _ _ h3]
   dsimp only at *
   omega
 ·cases hq:stringsL l (fun _=>0) F s with
  | error g=>rw [thenL_err hq] at e;cases e
  | ok x=>
   rw [thenL_ok hq] at e
   obtain ⟨h1,h2⟩:=strings_bd h x hq
   cases e
   refine ⟨h1,?_⟩
   show (phraseL [kExists,quotesL x.1]).length+64*ph l x.2≤_
   have h3:=phraseL_len [kExists,quotesL x.1]
   have h4:=quotesL_len x.1
   simp only [plainLen,List.map_cons,List.map_nil,List.sum_cons,List.sum_nil,show kExists.length=6 from rfl] at h3
   omega
 ·cases hq:sizeL l pos s with
  | error g=>rw [thenL_err hq] at e;cases e
  | ok x=>
   rw [thenL_ok hq] at e
   obtain ⟨h1,h2,h3,h4⟩:=size_bd h x hq
   cases e
   refine ⟨h1,?_⟩
   show (testNode x.1 []).length+64*ph l x.2≤_
   have h5:=phraseL_len [kSize,tagTextL x.1.tag [tOver,tUnder],itoaL x.1.num]
   have h6:=tagTextL_len x.1.tag [tOver,tUnder] 6 (by decide)
   have h7:=itoaL_len x.1.num h4
   simp only [plainLen,List.map_cons,List.map_nil,List.sum_cons,List.sum_nil,show kSize.length=4 from rfl] at h5
   rw [testNode_9 _ _ h3]
   omega
theorem test_bd {l:List UInt8} {req:List (List UInt8)} {F:Nat}:∀ (n:Nat) (s:PS),Gp l s→Bd 8 l (fun x=>(testTxt n x).length) (testL l req F n s) s
 | 0,s,h=>by
  rw [testL]
  split <;> exact Bd.err
 | n+1,s,h=>fun y e=>by
  rw [testL] at e
  by_cases h0:whichL testNames s.1.spelt=0
  ·rw [if_pos h0] at e;cases e
  ·rw [if_neg h0] at e
   cases hu:useOk req s.1.spelt
   ·rw [hu,if_neg (by decide)] at e;cases e
   ·rw [hu,if_pos rfl] at e
    cases hn:nextL l s.2 with
    | error g=>cases (nextThen_err hn).symm.trans e
    | ok z=>
     replace e:=(nextThen_ok hn).symm.trans e
     obtain ⟨g1,g2⟩:=gp_next h (gp_kind (zs:=testNames) h (by decide) h0) hn
     obtain ⟨g3,g4⟩:=testBody_bd n (fun s g=>test_bd n s g) _ _ g1 y e
     exact ⟨g3,by dsimp only at *;omega⟩
def costs {α:Type} (c:α→Nat) (xs:List α):Nat:=(xs.map c).sum
theorem costs_snoc {α:Type} (c:α→Nat) (xs:List α) (x:α):costs c (xs++[x])=costs c xs+c x:=by simp [costs]
theorem linesL_len {α:Type} (txt:α→List UInt8→List UInt8) (i:List UInt8):∀ cs:List α,(linesL txt cs i).length=costs (fun c=>i.length+(txt c i).length+1) cs
 | []=>rfl
 | c :: r=>by
  have:=linesL_len txt i r
  simp only [linesL,costs,List.flatMap_cons,List.length_append,List.map_cons,List.sum_cons,List.length_cons,List.length_nil] at this ⊢
  omega
def Ct {α:Type} (k:Nat) (l:List UInt8) (c:α→Nat) (r:Except Flt (α×PS)) (s:PS):Prop:=∀ y,r=.ok y→Gp l y.2∧c y.1+k+64*ph l y.2≤64*ph l s
theorem blockMore_bd {α:Type} {l:List UInt8} {sub:PS→Except Flt (α×PS)} {c:α→Nat} (hs:∀ s,Gp l s→Ct 0 l c (sub s) s):∀ (f:Nat) (acc:List α) (s:PS),Gp l s→∀ y,blockMore l sub f acc s=.ok y→Gp l y.2∧costs c y.1+64*ph l y.2≤costs c acc+64*ph l s
 | 0,acc,s,h=>fun y e=>by cases e;exact ⟨h,Nat.le_refl _⟩
 | f+1,acc,s,h=>fun y e=>by
  rw [blockMore] at e
  cases hp:mayL l [[125]] s with
  | error g=>rw [thenL_err hp] at e;cases e
  | ok z=>
   rw [thenL_ok hp] at e
   obtain ⟨h1,h2⟩:=may_bd (zs:=[[125]]) h (by decide) z hp
   split at e
   ·cases hq:sub z.2 with
    | error g=>rw [thenL_err hq] at e;cases e
    | ok x=>
     rw [thenL_ok hq] at e
     obtain ⟨h3,h4⟩:=hs z.2 h1 x hq
     obtain ⟨h5,h6⟩:=blockMore_bd hs f _ x.2 h3 y e
     refine ⟨h5,?_⟩
     rw [costs_snoc] at h6
     dsimp only at *
     omega
   ·cases e;exact ⟨h1,by dsimp only at *;omega⟩
theorem block_bd {α:Type} {l:List UInt8} {F:Nat} {sub:PS→Except Flt (α×PS)} {c:α→Nat} (hs:∀ s,Gp l s→Ct 0 l c (sub s) s) {s:PS} (h:Gp l s):Ct 64 l (costs c) (blockL l F sub s) s:=fun y e=>by
 unfold blockL at e
 cases hp:passL l [[123]] s with
 | error g=>rw [thenL_err hp] at e;cases e
 | ok z=>
  rw [thenL_ok hp] at e
  obtain ⟨h1,h2⟩:=pass_bd (zs:=[[123]]) h (by decide) z hp
  obtain ⟨h5,h6⟩:=blockMore_bd hs F _ z.2 h1 y e
  refine ⟨h5,?_⟩
  have:costs c ([]:List α)=0:=rfl
  dsimp only at *
  omega
theorem arm_bd {α β:Type} {l:List UInt8} {F:Nat} {tst:PS→Except Flt (β×PS)} {sub:PS→Except Flt (α×PS)} {ct:β→Nat} {c:α→Nat} (ht:∀ s,Gp l s→Ct 0 l ct (tst s) s) (hs:∀ s,Gp l s→Ct 0 l c (sub s) s) {s:PS} (h:Gp l s):Ct 0 l (fun a=>64+ct a.1+costs c a.2) (armL l F tst sub s) s:=fun y e=>by
 unfold armL at e
 cases hp:tst s with
 | error g=>rw [thenL_err hp] at e;cases e
 | ok z=>
  rw [thenL_ok hp] at e
  obtain ⟨h1,h2⟩:=ht s h z hp
  cases hq:blockL l F sub z.2 with
  | error g=>rw [thenL_err hq] at e;cases e
  | ok x=>
   rw [thenL_ok hq] at e
   obtain ⟨h3,h4⟩:=block_bd hs h1 x hq
   cases e
   exact ⟨h3,by dsimp only at *;omega⟩
theorem arms_bd {α β:Type} {l:List UInt8} {F:Nat} {tst:PS→Except Flt (β×PS)} {sub:PS→Except Flt (α×PS)} {ct:β→Nat} {c:α→Nat} (ht:∀ s,Gp l s→Ct 0 l ct (tst s) s) (hs:∀ s,Gp l s→Ct 0 l c (sub s) s):∀ (f:Nat) (acc:List (β×List α)) (s:PS),Gp l s→∀ y,armsMore l F tst sub f acc s=.ok y→Gp l y.2∧costs (fun a=>64+ct a.1+costs c a.2) y.1+64*ph l y.2≤costs (fun a=>64+ct a.1+costs c a.2) acc+64*ph l s
 | 0,acc,s,h=>fun y e=>by cases e;exact ⟨h,Nat.le_refl _⟩
 | f+1,acc,s,h=>fun y e=>by
  rw [armsMore] at e
  cases hp:mayL l [kElsif] s with
  | error g=>rw [thenL_err hp] at e;cases e
  | ok z=>
   rw [thenL_ok hp] at e
   obtain ⟨h1,h2⟩:=may_bd (zs:=[kElsif]) h (by decide) z hp
   split at e
   ·cases e;exact ⟨h1,by dsimp only at *;omega⟩
   ·cases hq:armL l F tst sub z.2 with
    | error g=>rw [thenL_err hq] at e;cases e
    | ok x=>
     rw [thenL_ok hq] at e
     obtain ⟨h3,h4⟩:=arm_bd ht hs h1 x hq
     obtain ⟨h5,h6⟩:=arms_bd ht hs f _ x.2 h3 y e
     refine ⟨h5,?_⟩
     rw [costs_snoc] at h6
     dsimp only at *
     omega
theorem armTxt_len (word i t b:List UInt8) (hw:word.length≤7) (hi:i.length≤14):(armTxt word i t b).length≤32+t.length+b.length:=by
 have:=phraseL_len [word,t,openB]
 simp only [plainLen,List.map_cons,List.map_nil,List.sum_cons,List.sum_nil,show openB.length=2 from rfl] at this
 simp only [armTxt,List.length_append]
 omega
theorem armsTxt_len (i:List UInt8) (hi:i.length≤14):∀ (as:List (List UInt8×List UInt8)) (word:List UInt8),word.length≤7→(armsTxt i word as).length≤costs (fun a=>32+a.1.length+a.2.length) as
 | [],word,_=>by simp [armsTxt,costs]
 | a :: r,word,hw=>by
  have h1:=armTxt_len word i a.1 a.2 hw hi
  have h2:=armsTxt_len i hi r kElsifB (by decide)
  simp only [armsTxt,costs,List.length_append,List.map_cons,List.sum_cons] at h2 ⊢
  omega
theorem costs_map_le {α β:Type} (f:α→β) (c:β→Nat) (d:α→Nat) (h:∀ a,c (f a)≤d a):∀ xs:List α,costs c (xs.map f)≤costs d xs
 | []=>Nat.le_refl _
 | x :: r=>by
  have h1:=costs_map_le f c d h r
  have h2:=h x
  simp only [costs,List.map_cons,List.sum_cons,List.map_map] at h1 ⊢
  omega
def cmdCost (n:Nat) (i:List UInt8) (x:CmdT n):Nat:=i.length+(cmdTxt n x i).length+1
theorem semi_bd {α:Type} {l:List UInt8} {s:PS} {a:α} (h:Gp l s):∀ y,semi l s a=.ok y→y.1=a∧Gp l y.2∧64*ph l y.2≤64*ph l s:=fun y e=>by
 unfold semi at e
 cases hp:passL l [[59]] s with
 | error g=>rw [thenL_err hp] at e;cases e
 | ok z=>
  rw [thenL_ok hp] at e
  obtain ⟨h1,h2⟩:=pass_bd (zs:=[[59]]) h (by decide) z hp
  cases e
  exact ⟨rfl,h1,by dsimp only at *;omega⟩
theorem smallL_quoted (x:List UInt8):(quotedL (smallL x)).length≤2*x.length+2:=by
 have:=quotedL_len (smallL x)
 simpa [smallL] using this
theorem string_said {l:List UInt8} {chk:List UInt8→Nat} {s:PS} (h:Gp l s):∀ y,stringL l chk s=.ok y→2*y.1.length+2+32+64*ph l y.2≤64*ph l s:=fun y e=>by
 unfold stringL at e
 split at e
 ·rename_i hk
  split at e
  ·cases hn:nextL l s.2 with
   | error f=>rw [hn] at e;cases e
   | ok s'=>
    rw [hn] at e;cases e
    obtain ⟨h1,h2⟩:=nextL_gp h hn
    have h3:=h.said hk
    have h4:=h.le
    have h5:=h1.le
    have h6:=h1.lt
    have h8:=h.lt
    show 2*s.1.said.length+2+32+64*ph l s'≤64*ph l s
    unfold ph
    omega
  ·cases e
 ·cases e
theorem cmdBody_bd (n:Nat) {l:List UInt8} {F:Nat} {tst:PS→Except Flt (TestT n×PS)} {sub:PS→Except Flt (CmdT n×PS)} (i:List UInt8) (hi:i.length≤14) (ht:∀ s,Gp l s→Ct 0 l (fun x=>(testTxt n x).length) (tst s) s) (hs:∀ s,Gp l s→Ct 0 l (cmdCost n (i++[32,32])) (sub s) s) (k pos:Nat) {s:PS} (h:Gp l s):∀ y,cmdBody l F tst sub k pos s=.ok y→Gp l y.2∧cmdCost (n+1) i y.1+64*ph l y.2≤64+64*ph l s:=by
 intro y e
 unfold cmdBody at e
 split at e
 ·obtain ⟨e1,h1,h2⟩:=semi_bd h y e
  refine ⟨h1,?_⟩
  rw [e1]
  show i.length+5+1+64*ph l y.2≤_
  omega
 ·obtain ⟨e1,h1,h2⟩:=semi_bd h y e
  refine ⟨h1,?_⟩
  rw [e1]
  show i.length+8+1+64*ph l y.2≤_
  omega
 ·obtain ⟨e1,h1,h2⟩:=semi_bd h y e
  refine ⟨h1,?_⟩
  rw [e1]
  show i.length+5+1+64*ph l y.2≤_
  omega
 ·cases hq:stringL l (fun _=>0) s with
  | error g=>rw [thenL_err hq] at e;cases e
  | ok x=>
   rw [thenL_ok hq] at e
   obtain ⟨g1,g2⟩:=string_bd h x hq
   obtain ⟨e1,h1,h2⟩:=semi_bd g1 y e
   refine ⟨h1,?_⟩
   rw [e1]
   show i.length+(phraseL [kFileinto,quotedL x.1]++[59]).length+1+64*ph l y.2≤_
   have h3:=phraseL_len [kFileinto,quotedL x.1]
   simp only [plainLen,List.map_cons,List.map_nil,List.sum_cons,List.sum_nil,show kFileinto.length=8 from rfl] at h3
   simp only [List.length_append,List.length_cons,List.length_nil]
   dsimp only at g2
   omega
 ·cases hq:stringL l (fun _=>0) s with
  | error g=>rw [thenL_err hq] at e;cases e
  | ok x=>
   rw [thenL_ok hq] at e
   obtain ⟨g1,g2⟩:=string_bd h x hq
   obtain ⟨e1,h1,h2⟩:=semi_bd g1 y e
   refine ⟨h1,?_⟩
   rw [e1]
   show i.length+(phraseL [kRedirect,quotedL x.1]++[59]).length+1+64*ph l y.2≤_
   have h3:=phraseL_len [kRedirect,quotedL x.1]
   simp only [plainLen,List.map_cons,List.map_nil,List.sum_cons,List.sum_nil,show kRedirect.length=8 from rfl] at h3
   simp only [List.length_append,List.length_cons,List.length_nil]
   dsimp only at g2
   omega
 ·cases hq:stringL l (fun _=>0) s with
  | error g=>rw [thenL_err hq] at e;cases e
  | ok x=>
   rw [thenL_ok hq] at e
   obtain ⟨g1,g2⟩:=string_bd h x hq
   obtain ⟨e1,h1,h2⟩:=semi_bd g1 y e
   refine ⟨h1,?_⟩
   rw [e1]
   show i.length+(phraseL [kReject,quotedL x.1]++[59]).length+1+64*ph l y.2≤_
   have h3:=phraseL_len [kReject,quotedL x.1]
   simp only [plainLen,List.map_cons,List.map_nil,List.sum_cons,List.sum_nil,show kReject.length=6 from rfl] at h3
   simp only [List.length_append,List.length_cons,List.length_nil]
   dsimp only at g2
   omega
 ·cases hm:mayL l [tLower,tUpper,tLength] s with
  | error g=>rw [thenL_err hm] at e;cases e
  | ok m=>
   rw [thenL_ok hm] at e
   obtain ⟨g0,g0'⟩:=may_bd (zs:=[tLower,tUpper,tLength]) h (by decide) m hm
   cases hv:stringL l (fun x=>if isNameL x then 0 else 7) m.2 with
   | error g=>rw [thenL_err hv] at e;cases e
   | ok v=>
    rw [thenL_ok hv] at e
    obtain ⟨g3,g4⟩:=string_bd g0 v hv
    have g5:=string_said g0 v hv
    cases hq:stringL l (fun _=>0) v.2 with
    | error g=>rw [thenL_err hq] at e;cases e
    | ok x=>
     rw [thenL_ok hq] at e
     obtain ⟨g1,g2⟩:=string_bd g3 x hq
     obtain ⟨e1,h1,h2⟩:=semi_bd g1 y e
     refine ⟨h1,?_⟩
     rw [e1]
     show i.length+(phraseL [kSet,tagTextL m.1 [tLower,tUpper,tLength],quotedL (smallL v.1),quotedL x.1]++[59]).length+1+64*ph l y.2≤_
     have h3:=phraseL_len [kSet,tagTextL m.1 [tLower,tUpper,tLength],quotedL (smallL v.1),quotedL x.1]
     have h4:=tagTextL_len m.1 [tLower,tUpper,tLength] 7 (by decide)
     have h5:=smallL_quoted v.1
     simp only [plainLen,List.map_cons,List.map_nil,List.sum_cons,List.sum_nil,show kSet.length=3 from rfl] at h3
     simp only [List.length_append,List.length_cons,List.length_nil]
     dsimp only at g2 g0' g4
     omega
 ·cases ha:armL l F tst sub s with
  | error g=>rw [thenL_err ha] at e;cases e
  | ok a=>
   rw [thenL_ok ha] at e
   obtain ⟨g1,g2⟩:=arm_bd ht hs h a ha
   cases hb:armsMore l F tst sub F [a.1] a.2 with
   | error g=>rw [thenL_err hb] at e;cases e
   | ok bb=>
    rw [thenL_ok hb] at e
    obtain ⟨g3,g4⟩:=arms_bd ht hs F _ a.2 g1 bb hb
    have hone:costs (fun a:TestT n×List (CmdT n)=>64+(testTxt n a.1).length+costs (cmdCost n (i++[32,32])) a.2) [a.1]=64+(testTxt n a.1.1).length+costs (cmdCost n (i++[32,32])) a.1.2:=by simp [costs]
    cases hm:mayL l [kElse] bb.2 with
    | error g=>rw [thenL_err hm] at e;cases e
    | ok m=>
     rw [thenL_ok hm] at e
     obtain ⟨g5,g6⟩:=may_bd (zs:=[kElse]) g3 (by decide) m hm
     have hA:(armsTxt i kIf (bb.1.map fun a:TestT n×List (CmdT n)=>(testTxt n a.1,linesL (cmdTxt n) a.2 (i++[32,32])))).length≤costs (fun a:TestT n×List (CmdT n)=>64+(testTxt n a.1).length+costs (cmdCost n (i++[32,32])) a.2) bb.1:=by
      refine Nat.le_trans (armsTxt_len i hi _ kIf (by decide)) (costs_map_le _ _ _ (fun a=>?_) bb.1)
      dsimp only
      have:=linesL_len (cmdTxt n) (i++[32,32]) a.2
      rw [this]
      unfold cmdCost
      omega
     split at e
     ·cases e
      refine ⟨g5,?_⟩
      show i.length+(armsTxt i kIf (bb.1.map fun a:TestT n×List (CmdT n)=>(testTxt n a.1,linesL (cmdTxt n) a.2 (i++[32,32])))++(if false then elseB++linesL (cmdTxt n) [] (i++[32,32])++i else [])++[125]).length+1+64*ph l m.2≤_
      simp only [Bool.false_eq_true,if_false,List.length_append,List.length_cons,List.length_nil]
      dsimp only at *
      omega
     ·rename_i hm0
      cases hc:blockL l F sub m.2 with
      | error g=>rw [thenL_err hc] at e;cases e
      | ok cs=>
       rw [thenL_ok hc] at e
       obtain ⟨g7,g8⟩:=block_bd hs g5 cs hc
       cases e
       refine ⟨g7,?_⟩
       show i.length+(armsTxt i kIf (bb.1.map fun a:TestT n×List (CmdT n)=>(testTxt n a.1,linesL (cmdTxt n) a.2 (i++[32,32])))++(if true then elseB++linesL (cmdTxt n) cs.1 (i++[32,32])++i else [])++[125]).length+1+64*ph l cs.2≤_
       have hl:=linesL_len (cmdTxt n) (i++[32,32]) cs.1
       simp only [if_true,List.length_append,List.length_cons,List.length_nil,show elseB.length=9 from rfl] at hl ⊢
       rw [hl]
       have:costs (fun c=>i.length+(0+1+1)+(cmdTxt n c (i++[32,32])).length+1) cs.1=costs (cmdCost n (i++[32,32])) cs.1:=by
        congr 1
        funext c
        simp [cmdCost]
       dsimp only at *
       omega
theorem cmd_bd {l:List UInt8} {req:List (List UInt8)} {F:Nat}:∀ (n:Nat) (i:List UInt8),i.length+2*n≤14→∀ (s:PS),Gp l s→Ct 0 l (cmdCost n i) (cmdL l req F n s) s
 | 0,i,hi,s,h=>by
  rw [cmdL]
  split <;> exact fun y e=>by cases e
 | n+1,i,hi,s,h=>fun y e=>by
  rw [cmdL] at e
  by_cases h0:whichL cmdNames s.1.spelt=0
  ·rw [if_pos h0] at e;cases e
  ·rw [if_neg h0] at e
   cases hu:useOk req s.1.spelt
   ·rw [hu,if_neg (by decide)] at e;cases e
   ·rw [hu,if_pos rfl] at e
    cases hn:nextL l s.2 with
    | error g=>cases (nextThen_err hn).symm.trans e
    | ok z=>
     replace e:=(nextThen_ok hn).symm.trans e
     obtain ⟨g1,g2⟩:=gp_next h (gp_kind (zs:=cmdNames) h (by decide) h0) hn
     obtain ⟨g3,g4⟩:=cmdBody_bd n i (by omega) (fun s g y e=>by obtain ⟨a1,a2⟩:=test_bd n s g y e;exact ⟨a1,by dsimp only at *;omega⟩) (fun s g=>cmd_bd n (i++[32,32]) (by simp only [List.length_append,List.length_cons,List.length_nil];omega) s g) _ _ g1 y e
     exact ⟨g3,by omega⟩
theorem addReq_len (req:List (List UInt8)) (x:List UInt8):qLen (addReq req x)≤qLen req+(quotedL x).length+2:=by
 unfold addReq
 split
 ·omega
 ·unfold qLen;rw [List.map_append,sumLen_append,List.map_cons,List.map_nil,sumLen_one];omega
theorem foldReq_len:∀ (xs req:List (List UInt8)),qLen (xs.foldl addReq req)≤qLen req+qLen xs
 | [],req=>by simp
 | x :: r,req=>by
  have h1:=foldReq_len r (addReq req x)
  have h2:=addReq_len req x
  have h3:qLen (x :: r)=(quotedL x).length+2+qLen r:=by unfold qLen;rw [List.map_cons,sumLen_cons]
  rw [List.foldl_cons]
  omega
theorem reqMore_bd {l:List UInt8} {F:Nat}:∀ (f:Nat) (req:List (List UInt8)) (s:PS),Gp l s→∀ y,reqMore l F f req s=.ok y→Gp l y.2∧qLen y.1+64*ph l y.2≤qLen req+64*ph l s
 | 0,req,s,h=>fun y e=>by cases e;exact ⟨h,Nat.le_refl _⟩
 | f+1,req,s,h=>fun y e=>by
  rw [reqMore] at e
  cases hp:mayL l [kRequire] s with
  | error g=>rw [thenL_err hp] at e;cases e
  | ok z=>
   rw [thenL_ok hp] at e
   obtain ⟨h1,h2⟩:=may_bd (zs:=[kRequire]) h (by decide) z hp
   split at e
   ·cases e;exact ⟨h1,by dsimp only at *;omega⟩
   ·cases hq:stringsL l (fun x=>if 0 < whichL [kEnvelope,kFileinto,kReject,kVariables] x then 0 else 6) F z.2 with
    | error g=>rw [thenL_err hq] at e;cases e
    | ok x=>
     rw [thenL_ok hq] at e
     obtain ⟨h3,h4⟩:=strings_bd h1 x hq
     cases hr:passL l [[59]] x.2 with
     | error g=>rw [thenL_err hr] at e;cases e
     | ok v=>
      rw [thenL_ok hr] at e
      obtain ⟨h5,h6⟩:=pass_bd (zs:=[[59]]) h3 (by decide) v hr
      obtain ⟨h7,h8⟩:=reqMore_bd f _ v.2 h5 y e
      have h9:=foldReq_len x.1 req
      refine ⟨h7,?_⟩
      dsimp only at *
      omega
theorem cmdsMore_bd {α:Type} {l:List UInt8} {sub:PS→Except Flt (α×PS)} {c:α→Nat} (hs:∀ s,Gp l s→Ct 0 l c (sub s) s):∀ (f:Nat) (acc:List α) (s:PS),Gp l s→∀ y,cmdsMore sub f acc s=.ok y→costs c y≤costs c acc+64*ph l s
 | 0,acc,s,h=>fun y e=>by cases e;omega
 | f+1,acc,s,h=>fun y e=>by
  rw [cmdsMore] at e
  split at e
  ·cases e;omega
  ·cases hq:sub s with
   | error g=>rw [hq] at e;cases e
   | ok x=>
    rw [hq] at e
    obtain ⟨h3,h4⟩:=hs s h x hq
    have h6:=cmdsMore_bd hs f _ x.2 h3 y e
    rw [costs_snoc] at h6
    omega
theorem textL_len {l:List UInt8} {y:List (List UInt8)×List (CmdT 7)} (h:parseL l=.ok y):(textL y).length≤64*l.length+64:=by
 unfold parseL at h
 dsimp only at h
 generalize 2*l.length+10=F at h
 cases h1:nextL l 0 with
 | error f=>rw [h1] at h;cases h
 | ok s=>
  rw [h1] at h
  dsimp only at h
  have hg:Gp l s:=by
   unfold nextL at h1
   cases hs:skipF (l.length+1) (l.drop 0) 0 with
   | error f=>rw [hs] at h1;cases h1
   | ok n=>
    rw [hs] at h1
    exact (scanL_gp l n (skipF_le l _ 0 n (Nat.zero_le _) hs).2 s h1).1
  cases h3:reqMore l F F [] s with
  | error f=>rw [h3] at h;cases h
  | ok z=>
   rw [h3] at h
   dsimp only at h
   obtain ⟨g1,g2⟩:=reqMore_bd F [] s hg z h3
   cases h4:cmdsMore (cmdL l z.1 F 7) F [] z.2 with
   | error f=>rw [h4] at h;cases h
   | ok cs=>
    rw [h4] at h
    have g3:=cmdsMore_bd (c:=cmdCost 7 []) (fun s g=>cmd_bd 7 [] (by decide) s g) F [] z.2 g1 cs h4
    cases h
    have g4:=linesL_len (cmdTxt 7) [] cs
    have g5:costs (fun c=>([]:List UInt8).length+(cmdTxt 7 c []).length+1) cs=costs (cmdCost 7 []) cs:=rfl
    have g6:(requireTxt z.1).length≤qLen z.1+12:=by
     unfold requireTxt
     split
     ·simp
     ·have:=quotesL_len z.1
      simp only [List.length_append,List.length_cons,List.length_nil,show kRequire.length=7 from rfl]
      omega
    have g7:qLen ([]:List (List UInt8))=0:=rfl
    have g8:costs (cmdCost 7 []) ([]:List (CmdT 7))=0:=rfl
    have g9:ph l s≤l.length:=by unfold ph;omega
    show (requireTxt z.1++linesL (cmdTxt 7) cs []).length≤_
    rw [List.length_append]
    omega
structure WfT (req:List (List UInt8)) (x:TLab) (m:Nat):Prop where
 kind:x.kind≤9
 use:useOk req (testNames.getD x.kind [])=true
 one:x.kind=2→m=1
 many:x.kind=3∨x.kind=4→0 < m
 leaf:x.kind≤1∨5≤x.kind→m=0
 tag:5≤x.kind→x.kind≤7→1≤x.tag∧x.tag≤3
 frm:5≤x.kind→x.kind≤8→x.fr≠[]
 keys:5≤x.kind→x.kind≤7→x.keys≠[]
 env:x.kind=6→∀ z∈x.fr,0 < whichL [kFrom,kTo] (smallL z)
 size:x.kind=9→1≤x.tag∧x.tag≤2
 num:x.num≤2147483647
 num0:x.kind≠9→x.num=0
 tag0:x.kind≤4∨x.kind=8→x.tag=0
 oct0:x.kind≤4∨8≤x.kind→x.octet=false
 fr0:x.kind≤4∨x.kind=9→x.fr=[]
 keys0:x.kind≤4∨8≤x.kind→x.keys=[]
structure WfC (req:List (List UInt8)) (x:CLab) (a e:Nat):Prop where
 kind:x.kind≤7
 use:useOk req (cmdNames.getD x.kind [])=true
 tag:x.tag≤3
 tag0:x.kind≠6→x.tag=0
 arg0:x.kind≤2∨x.kind=7→x.arg=[]
 var0:x.kind≠6→x.var=[]
 var:x.kind=6→∃ v,isNameL v=true∧x.var=smallL v
 els0:x.kind≠7→x.els=false
 arms:x.kind=7→0 < a
 arms0:x.kind≠7→a=0
 else0:x.els=false→e=0
def allT (p:TLab→Nat→Prop):(n:Nat)→TestT n→Prop
 | 0,_=>False
 | n+1,x=>p x.1 x.2.length∧∀ a∈x.2,allT p n a
def allC (p:TLab→Nat→Prop) (q:CLab→Nat→Nat→Prop):(n:Nat)→CmdT n→Prop
 | 0,_=>False
 | n+1,x=>q x.1 x.2.1.length x.2.2.length∧(∀ a∈x.2.1,allT p n a.1∧∀ c∈a.2,allC p q n c)∧∀ c∈x.2.2,allC p q n c
theorem whichL_got:∀ (zs:List (List UInt8)) (x:List UInt8),¬ whichL zs x=0→zs.getD (whichL zs x - 1) []=x
 | [],x,h=>absurd rfl h
 | s :: r,x,h=>by
  unfold whichL at h ⊢
  split
  ·rename_i e;simp [e]
  ·rename_i e
   rw [if_neg e] at h
   split
   ·rename_i e0;rw [if_pos e0] at h;exact absurd rfl h
   ·rename_i e0
    have ih:=whichL_got r x e0
    have e1:whichL r x+1 - 1=(whichL r x - 1)+1:=by omega
    rw [e1]
    simpa using ih
def Has {α:Type} (P:α→Prop) (r:Except Flt (α×PS)):Prop:=∀ y,r=.ok y→P y.1
theorem string_has {l:List UInt8} {chk:List UInt8→Nat} {s:PS}:Has (fun x=>chk x=0) (stringL l chk s):=fun y e=>by
 unfold stringL at e
 split at e
 ·split at e
  ·rename_i hc
   cases hn:nextL l s.2 with
   | error f=>rw [hn] at e;cases e
   | ok s'=>rw [hn] at e;cases e;exact hc
  ·cases e
 ·cases e
theorem more_has {l:List UInt8} {chk:List UInt8→Nat}:∀ (f:Nat) (acc:List (List UInt8)) (s:PS),acc≠[]→(∀ z∈acc,chk z=0)→Has (fun xs=>xs≠[]∧∀ z∈xs,chk z=0) (moreL l chk f acc s)
 | 0,acc,s,h,hc=>fun y e=>by cases e;exact ⟨h,hc⟩
 | f+1,acc,s,h,hc=>fun y e=>by
  rw [moreL] at e
  cases hp:passL l [[44],[93]] s with
  | error g=>rw [hp] at e;cases e
  | ok z=>
   rw [hp] at e
   dsimp only at e
   split at e
   ·cases hs:stringL l chk z.2 with
    | error g=>rw [hs] at e;cases e
    | ok x=>
     rw [hs] at e
     have h1:=string_has x hs
     refine more_has f _ x.2 (by simp) (fun u hu=>?_) y e
     rcases List.mem_append.1 hu with hu | hu
     ·exact hc u hu
     ·rw [List.mem_singleton.1 hu];exact h1
   ·cases e;exact ⟨h,hc⟩
theorem strings_has {l:List UInt8} {chk:List UInt8→Nat} {F:Nat} {s:PS}:Has (fun xs=>xs≠[]∧∀ z∈xs,chk z=0) (stringsL l chk F s):=fun y e=>by
 unfold stringsL at e
 cases hm:mayL l [[91]] s with
 | error g=>rw [hm] at e;cases e
 | ok z=>
  rw [hm] at e
  dsimp only at e
  cases hs:stringL l chk z.2 with
  | error g=>rw [hs] at e;cases e
  | ok x=>
   rw [hs] at e
   have h1:=string_has x hs
   dsimp only at e
   split at e
   ·cases e;exact ⟨by simp,fun u hu=>by rw [List.mem_singleton.1 hu];exact h1⟩
   ·exact more_has F [x.1] x.2 (by simp) (fun u hu=>by rw [List.mem_singleton.1 hu];exact h1) y e
theorem pass_has {l:List UInt8} {zs:List (List UInt8)} {s:PS}:Has (fun i=>1≤i∧i≤zs.length) (passL l zs s):=fun y e=>by
 unfold passL at e
 split at e
 ·cases e
 ·rename_i h0
  cases hn:nextL l s.2 with
  | error f=>rw [hn] at e;cases e
  | ok s'=>rw [hn] at e;cases e;have:=whichL_le zs s.1.spelt;dsimp only;omega
theorem may_has {l:List UInt8} {zs:List (List UInt8)} {s:PS}:Has (fun i=>i≤zs.length) (mayL l zs s):=fun y e=>by
 unfold mayL at e
 split at e
 ·cases e;exact Nat.zero_le _
 ·cases hn:nextL l s.2 with
  | error f=>rw [hn] at e;cases e
  | ok s'=>rw [hn] at e;cases e;exact whichL_le zs s.1.spelt
theorem opt_has {l:List UInt8}:∀ (f tag:Nat) (oct cmp:Bool) (s:PS),Gp l s→ph l s < f→tag≤3→Has (fun o=>1≤o.1∧o.1≤3) (optL l f tag oct cmp s)
 | 0,tag,oct,cmp,s,h,hf,ht=>by omega
 | f+1,tag,oct,cmp,s,h,hf,ht=>fun y e=>by
  rw [optL] at e
  by_cases h1:whichL [tIs,tContains,tMatches] s.1.spelt=0
  ·rw [if_pos h1] at e
   by_cases h2:whichL [tComparator] s.1.spelt=0
   ·rw [if_pos h2] at e;cases e;dsimp only;omega
   ·rw [if_neg h2] at e
    cases cmp
    ·rw [if_neg (by decide)] at e
     cases hn:nextL l s.2 with
     | error g=>rw [nextThen_err hn] at e;cases e
     | ok z=>
      rw [nextThen_ok hn] at e
      obtain ⟨g1,g2⟩:=gp_next h (gp_kind (zs:=[tComparator]) h (by decide) h2) hn
      cases hs:stringL l (fun x=>if 0 < whichL [cOctet,cCasemap] x then 0 else 7) z with
      | error g=>rw [thenL_err hs] at e;cases e
      | ok x=>
       rw [thenL_ok hs] at e
       obtain ⟨g3,g4⟩:=string_bd g1 x hs
       exact opt_has f _ _ _ x.2 g3 (by omega) ht y e
    ·rw [if_pos rfl] at e;cases e
  ·rw [if_neg h1] at e
   by_cases h3:tag=0
   ·rw [if_pos h3] at e
    cases hn:nextL l s.2 with
    | error g=>rw [nextThen_err hn] at e;cases e
    | ok z=>
     rw [nextThen_ok hn] at e
     obtain ⟨g1,g2⟩:=gp_next h (gp_kind (zs:=[tIs,tContains,tMatches]) h (by decide) h1) hn
     exact opt_has f _ _ _ z g1 (by omega) (whichL_le [tIs,tContains,tMatches] s.1.spelt) y e
   ·rw [if_neg h3] at e;cases e
theorem match_has {l:List UInt8} {F:Nat} {chk:List UInt8→Nat} {k pos:Nat} {s:PS} (h:Gp l s) (hF:l.length < F):Has (fun x=>x=⟨k,pos,x.tag,x.octet,x.fr,x.keys,0⟩∧1≤x.tag∧x.tag≤3∧x.fr≠[]∧x.keys≠[]∧∀ z∈x.fr,chk z=0) (matchL l F chk k pos s):=fun y e=>by
 unfold matchL at e
 cases h1:optL l F 0 false false s with
 | error f=>rw [thenL_err h1] at e;cases e
 | ok a=>
  rw [thenL_ok h1] at e
  have g0:=opt_has F 0 false false s h (by unfold ph;omega) (by omega) a h1
  cases h2:stringsL l chk F a.2 with
  | error f=>rw [thenL_err h2] at e;cases e
  | ok c=>
   rw [thenL_ok h2] at e
   have g1:=strings_has c h2
   cases h3:stringsL l (fun _=>0) F c.2 with
   | error f=>rw [thenL_err h3] at e;cases e
   | ok d=>
    rw [thenL_ok h3] at e
    have g2:=strings_has d h3
    cases e
    exact ⟨rfl,g0.1,g0.2,g1.1,g2.1,g1.2⟩
theorem groupMore_has {α:Type} {l:List UInt8} {sub:PS→Except Flt (α×PS)} {P:α→Prop} (hg:∀ s,Gp l s→∀ y,sub s=.ok y→Gp l y.2) (hs:∀ s,Gp l s→Has P (sub s)):∀ (f:Nat) (acc:List α) (s:PS),Gp l s→acc≠[]→(∀ a∈acc,P a)→Has (fun xs=>xs≠[]∧∀ a∈xs,P a) (groupMore l sub f acc s)
 | 0,acc,s,g,h,hc=>fun y e=>by cases e;exact ⟨h,hc⟩
 | f+1,acc,s,g,h,hc=>fun y e=>by
  rw [groupMore] at e
  cases hp:passL l [[44],[41]] s with
  | error g=>rw [thenL_err hp] at e;cases e
  | ok z=>
   rw [thenL_ok hp] at e
   obtain ⟨h1,h2⟩:=pass_bd (zs:=[[44],[41]]) g (by decide) z hp
   split at e
   ·cases hq:sub z.2 with
    | error g=>rw [thenL_err hq] at e;cases e
    | ok x=>
     rw [thenL_ok hq] at e
     refine groupMore_has hg hs f _ x.2 (hg _ h1 x hq) (by simp) (fun u hu=>?_) y e
     rcases List.mem_append.1 hu with hu | hu
     ·exact hc u hu
     ·rw [List.mem_singleton.1 hu];exact hs _ h1 x hq
   ·cases e;exact ⟨h,hc⟩
theorem group_has {α:Type} {l:List UInt8} {F:Nat} {sub:PS→Except Flt (α×PS)} {P:α→Prop} (hg:∀ s,Gp l s→∀ y,sub s=.ok y→Gp l y.2) (hs:∀ s,Gp l s→Has P (sub s)) {s:PS} (h:Gp l s):Has (fun xs=>xs≠[]∧∀ a∈xs,P a) (groupL l F sub s):=fun y e=>by
 unfold groupL at e
 cases hp:passL l [[40]] s with
 | error g=>rw [thenL_err hp] at e;cases e
 | ok z=>
  rw [thenL_ok hp] at e
  obtain ⟨h1,h2⟩:=pass_bd (zs:=[[40]]) h (by decide) z hp
  cases hq:sub z.2 with
  | error g=>rw [thenL_err hq] at e;cases e
  | ok x=>
   rw [thenL_ok hq] at e
   exact groupMore_has hg hs F [x.1] x.2 (hg _ h1 x hq) (by simp) (fun u hu=>by rw [List.mem_singleton.1 hu];exact hs _ h1 x hq) y e
theorem testBody_has (n:Nat) {l:List UInt8} {req:List (List UInt8)} {F:Nat} {sub:PS→Except Flt (TestT n×PS)} (hF:l.length < F) (hg:∀ s,Gp l s→∀ y,sub s=.ok y→Gp l y.2) (hs:∀ s,Gp l s→Has (allT (WfT req) n) (sub s)) (k pos:Nat) (hk:k≤9) (hu:useOk req (testNames.getD k [])=true) {s:PS} (h:Gp l s):Has (fun x:TLab×List (TestT n)=>WfT req x.1 x.2.length∧∀ a∈x.2,allT (WfT req) n a) (testBody l F sub k pos s):=fun y e=>by
 unfold testBody at e
 split at e
 ·cases e;exact ⟨by constructor <;> simp <;> (first | exact hu | skip),by simp⟩
 ·cases e;exact ⟨by constructor <;> simp <;> (first | exact hu | skip),by simp⟩
 ·cases hq:sub s with
  | error g=>rw [thenL_err hq] at e;cases e
  | ok x=>
   rw [thenL_ok hq] at e
   cases e
   exact ⟨by constructor <;> simp <;> (first | exact hu | skip),fun a ha=>by rw [List.mem_singleton.1 ha];exact hs _ h x hq⟩
 ·cases hq:groupL l F sub s with
  | error g=>rw [thenL_err hq] at e;cases e
  | ok x=>
   rw [thenL_ok hq] at e
   have h1:=group_has hg hs h x hq
   cases e
   exact ⟨by constructor <;> simp <;> (first | exact hu | exact List.length_pos_iff.2 h1.1 | skip),h1.2⟩
 ·cases hq:groupL l F sub s with
  | error g=>rw [thenL_err hq] at e;cases e
  | ok x=>
   rw [thenL_ok hq] at e
   have h1:=group_has hg hs h x hq
   cases e
   exact ⟨by constructor <;> simp <;> (first | exact hu | exact List.length_pos_iff.2 h1.1 | skip),h1.2⟩
 ·cases hq:matchL l F (fun _=>0) 5 pos s with
  | error g=>rw [thenL_err hq] at e;cases e
  | ok x=>
   rw [thenL_ok hq] at e
   obtain ⟨h1,h2,h3,h4,h5,h6⟩:=match_has h hF x hq
   cases e
   dsimp only
   rw [h1]
   exact ⟨by constructor <;> simp <;> (first | exact hu | exact ⟨h2,h3⟩ | assumption | skip),by simp⟩
 ·cases hq:matchL l F (fun x=>if 0 < whichL [kFrom,kTo] (smallL x) then 0 else 7) 6 pos s with
  | error g=>rw [thenL_err hq] at e;cases e
  | ok x=>
   rw [thenL_ok hq] at e
   obtain ⟨h1,h2,h3,h4,h5,h6⟩:=match_has h hF x hq
   have h7:∀ z∈x.1.fr,0 < whichL [kFrom,kTo] (smallL z):=fun z hz=>by
    have:=h6 z hz
    split at this
    ·assumption
    ·cases this
   cases e
   dsimp only
   rw [h1]
   exact ⟨by constructor <;> simp <;> (first | exact hu | exact ⟨h2,h3⟩ | assumption | skip),by simp⟩
 ·cases hq:matchL l F (fun _=>0) 7 pos s with
  | error g=>rw [thenL_err hq] at e;cases e
  | ok x=>
   rw [thenL_ok hq] at e
   obtain ⟨h1,h2,h3,h4,h5,h6⟩:=match_has h hF x hq
   cases e
   dsimp only
   rw [h1]
   exact ⟨by constructor <;> simp <;> (first | exact hu | exact ⟨h2,h3⟩ | assumption | skip),by simp⟩
 ·cases hq:stringsL l (fun _=>0) F s with
  | error g=>rw [thenL_err hq] at e;cases e
  | ok x=>
   rw [thenL_ok hq] at e
   have h1:=strings_has x hq
   cases e
   exact ⟨by constructor <;> simp <;> (first | exact hu | exact h1.1 | skip),by simp⟩
 ·rename_i h0 h1 h2 h3 h4 h5 h6 h7 h8
  cases hq:sizeL l pos s with
  | error g=>rw [thenL_err hq] at e;cases e
  | ok x=>
   rw [thenL_ok hq] at e
   have hk9:k=9:=by
    have a0:k≠0:=h0
    have a1:k≠1:=h1
    have a2:k≠2:=h2
    have a3:k≠3:=h3
    have a4:k≠4:=h4
    have a5:k≠5:=h5
    have a6:k≠6:=h6
    have a7:k≠7:=h7
    have a8:k≠8:=h8
    omega
   subst hk9
   unfold sizeL at hq
   cases hp:passL l [tOver,tUnder] s with
   | error g=>rw [thenL_err hp] at hq;cases hq
   | ok i=>
    rw [thenL_ok hp] at hq
    have g1:=pass_has i hp
    obtain ⟨g2,g3⟩:=pass_bd (zs:=[tOver,tUnder]) h (by decide) i hp
    have g4:=g2.num
    split at hq
    ·cases hn:nextL l i.2.2 with
     | error f=>rw [nextThen_err hn] at hq;cases hq
     | ok z=>
      rw [nextThen_ok hn] at hq
      cases hq
      cases e
      exact ⟨by constructor <;> simp <;> (first | exact hu | exact g4 | exact g1 | skip),by simp⟩
    ·cases hq
theorem test_has {l:List UInt8} {req:List (List UInt8)} {F:Nat} (hF:l.length < F):∀ (n:Nat) (s:PS),Gp l s→Has (allT (WfT req) n) (testL l req F n s)
 | 0,s,h=>fun y e=>by rw [testL] at e;split at e <;> cases e
 | n+1,s,h=>fun y e=>by
  rw [testL] at e
  by_cases h0:whichL testNames s.1.spelt=0
  ·rw [if_pos h0] at e;cases e
  ·rw [if_neg h0] at e
   cases hu:useOk req s.1.spelt
   ·rw [hu,if_neg (by decide)] at e;cases e
   ·rw [hu,if_pos rfl] at e
    cases hn:nextL l s.2 with
    | error g=>cases (nextThen_err hn).symm.trans e
    | ok z=>
     replace e:=(nextThen_ok hn).symm.trans e
     obtain ⟨g1,g2⟩:=gp_next h (gp_kind (zs:=testNames) h (by decide) h0) hn
     exact testBody_has n hF (fun s g y e=>(test_bd n s g y e).1) (fun s g=>test_has hF n s g) _ _ (by have:=whichL_le testNames s.1.spelt;have:testNames.length=10:=rfl;omega) (by rw [whichL_got _ _ h0];exact hu) g1 y e
theorem blockMore_has {α:Type} {l:List UInt8} {sub:PS→Except Flt (α×PS)} {P:α→Prop} (hg:∀ s,Gp l s→∀ y,sub s=.ok y→Gp l y.2) (hs:∀ s,Gp l s→Has P (sub s)):∀ (f:Nat) (acc:List α) (s:PS),Gp l s→(∀ a∈acc,P a)→∀ y,blockMore l sub f acc s=.ok y→Gp l y.2∧∀ a∈y.1,P a
 | 0,acc,s,g,hc=>fun y e=>by cases e;exact ⟨g,hc⟩
 | f+1,acc,s,g,hc=>fun y e=>by
  rw [blockMore] at e
  cases hp:mayL l [[125]] s with
  | error g=>rw [thenL_err hp] at e;cases e
  | ok z=>
   rw [thenL_ok hp] at e
   obtain ⟨h1,h2⟩:=may_bd (zs:=[[125]]) g (by decide) z hp
   split at e
   ·cases hq:sub z.2 with
    | error g=>rw [thenL_err hq] at e;cases e
    | ok x=>
     rw [thenL_ok hq] at e
     refine blockMore_has hg hs f _ x.2 (hg _ h1 x hq) (fun u hu=>?_) y e
     rcases List.mem_append.1 hu with hu | hu
     ·exact hc u hu
     ·rw [List.mem_singleton.1 hu];exact hs _ h1 x hq
   ·cases e;exact ⟨h1,hc⟩
theorem block_has {α:Type} {l:List UInt8} {F:Nat} {sub:PS→Except Flt (α×PS)} {P:α→Prop} (hg:∀ s,Gp l s→∀ y,sub s=.ok y→Gp l y.2) (hs:∀ s,Gp l s→Has P (sub s)) {s:PS} (h:Gp l s):∀ y,blockL l F sub s=.ok y→Gp l y.2∧∀ a∈y.1,P a:=fun y e=>by
 unfold blockL at e
 cases hp:passL l [[123]] s with
 | error g=>rw [thenL_err hp] at e;cases e
 | ok z=>
  rw [thenL_ok hp] at e
  obtain ⟨h1,h2⟩:=pass_bd (zs:=[[123]]) h (by decide) z hp
  exact blockMore_has hg hs F [] z.2 h1 (by simp) y e
theorem arm_has {α β:Type} {l:List UInt8} {F:Nat} {tst:PS→Except Flt (β×PS)} {sub:PS→Except Flt (α×PS)} {P:α→Prop} {Q:β→Prop} (htg:∀ s,Gp l s→∀ y,tst s=.ok y→Gp l y.2) (ht:∀ s,Gp l s→Has Q (tst s)) (hg:∀ s,Gp l s→∀ y,sub s=.ok y→Gp l y.2) (hs:∀ s,Gp l s→Has P (sub s)) {s:PS} (h:Gp l s):∀ y,armL l F tst sub s=.ok y→Gp l y.2∧Q y.1.1∧∀ a∈y.1.2,P a:=fun y e=>by
 unfold armL at e
 cases hp:tst s with
 | error g=>rw [thenL_err hp] at e;cases e
 | ok z=>
  rw [thenL_ok hp] at e
  cases hq:blockL l F sub z.2 with
  | error g=>rw [thenL_err hq] at e;cases e
  | ok x=>
   rw [thenL_ok hq] at e
   have h1:=block_has hg hs (htg _ h z hp) x hq
   have h2:=ht _ h z hp
   cases e
   exact ⟨h1.1,h2,h1.2⟩
theorem arms_has {α β:Type} {l:List UInt8} {F:Nat} {tst:PS→Except Flt (β×PS)} {sub:PS→Except Flt (α×PS)} {P:α→Prop} {Q:β→Prop} (htg:∀ s,Gp l s→∀ y,tst s=.ok y→Gp l y.2) (ht:∀ s,Gp l s→Has Q (tst s)) (hg:∀ s,Gp l s→∀ y,sub s=.ok y→Gp l y.2) (hs:∀ s,Gp l s→Has P (sub s)):∀ (f:Nat) (acc:List (β×List α)) (s:PS),Gp l s→acc≠[]→(∀ a∈acc,Q a.1∧∀ c∈a.2,P c)→∀ y,armsMore l F tst sub f acc s=.ok y→Gp l y.2∧y.1≠[]∧∀ a∈y.1,Q a.1∧∀ c∈a.2,P c
 | 0,acc,s,g,h,hc=>fun y e=>by cases e;exact ⟨g,h,hc⟩
 | f+1,acc,s,g,h,hc=>fun y e=>by
  rw [armsMore] at e
  cases hp:mayL l [kElsif] s with
  | error g=>rw [thenL_err hp] at e;cases e
  | ok z=>
   rw [thenL_ok hp] at e
   obtain ⟨h1,h2⟩:=may_bd (zs:=[kElsif]) g (by decide) z hp
   split at e
   ·cases e;exact ⟨h1,h,hc⟩
   ·cases hq:armL l F tst sub z.2 with
    | error g=>rw [thenL_err hq] at e;cases e
    | ok x=>
     rw [thenL_ok hq] at e
     obtain ⟨h3,h4,h5⟩:=arm_has htg ht hg hs h1 x hq
     refine arms_has htg ht hg hs f _ x.2 h3 (by simp) (fun u hu=>?_) y e
     rcases List.mem_append.1 hu with hu | hu
     ·exact hc u hu
     ·rw [List.mem_singleton.1 hu];exact ⟨h4,h5⟩
theorem semi_has {α:Type} {l:List UInt8} {s:PS} {a:α}:Has (fun x=>x=a) (semi l s a):=fun y e=>by
 unfold semi at e
 cases hp:passL l [[59]] s with
 | error g=>rw [thenL_err hp] at e;cases e
 | ok z=>rw [thenL_ok hp] at e;cases e;rfl
theorem cmdBody_has (n:Nat) {l:List UInt8} {req:List (List UInt8)} {F:Nat} {tst:PS→Except Flt (TestT n×PS)} {sub:PS→Except Flt (CmdT n×PS)} (htg:∀ s,Gp l s→∀ y,tst s=.ok y→Gp l y.2) (ht:∀ s,Gp l s→Has (allT (WfT req) n) (tst s)) (hg:∀ s,Gp l s→∀ y,sub s=.ok y→Gp l y.2) (hs:∀ s,Gp l s→Has (allC (WfT req) (WfC req) n) (sub s)) (k pos:Nat) (hk:k≤7) (hu:useOk req (cmdNames.getD k [])=true) {s:PS} (h:Gp l s):Has (fun x:CLab×List (TestT n×List (CmdT n))×List (CmdT n)=>WfC req x.1 x.2.1.length x.2.2.length∧(∀ a∈x.2.1,allT (WfT req) n a.1∧∀ c∈a.2,allC (WfT req) (WfC req) n c)∧∀ c∈x.2.2,allC (WfT req) (WfC req) n c) (cmdBody l F tst sub k pos s):=fun y e=>by
 unfold cmdBody at e
 split at e
 ·rw [semi_has y e];exact ⟨by constructor <;> simp <;> (first | exact hu | skip),by simp,by simp⟩
 ·rw [semi_has y e];exact ⟨by constructor <;> simp <;> (first | exact hu | skip),by simp,by simp⟩
 ·rw [semi_has y e];exact ⟨by constructor <;> simp <;> (first | exact hu | skip),by simp,by simp⟩
 ·cases hq:stringL l (fun _=>0) s with
  | error g=>rw [thenL_err hq] at e;cases e
  | ok x=>rw [thenL_ok hq] at e;rw [semi_has y e];exact ⟨by constructor <;> simp <;> (first | exact hu | skip),by simp,by simp⟩
 ·cases hq:stringL l (fun _=>0) s with
  | error g=>rw [thenL_err hq] at e;cases e
  | ok x=>rw [thenL_ok hq] at e;rw [semi_has y e];exact ⟨by constructor <;> simp <;> (first | exact hu | skip),by simp,by simp⟩
 ·cases hq:stringL l (fun _=>0) s with
  | error g=>rw [thenL_err hq] at e;cases e
  | ok x=>rw [thenL_ok hq] at e;rw [semi_has y e];exact ⟨by constructor <;> simp <;> (first | exact hu | skip),by simp,by simp⟩
 ·cases hm:mayL l [tLower,tUpper,tLength] s with
  | error g=>rw [thenL_err hm] at e;cases e
  | ok m=>
   rw [thenL_ok hm] at e
   have g0:=may_has m hm
   cases hv:stringL l (fun x=>if isNameL x then 0 else 7) m.2 with
   | error g=>rw [thenL_err hv] at e;cases e
   | ok v=>
    rw [thenL_ok hv] at e
    have g1:=string_has v hv
    have g2:isNameL v.1=true:=by
     dsimp only at g1
     split at g1
     ·assumption
     ·cases g1
    cases hq:stringL l (fun _=>0) v.2 with
    | error g=>rw [thenL_err hq] at e;cases e
    | ok x=>
     rw [thenL_ok hq] at e
     rw [semi_has y e]
     exact ⟨by constructor <;> simp <;> (first | exact hu | exact g0 | exact ⟨v.1,g2,rfl⟩ | skip),by simp,by simp⟩
 ·rename_i h0 h1 h2 h3 h4 h5 h6
  have hk7:k=7:=by
   have a0:k≠0:=h0
   have a1:k≠1:=h1
   have a2:k≠2:=h2
   have a3:k≠3:=h3
   have a4:k≠4:=h4
   have a5:k≠5:=h5
   have a6:k≠6:=h6
   omega
  subst hk7
  cases ha:armL l F tst sub s with
  | error g=>rw [thenL_err ha] at e;cases e
  | ok a=>
   rw [thenL_ok ha] at e
   obtain ⟨g1,g2,g3⟩:=arm_has htg ht hg hs h a ha
   cases hb:armsMore l F tst sub F [a.1] a.2 with
   | error g=>rw [thenL_err hb] at e;cases e
   | ok bb=>
    rw [thenL_ok hb] at e
    obtain ⟨g4,g5,g6⟩:=arms_has htg ht hg hs F [a.1] a.2 g1 (by simp) (fun u hu=>by rw [List.mem_singleton.1 hu];exact ⟨g2,g3⟩) bb hb
    cases hm:mayL l [kElse] bb.2 with
    | error g=>rw [thenL_err hm] at e;cases e
    | ok m=>
     rw [thenL_ok hm] at e
     obtain ⟨g7,g8⟩:=may_bd (zs:=[kElse]) g4 (by decide) m hm
     split at e
     ·cases e
      exact ⟨by constructor <;> simp <;> (first | exact hu | exact List.length_pos_iff.2 g5 | skip),g6,by simp⟩
     ·cases hc:blockL l F sub m.2 with
      | error g=>rw [thenL_err hc] at e;cases e
      | ok cs=>
       rw [thenL_ok hc] at e
       have g9:=block_has hg hs g7 cs hc
       cases e
       exact ⟨by constructor <;> simp <;> (first | exact hu | exact List.length_pos_iff.2 g5 | skip),g6,g9.2⟩
theorem cmd_gp {l:List UInt8} {req:List (List UInt8)} {F:Nat}:∀ (n:Nat) (hn:n≤7) (s:PS),Gp l s→∀ y,cmdL l req F n s=.ok y→Gp l y.2:=fun n hn s h y e=>(cmd_bd n [] (by simp;omega) s h y e).1
theorem cmd_has {l:List UInt8} {req:List (List UInt8)} {F:Nat} (hF:l.length < F):∀ (n:Nat) (hn:n≤7) (s:PS),Gp l s→Has (allC (WfT req) (WfC req) n) (cmdL l req F n s)
 | 0,hn,s,h=>fun y e=>by rw [cmdL] at e;split at e <;> cases e
 | n+1,hn7,s,h=>fun y e=>by
  rw [cmdL] at e
  by_cases h0:whichL cmdNames s.1.spelt=0
  ·rw [if_pos h0] at e;cases e
  ·rw [if_neg h0] at e
   cases hu:useOk req s.1.spelt
   ·rw [hu,if_neg (by decide)] at e;cases e
   ·rw [hu,if_pos rfl] at e
    cases hn:nextL l s.2 with
    | error g=>cases (nextThen_err hn).symm.trans e
    | ok z=>
     replace e:=(nextThen_ok hn).symm.trans e
     obtain ⟨g1,g2⟩:=gp_next h (gp_kind (zs:=cmdNames) h (by decide) h0) hn
     exact cmdBody_has n (fun s g y e=>(test_bd n s g y e).1) (fun s g=>test_has hF n s g) (cmd_gp n (by omega)) (fun s g=>cmd_has hF n (by omega) s g) _ _ (by have:=whichL_le cmdNames s.1.spelt;have:cmdNames.length=8:=rfl;omega) (by rw [whichL_got _ _ h0];exact hu) g1 y e
def WfR (req:List (List UInt8)):Prop:=req.Nodup∧∀ z∈req,0 < whichL [kEnvelope,kFileinto,kReject,kVariables] z
theorem which_mem:∀ (zs:List (List UInt8)) (x:List UInt8),x∈zs→0 < whichL zs x
 | [],x,h=>by cases h
 | s :: r,x,h=>by
  unfold whichL
  split
  ·omega
  ·rename_i e
   rcases List.mem_cons.1 h with h | h
   ·exact absurd h.symm e
   ·have:=which_mem r x h
    rw [if_neg (by omega)]
    omega
theorem foldReq_wf:∀ (xs req:List (List UInt8)),WfR req→(∀ z∈xs,0 < whichL [kEnvelope,kFileinto,kReject,kVariables] z)→WfR (xs.foldl addReq req)
 | [],req,h,hx=>h
 | x :: r,req,h,hx=>by
  rw [List.foldl_cons]
  refine foldReq_wf r _ ?_ (fun z hz=>hx z (by simp [hz]))
  unfold addReq
  split
  ·exact h
  ·rename_i h0
   refine ⟨?_,fun z hz=>?_⟩
   ·rw [List.nodup_append]
    refine ⟨h.1,by simp,fun a ha b hb=>?_⟩
    rw [List.mem_singleton.1 hb]
    intro e
    subst e
    exact h0 (which_mem _ _ ha)
   ·rcases List.mem_append.1 hz with hz | hz
    ·exact h.2 z hz
    ·rw [List.mem_singleton.1 hz];exact hx x (by simp)
theorem reqMore_wf {l:List UInt8} {F:Nat}:∀ (f:Nat) (req:List (List UInt8)) (s:PS),WfR req→Has WfR (reqMore l F f req s)
 | 0,req,s,h=>fun y e=>by cases e;exact h
 | f+1,req,s,h=>fun y e=>by
  rw [reqMore] at e
  cases hp:mayL l [kRequire] s with
  | error g=>rw [thenL_err hp] at e;cases e
  | ok z=>
   rw [thenL_ok hp] at e
   split at e
   ·cases e;exact h
   ·cases hq:stringsL l (fun x=>if 0 < whichL [kEnvelope,kFileinto,kReject,kVariables] x then 0 else 6) F z.2 with
    | error g=>rw [thenL_err hq] at e;cases e
    | ok x=>
     rw [thenL_ok hq] at e
     have h1:=strings_has x hq
     cases hr:passL l [[59]] x.2 with
     | error g=>rw [thenL_err hr] at e;cases e
     | ok v=>
      rw [thenL_ok hr] at e
      refine reqMore_wf f _ v.2 (foldReq_wf x.1 req h (fun z hz=>?_)) y e
      have:=h1.2 z hz
      split at this
      ·assumption
      ·cases this
theorem cmdsMore_has {α:Type} {l:List UInt8} {sub:PS→Except Flt (α×PS)} {P:α→Prop} (hg:∀ s,Gp l s→∀ y,sub s=.ok y→Gp l y.2) (hs:∀ s,Gp l s→Has P (sub s)):∀ (f:Nat) (acc:List α) (s:PS),Gp l s→(∀ a∈acc,P a)→∀ y,cmdsMore sub f acc s=.ok y→∀ a∈y,P a
 | 0,acc,s,h,hc=>fun y e=>by cases e;exact hc
 | f+1,acc,s,h,hc=>fun y e=>by
  rw [cmdsMore] at e
  split at e
  ·cases e;exact hc
  ·cases hq:sub s with
   | error g=>rw [hq] at e;cases e
   | ok x=>
    rw [hq] at e
    refine cmdsMore_has hg hs f _ x.2 (hg _ h x hq) (fun u hu=>?_) y e
    rcases List.mem_append.1 hu with hu | hu
    ·exact hc u hu
    ·rw [List.mem_singleton.1 hu];exact hs _ h x hq
theorem parse_wf {l:List UInt8} {y:List (List UInt8)×List (CmdT 7)} (h:parseL l=.ok y):WfR y.1∧∀ c∈y.2,allC (WfT y.1) (WfC y.1) 7 c:=by
 unfold parseL at h
 dsimp only at h
 have hF:l.length < 2*l.length+10:=by omega
 generalize 2*l.length+10=F at h hF
 cases h1:nextL l 0 with
 | error f=>rw [h1] at h;cases h
 | ok s=>
  rw [h1] at h
  dsimp only at h
  have hg:Gp l s:=by
   unfold nextL at h1
   cases hs:skipF (l.length+1) (l.drop 0) 0 with
   | error f=>rw [hs] at h1;cases h1
   | ok n=>
    rw [hs] at h1
    exact (scanL_gp l n (skipF_le l _ 0 n (Nat.zero_le _) hs).2 s h1).1
  cases h3:reqMore l F F [] s with
  | error f=>rw [h3] at h;cases h
  | ok z=>
   rw [h3] at h
   dsimp only at h
   have g1:=(reqMore_bd F [] s hg z h3).1
   have g2:=reqMore_wf F [] s ⟨by simp,by simp⟩ z h3
   cases h4:cmdsMore (cmdL l z.1 F 7) F [] z.2 with
   | error f=>rw [h4] at h;cases h
   | ok cs=>
    rw [h4] at h
    have g3:=cmdsMore_has (P:=allC (WfT z.1) (WfC z.1) 7) (cmd_gp 7 (by omega)) (fun s g=>cmd_has hF 7 (by omega) s g) F [] z.2 g1 (by simp) cs h4
    cases h
    exact ⟨g2,g3⟩
theorem dec_ne (n:Nat):Lib.decDigits n≠[]:=by
 rw [Lib.decDigits]
 split <;> simp
def tailQ (xs:List (List UInt8)):List UInt8:=xs.flatMap fun x=>44 :: 32 :: quotedL x
theorem joinQ (x:List UInt8):∀ xs:List (List UInt8),joinL [44,32] ((x :: xs).map quotedL)=quotedL x++tailQ xs
 | []=>by simp [joinL,tailQ]
 | y :: r=>by
  have ih:=joinQ y r
  show quotedL x++[44,32]++joinL [44,32] ((y :: r).map quotedL)=_
  rw [ih]
  simp [tailQ]
theorem quotesL_cons (x y:List UInt8) (r:List (List UInt8)):quotesL (x :: y :: r)=91 :: (quotedL x++(tailQ (y :: r)++[93])):=by
 show [91]++joinL [44,32] ((x :: y :: r).map quotedL)++[93]=_
 rw [joinQ]
 simp
def tailP (ps:List (List UInt8)):List UInt8:=ps.flatMap fun p=>if p=[] then [] else 32 :: p
theorem phraseStep_ne {t:List UInt8} (ht:t≠[]) (p:List UInt8):phraseStep t p=t++(if p=[] then [] else 32 :: p):=by
 unfold phraseStep
 by_cases hp:p=[]
 ·subst hp;simp
 ·rw [if_pos ⟨ht,hp⟩,if_neg hp];simp
theorem phrase_fold:∀ (ps:List (List UInt8)) (t:List UInt8),t≠[]→ps.foldl phraseStep t=t++tailP ps
 | [],t,h=>by simp [tailP]
 | p :: r,t,h=>by
  rw [List.foldl_cons,phraseStep_ne h,phrase_fold r _ (by simp [h])]
  simp [tailP]
theorem phraseL_cons {w:List UInt8} (hw:w≠[]) (ps:List (List UInt8)):phraseL (w :: ps)=w++tailP ps:=by
 unfold phraseL
 rw [List.foldl_cons]
 have e:phraseStep [] w=w:=by unfold phraseStep;simp
 rw [e,phrase_fold ps w hw]
theorem tailP_nil:tailP []=[]:=rfl
theorem tailP_cons {p:List UInt8} (hp:p≠[]) (ps:List (List UInt8)):tailP (p :: ps)=32 :: (p++tailP ps):=by
 unfold tailP;rw [List.flatMap_cons,if_neg hp];rfl
theorem tailP_none (ps:List (List UInt8)):tailP ([] :: ps)=tailP ps:=by
 unfold tailP;rw [List.flatMap_cons,if_pos rfl];rfl
theorem tailP_form:∀ ps:List (List UInt8),tailP ps=[]∨∃ t,tailP ps=32 :: t
 | []=>Or.inl rfl
 | p :: r=>by
  by_cases hp:p=[]
  ·subst hp;rw [tailP_none];exact tailP_form r
  ·rw [tailP_cons hp];exact Or.inr ⟨_,rfl⟩
theorem quotedL_ne (x:List UInt8):quotedL x≠[]:=by unfold quotedL;simp
theorem quotesL_ne {xs:List (List UInt8)} (hx:xs≠[]):quotesL xs≠[]:=by
 match xs,hx with
 | [x],_=>exact quotedL_ne x
 | x :: y :: t,_=>rw [quotesL_cons];simp
theorem testNode_head (x:TLab) (ts:List (List UInt8)) (hk:x.kind≤9):∃ R,testNode x ts=testNames.getD x.kind []++R∧(R=[]∨∃ t,R=32 :: t):=by
 unfold testNode
 split
 ·rename_i e;rw [e];exact ⟨[],rfl,Or.inl rfl⟩
 ·rename_i e;rw [e];exact ⟨[],rfl,Or.inl rfl⟩
 ·rename_i e;rw [e];exact ⟨_,phraseL_cons (by decide) ts,tailP_form _⟩
 ·rename_i e;rw [e];exact ⟨[32,40]++joinL [44,32] ts++[41],by simp [groupTxt,testNames],Or.inr ⟨_,rfl⟩⟩
 ·rename_i e;rw [e];exact ⟨[32,40]++joinL [44,32] ts++[41],by simp [groupTxt,testNames],Or.inr ⟨_,rfl⟩⟩
 ·rename_i e;rw [e];exact ⟨_,phraseL_cons (by decide) _,tailP_form _⟩
 ·rename_i e;rw [e];exact ⟨_,phraseL_cons (by decide) _,tailP_form _⟩
 ·rename_i e;rw [e];exact ⟨_,phraseL_cons (by decide) _,tailP_form _⟩
 ·rename_i e;rw [e];exact ⟨_,phraseL_cons (by decide) _,tailP_form _⟩
 ·rename_i h0 h1 h2 h3 h4 h5 h6 h7 h8
  have hk9:x.kind=9:=by
   have a0:x.kind≠0:=h0
   have a1:x.kind≠1:=h1
   have a2:x.kind≠2:=h2
   have a3:x.kind≠3:=h3
   have a4:x.kind≠4:=h4
   have a5:x.kind≠5:=h5
   have a6:x.kind≠6:=h6
   have a7:x.kind≠7:=h7
   have a8:x.kind≠8:=h8
   omega
  rw [hk9]
  exact ⟨_,phraseL_cons (by decide) _,tailP_form _⟩
def FOk {α:Type} (l:List UInt8) (r:Except Flt α):Prop:=∀ f,r=.error f→2≤f.err∧f.err≤7∧f.pos≤l.length
theorem skipF_err (l:List UInt8):∀ (f p:Nat) (e:Flt),p≤l.length→skipF f (l.drop p) p=.error e→e.err=2∧e.pos≤l.length
 | 0,p,e,hp,h=>by simp only [skipF] at h;cases h
 | f+1,p,e,hp,h=>by
  by_cases hlt:p < l.length
  ·rw [List.drop_eq_getElem_cons hlt] at h
   simp only [skipF] at h
   split at h
   ·exact skipF_err l f (p+1) e (by omega) h
   ·rw [← List.drop_eq_getElem_cons hlt] at h
    split at h
    ·rw [List.drop_drop] at h
     have h1:=lineLen_le (l.drop p)
     rw [List.length_drop] at h1
     exact skipF_err l f _ e (by omega) h
    ·split at h
     ·split at h
      ·cases h;exact ⟨rfl,hp⟩
      ·rename_i hp2 hi
       have e1:List.drop 1 (List.drop (p+1) l)=List.drop (p+1+1) l:=by rw [List.drop_drop]
       rw [e1] at h hi
       rw [List.drop_drop] at h
       have h1:=index_room (l.drop (p+1+1)) [42,47]
       rw [List.length_drop] at h1
       have h2:2≤(l.drop p).length:=by
        have:=(List.isPrefixOf_iff_prefix.1 hp2).length_le
        simpa using this
       rw [List.length_drop] at h2
       have h3:([42,47]:List UInt8).length=2:=rfl
       rw [h3] at h1
       exact skipF_err l f _ e (by omega) h
     ·cases h
  ·rw [List.drop_of_length_le (by omega)] at h
   simp only [skipF] at h
   cases h
theorem scanL_err (l:List UInt8) (p:Nat) (hp:p≤l.length):FOk l (scanL (l.drop p) p):=fun f h=>by
 generalize l.drop p=r at h
 cases r with
 | nil=>unfold scanL at h;dsimp only at h;cases h
 | cons c r=>
  unfold scanL at h
  dsimp only at h
  split at h
  ·cases h
  ·split at h
   ·split at h
    ·cases h;exact ⟨by simp,by simp,hp⟩
    ·cases h
   ·split at h
    ·obtain ⟨n',v',he⟩:∃ n' v':Nat,scanNumL (c :: r) p=if letdig ((c :: r).getD n' 0) then .error ⟨2,p⟩ else if 2147483647 < v' then .error ⟨3,p⟩ else .ok (⟨4,p,[],[],v'⟩,p+n'):=⟨_,_,rfl⟩
     rw [he] at h
     split at h
     ·cases h;exact ⟨by simp,by simp,hp⟩
     ·split at h
      ·cases h;exact ⟨by simp,by simp,hp⟩
      ·cases h
    ·split at h
     ·unfold quoteR at h
      cases hq:quoteL r with
      | none=>rw [hq] at h;cases h;exact ⟨by simp,by simp,hp⟩
      | some y=>rw [hq] at h;cases h
     ·split at h
      ·cases h
      ·cases h;exact ⟨by simp,by simp,hp⟩
theorem nextL_err (l:List UInt8) (p:Nat) (hp:p≤l.length):FOk l (nextL l p):=fun f h=>by
 unfold nextL at h
 cases hs:skipF (l.length+1) (l.drop p) p with
 | error e=>
  rw [hs] at h
  cases h
  have:=skipF_err l _ p _ hp hs
  omega
 | ok n=>
  rw [hs] at h
  exact scanL_err l n (skipF_le l _ p n hp hs).2 f h
theorem fok_ok {α:Type} {l:List UInt8} {a:α}:FOk l (.ok a):=fun f h=>by cases h
theorem fok_at {α:Type} {l:List UInt8} {s:PS} (h:Gp l s) {n:Nat} (h2:2≤n) (h7:n≤7):FOk (α:=α) l (.error ⟨n,s.1.pos⟩):=fun f e=>by
 cases e;exact ⟨h2,h7,Nat.le_trans h.lt h.le⟩
theorem FOk.andThen {α β:Type} {l:List UInt8} {r:Except Flt (α×PS)} {k:α→PS→Except Flt (β×PS)} (h:FOk l r) (hg:∀ y,r=.ok y→Gp l y.2) (hk:∀ a s,Gp l s→FOk l (k a s)):FOk l (thenL r k):=fun f e=>by
 cases hr:r with
 | error g=>rw [thenL_err hr] at e;cases e;exact h _ hr
 | ok y=>rw [thenL_ok hr] at e;exact hk y.1 y.2 (hg y hr) f e
theorem FOk.next {β:Type} {l:List UInt8} {s:PS} {k:PS→Except Flt (β×PS)} (h:Gp l s) (hk:∀ s1,Gp l s1→FOk l (k s1)):FOk l (nextThen l s k):=fun f e=>by
 cases hn:nextL l s.2 with
 | error g=>rw [nextThen_err hn] at e;cases e;exact nextL_err l s.2 h.le _ hn
 | ok y=>rw [nextThen_ok hn] at e;exact hk y (nextL_gp h hn).1 f e
theorem pass_fok {l:List UInt8} {zs:List (List UInt8)} {s:PS} (h:Gp l s):FOk l (passL l zs s):=fun f e=>by
 unfold passL at e
 split at e
 ·exact fok_at h (by decide) (by decide) f e
 ·cases hn:nextL l s.2 with
  | error g=>rw [hn] at e;cases e;exact nextL_err l s.2 h.le _ hn
  | ok y=>rw [hn] at e;cases e
theorem may_fok {l:List UInt8} {zs:List (List UInt8)} {s:PS} (h:Gp l s):FOk l (mayL l zs s):=fun f e=>by
 unfold mayL at e
 split at e
 ·cases e
 ·cases hn:nextL l s.2 with
  | error g=>rw [hn] at e;cases e;exact nextL_err l s.2 h.le _ hn
  | ok y=>rw [hn] at e;cases e
def ChkOk (chk:List UInt8→Nat):Prop:=∀ x,chk x=0∨(2≤chk x∧chk x≤7)
theorem string_fok {l:List UInt8} {chk:List UInt8→Nat} {s:PS} (hc:ChkOk chk) (h:Gp l s):FOk l (stringL l chk s):=fun f e=>by
 unfold stringL at e
 split at e
 ·split at e
  ·cases hn:nextL l s.2 with
   | error g=>rw [hn] at e;cases e;exact nextL_err l s.2 h.le _ hn
   | ok y=>rw [hn] at e;cases e
  ·rename_i h0
   rcases hc s.1.said with h1 | h1
   ·exact absurd h1 h0
   ·exact fok_at h h1.1 h1.2 f e
 ·exact fok_at h (by decide) (by decide) f e
theorem chk_none:ChkOk (fun _=>0):=fun _=>Or.inl rfl
theorem chk_if (p:List UInt8→Bool) (n:Nat) (h2:2≤n) (h7:n≤7):ChkOk (fun x=>if p x then 0 else n):=fun x=>by
 dsimp only
 split
 ·exact Or.inl rfl
 ·exact Or.inr ⟨h2,h7⟩
theorem chk_which (g:List UInt8→List UInt8) (zs:List (List UInt8)) (n:Nat) (h2:2≤n) (h7:n≤7):ChkOk (fun x=>if 0 < whichL zs (g x) then 0 else n):=fun x=>by
 dsimp only
 split
 ·exact Or.inl rfl
 ·exact Or.inr ⟨h2,h7⟩
theorem more_fok {l:List UInt8} {chk:List UInt8→Nat} (hc:ChkOk chk):∀ (f:Nat) (acc:List (List UInt8)) (s:PS),Gp l s→FOk l (moreL l chk f acc s)
 | 0,acc,s,h=>fok_ok
 | f+1,acc,s,h=>fun g e=>by
  rw [moreL] at e
  cases hp:passL l [[44],[93]] s with
  | error g=>rw [hp] at e;cases e;exact pass_fok h _ hp
  | ok z=>
   rw [hp] at e
   have h1:=(pass_bd (zs:=[[44],[93]]) h (by decide) z hp).1
   dsimp only at e
   split at e
   ·cases hs:stringL l chk z.2 with
    | error g=>rw [hs] at e;cases e;exact string_fok hc h1 _ hs
    | ok x=>rw [hs] at e;exact more_fok hc f _ x.2 (string_bd h1 x hs).1 g e
   ·cases e
theorem strings_fok {l:List UInt8} {chk:List UInt8→Nat} {F:Nat} {s:PS} (hc:ChkOk chk) (h:Gp l s):FOk l (stringsL l chk F s):=fun g e=>by
 unfold stringsL at e
 cases hm:mayL l [[91]] s with
 | error g=>rw [hm] at e;cases e;exact may_fok h _ hm
 | ok z=>
  rw [hm] at e
  have h1:=(may_bd (zs:=[[91]]) h (by decide) z hm).1
  dsimp only at e
  cases hs:stringL l chk z.2 with
  | error g=>rw [hs] at e;cases e;exact string_fok hc h1 _ hs
  | ok x=>
   rw [hs] at e
   dsimp only at e
   split at e
   ·cases e
   ·exact more_fok hc F _ x.2 (string_bd h1 x hs).1 g e
theorem opt_fok {l:List UInt8}:∀ (f tag:Nat) (oct cmp:Bool) (s:PS),Gp l s→FOk l (optL l f tag oct cmp s)
 | 0,tag,oct,cmp,s,h=>fok_ok
 | f+1,tag,oct,cmp,s,h=>by
  rw [optL]
  split
  ·split
   ·exact fok_ok
   ·split
    ·exact fok_at h (by decide) (by decide)
    ·refine FOk.next h (fun s1 g1=>FOk.andThen (string_fok (chk_which id _ 7 (by decide) (by decide)) g1) (fun y e=>(string_bd g1 y e).1) (fun x s2 g2=>opt_fok f _ _ _ s2 g2))
  ·split
   ·exact FOk.next h (fun s1 g1=>opt_fok f _ _ _ s1 g1)
   ·exact fok_at h (by decide) (by decide)
theorem match_fok {l:List UInt8} {F:Nat} {chk:List UInt8→Nat} {k pos:Nat} {s:PS} (hc:ChkOk chk) (h:Gp l s):FOk l (matchL l F chk k pos s):=
 FOk.andThen (opt_fok F 0 false false s h) (fun y e=>(opt_bd F 0 false false s h y e).1) fun o s1 g1=>
  FOk.andThen (strings_fok hc g1) (fun y e=>(strings_bd g1 y e).1) fun fr s2 g2=>
   FOk.andThen (strings_fok chk_none g2) (fun y e=>(strings_bd g2 y e).1) fun ks s3 g3=>fok_ok
theorem groupMore_fok {α:Type} {l:List UInt8} {sub:PS→Except Flt (α×PS)} (hg:∀ s,Gp l s→∀ y,sub s=.ok y→Gp l y.2) (hs:∀ s,Gp l s→FOk l (sub s)):∀ (f:Nat) (acc:List α) (s:PS),Gp l s→FOk l (groupMore l sub f acc s)
 | 0,acc,s,h=>fok_ok
 | f+1,acc,s,h=>by
  rw [groupMore]
  refine FOk.andThen (pass_fok h) (fun y e=>(pass_bd (zs:=[[44],[41]]) h (by decide) y e).1) (fun i s1 g1=>?_)
  split
  ·exact FOk.andThen (hs s1 g1) (hg s1 g1) (fun t s2 g2=>groupMore_fok hg hs f _ s2 g2)
  ·exact fok_ok
theorem group_fok {α:Type} {l:List UInt8} {F:Nat} {sub:PS→Except Flt (α×PS)} (hg:∀ s,Gp l s→∀ y,sub s=.ok y→Gp l y.2) (hs:∀ s,Gp l s→FOk l (sub s)) {s:PS} (h:Gp l s):FOk l (groupL l F sub s):=
 FOk.andThen (pass_fok h) (fun y e=>(pass_bd (zs:=[[40]]) h (by decide) y e).1) fun i s1 g1=>
  FOk.andThen (hs s1 g1) (hg s1 g1) fun t s2 g2=>groupMore_fok hg hs F _ s2 g2
theorem groupMore_gp {α:Type} {l:List UInt8} {sub:PS→Except Flt (α×PS)} (hg:∀ s,Gp l s→∀ y,sub s=.ok y→Gp l y.2):∀ (f:Nat) (acc:List α) (s:PS),Gp l s→∀ y,groupMore l sub f acc s=.ok y→Gp l y.2
 | 0,acc,s,h=>fun y e=>by cases e;exact h
 | f+1,acc,s,h=>fun y e=>by
  rw [groupMore] at e
  cases hp:passL l [[44],[41]] s with
  | error g=>rw [thenL_err hp] at e;cases e
  | ok z=>
   rw [thenL_ok hp] at e
   have h1:=(pass_bd (zs:=[[44],[41]]) h (by decide) z hp).1
   split at e
   ·cases hq:sub z.2 with
    | error g=>rw [thenL_err hq] at e;cases e
    | ok x=>rw [thenL_ok hq] at e;exact groupMore_gp hg f _ x.2 (hg _ h1 x hq) y e
   ·cases e;exact h1
theorem group_gp {α:Type} {l:List UInt8} {F:Nat} {sub:PS→Except Flt (α×PS)} (hg:∀ s,Gp l s→∀ y,sub s=.ok y→Gp l y.2) {s:PS} (h:Gp l s):∀ y,groupL l F sub s=.ok y→Gp l y.2:=fun y e=>by
 unfold groupL at e
 cases hp:passL l [[40]] s with
 | error g=>rw [thenL_err hp] at e;cases e
 | ok z=>
  rw [thenL_ok hp] at e
  have h1:=(pass_bd (zs:=[[40]]) h (by decide) z hp).1
  cases hq:sub z.2 with
  | error g=>rw [thenL_err hq] at e;cases e
  | ok x=>rw [thenL_ok hq] at e;exact groupMore_gp hg F _ x.2 (hg _ h1 x hq) y e
theorem size_fok {l:List UInt8} {pos:Nat} {s:PS} (h:Gp l s):FOk l (sizeL l pos s):=by
 refine FOk.andThen (pass_fok h) (fun y e=>(pass_bd (zs:=[tOver,tUnder]) h (by decide) y e).1) (fun i s1 g1=>?_)
 split
 ·exact FOk.next g1 (fun s2 g2=>fok_ok)
 ·exact fok_at g1 (by decide) (by decide)
theorem size_gp {l:List UInt8} {pos:Nat} {s:PS} (h:Gp l s):∀ y,sizeL l pos s=.ok y→Gp l y.2:=fun y e=>by
 unfold sizeL at e
 cases hp:passL l [tOver,tUnder] s with
 | error g=>rw [thenL_err hp] at e;cases e
 | ok i=>
  rw [thenL_ok hp] at e
  have g2:=(pass_bd (zs:=[tOver,tUnder]) h (by decide) i hp).1
  split at e
  ·cases hn:nextL l i.2.2 with
   | error f=>rw [nextThen_err hn] at e;cases e
   | ok z=>rw [nextThen_ok hn] at e;cases e;exact (nextL_gp g2 hn).1
  ·cases e
theorem testBody_fok {α:Type} {l:List UInt8} {F:Nat} {sub:PS→Except Flt (α×PS)} (hg:∀ s,Gp l s→∀ y,sub s=.ok y→Gp l y.2) (hs:∀ s,Gp l s→FOk l (sub s)) (k pos:Nat) {s:PS} (h:Gp l s):FOk l (testBody l F sub k pos s):=by
 unfold testBody
 split
 ·exact fok_ok
 ·exact fok_ok
 ·exact FOk.andThen (hs s h) (hg s h) (fun _ _ _=>fok_ok)
 ·exact FOk.andThen (group_fok hg hs h) (group_gp hg h) (fun _ _ _=>fok_ok)
 ·exact FOk.andThen (group_fok hg hs h) (group_gp hg h) (fun _ _ _=>fok_ok)
 ·exact FOk.andThen (match_fok chk_none h) (fun y e=>(match_bd h y e).1) (fun _ _ _=>fok_ok)
 ·exact FOk.andThen (match_fok (chk_which smallL _ 7 (by decide) (by decide)) h) (fun y e=>(match_bd h y e).1) (fun _ _ _=>fok_ok)
 ·exact FOk.andThen (match_fok chk_none h) (fun y e=>(match_bd h y e).1) (fun _ _ _=>fok_ok)
 ·exact FOk.andThen (strings_fok chk_none h) (fun y e=>(strings_bd h y e).1) (fun _ _ _=>fok_ok)
 ·exact FOk.andThen (size_fok h) (size_gp h) (fun _ _ _=>fok_ok)
theorem test_fok {l:List UInt8} {req:List (List UInt8)} {F:Nat}:∀ (n:Nat) (s:PS),Gp l s→FOk l (testL l req F n s)
 | 0,s,h=>by
  rw [testL]
  split
  ·exact fok_at h (by decide) (by decide)
  ·exact fok_at h (by decide) (by decide)
 | n+1,s,h=>by
  rw [testL]
  split
  ·exact fok_at h (by decide) (by decide)
  ·split
   ·exact FOk.next h (fun s1 g1=>testBody_fok (fun s g y e=>(test_bd n s g y e).1) (fun s g=>test_fok n s g) _ _ g1)
   ·exact fok_at h (by decide) (by decide)
theorem blockMore_fok {α:Type} {l:List UInt8} {sub:PS→Except Flt (α×PS)} (hg:∀ s,Gp l s→∀ y,sub s=.ok y→Gp l y.2) (hs:∀ s,Gp l s→FOk l (sub s)):∀ (f:Nat) (acc:List α) (s:PS),Gp l s→FOk l (blockMore l sub f acc s)∧∀ y,blockMore l sub f acc s=.ok y→Gp l y.2
 | 0,acc,s,h=>⟨fok_ok,fun y e=>by cases e;exact h⟩
 | f+1,acc,s,h=>by
  rw [blockMore]
  constructor
  ·refine FOk.andThen (may_fok h) (fun y e=>(may_bd (zs:=[[125]]) h (by decide) y e).1) (fun i s1 g1=>?_)
   split
   ·exact FOk.andThen (hs s1 g1) (hg s1 g1) (fun t s2 g2=>(blockMore_fok hg hs f _ s2 g2).1)
   ·exact fok_ok
  ·intro y e
   cases hp:mayL l [[125]] s with
   | error g=>rw [thenL_err hp] at e;cases e
   | ok z=>
    rw [thenL_ok hp] at e
    have h1:=(may_bd (zs:=[[125]]) h (by decide) z hp).1
    split at e
    ·cases hq:sub z.2 with
     | error g=>rw [thenL_err hq] at e;cases e
     | ok x=>rw [thenL_ok hq] at e;exact (blockMore_fok hg hs f _ x.2 (hg _ h1 x hq)).2 y e
    ·cases e;exact h1
theorem block_fok {α:Type} {l:List UInt8} {F:Nat} {sub:PS→Except Flt (α×PS)} (hg:∀ s,Gp l s→∀ y,sub s=.ok y→Gp l y.2) (hs:∀ s,Gp l s→FOk l (sub s)) {s:PS} (h:Gp l s):FOk l (blockL l F sub s)∧∀ y,blockL l F sub s=.ok y→Gp l y.2:=by
 constructor
 ·exact FOk.andThen (pass_fok h) (fun y e=>(pass_bd (zs:=[[123]]) h (by decide) y e).1) (fun i s1 g1=>(blockMore_fok hg hs F [] s1 g1).1)
 ·intro y e
  unfold blockL at e
  cases hp:passL l [[123]] s with
  | error g=>rw [thenL_err hp] at e;cases e
  | ok z=>
   rw [thenL_ok hp] at e
   exact (blockMore_fok hg hs F [] z.2 (pass_bd (zs:=[[123]]) h (by decide) z hp).1).2 y e
theorem arm_fok {α β:Type} {l:List UInt8} {F:Nat} {tst:PS→Except Flt (β×PS)} {sub:PS→Except Flt (α×PS)} (htg:∀ s,Gp l s→∀ y,tst s=.ok y→Gp l y.2) (ht:∀ s,Gp l s→FOk l (tst s)) (hg:∀ s,Gp l s→∀ y,sub s=.ok y→Gp l y.2) (hs:∀ s,Gp l s→FOk l (sub s)) {s:PS} (h:Gp l s):FOk l (armL l F tst sub s)∧∀ y,armL l F tst sub s=.ok y→Gp l y.2:=by
 constructor
 ·exact FOk.andThen (ht s h) (htg s h) (fun t s1 g1=>FOk.andThen (block_fok hg hs g1).1 (block_fok hg hs g1).2 (fun _ _ _=>fok_ok))
 ·intro y e
  unfold armL at e
  cases hp:tst s with
  | error g=>rw [thenL_err hp] at e;cases e
  | ok z=>
   rw [thenL_ok hp] at e
   cases hq:blockL l F sub z.2 with
   | error g=>rw [thenL_err hq] at e;cases e
   | ok x=>rw [thenL_ok hq] at e;cases e;exact (block_fok hg hs (htg _ h z hp)).2 x hq
theorem arms_fok {α β:Type} {l:List UInt8} {F:Nat} {tst:PS→Except Flt (β×PS)} {sub:PS→Except Flt (α×PS)} (htg:∀ s,Gp l s→∀ y,tst s=.ok y→Gp l y.2) (ht:∀ s,Gp l s→FOk l (tst s)) (hg:∀ s,Gp l s→∀ y,sub s=.ok y→Gp l y.2) (hs:∀ s,Gp l s→FOk l (sub s)):∀ (f:Nat) (acc:List (β×List α)) (s:PS),Gp l s→FOk l (armsMore l F tst sub f acc s)∧∀ y,armsMore l F tst sub f acc s=.ok y→Gp l y.2
 | 0,acc,s,h=>⟨fok_ok,fun y e=>by cases e;exact h⟩
 | f+1,acc,s,h=>by
  rw [armsMore]
  constructor
  ·refine FOk.andThen (may_fok h) (fun y e=>(may_bd (zs:=[kElsif]) h (by decide) y e).1) (fun i s1 g1=>?_)
   split
   ·exact fok_ok
   ·exact FOk.andThen (arm_fok htg ht hg hs g1).1 (arm_fok htg ht hg hs g1).2 (fun t s2 g2=>(arms_fok htg ht hg hs f _ s2 g2).1)
  ·intro y e
   cases hp:mayL l [kElsif] s with
   | error g=>rw [thenL_err hp] at e;cases e
   | ok z=>
    rw [thenL_ok hp] at e
    have h1:=(may_bd (zs:=[kElsif]) h (by decide) z hp).1
    split at e
    ·cases e;exact h1
    ·cases hq:armL l F tst sub z.2 with
     | error g=>rw [thenL_err hq] at e;cases e
     | ok x=>rw [thenL_ok hq] at e;exact (arms_fok htg ht hg hs f _ x.2 ((arm_fok htg ht hg hs h1).2 x hq)).2 y e
theorem semi_fok {α:Type} {l:List UInt8} {s:PS} {a:α} (h:Gp l s):FOk l (semi l s a):=
 FOk.andThen (pass_fok h) (fun y e=>(pass_bd (zs:=[[59]]) h (by decide) y e).1) (fun _ _ _=>fok_ok)
theorem cmdBody_fok {α β:Type} {l:List UInt8} {F:Nat} {tst:PS→Except Flt (β×PS)} {sub:PS→Except Flt (α×PS)} (htg:∀ s,Gp l s→∀ y,tst s=.ok y→Gp l y.2) (ht:∀ s,Gp l s→FOk l (tst s)) (hg:∀ s,Gp l s→∀ y,sub s=.ok y→Gp l y.2) (hs:∀ s,Gp l s→FOk l (sub s)) (k pos:Nat) {s:PS} (h:Gp l s):FOk l (cmdBody l F tst sub k pos s):=by
 unfold cmdBody
 split
 ·exact semi_fok h
 ·exact semi_fok h
 ·exact semi_fok h
 ·exact FOk.andThen (string_fok chk_none h) (fun y e=>(string_bd h y e).1) (fun _ s1 g1=>semi_fok g1)
 ·exact FOk.andThen (string_fok chk_none h) (fun y e=>(string_bd h y e).1) (fun _ s1 g1=>semi_fok g1)
 ·exact FOk.andThen (string_fok chk_none h) (fun y e=>(string_bd h y e).1) (fun _ s1 g1=>semi_fok g1)
 ·exact FOk.andThen (may_fok h) (fun y e=>(may_bd (zs:=[tLower,tUpper,tLength]) h (by decide) y e).1) (fun _ s1 g1=>FOk.andThen (string_fok (chk_if isNameL 7 (by decide) (by decide)) g1) (fun y e=>(string_bd g1 y e).1) (fun _ s2 g2=>FOk.andThen (string_fok chk_none g2) (fun y e=>(string_bd g2 y e).1) (fun _ s3 g3=>semi_fok g3)))
 ·refine FOk.andThen (arm_fok htg ht hg hs h).1 (arm_fok htg ht hg hs h).2 (fun a s1 g1=>FOk.andThen (arms_fok htg ht hg hs F [a] s1 g1).1 (arms_fok htg ht hg hs F [a] s1 g1).2 (fun as s2 g2=>FOk.andThen (may_fok g2) (fun y e=>(may_bd (zs:=[kElse]) g2 (by decide) y e).1) (fun i s3 g3=>?_)))
  split
  ·exact fok_ok
  ·exact FOk.andThen (block_fok hg hs g3).1 (block_fok hg hs g3).2 (fun _ _ _=>fok_ok)
theorem cmd_gpL {l:List UInt8} {req:List (List UInt8)} {F:Nat} (n:Nat) (hn:n≤7) (s:PS) (h:Gp l s):∀ y,cmdL l req F n s=.ok y→Gp l y.2:=fun y e=>(cmd_bd n [] (by simp;omega) s h y e).1
theorem cmd_fok {l:List UInt8} {req:List (List UInt8)} {F:Nat}:∀ (n:Nat),n≤7→∀ (s:PS),Gp l s→FOk l (cmdL l req F n s)
 | 0,_,s,h=>by
  rw [cmdL]
  split
  ·exact fok_at h (by decide) (by decide)
  ·exact fok_at h (by decide) (by decide)
 | n+1,hn,s,h=>by
  rw [cmdL]
  split
  ·exact fok_at h (by decide) (by decide)
  ·split
   ·exact FOk.next h (fun s1 g1=>cmdBody_fok (fun s g y e=>(test_bd n s g y e).1) (fun s g=>test_fok n s g) (cmd_gpL n (by omega)) (fun s g=>cmd_fok n (by omega) s g) _ _ g1)
   ·exact fok_at h (by decide) (by decide)
theorem reqMore_fok {l:List UInt8} {F:Nat}:∀ (f:Nat) (req:List (List UInt8)) (s:PS),Gp l s→FOk l (reqMore l F f req s)
 | 0,req,s,h=>fok_ok
 | f+1,req,s,h=>by
  rw [reqMore]
  refine FOk.andThen (may_fok h) (fun y e=>(may_bd (zs:=[kRequire]) h (by decide) y e).1) (fun i s1 g1=>?_)
  split
  ·exact fok_ok
  ·exact FOk.andThen (strings_fok (chk_which id _ 6 (by decide) (by decide)) g1) (fun y e=>(strings_bd g1 y e).1) (fun xs s2 g2=>FOk.andThen (pass_fok g2) (fun y e=>(pass_bd (zs:=[[59]]) g2 (by decide) y e).1) (fun _ s3 g3=>reqMore_fok f _ s3 g3))
theorem cmdsMore_fok {α:Type} {l:List UInt8} {sub:PS→Except Flt (α×PS)} (hg:∀ s,Gp l s→∀ y,sub s=.ok y→Gp l y.2) (hs:∀ s,Gp l s→FOk l (sub s)):∀ (f:Nat) (acc:List α) (s:PS),Gp l s→FOk l (cmdsMore sub f acc s)
 | 0,acc,s,h=>fok_ok
 | f+1,acc,s,h=>fun g e=>by
  rw [cmdsMore] at e
  split at e
  ·cases e
  ·cases hq:sub s with
   | error g=>rw [hq] at e;cases e;exact hs s h _ hq
   | ok x=>rw [hq] at e;exact cmdsMore_fok hg hs f _ x.2 (hg s h x hq) g e
theorem first_gp {l:List UInt8} {s:PS} (h1:nextL l 0=.ok s):Gp l s:=by
 unfold nextL at h1
 cases hs:skipF (l.length+1) (l.drop 0) 0 with
 | error f=>rw [hs] at h1;cases h1
 | ok n=>
  rw [hs] at h1
  exact (scanL_gp l n (skipF_le l _ 0 n (Nat.zero_le _) hs).2 s h1).1
theorem parse_fok (l:List UInt8):FOk l (parseL l):=fun f h=>by
 unfold parseL at h
 dsimp only at h
 generalize 2*l.length+10=F at h
 cases h1:nextL l 0 with
 | error g=>rw [h1] at h;cases h;exact nextL_err l 0 (Nat.zero_le _) _ h1
 | ok s=>
  rw [h1] at h
  dsimp only at h
  have hg:=first_gp h1
  cases h3:reqMore l F F [] s with
  | error g=>rw [h3] at h;cases h;exact reqMore_fok F [] s hg _ h3
  | ok z=>
   rw [h3] at h
   dsimp only at h
   have g1:=(reqMore_bd F [] s hg z h3).1
   cases h4:cmdsMore (cmdL l z.1 F 7) F [] z.2 with
   | error g=>rw [h4] at h;cases h;exact cmdsMore_fok (cmd_gpL 7 (by omega)) (fun s g=>cmd_fok 7 (by omega) s g) F [] z.2 g1 _ h4
   | ok cs=>rw [h4] at h;cases h
end Go.Proofs.YtgnkjijocdmniaaGreatDoor
