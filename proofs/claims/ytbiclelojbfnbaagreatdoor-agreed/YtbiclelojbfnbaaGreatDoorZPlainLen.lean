import Derived.Lib.ItoaLen
import Derived.Lib.Join
import Derived.Test.YtbiclelojbfnbaaGreatDoorZPlainAsk
namespace Go.Proofs.YtbiclelojbfnbaaGreatDoor
set_option linter.unusedVariables false
set_option linter.unusedSimpArgs false
set_option maxRecDepth 100000
set_option maxHeartbeats 4000000
def kKeep:List UInt8:=[107,101,101,112]
def kDiscard:List UInt8:=[100,105,115,99,97,114,100]
def kStop:List UInt8:=[115,116,111,112]
def kFileinto:List UInt8:=[102,105,108,101,105,110,116,111]
def kRedirect:List UInt8:=[114,101,100,105,114,101,99,116]
def kReject:List UInt8:=[114,101,106,101,99,116]
def kSet:List UInt8:=[115,101,116]
def kIf:List UInt8:=[105,102]
def kTrue:List UInt8:=[116,114,117,101]
def kFalse:List UInt8:=[102,97,108,115,101]
def kNot:List UInt8:=[110,111,116]
def kAllof:List UInt8:=[97,108,108,111,102]
def kAnyof:List UInt8:=[97,110,121,111,102]
def kHeader:List UInt8:=[104,101,97,100,101,114]
def kEnvelope:List UInt8:=[101,110,118,101,108,111,112,101]
def kString:List UInt8:=[115,116,114,105,110,103]
def kExists:List UInt8:=[101,120,105,115,116,115]
def kSize:List UInt8:=[115,105,122,101]
def kElsif:List UInt8:=[101,108,115,105,102]
def kElse:List UInt8:=[101,108,115,101]
def kRequire:List UInt8:=[114,101,113,117,105,114,101]
def kVariables:List UInt8:=[118,97,114,105,97,98,108,101,115]
def kFrom:List UInt8:=[102,114,111,109]
def kTo:List UInt8:=[116,111]
def tLower:List UInt8:=[58,108,111,119,101,114]
def tUpper:List UInt8:=[58,117,112,112,101,114]
def tLength:List UInt8:=[58,108,101,110,103,116,104]
def tIs:List UInt8:=[58,105,115]
def tContains:List UInt8:=[58,99,111,110,116,97,105,110,115]
def tMatches:List UInt8:=[58,109,97,116,99,104,101,115]
def tOver:List UInt8:=[58,111,118,101,114]
def tUnder:List UInt8:=[58,117,110,100,101,114]
def tComparator:List UInt8:=[58,99,111,109,112,97,114,97,116,111,114]
def cOctet:List UInt8:=[105,59,111,99,116,101,116]
def cCasemap:List UInt8:=[105,59,97,115,99,105,105,45,99,97,115,101,109,97,112]
def cmdNames:List (List UInt8):=[kKeep,kDiscard,kStop,kFileinto,kRedirect,kReject,kSet,kIf]
def testNames:List (List UInt8):=[kTrue,kFalse,kNot,kAllof,kAnyof,kHeader,kEnvelope,kString,kExists,kSize]
structure TLab where
 kind:Nat
 pos:Nat
 tag:Nat
 octet:Bool
 fr:List (List UInt8)
 keys:List (List UInt8)
 num:Nat
def TestT:Nat→Type
 | 0=>Unit
 | n+1=>TLab×List (TestT n)
structure CLab where
 kind:Nat
 pos:Nat
 tag:Nat
 arg:List UInt8
 var:List UInt8
 els:Bool
def CmdT:Nat→Type
 | 0=>Unit
 | n+1=>CLab×List (TestT n×List (CmdT n))×List (CmdT n)
def useOk (req:List (List UInt8)) (sp:List UInt8):Bool:=
 if sp=kFileinto∨sp=kReject∨sp=kEnvelope then decide (0 < whichL req sp)
 else if sp=kSet∨sp=kString then decide (0 < whichL req kVariables)
 else true
def thenL {α β:Type} (r:Except Flt (α×PS)) (k:α→PS→Except Flt (β×PS)):Except Flt (β×PS):=
 match r with
 | .error f=>.error f
 | .ok y=>k y.1 y.2
def nextThen {β:Type} (l:List UInt8) (s:PS) (k:PS→Except Flt (β×PS)):Except Flt (β×PS):=
 match nextL l s.2 with
 | .error f=>.error f
 | .ok y=>k y
theorem thenL_err {α β:Type} {r:Except Flt (α×PS)} {k:α→PS→Except Flt (β×PS)} {f:Flt} (h:r=.error f):thenL r k=.error f:=by subst h;rfl
theorem thenL_ok {α β:Type} {r:Except Flt (α×PS)} {k:α→PS→Except Flt (β×PS)} {y:α×PS} (h:r=.ok y):thenL r k=k y.1 y.2:=by subst h;rfl
theorem nextThen_err {β:Type} {l:List UInt8} {s:PS} {k:PS→Except Flt (β×PS)} {f:Flt} (h:nextL l s.2=.error f):nextThen l s k=.error f:=by unfold nextThen;rw [h]
theorem nextThen_ok {β:Type} {l:List UInt8} {s y:PS} {k:PS→Except Flt (β×PS)} (h:nextL l s.2=.ok y):nextThen l s k=k y:=by unfold nextThen;rw [h]
def optL (l:List UInt8):Nat→Nat→Bool→Bool→PS→Except Flt ((Nat×Bool)×PS)
 | 0,tag,oct,_,s=>.ok ((tag,oct),s)
 | f+1,tag,oct,cmp,s=>
  if whichL [tIs,tContains,tMatches] s.1.spelt=0 then
   if whichL [tComparator] s.1.spelt=0 then .ok ((max tag 1,oct),s)
   else if cmp then .error ⟨7,s.1.pos⟩
   else nextThen l s fun s1=>thenL (stringL l (fun x=>if 0 < whichL [cOctet,cCasemap] x then 0 else 7) s1) fun x s2=>optL l f tag (decide (x=cOctet)) true s2
  else if tag=0 then nextThen l s fun s1=>optL l f (whichL [tIs,tContains,tMatches] s.1.spelt) oct cmp s1
  else .error ⟨7,s.1.pos⟩
def matchL (l:List UInt8) (F:Nat) (chk:List UInt8→Nat) (k pos:Nat) (s:PS):Except Flt (TLab×PS):=
 thenL (optL l F 0 false false s) fun o s1=>thenL (stringsL l chk F s1) fun fr s2=>thenL (stringsL l (fun _=>0) F s2) fun ks s3=>
  .ok (⟨k,pos,o.1,o.2,fr,ks,0⟩,s3)
def groupMore {α:Type} (l:List UInt8) (sub:PS→Except Flt (α×PS)):Nat→List α→PS→Except Flt (List α×PS)
 | 0,acc,s=>.ok (acc,s)
 | f+1,acc,s=>thenL (passL l [[44],[41]] s) fun i s1=>
   if i=1 then thenL (sub s1) fun t s2=>groupMore l sub f (acc++[t]) s2 else .ok (acc,s1)
def groupL {α:Type} (l:List UInt8) (F:Nat) (sub:PS→Except Flt (α×PS)) (s:PS):Except Flt (List α×PS):=
 thenL (passL l [[40]] s) fun _ s1=>thenL (sub s1) fun t s2=>groupMore l sub F [t] s2
def sizeL (l:List UInt8) (pos:Nat) (s:PS):Except Flt (TLab×PS):=
 thenL (passL l [tOver,tUnder] s) fun i s1=>
  if s1.1.kind=4 then nextThen l s1 fun s2=>.ok (⟨9,pos,i,false,[],[],s1.1.num⟩,s2) else .error ⟨4,s1.1.pos⟩
def testBody {α:Type} (l:List UInt8) (F:Nat) (sub:PS→Except Flt (α×PS)) (k pos:Nat) (s:PS):Except Flt ((TLab×List α)×PS):=
 match k with
 | 0=>.ok ((⟨0,pos,0,false,[],[],0⟩,[]),s)
 | 1=>.ok ((⟨1,pos,0,false,[],[],0⟩,[]),s)
 | 2=>thenL (sub s) fun t s1=>.ok ((⟨2,pos,0,false,[],[],0⟩,[t]),s1)
 | 3=>thenL (groupL l F sub s) fun ts s1=>.ok ((⟨3,pos,0,false,[],[],0⟩,ts),s1)
 | 4=>thenL (groupL l F sub s) fun ts s1=>.ok ((⟨4,pos,0,false,[],[],0⟩,ts),s1)
 | 5=>thenL (matchL l F (fun _=>0) 5 pos s) fun x s1=>.ok ((x,[]),s1)
 | 6=>thenL (matchL l F (fun x=>if 0 < whichL [kFrom,kTo] (smallL x) then 0 else 7) 6 pos s) fun x s1=>.ok ((x,[]),s1)
 | 7=>thenL (matchL l F (fun _=>0) 7 pos s) fun x s1=>.ok ((x,[]),s1)
 | 8=>thenL (stringsL l (fun _=>0) F s) fun xs s1=>.ok ((⟨8,pos,0,false,xs,[],0⟩,[]),s1)
 | _=>thenL (sizeL l pos s) fun x s1=>.ok ((x,[]),s1)
def testL (l:List UInt8) (req:List (List UInt8)) (F:Nat):(n:Nat)→PS→Except Flt (TestT n×PS)
 | 0,s=>if s.1.kind=1 then .error ⟨5,s.1.pos⟩ else .error ⟨4,s.1.pos⟩
 | n+1,s=>
  if whichL testNames s.1.spelt=0 then .error ⟨4,s.1.pos⟩
  else if useOk req s.1.spelt then nextThen l s fun s1=>testBody l F (testL l req F n) (whichL testNames s.1.spelt - 1) s.1.pos s1
  else .error ⟨6,s.1.pos⟩
def blockMore {α:Type} (l:List UInt8) (sub:PS→Except Flt (α×PS)):Nat→List α→PS→Except Flt (List α×PS)
 | 0,acc,s=>.ok (acc,s)
 | f+1,acc,s=>thenL (mayL l [[125]] s) fun i s1=>
   if i=0 then thenL (sub s1) fun c s2=>blockMore l sub f (acc++[c]) s2 else .ok (acc,s1)
def blockL {α:Type} (l:List UInt8) (F:Nat) (sub:PS→Except Flt (α×PS)) (s:PS):Except Flt (List α×PS):=
 thenL (passL l [[123]] s) fun _ s1=>blockMore l sub F [] s1
def armL {α β:Type} (l:List UInt8) (F:Nat) (tst:PS→Except Flt (β×PS)) (sub:PS→Except Flt (α×PS)) (s:PS):Except Flt ((β×List α)×PS):=
 thenL (tst s) fun t s1=>thenL (blockL l F sub s1) fun cs s2=>.ok ((t,cs),s2)
def armsMore {α β:Type} (l:List UInt8) (F:Nat) (tst:PS→Except Flt (β×PS)) (sub:PS→Except Flt (α×PS)):Nat→List (β×List α)→PS→Except Flt (List (β×List α)×PS)
 | 0,acc,s=>.ok (acc,s)
 | f+1,acc,s=>thenL (mayL l [kElsif] s) fun i s1=>
   if i=0 then .ok (acc,s1) else thenL (armL l F tst sub s1) fun a s2=>armsMore l F tst sub f (acc++[a]) s2
def semi {α:Type} (l:List UInt8) (s:PS) (a:α):Except Flt (α×PS):=thenL (passL l [[59]] s) fun _ s1=>.ok (a,s1)
def cmdBody {α β:Type} (l:List UInt8) (F:Nat) (tst:PS→Except Flt (β×PS)) (sub:PS→Except Flt (α×PS)) (k pos:Nat) (s:PS):Except Flt ((CLab×List (β×List α)×List α)×PS):=
 match k with
 | 0=>semi l s (⟨0,pos,0,[],[],false⟩,[],[])
 | 1=>semi l s (⟨1,pos,0,[],[],false⟩,[],[])
 | 2=>semi l s (⟨2,pos,0,[],[],false⟩,[],[])
 | 3=>thenL (stringL l (fun _=>0) s) fun x s1=>semi l s1 (⟨3,pos,0,x,[],false⟩,[],[])
 | 4=>thenL (stringL l (fun _=>0) s) fun x s1=>semi l s1 (⟨4,pos,0,x,[],false⟩,[],[])
 | 5=>thenL (stringL l (fun _=>0) s) fun x s1=>semi l s1 (⟨5,pos,0,x,[],false⟩,[],[])
 | 6=>thenL (mayL l [tLower,tUpper,tLength] s) fun tag s1=>thenL (stringL l (fun x=>if isNameL x then 0 else 7) s1) fun v s2=>
   thenL (stringL l (fun _=>0) s2) fun x s3=>semi l s3 (⟨6,pos,tag,x,smallL v,false⟩,[],[])
 | _=>thenL (armL l F tst sub s) fun a s1=>thenL (armsMore l F tst sub F [a] s1) fun arms s2=>thenL (mayL l [kElse] s2) fun i s3=>
   if i=0 then .ok ((⟨7,pos,0,[],[],false⟩,arms,[]),s3)
   else thenL (blockL l F sub s3) fun cs s4=>.ok ((⟨7,pos,0,[],[],true⟩,arms,cs),s4)
def cmdL (l:List UInt8) (req:List (List UInt8)) (F:Nat):(n:Nat)→PS→Except Flt (CmdT n×PS)
 | 0,s=>if s.1.kind=1 then .error ⟨5,s.1.pos⟩ else .error ⟨4,s.1.pos⟩
 | n+1,s=>
  if whichL cmdNames s.1.spelt=0 then .error ⟨4,s.1.pos⟩
  else if useOk req s.1.spelt then nextThen l s fun s1=>cmdBody l F (testL l req F n) (cmdL l req F n) (whichL cmdNames s.1.spelt - 1) s.1.pos s1
  else .error ⟨6,s.1.pos⟩
def addReq (req:List (List UInt8)) (x:List UInt8):List (List UInt8):=if 0 < whichL req x then req else req++[x]
def reqMore (l:List UInt8) (F:Nat):Nat→List (List UInt8)→PS→Except Flt (List (List UInt8)×PS)
 | 0,req,s=>.ok (req,s)
 | f+1,req,s=>thenL (mayL l [kRequire] s) fun i s1=>
   if i=0 then .ok (req,s1)
   else thenL (stringsL l (fun x=>if 0 < whichL [kEnvelope,kFileinto,kReject,kVariables] x then 0 else 6) F s1) fun xs s2=>
    thenL (passL l [[59]] s2) fun _ s3=>reqMore l F f (xs.foldl addReq req) s3
def cmdsMore {α:Type} (sub:PS→Except Flt (α×PS)):Nat→List α→PS→Except Flt (List α)
 | 0,acc,_=>.ok acc
 | f+1,acc,s=>if s.1.kind=0 then .ok acc else
   match sub s with
   | .error e=>.error e
   | .ok y=>cmdsMore sub f (acc++[y.1]) y.2
def parseL (l:List UInt8):Except Flt (List (List UInt8)×List (CmdT 7)):=
 let F:=2*l.length+10
 match nextL l 0 with
 | .error f=>.error f
 | .ok s=>
  match reqMore l F F [] s with
  | .error f=>.error f
  | .ok y=>
   match cmdsMore (cmdL l y.1 F 7) F [] y.2 with
   | .error f=>.error f
   | .ok cs=>.ok (y.1,cs)
def Gd (l:List UInt8) (s:PS):Prop:=s.2≤l.length∧(s.1.kind=0→s.1.spelt=[])
def Dn {α:Type} (c:Nat) (l:List UInt8) (r:Except Flt (α×PS)) (s:PS):Prop:=∀ y,r=.ok y→Gd l y.2∧mu l.length y.2+c≤mu l.length s
theorem Dn.err {α:Type} {c:Nat} {l:List UInt8} {f:Flt} {s:PS}:Dn c l (.error f:Except Flt (α×PS)) s:=fun y h=>by cases h
theorem Dn.ok {α:Type} {l:List UInt8} {a:α} {s:PS} (h:Gd l s):Dn 0 l (.ok (a,s):Except Flt (α×PS)) s:=fun y e=>by cases e;exact ⟨h,Nat.le_refl _⟩
theorem Dn.weak {α:Type} {c c':Nat} {l:List UInt8} {r:Except Flt (α×PS)} {s:PS} (h:Dn c l r s) (hc:c'≤c):Dn c' l r s:=fun y e=>⟨(h y e).1,by have:=(h y e).2;omega⟩
theorem Dn.andThen {α β:Type} {c c':Nat} {l:List UInt8} {r:Except Flt (α×PS)} {k:α→PS→Except Flt (β×PS)} {s:PS} (h:Dn c l r s) (hk:∀ a s1,Gd l s1→Dn c' l (k a s1) s1):Dn (c+c') l (thenL r k) s:=fun y e=>by
 cases hr:r with
 | error f=>rw [thenL_err hr] at e;cases e
 | ok z=>
  rw [thenL_ok hr] at e
  obtain ⟨h1,h2⟩:=h z hr
  obtain ⟨h3,h4⟩:=hk z.1 z.2 h1 y e
  exact ⟨h3,by omega⟩
theorem next_gd {l:List UInt8} {s y:PS} (h:Gd l s) (hn:nextL l s.2=.ok y):Gd l y:=by
 obtain ⟨h1,h2,h3,h4,h5⟩:=nextL_le l s.2 h.1 y hn
 exact ⟨h2,h4⟩
theorem Dn.next {β:Type} {c:Nat} {l:List UInt8} {k:PS→Except Flt (β×PS)} {s:PS} (h:Gd l s) (hz:¬ s.1.kind=0) (hk:∀ s1,Gd l s1→Dn c l (k s1) s1):Dn (c+1) l (nextThen l s k) s:=fun y e=>by
 cases hr:nextL l s.2 with
 | error f=>rw [nextThen_err hr] at e;cases e
 | ok z=>
  rw [nextThen_ok hr] at e
  have h1:=nextL_mu h.1 hz hr
  obtain ⟨h3,h4⟩:=hk z (next_gd h hr) y e
  exact ⟨h3,by omega⟩
theorem pass_dn {l:List UInt8} {zs:List (List UInt8)} {s:PS} (h:Gd l s) (hz:∀ z∈zs,z≠[]):Dn 1 l (passL l zs s) s:=fun y e=>by
 refine ⟨?_,(passL_mu h.1 h.2 hz e).1⟩
 unfold passL at e
 split at e
 ·cases e
 ·cases hn:nextL l s.2 with
  | error f=>rw [hn] at e;cases e
  | ok s'=>rw [hn] at e;cases e;exact next_gd h hn
theorem may_dn {l:List UInt8} {zs:List (List UInt8)} {s:PS} (h:Gd l s) (hz:∀ z∈zs,z≠[]):Dn 0 l (mayL l zs s) s:=fun y e=>by
 refine ⟨?_,(mayL_mu h.1 h.2 hz e).1⟩
 unfold mayL at e
 split at e
 ·cases e;exact h
 ·cases hn:nextL l s.2 with
  | error f=>rw [hn] at e;cases e
  | ok s'=>rw [hn] at e;cases e;exact next_gd h hn
theorem string_dn {l:List UInt8} {chk:List UInt8→Nat} {s:PS} (h:Gd l s):Dn 1 l (stringL l chk s) s:=fun y e=>by
 refine ⟨?_,(stringL_mu h.1 e).1⟩
 unfold stringL at e
 split at e
 ·split at e
  ·cases hn:nextL l s.2 with
   | error f=>rw [hn] at e;cases e
   | ok s'=>rw [hn] at e;cases e;exact next_gd h hn
  ·cases e
 ·cases e
theorem more_dn {l:List UInt8} {chk:List UInt8→Nat}:∀ (f:Nat) (acc:List (List UInt8)) (s:PS),Gd l s→Dn 0 l (moreL l chk f acc s) s
 | 0,acc,s,h=>Dn.ok h
 | f+1,acc,s,h=>fun y e=>by
  rw [moreL] at e
  cases hp:passL l [[44],[93]] s with
  | error g=>rw [hp] at e;cases e
  | ok z=>
   rw [hp] at e
   obtain ⟨h1,h2⟩:=pass_dn (zs:=[[44],[93]]) h (by decide) z hp
   dsimp only at e
   split at e
   ·cases hs:stringL l chk z.2 with
    | error g=>rw [hs] at e;cases e
    | ok x=>
     rw [hs] at e
     obtain ⟨h3,h4⟩:=string_dn h1 x hs
     obtain ⟨h5,h6⟩:=more_dn f _ x.2 h3 y e
     exact ⟨h5,by omega⟩
   ·cases e;exact ⟨h1,by dsimp only;omega⟩
theorem strings_dn {l:List UInt8} {chk:List UInt8→Nat} {F:Nat} {s:PS} (h:Gd l s):Dn 1 l (stringsL l chk F s) s:=fun y e=>by
 unfold stringsL at e
 cases hm:mayL l [[91]] s with
 | error g=>rw [hm] at e;cases e
 | ok z=>
  rw [hm] at e
  obtain ⟨h1,h2⟩:=may_dn (zs:=[[91]]) h (by decide) z hm
  dsimp only at e
  cases hs:stringL l chk z.2 with
  | error g=>rw [hs] at e;cases e
  | ok x=>
   rw [hs] at e
   obtain ⟨h3,h4⟩:=string_dn h1 x hs
   dsimp only at e
   split at e
   ·cases e;exact ⟨h3,by dsimp only;omega⟩
   ·obtain ⟨h5,h6⟩:=more_dn F _ x.2 h3 y e
    exact ⟨h5,by omega⟩
theorem kind_which {l:List UInt8} {zs:List (List UInt8)} {s:PS} (h:Gd l s) (hz:∀ z∈zs,z≠[]) (h0:¬ whichL zs s.1.spelt=0):¬ s.1.kind=0:=fun e=>h0 (by rw [h.2 e];exact whichL_nil zs hz)
theorem opt_dn {l:List UInt8}:∀ (f tag:Nat) (oct cmp:Bool) (s:PS),Gd l s→Dn 0 l (optL l f tag oct cmp s) s
 | 0,tag,oct,cmp,s,h=>Dn.ok h
 | f+1,tag,oct,cmp,s,h=>by
  rw [optL]
  by_cases h1:whichL [tIs,tContains,tMatches] s.1.spelt=0
  ·rw [if_pos h1]
   by_cases h2:whichL [tComparator] s.1.spelt=0
   ·rw [if_pos h2];exact Dn.ok h
   ·rw [if_neg h2]
    cases cmp
    ·rw [if_neg (by decide)]
     refine (Dn.next (c:=0) h (kind_which (zs:=[tComparator]) h (by decide) h2) fun s1 g1=>?_).weak (by omega)
     exact ((string_dn g1).andThen (c':=0) fun x s2 g2=>opt_dn f _ _ _ s2 g2).weak (by omega)
    ·rw [if_pos rfl];exact Dn.err
  ·rw [if_neg h1]
   by_cases ht:tag=0
   ·rw [if_pos ht]
    exact (Dn.next (c:=0) h (kind_which (zs:=[tIs,tContains,tMatches]) h (by decide) h1) fun s1 g1=>opt_dn f _ _ _ s1 g1).weak (by omega)
   ·rw [if_neg ht];exact Dn.err
theorem match_dn {l:List UInt8} {F:Nat} {chk:List UInt8→Nat} {k pos:Nat} {s:PS} (h:Gd l s):Dn 0 l (matchL l F chk k pos s) s:=by
 unfold matchL
 exact ((opt_dn F 0 false false s h).andThen (c':=1) fun o s1 g1=>((strings_dn g1).andThen (c':=0) fun fr s2 g2=>((strings_dn g2).andThen (c':=0) fun ks s3 g3=>Dn.ok g3).weak (by omega)).weak (by omega)).weak (by omega)
theorem groupMore_dn {α:Type} {l:List UInt8} {sub:PS→Except Flt (α×PS)} (hs:∀ s,Gd l s→Dn 1 l (sub s) s):∀ (f:Nat) (acc:List α) (s:PS),Gd l s→Dn 0 l (groupMore l sub f acc s) s
 | 0,acc,s,h=>Dn.ok h
 | f+1,acc,s,h=>by
  rw [groupMore]
  refine ((pass_dn h (by decide)).andThen (c':=0) fun i s1 g1=>?_).weak (by omega)
  split
  ·exact ((hs s1 g1).andThen (c':=0) fun t s2 g2=>groupMore_dn hs f _ s2 g2).weak (by omega)
  ·exact Dn.ok g1
theorem group_dn {α:Type} {l:List UInt8} {F:Nat} {sub:PS→Except Flt (α×PS)} (hs:∀ s,Gd l s→Dn 1 l (sub s) s) {s:PS} (h:Gd l s):Dn 0 l (groupL l F sub s) s:=by
 unfold groupL
 exact ((pass_dn h (by decide)).andThen (c':=0) fun _ s1 g1=>((hs s1 g1).andThen (c':=0) fun t s2 g2=>groupMore_dn hs F _ s2 g2).weak (by omega)).weak (by omega)
theorem size_dn {l:List UInt8} {pos:Nat} {s:PS} (h:Gd l s):Dn 0 l (sizeL l pos s) s:=by
 unfold sizeL
 refine ((pass_dn h (by decide)).andThen (c':=0) fun i s1 g1=>?_).weak (by omega)
 split
 ·rename_i hk
  exact (Dn.next (c:=0) g1 (by omega) fun s2 g2=>Dn.ok g2).weak (by omega)
 ·exact Dn.err
theorem testBody_dn {α:Type} {l:List UInt8} {F:Nat} {sub:PS→Except Flt (α×PS)} (hs:∀ s,Gd l s→Dn 1 l (sub s) s) (k pos:Nat) {s:PS} (h:Gd l s):Dn 0 l (testBody l F sub k pos s) s:=by
 unfold testBody
 split
 ·exact Dn.ok h
 ·exact Dn.ok h
 ·exact ((hs s h).andThen (c':=0) fun _ _ g=>Dn.ok g).weak (by omega)
 ·exact ((group_dn hs h).andThen (c':=0) fun _ _ g=>Dn.ok g).weak (by omega)
 ·exact ((group_dn hs h).andThen (c':=0) fun _ _ g=>Dn.ok g).weak (by omega)
 ·exact ((match_dn h).andThen (c':=0) fun _ _ g=>Dn.ok g).weak (by omega)
 ·exact ((match_dn h).andThen (c':=0) fun _ _ g=>Dn.ok g).weak (by omega)
 ·exact ((match_dn h).andThen (c':=0) fun _ _ g=>Dn.ok g).weak (by omega)
 ·exact ((strings_dn h).andThen (c':=0) fun _ _ g=>Dn.ok g).weak (by omega)
 ·exact ((size_dn h).andThen (c':=0) fun _ _ g=>Dn.ok g).weak (by omega)
theorem test_dn {l:List UInt8} {req:List (List UInt8)} {F:Nat}:∀ (n:Nat) (s:PS),Gd l s→Dn 1 l (testL l req F n s) s
 | 0,s,h=>by
  rw [testL]
  split <;> exact Dn.err
 | n+1,s,h=>by
  rw [testL]
  by_cases h0:whichL testNames s.1.spelt=0
  ·rw [if_pos h0];exact Dn.err
  ·rw [if_neg h0]
   cases hu:useOk req s.1.spelt
   ·rw [if_neg (by decide)];exact Dn.err
   ·rw [if_pos rfl]
    exact (Dn.next (c:=0) h (kind_which (zs:=testNames) h (by decide) h0) fun s1 g1=>testBody_dn (fun s g=>test_dn n s g) _ _ g1).weak (by omega)
theorem blockMore_dn {α:Type} {l:List UInt8} {sub:PS→Except Flt (α×PS)} (hs:∀ s,Gd l s→Dn 1 l (sub s) s):∀ (f:Nat) (acc:List α) (s:PS),Gd l s→Dn 0 l (blockMore l sub f acc s) s
 | 0,acc,s,h=>Dn.ok h
 | f+1,acc,s,h=>by
  rw [blockMore]
  refine ((may_dn h (by decide)).andThen (c':=0) fun i s1 g1=>?_).weak (by omega)
  split
  ·exact ((hs s1 g1).andThen (c':=0) fun t s2 g2=>blockMore_dn hs f _ s2 g2).weak (by omega)
  ·exact Dn.ok g1
theorem block_dn {α:Type} {l:List UInt8} {F:Nat} {sub:PS→Except Flt (α×PS)} (hs:∀ s,Gd l s→Dn 1 l (sub s) s) {s:PS} (h:Gd l s):Dn 1 l (blockL l F sub s) s:=by
 unfold blockL
 exact (pass_dn h (by decide)).andThen (c':=0) fun _ s1 g1=>blockMore_dn hs F _ s1 g1
theorem arm_dn {α β:Type} {l:List UInt8} {F:Nat} {tst:PS→Except Flt (β×PS)} {sub:PS→Except Flt (α×PS)} (ht:∀ s,Gd l s→Dn 1 l (tst s) s) (hs:∀ s,Gd l s→Dn 1 l (sub s) s) {s:PS} (h:Gd l s):Dn 1 l (armL l F tst sub s) s:=by
 unfold armL
 exact ((ht s h).andThen (c':=0) fun t s1 g1=>((block_dn hs g1).andThen (c':=0) fun cs s2 g2=>Dn.ok g2).weak (by omega))
theorem arms_dn {α β:Type} {l:List UInt8} {F:Nat} {tst:PS→Except Flt (β×PS)} {sub:PS→Except Flt (α×PS)} (ht:∀ s,Gd l s→Dn 1 l (tst s) s) (hs:∀ s,Gd l s→Dn 1 l (sub s) s):∀ (f:Nat) (acc:List (β×List α)) (s:PS),Gd l s→Dn 0 l (armsMore l F tst sub f acc s) s
 | 0,acc,s,h=>Dn.ok h
 | f+1,acc,s,h=>by
  rw [armsMore]
  refine ((may_dn h (by decide)).andThen (c':=0) fun i s1 g1=>?_).weak (by omega)
  split
  ·exact Dn.ok g1
  ·exact ((arm_dn ht hs g1).andThen (c':=0) fun a s2 g2=>arms_dn ht hs f _ s2 g2).weak (by omega)
theorem semi_dn {α:Type} {l:List UInt8} {s:PS} {a:α} (h:Gd l s):Dn 0 l (semi l s a) s:=by
 unfold semi
 exact ((pass_dn h (by decide)).andThen (c':=0) fun _ s1 g1=>Dn.ok g1).weak (by omega)
theorem cmdBody_dn {α β:Type} {l:List UInt8} {F:Nat} {tst:PS→Except Flt (β×PS)} {sub:PS→Except Flt (α×PS)} (ht:∀ s,Gd l s→Dn 1 l (tst s) s) (hs:∀ s,Gd l s→Dn 1 l (sub s) s) (k pos:Nat) {s:PS} (h:Gd l s):Dn 0 l (cmdBody l F tst sub k pos s) s:=by
 unfold cmdBody
 split
 ·exact semi_dn h
 ·exact semi_dn h
 ·exact semi_dn h
 ·exact ((string_dn h).andThen (c':=0) fun _ _ g=>semi_dn g).weak (by omega)
 ·exact ((string_dn h).andThen (c':=0) fun _ _ g=>semi_dn g).weak (by omega)
 ·exact ((string_dn h).andThen (c':=0) fun _ _ g=>semi_dn g).weak (by omega)
 ·exact ((may_dn h (by decide)).andThen (c':=0) fun _ _ g1=>((string_dn g1).andThen (c':=0) fun _ _ g2=>((string_dn g2).andThen (c':=0) fun _ _ g3=>semi_dn g3).weak (by omega)).weak (by omega)).weak (by omega)
 ·refine ((arm_dn ht hs h).andThen (c':=0) fun a s1 g1=>((arms_dn ht hs F _ s1 g1).andThen (c':=0) fun arms s2 g2=>((may_dn g2 (by decide)).andThen (c':=0) fun i s3 g3=>?_).weak (by omega)).weak (by omega)).weak (by omega)
  split
  ·exact Dn.ok g3
  ·exact ((block_dn hs g3).andThen (c':=0) fun _ _ g4=>Dn.ok g4).weak (by omega)
theorem cmd_dn {l:List UInt8} {req:List (List UInt8)} {F:Nat}:∀ (n:Nat) (s:PS),Gd l s→Dn 1 l (cmdL l req F n s) s
 | 0,s,h=>by
  rw [cmdL]
  split <;> exact Dn.err
 | n+1,s,h=>by
  rw [cmdL]
  by_cases h0:whichL cmdNames s.1.spelt=0
  ·rw [if_pos h0];exact Dn.err
  ·rw [if_neg h0]
   cases hu:useOk req s.1.spelt
   ·rw [if_neg (by decide)];exact Dn.err
   ·rw [if_pos rfl]
    exact (Dn.next (c:=0) h (kind_which (zs:=cmdNames) h (by decide) h0) fun s1 g1=>cmdBody_dn (fun s g=>test_dn n s g) (fun s g=>cmd_dn n s g) _ _ g1).weak (by omega)
def quoteB (c:UInt8):List UInt8:=if c=34∨c=92 then [92,c] else [c]
def quotedL (x:List UInt8):List UInt8:=34 :: (x.flatMap quoteB++[34])
def joinL (sep:List UInt8):List (List UInt8)→List UInt8
 | []=>[]
 | [x]=>x
 | x :: y :: r=>x++sep++joinL sep (y :: r)
def quotesL (xs:List (List UInt8)):List UInt8:=
 match xs with
 | [x]=>quotedL x
 | xs=>[91]++joinL [44,32] (xs.map quotedL)++[93]
def phraseStep (t p:List UInt8):List UInt8:=(if t≠[]∧p≠[] then t++[32] else t)++p
def phraseL (parts:List (List UInt8)):List UInt8:=parts.foldl phraseStep []
def tagTextL (tag:Nat) (tags:List (List UInt8)):List UInt8:=if tag=0 then [] else tags.getD (tag - 1) []
def itoaL (n:Nat):List UInt8:=Lib.decDigits n
def matchTxt (hw:List UInt8) (x:TLab):List UInt8:=
 phraseL [hw,if x.octet then phraseL [tComparator,quotedL cOctet] else [],if x.tag≠1 then tagTextL x.tag [tIs,tContains,tMatches] else [],quotesL x.fr,quotesL x.keys]
def groupTxt (hw:List UInt8) (ts:List (List UInt8)):List UInt8:=hw++[32,40]++joinL [44,32] ts++[41]
def testNode (x:TLab) (ts:List (List UInt8)):List UInt8:=
 match x.kind with
 | 0=>kTrue
 | 1=>kFalse
 | 2=>phraseL (kNot :: ts)
 | 3=>groupTxt kAllof ts
 | 4=>groupTxt kAnyof ts
 | 5=>matchTxt kHeader x
 | 6=>matchTxt kEnvelope x
 | 7=>matchTxt kString x
 | 8=>phraseL [kExists,quotesL x.fr]
 | _=>phraseL [kSize,tagTextL x.tag [tOver,tUnder],itoaL x.num]
def testTxt:(n:Nat)→TestT n→List UInt8
 | 0,_=>[]
 | n+1,x=>testNode x.1 (x.2.map (testTxt n))
def kElsifB:List UInt8:=125 :: 32 :: kElsif
def openB:List UInt8:=[123,10]
def elseB:List UInt8:=125 :: 32 :: (kElse++[32,123,10])
def linesL {α:Type} (txt:α→List UInt8→List UInt8) (cs:List α) (i:List UInt8):List UInt8:=cs.flatMap fun c=>i++txt c i++[10]
def armTxt (word i:List UInt8) (t b:List UInt8):List UInt8:=phraseL [word,t,openB]++b++i
def armsTxt (i:List UInt8):List UInt8→List (List UInt8×List UInt8)→List UInt8
 | _,[]=>[]
 | word,a :: r=>armTxt word i a.1 a.2++armsTxt i kElsifB r
def cmdNode (x:CLab) (i:List UInt8) (arms:List (List UInt8×List UInt8)) (els:List UInt8):List UInt8:=
 match x.kind with
 | 0=>kKeep++[59]
 | 1=>kDiscard++[59]
 | 2=>kStop++[59]
 | 3=>phraseL [kFileinto,quotedL x.arg]++[59]
 | 4=>phraseL [kRedirect,quotedL x.arg]++[59]
 | 5=>phraseL [kReject,quotedL x.arg]++[59]
 | 6=>phraseL [kSet,tagTextL x.tag [tLower,tUpper,tLength],quotedL x.var,quotedL x.arg]++[59]
 | _=>armsTxt i kIf arms++(if x.els then elseB++els++i else [])++[125]
def cmdTxt:(n:Nat)→CmdT n→List UInt8→List UInt8
 | 0,_,_=>[]
 | n+1,x,i=>cmdNode x.1 i (x.2.1.map fun a=>(testTxt n a.1,linesL (cmdTxt n) a.2 (i++[32,32]))) (linesL (cmdTxt n) x.2.2 (i++[32,32]))
def requireTxt (req:List (List UInt8)):List UInt8:=if req=[] then [] else kRequire++[32]++quotesL req++[59,10]
def textL (t:List (List UInt8)×List (CmdT 7)):List UInt8:=requireTxt t.1++linesL (cmdTxt 7) t.2 []
structure Gp (l:List UInt8) (s:PS):Prop where
 le:s.2≤l.length
 lt:s.1.pos≤s.2
 word:s.1.kind≠0→s.1.pos < s.2
 said:s.1.kind=5→s.1.said.length+2≤s.2 - s.1.pos
 spelt:s.1.kind=0→s.1.spelt=[]
 num:s.1.num≤2147483647
def ph (l:List UInt8) (s:PS):Nat:=l.length - s.1.pos
theorem scanL_gp (l:List UInt8) (p:Nat) (hp:p≤l.length) (x:PS) (h:scanL (l.drop p) p=.ok x):Gp l x∧x.1.pos=p:=by
 obtain ⟨h1,h2,h3,h4,h5⟩:=scanL_le l p hp x h
 refine ⟨⟨h2,by omega,fun hk=>by have:=h5 hk;omega,fun hk=>?_,fun hk=>(h4 hk).2,(scanL_small l p x h).2⟩,h1⟩
 generalize l.drop p=r at h
 cases r with
 | nil=>unfold scanL at h;dsimp only at h;cases h;cases hk
 | cons c r=>
  unfold scanL at h
  dsimp only at h
  split at h
  ·cases h;cases hk
  ·split at h
   ·split at h
    ·cases h
    ·cases h;cases hk
   ·split at h
    ·obtain ⟨n',v',he⟩:∃ n' v':Nat,scanNumL (c :: r) p=if letdig ((c :: r).getD n' 0) then .error ⟨2,p⟩ else if 2147483647 < v' then .error ⟨3,p⟩ else .ok (⟨4,p,[],[],v'⟩,p+n'):=⟨_,_,rfl⟩
     rw [he] at h
     split at h
     ·cases h
     ·split at h
      ·cases h
      ·cases h;cases hk
    ·split at h
     ·unfold quoteR at h
      cases hq:quoteL r with
      | none=>rw [hq] at h;cases h
      | some y=>
       rw [hq] at h
       have h2:=quoteL_said _ _ hq
       cases h
       simp;omega
     ·split at h
      ·cases h;cases hk
      ·cases h
theorem nextL_gp {l:List UInt8} {s y:PS} (h:Gp l s) (hn:nextL l s.2=.ok y):Gp l y∧s.2≤y.1.pos:=by
 unfold nextL at hn
 cases hs:skipF (l.length+1) (l.drop s.2) s.2 with
 | error f=>rw [hs] at hn;cases hn
 | ok n=>
  rw [hs] at hn
  have h1:=skipF_le l _ s.2 n h.le hs
  have h2:=scanL_gp l n h1.2 y hn
  exact ⟨h2.1,by omega⟩
def Bd {α:Type} (c:Nat) (l:List UInt8) (len:α→Nat) (r:Except Flt (α×PS)) (s:PS):Prop:=∀ y,r=.ok y→Gp l y.2∧len y.1+c+64*ph l y.2≤64*ph l s
theorem Bd.err {α:Type} {c:Nat} {l:List UInt8} {len:α→Nat} {f:Flt} {s:PS}:Bd c l len (.error f) s:=fun y h=>by cases h
theorem Bd.okk {α:Type} {l:List UInt8} {len:α→Nat} {a:α} {s:PS} (h:Gp l s) (ha:len a=0):Bd 0 l len (.ok (a,s)) s:=fun y e=>by cases e;exact ⟨h,by simp only [ha];omega⟩
theorem gp_next {l:List UInt8} {s y:PS} (h:Gp l s) (hk:s.1.kind≠0) (hn:nextL l s.2=.ok y):Gp l y∧64+64*ph l y≤64*ph l s:=by
 obtain ⟨h1,h2⟩:=nextL_gp h hn
 have h3:=h.word hk
 have h4:=h.le
 have h5:=h1.le
 have h6:=h1.lt
 refine ⟨h1,?_⟩
 unfold ph
 omega
theorem gp_kind {l:List UInt8} {zs:List (List UInt8)} {s:PS} (h:Gp l s) (hz:∀ z∈zs,z≠[]) (h0:¬ whichL zs s.1.spelt=0):s.1.kind≠0:=fun e=>h0 (by rw [h.spelt e];exact whichL_nil zs hz)
theorem pass_bd {l:List UInt8} {zs:List (List UInt8)} {s:PS} (h:Gp l s) (hz:∀ z∈zs,z≠[]):Bd 64 l (fun _=>0) (passL l zs s) s:=fun y e=>by
 unfold passL at e
 split at e
 ·cases e
 ·rename_i h0
  cases hn:nextL l s.2 with
  | error f=>rw [hn] at e;cases e
  | ok s'=>rw [hn] at e;cases e;have:=gp_next h (gp_kind h hz h0) hn;exact ⟨this.1,by dsimp only;omega⟩
theorem may_bd {l:List UInt8} {zs:List (List UInt8)} {s:PS} (h:Gp l s) (hz:∀ z∈zs,z≠[]):Bd 0 l (fun i=>if i=0 then 0 else 64) (mayL l zs s) s:=fun y e=>by
 unfold mayL at e
 split at e
 ·cases e;exact ⟨h,by simp⟩
 ·rename_i h0
  cases hn:nextL l s.2 with
  | error f=>rw [hn] at e;cases e
  | ok s'=>rw [hn] at e;cases e;have:=gp_next h (gp_kind h hz h0) hn;exact ⟨this.1,by dsimp only;rw [if_neg h0];omega⟩
theorem quotedL_len (x:List UInt8):(quotedL x).length≤2*x.length+2:=by
 unfold quotedL
 rw [List.length_cons,List.length_append]
 have:(x.flatMap quoteB).length≤2*x.length:=by
  induction x with
  | nil=>simp
  | cons c r ih=>
   rw [List.flatMap_cons,List.length_append,List.length_cons]
   have:(quoteB c).length≤2:=by unfold quoteB;split <;> simp
   omega
 simp only [List.length_cons,List.length_nil]
 omega
theorem string_bd {l:List UInt8} {chk:List UInt8→Nat} {s:PS} (h:Gp l s):Bd 32 l (fun x=>(quotedL x).length) (stringL l chk s) s:=fun y e=>by
 unfold stringL at e
 split at e
 ·rename_i hk
  split at e
  ·cases hn:nextL l s.2 with
   | error f=>rw [hn] at e;cases e
   | ok s'=>
    rw [hn] at e;cases e
    obtain ⟨h1,h2⟩:=nextL_gp h hn
    have h3:=h.said hk
    have h4:=h.le
    have h5:=h1.le
    have h6:=h1.lt
    have h7:=quotedL_len s.1.said
    have h8:=h.lt
    refine ⟨h1,?_⟩
    show (quotedL s.1.said).length+32+64*ph l s'≤64*ph l s
    unfold ph
    omega
  ·cases e
 ·cases e
def sumLen (xs:List (List UInt8)):Nat:=(xs.map fun x=>x.length+2).sum
theorem sumLen_cons (x:List UInt8) (xs:List (List UInt8)):sumLen (x :: xs)=x.length+2+sumLen xs:=by simp [sumLen]
theorem sumLen_append (xs ys:List (List UInt8)):sumLen (xs++ys)=sumLen xs+sumLen ys:=by simp [sumLen]
theorem sumLen_one (x:List UInt8):sumLen [x]=x.length+2:=by simp [sumLen]
theorem joinL_len (xs:List (List UInt8)):(joinL [44,32] xs).length≤sumLen xs:=by
 induction xs with
 | nil=>simp [joinL,sumLen]
 | cons x r ih=>
  cases r with
  | nil=>simp [joinL,sumLen]
  | cons y r=>
   rw [sumLen_cons]
   simp only [joinL,List.length_append,List.length_cons,List.length_nil]
   omega
def qLen (xs:List (List UInt8)):Nat:=sumLen (xs.map quotedL)
theorem quotesL_len (xs:List (List UInt8)):(quotesL xs).length≤qLen xs+2:=by
 unfold quotesL qLen
 split
 ·rw [List.map_cons,List.map_nil,sumLen_one];omega
 ·have:=joinL_len (xs.map quotedL)
  simp only [List.length_append,List.length_cons,List.length_nil]
  omega
theorem more_bd {l:List UInt8} {chk:List UInt8→Nat}:∀ (f:Nat) (acc:List (List UInt8)) (s:PS),Gp l s→∀ y,moreL l chk f acc s=.ok y→Gp l y.2∧qLen y.1+64*ph l y.2≤qLen acc+64*ph l s
 | 0,acc,s,h=>fun y e=>by cases e;exact ⟨h,Nat.le_refl _⟩
 | f+1,acc,s,h=>fun y e=>by
  rw [moreL] at e
  cases hp:passL l [[44],[93]] s with
  | error g=>rw [hp] at e;cases e
  | ok z=>
   rw [hp] at e
   obtain ⟨h1,h2⟩:=pass_bd (zs:=[[44],[93]]) h (by decide) z hp
   dsimp only at e
   split at e
   ·cases hs:stringL l chk z.2 with
    | error g=>rw [hs] at e;cases e
    | ok x=>
     rw [hs] at e
     obtain ⟨h3,h4⟩:=string_bd h1 x hs
     obtain ⟨h5,h6⟩:=more_bd f _ x.2 h3 y e
     refine ⟨h5,?_⟩
     unfold qLen at *
     rw [List.map_append,sumLen_append,List.map_cons,List.map_nil,sumLen_one] at h6
     dsimp only at *
     omega
   ·cases e;exact ⟨h1,by dsimp only;omega⟩
theorem strings_bd {l:List UInt8} {chk:List UInt8→Nat} {F:Nat} {s:PS} (h:Gp l s):Bd 16 l qLen (stringsL l chk F s) s:=fun y e=>by
 unfold stringsL at e
 cases hm:mayL l [[91]] s with
 | error g=>rw [hm] at e;cases e
 | ok z=>
  rw [hm] at e
  obtain ⟨h1,h2⟩:=may_bd (zs:=[[91]]) h (by decide) z hm
  dsimp only at e
  cases hs:stringL l chk z.2 with
  | error g=>rw [hs] at e;cases e
  | ok x=>
   rw [hs] at e
   obtain ⟨h3,h4⟩:=string_bd h1 x hs
   dsimp only at e
   have h9:qLen [x.1]=(quotedL x.1).length+2:=by unfold qLen;rw [List.map_cons,List.map_nil,sumLen_one]
   split at e
   ·cases e;exact ⟨h3,by dsimp only at *;omega⟩
   ·obtain ⟨h5,h6⟩:=more_bd F _ x.2 h3 y e
    exact ⟨h5,by dsimp only at *;omega⟩
theorem phraseStep_len (t p:List UInt8):(phraseStep t p).length≤t.length+1+p.length:=by
 unfold phraseStep
 split <;> simp only [List.length_append,List.length_cons,List.length_nil] <;> omega
def plainLen (ps:List (List UInt8)):Nat:=(ps.map fun p=>p.length+1).sum
theorem phrase_len:∀ (ps:List (List UInt8)) (t:List UInt8),(ps.foldl phraseStep t).length≤t.length+plainLen ps
 | [],t=>by simp [plainLen]
 | p :: r,t=>by
  have h1:=phrase_len r (phraseStep t p)
  have h2:=phraseStep_len t p
  rw [List.foldl_cons]
  simp only [plainLen,List.map_cons,List.sum_cons] at h1 ⊢
  omega
theorem phraseL_len (ps:List (List UInt8)):(phraseL ps).length≤plainLen ps:=by
 have:=phrase_len ps []
 simpa [phraseL] using this
theorem tagTextL_len (tag:Nat) (tags:List (List UInt8)) (m:Nat) (h:∀ z∈tags,z.length≤m):(tagTextL tag tags).length≤m:=by
 unfold tagTextL
 split
 ·simp
 ·rw [List.getD_eq_getElem?_getD]
  cases he:tags[tag - 1]? with
  | none=>simp
  | some z=>exact h z (List.mem_of_getElem? he)
theorem opt_bd {l:List UInt8}:∀ (f tag:Nat) (oct cmp:Bool) (s:PS),Gp l s→Bd 0 l (fun _=>0) (optL l f tag oct cmp s) s
 | 0,tag,oct,cmp,s,h=>Bd.okk h rfl
 | f+1,tag,oct,cmp,s,h=>fun y e=>by
  rw [optL] at e
  by_cases h1:whichL [tIs,tContains,tMatches] s.1.spelt=0
  ·rw [if_pos h1] at e
   by_cases h2:whichL [tComparator] s.1.spelt=0
   ·rw [if_pos h2] at e;cases e;exact ⟨h,by simp⟩
   ·rw [if_neg h2] at e
    cases cmp
    ·rw [if_neg (by decide)] at e
     cases hn:nextL l s.2 with
     | error g=>rw [nextThen_err hn] at e;cases e
     | ok z=>
      rw [nextThen_ok hn] at e
      obtain ⟨g1,g2⟩:=gp_next h (gp_kind (zs:=[tComparator]) h (by decide) h2) hn
      cases hs:stringL l (fun x=>if 0 < whichL [cOctet,cCasemap] x then 0 else 7) z with
      | error g=>rw [thenL_err hs] at e;cases e
      | ok x=>
       rw [thenL_ok hs] at e
       obtain ⟨g3,g4⟩:=string_bd g1 x hs
       obtain ⟨g5,g6⟩:=opt_bd f _ _ _ x.2 g3 y e
       exact ⟨g5,by dsimp only at *;omega⟩
    ·rw [if_pos rfl] at e;cases e
  ·rw [if_neg h1] at e
   by_cases ht:tag=0
   ·rw [if_pos ht] at e
    cases hn:nextL l s.2 with
    | error g=>rw [nextThen_err hn] at e;cases e
    | ok z=>
     rw [nextThen_ok hn] at e
     obtain ⟨g1,g2⟩:=gp_next h (gp_kind (zs:=[tIs,tContains,tMatches]) h (by decide) h1) hn
     obtain ⟨g5,g6⟩:=opt_bd f _ _ _ z g1 y e
     exact ⟨g5,by dsimp only at *;omega⟩
   ·rw [if_neg ht] at e;cases e
theorem matchTxt_len (hw:List UInt8) (x:TLab) (h:hw.length≤8):(matchTxt hw x).length≤52+qLen x.fr+qLen x.keys:=by
 unfold matchTxt
 have h1:=phraseL_len [hw,if x.octet then phraseL [tComparator,quotedL cOctet] else [],if x.tag≠1 then tagTextL x.tag [tIs,tContains,tMatches] else [],quotesL x.fr,quotesL x.keys]
 have h2:=quotesL_len x.fr
 have h3:=quotesL_len x.keys
 have h4:(if x.octet then phraseL [tComparator,quotedL cOctet] else []).length≤21:=by
  split
  ·decide
  ·simp
 have h5:(if x.tag≠1 then tagTextL x.tag [tIs,tContains,tMatches] else []).length≤9:=by
  split
  ·exact tagTextL_len _ _ 9 (by decide)
  ·simp
 simp only [plainLen,List.map_cons,List.map_nil,List.sum_cons,List.sum_nil] at h1
 omega
theorem match_bd {l:List UInt8} {F:Nat} {chk:List UInt8→Nat} {k pos:Nat} {s:PS} (h:Gp l s):Bd 16 l (fun x=>qLen x.fr+qLen x.keys) (matchL l F chk k pos s) s:=fun y e=>by
 unfold matchL at e
 cases h1:optL l F 0 false false s with
 | error f=>rw [thenL_err h1] at e;cases e
 | ok a=>
  rw [thenL_ok h1] at e
  obtain ⟨g1,g2⟩:=opt_bd F 0 false false s h a h1
  cases h2:stringsL l chk F a.2 with
  | error f=>rw [thenL_err h2] at e;cases e
  | ok c=>
   rw [thenL_ok h2] at e
   obtain ⟨g3,g4⟩:=strings_bd g1 c h2
   cases h3:stringsL l (fun _=>0) F c.2 with
   | error f=>rw [thenL_err h3] at e;cases e
   | ok d=>
    rw [thenL_ok h3] at e
    obtain ⟨g5,g6⟩:=strings_bd g3 d h3
    cases e
    exact ⟨g5,by dsimp only at *;omega⟩
theorem groupMore_bd {α:Type} {l:List UInt8} {sub:PS→Except Flt (α×PS)} {txt:α→List UInt8} (hs:∀ s,Gp l s→Bd 8 l (fun x=>(txt x).length) (sub s) s):∀ (f:Nat) (acc:List α) (s:PS),Gp l s→∀ y,groupMore l sub f acc s=.ok y→Gp l y.2∧sumLen (y.1.map txt)+64*ph l y.2≤sumLen (acc.map txt)+64*ph l s
 | 0,acc,s,h=>fun y e=>by cases e;exact ⟨h,Nat.le_refl _⟩
 | f+1,acc,s,h=>fun y e=>by
  rw [groupMore] at e
  cases hp:passL l [[44],[41]] s with
  | error g=>rw [thenL_err hp] at e;cases e
  | ok z=>
   rw [thenL_ok hp] at e
   obtain ⟨h1,h2⟩:=pass_bd (zs:=[[44],[41]]) h (by decide) z hp
   split at e
   ·cases hq:sub z.2 with
    | error g=>rw [thenL_err hq] at e;cases e
    | ok x=>
     rw [thenL_ok hq] at e
     obtain ⟨h3,h4⟩:=hs z.2 h1 x hq
     obtain ⟨h5,h6⟩:=groupMore_bd hs f _ x.2 h3 y e
     refine ⟨h5,?_⟩
     rw [List.map_append,sumLen_append,List.map_cons,List.map_nil,sumLen_one] at h6
     dsimp only at *
     omega
   ·cases e;exact ⟨h1,by dsimp only at *;omega⟩
theorem group_bd {α:Type} {l:List UInt8} {F:Nat} {sub:PS→Except Flt (α×PS)} {txt:α→List UInt8} (hs:∀ s,Gp l s→Bd 8 l (fun x=>(txt x).length) (sub s) s) {s:PS} (h:Gp l s):Bd 16 l (fun xs=>sumLen (xs.map txt)) (groupL l F sub s) s:=fun y e=>by
 unfold groupL at e
 cases hp:passL l [[40]] s with
 | error g=>rw [thenL_err hp] at e;cases e
 | ok z=>
  rw [thenL_ok hp] at e
  obtain ⟨h1,h2⟩:=pass_bd (zs:=[[40]]) h (by decide) z hp
  cases hq:sub z.2 with
  | error g=>rw [thenL_err hq] at e;cases e
  | ok x=>
   rw [thenL_ok hq] at e
   obtain ⟨h3,h4⟩:=hs z.2 h1 x hq
   obtain ⟨h5,h6⟩:=groupMore_bd hs F _ x.2 h3 y e
   refine ⟨h5,?_⟩
   rw [List.map_cons,List.map_nil,sumLen_one] at h6
   dsimp only at *
   omega
theorem itoaL_len (n:Nat) (h:n≤2147483647):(itoaL n).length≤21:=by
 have:=Lib.itoa_length_le n (by omega) (by omega)
 rw [Lib.itoa_nonneg] at this
 exact this
theorem size_bd {l:List UInt8} {pos:Nat} {s:PS} (h:Gp l s):∀ y,sizeL l pos s=.ok y→Gp l y.2∧64*ph l y.2+16≤64*ph l s∧y.1.kind=9∧y.1.num≤2147483647:=fun y e=>by
 unfold sizeL at e
 cases hp:passL l [tOver,tUnder] s with
 | error g=>rw [thenL_err hp] at e;cases e
 | ok z=>
  rw [thenL_ok hp] at e
  obtain ⟨h1,h2⟩:=pass_bd (zs:=[tOver,tUnder]) h (by decide) z hp
  split at e
  ·rename_i hk
   cases hn:nextL l z.2.2 with
   | error g=>rw [nextThen_err hn] at e;cases e
   | ok x=>
    rw [nextThen_ok hn] at e
    obtain ⟨g1,g2⟩:=gp_next h1 (by omega) hn
    cases e
    exact ⟨g1,by dsimp only at *;omega,rfl,h1.num⟩
  ·cases e
theorem match_kind {l:List UInt8} {F:Nat} {chk:List UInt8→Nat} {k pos:Nat} {s:PS} {y:TLab×PS} (h:matchL l F chk k pos s=.ok y):y.1.kind=k:=by
 unfold matchL at h
 cases h1:optL l F 0 false false s with
 | error f=>rw [thenL_err h1] at h;cases h
 | ok a=>
  rw [thenL_ok h1] at h
  cases h2:stringsL l chk F a.2 with
  | error f=>rw [thenL_err h2] at h;cases h
  | ok c=>
   rw [thenL_ok h2] at h
   cases h3:stringsL l (fun _=>0) F c.2 with
   | error f=>rw [thenL_err h3] at h;cases h
   | ok e=>rw [thenL_ok h3] at h;cases h;rfl
theorem testNode_5 (x:TLab) (ts:List (List UInt8)) (h:x.kind=5):testNode x ts=matchTxt kHeader x:=by simp only [testNode,h]
theorem testNode_6 (x:TLab) (ts:List (List UInt8)) (h:x.kind=6):testNode x ts=matchTxt kEnvelope x:=by simp only [testNode,h]
theorem testNode_7 (x:TLab) (ts:List (List UInt8)) (h:x.kind=7):testNode x ts=matchTxt kString x:=by simp only [testNode,h]
theorem testNode_9 (x:TLab) (ts:List (List UInt8)) (h:x.kind=9):testNode x ts=phraseL [kSize,tagTextL x.tag [tOver,tUnder],itoaL x.num]:=by simp only [testNode,h]
theorem testBody_bd (n:Nat) {l:List UInt8} {F:Nat} {sub:PS→Except Flt (TestT n×PS)} (hs:∀ s,Gp l s→Bd 8 l (fun x=>(testTxt n x).length) (sub s) s) (k pos:Nat) {s:PS} (h:Gp l s):∀ y,testBody l F sub k pos s=.ok y→Gp l y.2∧(testTxt (n+1) y.1).length+64*ph l y.2≤56+64*ph l s:=by
 intro y e
 have hg:∀ (hw:List UInt8) (ts:List (List UInt8)),hw.length≤8→(groupTxt hw ts).length≤12+sumLen ts:=fun hw ts hl=>by
  have:=joinL_len ts
  simp only [groupTxt,List.length_append,List.length_cons,List.length_nil]
  omega
 unfold testBody at e
 split at e
 ·cases e;exact ⟨h,by show (4:Nat)+64*ph l s≤_;omega⟩
 ·cases e;exact ⟨h,by show (5:Nat)+64*ph l s≤_;omega⟩
 ·cases hq:sub s with
  | error g=>rw [thenL_err hq] at e;cases e
  | ok x=>
   rw [thenL_ok hq] at e
   obtain ⟨h1,h2⟩:=hs s h x hq
   cases e
   refine ⟨h1,?_⟩
   show (phraseL [kNot,testTxt n x.1]).length+64*ph l x.2≤_
   have:=phraseL_len [kNot,testTxt n x.1]
   simp only [plainLen,List.map_cons,List.map_nil,List.sum_cons,List.sum_nil,show kNot.length=3 from rfl] at this
   dsimp only at *
   omega
 ·cases hq:groupL l F sub s with
  | error g=>rw [thenL_err hq] at e;cases e
  | ok x=>
   rw [thenL_ok hq] at e
   obtain ⟨h1,h2⟩:=group_bd hs h x hq
   cases e
   refine ⟨h1,?_⟩
   show (groupTxt kAllof (x.1.map (testTxt n))).length+64*ph l x.2≤_
   have:=hg kAllof (x.1.map (testTxt n)) (by decide)
   dsimp only at *
   omega
 ·cases hq:groupL l F sub s with
  | error g=>rw [thenL_err hq] at e;cases e
  | ok x=>
   rw [thenL_ok hq] at e
   obtain ⟨h1,h2⟩:=group_bd hs h x hq
   cases e
   refine ⟨h1,?_⟩
   show (groupTxt kAnyof (x.1.map (testTxt n))).length+64*ph l x.2≤_
   have:=hg kAnyof (x.1.map (testTxt n)) (by decide)
   dsimp only at *
   omega
 ·cases hq:matchL l F (fun _=>0) 5 pos s with
  | error g=>rw [thenL_err hq] at e;cases e
  | ok x=>
   rw [thenL_ok hq] at e
   obtain ⟨h1,h2⟩:=match_bd h x hq
   have h3:=match_kind hq
   cases e
   refine ⟨h1,?_⟩
   show (testNode x.1 []).length+64*ph l x.2≤_
   have:=matchTxt_len kHeader x.1 (by decide)
   rw [testNode_5 _ _ h3]
   dsimp only at *
   omega
 ·cases hq:matchL l F (fun x=>if 0 < whichL [kFrom,kTo] (smallL x) then 0 else 7) 6 pos s with
  | error g=>rw [thenL_err hq] at e;cases e
  | ok x=>
   rw [thenL_ok hq] at e
   obtain ⟨h1,h2⟩:=match_bd h x hq
   have h3:=match_kind hq
   cases e
   refine ⟨h1,?_⟩
   show (testNode x.1 []).length+64*ph l x.2≤_
   have:=matchTxt_len kEnvelope x.1 (by decide)
   rw [testNode_6 _ _ h3]
   dsimp only at *
   omega
 ·cases hq:matchL l F (fun _=>0) 7 pos s with
  | error g=>rw [thenL_err hq] at e;cases e
  | ok x=>
   rw [thenL_ok hq] at e
   obtain ⟨h1,h2⟩:=match_bd h x hq
   have h3:=match_kind hq
   cases e
   refine ⟨h1,?_⟩
   show (testNode x.1 []).length+64*ph l x.2≤_
   have:=matchTxt_len kString x.1 (by decide)
   rw [testNode_7 _ _ h3]
   dsimp only at *
   omega
 ·cases hq:stringsL l (fun _=>0) F s with
  | error g=>rw [thenL_err hq] at e;cases e
  | ok x=>
   rw [thenL_ok hq] at e
   obtain ⟨h1,h2⟩:=strings_bd h x hq
   cases e
   refine ⟨h1,?_⟩
   show (phraseL [kExists,quotesL x.1]).length+64*ph l x.2≤_
   have h3:=phraseL_len [kExists,quotesL x.1]
   have h4:=quotesL_len x.1
   simp only [plainLen,List.map_cons,List.map_nil,List.sum_cons,List.sum_nil,show kExists.length=6 from rfl] at h3
   omega
 ·cases hq:sizeL l pos s with
  | error g=>rw [thenL_err hq] at e;cases e
  | ok x=>
   rw [thenL_ok hq] at e
   obtain ⟨h1,h2,h3,h4⟩:=size_bd h x hq
   cases e
   refine ⟨h1,?_⟩
   show (testNode x.1 []).length+64*ph l x.2≤_
   have h5:=phraseL_len [kSize,tagTextL x.1.tag [tOver,tUnder],itoaL x.1.num]
   have h6:=tagTextL_len x.1.tag [tOver,tUnder] 6 (by decide)
   have h7:=itoaL_len x.1.num h4
   simp only [plainLen,List.map_cons,List.map_nil,List.sum_cons,List.sum_nil,show kSize.length=4 from rfl] at h5
   rw [testNode_9 _ _ h3]
   omega
theorem test_bd {l:List UInt8} {req:List (List UInt8)} {F:Nat}:∀ (n:Nat) (s:PS),Gp l s→Bd 8 l (fun x=>(testTxt n x).length) (testL l req F n s) s
 | 0,s,h=>by
  rw [testL]
  split <;> exact Bd.err
 | n+1,s,h=>fun y e=>by
  rw [testL] at e
  by_cases h0:whichL testNames s.1.spelt=0
  ·rw [if_pos h0] at e;cases e
  ·rw [if_neg h0] at e
   cases hu:useOk req s.1.spelt
   ·rw [hu,if_neg (by decide)] at e;cases e
   ·rw [hu,if_pos rfl] at e
    cases hn:nextL l s.2 with
    | error g=>cases (nextThen_err hn).symm.trans e
    | ok z=>
     replace e:=(nextThen_ok hn).symm.trans e
     obtain ⟨g1,g2⟩:=gp_next h (gp_kind (zs:=testNames) h (by decide) h0) hn
     obtain ⟨g3,g4⟩:=testBody_bd n (fun s g=>test_bd n s g) _ _ g1 y e
     exact ⟨g3,by dsimp only at *;omega⟩
def costs {α:Type} (c:α→Nat) (xs:List α):Nat:=(xs.map c).sum
theorem costs_snoc {α:Type} (c:α→Nat) (xs:List α) (x:α):costs c (xs++[x])=costs c xs+c x:=by simp [costs]
theorem linesL_len {α:Type} (txt:α→List UInt8→List UInt8) (i:List UInt8):∀ cs:List α,(linesL txt cs i).length=costs (fun c=>i.length+(txt c i).length+1) cs
 | []=>rfl
 | c :: r=>by
  have:=linesL_len txt i r
  simp only [linesL,costs,List.flatMap_cons,List.length_append,List.map_cons,List.sum_cons,List.length_cons,List.length_nil] at this ⊢
  omega
def Ct {α:Type} (k:Nat) (l:List UInt8) (c:α→Nat) (r:Except Flt (α×PS)) (s:PS):Prop:=∀ y,r=.ok y→Gp l y.2∧c y.1+k+64*ph l y.2≤64*ph l s
theorem blockMore_bd {α:Type} {l:List UInt8} {sub:PS→Except Flt (α×PS)} {c:α→Nat} (hs:∀ s,Gp l s→Ct 0 l c (sub s) s):∀ (f:Nat) (acc:List α) (s:PS),Gp l s→∀ y,blockMore l sub f acc s=.ok y→Gp l y.2∧costs c y.1+64*ph l y.2≤costs c acc+64*ph l s
 | 0,acc,s,h=>fun y e=>by cases e;exact ⟨h,Nat.le_refl _⟩
 | f+1,acc,s,h=>fun y e=>by
  rw [blockMore] at e
  cases hp:mayL l [[125]] s with
  | error g=>rw [thenL_err hp] at e;cases e
  | ok z=>
   rw [thenL_ok hp] at e
   obtain ⟨h1,h2⟩:=may_bd (zs:=[[125]]) h (by decide) z hp
   split at e
   ·cases hq:sub z.2 with
    | error g=>rw [thenL_err hq] at e;cases e
    | ok x=>
     rw [thenL_ok hq] at e
     obtain ⟨h3,h4⟩:=hs z.2 h1 x hq
     obtain ⟨h5,h6⟩:=blockMore_bd hs f _ x.2 h3 y e
     refine ⟨h5,?_⟩
     rw [costs_snoc] at h6
     dsimp only at *
     omega
   ·cases e;exact ⟨h1,by dsimp only at *;omega⟩
theorem block_bd {α:Type} {l:List UInt8} {F:Nat} {sub:PS→Except Flt (α×PS)} {c:α→Nat} (hs:∀ s,Gp l s→Ct 0 l c (sub s) s) {s:PS} (h:Gp l s):Ct 64 l (costs c) (blockL l F sub s) s:=fun y e=>by
 unfold blockL at e
 cases hp:passL l [[123]] s with
 | error g=>rw [thenL_err hp] at e;cases e
 | ok z=>
  rw [thenL_ok hp] at e
  obtain ⟨h1,h2⟩:=pass_bd (zs:=[[123]]) h (by decide) z hp
  obtain ⟨h5,h6⟩:=blockMore_bd hs F _ z.2 h1 y e
  refine ⟨h5,?_⟩
  have:costs c ([]:List α)=0:=rfl
  dsimp only at *
  omega
theorem arm_bd {α β:Type} {l:List UInt8} {F:Nat} {tst:PS→Except Flt (β×PS)} {sub:PS→Except Flt (α×PS)} {ct:β→Nat} {c:α→Nat} (ht:∀ s,Gp l s→Ct 0 l ct (tst s) s) (hs:∀ s,Gp l s→Ct 0 l c (sub s) s) {s:PS} (h:Gp l s):Ct 0 l (fun a=>64+ct a.1+costs c a.2) (armL l F tst sub s) s:=fun y e=>by
 unfold armL at e
 cases hp:tst s with
 | error g=>rw [thenL_err hp] at e;cases e
 | ok z=>
  rw [thenL_ok hp] at e
  obtain ⟨h1,h2⟩:=ht s h z hp
  cases hq:blockL l F sub z.2 with
  | error g=>rw [thenL_err hq] at e;cases e
  | ok x=>
   rw [thenL_ok hq] at e
   obtain ⟨h3,h4⟩:=block_bd hs h1 x hq
   cases e
   exact ⟨h3,by dsimp only at *;omega⟩
theorem arms_bd {α β:Type} {l:List UInt8} {F:Nat} {tst:PS→Except Flt (β×PS)} {sub:PS→Except Flt (α×PS)} {ct:β→Nat} {c:α→Nat} (ht:∀ s,Gp l s→Ct 0 l ct (tst s) s) (hs:∀ s,Gp l s→Ct 0 l c (sub s) s):∀ (f:Nat) (acc:List (β×List α)) (s:PS),Gp l s→∀ y,armsMore l F tst sub f acc s=.ok y→Gp l y.2∧costs (fun a=>64+ct a.1+costs c a.2) y.1+64*ph l y.2≤costs (fun a=>64+ct a.1+costs c a.2) acc+64*ph l s
 | 0,acc,s,h=>fun y e=>by cases e;exact ⟨h,Nat.le_refl _⟩
 | f+1,acc,s,h=>fun y e=>by
  rw [armsMore] at e
  cases hp:mayL l [kElsif] s with
  | error g=>rw [thenL_err hp] at e;cases e
  | ok z=>
   rw [thenL_ok hp] at e
   obtain ⟨h1,h2⟩:=may_bd (zs:=[kElsif]) h (by decide) z hp
   split at e
   ·cases e;exact ⟨h1,by dsimp only at *;omega⟩
   ·cases hq:armL l F tst sub z.2 with
    | error g=>rw [thenL_err hq] at e;cases e
    | ok x=>
     rw [thenL_ok hq] at e
     obtain ⟨h3,h4⟩:=arm_bd ht hs h1 x hq
     obtain ⟨h5,h6⟩:=arms_bd ht hs f _ x.2 h3 y e
     refine ⟨h5,?_⟩
     rw [costs_snoc] at h6
     dsimp only at *
     omega
theorem armTxt_len (word i t b:List UInt8) (hw:word.length≤7) (hi:i.length≤14):(armTxt word i t b).length≤32+t.length+b.length:=by
 have:=phraseL_len [word,t,openB]
 simp only [plainLen,List.map_cons,List.map_nil,List.sum_cons,List.sum_nil,show openB.length=2 from rfl] at this
 simp only [armTxt,List.length_append]
 omega
theorem armsTxt_len (i:List UInt8) (hi:i.length≤14):∀ (as:List (List UInt8×List UInt8)) (word:List UInt8),word.length≤7→(armsTxt i word as).length≤costs (fun a=>32+a.1.length+a.2.length) as
 | [],word,_=>by simp [armsTxt,costs]
 | a :: r,word,hw=>by
  have h1:=armTxt_len word i a.1 a.2 hw hi
  have h2:=armsTxt_len i hi r kElsifB (by decide)
  simp only [armsTxt,costs,List.length_append,List.map_cons,List.sum_cons] at h2 ⊢
  omega
theorem costs_map_le {α β:Type} (f:α→β) (c:β→Nat) (d:α→Nat) (h:∀ a,c (f a)≤d a):∀ xs:List α,costs c (xs.map f)≤costs d xs
 | []=>Nat.le_refl _
 | x :: r=>by
  have h1:=costs_map_le f c d h r
  have h2:=h x
  simp only [costs,List.map_cons,List.sum_cons,List.map_map] at h1 ⊢
  omega
def cmdCost (n:Nat) (i:List UInt8) (x:CmdT n):Nat:=i.length+(cmdTxt n x i).length+1
theorem semi_bd {α:Type} {l:List UInt8} {s:PS} {a:α} (h:Gp l s):∀ y,semi l s a=.ok y→y.1=a∧Gp l y.2∧64*ph l y.2≤64*ph l s:=fun y e=>by
 unfold semi at e
 cases hp:passL l [[59]] s with
 | error g=>rw [thenL_err hp] at e;cases e
 | ok z=>
  rw [thenL_ok hp] at e
  obtain ⟨h1,h2⟩:=pass_bd (zs:=[[59]]) h (by decide) z hp
  cases e
  exact ⟨rfl,h1,by dsimp only at *;omega⟩
theorem smallL_quoted (x:List UInt8):(quotedL (smallL x)).length≤2*x.length+2:=by
 have:=quotedL_len (smallL x)
 simpa [smallL] using this
theorem string_said {l:List UInt8} {chk:List UInt8→Nat} {s:PS} (h:Gp l s):∀ y,stringL l chk s=.ok y→2*y.1.length+2+32+64*ph l y.2≤64*ph l s:=fun y e=>by
 unfold stringL at e
 split at e
 ·rename_i hk
  split at e
  ·cases hn:nextL l s.2 with
   | error f=>rw [hn] at e;cases e
   | ok s'=>
    rw [hn] at e;cases e
    obtain ⟨h1,h2⟩:=nextL_gp h hn
    have h3:=h.said hk
    have h4:=h.le
    have h5:=h1.le
    have h6:=h1.lt
    have h8:=h.lt
    show 2*s.1.said.length+2+32+64*ph l s'≤64*ph l s
    unfold ph
    omega
  ·cases e
 ·cases e
theorem cmdBody_bd (n:Nat) {l:List UInt8} {F:Nat} {tst:PS→Except Flt (TestT n×PS)} {sub:PS→Except Flt (CmdT n×PS)} (i:List UInt8) (hi:i.length≤14) (ht:∀ s,Gp l s→Ct 0 l (fun x=>(testTxt n x).length) (tst s) s) (hs:∀ s,Gp l s→Ct 0 l (cmdCost n (i++[32,32])) (sub s) s) (k pos:Nat) {s:PS} (h:Gp l s):∀ y,cmdBody l F tst sub k pos s=.ok y→Gp l y.2∧cmdCost (n+1) i y.1+64*ph l y.2≤64+64*ph l s:=by
 intro y e
 unfold cmdBody at e
 split at e
 ·obtain ⟨e1,h1,h2⟩:=semi_bd h y e
  refine ⟨h1,?_⟩
  rw [e1]
  show i.length+5+1+64*ph l y.2≤_
  omega
 ·obtain ⟨e1,h1,h2⟩:=semi_bd h y e
  refine ⟨h1,?_⟩
  rw [e1]
  show i.length+8+1+64*ph l y.2≤_
  omega
 ·obtain ⟨e1,h1,h2⟩:=semi_bd h y e
  refine ⟨h1,?_⟩
  rw [e1]
  show i.length+5+1+64*ph l y.2≤_
  omega
 ·cases hq:stringL l (fun _=>0) s with
  | error g=>rw [thenL_err hq] at e;cases e
  | ok x=>
   rw [thenL_ok hq] at e
   obtain ⟨g1,g2⟩:=string_bd h x hq
   obtain ⟨e1,h1,h2⟩:=semi_bd g1 y e
   refine ⟨h1,?_⟩
   rw [e1]
   show i.length+(phraseL [kFileinto,quotedL x.1]++[59]).length+1+64*ph l y.2≤_
   have h3:=phraseL_len [kFileinto,quotedL x.1]
   simp only [plainLen,List.map_cons,List.map_nil,List.sum_cons,List.sum_nil,show kFileinto.length=8 from rfl] at h3
   simp only [List.length_append,List.length_cons,List.length_nil]
   dsimp only at g2
   omega
 ·cases hq:stringL l (fun _=>0) s with
  | error g=>rw [thenL_err hq] at e;cases e
  | ok x=>
   rw [thenL_ok hq] at e
   obtain ⟨g1,g2⟩:=string_bd h x hq
   obtain ⟨e1,h1,h2⟩:=semi_bd g1 y e
   refine ⟨h1,?_⟩
   rw [e1]
   show i.length+(phraseL [kRedirect,quotedL x.1]++[59]).length+1+64*ph l y.2≤_
   have h3:=phraseL_len [kRedirect,quotedL x.1]
   simp only [plainLen,List.map_cons,List.map_nil,List.sum_cons,List.sum_nil,show kRedirect.length=8 from rfl] at h3
   simp only [List.length_append,List.length_cons,List.length_nil]
   dsimp only at g2
   omega
 ·cases hq:stringL l (fun _=>0) s with
  | error g=>rw [thenL_err hq] at e;cases e
  | ok x=>
   rw [thenL_ok hq] at e
   obtain ⟨g1,g2⟩:=string_bd h x hq
   obtain ⟨e1,h1,h2⟩:=semi_bd g1 y e
   refine ⟨h1,?_⟩
   rw [e1]
   show i.length+(phraseL [kReject,quotedL x.1]++[59]).length+1+64*ph l y.2≤_
   have h3:=phraseL_len [kReject,quotedL x.1]
   simp only [plainLen,List.map_cons,List.map_nil,List.sum_cons,List.sum_nil,show kReject.length=6 from rfl] at h3
   simp only [List.length_append,List.length_cons,List.length_nil]
   dsimp only at g2
   omega
 ·cases hm:mayL l [tLower,tUpper,tLength] s with
  | error g=>rw [thenL_err hm] at e;cases e
  | ok m=>
   rw [thenL_ok hm] at e
   obtain ⟨g0,g0'⟩:=may_bd (zs:=[tLower,tUpper,tLength]) h (by decide) m hm
   cases hv:stringL l (fun x=>if isNameL x then 0 else 7) m.2 with
   | error g=>rw [thenL_err hv] at e;cases e
   | ok v=>
    rw [thenL_ok hv] at e
    obtain ⟨g3,g4⟩:=string_bd g0 v hv
    have g5:=string_said g0 v hv
    cases hq:stringL l (fun _=>0) v.2 with
    | error g=>rw [thenL_err hq] at e;cases e
    | ok x=>
     rw [thenL_ok hq] at e
     obtain ⟨g1,g2⟩:=string_bd g3 x hq
     obtain ⟨e1,h1,h2⟩:=semi_bd g1 y e
     refine ⟨h1,?_⟩
     rw [e1]
     show i.length+(phraseL [kSet,tagTextL m.1 [tLower,tUpper,tLength],quotedL (smallL v.1),quotedL x.1]++[59]).length+1+64*ph l y.2≤_
     have h3:=phraseL_len [kSet,tagTextL m.1 [tLower,tUpper,tLength],quotedL (smallL v.1),quotedL x.1]
     have h4:=tagTextL_len m.1 [tLower,tUpper,tLength] 7 (by decide)
     have h5:=smallL_quoted v.1
     simp only [plainLen,List.map_cons,List.map_nil,List.sum_cons,List.sum_nil,show kSet.length=3 from rfl] at h3
     simp only [List.length_append,List.length_cons,List.length_nil]
     dsimp only at g2 g0' g4
     omega
 ·cases ha:armL l F tst sub s with
  | error g=>rw [thenL_err ha] at e;cases e
  | ok a=>
   rw [thenL_ok ha] at e
   obtain ⟨g1,g2⟩:=arm_bd ht hs h a ha
   cases hb:armsMore l F tst sub F [a.1] a.2 with
   | error g=>rw [thenL_err hb] at e;cases e
   | ok bb=>
    rw [thenL_ok hb] at e
    obtain ⟨g3,g4⟩:=arms_bd ht hs F _ a.2 g1 bb hb
    have hone:costs (fun a:TestT n×List (CmdT n)=>64+(testTxt n a.1).length+costs (cmdCost n (i++[32,32])) a.2) [a.1]=64+(testTxt n a.1.1).length+costs (cmdCost n (i++[32,32])) a.1.2:=by simp [costs]
    cases hm:mayL l [kElse] bb.2 with
    | error g=>rw [thenL_err hm] at e;cases e
    | ok m=>
     rw [thenL_ok hm] at e
     obtain ⟨g5,g6⟩:=may_bd (zs:=[kElse]) g3 (by decide) m hm
     have hA:(armsTxt i kIf (bb.1.map fun a:TestT n×List (CmdT n)=>(testTxt n a.1,linesL (cmdTxt n) a.2 (i++[32,32])))).length≤costs (fun a:TestT n×List (CmdT n)=>64+(testTxt n a.1).length+costs (cmdCost n (i++[32,32])) a.2) bb.1:=by
      refine Nat.le_trans (armsTxt_len i hi _ kIf (by decide)) (costs_map_le _ _ _ (fun a=>?_) bb.1)
      dsimp only
      have:=linesL_len (cmdTxt n) (i++[32,32]) a.2
      rw [this]
      unfold cmdCost
      omega
     split at e
     ·cases e
      refine ⟨g5,?_⟩
      show i.length+(armsTxt i kIf (bb.1.map fun a:TestT n×List (CmdT n)=>(testTxt n a.1,linesL (cmdTxt n) a.2 (i++[32,32])))++(if false then elseB++linesL (cmdTxt n) [] (i++[32,32])++i else [])++[125]).length+1+64*ph l m.2≤_
      simp only [Bool.false_eq_true,if_false,List.length_append,List.length_cons,List.length_nil]
      dsimp only at *
      omega
     ·rename_i hm0
      cases hc:blockL l F sub m.2 with
      | error g=>rw [thenL_err hc] at e;cases e
      | ok cs=>
       rw [thenL_ok hc] at e
       obtain ⟨g7,g8⟩:=block_bd hs g5 cs hc
       cases e
       refine ⟨g7,?_⟩
       show i.length+(armsTxt i kIf (bb.1.map fun a:TestT n×List (CmdT n)=>(testTxt n a.1,linesL (cmdTxt n) a.2 (i++[32,32])))++(if true then elseB++linesL (cmdTxt n) cs.1 (i++[32,32])++i else [])++[125]).length+1+64*ph l cs.2≤_
       have hl:=linesL_len (cmdTxt n) (i++[32,32]) cs.1
       simp only [if_true,List.length_append,List.length_cons,List.length_nil,show elseB.length=9 from rfl] at hl ⊢
       rw [hl]
       have:costs (fun c=>i.length+(0+1+1)+(cmdTxt n c (i++[32,32])).length+1) cs.1=costs (cmdCost n (i++[32,32])) cs.1:=by
        congr 1
        funext c
        simp [cmdCost]
       dsimp only at *
       omega
theorem cmd_bd {l:List UInt8} {req:List (List UInt8)} {F:Nat}:∀ (n:Nat) (i:List UInt8),i.length+2*n≤14→∀ (s:PS),Gp l s→Ct 0 l (cmdCost n i) (cmdL l req F n s) s
 | 0,i,hi,s,h=>by
  rw [cmdL]
  split <;> exact fun y e=>by cases e
 | n+1,i,hi,s,h=>fun y e=>by
  rw [cmdL] at e
  by_cases h0:whichL cmdNames s.1.spelt=0
  ·rw [if_pos h0] at e;cases e
  ·rw [if_neg h0] at e
   cases hu:useOk req s.1.spelt
   ·rw [hu,if_neg (by decide)] at e;cases e
   ·rw [hu,if_pos rfl] at e
    cases hn:nextL l s.2 with
    | error g=>cases (nextThen_err hn).symm.trans e
    | ok z=>
     replace e:=(nextThen_ok hn).symm.trans e
     obtain ⟨g1,g2⟩:=gp_next h (gp_kind (zs:=cmdNames) h (by decide) h0) hn
     obtain ⟨g3,g4⟩:=cmdBody_bd n i (by omega) (fun s g y e=>by obtain ⟨a1,a2⟩:=test_bd n s g y e;exact ⟨a1,by dsimp only at *;omega⟩) (fun s g=>cmd_bd n (i++[32,32]) (by simp only [List.length_append,List.length_cons,List.length_nil];omega) s g) _ _ g1 y e
     exact ⟨g3,by omega⟩
theorem addReq_len (req:List (List UInt8)) (x:List UInt8):qLen (addReq req x)≤qLen req+(quotedL x).length+2:=by
 unfold addReq
 split
 ·omega
 ·unfold qLen;rw [List.map_append,sumLen_append,List.map_cons,List.map_nil,sumLen_one];omega
theorem foldReq_len:∀ (xs req:List (List UInt8)),qLen (xs.foldl addReq req)≤qLen req+qLen xs
 | [],req=>by simp
 | x :: r,req=>by
  have h1:=foldReq_len r (addReq req x)
  have h2:=addReq_len req x
  have h3:qLen (x :: r)=(quotedL x).length+2+qLen r:=by unfold qLen;rw [List.map_cons,sumLen_cons]
  rw [List.foldl_cons]
  omega
theorem reqMore_bd {l:List UInt8} {F:Nat}:∀ (f:Nat) (req:List (List UInt8)) (s:PS),Gp l s→∀ y,reqMore l F f req s=.ok y→Gp l y.2∧qLen y.1+64*ph l y.2≤qLen req+64*ph l s
 | 0,req,s,h=>fun y e=>by cases e;exact ⟨h,Nat.le_refl _⟩
 | f+1,req,s,h=>fun y e=>by
  rw [reqMore] at e
  cases hp:mayL l [kRequire] s with
  | error g=>rw [thenL_err hp] at e;cases e
  | ok z=>
   rw [thenL_ok hp] at e
   obtain ⟨h1,h2⟩:=may_bd (zs:=[kRequire]) h (by decide) z hp
   split at e
   ·cases e;exact ⟨h1,by dsimp only at *;omega⟩
   ·cases hq:stringsL l (fun x=>if 0 < whichL [kEnvelope,kFileinto,kReject,kVariables] x then 0 else 6) F z.2 with
    | error g=>rw [thenL_err hq] at e;cases e
    | ok x=>
     rw [thenL_ok hq] at e
     obtain ⟨h3,h4⟩:=strings_bd h1 x hq
     cases hr:passL l [[59]] x.2 with
     | error g=>rw [thenL_err hr] at e;cases e
     | ok v=>
      rw [thenL_ok hr] at e
      obtain ⟨h5,h6⟩:=pass_bd (zs:=[[59]]) h3 (by decide) v hr
      obtain ⟨h7,h8⟩:=reqMore_bd f _ v.2 h5 y e
      have h9:=foldReq_len x.1 req
      refine ⟨h7,?_⟩
      dsimp only at *
      omega
theorem cmdsMore_bd {α:Type} {l:List UInt8} {sub:PS→Except Flt (α×PS)} {c:α→Nat} (hs:∀ s,Gp l s→Ct 0 l c (sub s) s):∀ (f:Nat) (acc:List α) (s:PS),Gp l s→∀ y,cmdsMore sub f acc s=.ok y→costs c y≤costs c acc+64*ph l s
 | 0,acc,s,h=>fun y e=>by cases e;omega
 | f+1,acc,s,h=>fun y e=>by
  rw [cmdsMore] at e
  split at e
  ·cases e;omega
  ·cases hq:sub s with
   | error g=>rw [hq] at e;cases e
   | ok x=>
    rw [hq] at e
    obtain ⟨h3,h4⟩:=hs s h x hq
    have h6:=cmdsMore_bd hs f _ x.2 h3 y e
    rw [costs_snoc] at h6
    omega
theorem textL_len {l:List UInt8} {y:List (List UInt8)×List (CmdT 7)} (h:parseL l=.ok y):(textL y).length≤64*l.length+64:=by
 unfold parseL at h
 dsimp only at h
 generalize 2*l.length+10=F at h
 cases h1:nextL l 0 with
 | error f=>rw [h1] at h;cases h
 | ok s=>
  rw [h1] at h
  dsimp only at h
  have hg:Gp l s:=by
   unfold nextL at h1
   cases hs:skipF (l.length+1) (l.drop 0) 0 with
   | error f=>rw [hs] at h1;cases h1
   | ok n=>
    rw [hs] at h1
    exact (scanL_gp l n (skipF_le l _ 0 n (Nat.zero_le _) hs).2 s h1).1
  cases h3:reqMore l F F [] s with
  | error f=>rw [h3] at h;cases h
  | ok z=>
   rw [h3] at h
   dsimp only at h
   obtain ⟨g1,g2⟩:=reqMore_bd F [] s hg z h3
   cases h4:cmdsMore (cmdL l z.1 F 7) F [] z.2 with
   | error f=>rw [h4] at h;cases h
   | ok cs=>
    rw [h4] at h
    have g3:=cmdsMore_bd (c:=cmdCost 7 []) (fun s g=>cmd_bd 7 [] (by decide) s g) F [] z.2 g1 cs h4
    cases h
    have g4:=linesL_len (cmdTxt 7) [] cs
    have g5:costs (fun c=>([]:List UInt8).length+(cmdTxt 7 c []).length+1) cs=costs (cmdCost 7 []) cs:=rfl
    have g6:(requireTxt z.1).length≤qLen z.1+12:=by
     unfold requireTxt
     split
     ·simp
     ·have:=quotesL_len z.1
      simp only [List.length_append,List.length_cons,List.length_nil,show kRequire.length=7 from rfl]
      omega
    have g7:qLen ([]:List (List UInt8))=0:=rfl
    have g8:costs (cmdCost 7 []) ([]:List (CmdT 7))=0:=rfl
    have g9:ph l s≤l.length:=by unfold ph;omega
    show (requireTxt z.1++linesL (cmdTxt 7) cs []).length≤_
    rw [List.length_append]
    omega
end Go.Proofs.YtbiclelojbfnbaaGreatDoor
