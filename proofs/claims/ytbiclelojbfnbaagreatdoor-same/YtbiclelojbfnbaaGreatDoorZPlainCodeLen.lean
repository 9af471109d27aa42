import Derived.Test.YtbiclelojbfnbaaGreatDoorZPlainLen
namespace Go.Proofs.YtbiclelojbfnbaaGreatDoor
set_option linter.unusedVariables false
set_option linter.unusedSimpArgs false
set_option maxRecDepth 100000
set_option maxHeartbeats 4000000
structure WfT (req:List (List UInt8)) (x:QcT) (m:Nat):Prop where
 kind:x.kind≤9
 use:QcE req (testNames.getD x.kind [])=true
 one:x.kind=2→m=1
 many:x.kind=3∨x.kind=4→0 < m
 leaf:x.kind≤1∨5≤x.kind→m=0
 tag:5≤x.kind→x.kind≤7→1≤x.tag∧x.tag≤3
 frm:5≤x.kind→x.kind≤8→x.fr≠[]
 keys:5≤x.kind→x.kind≤7→x.keys≠[]
 env:x.kind=6→∀ z∈x.fr,0 < whichL [Qg7,kTo] (smallL z)
 size:x.kind=9→1≤x.tag∧x.tag≤2
 num:x.num≤2147483647
 num0:x.kind≠9→x.num=0
 tag0:x.kind≤4∨x.kind=8→x.tag=0
 oct0:x.kind≤4∨8≤x.kind→x.octet=false
 fr0:x.kind≤4∨x.kind=9→x.fr=[]
 keys0:x.kind≤4∨8≤x.kind→x.keys=[]
structure WfC (req:List (List UInt8)) (x:QfA) (a e:Nat):Prop where
 kind:x.kind≤7
 use:QcE req (cmdNames.getD x.kind [])=true
 tag:x.tag≤3
 tag0:x.kind≠6→x.tag=0
 arg0:x.kind≤2∨x.kind=7→x.arg=[]
 var0:x.kind≠6→x.var=[]
 var:x.kind=6→∃ v,isNameL v=true∧x.var=smallL v
 els0:x.kind≠7→x.els=false
 arms:x.kind=7→0 < a
 arms0:x.kind≠7→a=0
 else0:x.els=false→e=0
def Qq2 (p:QcT→Nat→Prop):(n:Nat)→Qbx n→Prop
 | 0,_=>False
 | n+1,x=>p x.1 x.2.length∧∀ a∈x.2,Qq2 p n a
def QhX (p:QcT→Nat→Prop) (q:QfA→Nat→Nat→Prop):(n:Nat)→Qcd n→Prop
 | 0,_=>False
 | n+1,x=>q x.1 x.2.1.length x.2.2.length∧(∀ a∈x.2.1,Qq2 p n a.1∧∀ c∈a.2,QhX p q n c)∧∀ c∈x.2.2,QhX p q n c
theorem Qhf:∀ (zs:List (List UInt8)) (x:List UInt8),¬ whichL zs x=0→zs.getD (whichL zs x - 1) []=x
 | [],x,h=>absurd rfl h
 | s :: r,x,h=>by
  unfold whichL at h ⊢
  split
  ·rename_i e;simp [e]
  ·rename_i e
   rw [if_neg e] at h
   split
   ·rename_i e0;rw [if_pos e0] at h;exact absurd rfl h
   ·rename_i e0
    have ih:=Qhf r x e0
    have e1:whichL r x+1 - 1=(whichL r x - 1)+1:=by omega
    rw [e1]
    simpa using ih
def Has {α:Type} (P:α→Prop) (r:Except Flt (α×PS)):Prop:=∀ y,r=.ok y→P y.1
theorem QgU {l:List UInt8} {chk:List UInt8→Nat} {s:PS}:Has (fun x=>chk x=0) (stringL l chk s):=fun y e=>by
 unfold stringL at e
 split at e
 ·split at e
  ·rename_i hc
   cases hn:nextL l s.2 with
   | error f=>rw [hn] at e;cases e
   | ok s'=>rw [hn] at e;cases e;exact hc
  ·cases e
 ·cases e
theorem Qpk {l:List UInt8} {chk:List UInt8→Nat}:∀ (f:Nat) (acc:List (List UInt8)) (s:PS),acc≠[]→(∀ z∈acc,chk z=0)→Has (fun xs=>xs≠[]∧∀ z∈xs,chk z=0) (moreL l chk f acc s)
 | 0,acc,s,h,hc=>fun y e=>by cases e;exact ⟨h,hc⟩
 | f+1,acc,s,h,hc=>fun y e=>by
  rw [moreL] at e
  cases hp:passL l [[44],[93]] s with
  | error g=>rw [hp] at e;cases e
  | ok z=>
   rw [hp] at e
   dsimp only at e
   split at e
   ·cases hs:stringL l chk z.2 with
    | error g=>rw [hs] at e;cases e
    | ok x=>
     rw [hs] at e
     have h1:=QgU x hs
     refine Qpk f _ x.2 (by simp) (fun u hu=>?_) y e
     rcases List.mem_append.1 hu with hu | hu
     ·exact hc u hu
     ·rw [List.mem_singleton.1 hu];exact h1
   ·cases e;exact ⟨h,hc⟩
theorem Qeq {l:List UInt8} {chk:List UInt8→Nat} {F:Nat} {s:PS}:Has (fun xs=>xs≠[]∧∀ z∈xs,chk z=0) (stringsL l chk F s):=fun y e=>by
 unfold stringsL at e
 cases hm:mayL l [[91]] s with
 | error g=>rw [hm] at e;cases e
 | ok z=>
  rw [hm] at e
  dsimp only at e
  cases hs:stringL l chk z.2 with
  | error g=>rw [hs] at e;cases e
  | ok x=>
   rw [hs] at e
   have h1:=QgU x hs
   dsimp only at e
   split at e
   ·cases e;exact ⟨by simp,fun u hu=>by rw [List.mem_singleton.1 hu];exact h1⟩
   ·exact Qpk F [x.1] x.2 (by simp) (fun u hu=>by rw [List.mem_singleton.1 hu];exact h1) y e
theorem QsK {l:List UInt8} {zs:List (List UInt8)} {s:PS}:Has (fun i=>1≤i∧i≤zs.length) (passL l zs s):=fun y e=>by
 unfold passL at e
 split at e
 ·cases e
 ·rename_i h0
  cases hn:nextL l s.2 with
  | error f=>rw [hn] at e;cases e
  | ok s'=>rw [hn] at e;cases e;have:=QbW zs s.1.spelt;dsimp only;omega
theorem QuI {l:List UInt8} {zs:List (List UInt8)} {s:PS}:Has (fun i=>i≤zs.length) (mayL l zs s):=fun y e=>by
 unfold mayL at e
 split at e
 ·cases e;exact Nat.zero_le _
 ·cases hn:nextL l s.2 with
  | error f=>rw [hn] at e;cases e
  | ok s'=>rw [hn] at e;cases e;exact QbW zs s.1.spelt
theorem Qoq {l:List UInt8}:∀ (f tag:Nat) (oct cmp:Bool) (s:PS),Gp l s→ph l s < f→tag≤3→Has (fun o=>1≤o.1∧o.1≤3) (QdV l f tag oct cmp s)
 | 0,tag,oct,cmp,s,h,hf,ht=>by omega
 | f+1,tag,oct,cmp,s,h,hf,ht=>fun y e=>by
  rw [QdV] at e
  by_cases h1:whichL [tIs,Qas,QaA] s.1.spelt=0
  ·rw [if_pos h1] at e
   by_cases h2:whichL [Qar] s.1.spelt=0
   ·rw [if_pos h2] at e;cases e;dsimp only;omega
   ·rw [if_neg h2] at e
    cases cmp
    ·rw [if_neg (by decide)] at e
     cases hn:nextL l s.2 with
     | error g=>rw [Qbj hn] at e;cases e
     | ok z=>
      rw [Qa0 hn] at e
      obtain ⟨g1,g2⟩:=QdN h (Qd7 (zs:=[Qar]) h (by decide) h2) hn
      cases hs:stringL l (fun x=>if 0 < whichL [Qbz,Qdu] x then 0 else 7) z with
      | error g=>rw [Qaf hs] at e;cases e
      | ok x=>
       rw [Qae hs] at e
       obtain ⟨g3,g4⟩:=Qc0 g1 x hs
       exact Qoq f _ _ _ x.2 g3 (by omega) ht y e
    ·rw [if_pos rfl] at e;cases e
  ·rw [if_neg h1] at e
   by_cases h3:tag=0
   ·rw [if_pos h3] at e
    cases hn:nextL l s.2 with
    | error g=>rw [Qbj hn] at e;cases e
    | ok z=>
     rw [Qa0 hn] at e
     obtain ⟨g1,g2⟩:=QdN h (Qd7 (zs:=[tIs,Qas,QaA]) h (by decide) h1) hn
     exact Qoq f _ _ _ z g1 (by omega) (QbW [tIs,Qas,QaA] s.1.spelt) y e
   ·rw [if_neg h3] at e;cases e
theorem QiN {l:List UInt8} {F:Nat} {chk:List UInt8→Nat} {k pos:Nat} {s:PS} (h:Gp l s) (hF:l.length < F):Has (fun x=>x=⟨k,pos,x.tag,x.octet,x.fr,x.keys,0⟩∧1≤x.tag∧x.tag≤3∧x.fr≠[]∧x.keys≠[]∧∀ z∈x.fr,chk z=0) (QbS l F chk k pos s):=fun y e=>by
 unfold QbS at e
 cases h1:QdV l F 0 false false s with
 | error f=>rw [Qaf h1] at e;cases e
 | ok a=>
  rw [Qae h1] at e
  have g0:=Qoq F 0 false false s h (by unfold ph;omega) (by omega) a h1
  cases h2:stringsL l chk F a.2 with
  | error f=>rw [Qaf h2] at e;cases e
  | ok c=>
   rw [Qae h2] at e
   have g1:=Qeq c h2
   cases h3:stringsL l (fun _=>0) F c.2 with
   | error f=>rw [Qaf h3] at e;cases e
   | ok d=>
    rw [Qae h3] at e
    have g2:=Qeq d h3
    cases e
    exact ⟨rfl,g0.1,g0.2,g1.1,g2.1,g1.2⟩
theorem Qgi {α:Type} {l:List UInt8} {sub:PS→Except Flt (α×PS)} {P:α→Prop} (hg:∀ s,Gp l s→∀ y,sub s=.ok y→Gp l y.2) (hs:∀ s,Gp l s→Has P (sub s)):∀ (f:Nat) (acc:List α) (s:PS),Gp l s→acc≠[]→(∀ a∈acc,P a)→Has (fun xs=>xs≠[]∧∀ a∈xs,P a) (groupMore l sub f acc s)
 | 0,acc,s,g,h,hc=>fun y e=>by cases e;exact ⟨h,hc⟩
 | f+1,acc,s,g,h,hc=>fun y e=>by
  rw [groupMore] at e
  cases hp:passL l [[44],[41]] s with
  | error g=>rw [Qaf hp] at e;cases e
  | ok z=>
   rw [Qae hp] at e
   obtain ⟨h1,h2⟩:=QdJ (zs:=[[44],[41]]) g (by decide) z hp
   split at e
   ·cases hq:sub z.2 with
    | error g=>rw [Qaf hq] at e;cases e
    | ok x=>
     rw [Qae hq] at e
     refine Qgi hg hs f _ x.2 (hg _ h1 x hq) (by simp) (fun u hu=>?_) y e
     rcases List.mem_append.1 hu with hu | hu
     ·exact hc u hu
     ·rw [List.mem_singleton.1 hu];exact hs _ h1 x hq
   ·cases e;exact ⟨h,hc⟩
theorem QlT {α:Type} {l:List UInt8} {F:Nat} {sub:PS→Except Flt (α×PS)} {P:α→Prop} (hg:∀ s,Gp l s→∀ y,sub s=.ok y→Gp l y.2) (hs:∀ s,Gp l s→Has P (sub s)) {s:PS} (h:Gp l s):Has (fun xs=>xs≠[]∧∀ a∈xs,P a) (QcB l F sub s):=fun y e=>by
 unfold QcB at e
 cases hp:passL l [[40]] s with
 | error g=>rw [Qaf hp] at e;cases e
 | ok z=>
  rw [Qae hp] at e
  obtain ⟨h1,h2⟩:=QdJ (zs:=[[40]]) h (by decide) z hp
  cases hq:sub z.2 with
  | error g=>rw [Qaf hq] at e;cases e
  | ok x=>
   rw [Qae hq] at e
   exact Qgi hg hs F [x.1] x.2 (hg _ h1 x hq) (by simp) (fun u hu=>by rw [List.mem_singleton.1 hu];exact hs _ h1 x hq) y e
theorem QmJ (n:Nat) {l:List UInt8} {req:List (List UInt8)} {F:Nat} {sub:PS→Except Flt (Qbx n×PS)} (hF:l.length < F) (hg:∀ s,Gp l s→∀ y,sub s=.ok y→Gp l y.2) (hs:∀ s,Gp l s→Has (Qq2 (WfT req) n) (sub s)) (k pos:Nat) (hk:k≤9) (hu:QcE req (testNames.getD k [])=true) {s:PS} (h:Gp l s):Has (fun x:QcT×List (Qbx n)=>WfT req x.1 x.2.length∧∀ a∈x.2,Qq2 (WfT req) n a) (testBody l F sub k pos s):=fun y e=>by
 unfold testBody at e
 split at e
 ·cases e;exact ⟨by constructor <;> simp <;> (first | exact hu | skip),by simp⟩
 ·cases e;exact ⟨by constructor <;> simp <;> (first | exact hu | skip),by simp⟩
 ·cases hq:sub s with
  | error g=>rw [Qaf hq] at e;cases e
  | ok x=>
   rw [Qae hq] at e
   cases e
   exact ⟨by constructor <;> simp <;> (first | exact hu | skip),fun a ha=>by rw [List.mem_singleton.1 ha];exact hs _ h x hq⟩
 ·cases hq:QcB l F sub s with
  | error g=>rw [Qaf hq] at e;cases e
  | ok x=>
   rw [Qae hq] at e
   have h1:=QlT hg hs h x hq
   cases e
   exact ⟨by constructor <;> simp <;> (first | exact hu | exact List.length_pos_iff.2 h1.1 | skip),h1.2⟩
 ·cases hq:QcB l F sub s with
  | error g=>rw [Qaf hq] at e;cases e
  | ok x=>
   rw [Qae hq] at e
   have h1:=QlT hg hs h x hq
   cases e
   exact ⟨by constructor <;> simp <;> (first | exact hu | exact List.length_pos_iff.2 h1.1 | skip),h1.2⟩
 ·cases hq:QbS l F (fun _=>0) 5 pos s with
  | error g=>rw [Qaf hq] at e;cases e
  | ok x=>
   rw [Qae hq] at e
   obtain ⟨h1,h2,h3,h4,h5,h6⟩:=QiN h hF x hq
   cases e
   dsimp only
   rw [h1]
   exact ⟨by constructor <;> simp <;> (first | exact hu | exact ⟨h2,h3⟩ | assumption | skip),by simp⟩
 ·cases hq:QbS l F (fun x=>if 0 < whichL [Qg7,kTo] (smallL x) then 0 else 7) 6 pos s with
  | error g=>rw [Qaf hq] at e;cases e
  | ok x=>
   rw [Qae hq] at e
   obtain ⟨h1,h2,h3,h4,h5,h6⟩:=QiN h hF x hq
   have h7:∀ z∈x.1.fr,0 < whichL [Qg7,kTo] (smallL z):=fun z hz=>by
    have:=h6 z hz
    split at this
    ·assumption
    ·cases this
   cases e
   dsimp only
   rw [h1]
   exact ⟨by constructor <;> simp <;> (first | exact hu | exact ⟨h2,h3⟩ | assumption | skip),by simp⟩
 ·cases hq:QbS l F (fun _=>0) 7 pos s with
  | error g=>rw [Qaf hq] at e;cases e
  | ok x=>
   rw [Qae hq] at e
   obtain ⟨h1,h2,h3,h4,h5,h6⟩:=QiN h hF x hq
   cases e
   dsimp only
   rw [h1]
   exact ⟨by constructor <;> simp <;> (first | exact hu | exact ⟨h2,h3⟩ | assumption | skip),by simp⟩
 ·cases hq:stringsL l (fun _=>0) F s with
  | error g=>rw [Qaf hq] at e;cases e
  | ok x=>
   rw [Qae hq] at e
   have h1:=Qeq x hq
   cases e
   exact ⟨by constructor <;> simp <;> (first | exact hu | exact h1.1 | skip),by simp⟩
 ·rename_i h0 h1 h2 h3 h4 h5 h6 h7 h8
  cases hq:sizeL l pos s with
  | error g=>rw [Qaf hq] at e;cases e
  | ok x=>
   rw [Qae hq] at e
   have hk9:k=9:=by
    have a0:k≠0:=h0
    have a1:k≠1:=h1
    have a2:k≠2:=h2
    have a3:k≠3:=h3
    have a4:k≠4:=h4
    have a5:k≠5:=h5
    have a6:k≠6:=h6
    have a7:k≠7:=h7
    have a8:k≠8:=h8
    omega
   subst hk9
   unfold sizeL at hq
   cases hp:passL l [QcY,QbY] s with
   | error g=>rw [Qaf hp] at hq;cases hq
   | ok i=>
    rw [Qae hp] at hq
    have g1:=QsK i hp
    obtain ⟨g2,g3⟩:=QdJ (zs:=[QcY,QbY]) h (by decide) i hp
    have g4:=g2.num
    split at hq
    ·cases hn:nextL l i.2.2 with
     | error f=>rw [Qbj hn] at hq;cases hq
     | ok z=>
      rw [Qa0 hn] at hq
      cases hq
      cases e
      exact ⟨by constructor <;> simp <;> (first | exact hu | exact g4 | exact g1 | skip),by simp⟩
    ·cases hq
theorem QoM {l:List UInt8} {req:List (List UInt8)} {F:Nat} (hF:l.length < F):∀ (n:Nat) (s:PS),Gp l s→Has (Qq2 (WfT req) n) (QbD l req F n s)
 | 0,s,h=>fun y e=>by rw [QbD] at e;split at e <;> cases e
 | n+1,s,h=>fun y e=>by
  rw [QbD] at e
  by_cases h0:whichL testNames s.1.spelt=0
  ·rw [if_pos h0] at e;cases e
  ·rw [if_neg h0] at e
   cases hu:QcE req s.1.spelt
   ·rw [hu,if_neg (by decide)] at e;cases e
   ·rw [hu,if_pos rfl] at e
    cases hn:nextL l s.2 with
    | error g=>cases (Qbj hn).symm.trans e
    | ok z=>
     replace e:=(Qa0 hn).symm.trans e
     obtain ⟨g1,g2⟩:=QdN h (Qd7 (zs:=testNames) h (by decide) h0) hn
     exact QmJ n hF (fun s g y e=>(QkD n s g y e).1) (fun s g=>QoM hF n s g) _ _ (by have:=QbW testNames s.1.spelt;have:testNames.length=10:=rfl;omega) (by rw [Qhf _ _ h0];exact hu) g1 y e
theorem Qga {α:Type} {l:List UInt8} {sub:PS→Except Flt (α×PS)} {P:α→Prop} (hg:∀ s,Gp l s→∀ y,sub s=.ok y→Gp l y.2) (hs:∀ s,Gp l s→Has P (sub s)):∀ (f:Nat) (acc:List α) (s:PS),Gp l s→(∀ a∈acc,P a)→∀ y,blockMore l sub f acc s=.ok y→Gp l y.2∧∀ a∈y.1,P a
 | 0,acc,s,g,hc=>fun y e=>by cases e;exact ⟨g,hc⟩
 | f+1,acc,s,g,hc=>fun y e=>by
  rw [blockMore] at e
  cases hp:mayL l [[125]] s with
  | error g=>rw [Qaf hp] at e;cases e
  | ok z=>
   rw [Qae hp] at e
   obtain ⟨h1,h2⟩:=Qge (zs:=[[125]]) g (by decide) z hp
   split at e
   ·cases hq:sub z.2 with
    | error g=>rw [Qaf hq] at e;cases e
    | ok x=>
     rw [Qae hq] at e
     refine Qga hg hs f _ x.2 (hg _ h1 x hq) (fun u hu=>?_) y e
     rcases List.mem_append.1 hu with hu | hu
     ·exact hc u hu
     ·rw [List.mem_singleton.1 hu];exact hs _ h1 x hq
   ·cases e;exact ⟨h1,hc⟩
theorem Qmh {α:Type} {l:List UInt8} {F:Nat} {sub:PS→Except Flt (α×PS)} {P:α→Prop} (hg:∀ s,Gp l s→∀ y,sub s=.ok y→Gp l y.2) (hs:∀ s,Gp l s→Has P (sub s)) {s:PS} (h:Gp l s):∀ y,blockL l F sub s=.ok y→Gp l y.2∧∀ a∈y.1,P a:=fun y e=>by
 unfold blockL at e
 cases hp:passL l [[123]] s with
 | error g=>rw [Qaf hp] at e;cases e
 | ok z=>
  rw [Qae hp] at e
  obtain ⟨h1,h2⟩:=QdJ (zs:=[[123]]) h (by decide) z hp
  exact Qga hg hs F [] z.2 h1 (by simp) y e
theorem Qrx {α β:Type} {l:List UInt8} {F:Nat} {tst:PS→Except Flt (β×PS)} {sub:PS→Except Flt (α×PS)} {P:α→Prop} {Q:β→Prop} (htg:∀ s,Gp l s→∀ y,tst s=.ok y→Gp l y.2) (ht:∀ s,Gp l s→Has Q (tst s)) (hg:∀ s,Gp l s→∀ y,sub s=.ok y→Gp l y.2) (hs:∀ s,Gp l s→Has P (sub s)) {s:PS} (h:Gp l s):∀ y,armL l F tst sub s=.ok y→Gp l y.2∧Q y.1.1∧∀ a∈y.1.2,P a:=fun y e=>by
 unfold armL at e
 cases hp:tst s with
 | error g=>rw [Qaf hp] at e;cases e
 | ok z=>
  rw [Qae hp] at e
  cases hq:blockL l F sub z.2 with
  | error g=>rw [Qaf hq] at e;cases e
  | ok x=>
   rw [Qae hq] at e
   have h1:=Qmh hg hs (htg _ h z hp) x hq
   have h2:=ht _ h z hp
   cases e
   exact ⟨h1.1,h2,h1.2⟩
theorem Qpo {α β:Type} {l:List UInt8} {F:Nat} {tst:PS→Except Flt (β×PS)} {sub:PS→Except Flt (α×PS)} {P:α→Prop} {Q:β→Prop} (htg:∀ s,Gp l s→∀ y,tst s=.ok y→Gp l y.2) (ht:∀ s,Gp l s→Has Q (tst s)) (hg:∀ s,Gp l s→∀ y,sub s=.ok y→Gp l y.2) (hs:∀ s,Gp l s→Has P (sub s)):∀ (f:Nat) (acc:List (β×List α)) (s:PS),Gp l s→acc≠[]→(∀ a∈acc,Q a.1∧∀ c∈a.2,P c)→∀ y,armsMore l F tst sub f acc s=.ok y→Gp l y.2∧y.1≠[]∧∀ a∈y.1,Q a.1∧∀ c∈a.2,P c
 | 0,acc,s,g,h,hc=>fun y e=>by cases e;exact ⟨g,h,hc⟩
 | f+1,acc,s,g,h,hc=>fun y e=>by
  rw [armsMore] at e
  cases hp:mayL l [Qb7] s with
  | error g=>rw [Qaf hp] at e;cases e
  | ok z=>
   rw [Qae hp] at e
   obtain ⟨h1,h2⟩:=Qge (zs:=[Qb7]) g (by decide) z hp
   split at e
   ·cases e;exact ⟨h1,h,hc⟩
   ·cases hq:armL l F tst sub z.2 with
    | error g=>rw [Qaf hq] at e;cases e
    | ok x=>
     rw [Qae hq] at e
     obtain ⟨h3,h4,h5⟩:=Qrx htg ht hg hs h1 x hq
     refine Qpo htg ht hg hs f _ x.2 h3 (by simp) (fun u hu=>?_) y e
     rcases List.mem_append.1 hu with hu | hu
     ·exact hc u hu
     ·rw [List.mem_singleton.1 hu];exact ⟨h4,h5⟩
theorem Qey {α:Type} {l:List UInt8} {s:PS} {a:α}:Has (fun x=>x=a) (semi l s a):=fun y e=>by
 unfold semi at e
 cases hp:passL l [[59]] s with
 | error g=>rw [Qaf hp] at e;cases e
 | ok z=>rw [Qae hp] at e;cases e;rfl
theorem Qnc (n:Nat) {l:List UInt8} {req:List (List UInt8)} {F:Nat} {tst:PS→Except Flt (Qbx n×PS)} {sub:PS→Except Flt (Qcd n×PS)} (htg:∀ s,Gp l s→∀ y,tst s=.ok y→Gp l y.2) (ht:∀ s,Gp l s→Has (Qq2 (WfT req) n) (tst s)) (hg:∀ s,Gp l s→∀ y,sub s=.ok y→Gp l y.2) (hs:∀ s,Gp l s→Has (QhX (WfT req) (WfC req) n) (sub s)) (k pos:Nat) (hk:k≤7) (hu:QcE req (cmdNames.getD k [])=true) {s:PS} (h:Gp l s):Has (fun x:QfA×List (Qbx n×List (Qcd n))×List (Qcd n)=>WfC req x.1 x.2.1.length x.2.2.length∧(∀ a∈x.2.1,Qq2 (WfT req) n a.1∧∀ c∈a.2,QhX (WfT req) (WfC req) n c)∧∀ c∈x.2.2,QhX (WfT req) (WfC req) n c) (cmdBody l F tst sub k pos s):=fun y e=>by
 unfold cmdBody at e
 split at e
 ·rw [Qey y e];exact ⟨by constructor <;> simp <;> (first | exact hu | skip),by simp,by simp⟩
 ·rw [Qey y e];exact ⟨by constructor <;> simp <;> (first | exact hu | skip),by simp,by simp⟩
 ·rw [Qey y e];exact ⟨by constructor <;> simp <;> (first | exact hu | skip),by simp,by simp⟩
 ·cases hq:stringL l (fun _=>0) s with
  | error g=>rw [Qaf hq] at e;cases e
  | ok x=>rw [Qae hq] at e;rw [Qey y e];exact ⟨by constructor <;> simp <;> (first | exact hu | skip),by simp,by simp⟩
 ·cases hq:stringL l (fun _=>0) s with
  | error g=>rw [Qaf hq] at e;cases e
  | ok x=>rw [Qae hq] at e;rw [Qey y e];exact ⟨by constructor <;> simp <;> (first | exact hu | skip),by simp,by simp⟩
 ·cases hq:stringL l (fun _=>0) s with
  | error g=>rw [Qaf hq] at e;cases e
  | ok x=>rw [Qae hq] at e;rw [Qey y e];exact ⟨by constructor <;> simp <;> (first | exact hu | skip),by simp,by simp⟩
 ·cases hm:mayL l [Qbn,Qbm,Qa1] s with
  | error g=>rw [Qaf hm] at e;cases e
  | ok m=>
   rw [Qae hm] at e
   have g0:=QuI m hm
   cases hv:stringL l (fun x=>if isNameL x then 0 else 7) m.2 with
   | error g=>rw [Qaf hv] at e;cases e
   | ok v=>
    rw [Qae hv] at e
    have g1:=QgU v hv
    have g2:isNameL v.1=true:=by
     dsimp only at g1
     split at g1
     ·assumption
     ·cases g1
    cases hq:stringL l (fun _=>0) v.2 with
    | error g=>rw [Qaf hq] at e;cases e
    | ok x=>
     rw [Qae hq] at e
     rw [Qey y e]
     exact ⟨by constructor <;> simp <;> (first | exact hu | exact g0 | exact ⟨v.1,g2,rfl⟩ | skip),by simp,by simp⟩
 ·rename_i h0 h1 h2 h3 h4 h5 h6
  have hk7:k=7:=by
   have a0:k≠0:=h0
   have a1:k≠1:=h1
   have a2:k≠2:=h2
   have a3:k≠3:=h3
   have a4:k≠4:=h4
   have a5:k≠5:=h5
   have a6:k≠6:=h6
   omega
  subst hk7
  cases ha:armL l F tst sub s with
  | error g=>rw [Qaf ha] at e;cases e
  | ok a=>
   rw [Qae ha] at e
   obtain ⟨g1,g2,g3⟩:=Qrx htg ht hg hs h a ha
   cases hb:armsMore l F tst sub F [a.1] a.2 with
   | error g=>rw [Qaf hb] at e;cases e
   | ok bb=>
    rw [Qae hb] at e
    obtain ⟨g4,g5,g6⟩:=Qpo htg ht hg hs F [a.1] a.2 g1 (by simp) (fun u hu=>by rw [List.mem_singleton.1 hu];exact ⟨g2,g3⟩) bb hb
    cases hm:mayL l [QdS] bb.2 with
    | error g=>rw [Qaf hm] at e;cases e
    | ok m=>
     rw [Qae hm] at e
     obtain ⟨g7,g8⟩:=Qge (zs:=[QdS]) g4 (by decide) m hm
     split at e
     ·cases e
      exact ⟨by constructor <;> simp <;> (first | exact hu | exact List.length_pos_iff.2 g5 | skip),g6,by simp⟩
     ·cases hc:blockL l F sub m.2 with
      | error g=>rw [Qaf hc] at e;cases e
      | ok cs=>
       rw [Qae hc] at e
       have g9:=Qmh hg hs g7 cs hc
       cases e
       exact ⟨by constructor <;> simp <;> (first | exact hu | exact List.length_pos_iff.2 g5 | skip),g6,g9.2⟩
theorem QtQ {l:List UInt8} {req:List (List UInt8)} {F:Nat}:∀ (n:Nat) (hn:n≤7) (s:PS),Gp l s→∀ y,cmdL l req F n s=.ok y→Gp l y.2:=fun n hn s h y e=>(Qsa n [] (by simp;omega) s h y e).1
theorem Qsz {l:List UInt8} {req:List (List UInt8)} {F:Nat} (hF:l.length < F):∀ (n:Nat) (hn:n≤7) (s:PS),Gp l s→Has (QhX (WfT req) (WfC req) n) (cmdL l req F n s)
 | 0,hn,s,h=>fun y e=>by rw [cmdL] at e;split at e <;> cases e
 | n+1,hn7,s,h=>fun y e=>by
  rw [cmdL] at e
  by_cases h0:whichL cmdNames s.1.spelt=0
  ·rw [if_pos h0] at e;cases e
  ·rw [if_neg h0] at e
   cases hu:QcE req s.1.spelt
   ·rw [hu,if_neg (by decide)] at e;cases e
   ·rw [hu,if_pos rfl] at e
    cases hn:nextL l s.2 with
    | error g=>cases (Qbj hn).symm.trans e
    | ok z=>
     replace e:=(Qa0 hn).symm.trans e
     obtain ⟨g1,g2⟩:=QdN h (Qd7 (zs:=cmdNames) h (by decide) h0) hn
     exact Qnc n (fun s g y e=>(QkD n s g y e).1) (fun s g=>QoM hF n s g) (QtQ n (by omega)) (fun s g=>Qsz hF n (by omega) s g) _ _ (by have:=QbW cmdNames s.1.spelt;have:cmdNames.length=8:=rfl;omega) (by rw [Qhf _ _ h0];exact hu) g1 y e
def WfR (req:List (List UInt8)):Prop:=req.Nodup∧∀ z∈req,0 < whichL [QaM,QaK,Qbb,QbB] z
theorem Ql4:∀ (zs:List (List UInt8)) (x:List UInt8),x∈zs→0 < whichL zs x
 | [],x,h=>by cases h
 | s :: r,x,h=>by
  unfold whichL
  split
  ·omega
  ·rename_i e
   rcases List.mem_cons.1 h with h | h
   ·exact absurd h.symm e
   ·have:=Ql4 r x h
    rw [if_neg (by omega)]
    omega
theorem QjV:∀ (xs req:List (List UInt8)),WfR req→(∀ z∈xs,0 < whichL [QaM,QaK,Qbb,QbB] z)→WfR (xs.foldl Qb9 req)
 | [],req,h,hx=>h
 | x :: r,req,h,hx=>by
  rw [List.foldl_cons]
  refine QjV r _ ?_ (fun z hz=>hx z (by simp [hz]))
  unfold Qb9
  split
  ·exact h
  ·rename_i h0
   refine ⟨?_,fun z hz=>?_⟩
   ·rw [List.nodup_append]
    refine ⟨h.1,by simp,fun a ha b hb=>?_⟩
    rw [List.mem_singleton.1 hb]
    intro e
    subst e
    exact h0 (Ql4 _ _ ha)
   ·rcases List.mem_append.1 hz with hz | hz
    ·exact h.2 z hz
    ·rw [List.mem_singleton.1 hz];exact hx x (by simp)
theorem Qj0 {l:List UInt8} {F:Nat}:∀ (f:Nat) (req:List (List UInt8)) (s:PS),WfR req→Has WfR (reqMore l F f req s)
 | 0,req,s,h=>fun y e=>by cases e;exact h
 | f+1,req,s,h=>fun y e=>by
  rw [reqMore] at e
  cases hp:mayL l [kRequire] s with
  | error g=>rw [Qaf hp] at e;cases e
  | ok z=>
   rw [Qae hp] at e
   split at e
   ·cases e;exact h
   ·cases hq:stringsL l (fun x=>if 0 < whichL [QaM,QaK,Qbb,QbB] x then 0 else 6) F z.2 with
    | error g=>rw [Qaf hq] at e;cases e
    | ok x=>
     rw [Qae hq] at e
     have h1:=Qeq x hq
     cases hr:passL l [[59]] x.2 with
     | error g=>rw [Qaf hr] at e;cases e
     | ok v=>
      rw [Qae hr] at e
      refine Qj0 f _ v.2 (QjV x.1 req h (fun z hz=>?_)) y e
      have:=h1.2 z hz
      split at this
      ·assumption
      ·cases this
theorem QhB {α:Type} {l:List UInt8} {sub:PS→Except Flt (α×PS)} {P:α→Prop} (hg:∀ s,Gp l s→∀ y,sub s=.ok y→Gp l y.2) (hs:∀ s,Gp l s→Has P (sub s)):∀ (f:Nat) (acc:List α) (s:PS),Gp l s→(∀ a∈acc,P a)→∀ y,cmdsMore sub f acc s=.ok y→∀ a∈y,P a
 | 0,acc,s,h,hc=>fun y e=>by cases e;exact hc
 | f+1,acc,s,h,hc=>fun y e=>by
  rw [cmdsMore] at e
  split at e
  ·cases e;exact hc
  ·cases hq:sub s with
   | error g=>rw [hq] at e;cases e
   | ok x=>
    rw [hq] at e
    refine QhB hg hs f _ x.2 (hg _ h x hq) (fun u hu=>?_) y e
    rcases List.mem_append.1 hu with hu | hu
    ·exact hc u hu
    ·rw [List.mem_singleton.1 hu];exact hs _ h x hq
theorem QkY {l:List UInt8} {y:List (List UInt8)×List (Qcd 7)} (h:parseL l=.ok y):WfR y.1∧∀ c∈y.2,QhX (WfT y.1) (WfC y.1) 7 c:=by
 unfold parseL at h
 dsimp only at h
 have hF:l.length < 2*l.length+10:=by omega
 generalize 2*l.length+10=F at h hF
 cases h1:nextL l 0 with
 | error f=>rw [h1] at h;cases h
 | ok s=>
  rw [h1] at h
  dsimp only at h
  have hg:Gp l s:=by
   unfold nextL at h1
   cases hs:Qb4 (l.length+1) (l.drop 0) 0 with
   | error f=>rw [hs] at h1;cases h1
   | ok n=>
    rw [hs] at h1
    exact (QkK l n (QdX l _ 0 n (Nat.zero_le _) hs).2 s h1).1
  cases h3:reqMore l F F [] s with
  | error f=>rw [h3] at h;cases h
  | ok z=>
   rw [h3] at h
   dsimp only at h
   have g1:=(Qhd F [] s hg z h3).1
   have g2:=Qj0 F [] s ⟨by simp,by simp⟩ z h3
   cases h4:cmdsMore (cmdL l z.1 F 7) F [] z.2 with
   | error f=>rw [h4] at h;cases h
   | ok cs=>
    rw [h4] at h
    have g3:=QhB (P:=QhX (WfT z.1) (WfC z.1) 7) (QtQ 7 (by omega)) (fun s g=>Qsz hF 7 (by omega) s g) F [] z.2 g1 (by simp) cs h4
    cases h
    exact ⟨g2,g3⟩
theorem Qgy {l:List UInt8} {q:Nat} {c:UInt8} {r:List UInt8} (h:l.drop q=c :: r):l.drop (q+1)=r:=by
 rw [← List.drop_drop,h];rfl
def Stops (r:List UInt8):Prop:=∀ c t,r=c :: t→Qbg c=false
theorem QlH:Stops []:=fun c t h=>by cases h
theorem Qci {c:UInt8} {t:List UInt8} (h:Qbg c=false):Stops (c :: t):=fun d u e=>by cases e;exact h
def Tok (r r':List UInt8) (k:Nat) (sp sa:List UInt8) (nu:Nat):Prop:=∀ l q,l.drop q=r→∃ q1 q2,nextL l q=.ok (⟨k,q1,sp,sa,nu⟩,q2)∧l.drop q2=r'
theorem Qeg {c:UInt8} {r r':List UInt8} {k:Nat} {sp sa:List UInt8} {nu:Nat} (hb:Qbe c.toNat=true) (h:Tok r r' k sp sa nu):Tok (c :: r) r' k sp sa nu:=fun l q hq=>by
 obtain ⟨q1,q2,h1,h2⟩:=h l (q+1) (Qgy hq)
 refine ⟨q1,q2,?_,h2⟩
 rw [QgV,Qgy hq] at h1
 rw [QgV,hq,Qh3 r q hb]
 exact h1
theorem Qgp {c:UInt8} {r r':List UInt8} {k:Nat} {sp sa:List UInt8} {nu m:Nat} (hb:Qbe c.toNat=false) (h35:¬ c.toNat=35) (h47:¬ c.toNat=47) (hs:∀ q,scanL (c :: r) q=.ok (⟨k,q,sp,sa,nu⟩,q+m)) (hr:(c :: r).drop m=r'):Tok (c :: r) r' k sp sa nu:=fun l q hq=>by
 refine ⟨q,q+m,?_,?_⟩
 ·rw [QgV,hq,Qqx r q hb h35 ?_]
  ·show scanL (l.drop q) q=_
   rw [hq]
   exact hs q
  ·unfold Lib.hasPrefix
   have:¬ (47:UInt8)=c:=fun e=>h47 (by rw [← e];rfl)
   simp [List.isPrefixOf,this]
 ·rw [← List.drop_drop,hq,hr]
theorem Qi8 {r:List UInt8} (h:Stops r):r.takeWhile Qbg=[]:=by
 cases r with
 | nil=>rfl
 | cons c t=>rw [List.takeWhile_cons,h c t rfl];rfl
theorem QlU {w r:List UInt8} (hw:∀ c∈w,Qbg c=true) (h:Stops r):Qbo (w++r)=w.length:=by
 unfold Qbo
 rw [List.takeWhile_append_of_pos hw,Qi8 h,List.append_nil]
theorem Qkb:∀ t:List UInt8,(t.takeWhile Qbg).length=t.length→∀ d∈t,Qbg d=true
 | [],_=>fun d hd=>by cases hd
 | c :: t,h=>fun d hd=>by
  rw [List.takeWhile_cons] at h
  cases hc:Qbg c
  ·rw [hc] at h;simp at h
  ·rw [hc] at h
   rcases List.mem_cons.1 hd with hd | hd
   ·rw [hd];exact hc
   ·exact Qkb t (by simpa using h) d hd
theorem QdU {w:List UInt8} (h:isNameL w=true):∃ c t,w=c :: t∧Qa7 c.toNat=true∧∀ d∈t,Qbg d=true:=by
 cases w with
 | nil=>cases h
 | cons c t=>
  have h:(!(c :: t).isEmpty && (if Qa7 c.toNat then 1+Qbo t else 0) == (c :: t).length)=true:=h
  refine ⟨c,t,rfl,?_⟩
  cases hc:Qa7 c.toNat
  ·rw [hc] at h;simp at h
  ·rw [hc] at h
   refine ⟨rfl,?_⟩
   simp at h
   exact Qkb t (by unfold Qbo at h;omega)
theorem Qig {w r:List UInt8} (h:isNameL w=true) (hr:Stops r):Qbc (w++r)=w.length:=by
 obtain ⟨c,t,rfl,h1,h2⟩:=QdU h
 show (if Qa7 c.toNat then 1+Qbo (t++r) else 0)=_
 rw [if_pos h1,QlU h2 hr,List.length_cons]
 omega
theorem QrD {c:UInt8} (h:Qa7 c.toNat=true):Qbe c.toNat=false∧¬ c.toNat=35∧¬ c.toNat=47:=by
 unfold Qa7 Qco at h
 unfold Qbe
 simp at h ⊢
 omega
def Kw (w:List UInt8):Prop:=isNameL w=true∧smallL w=w
theorem Qdv {w r:List UInt8} (hw:Kw w) (hr:Stops r):Tok (w++r) r 1 w [] 0:=by
 have h1:=Qig hw.1 hr
 obtain ⟨c,t,e,h2,h3⟩:=QdU hw.1
 have hs:=hw.2
 subst e
 rw [List.cons_append] at h1 ⊢
 obtain ⟨a,b,d⟩:=QrD h2
 refine Qgp (m:=(c :: t).length) a b d (fun q=>?_) (by rw [← List.cons_append,List.drop_left])
 unfold scanL
 dsimp only
 rw [if_pos h2,h1]
 unfold QcQ
 rw [← List.cons_append,List.take_left,hs]
theorem Qep {w r:List UInt8} (hw:Kw w) (hr:Stops r):Tok (58 :: (w++r)) r 2 (58 :: w) [] 0:=by
 have h1:=Qig hw.1 hr
 have h0:w.length≠0:=by obtain ⟨c,t,e,_⟩:=QdU hw.1;subst e;simp
 refine Qgp (m:=1+w.length) (by decide) (by decide) (by decide) (fun q=>?_) ?_
 ·unfold scanL
  dsimp only
  rw [if_neg (by decide),if_pos (by decide),if_neg (by rw [h1];exact h0),h1]
  unfold QcQ
  have e:(58 :: (w++r)).take (1+w.length)=58 :: w:=by rw [Nat.add_comm,List.take_succ_cons,List.take_left]
  rw [e]
  have e2:smallL (58 :: w)=58 :: w:=by
   have:=hw.2
   unfold smallL at this ⊢
   rw [List.map_cons,this]
   rfl
  rw [e2]
 ·rw [Nat.add_comm,List.drop_succ_cons,List.drop_left]
theorem QdY {c:UInt8} {r:List UInt8} (hs:Qii c=true) (hl:Qa7 c.toNat=false) (hd:QaF c.toNat=false) (h58:¬ c.toNat=58) (h34:¬ c.toNat=34) (hb:Qbe c.toNat=false) (h35:¬ c.toNat=35) (h47:¬ c.toNat=47) (hsm:smallB c=c):Tok (c :: r) r 3 [c] [] 0:=by
 refine Qgp (m:=1) hb h35 h47 (fun q=>?_) rfl
 unfold scanL
 dsimp only
 rw [if_neg (by rw [hl];decide),if_neg h58,if_neg (by rw [hd];decide),if_neg h34,if_pos hs]
 unfold QcQ
 simp [smallL,hsm]
theorem Qgt (r:List UInt8):∀ x:List UInt8,quoteL (x.flatMap QbI++34 :: r)=some (x,(x.flatMap QbI).length+1)
 | []=>by
  show quoteL (34 :: r)=_
  unfold quoteL
  rw [if_pos (by decide)]
  rfl
 | c :: x=>by
  have ih:=Qgt r x
  rw [List.flatMap_cons]
  by_cases h:c=34∨c=92
  ·have hb:QbI c=[92,c]:=by unfold QbI;rw [if_pos h]
   rw [hb]
   show quoteL (92 :: c :: (x.flatMap QbI++34 :: r))=_
   rw [quoteL.eq_def]
   dsimp only
   rw [if_neg (by decide),if_pos (by decide),ih]
   simp
  ·have hb:QbI c=[c]:=by unfold QbI;rw [if_neg h]
   rw [hb]
   show quoteL (c :: (x.flatMap QbI++34 :: r))=_
   have h1:¬ c.toNat=34:=fun e=>h (Or.inl (UInt8.toNat_inj.1 (by rw [e];rfl)))
   have h2:¬ c.toNat=92:=fun e=>h (Or.inr (UInt8.toNat_inj.1 (by rw [e];rfl)))
   rw [quoteL.eq_def]
   dsimp only
   rw [if_neg h1,if_neg h2,ih]
   simp
theorem Qd8 (x r:List UInt8):Tok (quotedL x++r) r 5 [] x 0:=by
 unfold quotedL
 rw [List.cons_append,List.append_assoc]
 have h:=Qgt r x
 refine Qgp (m:=1+((x.flatMap QbI).length+1)) (by decide) (by decide) (by decide) (fun q=>?_) ?_
 ·unfold scanL
  dsimp only
  rw [if_neg (by decide),if_neg (by decide),if_neg (by decide),if_pos (by decide)]
  unfold quoteR
  have e:x.flatMap QbI++([34]++r)=x.flatMap QbI++34 :: r:=rfl
  rw [e,h]
 ·rw [Nat.add_comm,List.drop_succ_cons]
  have:x.flatMap QbI++([34]++r)=(x.flatMap QbI++[34])++r:=by simp
  rw [this]
  have e:(x.flatMap QbI).length+1=(x.flatMap QbI++[34]).length:=by simp
  rw [e,List.drop_left]
theorem QkW {d:Nat} (h:d < 10):QaF (UInt8.ofNat (48+d)).toNat=true∧(UInt8.ofNat (48+d)).toNat - 48=d:=by
 have:(UInt8.ofNat (48+d)).toNat=48+d:=by rw [UInt8.toNat_ofNat'];omega
 rw [this]
 unfold QaF
 simp
 omega
theorem Qrk:∀ (n:Nat),∀ c∈Lib.decDigits n,QaF c.toNat=true:=fun n=>by
 induction n using Nat.strongRecOn with
 | ind n ih=>
  intro c hc
  rw [Lib.decDigits] at hc
  split at hc
  ·rename_i h
   rw [List.mem_singleton.1 hc];exact (QkW h).1
  ·rename_i h
   rcases List.mem_append.1 hc with hc | hc
   ·exact ih (n / 10) (by omega) c hc
   ·rw [List.mem_singleton.1 hc];exact (QkW (Nat.mod_lt _ (by omega))).1
theorem QuH:∀ (n:Nat),n≤2147483647→(Lib.decDigits n).foldl Qdp 0=n:=fun n=>by
 induction n using Nat.strongRecOn with
 | ind n ih=>
  intro hn
  rw [Lib.decDigits]
  split
  ·rename_i h
   show Qdp 0 (UInt8.ofNat (48+n))=n
   unfold Qdp
   rw [(QkW h).2]
   omega
  ·rename_i h
   rw [List.foldl_append,ih (n / 10) (by omega) (by omega)]
   show Qdp (n / 10) (UInt8.ofNat (48+n % 10))=n
   unfold Qdp
   rw [(QkW (Nat.mod_lt _ (by omega))).2]
   omega
theorem QtS (n:Nat):Lib.decDigits n≠[]:=by
 rw [Lib.decDigits]
 split <;> simp
theorem QnQ {r:List UInt8} (h:Stops r):r.takeWhile (fun c=>QaF c.toNat)=[]:=by
 cases r with
 | nil=>rfl
 | cons c t=>
  have h1:=h c t rfl
  unfold Qbg at h1
  rw [List.takeWhile_cons]
  have:QaF c.toNat=false:=by
   cases hd:QaF c.toNat
   ·rfl
   ·rw [hd] at h1;simp at h1
  rw [this];rfl
theorem QuN (n:Nat) (hn:n≤2147483647) {r:List UInt8} (hr:Stops r):Tok (itoaL n++r) r 4 [] [] n:=by
 have h1:(itoaL n++r).takeWhile (fun c=>QaF c.toNat)=itoaL n:=by
  rw [List.takeWhile_append_of_pos (l₁:=itoaL n) (Qrk n),QnQ hr,List.append_nil]
 have h2:Qcl (itoaL n++r)=(itoaL n).length:=by unfold Qcl;rw [h1]
 have h3:Qiq (itoaL n++r)=n:=by unfold Qiq;rw [h1];exact QuH n hn
 have h4:(itoaL n++r).getD (itoaL n).length 0=r.getD 0 0:=by
  rw [List.getD_eq_getElem?_getD,List.getElem?_append_right (Nat.le_refl _),Nat.sub_self,← List.getD_eq_getElem?_getD]
 have h5:Qbg (r.getD 0 0)=false:=by
  cases r with
  | nil=>rfl
  | cons c t=>exact hr c t rfl
 have h6:isM (r.getD 0 0)=false∧isK (r.getD 0 0)=false:=by
  generalize r.getD 0 0=c at h5
  unfold Qbg Qa7 Qco at h5
  unfold isM isK
  simp at h5 ⊢
  omega
 obtain ⟨c,t,e⟩:∃ c t,itoaL n=c :: t:=List.exists_cons_of_ne_nil (QtS n)
 have hc:QaF c.toNat=true:=Qrk n c (by show c∈itoaL n;rw [e];simp)
 have hf:Qa7 c.toNat=false∧¬ c.toNat=58∧Qbe c.toNat=false∧¬ c.toNat=35∧¬ c.toNat=47:=by
  unfold QaF at hc
  unfold Qa7 Qco Qbe
  simp at hc ⊢
  omega
 obtain ⟨f1,f2,f3,f4,f5⟩:=hf
 have hT:∀ q,scanL (itoaL n++r) q=.ok (⟨4,q,[],[],n⟩,q+(itoaL n).length):=fun q=>by
  have e1:scanL (itoaL n++r) q=scanNumL (itoaL n++r) q:=by
   rw [e,List.cons_append]
   unfold scanL
   dsimp only
   rw [if_neg (by rw [f1];decide),if_neg f2,if_pos hc]
  rw [e1]
  unfold scanNumL
  dsimp only
  rw [h2,h3,h4,h6.1,h6.2]
  simp only [Bool.false_eq_true,if_false,Bool.or_self]
  rw [h4,h5,if_neg (by decide),if_neg (by omega)]
 have hd:(itoaL n++r).drop (itoaL n).length=r:=List.drop_left
 generalize (itoaL n).length=m at hT hd
 rw [e,List.cons_append] at hT hd ⊢
 exact Qgp f3 f4 f5 hT hd
theorem Qro:Tok [] [] 0 [] [] 0:=fun l q hq=>by
 refine ⟨q,q,?_,hq⟩
 rw [QgV,hq,Qr1]
 show scanL (l.drop q) q=_
 rw [hq]
 rfl
def Lx (r:List UInt8):Prop:=∃ r' k sp sa nu,Tok r r' k sp sa nu
theorem Tok.lx {r r':List UInt8} {k:Nat} {sp sa:List UInt8} {nu:Nat} (h:Tok r r' k sp sa nu):Lx r:=⟨_,_,_,_,_,h⟩
theorem Qbh {c:UInt8} {r:List UInt8} (hb:Qbe c.toNat=true) (h:Lx r):Lx (c :: r):=by
 obtain ⟨_,_,_,_,_,h⟩:=h;exact (Qeg hb h).lx
def Nx (l r:List UInt8) (s:PS):Prop:=∃ q,l.drop q=r∧nextL l q=.ok s
theorem Nx.blank {l:List UInt8} {c:UInt8} {r:List UInt8} {s:PS} (hb:Qbe c.toNat=true) (h:Nx l (c :: r) s):Nx l r s:=by
 obtain ⟨q,h1,h2⟩:=h
 refine ⟨q+1,Qgy h1,?_⟩
 rw [QgV,h1,Qh3 r q hb] at h2
 rw [QgV,Qgy h1]
 exact h2
theorem Nx.tok {l r r':List UInt8} {k:Nat} {sp sa:List UInt8} {nu:Nat} {s:PS} (h:Nx l r s) (ht:Tok r r' k sp sa nu):(∃ q1,s.1=⟨k,q1,sp,sa,nu⟩)∧l.drop s.2=r':=by
 obtain ⟨q,h1,h2⟩:=h
 obtain ⟨q1,q2,h3,h4⟩:=ht l q h1
 rw [h3] at h2
 cases h2
 exact ⟨⟨q1,rfl⟩,h4⟩
theorem Nx.next {l r:List UInt8} {s:PS} (hl:Lx r) (h:l.drop s.2=r):∃ y,nextL l s.2=.ok y∧Nx l r y:=by
 obtain ⟨_,_,_,_,_,ht⟩:=hl
 obtain ⟨q1,q2,h3,h4⟩:=ht l s.2 h
 exact ⟨_,h3,s.2,h,h3⟩
def Reads {α:Type} (l r r':List UInt8) (f:PS→Except Flt (α×PS)) (P:α→Prop):Prop:=∀ s,Nx l r s→∃ a s',f s=.ok (a,s')∧P a∧Nx l r' s'
theorem Reads.blank {α:Type} {l r r':List UInt8} {c:UInt8} {f:PS→Except Flt (α×PS)} {P:α→Prop} (hb:Qbe c.toNat=true) (h:Reads l r r' f P):Reads l (c :: r) r' f P:=fun s hs=>h s (hs.blank hb)
theorem Reads.andThen {α β:Type} {l r r1 r2:List UInt8} {f:PS→Except Flt (α×PS)} {P:α→Prop} {k:α→PS→Except Flt (β×PS)} {Q:β→Prop} (h:Reads l r r1 f P) (hk:∀ a,P a→Reads l r1 r2 (k a) Q):Reads l r r2 (fun s=>QaT (f s) k) Q:=fun s hs=>by
 obtain ⟨a,s1,h1,h2,h3⟩:=h s hs
 obtain ⟨b,s2,h4,h5,h6⟩:=hk a h2 s1 h3
 exact ⟨b,s2,(Qae h1).trans h4,h5,h6⟩
theorem Reads.ok {α:Type} {l r:List UInt8} {a:α} {P:α→Prop} (h:P a):Reads l r r (fun s=>.ok (a,s)) P:=fun s hs=>⟨a,s,rfl,h,hs⟩
theorem Reads.mono {α:Type} {l r r':List UInt8} {f:PS→Except Flt (α×PS)} {P Q:α→Prop} (h:Reads l r r' f P) (hp:∀ a,P a→Q a):Reads l r r' f Q:=fun s hs=>by
 obtain ⟨a,s',h1,h2,h3⟩:=h s hs
 exact ⟨a,s',h1,hp a h2,h3⟩
theorem Qcw {l r r':List UInt8} {k:Nat} {sp sa:List UInt8} {nu:Nat} {zs:List (List UInt8)} (ht:Tok r r' k sp sa nu) (hi:¬ whichL zs sp=0) (hl:Lx r'):Reads l r r' (passL l zs) (fun i=>i=whichL zs sp):=fun s hs=>by
 obtain ⟨⟨q,h1⟩,h2⟩:=hs.tok ht
 obtain ⟨y,h3,h4⟩:=Nx.next hl h2
 refine ⟨whichL zs sp,y,?_,rfl,h4⟩
 unfold passL
 rw [h1,if_neg hi,h3]
theorem Qek {l r r':List UInt8} {k:Nat} {sp sa:List UInt8} {nu:Nat} {zs:List (List UInt8)} (ht:Tok r r' k sp sa nu) (hi:¬ whichL zs sp=0) (hl:Lx r'):Reads l r r' (mayL l zs) (fun i=>i=whichL zs sp):=fun s hs=>by
 obtain ⟨⟨q,h1⟩,h2⟩:=hs.tok ht
 obtain ⟨y,h3,h4⟩:=Nx.next hl h2
 refine ⟨whichL zs sp,y,?_,rfl,h4⟩
 unfold mayL
 rw [h1,if_neg hi,h3]
theorem QfV {l r r':List UInt8} {k:Nat} {sp sa:List UInt8} {nu:Nat} {zs:List (List UInt8)} (ht:Tok r r' k sp sa nu) (hi:whichL zs sp=0):Reads l r r (mayL l zs) (fun i=>i=0):=fun s hs=>by
 obtain ⟨⟨q,h1⟩,h2⟩:=hs.tok ht
 refine ⟨0,s,?_,rfl,hs⟩
 unfold mayL
 rw [h1,if_pos hi]
theorem Qb0 {l:List UInt8} {x r':List UInt8} {chk:List UInt8→Nat} (hc:chk x=0) (hl:Lx r'):Reads l (quotedL x++r') r' (stringL l chk) (fun y=>y=x):=fun s hs=>by
 obtain ⟨⟨q,h1⟩,h2⟩:=hs.tok (Qd8 x r')
 obtain ⟨y,h3,h4⟩:=Nx.next hl h2
 refine ⟨x,y,?_,rfl,h4⟩
 unfold stringL
 rw [h1]
 dsimp only
 rw [if_pos rfl,if_pos hc,h3]
theorem Qdk (x r:List UInt8):Lx (quotedL x++r):=(Qd8 x r).lx
theorem Qme (r:List UInt8):Tok (44 :: r) r 3 [44] [] 0:=QdY (by decide) (by decide) (by decide) (by decide) (by decide) (by decide) (by decide) (by decide) (by decide)
theorem QtV (r:List UInt8):Tok (93 :: r) r 3 [93] [] 0:=QdY (by decide) (by decide) (by decide) (by decide) (by decide) (by decide) (by decide) (by decide) (by decide)
theorem QrO (r:List UInt8):Tok (91 :: r) r 3 [91] [] 0:=QdY (by decide) (by decide) (by decide) (by decide) (by decide) (by decide) (by decide) (by decide) (by decide)
theorem Qt2 (r:List UInt8):Tok (40 :: r) r 3 [40] [] 0:=QdY (by decide) (by decide) (by decide) (by decide) (by decide) (by decide) (by decide) (by decide) (by decide)
theorem QtU (r:List UInt8):Tok (41 :: r) r 3 [41] [] 0:=QdY (by decide) (by decide) (by decide) (by decide) (by decide) (by decide) (by decide) (by decide) (by decide)
theorem QfE (r:List UInt8):Tok (59 :: r) r 3 [59] [] 0:=QdY (by decide) (by decide) (by decide) (by decide) (by decide) (by decide) (by decide) (by decide) (by decide)
theorem QoC (r:List UInt8):Tok (123 :: r) r 3 [123] [] 0:=QdY (by decide) (by decide) (by decide) (by decide) (by decide) (by decide) (by decide) (by decide) (by decide)
theorem QrV (r:List UInt8):Tok (125 :: r) r 3 [125] [] 0:=QdY (by decide) (by decide) (by decide) (by decide) (by decide) (by decide) (by decide) (by decide) (by decide)
def QgH (xs:List (List UInt8)):List UInt8:=xs.flatMap fun x=>44 :: 32 :: quotedL x
theorem Qvn (x:List UInt8):∀ xs:List (List UInt8),Qcr [44,32] ((x :: xs).map quotedL)=quotedL x++QgH xs
 | []=>by simp [Qcr,QgH]
 | y :: r=>by
  have ih:=Qvn y r
  show quotedL x++[44,32]++Qcr [44,32] ((y :: r).map quotedL)=_
  rw [ih]
  simp [QgH]
theorem QjR {l:List UInt8} {r':List UInt8} {chk:List UInt8→Nat} (hl:Lx r'):∀ (xs:List (List UInt8)) (f:Nat) (acc:List (List UInt8)),(∀ x∈xs,chk x=0)→xs.length < f→Reads l (QgH xs++93 :: r') r' (moreL l chk f acc) (fun ys=>ys=acc++xs)
 | xs,0,acc,hc,hf=>by omega
 | [],f+1,acc,hc,hf=>fun s hs=>by
  obtain ⟨i,s1,h1,h2,h3⟩:=Qcw (zs:=[[44],[93]]) (QtV r') (by decide) hl s hs
  refine ⟨acc,s1,?_,by simp,h3⟩
  rw [moreL,h1]
  dsimp only
  rw [h2,if_neg (by decide)]
 | x :: xs,f+1,acc,hc,hf=>fun s hs=>by
  have e:QgH (x :: xs)++93 :: r'=44 :: 32 :: (quotedL x++(QgH xs++93 :: r')):=by simp [QgH]
  rw [e] at hs
  have hl2:Lx (QgH xs++93 :: r'):=by
   cases xs with
   | nil=>exact (QtV r').lx
   | cons y ys=>exact (Qme _).lx
  obtain ⟨i,s1,h1,h2,h3⟩:=Qcw (zs:=[[44],[93]]) (Qme _) (by decide) (Qbh (by decide) (Qdk x _)) s hs
  obtain ⟨y,s2,h4,h5,h6⟩:=Qb0 (chk:=chk) (hc x (by simp)) hl2 s1 (h3.blank (by decide))
  obtain ⟨ys,s3,h7,h8,h9⟩:=QjR hl xs f (acc++[x]) (fun z hz=>hc z (by simp [hz])) (by simp at hf;omega) s2 h6
  refine ⟨ys,s3,?_,by rw [h8];simp,h9⟩
  rw [moreL,h1]
  dsimp only
  rw [h2,if_pos (by decide),h4]
  dsimp only
  rw [h5]
  exact h7
theorem Qdl (x y:List UInt8) (r:List (List UInt8)):Qak (x :: y :: r)=91 :: (quotedL x++(QgH (y :: r)++[93])):=by
 show [91]++Qcr [44,32] ((x :: y :: r).map quotedL)++[93]=_
 rw [Qvn]
 simp
theorem Qf6 {xs:List (List UInt8)} (hx:xs≠[]) (r:List UInt8):Lx (Qak xs++r):=by
 match xs,hx with
 | [x],_=>exact Qdk x r
 | x :: y :: t,_=>rw [Qdl];exact (QrO _).lx
theorem QdD {l:List UInt8} {r':List UInt8} {chk:List UInt8→Nat} {F:Nat} {xs:List (List UInt8)} (hl:Lx r') (hx:xs≠[]) (hc:∀ x∈xs,chk x=0) (hF:xs.length≤F):Reads l (Qak xs++r') r' (stringsL l chk F) (fun ys=>ys=xs):=fun s hs=>by
 match xs,hx with
 | [x],_=>
  obtain ⟨i,s1,h1,h2,h3⟩:=QfV (l:=l) (zs:=[[91]]) (Qd8 x r') (by decide) s hs
  obtain ⟨y,s2,h4,h5,h6⟩:=Qb0 (chk:=chk) (hc x (by simp)) hl s1 h3
  refine ⟨[x],s2,?_,rfl,h6⟩
  unfold stringsL
  rw [h1]
  dsimp only
  rw [h4]
  dsimp only
  rw [h2,if_pos rfl,h5]
 | x :: y :: t,_=>
  have e:Qak (x :: y :: t)++r'=91 :: (quotedL x++(QgH (y :: t)++93 :: r')):=by rw [Qdl];simp
  rw [e] at hs
  obtain ⟨i,s1,h1,h2,h3⟩:=Qek (zs:=[[91]]) (QrO _) (by decide) (Qdk x _) s hs
  have hl2:Lx (QgH (y :: t)++93 :: r'):=(Qme _).lx
  obtain ⟨z,s2,h4,h5,h6⟩:=Qb0 (chk:=chk) (hc x (by simp)) hl2 s1 h3
  obtain ⟨ys,s3,h7,h8,h9⟩:=QjR (chk:=chk) hl (y :: t) F [x] (fun z hz=>hc z (by simp at hz ⊢;right;exact hz)) (by simp at hF ⊢;omega) s2 h6
  refine ⟨ys,s3,?_,by rw [h8];simp,h9⟩
  unfold stringsL
  rw [h1]
  dsimp only
  rw [h4]
  dsimp only
  rw [h2,if_neg (by decide),h5]
  exact h7
theorem Qbt:∀ (js:List Nat) (cs:List Ins),(landL js cs).length=cs.length
 | [],_=>rfl
 | j :: r,cs=>by
  show (landL r (cs.modify j _)).length=_
  rw [Qbt r,List.length_modify]
theorem Qde {α:Type} {sub:α→List Ins→List Ins} (h:∀ t cs,cs.length≤(sub t cs).length):∀ (ts:List α) (cs:List Ins),cs.length≤(blockC sub ts cs).length
 | [],_=>Nat.le_refl _
 | t :: r,cs=>Nat.le_trans (h t cs) (Qde h r (sub t cs))
theorem QkX {α:Type} {sub:α→List Ins→List Ins} (h:∀ t cs,cs.length≤(sub t cs).length) (jump:Int):∀ (ts:List α) (p:List Ins×List Nat),p.1.length≤(ts.foldl (Qea sub jump) p).1.length
 | [],_=>Nat.le_refl _
 | t :: r,p=>by
  have h1:=QkX h jump r (Qea sub jump p t)
  have h2:=h t p.1
  have h3:(Qea sub jump p t).1.length=(sub t p.1).length+1:=by unfold Qea;simp
  rw [List.foldl_cons];omega
theorem QdK (b:Bool) (r:List Ins×List Nat):(Qdb b r).length=r.1.length+3:=by
 unfold Qdb
 rw [Qbt,List.length_append,Qbt,List.length_append];rfl
theorem QmM {α:Type} {sub:α→List Ins→List Ins} (h:∀ t cs,cs.length≤(sub t cs).length) (x:QcT) (ts:List α) (cs:List Ins):cs.length≤(QaZ sub x ts cs).length:=by
 have hg:∀ jump b,cs.length≤(QcZ sub jump b ts cs).length:=fun jump b=>by
  unfold QcZ
  rw [QdK]
  have:=QkX h jump ts (cs,[])
  dsimp only at this
  omega
 unfold QaZ
 split
 all_goals first | exact hg _ _ | (rw [List.length_append];first | (have:=Qde h ts cs;omega) | omega)
theorem QhZ:∀ (n:Nat) (t:Qbx n) (cs:List Ins),cs.length≤(Qcf n t cs).length
 | 0,_,_=>Nat.le_refl _
 | n+1,x,cs=>QmM (QhZ n) x.1 x.2 cs
theorem Qup {α β:Type} {tst:β→List Ins→List Ins} {cmd:α→List Ins→List Ins} (ht:∀ t cs,cs.length≤(tst t cs).length) (hc:∀ t cs,cs.length≤(cmd t cs).length) (p:List Ins×List Nat) (a:β×List α):p.1.length≤(Qlg tst cmd p a).1.length:=by
 unfold Qlg
 dsimp only
 rw [Qbt,List.length_append]
 have h1:=ht a.1 p.1
 have h2:=Qde hc a.2 (tst a.1 p.1++[QcR 5])
 rw [List.length_append] at h2
 omega
theorem Qg3 {α β:Type} {tst:β→List Ins→List Ins} {cmd:α→List Ins→List Ins} (ht:∀ t cs,cs.length≤(tst t cs).length) (hc:∀ t cs,cs.length≤(cmd t cs).length):∀ (as_:List (β×List α)) (p:List Ins×List Nat),p.1.length≤(as_.foldl (Qlg tst cmd) p).1.length
 | [],_=>Nat.le_refl _
 | a :: r,p=>Nat.le_trans (Qup ht hc p a) (Qg3 ht hc r _)
theorem Qhm {α:Type} {cmd:α→List Ins→List Ins} (hc:∀ t cs,cs.length≤(cmd t cs).length) (els:List α) (r:List Ins×List Nat):r.1.length≤(QdL cmd els r).length:=by
 unfold QdL
 rw [Qbt]
 exact Qde hc els r.1
theorem Qox {α β:Type} {tst:β→List Ins→List Ins} {cmd:α→List Ins→List Ins} (ht:∀ t cs,cs.length≤(tst t cs).length) (hc:∀ t cs,cs.length≤(cmd t cs).length) (x:QfA) (arms:List (β×List α)) (els:List α) (cs:List Ins):cs.length≤(Qbp tst cmd x arms els cs).length:=by
 have hg:cs.length≤(Qd4 tst cmd arms els cs).length:=Nat.le_trans (Qg3 ht hc arms (cs,[])) (Qhm hc els _)
 unfold Qbp
 split
 all_goals first | exact hg | (rw [List.length_append];omega)
theorem Qnk:∀ (n:Nat) (t:Qcd n) (cs:List Ins),cs.length≤(Qjc n t cs).length
 | 0,_,_=>Nat.le_refl _
 | n+1,x,cs=>Qox (QhZ n) (Qnk n) x.1 x.2.1 x.2.2 cs
def QoT (xs:List (List UInt8)):Nat:=(xs.map List.length).sum
theorem QcG (x:List UInt8) (xs:List (List UInt8)):QoT (x :: xs)=x.length+QoT xs:=by simp [QoT]
theorem QlP:∀ (ps:List (List UInt8)) (t:List UInt8),t.length+QoT ps≤(ps.foldl QaJ t).length
 | [],t=>by simp [QoT]
 | p :: r,t=>by
  have h1:=QlP r (QaJ t p)
  have h2:t.length+p.length≤(QaJ t p).length:=by
   unfold QaJ
   split <;> simp only [List.length_append,List.length_cons,List.length_nil] <;> omega
  rw [List.foldl_cons,QcG];omega
theorem QgN (ps:List (List UInt8)):QoT ps≤(phraseL ps).length:=by
 have:=QlP ps []
 unfold phraseL
 simp only [List.length_nil] at this
 omega
theorem Qpj:∀ (xs:List (List UInt8)),QoT xs+2*xs.length≤(Qcr [44,32] xs).length+2
 | []=>by simp [QoT,Qcr]
 | [x]=>by simp [QoT,Qcr]
 | x :: y :: r=>by
  have:=Qpj (y :: r)
  rw [QcG]
  simp only [Qcr,List.length_append,List.length_cons,List.length_nil] at this ⊢
  omega
theorem Qfh {α:Type} {sub:α→List Ins→List Ins} {txt:α→List UInt8}:∀ (ts:List α) (cs:List Ins),(∀ t∈ts,∀ cs,(sub t cs).length≤cs.length+4*(txt t).length)→(blockC sub ts cs).length≤cs.length+4*QoT (ts.map txt)
 | [],cs,_=>by simp [blockC]
 | t :: r,cs,h=>by
  have h1:=h t (by simp) cs
  have h2:=Qfh r (sub t cs) (fun t ht=>h t (by simp [ht]))
  rw [List.map_cons,QcG]
  show (blockC sub r (sub t cs)).length≤_
  omega
theorem Qo7 {α:Type} {sub:α→List Ins→List Ins} {txt:α→List UInt8} (h:∀ t cs,(sub t cs).length≤cs.length+4*(txt t).length) (jump:Int):∀ (ts:List α) (p:List Ins×List Nat),(ts.foldl (Qea sub jump) p).1.length≤p.1.length+4*QoT (ts.map txt)+ts.length
 | [],p=>by simp
 | t :: r,p=>by
  have h1:=Qo7 h jump r (Qea sub jump p t)
  have h2:=h t p.1
  have h3:(Qea sub jump p t).1.length=(sub t p.1).length+1:=by unfold Qea;simp
  rw [List.foldl_cons,List.map_cons,QcG,List.length_cons];omega
theorem Qly {α:Type} {sub:α→List Ins→List Ins} {txt:α→List UInt8} (h:∀ t cs,(sub t cs).length≤cs.length+4*(txt t).length) (x:QcT) (ts:List α) (cs:List Ins):(QaZ sub x ts cs).length≤cs.length+4*(testNode x (ts.map txt)).length:=by
 have hg:∀ jump b hw,(QcZ sub jump b ts cs).length≤cs.length+4*(Qbd hw (ts.map txt)).length:=fun jump b hw=>by
  unfold QcZ Qbd
  rw [QdK]
  have h1:=Qo7 h jump ts (cs,[])
  have h2:=Qpj (ts.map txt)
  simp only [List.length_append,List.length_cons,List.length_nil,List.length_map] at h1 h2 ⊢
  omega
 have hp:∀ (w:List UInt8) (r:List (List UInt8)),w.length≤(phraseL (w :: r)).length:=fun w r=>by
  have:=QgN (w :: r)
  rw [QcG] at this
  omega
 have hm:∀ hw:List UInt8,hw.length≤(Qa9 hw x).length:=fun hw=>hp _ _
 unfold QaZ testNode
 generalize x.kind=k
 match k with
 | 0=>
  show (cs++[QcW true]).length≤cs.length+4*(Qe5).length
  rw [List.length_append];show _≤_+4*4;simp
 | 1=>
  show (cs++[QcW false]).length≤cs.length+4*(Qdf).length
  rw [List.length_append];show _≤_+4*5;simp
 | 2=>
  show (blockC sub ts cs++[QcR 2]).length≤cs.length+4*(phraseL (kNot :: ts.map txt)).length
  rw [List.length_append]
  have h1:=Qfh (txt:=txt) ts cs (fun t _=>h t)
  have h2:=QgN (kNot :: ts.map txt)
  rw [QcG] at h2
  have h3:kNot.length=3:=rfl
  simp only [List.length_cons,List.length_nil]
  omega
 | 3=>
  show (QcZ sub 5 false ts cs).length≤cs.length+4*(Qbd Qcy (ts.map txt)).length
  exact hg _ _ _
 | 4=>
  show (QcZ sub 4 true ts cs).length≤cs.length+4*(Qbd QcA (ts.map txt)).length
  exact hg _ _ _
 | 5=>
  show (cs++[QcF 6 x]).length≤cs.length+4*(Qa9 QbT x).length
  rw [List.length_append];have h1:=hm QbT;have h2:QbT.length=6:=rfl;simp only [List.length_cons,List.length_nil];omega
 | 6=>
  show (cs++[QcF 7 x]).length≤cs.length+4*(Qa9 QaM x).length
  rw [List.length_append];have h1:=hm QaM;have h2:QaM.length=8:=rfl;simp only [List.length_cons,List.length_nil];omega
 | 7=>
  show (cs++[QcF 8 x]).length≤cs.length+4*(Qa9 Qby x).length
  rw [List.length_append];have h1:=hm Qby;have h2:Qby.length=6:=rfl;simp only [List.length_cons,List.length_nil];omega
 | 8=>
  show (cs++[(⟨9,0,0,false,x.fr,[],0⟩:Ins)]).length≤cs.length+4*(phraseL [QbG,Qak x.fr]).length
  rw [List.length_append];have h1:=hp QbG [Qak x.fr];have h2:QbG.length=6:=rfl;simp only [List.length_cons,List.length_nil];omega
 | _+9=>
  show (cs++[(⟨10,x.num,x.tag,false,[],[],0⟩:Ins)]).length≤cs.length+4*(phraseL [QdC,tagTextL x.tag [QcY,QbY],itoaL x.num]).length
  rw [List.length_append];have h1:=hp QdC [tagTextL x.tag [QcY,QbY],itoaL x.num];have h2:QdC.length=4:=rfl;simp only [List.length_cons,List.length_nil];omega
theorem QoN:∀ (n:Nat) (t:Qbx n) (cs:List Ins),(Qcf n t cs).length≤cs.length+4*(Qaj n t).length
 | 0,_,cs=>by show cs.length≤_;omega
 | n+1,x,cs=>Qly (QoN n) x.1 x.2 cs
theorem QiY {α:Type} (txt:α→List UInt8→List UInt8) (cs:List α) (i:List UInt8):QoT (cs.map fun c=>txt c i)≤(linesL txt cs i).length:=by
 induction cs with
 | nil=>simp [QoT]
 | cons c r ih=>
  unfold linesL at ih ⊢
  rw [List.map_cons,QcG,List.flatMap_cons]
  simp only [List.length_append]
  omega
theorem Qj5 {α β:Type} {tst:β→List Ins→List Ins} {cmd:α→List Ins→List Ins} {tt:β→List UInt8} {ct:α→List UInt8→List UInt8} (j i:List UInt8) (ht:∀ t cs,(tst t cs).length≤cs.length+4*(tt t).length):∀ (as_:List (β×List α)) (word:List UInt8) (p:List Ins×List Nat),(∀ a∈as_,∀ t∈a.2,∀ cs i,(cmd t cs).length≤cs.length+4*(ct t i).length)→(as_.foldl (Qlg tst cmd) p).1.length≤p.1.length+4*(QaX j word (as_.map fun a=>(tt a.1,linesL ct a.2 i))).length
 | [],_,p,_=>by simp [QaX]
 | a :: r,word,p,hc=>by
  have h1:=Qj5 j i ht r QbL (Qlg tst cmd p a) (fun a ha=>hc a (by simp [ha]))
  have h2:=ht a.1 p.1
  have h3:=Qfh (txt:=fun c=>ct c i) a.2 (tst a.1 p.1++[QcR 5]) (fun t h cs=>hc a (by simp) t h cs i)
  have h4:(Qlg tst cmd p a).1.length=(blockC cmd a.2 (tst a.1 p.1++[QcR 5])).length+1:=by unfold Qlg;dsimp only;rw [Qbt,List.length_append];rfl
  have h5:=QiY ct a.2 i
  have h6:=QgN [word,tt a.1,Qfz]
  rw [QcG,QcG,QcG] at h6
  have h7:Qfz.length=2:=rfl
  rw [List.foldl_cons,List.map_cons]
  show _≤p.1.length+4*(Qcp word j (tt a.1) (linesL ct a.2 i)++QaX j QbL (r.map fun a=>(tt a.1,linesL ct a.2 i))).length
  unfold Qcp
  simp only [List.length_append,List.length_cons,List.length_nil] at h3 ⊢
  omega
theorem QnP {α β:Type} {tst:β→List Ins→List Ins} {cmd:α→List Ins→List Ins} {tt:β→List UInt8} {ct:α→List UInt8→List UInt8} (j i:List UInt8) (ht:∀ t cs,(tst t cs).length≤cs.length+4*(tt t).length) (x:QfA) (arms:List (β×List α)) (els:List α) (cs:List Ins) (hc:∀ a∈arms,∀ t∈a.2,∀ cs i,(cmd t cs).length≤cs.length+4*(ct t i).length) (hc2:∀ t∈els,∀ cs i,(cmd t cs).length≤cs.length+4*(ct t i).length) (he:x.els=false→els=[]) :
 (Qbp tst cmd x arms els cs).length≤cs.length+4*(cmdNode x j (arms.map fun a=>(tt a.1,linesL ct a.2 i)) (linesL ct els i)).length:=by
 unfold Qbp cmdNode
 generalize x.kind=k
 match k with
 | 0=>
  show (cs++[Qjb 1 x.pos []]).length≤cs.length+4*(Qfa++[59]).length
  rw [List.length_append,List.length_append];simp only [List.length_cons,List.length_nil];omega
 | 1=>
  show (cs++[(⟨13,0,0,false,[],[],x.pos⟩:Ins)]).length≤cs.length+4*(QbV++[59]).length
  rw [List.length_append,List.length_append];simp only [List.length_cons,List.length_nil];omega
 | 2=>
  show (cs++[(⟨14,0,0,false,[],[],x.pos⟩:Ins)]).length≤cs.length+4*(Qe3++[59]).length
  rw [List.length_append,List.length_append];simp only [List.length_cons,List.length_nil];omega
 | 3=>
  show (cs++[Qjb 2 x.pos [x.arg]]).length≤cs.length+4*(phraseL [QaK,quotedL x.arg]++[59]).length
  rw [List.length_append,List.length_append];simp only [List.length_cons,List.length_nil];omega
 | 4=>
  show (cs++[Qjb 3 x.pos [x.arg]]).length≤cs.length+4*(phraseL [Qbk,quotedL x.arg]++[59]).length
  rw [List.length_append,List.length_append];simp only [List.length_cons,List.length_nil];omega
 | 5=>
  show (cs++[Qjb 4 x.pos [x.arg]]).length≤cs.length+4*(phraseL [Qbb,quotedL x.arg]++[59]).length
  rw [List.length_append,List.length_append];simp only [List.length_cons,List.length_nil];omega
 | 6=>
  show (cs++[(⟨12,0,x.tag,false,[x.var],[x.arg],x.pos⟩:Ins)]).length≤cs.length+4*(phraseL [Qgh,tagTextL x.tag [Qbn,Qbm,Qa1],quotedL x.var,quotedL x.arg]++[59]).length
  rw [List.length_append,List.length_append];simp only [List.length_cons,List.length_nil];omega
 | _+7=>
  show (Qd4 tst cmd arms els cs).length≤cs.length+4*(QaX j kIf (arms.map fun (a:β×List α)=>(tt a.1,linesL ct a.2 i))++(if x.els then Qdw++linesL ct els i++j else [])++[125]).length
  unfold Qd4 QdL
  rw [Qbt]
  have h1:=Qj5 j i ht arms kIf (cs,[]) hc
  have h2:=Qfh (txt:=fun c=>ct c i) els (arms.foldl (Qlg tst cmd) (cs,[])).1 (fun t h cs=>hc2 t h cs i)
  have h3:=QiY ct els i
  dsimp only at h1
  rw [List.length_append,List.length_append]
  by_cases hx:x.els=true
  ·rw [if_pos hx]
   simp only [List.length_append]
   omega
  ·have hn:els=[]:=he (by cases h:x.els with | false=>rfl | true=>exact absurd h hx)
   subst hn
   have h4:QoT (([]:List α).map fun c=>ct c i)=0:=rfl
   omega
theorem Qnw (req:List (List UInt8)):∀ (n:Nat) (t:Qcd n),QhX (WfT req) (WfC req) n t→∀ (cs:List Ins) (i:List UInt8),(Qjc n t cs).length≤cs.length+4*(Qaw n t i).length
 | 0,_,h,cs,i=>h.elim
 | n+1,x,h,cs,i=>by
  obtain ⟨h1,h2,h3⟩:=h
  refine QnP i (i++[32,32]) (QoN n) x.1 x.2.1 x.2.2 cs (fun a ha t ht cs i=>Qnw req n t ((h2 a ha).2 t ht) cs i) (fun t ht cs i=>Qnw req n t (h3 t ht) cs i) (fun he=>?_)
  exact List.eq_nil_of_length_eq_zero (h1.else0 he)
theorem Qo2 {y:List (List UInt8)×List (Qcd 7)} (h:∀ c∈y.2,QhX (WfT y.1) (WfC y.1) 7 c):(Qd5 y.2).length≤4*(QcL y).length:=by
 have h1:=Qfh (txt:=fun c=>Qaw 7 c []) y.2 [] (fun t ht cs=>Qnw y.1 7 t (h t ht) cs [])
 have h2:=QiY (Qaw 7) y.2 []
 unfold Qd5 QcL
 rw [List.length_append]
 simp only [List.length_nil] at h1
 omega
end Go.Proofs.YtbiclelojbfnbaaGreatDoor
