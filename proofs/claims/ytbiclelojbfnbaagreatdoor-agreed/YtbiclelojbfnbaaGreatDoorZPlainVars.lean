import Derived.Test.YtbiclelojbfnbaaGreatDoorZPlainCode
import Derived.Test.YtbiclelojbfnbaaGreatDoorZPlainLen
namespace Go.Proofs.YtbiclelojbfnbaaGreatDoor
set_option linter.unusedVariables false
set_option linter.unusedSimpArgs false
set_option maxRecDepth 100000
set_option maxHeartbeats 4000000
structure WfT (req:List (List UInt8)) (x:TLab) (m:Nat):Prop where
 kind:x.kind≤9
 use:useOk req (testNames.getD x.kind [])=true
 one:x.kind=2→m=1
 many:x.kind=3∨x.kind=4→0 < m
 leaf:x.kind≤1∨5≤x.kind→m=0
 tag:5≤x.kind→x.kind≤7→1≤x.tag∧x.tag≤3
 frm:5≤x.kind→x.kind≤8→x.fr≠[]
 keys:5≤x.kind→x.kind≤7→x.keys≠[]
 env:x.kind=6→∀ z∈x.fr,0 < whichL [kFrom,kTo] (smallL z)
 size:x.kind=9→1≤x.tag∧x.tag≤2
 num:x.num≤2147483647
 num0:x.kind≠9→x.num=0
 tag0:x.kind≤4∨x.kind=8→x.tag=0
 oct0:x.kind≤4∨8≤x.kind→x.octet=false
 fr0:x.kind≤4∨x.kind=9→x.fr=[]
 keys0:x.kind≤4∨8≤x.kind→x.keys=[]
structure WfC (req:List (List UInt8)) (x:CLab) (a e:Nat):Prop where
 kind:x.kind≤7
 use:useOk req (cmdNames.getD x.kind [])=true
 tag:x.tag≤3
 tag0:x.kind≠6→x.tag=0
 arg0:x.kind≤2∨x.kind=7→x.arg=[]
 var0:x.kind≠6→x.var=[]
 var:x.kind=6→∃ v,isNameL v=true∧x.var=smallL v
 els0:x.kind≠7→x.els=false
 arms:x.kind=7→0 < a
 arms0:x.kind≠7→a=0
 else0:x.els=false→e=0
def allT (p:TLab→Nat→Prop):(n:Nat)→TestT n→Prop
 | 0,_=>False
 | n+1,x=>p x.1 x.2.length∧∀ a∈x.2,allT p n a
def allC (p:TLab→Nat→Prop) (q:CLab→Nat→Nat→Prop):(n:Nat)→CmdT n→Prop
 | 0,_=>False
 | n+1,x=>q x.1 x.2.1.length x.2.2.length∧(∀ a∈x.2.1,allT p n a.1∧∀ c∈a.2,allC p q n c)∧∀ c∈x.2.2,allC p q n c
theorem whichL_got:∀ (zs:List (List UInt8)) (x:List UInt8),¬ whichL zs x=0→zs.getD (whichL zs x - 1) []=x
 | [],x,h=>absurd rfl h
 | s :: r,x,h=>by
  unfold whichL at h ⊢
  split
  ·rename_i e;simp [e]
  ·rename_i e
   rw [if_neg e] at h
   split
   ·rename_i e0;rw [if_pos e0] at h;exact absurd rfl h
   ·rename_i e0
    have ih:=whichL_got r x e0
    have e1:whichL r x+1 - 1=(whichL r x - 1)+1:=by omega
    rw [e1]
    simpa using ih
def Has {α:Type} (P:α→Prop) (r:Except Flt (α×PS)):Prop:=∀ y,r=.ok y→P y.1
theorem string_has {l:List UInt8} {chk:List UInt8→Nat} {s:PS}:Has (fun x=>chk x=0) (stringL l chk s):=fun y e=>by
 unfold stringL at e
 split at e
 ·split at e
  ·rename_i hc
   cases hn:nextL l s.2 with
   | error f=>rw [hn] at e;cases e
   | ok s'=>rw [hn] at e;cases e;exact hc
  ·cases e
 ·cases e
theorem more_has {l:List UInt8} {chk:List UInt8→Nat}:∀ (f:Nat) (acc:List (List UInt8)) (s:PS),acc≠[]→(∀ z∈acc,chk z=0)→Has (fun xs=>xs≠[]∧∀ z∈xs,chk z=0) (moreL l chk f acc s)
 | 0,acc,s,h,hc=>fun y e=>by cases e;exact ⟨h,hc⟩
 | f+1,acc,s,h,hc=>fun y e=>by
  rw [moreL] at e
  cases hp:passL l [[44],[93]] s with
  | error g=>rw [hp] at e;cases e
  | ok z=>
   rw [hp] at e
   dsimp only at e
   split at e
   ·cases hs:stringL l chk z.2 with
    | error g=>rw [hs] at e;cases e
    | ok x=>
     rw [hs] at e
     have h1:=string_has x hs
     refine more_has f _ x.2 (by simp) (fun u hu=>?_) y e
     rcases List.mem_append.1 hu with hu | hu
     ·exact hc u hu
     ·rw [List.mem_singleton.1 hu];exact h1
   ·cases e;exact ⟨h,hc⟩
theorem strings_has {l:List UInt8} {chk:List UInt8→Nat} {F:Nat} {s:PS}:Has (fun xs=>xs≠[]∧∀ z∈xs,chk z=0) (stringsL l chk F s):=fun y e=>by
 unfold stringsL at e
 cases hm:mayL l [[91]] s with
 | error g=>rw [hm] at e;cases e
 | ok z=>
  rw [hm] at e
  dsimp only at e
  cases hs:stringL l chk z.2 with
  | error g=>rw [hs] at e;cases e
  | ok x=>
   rw [hs] at e
   have h1:=string_has x hs
   dsimp only at e
   split at e
   ·cases e;exact ⟨by simp,fun u hu=>by rw [List.mem_singleton.1 hu];exact h1⟩
   ·exact more_has F [x.1] x.2 (by simp) (fun u hu=>by rw [List.mem_singleton.1 hu];exact h1) y e
theorem pass_has {l:List UInt8} {zs:List (List UInt8)} {s:PS}:Has (fun i=>1≤i∧i≤zs.length) (passL l zs s):=fun y e=>by
 unfold passL at e
 split at e
 ·cases e
 ·rename_i h0
  cases hn:nextL l s.2 with
  | error f=>rw [hn] at e;cases e
  | ok s'=>rw [hn] at e;cases e;have:=whichL_le zs s.1.spelt;dsimp only;omega
theorem may_has {l:List UInt8} {zs:List (List UInt8)} {s:PS}:Has (fun i=>i≤zs.length) (mayL l zs s):=fun y e=>by
 unfold mayL at e
 split at e
 ·cases e;exact Nat.zero_le _
 ·cases hn:nextL l s.2 with
  | error f=>rw [hn] at e;cases e
  | ok s'=>rw [hn] at e;cases e;exact whichL_le zs s.1.spelt
theorem opt_has {l:List UInt8}:∀ (f tag:Nat) (oct cmp:Bool) (s:PS),Gp l s→ph l s < f→tag≤3→Has (fun o=>1≤o.1∧o.1≤3) (optL l f tag oct cmp s)
 | 0,tag,oct,cmp,s,h,hf,ht=>by omega
 | f+1,tag,oct,cmp,s,h,hf,ht=>fun y e=>by
  rw [optL] at e
  by_cases h1:whichL [tIs,tContains,tMatches] s.1.spelt=0
  ·rw [if_pos h1] at e
   by_cases h2:whichL [tComparator] s.1.spelt=0
   ·rw [if_pos h2] at e;cases e;dsimp only;omega
   ·rw [if_neg h2] at e
    cases cmp
    ·rw [if_neg (by decide)] at e
     cases hn:nextL l s.2 with
     | error g=>rw [nextThen_err hn] at e;cases e
     | ok z=>
      rw [nextThen_ok hn] at e
      obtain ⟨g1,g2⟩:=gp_next h (gp_kind (zs:=[tComparator]) h (by decide) h2) hn
      cases hs:stringL l (fun x=>if 0 < whichL [cOctet,cCasemap] x then 0 else 7) z with
      | error g=>rw [thenL_err hs] at e;cases e
      | ok x=>
       rw [thenL_ok hs] at e
       obtain ⟨g3,g4⟩:=string_bd g1 x hs
       exact opt_has f _ _ _ x.2 g3 (by omega) ht y e
    ·rw [if_pos rfl] at e;cases e
  ·rw [if_neg h1] at e
   by_cases h3:tag=0
   ·rw [if_pos h3] at e
    cases hn:nextL l s.2 with
    | error g=>rw [nextThen_err hn] at e;cases e
    | ok z=>
     rw [nextThen_ok hn] at e
     obtain ⟨g1,g2⟩:=gp_next h (gp_kind (zs:=[tIs,tContains,tMatches]) h (by decide) h1) hn
     exact opt_has f _ _ _ z g1 (by omega) (whichL_le [tIs,tContains,tMatches] s.1.spelt) y e
   ·rw [if_neg h3] at e;cases e
theorem match_has {l:List UInt8} {F:Nat} {chk:List UInt8→Nat} {k pos:Nat} {s:PS} (h:Gp l s) (hF:l.length < F):Has (fun x=>x=⟨k,pos,x.tag,x.octet,x.fr,x.keys,0⟩∧1≤x.tag∧x.tag≤3∧x.fr≠[]∧x.keys≠[]∧∀ z∈x.fr,chk z=0) (matchL l F chk k pos s):=fun y e=>by
 unfold matchL at e
 cases h1:optL l F 0 false false s with
 | error f=>rw [thenL_err h1] at e;cases e
 | ok a=>
  rw [thenL_ok h1] at e
  have g0:=opt_has F 0 false false s h (by unfold ph;omega) (by omega) a h1
  cases h2:stringsL l chk F a.2 with
  | error f=>rw [thenL_err h2] at e;cases e
  | ok c=>
   rw [thenL_ok h2] at e
   have g1:=strings_has c h2
   cases h3:stringsL l (fun _=>0) F c.2 with
   | error f=>rw [thenL_err h3] at e;cases e
   | ok d=>
    rw [thenL_ok h3] at e
    have g2:=strings_has d h3
    cases e
    exact ⟨rfl,g0.1,g0.2,g1.1,g2.1,g1.2⟩
theorem groupMore_has {α:Type} {l:List UInt8} {sub:PS→Except Flt (α×PS)} {P:α→Prop} (hg:∀ s,Gp l s→∀ y,sub s=.ok y→Gp l y.2) (hs:∀ s,Gp l s→Has P (sub s)):∀ (f:Nat) (acc:List α) (s:PS),Gp l s→acc≠[]→(∀ a∈acc,P a)→Has (fun xs=>xs≠[]∧∀ a∈xs,P a) (groupMore l sub f acc s)
 | 0,acc,s,g,h,hc=>fun y e=>by cases e;exact ⟨h,hc⟩
 | f+1,acc,s,g,h,hc=>fun y e=>by
  rw [groupMore] at e
  cases hp:passL l [[44],[41]] s with
  | error g=>rw [thenL_err hp] at e;cases e
  | ok z=>
   rw [thenL_ok hp] at e
   obtain ⟨h1,h2⟩:=pass_bd (zs:=[[44],[41]]) g (by decide) z hp
   split at e
   ·cases hq:sub z.2 with
    | error g=>rw [thenL_err hq] at e;cases e
    | ok x=>
     rw [thenL_ok hq] at e
     refine groupMore_has hg hs f _ x.2 (hg _ h1 x hq) (by simp) (fun u hu=>?_) y e
     rcases List.mem_append.1 hu with hu | hu
     ·exact hc u hu
     ·rw [List.mem_singleton.1 hu];exact hs _ h1 x hq
   ·cases e;exact ⟨h,hc⟩
theorem group_has {α:Type} {l:List UInt8} {F:Nat} {sub:PS→Except Flt (α×PS)} {P:α→Prop} (hg:∀ s,Gp l s→∀ y,sub s=.ok y→Gp l y.2) (hs:∀ s,Gp l s→Has P (sub s)) {s:PS} (h:Gp l s):Has (fun xs=>xs≠[]∧∀ a∈xs,P a) (groupL l F sub s):=fun y e=>by
 unfold groupL at e
 cases hp:passL l [[40]] s with
 | error g=>rw [thenL_err hp] at e;cases e
 | ok z=>
  rw [thenL_ok hp] at e
  obtain ⟨h1,h2⟩:=pass_bd (zs:=[[40]]) h (by decide) z hp
  cases hq:sub z.2 with
  | error g=>rw [thenL_err hq] at e;cases e
  | ok x=>
   rw [thenL_ok hq] at e
   exact groupMore_has hg hs F [x.1] x.2 (hg _ h1 x hq) (by simp) (fun u hu=>by rw [List.mem_singleton.1 hu];exact hs _ h1 x hq) y e
theorem testBody_has (n:Nat) {l:List UInt8} {req:List (List UInt8)} {F:Nat} {sub:PS→Except Flt (TestT n×PS)} (hF:l.length < F) (hg:∀ s,Gp l s→∀ y,sub s=.ok y→Gp l y.2) (hs:∀ s,Gp l s→Has (allT (WfT req) n) (sub s)) (k pos:Nat) (hk:k≤9) (hu:useOk req (testNames.getD k [])=true) {s:PS} (h:Gp l s):Has (fun x:TLab×List (TestT n)=>WfT req x.1 x.2.length∧∀ a∈x.2,allT (WfT req) n a) (testBody l F sub k pos s):=fun y e=>by
 unfold testBody at e
 split at e
 ·cases e;exact ⟨by constructor <;> simp <;> (first | exact hu | skip),by simp⟩
 ·cases e;exact ⟨by constructor <;> simp <;> (first | exact hu | skip),by simp⟩
 ·cases hq:sub s with
  | error g=>rw [thenL_err hq] at e;cases e
  | ok x=>
   rw [thenL_ok hq] at e
   cases e
   exact ⟨by constructor <;> simp <;> (first | exact hu | skip),fun a ha=>by rw [List.mem_singleton.1 ha];exact hs _ h x hq⟩
 ·cases hq:groupL l F sub s with
  | error g=>rw [thenL_err hq] at e;cases e
  | ok x=>
   rw [thenL_ok hq] at e
   have h1:=group_has hg hs h x hq
   cases e
   exact ⟨by constructor <;> simp <;> (first | exact hu | exact List.length_pos_iff.2 h1.1 | skip),h1.2⟩
 ·cases hq:groupL l F sub s with
  | error g=>rw [thenL_err hq] at e;cases e
  | ok x=>
   rw [thenL_ok hq] at e
   have h1:=group_has hg hs h x hq
   cases e
   exact ⟨by constructor <;> simp <;> (first | exact hu | exact List.length_pos_iff.2 h1.1 | skip),h1.2⟩
 ·cases hq:matchL l F (fun _=>0) 5 pos s with
  | error g=>rw [thenL_err hq] at e;cases e
  | ok x=>
   rw [thenL_ok hq] at e
   obtain ⟨h1,h2,h3,h4,h5,h6⟩:=match_has h hF x hq
   cases e
   dsimp only
   rw [h1]
   exact ⟨by constructor <;> simp <;> (first | exact hu | exact ⟨h2,h3⟩ | assumption | skip),by simp⟩
 ·cases hq:matchL l F (fun x=>if 0 < whichL [kFrom,kTo] (smallL x) then 0 else 7) 6 pos s with
  | error g=>rw [thenL_err hq] at e;cases e
  | ok x=>
   rw [thenL_ok hq] at e
   obtain ⟨h1,h2,h3,h4,h5,h6⟩:=match_has h hF x hq
   have h7:∀ z∈x.1.fr,0 < whichL [kFrom,kTo] (smallL z):=fun z hz=>by
    have:=h6 z hz
    split at this
    ·assumption
    ·cases this
   cases e
   dsimp only
   rw [h1]
   exact ⟨by constructor <;> simp <;> (first | exact hu | exact ⟨h2,h3⟩ | assumption | skip),by simp⟩
 ·cases hq:matchL l F (fun _=>0) 7 pos s with
  | error g=>rw [thenL_err hq] at e;cases e
  | ok x=>
   rw [thenL_ok hq] at e
   obtain ⟨h1,h2,h3,h4,h5,h6⟩:=match_has h hF x hq
   cases e
   dsimp only
   rw [h1]
   exact ⟨by constructor <;> simp <;> (first | exact hu | exact ⟨h2,h3⟩ | assumption | skip),by simp⟩
 ·cases hq:stringsL l (fun _=>0) F s with
  | error g=>rw [thenL_err hq] at e;cases e
  | ok x=>
   rw [thenL_ok hq] at e
   have h1:=strings_has x hq
   cases e
   exact ⟨by constructor <;> simp <;> (first | exact hu | exact h1.1 | skip),by simp⟩
 ·rename_i h0 h1 h2 h3 h4 h5 h6 h7 h8
  cases hq:sizeL l pos s with
  | error g=>rw [thenL_err hq] at e;cases e
  | ok x=>
   rw [thenL_ok hq] at e
   have hk9:k=9:=by
    have a0:k≠0:=h0
    have a1:k≠1:=h1
    have a2:k≠2:=h2
    have a3:k≠3:=h3
    have a4:k≠4:=h4
    have a5:k≠5:=h5
    have a6:k≠6:=h6
    have a7:k≠7:=h7
    have a8:k≠8:=h8
    omega
   subst hk9
   unfold sizeL at hq
   cases hp:passL l [tOver,tUnder] s with
   | error g=>rw [thenL_err hp] at hq;cases hq
   | ok i=>
    rw [thenL_ok hp] at hq
    have g1:=pass_has i hp
    obtain ⟨g2,g3⟩:=pass_bd (zs:=[tOver,tUnder]) h (by decide) i hp
    have g4:=g2.num
    split at hq
    ·cases hn:nextL l i.2.2 with
     | error f=>rw [nextThen_err hn] at hq;cases hq
     | ok z=>
      rw [nextThen_ok hn] at hq
      cases hq
      cases e
      exact ⟨by constructor <;> simp <;> (first | exact hu | exact g4 | exact g1 | skip),by simp⟩
    ·cases hq
theorem test_has {l:List UInt8} {req:List (List UInt8)} {F:Nat} (hF:l.length < F):∀ (n:Nat) (s:PS),Gp l s→Has (allT (WfT req) n) (testL l req F n s)
 | 0,s,h=>fun y e=>by rw [testL] at e;split at e <;> cases e
 | n+1,s,h=>fun y e=>by
  rw [testL] at e
  by_cases h0:whichL testNames s.1.spelt=0
  ·rw [if_pos h0] at e;cases e
  ·rw [if_neg h0] at e
   cases hu:useOk req s.1.spelt
   ·rw [hu,if_neg (by decide)] at e;cases e
   ·rw [hu,if_pos rfl] at e
    cases hn:nextL l s.2 with
    | error g=>cases (nextThen_err hn).symm.trans e
    | ok z=>
     replace e:=(nextThen_ok hn).symm.trans e
     obtain ⟨g1,g2⟩:=gp_next h (gp_kind (zs:=testNames) h (by decide) h0) hn
     exact testBody_has n hF (fun s g y e=>(test_bd n s g y e).1) (fun s g=>test_has hF n s g) _ _ (by have:=whichL_le testNames s.1.spelt;have:testNames.length=10:=rfl;omega) (by rw [whichL_got _ _ h0];exact hu) g1 y e
theorem blockMore_has {α:Type} {l:List UInt8} {sub:PS→Except Flt (α×PS)} {P:α→Prop} (hg:∀ s,Gp l s→∀ y,sub s=.ok y→Gp l y.2) (hs:∀ s,Gp l s→Has P (sub s)):∀ (f:Nat) (acc:List α) (s:PS),Gp l s→(∀ a∈acc,P a)→∀ y,blockMore l sub f acc s=.ok y→Gp l y.2∧∀ a∈y.1,P a
 | 0,acc,s,g,hc=>fun y e=>by cases e;exact ⟨g,hc⟩
 | f+1,acc,s,g,hc=>fun y e=>by
  rw [blockMore] at e
  cases hp:mayL l [[125]] s with
  | error g=>rw [thenL_err hp] at e;cases e
  | ok z=>
   rw [thenL_ok hp] at e
   obtain ⟨h1,h2⟩:=may_bd (zs:=[[125]]) g (by decide) z hp
   split at e
   ·cases hq:sub z.2 with
    | error g=>rw [thenL_err hq] at e;cases e
    | ok x=>
     rw [thenL_ok hq] at e
     refine blockMore_has hg hs f _ x.2 (hg _ h1 x hq) (fun u hu=>?_) y e
     rcases List.mem_append.1 hu with hu | hu
     ·exact hc u hu
     ·rw [List.mem_singleton.1 hu];exact hs _ h1 x hq
   ·cases e;exact ⟨h1,hc⟩
theorem block_has {α:Type} {l:List UInt8} {F:Nat} {sub:PS→Except Flt (α×PS)} {P:α→Prop} (hg:∀ s,Gp l s→∀ y,sub s=.ok y→Gp l y.2) (hs:∀ s,Gp l s→Has P (sub s)) {s:PS} (h:Gp l s):∀ y,blockL l F sub s=.ok y→Gp l y.2∧∀ a∈y.1,P a:=fun y e=>by
 unfold blockL at e
 cases hp:passL l [[123]] s with
 | error g=>rw [thenL_err hp] at e;cases e
 | ok z=>
  rw [thenL_ok hp] at e
  obtain ⟨h1,h2⟩:=pass_bd (zs:=[[123]]) h (by decide) z hp
  exact blockMore_has hg hs F [] z.2 h1 (by simp) y e
theorem arm_has {α β:Type} {l:List UInt8} {F:Nat} {tst:PS→Except Flt (β×PS)} {sub:PS→Except Flt (α×PS)} {P:α→Prop} {Q:β→Prop} (htg:∀ s,Gp l s→∀ y,tst s=.ok y→Gp l y.2) (ht:∀ s,Gp l s→Has Q (tst s)) (hg:∀ s,Gp l s→∀ y,sub s=.ok y→Gp l y.2) (hs:∀ s,Gp l s→Has P (sub s)) {s:PS} (h:Gp l s):∀ y,armL l F tst sub s=.ok y→Gp l y.2∧Q y.1.1∧∀ a∈y.1.2,P a:=fun y e=>by
 unfold armL at e
 cases hp:tst s with
 | error g=>rw [thenL_err hp] at e;cases e
 | ok z=>
  rw [thenL_ok hp] at e
  cases hq:blockL l F sub z.2 with
  | error g=>rw [thenL_err hq] at e;cases e
  | ok x=>
   rw [thenL_ok hq] at e
   have h1:=block_has hg hs (htg _ h z hp) x hq
   have h2:=ht _ h z hp
   cases e
   exact ⟨h1.1,h2,h1.2⟩
theorem arms_has {α β:Type} {l:List UInt8} {F:Nat} {tst:PS→Except Flt (β×PS)} {sub:PS→Except Flt (α×PS)} {P:α→Prop} {Q:β→Prop} (htg:∀ s,Gp l s→∀ y,tst s=.ok y→Gp l y.2) (ht:∀ s,Gp l s→Has Q (tst s)) (hg:∀ s,Gp l s→∀ y,sub s=.ok y→Gp l y.2) (hs:∀ s,Gp l s→Has P (sub s)):∀ (f:Nat) (acc:List (β×List α)) (s:PS),Gp l s→acc≠[]→(∀ a∈acc,Q a.1∧∀ c∈a.2,P c)→∀ y,armsMore l F tst sub f acc s=.ok y→Gp l y.2∧y.1≠[]∧∀ a∈y.1,Q a.1∧∀ c∈a.2,P c
 | 0,acc,s,g,h,hc=>fun y e=>by cases e;exact ⟨g,h,hc⟩
 | f+1,acc,s,g,h,hc=>fun y e=>by
  rw [armsMore] at e
  cases hp:mayL l [kElsif] s with
  | error g=>rw [thenL_err hp] at e;cases e
  | ok z=>
   rw [thenL_ok hp] at e
   obtain ⟨h1,h2⟩:=may_bd (zs:=[kElsif]) g (by decide) z hp
   split at e
   ·cases e;exact ⟨h1,h,hc⟩
   ·cases hq:armL l F tst sub z.2 with
    | error g=>rw [thenL_err hq] at e;cases e
    | ok x=>
     rw [thenL_ok hq] at e
     obtain ⟨h3,h4,h5⟩:=arm_has htg ht hg hs h1 x hq
     refine arms_has htg ht hg hs f _ x.2 h3 (by simp) (fun u hu=>?_) y e
     rcases List.mem_append.1 hu with hu | hu
     ·exact hc u hu
     ·rw [List.mem_singleton.1 hu];exact ⟨h4,h5⟩
theorem semi_has {α:Type} {l:List UInt8} {s:PS} {a:α}:Has (fun x=>x=a) (semi l s a):=fun y e=>by
 unfold semi at e
 cases hp:passL l [[59]] s with
 | error g=>rw [thenL_err hp] at e;cases e
 | ok z=>rw [thenL_ok hp] at e;cases e;rfl
theorem cmdBody_has (n:Nat) {l:List UInt8} {req:List (List UInt8)} {F:Nat} {tst:PS→Except Flt (TestT n×PS)} {sub:PS→Except Flt (CmdT n×PS)} (htg:∀ s,Gp l s→∀ y,tst s=.ok y→Gp l y.2) (ht:∀ s,Gp l s→Has (allT (WfT req) n) (tst s)) (hg:∀ s,Gp l s→∀ y,sub s=.ok y→Gp l y.2) (hs:∀ s,Gp l s→Has (allC (WfT req) (WfC req) n) (sub s)) (k pos:Nat) (hk:k≤7) (hu:useOk req (cmdNames.getD k [])=true) {s:PS} (h:Gp l s):Has (fun x:CLab×List (TestT n×List (CmdT n))×List (CmdT n)=>WfC req x.1 x.2.1.length x.2.2.length∧(∀ a∈x.2.1,allT (WfT req) n a.1∧∀ c∈a.2,allC (WfT req) (WfC req) n c)∧∀ c∈x.2.2,allC (WfT req) (WfC req) n c) (cmdBody l F tst sub k pos s):=fun y e=>by
 unfold cmdBody at e
 split at e
 ·rw [semi_has y e];exact ⟨by constructor <;> simp <;> (first | exact hu | skip),by simp,by simp⟩
 ·rw [semi_has y e];exact ⟨by constructor <;> simp <;> (first | exact hu | skip),by simp,by simp⟩
 ·rw [semi_has y e];exact ⟨by constructor <;> simp <;> (first | exact hu | skip),by simp,by simp⟩
 ·cases hq:stringL l (fun _=>0) s with
  | error g=>rw [thenL_err hq] at e;cases e
  | ok x=>rw [thenL_ok hq] at e;rw [semi_has y e];exact ⟨by constructor <;> simp <;> (first | exact hu | skip),by simp,by simp⟩
 ·cases hq:stringL l (fun _=>0) s with
  | error g=>rw [thenL_err hq] at e;cases e
  | ok x=>rw [thenL_ok hq] at e;rw [semi_has y e];exact ⟨by constructor <;> simp <;> (first | exact hu | skip),by simp,by simp⟩
 ·cases hq:stringL l (fun _=>0) s with
  | error g=>rw [thenL_err hq] at e;cases e
  | ok x=>rw [thenL_ok hq] at e;rw [semi_has y e];exact ⟨by constructor <;> simp <;> (first | exact hu | skip),by simp,by simp⟩
 ·cases hm:mayL l [tLower,tUpper,tLength] s with
  | error g=>rw [thenL_err hm] at e;cases e
  | ok m=>
   rw [thenL_ok hm] at e
   have g0:=may_has m hm
   cases hv:stringL l (fun x=>if isNameL x then 0 else 7) m.2 with
   | error g=>rw [thenL_err hv] at e;cases e
   | ok v=>
    rw [thenL_ok hv] at e
    have g1:=string_has v hv
    have g2:isNameL v.1=true:=by
     dsimp only at g1
     split at g1
     ·assumption
     ·cases g1
    cases hq:stringL l (fun _=>0) v.2 with
    | error g=>rw [thenL_err hq] at e;cases e
    | ok x=>
     rw [thenL_ok hq] at e
     rw [semi_has y e]
     exact ⟨by constructor <;> simp <;> (first | exact hu | exact g0 | exact ⟨v.1,g2,rfl⟩ | skip),by simp,by simp⟩
 ·rename_i h0 h1 h2 h3 h4 h5 h6
  have hk7:k=7:=by
   have a0:k≠0:=h0
   have a1:k≠1:=h1
   have a2:k≠2:=h2
   have a3:k≠3:=h3
   have a4:k≠4:=h4
   have a5:k≠5:=h5
   have a6:k≠6:=h6
   omega
  subst hk7
  cases ha:armL l F tst sub s with
  | error g=>rw [thenL_err ha] at e;cases e
  | ok a=>
   rw [thenL_ok ha] at e
   obtain ⟨g1,g2,g3⟩:=arm_has htg ht hg hs h a ha
   cases hb:armsMore l F tst sub F [a.1] a.2 with
   | error g=>rw [thenL_err hb] at e;cases e
   | ok bb=>
    rw [thenL_ok hb] at e
    obtain ⟨g4,g5,g6⟩:=arms_has htg ht hg hs F [a.1] a.2 g1 (by simp) (fun u hu=>by rw [List.mem_singleton.1 hu];exact ⟨g2,g3⟩) bb hb
    cases hm:mayL l [kElse] bb.2 with
    | error g=>rw [thenL_err hm] at e;cases e
    | ok m=>
     rw [thenL_ok hm] at e
     obtain ⟨g7,g8⟩:=may_bd (zs:=[kElse]) g4 (by decide) m hm
     split at e
     ·cases e
      exact ⟨by constructor <;> simp <;> (first | exact hu | exact List.length_pos_iff.2 g5 | skip),g6,by simp⟩
     ·cases hc:blockL l F sub m.2 with
      | error g=>rw [thenL_err hc] at e;cases e
      | ok cs=>
       rw [thenL_ok hc] at e
       have g9:=block_has hg hs g7 cs hc
       cases e
       exact ⟨by constructor <;> simp <;> (first | exact hu | exact List.length_pos_iff.2 g5 | skip),g6,g9.2⟩
theorem cmd_gp {l:List UInt8} {req:List (List UInt8)} {F:Nat}:∀ (n:Nat) (hn:n≤7) (s:PS),Gp l s→∀ y,cmdL l req F n s=.ok y→Gp l y.2:=fun n hn s h y e=>(cmd_bd n [] (by simp;omega) s h y e).1
theorem cmd_has {l:List UInt8} {req:List (List UInt8)} {F:Nat} (hF:l.length < F):∀ (n:Nat) (hn:n≤7) (s:PS),Gp l s→Has (allC (WfT req) (WfC req) n) (cmdL l req F n s)
 | 0,hn,s,h=>fun y e=>by rw [cmdL] at e;split at e <;> cases e
 | n+1,hn7,s,h=>fun y e=>by
  rw [cmdL] at e
  by_cases h0:whichL cmdNames s.1.spelt=0
  ·rw [if_pos h0] at e;cases e
  ·rw [if_neg h0] at e
   cases hu:useOk req s.1.spelt
   ·rw [hu,if_neg (by decide)] at e;cases e
   ·rw [hu,if_pos rfl] at e
    cases hn:nextL l s.2 with
    | error g=>cases (nextThen_err hn).symm.trans e
    | ok z=>
     replace e:=(nextThen_ok hn).symm.trans e
     obtain ⟨g1,g2⟩:=gp_next h (gp_kind (zs:=cmdNames) h (by decide) h0) hn
     exact cmdBody_has n (fun s g y e=>(test_bd n s g y e).1) (fun s g=>test_has hF n s g) (cmd_gp n (by omega)) (fun s g=>cmd_has hF n (by omega) s g) _ _ (by have:=whichL_le cmdNames s.1.spelt;have:cmdNames.length=8:=rfl;omega) (by rw [whichL_got _ _ h0];exact hu) g1 y e
def WfR (req:List (List UInt8)):Prop:=req.Nodup∧∀ z∈req,0 < whichL [kEnvelope,kFileinto,kReject,kVariables] z
theorem which_mem:∀ (zs:List (List UInt8)) (x:List UInt8),x∈zs→0 < whichL zs x
 | [],x,h=>by cases h
 | s :: r,x,h=>by
  unfold whichL
  split
  ·omega
  ·rename_i e
   rcases List.mem_cons.1 h with h | h
   ·exact absurd h.symm e
   ·have:=which_mem r x h
    rw [if_neg (by omega)]
    omega
theorem foldReq_wf:∀ (xs req:List (List UInt8)),WfR req→(∀ z∈xs,0 < whichL [kEnvelope,kFileinto,kReject,kVariables] z)→WfR (xs.foldl addReq req)
 | [],req,h,hx=>h
 | x :: r,req,h,hx=>by
  rw [List.foldl_cons]
  refine foldReq_wf r _ ?_ (fun z hz=>hx z (by simp [hz]))
  unfold addReq
  split
  ·exact h
  ·rename_i h0
   refine ⟨?_,fun z hz=>?_⟩
   ·rw [List.nodup_append]
    refine ⟨h.1,by simp,fun a ha b hb=>?_⟩
    rw [List.mem_singleton.1 hb]
    intro e
    subst e
    exact h0 (which_mem _ _ ha)
   ·rcases List.mem_append.1 hz with hz | hz
    ·exact h.2 z hz
    ·rw [List.mem_singleton.1 hz];exact hx x (by simp)
theorem reqMore_wf {l:List UInt8} {F:Nat}:∀ (f:Nat) (req:List (List UInt8)) (s:PS),WfR req→Has WfR (reqMore l F f req s)
 | 0,req,s,h=>fun y e=>by cases e;exact h
 | f+1,req,s,h=>fun y e=>by
  rw [reqMore] at e
  cases hp:mayL l [kRequire] s with
  | error g=>rw [thenL_err hp] at e;cases e
  | ok z=>
   rw [thenL_ok hp] at e
   split at e
   ·cases e;exact h
   ·cases hq:stringsL l (fun x=>if 0 < whichL [kEnvelope,kFileinto,kReject,kVariables] x then 0 else 6) F z.2 with
    | error g=>rw [thenL_err hq] at e;cases e
    | ok x=>
     rw [thenL_ok hq] at e
     have h1:=strings_has x hq
     cases hr:passL l [[59]] x.2 with
     | error g=>rw [thenL_err hr] at e;cases e
     | ok v=>
      rw [thenL_ok hr] at e
      refine reqMore_wf f _ v.2 (foldReq_wf x.1 req h (fun z hz=>?_)) y e
      have:=h1.2 z hz
      split at this
      ·assumption
      ·cases this
theorem cmdsMore_has {α:Type} {l:List UInt8} {sub:PS→Except Flt (α×PS)} {P:α→Prop} (hg:∀ s,Gp l s→∀ y,sub s=.ok y→Gp l y.2) (hs:∀ s,Gp l s→Has P (sub s)):∀ (f:Nat) (acc:List α) (s:PS),Gp l s→(∀ a∈acc,P a)→∀ y,cmdsMore sub f acc s=.ok y→∀ a∈y,P a
 | 0,acc,s,h,hc=>fun y e=>by cases e;exact hc
 | f+1,acc,s,h,hc=>fun y e=>by
  rw [cmdsMore] at e
  split at e
  ·cases e;exact hc
  ·cases hq:sub s with
   | error g=>rw [hq] at e;cases e
   | ok x=>
    rw [hq] at e
    refine cmdsMore_has hg hs f _ x.2 (hg _ h x hq) (fun u hu=>?_) y e
    rcases List.mem_append.1 hu with hu | hu
    ·exact hc u hu
    ·rw [List.mem_singleton.1 hu];exact hs _ h x hq
theorem parse_wf {l:List UInt8} {y:List (List UInt8)×List (CmdT 7)} (h:parseL l=.ok y):WfR y.1∧∀ c∈y.2,allC (WfT y.1) (WfC y.1) 7 c:=by
 unfold parseL at h
 dsimp only at h
 have hF:l.length < 2*l.length+10:=by omega
 generalize 2*l.length+10=F at h hF
 cases h1:nextL l 0 with
 | error f=>rw [h1] at h;cases h
 | ok s=>
  rw [h1] at h
  dsimp only at h
  have hg:Gp l s:=by
   unfold nextL at h1
   cases hs:skipF (l.length+1) (l.drop 0) 0 with
   | error f=>rw [hs] at h1;cases h1
   | ok n=>
    rw [hs] at h1
    exact (scanL_gp l n (skipF_le l _ 0 n (Nat.zero_le _) hs).2 s h1).1
  cases h3:reqMore l F F [] s with
  | error f=>rw [h3] at h;cases h
  | ok z=>
   rw [h3] at h
   dsimp only at h
   have g1:=(reqMore_bd F [] s hg z h3).1
   have g2:=reqMore_wf F [] s ⟨by simp,by simp⟩ z h3
   cases h4:cmdsMore (cmdL l z.1 F 7) F [] z.2 with
   | error f=>rw [h4] at h;cases h
   | ok cs=>
    rw [h4] at h
    have g3:=cmdsMore_has (P:=allC (WfT z.1) (WfC z.1) 7) (cmd_gp 7 (by omega)) (fun s g=>cmd_has hF 7 (by omega) s g) F [] z.2 g1 (by simp) cs h4
    cases h
    exact ⟨g2,g3⟩
theorem landL_length:∀ (js:List Nat) (cs:List Ins),(landL js cs).length=cs.length
 | [],_=>rfl
 | j :: r,cs=>by
  show (landL r (cs.modify j _)).length=_
  rw [landL_length r,List.length_modify]
theorem blockC_ge {α:Type} {sub:α→List Ins→List Ins} (h:∀ t cs,cs.length≤(sub t cs).length):∀ (ts:List α) (cs:List Ins),cs.length≤(blockC sub ts cs).length
 | [],_=>Nat.le_refl _
 | t :: r,cs=>Nat.le_trans (h t cs) (blockC_ge h r (sub t cs))
theorem gFold_ge {α:Type} {sub:α→List Ins→List Ins} (h:∀ t cs,cs.length≤(sub t cs).length) (jump:Int):∀ (ts:List α) (p:List Ins×List Nat),p.1.length≤(ts.foldl (gStep sub jump) p).1.length
 | [],_=>Nat.le_refl _
 | t :: r,p=>by
  have h1:=gFold_ge h jump r (gStep sub jump p t)
  have h2:=h t p.1
  have h3:(gStep sub jump p t).1.length=(sub t p.1).length+1:=by unfold gStep;simp
  rw [List.foldl_cons];omega
theorem groupEnd_length (b:Bool) (r:List Ins×List Nat):(groupEnd b r).length=r.1.length+3:=by
 unfold groupEnd
 rw [landL_length,List.length_append,landL_length,List.length_append];rfl
theorem testNodeC_ge {α:Type} {sub:α→List Ins→List Ins} (h:∀ t cs,cs.length≤(sub t cs).length) (x:TLab) (ts:List α) (cs:List Ins):cs.length≤(testNodeC sub x ts cs).length:=by
 have hg:∀ jump b,cs.length≤(groupC sub jump b ts cs).length:=fun jump b=>by
  unfold groupC
  rw [groupEnd_length]
  have:=gFold_ge h jump ts (cs,[])
  dsimp only at this
  omega
 unfold testNodeC
 split
 all_goals first | exact hg _ _ | (rw [List.length_append];first | (have:=blockC_ge h ts cs;omega) | omega)
theorem testC_ge:∀ (n:Nat) (t:TestT n) (cs:List Ins),cs.length≤(testC n t cs).length
 | 0,_,_=>Nat.le_refl _
 | n+1,x,cs=>testNodeC_ge (testC_ge n) x.1 x.2 cs
theorem armC_ge {α β:Type} {tst:β→List Ins→List Ins} {cmd:α→List Ins→List Ins} (ht:∀ t cs,cs.length≤(tst t cs).length) (hc:∀ t cs,cs.length≤(cmd t cs).length) (p:List Ins×List Nat) (a:β×List α):p.1.length≤(armC tst cmd p a).1.length:=by
 unfold armC
 dsimp only
 rw [landL_length,List.length_append]
 have h1:=ht a.1 p.1
 have h2:=blockC_ge hc a.2 (tst a.1 p.1++[insOp 5])
 rw [List.length_append] at h2
 omega
theorem armFold_ge {α β:Type} {tst:β→List Ins→List Ins} {cmd:α→List Ins→List Ins} (ht:∀ t cs,cs.length≤(tst t cs).length) (hc:∀ t cs,cs.length≤(cmd t cs).length):∀ (as_:List (β×List α)) (p:List Ins×List Nat),p.1.length≤(as_.foldl (armC tst cmd) p).1.length
 | [],_=>Nat.le_refl _
 | a :: r,p=>Nat.le_trans (armC_ge ht hc p a) (armFold_ge ht hc r _)
theorem choiceEnd_ge {α:Type} {cmd:α→List Ins→List Ins} (hc:∀ t cs,cs.length≤(cmd t cs).length) (els:List α) (r:List Ins×List Nat):r.1.length≤(choiceEnd cmd els r).length:=by
 unfold choiceEnd
 rw [landL_length]
 exact blockC_ge hc els r.1
theorem cmdNodeC_ge {α β:Type} {tst:β→List Ins→List Ins} {cmd:α→List Ins→List Ins} (ht:∀ t cs,cs.length≤(tst t cs).length) (hc:∀ t cs,cs.length≤(cmd t cs).length) (x:CLab) (arms:List (β×List α)) (els:List α) (cs:List Ins):cs.length≤(cmdNodeC tst cmd x arms els cs).length:=by
 have hg:cs.length≤(choiceC tst cmd arms els cs).length:=Nat.le_trans (armFold_ge ht hc arms (cs,[])) (choiceEnd_ge hc els _)
 unfold cmdNodeC
 split
 all_goals first | exact hg | (rw [List.length_append];omega)
theorem cmdC_ge:∀ (n:Nat) (t:CmdT n) (cs:List Ins),cs.length≤(cmdC n t cs).length
 | 0,_,_=>Nat.le_refl _
 | n+1,x,cs=>cmdNodeC_ge (testC_ge n) (cmdC_ge n) x.1 x.2.1 x.2.2 cs
def sumL (xs:List (List UInt8)):Nat:=(xs.map List.length).sum
theorem sumL_cons (x:List UInt8) (xs:List (List UInt8)):sumL (x :: xs)=x.length+sumL xs:=by simp [sumL]
theorem phrase_ge:∀ (ps:List (List UInt8)) (t:List UInt8),t.length+sumL ps≤(ps.foldl phraseStep t).length
 | [],t=>by simp [sumL]
 | p :: r,t=>by
  have h1:=phrase_ge r (phraseStep t p)
  have h2:t.length+p.length≤(phraseStep t p).length:=by
   unfold phraseStep
   split <;> simp only [List.length_append,List.length_cons,List.length_nil] <;> omega
  rw [List.foldl_cons,sumL_cons];omega
theorem phraseL_ge (ps:List (List UInt8)):sumL ps≤(phraseL ps).length:=by
 have:=phrase_ge ps []
 unfold phraseL
 simp only [List.length_nil] at this
 omega
theorem joinL_ge:∀ (xs:List (List UInt8)),sumL xs+2*xs.length≤(joinL [44,32] xs).length+2
 | []=>by simp [sumL,joinL]
 | [x]=>by simp [sumL,joinL]
 | x :: y :: r=>by
  have:=joinL_ge (y :: r)
  rw [sumL_cons]
  simp only [joinL,List.length_append,List.length_cons,List.length_nil] at this ⊢
  omega
theorem blockC_le {α:Type} {sub:α→List Ins→List Ins} {txt:α→List UInt8}:∀ (ts:List α) (cs:List Ins),(∀ t∈ts,∀ cs,(sub t cs).length≤cs.length+4*(txt t).length)→(blockC sub ts cs).length≤cs.length+4*sumL (ts.map txt)
 | [],cs,_=>by simp [blockC]
 | t :: r,cs,h=>by
  have h1:=h t (by simp) cs
  have h2:=blockC_le r (sub t cs) (fun t ht=>h t (by simp [ht]))
  rw [List.map_cons,sumL_cons]
  show (blockC sub r (sub t cs)).length≤_
  omega
theorem gFold_le {α:Type} {sub:α→List Ins→List Ins} {txt:α→List UInt8} (h:∀ t cs,(sub t cs).length≤cs.length+4*(txt t).length) (jump:Int):∀ (ts:List α) (p:List Ins×List Nat),(ts.foldl (gStep sub jump) p).1.length≤p.1.length+4*sumL (ts.map txt)+ts.length
 | [],p=>by simp
 | t :: r,p=>by
  have h1:=gFold_le h jump r (gStep sub jump p t)
  have h2:=h t p.1
  have h3:(gStep sub jump p t).1.length=(sub t p.1).length+1:=by unfold gStep;simp
  rw [List.foldl_cons,List.map_cons,sumL_cons,List.length_cons];omega
theorem testNodeC_le {α:Type} {sub:α→List Ins→List Ins} {txt:α→List UInt8} (h:∀ t cs,(sub t cs).length≤cs.length+4*(txt t).length) (x:TLab) (ts:List α) (cs:List Ins):(testNodeC sub x ts cs).length≤cs.length+4*(testNode x (ts.map txt)).length:=by
 have hg:∀ jump b hw,(groupC sub jump b ts cs).length≤cs.length+4*(groupTxt hw (ts.map txt)).length:=fun jump b hw=>by
  unfold groupC groupTxt
  rw [groupEnd_length]
  have h1:=gFold_le h jump ts (cs,[])
  have h2:=joinL_ge (ts.map txt)
  simp only [List.length_append,List.length_cons,List.length_nil,List.length_map] at h1 h2 ⊢
  omega
 have hp:∀ (w:List UInt8) (r:List (List UInt8)),w.length≤(phraseL (w :: r)).length:=fun w r=>by
  have:=phraseL_ge (w :: r)
  rw [sumL_cons] at this
  omega
 have hm:∀ hw:List UInt8,hw.length≤(matchTxt hw x).length:=fun hw=>hp _ _
 unfold testNodeC testNode
 generalize x.kind=k
 match k with
 | 0=>
  show (cs++[pushI true]).length≤cs.length+4*(kTrue).length
  rw [List.length_append];show _≤_+4*4;simp
 | 1=>
  show (cs++[pushI false]).length≤cs.length+4*(kFalse).length
  rw [List.length_append];show _≤_+4*5;simp
 | 2=>
  show (blockC sub ts cs++[insOp 2]).length≤cs.length+4*(phraseL (kNot :: ts.map txt)).length
  rw [List.length_append]
  have h1:=blockC_le (txt:=txt) ts cs (fun t _=>h t)
  have h2:=phraseL_ge (kNot :: ts.map txt)
  rw [sumL_cons] at h2
  have h3:kNot.length=3:=rfl
  simp only [List.length_cons,List.length_nil]
  omega
 | 3=>
  show (groupC sub 5 false ts cs).length≤cs.length+4*(groupTxt kAllof (ts.map txt)).length
  exact hg _ _ _
 | 4=>
  show (groupC sub 4 true ts cs).length≤cs.length+4*(groupTxt kAnyof (ts.map txt)).length
  exact hg _ _ _
 | 5=>
  show (cs++[matchI 6 x]).length≤cs.length+4*(matchTxt kHeader x).length
  rw [List.length_append];have h1:=hm kHeader;have h2:kHeader.length=6:=rfl;simp only [List.length_cons,List.length_nil];omega
 | 6=>
  show (cs++[matchI 7 x]).length≤cs.length+4*(matchTxt kEnvelope x).length
  rw [List.length_append];have h1:=hm kEnvelope;have h2:kEnvelope.length=8:=rfl;simp only [List.length_cons,List.length_nil];omega
 | 7=>
  show (cs++[matchI 8 x]).length≤cs.length+4*(matchTxt kString x).length
  rw [List.length_append];have h1:=hm kString;have h2:kString.length=6:=rfl;simp only [List.length_cons,List.length_nil];omega
 | 8=>
  show (cs++[(⟨9,0,0,false,x.fr,[],0⟩:Ins)]).length≤cs.length+4*(phraseL [kExists,quotesL x.fr]).length
  rw [List.length_append];have h1:=hp kExists [quotesL x.fr];have h2:kExists.length=6:=rfl;simp only [List.length_cons,List.length_nil];omega
 | _+9=>
  show (cs++[(⟨10,x.num,x.tag,false,[],[],0⟩:Ins)]).length≤cs.length+4*(phraseL [kSize,tagTextL x.tag [tOver,tUnder],itoaL x.num]).length
  rw [List.length_append];have h1:=hp kSize [tagTextL x.tag [tOver,tUnder],itoaL x.num];have h2:kSize.length=4:=rfl;simp only [List.length_cons,List.length_nil];omega
theorem testC_le:∀ (n:Nat) (t:TestT n) (cs:List Ins),(testC n t cs).length≤cs.length+4*(testTxt n t).length
 | 0,_,cs=>by show cs.length≤_;omega
 | n+1,x,cs=>testNodeC_le (testC_le n) x.1 x.2 cs
theorem linesC_ge {α:Type} (txt:α→List UInt8→List UInt8) (cs:List α) (i:List UInt8):sumL (cs.map fun c=>txt c i)≤(linesL txt cs i).length:=by
 induction cs with
 | nil=>simp [sumL]
 | cons c r ih=>
  unfold linesL at ih ⊢
  rw [List.map_cons,sumL_cons,List.flatMap_cons]
  simp only [List.length_append]
  omega
theorem armFold_le {α β:Type} {tst:β→List Ins→List Ins} {cmd:α→List Ins→List Ins} {tt:β→List UInt8} {ct:α→List UInt8→List UInt8} (j i:List UInt8) (ht:∀ t cs,(tst t cs).length≤cs.length+4*(tt t).length):∀ (as_:List (β×List α)) (word:List UInt8) (p:List Ins×List Nat),(∀ a∈as_,∀ t∈a.2,∀ cs i,(cmd t cs).length≤cs.length+4*(ct t i).length)→(as_.foldl (armC tst cmd) p).1.length≤p.1.length+4*(armsTxt j word (as_.map fun a=>(tt a.1,linesL ct a.2 i))).length
 | [],_,p,_=>by simp [armsTxt]
 | a :: r,word,p,hc=>by
  have h1:=armFold_le j i ht r kElsifB (armC tst cmd p a) (fun a ha=>hc a (by simp [ha]))
  have h2:=ht a.1 p.1
  have h3:=blockC_le (txt:=fun c=>ct c i) a.2 (tst a.1 p.1++[insOp 5]) (fun t h cs=>hc a (by simp) t h cs i)
  have h4:(armC tst cmd p a).1.length=(blockC cmd a.2 (tst a.1 p.1++[insOp 5])).length+1:=by unfold armC;dsimp only;rw [landL_length,List.length_append];rfl
  have h5:=linesC_ge ct a.2 i
  have h6:=phraseL_ge [word,tt a.1,openB]
  rw [sumL_cons,sumL_cons,sumL_cons] at h6
  have h7:openB.length=2:=rfl
  rw [List.foldl_cons,List.map_cons]
  show _≤p.1.length+4*(armTxt word j (tt a.1) (linesL ct a.2 i)++armsTxt j kElsifB (r.map fun a=>(tt a.1,linesL ct a.2 i))).length
  unfold armTxt
  simp only [List.length_append,List.length_cons,List.length_nil] at h3 ⊢
  omega
theorem cmdNodeC_le {α β:Type} {tst:β→List Ins→List Ins} {cmd:α→List Ins→List Ins} {tt:β→List UInt8} {ct:α→List UInt8→List UInt8} (j i:List UInt8) (ht:∀ t cs,(tst t cs).length≤cs.length+4*(tt t).length) (x:CLab) (arms:List (β×List α)) (els:List α) (cs:List Ins) (hc:∀ a∈arms,∀ t∈a.2,∀ cs i,(cmd t cs).length≤cs.length+4*(ct t i).length) (hc2:∀ t∈els,∀ cs i,(cmd t cs).length≤cs.length+4*(ct t i).length) (he:x.els=false→els=[]) :
  (cmdNodeC tst cmd x arms els cs).length≤cs.length+4*(cmdNode x j (arms.map fun a=>(tt a.1,linesL ct a.2 i)) (linesL ct els i)).length:=by
 unfold cmdNodeC cmdNode
 generalize x.kind=k
 match k with
 | 0=>
  show (cs++[actI 1 x.pos []]).length≤cs.length+4*(kKeep++[59]).length
  rw [List.length_append,List.length_append];simp only [List.length_cons,List.length_nil];omega
 | 1=>
  show (cs++[(⟨13,0,0,false,[],[],x.pos⟩:Ins)]).length≤cs.length+4*(kDiscard++[59]).length
  rw [List.length_append,List.length_append];simp only [List.length_cons,List.length_nil];omega
 | 2=>
  show (cs++[(⟨14,0,0,false,[],[],x.pos⟩:Ins)]).length≤cs.length+4*(kStop++[59]).length
  rw [List.length_append,List.length_append];simp only [List.length_cons,List.length_nil];omega
 | 3=>
  show (cs++[actI 2 x.pos [x.arg]]).length≤cs.length+4*(phraseL [kFileinto,quotedL x.arg]++[59]).length
  rw [List.length_append,List.length_append];simp only [List.length_cons,List.length_nil];omega
 | 4=>
  show (cs++[actI 3 x.pos [x.arg]]).length≤cs.length+4*(phraseL [kRedirect,quotedL x.arg]++[59]).length
  rw [List.length_append,List.length_append];simp only [List.length_cons,List.length_nil];omega
 | 5=>
  show (cs++[actI 4 x.pos [x.arg]]).length≤cs.length+4*(phraseL [kReject,quotedL x.arg]++[59]).length
  rw [List.length_append,List.length_append];simp only [List.length_cons,List.length_nil];omega
 | 6=>
  show (cs++[(⟨12,0,x.tag,false,[x.var],[x.arg],x.pos⟩:Ins)]).length≤cs.length+4*(phraseL [kSet,tagTextL x.tag [tLower,tUpper,tLength],quotedL x.var,quotedL x.arg]++[59]).length
  rw [List.length_append,List.length_append];simp only [List.length_cons,List.length_nil];omega
 | _+7=>
  show (choiceC tst cmd arms els cs).length≤cs.length+4*(armsTxt j kIf (arms.map fun (a:β×List α)=>(tt a.1,linesL ct a.2 i))++(if x.els then elseB++linesL ct els i++j else [])++[125]).length
  unfold choiceC choiceEnd
  rw [landL_length]
  have h1:=armFold_le j i ht arms kIf (cs,[]) hc
  have h2:=blockC_le (txt:=fun c=>ct c i) els (arms.foldl (armC tst cmd) (cs,[])).1 (fun t h cs=>hc2 t h cs i)
  have h3:=linesC_ge ct els i
  dsimp only at h1
  rw [List.length_append,List.length_append]
  by_cases hx:x.els=true
  ·rw [if_pos hx]
   simp only [List.length_append]
   omega
  ·have hn:els=[]:=he (by cases h:x.els with | false=>rfl | true=>exact absurd h hx)
   subst hn
   have h4:sumL (([]:List α).map fun c=>ct c i)=0:=rfl
   omega
theorem cmdC_le (req:List (List UInt8)):∀ (n:Nat) (t:CmdT n),allC (WfT req) (WfC req) n t→∀ (cs:List Ins) (i:List UInt8),(cmdC n t cs).length≤cs.length+4*(cmdTxt n t i).length
 | 0,_,h,cs,i=>h.elim
 | n+1,x,h,cs,i=>by
  obtain ⟨h1,h2,h3⟩:=h
  refine cmdNodeC_le i (i++[32,32]) (testC_le n) x.1 x.2.1 x.2.2 cs (fun a ha t ht cs i=>cmdC_le req n t ((h2 a ha).2 t ht) cs i) (fun t ht cs i=>cmdC_le req n t (h3 t ht) cs i) (fun he=>?_)
  exact List.eq_nil_of_length_eq_zero (h1.else0 he)
theorem codeL_le {y:List (List UInt8)×List (CmdT 7)} (h:∀ c∈y.2,allC (WfT y.1) (WfC y.1) 7 c):(codeL y.2).length≤4*(textL y).length:=by
 have h1:=blockC_le (txt:=fun c=>cmdTxt 7 c []) y.2 [] (fun t ht cs=>cmdC_le y.1 7 t (h t ht) cs [])
 have h2:=linesC_ge (cmdTxt 7) y.2 []
 unfold codeL textL
 rw [List.length_append]
 simp only [List.length_nil] at h1
 omega
def preV:List UInt8:=[114,101,113,117,105,114,101,32,34,118,97,114,105,97,98,108,101,115,34,59]
theorem addReq_mem (req:List (List UInt8)) (x z:List UInt8) (h:z∈req):z∈addReq req x:=by
 unfold addReq
 split
 ·exact h
 ·simp [h]
theorem foldReq_mem:∀ (xs req:List (List UInt8)) (z:List UInt8),z∈req→z∈xs.foldl addReq req
 | [],_,_,h=>h
 | x :: r,req,z,h=>foldReq_mem r _ z (addReq_mem req x z h)
theorem reqMore_mem (l:List UInt8) (F:Nat) (z:List UInt8):∀ (f:Nat) (req:List (List UInt8)) (s:PS) (y:List (List UInt8)×PS),reqMore l F f req s=.ok y→z∈req→z∈y.1
 | 0,req,s,y,h,hz=>by cases h;exact hz
 | f+1,req,s,y,h,hz=>by
  rw [reqMore] at h
  unfold thenL at h
  cases h1:mayL l [kRequire] s with
  | error e=>rw [h1] at h;cases h
  | ok a=>
   rw [h1] at h
   dsimp only at h
   by_cases h0:a.1=0
   ·rw [if_pos h0] at h;cases h;exact hz
   ·rw [if_neg h0] at h
    cases h2:stringsL l (fun x=>if 0 < whichL [kEnvelope,kFileinto,kReject,kVariables] x then 0 else 6) F a.2 with
    | error e=>rw [h2] at h;cases h
    | ok c=>
     rw [h2] at h
     dsimp only at h
     cases h3:passL l [[59]] c.2 with
     | error e=>rw [h3] at h;cases h
     | ok d=>
      rw [h3] at h
      exact reqMore_mem l F z f _ _ y h (foldReq_mem _ _ _ hz)
theorem next_v1 (l:List UInt8):nextL (preV++l) 0=.ok (⟨1,0,kRequire,[],0⟩,7):=rfl
theorem next_v2 (l:List UInt8):nextL (preV++l) 7=.ok (⟨5,8,[],kVariables,0⟩,19):=rfl
theorem next_v3 (l:List UInt8):nextL (preV++l) 19=.ok (⟨3,19,[59],[],0⟩,20):=rfl
theorem vars_req {l:List UInt8} {y:List (List UInt8)×List (CmdT 7)} (h:parseL (preV++l)=.ok y):kVariables∈y.1:=by
 unfold parseL at h
 dsimp only at h
 obtain ⟨F,hF⟩:∃ F,2*(preV++l).length+10=F+1:=⟨2*(preV++l).length+9,rfl⟩
 rw [hF,next_v1] at h
 dsimp only at h
 cases hr:reqMore (preV++l) (F+1) (F+1) [] (⟨1,0,kRequire,[],0⟩,7) with
 | error e=>rw [hr] at h;cases h
 | ok q=>
  rw [hr] at h
  dsimp only at h
  have hq:kVariables∈q.1:=by
   rw [reqMore] at hr
   have m1:mayL (preV++l) [kRequire] (⟨1,0,kRequire,[],0⟩,7)=.ok (1,(⟨5,8,[],kVariables,0⟩,19)):=by
    unfold mayL
    rw [if_neg (by decide),next_v2]
    rfl
   have m2:∀ chk:List UInt8→Nat,chk kVariables=0→stringsL (preV++l) chk (F+1) (⟨5,8,[],kVariables,0⟩,19)=.ok ([kVariables],(⟨3,19,[59],[],0⟩,20)):=fun chk hc=>by
    have a1:mayL (preV++l) [[91]] (⟨5,8,[],kVariables,0⟩,19)=.ok (0,(⟨5,8,[],kVariables,0⟩,19)):=by
     unfold mayL
     rw [if_pos (by decide)]
    have a2:stringL (preV++l) chk (⟨5,8,[],kVariables,0⟩,19)=.ok (kVariables,(⟨3,19,[59],[],0⟩,20)):=by
     unfold stringL
     rw [if_pos rfl,if_pos hc,next_v3]
    unfold stringsL
    rw [a1]
    dsimp only
    rw [a2]
    rfl
   unfold thenL at hr
   rw [m1] at hr
   dsimp only at hr
   rw [if_neg (by decide),m2 _ (by decide)] at hr
   dsimp only at hr
   cases h3:passL (preV++l) [[59]] (⟨3,19,[59],[],0⟩,20) with
   | error e=>rw [h3] at hr;cases hr
   | ok d=>
    rw [h3] at hr
    exact reqMore_mem _ _ kVariables F _ _ q hr (by decide)
  cases hc:cmdsMore (cmdL (preV++l) q.1 (F+1) 7) (F+1) [] q.2 with
  | error e=>rw [hc] at h;cases h
  | ok cs=>rw [hc] at h;cases h;exact hq
def exCode:List Ins:=[⟨1,1,0,false,[],[],0⟩,⟨4,1,0,false,[],[],0⟩,⟨14,0,0,false,[],[],0⟩,⟨13,0,0,false,[],[],0⟩]
theorem exCode_say (M:Msg):execL false exCode M=([],3,none):=rfl
end Go.Proofs.YtbiclelojbfnbaaGreatDoor
