import Derived.Test.YtbiclelojbfnbaaGreatDoorZPlainParse
namespace Go.Proofs.YtbiclelojbfnbaaGreatDoor
set_option linter.unusedVariables false
set_option linter.unusedSimpArgs false
set_option maxRecDepth 100000
set_option maxHeartbeats 4000000
def Gd (l:List UInt8) (s:PS):Prop:=s.2≤l.length∧(s.1.kind=0→s.1.spelt=[])
def Dn {α:Type} (c:Nat) (l:List UInt8) (r:Except Flt (α×PS)) (s:PS):Prop:=∀ y,r=.ok y→Gd l y.2∧mu l.length y.2+c≤mu l.length s
theorem Dn.err {α:Type} {c:Nat} {l:List UInt8} {f:Flt} {s:PS}:Dn c l (.error f:Except Flt (α×PS)) s:=fun y h=>by cases h
theorem Dn.ok {α:Type} {l:List UInt8} {a:α} {s:PS} (h:Gd l s):Dn 0 l (.ok (a,s):Except Flt (α×PS)) s:=fun y e=>by cases e;exact ⟨h,Nat.le_refl _⟩
theorem Dn.weak {α:Type} {c c':Nat} {l:List UInt8} {r:Except Flt (α×PS)} {s:PS} (h:Dn c l r s) (hc:c'≤c):Dn c' l r s:=fun y e=>⟨(h y e).1,by have:=(h y e).2;omega⟩
theorem Dn.andThen {α β:Type} {c c':Nat} {l:List UInt8} {r:Except Flt (α×PS)} {k:α→PS→Except Flt (β×PS)} {s:PS} (h:Dn c l r s) (hk:∀ a s1,Gd l s1→Dn c' l (k a s1) s1):Dn (c+c') l (QaT r k) s:=fun y e=>by
 cases hr:r with
 | error f=>rw [Qaf hr] at e;cases e
 | ok z=>
  rw [Qae hr] at e
  obtain ⟨h1,h2⟩:=h z hr
  obtain ⟨h3,h4⟩:=hk z.1 z.2 h1 y e
  exact ⟨h3,by omega⟩
theorem Qk5 {l:List UInt8} {s y:PS} (h:Gd l s) (hn:nextL l s.2=.ok y):Gd l y:=by
 obtain ⟨h1,h2,h3,h4,h5⟩:=QhS l s.2 h.1 y hn
 exact ⟨h2,h4⟩
theorem Dn.next {β:Type} {c:Nat} {l:List UInt8} {k:PS→Except Flt (β×PS)} {s:PS} (h:Gd l s) (hz:¬ s.1.kind=0) (hk:∀ s1,Gd l s1→Dn c l (k s1) s1):Dn (c+1) l (Qcm l s k) s:=fun y e=>by
 cases hr:nextL l s.2 with
 | error f=>rw [Qbj hr] at e;cases e
 | ok z=>
  rw [Qa0 hr] at e
  have h1:=Qem h.1 hz hr
  obtain ⟨h3,h4⟩:=hk z (Qk5 h hr) y e
  exact ⟨h3,by omega⟩
theorem QfP {l:List UInt8} {zs:List (List UInt8)} {s:PS} (h:Gd l s) (hz:∀ z∈zs,z≠[]):Dn 1 l (passL l zs s) s:=fun y e=>by
 refine ⟨?_,(QhV h.1 h.2 hz e).1⟩
 unfold passL at e
 split at e
 ·cases e
 ·cases hn:nextL l s.2 with
  | error f=>rw [hn] at e;cases e
  | ok s'=>rw [hn] at e;cases e;exact Qk5 h hn
theorem Qkg {l:List UInt8} {zs:List (List UInt8)} {s:PS} (h:Gd l s) (hz:∀ z∈zs,z≠[]):Dn 0 l (mayL l zs s) s:=fun y e=>by
 refine ⟨?_,(QiA h.1 h.2 hz e).1⟩
 unfold mayL at e
 split at e
 ·cases e;exact h
 ·cases hn:nextL l s.2 with
  | error f=>rw [hn] at e;cases e
  | ok s'=>rw [hn] at e;cases e;exact Qk5 h hn
theorem QcM {l:List UInt8} {chk:List UInt8→Nat} {s:PS} (h:Gd l s):Dn 1 l (stringL l chk s) s:=fun y e=>by
 refine ⟨?_,(Qee h.1 e).1⟩
 unfold stringL at e
 split at e
 ·split at e
  ·cases hn:nextL l s.2 with
   | error f=>rw [hn] at e;cases e
   | ok s'=>rw [hn] at e;cases e;exact Qk5 h hn
  ·cases e
 ·cases e
theorem Qso {l:List UInt8} {chk:List UInt8→Nat}:∀ (f:Nat) (acc:List (List UInt8)) (s:PS),Gd l s→Dn 0 l (moreL l chk f acc s) s
 | 0,acc,s,h=>Dn.ok h
 | f+1,acc,s,h=>fun y e=>by
  rw [moreL] at e
  cases hp:passL l [[44],[93]] s with
  | error g=>rw [hp] at e;cases e
  | ok z=>
   rw [hp] at e
   obtain ⟨h1,h2⟩:=QfP (zs:=[[44],[93]]) h (by decide) z hp
   dsimp only at e
   split at e
   ·cases hs:stringL l chk z.2 with
    | error g=>rw [hs] at e;cases e
    | ok x=>
     rw [hs] at e
     obtain ⟨h3,h4⟩:=QcM h1 x hs
     obtain ⟨h5,h6⟩:=Qso f _ x.2 h3 y e
     exact ⟨h5,by omega⟩
   ·cases e;exact ⟨h1,by dsimp only;omega⟩
theorem QgL {l:List UInt8} {chk:List UInt8→Nat} {F:Nat} {s:PS} (h:Gd l s):Dn 1 l (stringsL l chk F s) s:=fun y e=>by
 unfold stringsL at e
 cases hm:mayL l [[91]] s with
 | error g=>rw [hm] at e;cases e
 | ok z=>
  rw [hm] at e
  obtain ⟨h1,h2⟩:=Qkg (zs:=[[91]]) h (by decide) z hm
  dsimp only at e
  cases hs:stringL l chk z.2 with
  | error g=>rw [hs] at e;cases e
  | ok x=>
   rw [hs] at e
   obtain ⟨h3,h4⟩:=QcM h1 x hs
   dsimp only at e
   split at e
   ·cases e;exact ⟨h3,by dsimp only;omega⟩
   ·obtain ⟨h5,h6⟩:=Qso F _ x.2 h3 y e
    exact ⟨h5,by omega⟩
theorem Qfu {l:List UInt8} {zs:List (List UInt8)} {s:PS} (h:Gd l s) (hz:∀ z∈zs,z≠[]) (h0:¬ whichL zs s.1.spelt=0):¬ s.1.kind=0:=fun e=>h0 (by rw [h.2 e];exact Qej zs hz)
theorem Qsb {l:List UInt8}:∀ (f tag:Nat) (oct cmp:Bool) (s:PS),Gd l s→Dn 0 l (QdV l f tag oct cmp s) s
 | 0,tag,oct,cmp,s,h=>Dn.ok h
 | f+1,tag,oct,cmp,s,h=>by
  rw [QdV]
  by_cases h1:whichL [tIs,Qas,QaA] s.1.spelt=0
  ·rw [if_pos h1]
   by_cases h2:whichL [Qar] s.1.spelt=0
   ·rw [if_pos h2];exact Dn.ok h
   ·rw [if_neg h2]
    cases cmp
    ·rw [if_neg (by decide)]
     refine (Dn.next (c:=0) h (Qfu (zs:=[Qar]) h (by decide) h2) fun s1 g1=>?_).weak (by omega)
     exact ((QcM g1).andThen (c':=0) fun x s2 g2=>Qsb f _ _ _ s2 g2).weak (by omega)
    ·rw [if_pos rfl];exact Dn.err
  ·rw [if_neg h1]
   by_cases ht:tag=0
   ·rw [if_pos ht]
    exact (Dn.next (c:=0) h (Qfu (zs:=[tIs,Qas,QaA]) h (by decide) h1) fun s1 g1=>Qsb f _ _ _ s1 g1).weak (by omega)
   ·rw [if_neg ht];exact Dn.err
theorem Qkz {l:List UInt8} {F:Nat} {chk:List UInt8→Nat} {k pos:Nat} {s:PS} (h:Gd l s):Dn 0 l (QbS l F chk k pos s) s:=by
 unfold QbS
 exact ((Qsb F 0 false false s h).andThen (c':=1) fun o s1 g1=>((QgL g1).andThen (c':=0) fun fr s2 g2=>((QgL g2).andThen (c':=0) fun ks s3 g3=>Dn.ok g3).weak (by omega)).weak (by omega)).weak (by omega)
theorem Qhp {α:Type} {l:List UInt8} {sub:PS→Except Flt (α×PS)} (hs:∀ s,Gd l s→Dn 1 l (sub s) s):∀ (f:Nat) (acc:List α) (s:PS),Gd l s→Dn 0 l (groupMore l sub f acc s) s
 | 0,acc,s,h=>Dn.ok h
 | f+1,acc,s,h=>by
  rw [groupMore]
  refine ((QfP h (by decide)).andThen (c':=0) fun i s1 g1=>?_).weak (by omega)
  split
  ·exact ((hs s1 g1).andThen (c':=0) fun t s2 g2=>Qhp hs f _ s2 g2).weak (by omega)
  ·exact Dn.ok g1
theorem QoR {α:Type} {l:List UInt8} {F:Nat} {sub:PS→Except Flt (α×PS)} (hs:∀ s,Gd l s→Dn 1 l (sub s) s) {s:PS} (h:Gd l s):Dn 0 l (QcB l F sub s) s:=by
 unfold QcB
 exact ((QfP h (by decide)).andThen (c':=0) fun _ s1 g1=>((hs s1 g1).andThen (c':=0) fun t s2 g2=>Qhp hs F _ s2 g2).weak (by omega)).weak (by omega)
theorem Qui {l:List UInt8} {pos:Nat} {s:PS} (h:Gd l s):Dn 0 l (sizeL l pos s) s:=by
 unfold sizeL
 refine ((QfP h (by decide)).andThen (c':=0) fun i s1 g1=>?_).weak (by omega)
 split
 ·rename_i hk
  exact (Dn.next (c:=0) g1 (by omega) fun s2 g2=>Dn.ok g2).weak (by omega)
 ·exact Dn.err
theorem QoH {α:Type} {l:List UInt8} {F:Nat} {sub:PS→Except Flt (α×PS)} (hs:∀ s,Gd l s→Dn 1 l (sub s) s) (k pos:Nat) {s:PS} (h:Gd l s):Dn 0 l (testBody l F sub k pos s) s:=by
 unfold testBody
 split
 ·exact Dn.ok h
 ·exact Dn.ok h
 ·exact ((hs s h).andThen (c':=0) fun _ _ g=>Dn.ok g).weak (by omega)
 ·exact ((QoR hs h).andThen (c':=0) fun _ _ g=>Dn.ok g).weak (by omega)
 ·exact ((QoR hs h).andThen (c':=0) fun _ _ g=>Dn.ok g).weak (by omega)
 ·exact ((Qkz h).andThen (c':=0) fun _ _ g=>Dn.ok g).weak (by omega)
 ·exact ((Qkz h).andThen (c':=0) fun _ _ g=>Dn.ok g).weak (by omega)
 ·exact ((Qkz h).andThen (c':=0) fun _ _ g=>Dn.ok g).weak (by omega)
 ·exact ((QgL h).andThen (c':=0) fun _ _ g=>Dn.ok g).weak (by omega)
 ·exact ((Qui h).andThen (c':=0) fun _ _ g=>Dn.ok g).weak (by omega)
theorem Qk8 {l:List UInt8} {req:List (List UInt8)} {F:Nat}:∀ (n:Nat) (s:PS),Gd l s→Dn 1 l (QbD l req F n s) s
 | 0,s,h=>by
  rw [QbD]
  split <;> exact Dn.err
 | n+1,s,h=>by
  rw [QbD]
  by_cases h0:whichL testNames s.1.spelt=0
  ·rw [if_pos h0];exact Dn.err
  ·rw [if_neg h0]
   cases hu:QcE req s.1.spelt
   ·rw [if_neg (by decide)];exact Dn.err
   ·rw [if_pos rfl]
    exact (Dn.next (c:=0) h (Qfu (zs:=testNames) h (by decide) h0) fun s1 g1=>QoH (fun s g=>Qk8 n s g) _ _ g1).weak (by omega)
theorem Qhk {α:Type} {l:List UInt8} {sub:PS→Except Flt (α×PS)} (hs:∀ s,Gd l s→Dn 1 l (sub s) s):∀ (f:Nat) (acc:List α) (s:PS),Gd l s→Dn 0 l (blockMore l sub f acc s) s
 | 0,acc,s,h=>Dn.ok h
 | f+1,acc,s,h=>by
  rw [blockMore]
  refine ((Qkg h (by decide)).andThen (c':=0) fun i s1 g1=>?_).weak (by omega)
  split
  ·exact ((hs s1 g1).andThen (c':=0) fun t s2 g2=>Qhk hs f _ s2 g2).weak (by omega)
  ·exact Dn.ok g1
theorem Qpe {α:Type} {l:List UInt8} {F:Nat} {sub:PS→Except Flt (α×PS)} (hs:∀ s,Gd l s→Dn 1 l (sub s) s) {s:PS} (h:Gd l s):Dn 1 l (blockL l F sub s) s:=by
 unfold blockL
 exact (QfP h (by decide)).andThen (c':=0) fun _ s1 g1=>Qhk hs F _ s1 g1
theorem QrL {α β:Type} {l:List UInt8} {F:Nat} {tst:PS→Except Flt (β×PS)} {sub:PS→Except Flt (α×PS)} (ht:∀ s,Gd l s→Dn 1 l (tst s) s) (hs:∀ s,Gd l s→Dn 1 l (sub s) s) {s:PS} (h:Gd l s):Dn 1 l (armL l F tst sub s) s:=by
 unfold armL
 exact ((ht s h).andThen (c':=0) fun t s1 g1=>((Qpe hs g1).andThen (c':=0) fun cs s2 g2=>Dn.ok g2).weak (by omega))
theorem Qst {α β:Type} {l:List UInt8} {F:Nat} {tst:PS→Except Flt (β×PS)} {sub:PS→Except Flt (α×PS)} (ht:∀ s,Gd l s→Dn 1 l (tst s) s) (hs:∀ s,Gd l s→Dn 1 l (sub s) s):∀ (f:Nat) (acc:List (β×List α)) (s:PS),Gd l s→Dn 0 l (armsMore l F tst sub f acc s) s
 | 0,acc,s,h=>Dn.ok h
 | f+1,acc,s,h=>by
  rw [armsMore]
  refine ((Qkg h (by decide)).andThen (c':=0) fun i s1 g1=>?_).weak (by omega)
  split
  ·exact Dn.ok g1
  ·exact ((QrL ht hs g1).andThen (c':=0) fun a s2 g2=>Qst ht hs f _ s2 g2).weak (by omega)
theorem QfL {α:Type} {l:List UInt8} {s:PS} {a:α} (h:Gd l s):Dn 0 l (semi l s a) s:=by
 unfold semi
 exact ((QfP h (by decide)).andThen (c':=0) fun _ s1 g1=>Dn.ok g1).weak (by omega)
theorem QpY {α β:Type} {l:List UInt8} {F:Nat} {tst:PS→Except Flt (β×PS)} {sub:PS→Except Flt (α×PS)} (ht:∀ s,Gd l s→Dn 1 l (tst s) s) (hs:∀ s,Gd l s→Dn 1 l (sub s) s) (k pos:Nat) {s:PS} (h:Gd l s):Dn 0 l (cmdBody l F tst sub k pos s) s:=by
 unfold cmdBody
 split
 ·exact QfL h
 ·exact QfL h
 ·exact QfL h
 ·exact ((QcM h).andThen (c':=0) fun _ _ g=>QfL g).weak (by omega)
 ·exact ((QcM h).andThen (c':=0) fun _ _ g=>QfL g).weak (by omega)
 ·exact ((QcM h).andThen (c':=0) fun _ _ g=>QfL g).weak (by omega)
 ·exact ((Qkg h (by decide)).andThen (c':=0) fun _ _ g1=>((QcM g1).andThen (c':=0) fun _ _ g2=>((QcM g2).andThen (c':=0) fun _ _ g3=>QfL g3).weak (by omega)).weak (by omega)).weak (by omega)
 ·refine ((QrL ht hs h).andThen (c':=0) fun a s1 g1=>((Qst ht hs F _ s1 g1).andThen (c':=0) fun arms s2 g2=>((Qkg g2 (by decide)).andThen (c':=0) fun i s3 g3=>?_).weak (by omega)).weak (by omega)).weak (by omega)
  split
  ·exact Dn.ok g3
  ·exact ((Qpe hs g3).andThen (c':=0) fun _ _ g4=>Dn.ok g4).weak (by omega)
theorem Qr3 {l:List UInt8} {req:List (List UInt8)} {F:Nat}:∀ (n:Nat) (s:PS),Gd l s→Dn 1 l (cmdL l req F n s) s
 | 0,s,h=>by
  rw [cmdL]
  split <;> exact Dn.err
 | n+1,s,h=>by
  rw [cmdL]
  by_cases h0:whichL cmdNames s.1.spelt=0
  ·rw [if_pos h0];exact Dn.err
  ·rw [if_neg h0]
   cases hu:QcE req s.1.spelt
   ·rw [if_neg (by decide)];exact Dn.err
   ·rw [if_pos rfl]
    exact (Dn.next (c:=0) h (Qfu (zs:=cmdNames) h (by decide) h0) fun s1 g1=>QpY (fun s g=>Qk8 n s g) (fun s g=>Qr3 n s g) _ _ g1).weak (by omega)
def skipS (r:List UInt8) (p:Nat):Except Flt Nat:=Qb4 (r.length+1) r p
theorem Qfy:∀ (f g:Nat) (r:List UInt8) (p:Nat),r.length < f→r.length < g→Qb4 f r p=Qb4 g r p
 | 0,_,r,p,h,_=>absurd h (Nat.not_lt_zero _)
 | _+1,0,r,p,_,h=>absurd h (Nat.not_lt_zero _)
 | f+1,g+1,[],p,_,_=>rfl
 | f+1,g+1,c :: r,p,h1,h2=>by
  simp only [List.length_cons] at h1 h2
  simp only [Qb4]
  have h3:=Qi7 c r
  rw [Qfy f g r (p+1) (by omega) (by omega)]
  rw [Qfy f g (List.drop (lineLen (c :: r)) (c :: r)) _ (by rw [List.length_drop];simp only [List.length_cons];omega) (by rw [List.length_drop];simp only [List.length_cons];omega)]
  rw [Qfy f g (List.drop (4+(Lib.index (r.drop 1) [42,47]).toNat) (c :: r)) _ (by rw [List.length_drop];simp only [List.length_cons];omega) (by rw [List.length_drop];simp only [List.length_cons];omega)]
theorem Qux (f:Nat) (r:List UInt8) (p:Nat) (h:r.length < f):Qb4 f r p=skipS r p:=Qfy _ _ _ _ h (Nat.lt_succ_self _)
theorem Qr1 (p:Nat):skipS [] p=.ok p:=rfl
theorem Qh3 {c:UInt8} (r:List UInt8) (p:Nat) (h:Qbe c.toNat=true):skipS (c :: r) p=skipS r (p+1):=by
 show Qb4 (r.length+1+1) (c :: r) p=_
 simp only [Qb4]
 rw [if_pos h];rfl
theorem Qqx {c:UInt8} (r:List UInt8) (p:Nat) (h:Qbe c.toNat=false) (h1:¬ c.toNat=35) (h2:Lib.hasPrefix (c :: r) [47,42]=false):skipS (c :: r) p=.ok p:=by
 show Qb4 (r.length+1+1) (c :: r) p=_
 simp only [Qb4]
 rw [if_neg (by rw [h];decide),if_neg h1,if_neg (by rw [h2];decide)]
theorem QgV (l:List UInt8) (p:Nat):nextL l p=match skipS (l.drop p) p with
 | .error f=>.error f
 | .ok n=>scanL (l.drop n) n:=by
 unfold nextL
 rw [Qux _ _ _ (by rw [List.length_drop];omega)]
 cases skipS (List.drop p l) p <;> rfl
section
section
variable {A B l u:List UInt8}
end
def zT (x:QcT):QcT:=⟨x.kind,0,x.tag,x.octet,x.fr,x.keys,x.num⟩
def QdR:(n:Nat)→Qbx n→Qbx n
 | 0,x=>x
 | n+1,x=>(zT x.1,x.2.map (QdR n))
def zC (x:QfA):QfA:=⟨x.kind,0,x.tag,x.arg,x.var,x.els⟩
def Qja:(n:Nat)→Qcd n→Qcd n
 | 0,x=>x
 | n+1,x=>(zC x.1,x.2.1.map (fun a=>(QdR n a.1,a.2.map (Qja n))),x.2.2.map (Qja n))
section
variable {A B l u:List UInt8}
end
end
end Go.Proofs.YtbiclelojbfnbaaGreatDoor
