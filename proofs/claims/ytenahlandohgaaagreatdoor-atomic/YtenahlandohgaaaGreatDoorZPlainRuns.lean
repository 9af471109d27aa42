import Derived.Test.YtenahlandohgaaaGreatDoorGAll
import Derived.Test.YtenahlandohgaaaGreatDoorGCrash
import Derived.Test.YtenahlandohgaaaGreatDoorGSettle
namespace Go.Proofs.YtenahlandohgaaaGreatDoor
set_option linter.unusedVariables false
set_option linter.unusedSimpArgs false
set_option maxRecDepth 100000
set_option maxHeartbeats 4000000
section
def Was (F M:Fs):Prop:=∀ x,M x=F x
def T0 (F:Fs) (J:List UInt8) (M:Fs):Prop:=(∀ x,x≠kJournal→M x=F x)∧∃ k,k < J.length∧M kJournal=some (J.take k)
def Jou (F:Fs) (J:List UInt8) (fs:List Fl) (M:Fs):Prop:=M kJournal=some J∧∀ x,x≠kJournal→(∀ f∈fs,f.1≠x)→M x=F x
def Nxt (F:Fs) (fs:List Fl) (M:Fs):Prop:=∀ x,M x=putFs F fs x
def NxtJ (F:Fs) (J:List UInt8) (fs:List Fl) (M:Fs):Prop:=M kJournal=some J∧∀ x,x≠kJournal→M x=putFs F fs x
def Good (F:Fs) (J:List UInt8) (fs:List Fl) (D:Fs) (p:List Dop):Prop:=
 (Was F D∧(p=[]∨p=[wOp (kJournal,J)]))∨(T0 F J D∧(p=[]∨p=[rOp kJournal]))∨(Jou F J fs D∧∃ k,p=(fs.take k).map wOp)∨(NxtJ F J fs D∧p=[rOp kJournal])∨(Nxt F fs D∧p=[])
variable {F:Fs} {J:List UInt8} {fs:List Fl}
theorem NxtJ.jou {M:Fs} (h:NxtJ F J fs M):Jou F J fs M:=⟨h.1,fun x hx hn=>by rw [h.2 x hx,putFs_other fs _ _ hn]⟩
theorem jou_put {M:Fs} {f:Fl} {s:List UInt8} (h:Jou F J fs M) (hf:f∈fs) (hj:∀ f∈fs,f.1≠kJournal):Jou F J fs (putF M f.1 s):=by
 refine ⟨?_,fun x hx hn=>?_⟩
 ·unfold putF
  rw [if_neg (fun e=>hj f hf e.symm)]
  exact h.1
 ·unfold putF
  rw [if_neg (fun e=>hn f hf e.symm)]
  exact h.2 x hx hn
theorem jou_crash:∀ (p:List Dop) (D D':Fs),Jou F J fs D→(∀ f∈fs,f.1≠kJournal)→(∀ o∈p,∃ f∈fs,o=wOp f)→CrashOf D p D'→Jou F J fs D'
 | [],D,D',h,_,_,hc=>by rw [show D'=D from hc];exact h
 | o :: r,D,D',h,hj,hp,hc=>by
  rcases hc with hc | ⟨o',ho,hc⟩
  ·exact jou_crash r D D' h hj (fun o ho=>hp o (List.mem_cons_of_mem _ ho)) hc
  ·obtain ⟨f,hf,rfl⟩:=hp o (List.mem_cons_self)
   refine jou_crash r _ D' ?_ hj (fun o ho=>hp o (List.mem_cons_of_mem _ ho)) hc
   rcases ho with rfl | ⟨_,k,rfl⟩
   ·exact jou_put h hf hj
   ·exact jou_put h hf hj
theorem pend_mem {p:List Dop} (h:∃ k,p=(fs.take k).map wOp):∀ o∈p,∃ f∈fs,o=wOp f:=fun o ho=>by
 obtain ⟨k,rfl⟩:=h
 obtain ⟨f,hf,rfl⟩:=List.mem_map.1 ho
 exact ⟨f,List.mem_of_mem_take hf,rfl⟩
theorem good_crash {D D':Fs} {p:List Dop} (h:Good F J fs D p) (hF:F kJournal=none) (hj:∀ f∈fs,f.1≠kJournal) (hc:CrashOf D p D'):Good F J fs D' []:=by
 rcases h with ⟨h,rfl | rfl⟩ | ⟨h,rfl | rfl⟩ | ⟨h,hp⟩ | ⟨h,rfl⟩ | ⟨h,rfl⟩
 ·rw [show D'=D from hc];exact Or.inl ⟨h,Or.inl rfl⟩
 ·rcases hc with hc | ⟨o',ho,hc⟩
  ·rw [show D'=D from hc];exact Or.inl ⟨h,Or.inl rfl⟩
  ·have hb:∀ k,D'=putF D kJournal (J.take k)→Good F J fs D' []:=fun k e=>by
    have hx:∀ x,x≠kJournal→D' x=F x:=fun x hx=>by
     rw [e];unfold putF;rw [if_neg hx];exact h x
    have hk:D' kJournal=some (J.take k):=by rw [e];unfold putF;rw [if_pos rfl]
    by_cases hl:k < J.length
    ·exact Or.inr (Or.inl ⟨⟨hx,k,hl,hk⟩,Or.inl rfl⟩)
    ·refine Or.inr (Or.inr (Or.inl ⟨⟨?_,fun x hx' _=>hx x hx'⟩,0,rfl⟩))
     rw [hk,List.take_of_length_le (by omega)]
   rcases ho with rfl | ⟨_,k,rfl⟩
   ·exact hb J.length (by rw [List.take_length];exact hc)
   ·exact hb k hc
 ·rw [show D'=D from hc];exact Or.inr (Or.inl ⟨h,Or.inl rfl⟩)
 ·rcases hc with hc | ⟨o',ho,hc⟩
  ·rw [show D'=D from hc];exact Or.inr (Or.inl ⟨h,Or.inl rfl⟩)
  ·rcases ho with rfl | ⟨hk,_⟩
   ·refine Or.inl ⟨fun x=>?_,Or.inl rfl⟩
    rw [show D'=delF D kJournal from hc]
    unfold delF
    by_cases hx:x=kJournal
    ·rw [if_pos hx,hx,hF]
    ·rw [if_neg hx];exact h.1 x hx
   ·cases hk
 ·exact Or.inr (Or.inr (Or.inl ⟨jou_crash p D D' h hj (pend_mem hp) hc,0,rfl⟩))
 ·rcases hc with hc | ⟨o',ho,hc⟩
  ·rw [show D'=D from hc];exact Or.inr (Or.inr (Or.inl ⟨h.jou,0,rfl⟩))
  ·rcases ho with rfl | ⟨hk,_⟩
   ·refine Or.inr (Or.inr (Or.inr (Or.inr ⟨fun x=>?_,rfl⟩)))
    rw [show D'=delF D kJournal from hc]
    unfold delF
    by_cases hx:x=kJournal
    ·rw [if_pos hx,hx,putFs_other fs _ _ hj,hF]
    ·rw [if_neg hx];exact h.2 x hx
   ·cases hk
 ·rw [show D'=D from hc];exact Or.inr (Or.inr (Or.inr (Or.inr ⟨h,rfl⟩)))
theorem crash_all:∀ (p:List Dop) (D:Fs),CrashOf D p (p.foldl doF D)
 | [],D=>rfl
 | o :: r,D=>Or.inr ⟨o,Or.inl rfl,crash_all r (doF D o)⟩
theorem doF_map (l:List Fl) (D:Fs):(l.map wOp).foldl doF D=putFs D l:=by
 unfold putFs
 rw [List.foldl_map]
 rfl
def GoodA (F:Fs) (J:List UInt8) (fs:List Fl) (A:AD):Prop:=Good F J fs A.D A.p∧(A.lf.down=false→A.N=A.p.foldl doF A.D)
def Fail (R:Nat×AD):Prop:=(R.1=15∧R.2.lf.down=false)∨(R.1=16∧R.2.lf.down=true)
theorem Fail.ne {R:Nat×AD} (h:Fail R):R.1≠0:=by rcases h with ⟨h,_⟩ | ⟨h,_⟩ <;> omega
theorem aDo_cases (o:Dop) (A:AD):((aDo o A).1=0∧(aDo o A).2.lf.down=false∧(o.kind=1→(aDo o A).2.D=A.D∧(aDo o A).2.N=putF A.N o.name o.data∧(aDo o A).2.p=A.p++[o])∧(o.kind=3→(aDo o A).2.D=A.D∧(aDo o A).2.N=delF A.N o.name∧(aDo o A).2.p=A.p++[o])∧(o.kind=0→(aDo o A).2.D=A.p.foldl doF A.D∧(aDo o A).2.N=A.N∧(aDo o A).2.p=[]))∨
 (Fail (aDo o A)∧(aDo o A).2.D=A.D∧(aDo o A).2.N=A.N∧((aDo o A).2.p=A.p∨(o.kind=1∧(aDo o A).2.lf.down=true∧(aDo o A).2.p=A.p++[o]))):=by
 have hw:((aWr A.lf).1=0∧(aWr A.lf).2.down=false)∨((aWr A.lf).1=15∧(aWr A.lf).2.down=false)∨((aWr A.lf).1=16∧(aWr A.lf).2.down=true):=by
  unfold aWr
  split
  ·exact Or.inr (Or.inr ⟨rfl,rfl⟩)
  ·split
   ·exact Or.inr (Or.inl ⟨rfl,rfl⟩)
   ·exact Or.inl ⟨rfl,rfl⟩
 unfold aDo Fail
 rcases hw with ⟨h,hd⟩ | ⟨h,hd⟩ | ⟨h,hd⟩
 ·refine Or.inl ?_
  rw [if_pos h]
  by_cases h1:o.kind=1
  ·rw [if_pos h1]
   exact ⟨rfl,hd,fun _=>⟨rfl,rfl,rfl⟩,fun h3=>by omega,fun h3=>by omega⟩
  ·rw [if_neg h1]
   by_cases h3:o.kind=3
   ·rw [if_pos h3]
    exact ⟨rfl,hd,fun h=>absurd h h1,fun _=>⟨rfl,rfl,rfl⟩,fun h=>by omega⟩
   ·rw [if_neg h3]
    exact ⟨rfl,hd,fun h=>absurd h h1,fun h=>absurd h h3,fun _=>⟨rfl,rfl,rfl⟩⟩
 ·refine Or.inr ?_
  rw [if_neg (by omega),if_neg (by omega)]
  exact ⟨Or.inl ⟨h,hd⟩,rfl,rfl,Or.inl rfl⟩
 ·refine Or.inr ?_
  rw [if_neg (by omega)]
  by_cases h1:o.kind=1
  ·rw [if_pos ⟨h1,h⟩]
   exact ⟨Or.inr ⟨rfl,hd⟩,rfl,rfl,Or.inr ⟨h1,hd,rfl⟩⟩
  ·rw [if_neg (fun hh=>h1 hh.1)]
   exact ⟨Or.inr ⟨h,hd⟩,rfl,rfl,Or.inl rfl⟩
theorem good_fail {o:Dop} {A:AD} (h:Fail (aDo o A)) (hg:Good F J fs A.D A.p) (hN:A.N=A.p.foldl doF A.D) (hD:(aDo o A).2.D=A.D) (hNN:(aDo o A).2.N=A.N) (hp:(aDo o A).2.p=A.p∨(o.kind=1∧(aDo o A).2.lf.down=true∧(aDo o A).2.p=A.p++[o])) (hw:o.kind=1→Good F J fs A.D (A.p++[o])):GoodA F J fs (aDo o A).2:=by
 rcases hp with hp | ⟨h1,hd,hp⟩
 ·exact ⟨by rw [hD,hp];exact hg,fun _=>by rw [hNN,hp,hD];exact hN⟩
 ·exact ⟨by rw [hD,hp];exact hw h1,fun hf=>by rw [hd] at hf;cases hf⟩
theorem wrRun (D:Fs) (hJ:Jou F J fs D):∀ (r done:List Fl) (A:AD),done++r=fs→A.D=D→A.p=done.map wOp→A.N=putFs D done→A.lf.down=false→
 ((aRun (r.map wOp) A).1=0∧(aRun (r.map wOp) A).2.D=D∧(aRun (r.map wOp) A).2.p=fs.map wOp∧(aRun (r.map wOp) A).2.N=putFs D fs∧(aRun (r.map wOp) A).2.lf.down=false)∨(Fail (aRun (r.map wOp) A)∧GoodA F J fs (aRun (r.map wOp) A).2)
 | [],done,A,hd,h1,h2,h3,h4=>by
  rw [List.append_nil] at hd
  subst hd
  exact Or.inl ⟨rfl,h1,h2,h3,h4⟩
 | f :: r,done,A,hd,h1,h2,h3,h4=>by
  rw [List.map_cons,aRun]
  have hg:Good F J fs A.D A.p:=Or.inr (Or.inr (Or.inl ⟨by rw [h1];exact hJ,done.length,by rw [h2,← hd,List.take_left]⟩))
  rcases aDo_cases (wOp f) A with ⟨h0,hdn,hk,_,_⟩ | ⟨hf,hD,hNN,hp⟩
  ·rw [if_pos h0]
   obtain ⟨e1,e2,e3⟩:=hk rfl
   refine wrRun D hJ r (done++[f]) _ (by rw [List.append_assoc];exact hd) (e1.trans h1) ?_ ?_ hdn
   ·rw [e3,h2,List.map_append];rfl
   ·rw [e2,h3]
    unfold putFs
    rw [List.foldl_append]
    rfl
  ·rw [if_neg hf.ne]
   refine Or.inr ⟨hf,good_fail hf hg (by rw [h3,h2,h1,doF_map]) hD hNN hp (fun _=>Or.inr (Or.inr (Or.inl ⟨by rw [h1];exact hJ,done.length+1,?_⟩)))⟩
   rw [h2,← hd,List.take_append,List.take_of_length_le (by omega)]
   simp
theorem putFs_congr (x:List UInt8):∀ (l:List Fl) (M M':Fs),(M x=M' x∨∃ f∈l,f.1=x)→putFs M l x=putFs M' l x
 | [],M,M',h=>by
  rcases h with h | ⟨f,hf,_⟩
  ·exact h
  ·cases hf
 | f :: r,M,M',h=>by
  show putFs (putP M f) r x=putFs (putP M' f) r x
  refine putFs_congr x r _ _ ?_
  rcases h with h | ⟨g,hg,e⟩
  ·refine Or.inl ?_
   show putF M f.1 f.2 x=putF M' f.1 f.2 x
   unfold putF
   rw [h]
  ·rcases List.mem_cons.1 hg with rfl | hg
   ·refine Or.inl ?_
    show putF M g.1 g.2 x=putF M' g.1 g.2 x
    unfold putF
    rw [if_pos e.symm,if_pos e.symm]
   ·exact Or.inr ⟨g,hg,e⟩
theorem jou_all {D:Fs} (h:Jou F J fs D) (hj:∀ f∈fs,f.1≠kJournal):NxtJ F J fs (putFs D fs):=by
 refine ⟨by rw [putFs_other fs _ _ hj];exact h.1,fun x hx=>putFs_congr x fs D F ?_⟩
 by_cases hn:∃ f∈fs,f.1=x
 ·exact Or.inr hn
 ·exact Or.inl (h.2 x hx (fun f hf e=>hn ⟨f,hf,e⟩))
theorem syRun (A:AD) (hg:Good F J fs A.D A.p) (hN:A.N=A.p.foldl doF A.D) :
 ((aDo sOp A).1=0∧(aDo sOp A).2.D=A.N∧(aDo sOp A).2.N=A.N∧(aDo sOp A).2.p=[]∧(aDo sOp A).2.lf.down=false)∨(Fail (aDo sOp A)∧GoodA F J fs (aDo sOp A).2):=by
 rcases aDo_cases sOp A with ⟨h0,hdn,_,_,hk⟩ | ⟨hf,hD,hNN,hp⟩
 ·obtain ⟨e1,e2,e3⟩:=hk rfl
  exact Or.inl ⟨h0,by rw [e1,hN],e2,e3,hdn⟩
 ·exact Or.inr ⟨hf,good_fail hf hg hN hD hNN hp (fun h=>by cases h)⟩
theorem endRun (A:AD) (M:Fs) (hD:A.D=A.N) (hp:A.p=[]) (hg:Good F J fs A.D [rOp kJournal]) (hg0:Good F J fs A.D []) (hM:delF A.D kJournal=M) :
 ((aRun ([rOp kJournal]++[sOp]) A).1=0∧(aRun ([rOp kJournal]++[sOp]) A).2.D=M∧(aRun ([rOp kJournal]++[sOp]) A).2.N=M∧(aRun ([rOp kJournal]++[sOp]) A).2.p=[]∧(aRun ([rOp kJournal]++[sOp]) A).2.lf.down=false)∨(Fail (aRun ([rOp kJournal]++[sOp]) A)∧GoodA F J fs (aRun ([rOp kJournal]++[sOp]) A).2):=by
 have hN:A.N=A.p.foldl doF A.D:=by rw [hp,← hD];rfl
 show (aRun [rOp kJournal,sOp] A).1=0∧_∨_
 rw [show [rOp kJournal]++[sOp]=[rOp kJournal,sOp] from rfl,aRun]
 rcases aDo_cases (rOp kJournal) A with ⟨h0,hdn,_,hk,_⟩ | ⟨hf,hD',hNN,hp'⟩
 ·rw [if_pos h0]
  obtain ⟨e1,e2,e3⟩:=hk rfl
  rw [aRun]
  have hA:Good F J fs (aDo (rOp kJournal) A).2.D (aDo (rOp kJournal) A).2.p:=by rw [e1,e3,hp];exact hg
  have hN':(aDo (rOp kJournal) A).2.N=(aDo (rOp kJournal) A).2.p.foldl doF (aDo (rOp kJournal) A).2.D:=by rw [e1,e2,e3,hp,← hD];rfl
  rcases syRun (aDo (rOp kJournal) A).2 hA hN' with ⟨g0,g1,g2,g3,g4⟩ | ⟨gf,gg⟩
  ·rw [if_pos g0]
   have hm:(aDo (rOp kJournal) A).2.N=M:=by rw [e2,← hD];exact hM
   exact Or.inl ⟨rfl,by rw [aRun,g1,hm],by rw [aRun,g2,hm],by rw [aRun,g3],by rw [aRun,g4]⟩
  ·rw [if_neg gf.ne]
   exact Or.inr ⟨gf,gg⟩
 ·rw [if_neg hf.ne]
  exact Or.inr ⟨hf,good_fail hf (by rw [hp];exact hg0) hN hD' hNN hp' (fun h=>by cases h)⟩
end
section
variable {F:Fs} {J:List UInt8} {fs:List Fl}
def Ends (F:Fs) (J:List UInt8) (fs:List Fl) (R:Nat×AD) (Q:Fs→Prop):Prop:=
 (R.1=0∧R.2.D=R.2.N∧R.2.p=[]∧R.2.lf.down=false∧Q R.2.D)∨(Fail R∧GoodA F J fs R.2)
theorem settle_jou (A:AD) (hD:A.D=A.N) (hp:A.p=[]) (hdn:A.lf.down=false) (hJ:Jou F J fs A.D) (hF:F kJournal=none) (hj:∀ f∈fs,f.1≠kJournal):Ends F J fs (aRun (settleOps kJournal fs) A) (Nxt F fs):=by
 unfold settleOps
 rw [aRun_app]
 rcases wrRun A.D hJ fs [] A rfl rfl hp (by rw [← hD];rfl) hdn with ⟨h0,h1,h2,h3,h4⟩ | ⟨hf,hg⟩
 ·rw [if_pos h0]
  generalize (aRun (fs.map wOp) A).2=A1 at *
  have hN1:A1.N=A1.p.foldl doF A1.D:=by rw [h3,h2,h1,doF_map]
  have hg1:Good F J fs A1.D A1.p:=Or.inr (Or.inr (Or.inl ⟨by rw [h1];exact hJ,fs.length,by rw [h2,List.take_length]⟩))
  show Ends F J fs (aRun (sOp :: ([rOp kJournal]++[sOp])) A1) _
  rw [aRun]
  rcases syRun A1 hg1 hN1 with ⟨g0,g1,g2,g3,g4⟩ | ⟨gf,gg⟩
  ·rw [if_pos g0]
   generalize (aDo sOp A1).2=A2 at *
   have hnj:NxtJ F J fs A2.D:=by rw [g1,h3];exact jou_all hJ hj
   rcases endRun A2 (delF A2.D kJournal) (g1.trans g2.symm) g3 (Or.inr (Or.inr (Or.inr (Or.inl ⟨hnj,rfl⟩)))) (Or.inr (Or.inr (Or.inl ⟨hnj.jou,0,rfl⟩))) rfl with ⟨e0,e1,e2,e3,e4⟩ | he
   ·refine Or.inl ⟨e0,e1.trans e2.symm,e3,e4,fun x=>?_⟩
    rw [e1]
    unfold delF
    by_cases hx:x=kJournal
    ·rw [if_pos hx,hx,putFs_other fs _ _ hj,hF]
    ·rw [if_neg hx];exact hnj.2 x hx
   ·exact Or.inr he
  ·rw [if_neg gf.ne]
   exact Or.inr ⟨gf,gg⟩
 ·rw [if_neg hf.ne]
  exact Or.inr ⟨hf,hg⟩
theorem settle_torn (A:AD) (hD:A.D=A.N) (hp:A.p=[]) (hT:T0 F J A.D) (hF:F kJournal=none):Ends F J fs (aRun (settleOps kJournal []) A) (Was F):=by
 show Ends F J fs (aRun (sOp :: ([rOp kJournal]++[sOp])) A) _
 rw [aRun]
 have hg:Good F J fs A.D A.p:=Or.inr (Or.inl ⟨hT,Or.inl hp⟩)
 rcases syRun A hg (by rw [hp,← hD];rfl) with ⟨g0,g1,g2,g3,g4⟩ | ⟨gf,gg⟩
 ·rw [if_pos g0]
  generalize (aDo sOp A).2=A2 at *
  have hT2:T0 F J A2.D:=by rw [g1,← hD];exact hT
  rcases endRun A2 (delF A2.D kJournal) (g1.trans g2.symm) g3 (Or.inr (Or.inl ⟨hT2,Or.inr rfl⟩)) (Or.inr (Or.inl ⟨hT2,Or.inl rfl⟩)) rfl with ⟨e0,e1,e2,e3,e4⟩ | he
  ·refine Or.inl ⟨e0,e1.trans e2.symm,e3,e4,fun x=>?_⟩
   rw [e1]
   unfold delF
   by_cases hx:x=kJournal
   ·rw [if_pos hx,hx,hF]
   ·rw [if_neg hx];exact hT2.1 x hx
  ·exact Or.inr he
 ·rw [if_neg gf.ne]
  exact Or.inr ⟨gf,gg⟩
theorem leave_run (lf:Lf) (hF:F kJournal=none) (hj:∀ f∈fs,f.1≠kJournal):Ends F J fs (aRun (leaveOps J fs) ⟨F,F,[],lf⟩) (Nxt F fs):=by
 show Ends F J fs (aRun (wOp (kJournal,J) :: (sOp :: settleOps kJournal fs)) ⟨F,F,[],lf⟩) _
 rw [aRun]
 have hw:Good F J fs F [wOp (kJournal,J)]:=Or.inl ⟨fun _=>rfl,Or.inr rfl⟩
 rcases aDo_cases (wOp (kJournal,J)) ⟨F,F,[],lf⟩ with ⟨h0,hdn,hk,_,_⟩ | ⟨hf,hD',hNN,hp'⟩
 ·rw [if_pos h0]
  obtain ⟨e1,e2,e3⟩:=hk rfl
  generalize (aDo (wOp (kJournal,J)) ⟨F,F,[],lf⟩).2=A1 at *
  rw [aRun]
  have e1':A1.D=F:=e1
  have e2':A1.N=putF F kJournal J:=e2
  have e3':A1.p=[wOp (kJournal,J)]:=e3
  rcases syRun A1 (F:=F) (J:=J) (fs:=fs) (by rw [e1',e3'];exact hw) (by rw [e1',e2',e3'];rfl) with ⟨g0,g1,g2,g3,g4⟩ | ⟨gf,gg⟩
  ·rw [if_pos g0]
   generalize (aDo sOp A1).2=A2 at *
   refine settle_jou A2 (g1.trans g2.symm) g3 g4 ?_ hF hj
   rw [g1,e2']
   exact ⟨by unfold putF;rw [if_pos rfl],fun x hx _=>by unfold putF;rw [if_neg hx]⟩
  ·rw [if_neg gf.ne]
   exact Or.inr ⟨gf,gg⟩
 ·rw [if_neg hf.ne]
  exact Or.inr ⟨hf,good_fail hf (Or.inl ⟨fun _=>rfl,Or.inl rfl⟩) rfl hD' hNN hp' (fun _=>hw)⟩
def OwnOf (F:Fs) (J:List UInt8) (fs:List Fl) (M:Fs) (own:Option (List Fl)):Prop:=
 (own=none∧(Was F M∨Nxt F fs M))∨(own=some []∧T0 F J M)∨(own=some fs∧Jou F J fs M)
theorem own_of {M:Fs} (h:Good F J fs M []):∃ own,OwnOf F J fs M own:=by
 rcases h with ⟨h,_⟩ | ⟨h,_⟩ | ⟨h,_⟩ | ⟨h,hp⟩ | ⟨h,_⟩
 ·exact ⟨none,Or.inl ⟨rfl,Or.inl h⟩⟩
 ·exact ⟨some [],Or.inr (Or.inl ⟨rfl,h⟩)⟩
 ·exact ⟨some fs,Or.inr (Or.inr ⟨rfl,h⟩)⟩
 ·cases hp
 ·exact ⟨none,Or.inl ⟨rfl,Or.inr h⟩⟩
theorem good_now {D:Fs} {p:List Dop} (h:Good F J fs D p) (hF:F kJournal=none) (hj:∀ f∈fs,f.1≠kJournal):Good F J fs (p.foldl doF D) []:=good_crash h hF hj (crash_all p D)
theorem rec_run (A:AD) (own:Option (List Fl)) (h:Good F J fs A.D A.p) (hN:A.N=A.p.foldl doF A.D) (ho:OwnOf F J fs A.N own) (hF:F kJournal=none) (hj:∀ f∈fs,f.1≠kJournal):Ends F J fs (aRun (recOps own) A) (fun M=>Was F M∨Nxt F fs M):=by
 unfold recOps
 rw [aRun]
 rcases syRun A h hN with ⟨g0,g1,g2,g3,g4⟩ | ⟨gf,gg⟩
 ·rw [if_pos g0]
  generalize (aDo sOp A).2=A2 at *
  rw [← g1] at ho
  rcases ho with ⟨rfl,ho⟩ | ⟨rfl,ho⟩ | ⟨rfl,ho⟩
  ·exact Or.inl ⟨rfl,g1.trans g2.symm,g3,g4,ho⟩
  ·rcases settle_torn (fs:=fs) A2 (g1.trans g2.symm) g3 ho hF with ⟨a,b,c,d,e⟩ | hf
   ·exact Or.inl ⟨a,b,c,d,Or.inl e⟩
   ·exact Or.inr hf
  ·rcases settle_jou A2 (g1.trans g2.symm) g3 g4 ho hF hj with ⟨a,b,c,d,e⟩ | hf
   ·exact Or.inl ⟨a,b,c,d,Or.inr e⟩
   ·exact Or.inr hf
 ·rw [if_neg gf.ne]
  exact Or.inr ⟨gf,gg⟩
end
end Go.Proofs.YtenahlandohgaaaGreatDoor
