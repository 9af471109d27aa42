import Derived.Test.YthkibedbcbgajaaGreatDoorZGBoxR
namespace Go.Proofs.YthkibedbcbgajaaGreatDoor
set_option linter.unusedVariables false
set_option linter.unusedSimpArgs false
set_option maxRecDepth 100000
set_option maxHeartbeats 4000000
section
def Was (F M:Fs):Prop:=∀ x,M x=F x
def T0 (F:Fs) (J:L8) (M:Fs):Prop:=(∀ x,x≠kJ→M x=F x)∧∃ k,k < J.length∧M kJ=some (J.take k)
def Jou (F:Fs) (J:L8) (fs:List Fl) (M:Fs):Prop:=M kJ=some J∧∀ x,x≠kJ→(∀ f∈fs,f.1≠x)→M x=F x
def Nxt (F:Fs) (fs:List Fl) (M:Fs):Prop:=∀ x,M x=Qbo F fs x
def QxB (F:Fs) (J:L8) (fs:List Fl) (M:Fs):Prop:=M kJ=some J∧∀ x,x≠kJ→M x=Qbo F fs x
def QhY (F:Fs) (J:L8) (fs:List Fl) (D:Fs) (p:List Dop):Prop:=
 (Was F D∧(p=[]∨p=[wOp (kJ,J)]))∨(T0 F J D∧(p=[]∨p=[rOp kJ]))∨(Jou F J fs D∧∃ k,p=(fs.take k).map wOp)∨(QxB F J fs D∧p=[rOp kJ])∨(Nxt F fs D∧p=[])
variable {F:Fs} {J:L8} {fs:List Fl}
theorem QxB.jou{M:Fs}(h:QxB F J fs M):Jou F J fs M:=⟨h.1,fun x hx hn=>by rw[h.2 x hx,Qcw fs _ _ hn]⟩
theorem QtE{M:Fs}{f:Fl}{s:L8}(h:Jou F J fs M)(hf:f∈fs)(hj:∀ f∈fs,f.1≠kJ):Jou F J fs (Qfp M f.1 s):=by
 refine⟨?_,fun x hx hn=>?_⟩
 ·unfold Qfp;rw[if_neg (fun e=>hj f hf e.symm)];exact h.1
 ·unfold Qfp;rw[if_neg (fun e=>hn f hf e.symm)];exact h.2 x hx hn
theorem QiE:∀(p:List Dop) (D D':Fs),Jou F J fs D->(∀ f∈fs,f.1≠kJ)->(∀ o∈p,∃ f∈fs,o=wOp f)->CrashOf D p D'->Jou F J fs D'
 | [],D,D',h,_,_,hc=>by rw[show D'=D from hc];exact h
 |o::r,D,D',h,hj,hp,hc=>by
  rcases hc with hc | ⟨o',ho,hc⟩
  ·exact QiE r D D' h hj (fun o ho=>hp o (List.mem_cons_of_mem _ ho)) hc
  ·obtain⟨f,hf,rfl⟩:=hp o (List.mem_cons_self);refine QiE r _ D' ?_ hj (fun o ho=>hp o (List.mem_cons_of_mem _ ho)) hc;rcases ho with rfl | ⟨_,k,rfl⟩
   ·exact QtE h hf hj
   ·exact QtE h hf hj
theorem Qvy{p:List Dop}(h:∃ k,p=(fs.take k).map wOp):∀ o∈p,∃ f∈fs,o=wOp f:=fun o ho=>by
 obtain⟨k,rfl⟩:=h;obtain⟨f,hf,rfl⟩:=List.mem_map.1 ho;exact⟨f,List.mem_of_mem_take hf,rfl⟩
theorem QjZ{D D':Fs}{p:List Dop}(h:QhY F J fs D p)(hF:F kJ=none)(hj:∀ f∈fs,f.1≠kJ)(hc:CrashOf D p D'):QhY F J fs D' []:=by
 rcases h with⟨h,rfl|rfl⟩ | ⟨h,rfl|rfl⟩ | ⟨h,hp⟩ | ⟨h,rfl⟩ | ⟨h,rfl⟩
 ·rw[show D'=D from hc];exact Or.inl ⟨h,Or.inl rfl⟩
 ·rcases hc with hc | ⟨o',ho,hc⟩
  ·rw[show D'=D from hc];exact Or.inl ⟨h,Or.inl rfl⟩
  ·have hb:∀ k,D'=Qfp D kJ (J.take k)->QhY F J fs D' []:=fun k e=>by
    have hx:∀ x,x≠kJ->D' x=F x:=fun x hx=>by
     rw[e];unfold Qfp;rw[if_neg hx];exact h x
    have hk:D' kJ=some (J.take k):=by rw[e];unfold Qfp;rw[if_pos rfl]
    by_cases hl:k<J.length
    ·exact Or.inr (Or.inl ⟨⟨hx,k,hl,hk⟩,Or.inl rfl⟩)
    ·refine Or.inr (Or.inr (Or.inl ⟨⟨?_,fun x hx' _=>hx x hx'⟩,0,rfl⟩));rw[hk,List.take_of_length_le (by omega)]
   rcases ho with rfl | ⟨_,k,rfl⟩
   ·exact hb J.length (by rw[List.take_length];exact hc)
   ·exact hb k hc
 ·rw[show D'=D from hc];exact Or.inr (Or.inl ⟨h,Or.inl rfl⟩)
 ·rcases hc with hc | ⟨o',ho,hc⟩
  ·rw[show D'=D from hc];exact Or.inr (Or.inl ⟨h,Or.inl rfl⟩)
  ·rcases ho with rfl | ⟨hk,_⟩
   ·refine Or.inl ⟨fun x=>?_,Or.inl rfl⟩;rw[show D'=Qj2 D kJ from hc];unfold Qj2;by_cases hx:x=kJ
    ·rw[if_pos hx,hx,hF]
    ·rw[if_neg hx];exact h.1 x hx
   ·cases hk
 ·exact Or.inr (Or.inr (Or.inl ⟨QiE p D D' h hj (Qvy hp) hc,0,rfl⟩))
 ·rcases hc with hc | ⟨o',ho,hc⟩
  ·rw[show D'=D from hc];exact Or.inr (Or.inr (Or.inl ⟨h.jou,0,rfl⟩))
  ·rcases ho with rfl | ⟨hk,_⟩
   ·refine Or.inr (Or.inr (Or.inr (Or.inr ⟨fun x=>?_,rfl⟩)));rw[show D'=Qj2 D kJ from hc];unfold Qj2;by_cases hx:x=kJ
    ·rw[if_pos hx,hx,Qcw fs _ _ hj,hF]
    ·rw[if_neg hx];exact h.2 x hx
   ·cases hk
 ·rw[show D'=D from hc];exact Or.inr (Or.inr (Or.inr (Or.inr ⟨h,rfl⟩)))
theorem QmV:∀(p:List Dop) (D:Fs),CrashOf D p (p.foldl doF D)
 | [],D=>rfl
 |o::r,D=>Or.inr ⟨o,Or.inl rfl,QmV r (doF D o)⟩
theorem Qua(l:List Fl)(D:Fs):(l.map wOp).foldl doF D=Qbo D l:=by
 unfold Qbo;rw[List.foldl_map];rfl
def Qub (F:Fs) (J:L8) (fs:List Fl) (A:AD):Prop:=QhY F J fs A.D A.p∧(A.lf.down=false→A.N=A.p.foldl doF A.D)
def Qvd (R:Nat×AD):Prop:=(R.1=15∧R.2.lf.down=false)∨(R.1=16∧R.2.lf.down=true)
theorem Qvd.ne{R:Nat×AD}(h:Qvd R):R.1≠0:=by rcases h with⟨h,_⟩ | ⟨h,_⟩<;>omega
theorem aDo_cases(o:Dop)(A:AD):((aDo o A).1=0/\(aDo o A).2.lf.down=false/\(o.kind=1->(aDo o A).2.D=A.D/\(aDo o A).2.N=Qfp A.N o.name o.data/\(aDo o A).2.p=A.p++[o])/\(o.kind=3->(aDo o A).2.D=A.D/\(aDo o A).2.N=Qj2 A.N o.name/\(aDo o A).2.p=A.p++[o])/\(o.kind=0->(aDo o A).2.D=A.p.foldl doF A.D/\(aDo o A).2.N=A.N/\(aDo o A).2.p=[]))\/
 (Qvd (aDo o A)/\(aDo o A).2.D=A.D/\(aDo o A).2.N=A.N/\((aDo o A).2.p=A.p\/(o.kind=1/\(aDo o A).2.lf.down=true/\(aDo o A).2.p=A.p++[o]))):=by
 have hw:((aWr A.lf).1=0/\(aWr A.lf).2.down=false)\/((aWr A.lf).1=15/\(aWr A.lf).2.down=false)\/((aWr A.lf).1=16/\(aWr A.lf).2.down=true):=by
  unfold aWr;split
  ·exact Or.inr (Or.inr ⟨rfl,rfl⟩)
  ·split
   ·exact Or.inr (Or.inl ⟨rfl,rfl⟩)
   ·exact Or.inl ⟨rfl,rfl⟩
 unfold aDo Qvd;rcases hw with⟨h,hd⟩ | ⟨h,hd⟩ | ⟨h,hd⟩
 ·refine Or.inl ?_;rw[if_pos h];by_cases h1:o.kind=1
  ·rw[if_pos h1];exact⟨rfl,hd,fun _=>⟨rfl,rfl,rfl⟩,fun h3=>by omega,fun h3=>by omega⟩
  ·rw[if_neg h1];by_cases h3:o.kind=3
   ·rw[if_pos h3];exact⟨rfl,hd,fun h=>absurd h h1,fun _=>⟨rfl,rfl,rfl⟩,fun h=>by omega⟩
   ·rw[if_neg h3];exact⟨rfl,hd,fun h=>absurd h h1,fun h=>absurd h h3,fun _=>⟨rfl,rfl,rfl⟩⟩
 ·refine Or.inr ?_;rw[if_neg (by omega),if_neg (by omega)];exact⟨Or.inl ⟨h,hd⟩,rfl,rfl,Or.inl rfl⟩
 ·refine Or.inr ?_;rw[if_neg (by omega)];by_cases h1:o.kind=1
  ·rw[if_pos ⟨h1,h⟩];exact⟨Or.inr ⟨rfl,hd⟩,rfl,rfl,Or.inr ⟨h1,hd,rfl⟩⟩
  ·rw[if_neg (fun hh=>h1 hh.1)];exact⟨Or.inr ⟨h,hd⟩,rfl,rfl,Or.inl rfl⟩
theorem Qgm{o:Dop}{A:AD}(h:Qvd (aDo o A))(hg:QhY F J fs A.D A.p)(hN:A.N=A.p.foldl doF A.D)(hD:(aDo o A).2.D=A.D)(aa:(aDo o A).2.N=A.N)(hp:(aDo o A).2.p=A.p\/(o.kind=1/\(aDo o A).2.lf.down=true/\(aDo o A).2.p=A.p++[o]))(hw:o.kind=1->QhY F J fs A.D (A.p++[o])):Qub F J fs (aDo o A).2:=by
 rcases hp with hp | ⟨h1,hd,hp⟩
 ·exact⟨by rw[hD,hp];exact hg,fun _=>by rw[aa,hp,hD];exact hN⟩
 ·exact⟨by rw[hD,hp];exact hw h1,fun hf=>by rw[hd]at hf;cases hf⟩
theorem wrRun(D:Fs)(hJ:Jou F J fs D):∀(r done:List Fl) (A:AD),done++r=fs->A.D=D->A.p=done.map wOp->A.N=Qbo D done->A.lf.down=false->
 ((Qa1 (r.map wOp) A).1=0/\(Qa1 (r.map wOp) A).2.D=D/\(Qa1 (r.map wOp) A).2.p=fs.map wOp/\(Qa1 (r.map wOp) A).2.N=Qbo D fs/\(Qa1 (r.map wOp) A).2.lf.down=false)\/(Qvd (Qa1 (r.map wOp) A)/\Qub F J fs (Qa1 (r.map wOp) A).2)
 | [],done,A,hd,h1,h2,h3,h4=>by
  rw[List.append_nil]at hd;subst hd;exact Or.inl ⟨rfl,h1,h2,h3,h4⟩
 |f::r,done,A,hd,h1,h2,h3,h4=>by
  rw[List.map_cons,Qa1];have hg:QhY F J fs A.D A.p:=Or.inr (Or.inr (Or.inl ⟨by rw[h1];exact hJ,done.length,by rw[h2,<-hd,List.take_left]⟩));rcases aDo_cases (wOp f) A with⟨h0,aa,hk,_,_⟩ | ⟨hf,hD,ab,hp⟩
  ·rw[if_pos h0];obtain⟨e1,e2,e3⟩:=hk rfl;refine wrRun D hJ r (done++[f]) _ (by rw[List.append_assoc];exact hd) (e1.trans h1) ?_ ?_ aa
   ·rw[e3,h2,List.map_append];rfl
   ·rw[e2,h3];unfold Qbo;rw[List.foldl_append];rfl
  ·rw[if_neg hf.ne];refine Or.inr ⟨hf,Qgm hf hg (by rw[h3,h2,h1,Qua]) hD ab hp (fun _=>Or.inr (Or.inr (Or.inl ⟨by rw[h1];exact hJ,done.length+1,?_⟩)))⟩;rw[h2,<-hd,List.take_append,List.take_of_length_le (by omega)];simp
theorem Qje(x:L8):∀(l:List Fl) (M M':Fs),(M x=M' x\/∃ f∈l,f.1=x)->Qbo M l x=Qbo M' l x
 | [],M,M',h=>by
  rcases h with h | ⟨f,hf,_⟩
  ·exact h
  ·cases hf
 |f::r,M,M',h=>by
  show Qbo (Que M f) r x=Qbo (Que M' f) r x
  refine Qje x r _ _ ?_;rcases h with h | ⟨g,hg,e⟩
  ·refine Or.inl ?_;show Qfp M f.1 f.2 x=Qfp M' f.1 f.2 x
   unfold Qfp;rw[h]
  ·rcases List.mem_cons.1 hg with rfl|hg
   ·refine Or.inl ?_;show Qfp M g.1 g.2 x=Qfp M' g.1 g.2 x
    unfold Qfp;rw[if_pos e.symm,if_pos e.symm]
   ·exact Or.inr ⟨g,hg,e⟩
theorem QwA{D:Fs}(h:Jou F J fs D)(hj:∀ f∈fs,f.1≠kJ):QxB F J fs (Qbo D fs):=by
 refine⟨by rw[Qcw fs _ _ hj];exact h.1,fun x hx=>Qje x fs D F ?_⟩;by_cases hn:∃ f∈fs,f.1=x
 ·exact Or.inr hn
 ·exact Or.inl (h.2 x hx (fun f hf e=>hn ⟨f,hf,e⟩))
theorem syRun(A:AD)(hg:QhY F J fs A.D A.p)(hN:A.N=A.p.foldl doF A.D) :
 ((aDo sOp A).1=0/\(aDo sOp A).2.D=A.N/\(aDo sOp A).2.N=A.N/\(aDo sOp A).2.p=[]/\(aDo sOp A).2.lf.down=false)\/(Qvd (aDo sOp A)/\Qub F J fs (aDo sOp A).2):=by
 rcases aDo_cases sOp A with⟨h0,aa,_,_,hk⟩ | ⟨hf,hD,ab,hp⟩
 ·obtain⟨e1,e2,e3⟩:=hk rfl;exact Or.inl ⟨h0,by rw[e1,hN],e2,e3,aa⟩
 ·exact Or.inr ⟨hf,Qgm hf hg hN hD ab hp (fun h=>by cases h)⟩
theorem endRun(A:AD)(M:Fs)(hD:A.D=A.N)(hp:A.p=[])(hg:QhY F J fs A.D [rOp kJ])(ab:QhY F J fs A.D [])(hM:Qj2 A.D kJ=M) :
 ((Qa1 ([rOp kJ]++[sOp]) A).1=0/\(Qa1 ([rOp kJ]++[sOp]) A).2.D=M/\(Qa1 ([rOp kJ]++[sOp]) A).2.N=M/\(Qa1 ([rOp kJ]++[sOp]) A).2.p=[]/\(Qa1 ([rOp kJ]++[sOp]) A).2.lf.down=false)\/(Qvd (Qa1 ([rOp kJ]++[sOp]) A)/\Qub F J fs (Qa1 ([rOp kJ]++[sOp]) A).2):=by
 have hN:A.N=A.p.foldl doF A.D:=by rw[hp,<-hD];rfl
 show(Qa1 [rOp kJ,sOp] A).1=0/\_\/_
 rw[show [rOp kJ]++[sOp]=[rOp kJ,sOp]from rfl,Qa1];rcases aDo_cases (rOp kJ) A with⟨h0,hdn,_,hk,_⟩ | ⟨hf,aa,ae,ad⟩
 ·rw[if_pos h0];obtain⟨e1,e2,e3⟩:=hk rfl;rw[Qa1];have hA:QhY F J fs (aDo (rOp kJ) A).2.D (aDo (rOp kJ) A).2.p:=by rw[e1,e3,hp];exact hg
  have ac:(aDo (rOp kJ) A).2.N=(aDo (rOp kJ) A).2.p.foldl doF (aDo (rOp kJ) A).2.D:=by rw[e1,e2,e3,hp,<-hD];rfl
  rcases syRun (aDo (rOp kJ) A).2 hA ac with⟨g0,g1,g2,g3,g4⟩ | ⟨gf,gg⟩
  ·rw[if_pos g0];have hm:(aDo (rOp kJ) A).2.N=M:=by rw[e2,<-hD];exact hM
   exact Or.inl ⟨rfl,by rw[Qa1,g1,hm],by rw[Qa1,g2,hm],by rw[Qa1,g3],by rw[Qa1,g4]⟩
  ·rw[if_neg gf.ne];exact Or.inr ⟨gf,gg⟩
 ·rw[if_neg hf.ne];exact Or.inr ⟨hf,Qgm hf (by rw[hp];exact ab) hN aa ae ad (fun h=>by cases h)⟩
end
section
variable {F:Fs} {J:L8} {fs:List Fl}
def Qr9 (F:Fs) (J:L8) (fs:List Fl) (R:Nat×AD) (Q:Fs→Prop):Prop:=
 (R.1=0∧R.2.D=R.2.N∧R.2.p=[]∧R.2.lf.down=false∧Q R.2.D)∨(Qvd R∧Qub F J fs R.2)
theorem settle_jou(A:AD)(hD:A.D=A.N)(hp:A.p=[])(ac:A.lf.down=false)(hJ:Jou F J fs A.D)(hF:F kJ=none)(hj:∀ f∈fs,f.1≠kJ):Qr9 F J fs (Qa1 (Qa8 kJ fs) A) (Nxt F fs):=by
 unfold Qa8;rw[Qd4];rcases wrRun A.D hJ fs [] A rfl rfl hp (by rw[<-hD];rfl) ac with⟨h0,h1,h2,h3,h4⟩ | ⟨hf,hg⟩
 ·rw[if_pos h0];generalize (Qa1 (fs.map wOp) A).2=A1 at *;have ab:A1.N=A1.p.foldl doF A1.D:=by rw[h3,h2,h1,Qua]
  have ad:QhY F J fs A1.D A1.p:=Or.inr (Or.inr (Or.inl ⟨by rw[h1];exact hJ,fs.length,by rw[h2,List.take_length]⟩));show Qr9 F J fs (Qa1 (sOp::([rOp kJ]++[sOp])) A1) _
  rw[Qa1];rcases syRun A1 ad ab with⟨g0,g1,g2,g3,g4⟩ | ⟨gf,gg⟩
  ·rw[if_pos g0];generalize (aDo sOp A1).2=A2 at *;have aa:QxB F J fs A2.D:=by rw[g1,h3];exact QwA hJ hj
   rcases endRun A2 (Qj2 A2.D kJ) (g1.trans g2.symm) g3 (Or.inr (Or.inr (Or.inr (Or.inl ⟨aa,rfl⟩)))) (Or.inr (Or.inr (Or.inl ⟨aa.jou,0,rfl⟩))) rfl with⟨e0,e1,e2,e3,e4⟩|he
   ·refine Or.inl ⟨e0,e1.trans e2.symm,e3,e4,fun x=>?_⟩;rw[e1];unfold Qj2;by_cases hx:x=kJ
    ·rw[if_pos hx,hx,Qcw fs _ _ hj,hF]
    ·rw[if_neg hx];exact aa.2 x hx
   ·exact Or.inr he
  ·rw[if_neg gf.ne];exact Or.inr ⟨gf,gg⟩
 ·rw[if_neg hf.ne];exact Or.inr ⟨hf,hg⟩
theorem settle_torn(A:AD)(hD:A.D=A.N)(hp:A.p=[])(hT:T0 F J A.D)(hF:F kJ=none):Qr9 F J fs (Qa1 (Qa8 kJ []) A) (Was F):=by
 show Qr9 F J fs (Qa1 (sOp::([rOp kJ]++[sOp])) A) _
 rw[Qa1];have hg:QhY F J fs A.D A.p:=Or.inr (Or.inl ⟨hT,Or.inl hp⟩);rcases syRun A hg (by rw[hp,<-hD];rfl)with⟨g0,g1,g2,g3,g4⟩ | ⟨gf,gg⟩
 ·rw[if_pos g0];generalize (aDo sOp A).2=A2 at *;have aa:T0 F J A2.D:=by rw[g1,<-hD];exact hT
  rcases endRun A2 (Qj2 A2.D kJ) (g1.trans g2.symm) g3 (Or.inr (Or.inl ⟨aa,Or.inr rfl⟩)) (Or.inr (Or.inl ⟨aa,Or.inl rfl⟩)) rfl with⟨e0,e1,e2,e3,e4⟩|he
  ·refine Or.inl ⟨e0,e1.trans e2.symm,e3,e4,fun x=>?_⟩;rw[e1];unfold Qj2;by_cases hx:x=kJ
   ·rw[if_pos hx,hx,hF]
   ·rw[if_neg hx];exact aa.1 x hx
  ·exact Or.inr he
 ·rw[if_neg gf.ne];exact Or.inr ⟨gf,gg⟩
theorem Qns(lf:Lf)(hF:F kJ=none)(hj:∀ f∈fs,f.1≠kJ):Qr9 F J fs (Qa1 (Qbg J fs) ⟨F,F,[],lf⟩) (Nxt F fs):=by
 show Qr9 F J fs (Qa1 (wOp (kJ,J)::(sOp::Qa8 kJ fs)) ⟨F,F,[],lf⟩) _
 rw[Qa1];have hw:QhY F J fs F [wOp (kJ,J)]:=Or.inl ⟨fun _=>rfl,Or.inr rfl⟩;rcases aDo_cases (wOp (kJ,J)) ⟨F,F,[],lf⟩with⟨h0,hdn,hk,_,_⟩ | ⟨hf,ad,af,ae⟩
 ·rw[if_pos h0];obtain⟨e1,e2,e3⟩:=hk rfl;generalize (aDo (wOp (kJ,J)) ⟨F,F,[],lf⟩).2=A1 at *;rw[Qa1];have ab:A1.D=F:=e1;have ac:A1.N=Qfp F kJ J:=e2;have aa:A1.p=[wOp (kJ,J)]:=e3;rcases syRun A1 (F:=F) (J:=J) (fs:=fs) (by rw[ab,aa];exact hw) (by rw[ab,ac,aa];rfl)with⟨g0,g1,g2,g3,g4⟩ | ⟨gf,gg⟩
  ·rw[if_pos g0];generalize (aDo sOp A1).2=A2 at *;refine settle_jou A2 (g1.trans g2.symm) g3 g4 ?_ hF hj;rw[g1,ac];exact⟨by unfold Qfp;rw[if_pos rfl],fun x hx _=>by unfold Qfp;rw[if_neg hx]⟩
  ·rw[if_neg gf.ne];exact Or.inr ⟨gf,gg⟩
 ·rw[if_neg hf.ne];exact Or.inr ⟨hf,Qgm hf (Or.inl ⟨fun _=>rfl,Or.inl rfl⟩) rfl ad af ae (fun _=>hw)⟩
def OwnOf (F:Fs) (J:L8) (fs:List Fl) (M:Fs) (own:Option (List Fl)):Prop:=
 (own=none∧(Was F M∨Nxt F fs M))∨(own=some []∧T0 F J M)∨(own=some fs∧Jou F J fs M)
theorem QxL{M:Fs}(h:QhY F J fs M []):∃ own,OwnOf F J fs M own:=by
 rcases h with⟨h,_⟩ | ⟨h,_⟩ | ⟨h,_⟩ | ⟨h,hp⟩ | ⟨h,_⟩
 ·exact⟨none,Or.inl ⟨rfl,Or.inl h⟩⟩
 ·exact⟨some [],Or.inr (Or.inl ⟨rfl,h⟩)⟩
 ·exact⟨some fs,Or.inr (Or.inr ⟨rfl,h⟩)⟩
 ·cases hp
 ·exact⟨none,Or.inl ⟨rfl,Or.inr h⟩⟩
theorem QpE{D:Fs}{p:List Dop}(h:QhY F J fs D p)(hF:F kJ=none)(hj:∀ f∈fs,f.1≠kJ):QhY F J fs (p.foldl doF D) []:=QjZ h hF hj (QmV p D)
theorem QwK(A:AD)(aa:Option (List Fl))(h:QhY F J fs A.D A.p)(hN:A.N=A.p.foldl doF A.D)(ho:OwnOf F J fs A.N aa)(hF:F kJ=none)(hj:∀ f∈fs,f.1≠kJ):Qr9 F J fs (Qa1 (Qdo aa) A) (fun M=>Was F M\/Nxt F fs M):=by
 unfold Qdo;rw[Qa1];rcases syRun A h hN with⟨g0,g1,g2,g3,g4⟩ | ⟨gf,gg⟩
 ·rw[if_pos g0];generalize (aDo sOp A).2=A2 at *;rw[<-g1]at ho;rcases ho with⟨rfl,ho⟩ | ⟨rfl,ho⟩ | ⟨rfl,ho⟩
  ·exact Or.inl ⟨rfl,g1.trans g2.symm,g3,g4,ho⟩
  ·rcases settle_torn (fs:=fs) A2 (g1.trans g2.symm) g3 ho hF with⟨a,b,c,d,e⟩|hf
   ·exact Or.inl ⟨a,b,c,d,Or.inl e⟩
   ·exact Or.inr hf
  ·rcases settle_jou A2 (g1.trans g2.symm) g3 g4 ho hF hj with⟨a,b,c,d,e⟩|hf
   ·exact Or.inl ⟨a,b,c,d,Or.inr e⟩
   ·exact Or.inr hf
 ·rw[if_neg gf.ne];exact Or.inr ⟨gf,gg⟩
end
end Go.Proofs.YthkibedbcbgajaaGreatDoor
