import Derived.Test.YtgnkjijocdmniaaGreatDoorZPlainLines
namespace Go.Proofs.YtgnkjijocdmniaaGreatDoor
set_option linter.unusedVariables false
set_option linter.unusedSimpArgs false
set_option maxRecDepth 100000
set_option maxHeartbeats 4000000
theorem QgD{α:Type}{sub:PS->Except Flt (α×PS)}:∀(f:Nat) (aa:List α) (s:PS) (cs:List α),cMr sub f aa s=.ok cs->∃ r,cs=aa++r/\(r=[]->0<f->s.1.kind=0)
 |0,aa,s,cs,h=>by cases h;exact⟨[],by simp,fun _ h=>absurd h (Nat.lt_irrefl _)⟩
 |f+1,aa,s,cs,h=>by
  rw[cMr]at h;by_cases hk:s.1.kind=0
  ·rw[if_pos hk]at h;cases h;exact⟨[],by simp,fun _ _=>hk⟩
  ·rw[if_neg hk]at h
   cases hq:sub s with
   |error e=>rw[hq]at h;cases h
   |ok y=>
    rw[hq]at h;obtain⟨r,h1,_⟩:=QgD f _ _ _ h;exact⟨y.1::r,by rw[h1];simp,fun e=>by cases e⟩
theorem Qio{α:Type}{l:L8}{sub:PS->Except Flt (α×PS)}:∀(f:Nat) (aa:List α) (s:PS) (y:List α×PS),bMr l sub f aa s=.ok y->∃ r,y.1=aa++r
 |0,aa,s,y,h=>by cases h;exact⟨[],by simp⟩
 |f+1,aa,s,y,h=>by
  rw[bMr]at h
  cases hm:mayL l [[125]] s with
  |error e=>rw[Qad hm]at h;cases h
  |ok z=>
   rw[Qac hm]at h
   split at h
   ·cases hq:sub z.2 with
    |error e=>rw[Qad hq]at h;cases h
    |ok x=>
     rw[Qac hq]at h;obtain⟨r,h1⟩:=Qio f _ _ _ h;exact⟨x.1::r,by rw[h1];simp⟩
   ·cases h;exact⟨[],by simp⟩
theorem QgH{α β:Type}{l:L8}{F:Nat}{ab:PS->Except Flt (β×PS)}{sub:PS->Except Flt (α×PS)}:∀(f:Nat) (aa:List (β×List α)) (s:PS) (y:List (β×List α)×PS),aMr l F ab sub f aa s=.ok y->∃ r,y.1=aa++r
 |0,aa,s,y,h=>by cases h;exact⟨[],by simp⟩
 |f+1,aa,s,y,h=>by
  rw[aMr]at h
  cases hm:mayL l [QbM] s with
  |error e=>rw[Qad hm]at h;cases h
  |ok z=>
   rw[Qac hm]at h
   split at h
   ·cases h;exact⟨[],by simp⟩
   ·cases hq:armL l F ab sub z.2 with
    |error e=>rw[Qad hq]at h;cases h
    |ok x=>
     rw[Qac hq]at h;obtain⟨r,h1⟩:=QgH f _ _ _ h;exact⟨x.1::r,by rw[h1];simp⟩
theorem Qrn{l:L8}{zs:List (L8)}{s:PS}{y:Nat×PS}(h:mayL l zs s=.ok y)(h0:y.1=0):y.2=s:=by
 unfold mayL at h;by_cases hz:wL zs s.1.spelt=0
 ·rw[if_pos hz]at h;cases h;rfl
 ·rw[if_neg hz]at h
  cases hn:nL l s.2 with
  |error e=>rw[hn]at h;cases h
  |ok z=>rw[hn]at h;cases h;exact absurd h0 hz
theorem QiZ{l:L8}{zs:List (L8)}{s:PS}{y:Nat×PS}(h:mayL l zs s=.ok y)(h0:y.1≠0):¬ wL zs s.1.spelt=0/\nL l s.2=.ok y.2:=by
 unfold mayL at h;by_cases hz:wL zs s.1.spelt=0
 ·rw[if_pos hz]at h;cases h;exact absurd rfl h0
 ·rw[if_neg hz]at h
  cases hn:nL l s.2 with
  |error e=>rw[hn]at h;cases h
  |ok z=>rw[hn]at h;cases h;exact⟨hz,rfl⟩
theorem QdW{l:L8}{req:List (L8)}{F ac:Nat}{s1:PS}{y:(Qgt×List (Qa6 6×List (Qbo 6))×List (Qbo 6))×PS}(hF:0<F)(h:cBd l F (testL l req F 6) (cmdL l req F 6) 7 ac s1=.ok y):y.1.1.kind=7/\y.1.2.1≠[]/\∃ T cs sT s3,testL l req F 6 s1=.ok (T,sT)/\blockL l F (cmdL l req F 6) sT=.ok (cs,s3)/\(y.1.2.1=[(T,cs)]->y.1.1.els=false->y.2=s3)/\∃ r,y.1.2.1=(T,cs)::r:=by
 unfold cBd at h
 cases ht:testL l req F 6 s1 with
 |error e=>
  have ha:armL l F (testL l req F 6) (cmdL l req F 6) s1=.error e:=by unfold armL;rw[Qad ht]
  rw[Qad ha]at h;cases h
 |ok yt=>
  cases hb:blockL l F (cmdL l req F 6) yt.2 with
  |error e=>
   have ha:armL l F (testL l req F 6) (cmdL l req F 6) s1=.error e:=by unfold armL;rw[Qac ht,Qad hb]
   rw[Qad ha]at h;cases h
  |ok yb=>
   have ha:armL l F (testL l req F 6) (cmdL l req F 6) s1=.ok ((yt.1,yb.1),yb.2):=by unfold armL;rw[Qac ht,Qac hb]
   rw[Qac ha]at h
   cases hm:aMr l F (testL l req F 6) (cmdL l req F 6) F [(yt.1,yb.1)] yb.2 with
   |error e=>rw[Qad hm]at h;cases h
   |ok ym=>
    rw[Qac hm]at h;obtain⟨r,hr⟩:=QgH _ _ _ _ hm
    cases he:mayL l [Qch] ym.2 with
    |error e=>rw[Qad he]at h;cases h
    |ok ye=>
     rw[Qac he]at h
     have ab:ym.1=[(yt.1,yb.1)]->ym.2=yb.2:=fun e1=>by
      obtain⟨f,rfl⟩:∃ f,F=f+1:=⟨F - 1,by omega⟩;rw[aMr]at hm
      cases hz:mayL l [QbM] yb.2 with
      |error e=>rw[Qad hz]at hm;cases hm
      |ok z=>
       rw[Qac hz]at hm;by_cases hz0:z.1=0
       ·rw[if_pos hz0]at hm;cases hm;exact Qrn hz hz0
       ·rw[if_neg hz0]at hm
        cases hq:armL l (f+1) (testL l req (f+1) 6) (cmdL l req (f+1) 6) z.2 with
        |error e=>rw[Qad hq]at hm;cases hm
        |ok x=>
         rw[Qac hq]at hm;obtain⟨r2,aa⟩:=QgH _ _ _ _ hm;rw[e1]at aa;have:=congrArg List.length aa;simp at this
     by_cases hz:ye.1=0
     ·rw[if_pos hz]at h;cases h;refine⟨rfl,by show ym.1≠[];rw[hr];simp,yt.1,yb.1,yt.2,yb.2,rfl,hb,fun e1 _=>?_,r,hr⟩;show ye.2=yb.2
      rw[Qrn he hz];exact ab e1
     ·rw[if_neg hz]at h
      cases hc:blockL l F (cmdL l req F 6) ye.2 with
      |error e=>rw[Qad hc]at h;cases h
      |ok yc=>
       rw[Qac hc]at h;cases h;exact⟨rfl,by show ym.1≠[];rw[hr];simp,yt.1,yb.1,yt.2,yb.2,rfl,hb,(fun _ e2=>by cases e2),r,hr⟩
theorem QtJ{l:L8}{req:List (L8)}{F:Nat}{s:PS}{y:Qbo 7×PS}(aa:s.1.spelt=kIf)(h:cmdL l req F 7 s=.ok y):∃ s1,nL l s.2=.ok s1/\cBd l F (testL l req F 6) (cmdL l req F 6) 7 s.1.pos s1=.ok y:=by
 have h':cmdL l req F (6+1) s=.ok y:=h;rw[cmdL,aa,if_neg (by decide)]at h';cases hu:Qb6 req kIf
 ·rw[hu,if_neg (by decide)]at h';cases h'
 ·rw[hu,if_pos rfl]at h'
  cases hn:nL l s.2 with
  |error e=>cases(QaC hn).symm.trans h'
  |ok s1=>exact⟨s1,rfl,(QaE hn).symm.trans h'⟩
theorem Qp0{α:Type}{l:L8}{F:Nat}{sub:PS->Except Flt (α×PS)}{s s3:PS}(hF:0<F)(h:blockL l F sub s=.ok ([],s3)):∃ s2,nL l s.2=.ok s2/\¬ wL [[125]] s2.1.spelt=0/\nL l s2.2=.ok s3:=by
 unfold blockL at h
 cases hp:paL l [[123]] s with
 |error e=>rw[Qad hp]at h;cases h
 |ok y=>
  rw[Qac hp]at h
  have hy:nL l s.2=.ok y.2:=by
   unfold paL at hp;by_cases hz:wL [[123]] s.1.spelt=0
   ·rw[if_pos hz]at hp;cases hp
   ·rw[if_neg hz]at hp
    cases hn:nL l s.2 with
    |error e=>rw[hn]at hp;cases hp
    |ok z=>rw[hn]at hp;cases hp;rfl
  obtain⟨f,rfl⟩:∃ f,F=f+1:=⟨F - 1,by omega⟩;rw[bMr]at h
  cases hm:mayL l [[125]] y.2 with
  |error e=>rw[Qad hm]at h;cases h
  |ok z=>
   rw[Qac hm]at h;by_cases hz:z.1=0
   ·rw[if_pos hz]at h
    cases hq:sub z.2 with
    |error e=>rw[Qad hq]at h;cases h
    |ok x=>
     rw[Qac hq]at h;obtain⟨r,hr⟩:=Qio _ _ _ _ h;have:=congrArg List.length hr;simp at this
   ·rw[if_neg hz]at h;cases h;obtain⟨h1,h2⟩:=QiZ hm hz;exact⟨y.2,hy,h1,h2⟩
def Qfj:L8:=[32,123,125]
def QcG (t:L8):L8:=QaG++(kIf++32 :: (t++10 :: Qfj))
theorem Qj1(t:L8):QcG t=(QaG++(kIf++[32]))++(t++10::Qfj):=by
 unfold QcG;simp
theorem QdJ{l:L8}{p:Nat}{c:UInt8}{r:L8}(h:l.drop p=c::r)(hb:Qa8 c.toNat=true):nL l p=nL l (p+1):=by
 rw[QcN,QcN,h,QbR r p hb,Qc3 h]
theorem out123:QuB [123]/\QlH [123]:=⟨⟨by decide,by decide,by decide,by decide⟩,⟨by decide,by decide,by decide,by decide⟩⟩
theorem Qyo(t:L8)(s:PS)(h:nL (QcG t) ((QaG++(kIf++[32])).length+t.length)=.ok s):s.1.spelt=[123]/\s.1.kind=3:=by
 have hT:Tok (10::32::123::[125]) [125] 3 [123] [] 0:=QbO (by decide) (QbO (by decide) (Qto _));obtain⟨q1,q2,h1,_⟩:=hT (QcG t) ((QaG++(kIf++[32])).length+t.length) (by rw[Qj1,QdG _ _ _ _ (Nat.le_refl _),List.drop_length];rfl);rw[h1]at h;cases h;exact⟨rfl,rfl⟩
theorem Qjb{l u r b1 b2:L8}{a b:Nat}(hc:Cx l a u b r b1 b2){s s':PS}(h:nL l a=.ok s)(h':nL u b=.ok s'):BG l a u b r s s':=by
 have hla:=hc.la;have hl:=Qby l a (by omega) s h;rcases both_next hc.tw (d:=0) (Nat.zero_le _) h with⟨f,h1⟩ | ⟨y,h1,h2⟩
 ·have aa:nL u b=.error f:=h1;rw[aa]at h';cases h'
 ·have aa:nL u b=.ok y:=h1;rw[aa]at h';cases h';exact⟨⟨hl.2.1,hl.2.2.2.1⟩,h2⟩
theorem Qvx{t:L8}{y:List (L8)×List (Qbo 7)}(h:prL (QcG t)=.ok y)(h3:nlN (textL y)=3) :
 ∃(T:Qa6 6) (s1 sT:PS),y.2.map (fun c=>c.2.1)=[[(T,[])]]/\nL (QcG t) (QaG++(kIf++[32])).length=.ok s1/\testL (QcG t) Qb5 (2*(QcG t).length+10) 6 s1=.ok (T,sT)/\nL (QcG t) ((QaG++(kIf++[32])).length+t.length)=.ok sT:=by
 obtain⟨l,hl⟩:∃ l,l=QcG t:=⟨_,rfl⟩;obtain⟨s0,n0,ad⟩:=Qjz (R:=kIf++32::(t++10::Qfj)) h;have e0:QaG++(kIf++32::(t++10::Qfj))=l:=by rw[hl];rfl
 rw[e0]at n0 ad;have hI:Tok (kIf++32::(t++10::Qfj)) (32::(t++10::Qfj)) 1 kIf [] 0:=QdB ⟨by decide,by decide⟩ (QfD _);have ax:l.drop QaG.length=kIf++32::(t++10::Qfj):=by rw[<-e0,List.drop_left]
 obtain⟨q1,q2,i1,i2⟩:=hI l QaG.length ax;rw[i1]at n0;cases n0;obtain⟨aF,ar⟩:=ad (show wL [kRequire] kIf=0 by decide);obtain⟨F,ap⟩:∃ F,F=2*l.length+10:=⟨_,rfl⟩;rw[<-ap]at ar;obtain⟨f,hf⟩:∃ f,F=f+2:=⟨2*l.length+8,by omega⟩;rw[<-hl]at h ⊢;rw[<-ap];have aa:=ar;rw[show cMr (cmdL l Qb5 F 7) F [] (⟨1,q1,kIf,[],0⟩,q2)=cMr (cmdL l Qb5 F 7) (f+1+1) [] (⟨1,q1,kIf,[],0⟩,q2) by rw[hf],cMr,if_neg (show ¬(1:Nat)=0 by decide)]at aa
 cases hq:cmdL l Qb5 F 7 (⟨1,q1,kIf,[],0⟩,q2)with
 |error e=>rw[hq]at aa;cases aa
 |ok yc=>
  rw[hq]at aa;dsimp only at aa;obtain⟨r,aB,aC⟩:=QgD _ _ _ _ aa;obtain⟨s1,n1,ag⟩:=QtJ rfl hq;obtain⟨k7,aA,T,cs,sT,s3,ht,hb,aE,ra,aD⟩:=QdW (by omega) ag;have av:y.2=yc.1::r:=by rw[aB];rfl
  obtain⟨au,⟨T2,ai⟩,ak⟩:=Qpm h3 aF av k7 aA
  have aw:T2=T/\cs=[]:=by
   rw[aD]at ai;injection ai with e1 _
   injection e1 with e1 e2
   exact⟨e1.symm,e2⟩
  obtain⟨rfl,rfl⟩:=aw;have ac:=aC au (by omega);rw[aE ai ak]at ac
  have hq2:q2=QaG.length+2:=by
   have ah:=congrArg List.length i2;rw[List.length_drop]at ah;have hle:q2<=l.length:=(Qby l QaG.length (by rw[<-e0,List.length_append];omega) _ i1).2.1
   have hll:l.length=QaG.length+(2+(1+(t.length+(1+3)))):=by
    rw[<-e0];simp only[List.length_append,List.length_cons,show kIf.length=2 from rfl,show Qfj.length=3 from rfl];omega
   simp only[List.length_append,List.length_cons,show Qfj.length=3 from rfl]at ah;omega
  have ha:(QaG++(kIf++[32])).length=q2+1:=by
   simp only[List.length_append,List.length_cons,List.length_nil,show kIf.length=2 from rfl];omega
  have aj:nL l (QaG++(kIf++[32])).length=.ok s1:=by
   rw[ha,<-QdJ i2 (by decide)];exact n1
  refine⟨T2,s1,sT,?_,aj,ht,?_⟩
  ·rw[av,au];show [yc.1.2.1]=_
   rw[ai]
  obtain⟨A,hA⟩:∃ A,A=QaG++(kIf++[32]):=⟨_,rfl⟩;have ao:l=A++(t++10::Qfj):=by rw[hl,Qj1,hA]
  have ab:Qr0 l A.length t:=by rw[ao];exact Qhq A t Qfj
  have ae:Qno l A.length t:=by rw[ao];exact QmK A t Qfj (by decide) (by decide)
  rw[<-hA]at aj ⊢;have hE:∀ s,nL l (A.length+t.length)=.ok s->s.1.spelt=[123]/\s.1.kind=3:=fun s hs=>Qyo t s (by rw[<-hl,<-hA];exact hs)
  have ay:A.length+t.length<=l.length:=by rw[ao];simp only[List.length_append];omega
  have hc:Cx l A.length l A.length t [123] [123]:=⟨⟨ab,ae,ab⟩,ay,fun s hs=>⟨(hE s hs).1,by rw[(hE s hs).2];decide,by rw[(hE s hs).2];decide,by rw[(hE s hs).2];decide⟩,fun s hs=>(hE s hs).1⟩;have aq:=Qjb hc aj aj
  have az:mu l.length s1<F:=by
   have:=aq.1.1;unfold mu;split<;>omega
  rcases testL_two hc out123.1 out123.2 out123.2 Qb5 (Nat.le_refl F) 0 6 s1 s1 az aq _ ht with⟨e,h1⟩ | ⟨y',h1,_,h2⟩
  ·rw[show testL l Qb5 F 6 s1=.ok (T2,sT)from ht]at h1;cases h1
  ·rcases h2.2 with⟨d,hd,hk,e1,_⟩ | ⟨h5,_⟩
   ·exfalso;obtain⟨s2,g1,g2,g3⟩:=Qp0 (by omega) hb;rw[show sT.2=A.length+d from e1]at g1
    cases hv:nL t d with
    |error e=>obtain⟨e',h6⟩:=ae d e hd hv;rw[h6]at g1;cases g1
    |ok z=>
     have hz:=Qby t d hd z hv;by_cases hk0:z.1.kind=0
     ·rw[ab.last d z hd hv hk0]at g1;rw[(hE s2 g1).1]at g2;exact g2 (by decide)
     ·rw[ab.word d z hd hv hk0]at g1;cases g1
      cases hv2:nL t z.2 with
      |error e=>obtain⟨e',h6⟩:=ae z.2 e hz.2.1 hv2;rw[show nL l (A.length+z.2)=.error e' from h6]at g3;cases g3
      |ok z2=>
       by_cases hk2:z2.1.kind=0
       ·have af:nL l (A.length+z.2)=.ok s3:=g3;rw[ab.last z.2 z2 hz.2.1 hv2 hk2]at af;rw[(hE s3 af).2]at ac;cases ac
       ·have af:nL l (A.length+z.2)=.ok s3:=g3;rw[ab.word z.2 z2 hz.2.1 hv2 hk2]at af;cases af;exact hk2 ac
   ·exact h5
theorem QyR:Pad [] [10]:=⟨fun r p=>rfl,fun p=>by rw[QbR [] p (by decide)];rfl,⟨[],rfl⟩⟩
theorem Qrr:QuB []/\QlH []/\QwO []/\Qvz []:=⟨⟨by decide,by decide,by decide,by decide⟩,⟨by decide,by decide,by decide,by decide⟩,⟨by decide,by decide,by decide⟩,⟨by decide,by decide,by decide,by decide⟩⟩
theorem QwC:QlH [125]/\QwO [125]:=⟨⟨by decide,by decide,by decide,by decide⟩,⟨by decide,by decide,by decide⟩⟩
theorem QjG:∀ {zs:List (L8)} {x:L8},¬ wL zs x=0->x∈zs
 | [],x,h=>absurd rfl h
 |z::r,x,h=>by
  unfold wL at h;by_cases e:x=z
  ·rw[e];exact List.mem_cons_self
  ·refine List.mem_cons_of_mem _ (QjG (zs:=r) (fun h0=>h ?_))
   repeat' split
   all_goals first|rfl|(rename_i e1;exact absurd e1 e)|(rename_i e1;exact absurd e1.symm e)|omega|skip
theorem Qv1{l:L8}{req:List (L8)}{F n:Nat}{s:PS}{y:Qbo n×PS}(h:cmdL l req F n s=.ok y):wL [[125]] s.1.spelt=0:=by
 have aa:∀ x∈cNs,wL [[125]] x=0:=by decide
 cases n with
 |zero=>
  rw[cmdL]at h
  split at h<;>cases h
 |succ n=>
  rw[cmdL]at h;by_cases h0:wL cNs s.1.spelt=0
  ·rw[if_pos h0]at h;cases h
  ·exact aa _ (QjG h0)
theorem QuM{u:L8}{req:List (L8)}{F f n:Nat}{s:PS}(hs:s.1.spelt=kRequire):∃ e,bMr u (cmdL u req F n) (f+1) [] s=.error e:=by
 rw[bMr];have hm:mayL u [[125]] s=.ok (0,s):=by unfold mayL;rw[hs,if_pos (by decide)]
 rw[Qac hm];dsimp only;rw[if_pos rfl]
 have he:∃ e,cmdL u req F n s=.error e:=by
  cases n with
  |zero=>
   rw[cmdL];split<;>exact⟨_,rfl⟩
  |succ n=>
   rw[cmdL,hs,if_pos (by decide)];exact⟨_,rfl⟩
 obtain⟨e,he⟩:=he;exact⟨e,Qad he⟩
theorem Qv4{a:L8}{y:List (L8)×List (Qbo 7)}(h:prL (QaG++a)=.ok y) :
 ∃ cs:List (Qbo 7),∀(A C:L8) (F' f':Nat) (s':PS),2*(QaG.length+a.length+1)+10<=F'->2*(QaG.length+a.length+1)+10<=f'->(∀ s,nL (A++(a++10::C)) (A.length+a.length)=.ok s->s.1.spelt=[125])->nL (A++(a++10::C)) A.length=.ok s'->
  (∃ e,bMr (A++(a++10::C)) (cmdL (A++(a++10::C)) Qb5 F' 6) f' [] s'=.error e)\/∃ cs' x z,bMr (A++(a++10::C)) (cmdL (A++(a++10::C)) Qb5 F' 6) f' [] s'=.ok (cs',z)/\cs.map (Qdq 7)=cs'.map (gC 1 6)/\nL (A++(a++10::C)) (A.length+a.length)=.ok x/\nL (A++(a++10::C)) x.2=.ok z:=by
 obtain⟨y',ai,_,_⟩:=(Quj QyR (l:=QaG++a) (u:=QaG++(a++10::[])) (by simp)).1 y h;obtain⟨s0,n0,aa⟩:=Qjz (R:=a++10::[]) ai;obtain⟨l,hl⟩:∃ l,l=QaG++(a++10::[]):=⟨_,rfl⟩;rw[<-hl]at n0 aa;have hll:l.length=QaG.length+a.length+1:=by rw[hl];simp only[List.length_append,List.length_cons,List.length_nil];omega
 have ad:Qr0 l QaG.length a:=by rw[hl];exact Qhq QaG a []
 have ac:Qno l QaG.length a:=by rw[hl];exact QmK QaG a [] (by simp) (by simp)
 have hE:∀ s,nL l (QaG.length+a.length)=.ok s->s.1.spelt=[]/\s.1.kind=0:=fun s hs=>by
  have hT:Tok (10::[]) [] 0 [] [] 0:=QbO (by decide) Qpd;obtain⟨q1,q2,h1,_⟩:=hT l (QaG.length+a.length) (by rw[hl,QdG _ _ _ _ (Nat.le_refl _),List.drop_length];rfl);rw[h1]at hs;cases hs;exact⟨rfl,rfl⟩
 have ae:∀(A C:L8),(∀ s,nL (A++(a++10::C)) (A.length+a.length)=.ok s->s.1.spelt=[125])->Cx l QaG.length (A++(a++10::C)) A.length a [] [125]:=fun A C hb=>
  ⟨⟨ad,ac,Qhq A a C⟩,by omega,fun s hs=>⟨(hE s hs).1,by rw[(hE s hs).2];decide,by rw[(hE s hs).2];decide,by rw[(hE s hs).2];decide⟩,hb⟩
 by_cases hw:wL [kRequire] s0.1.spelt=0
 ·obtain⟨_,ah⟩:=aa hw;refine⟨y'.2,fun A C F' f' s' hF hf hb hs'=>?_⟩;have hc:=ae A C hb;have ab:=Qjb hc n0 hs'
  have af:mu l.length s0<2*l.length+10:=by
   have:=ab.1.1;unfold mu;split<;>omega
  exact QlD hc (Qdq 7) (gC 1 6) (sub:=cmdL l Qb5 (2*l.length+10) 7) (fun s g=>QjZ 7 s g) (fun s hs=>(hE s hs).2) (M:=2*l.length+10) (fun s z hz=>Qv1 hz)
   (fun s s2 hm ab=>QrD hc Qrr.1 Qrr.2.1 QwC.1 Qrr.2.2.2 Qrr.2.2.1 QwC.2 Qb5 (by omega) 1 6 s s2 hm ab) (2*l.length+10) f' [] [] s0 s' rfl (by omega) af af ab _ ah
 ·refine⟨[],fun A C F' f' s' hF hf hb hs'=>Or.inl ?_⟩;have hc:=ae A C hb;have ab:=Qjb hc n0 hs';have ag:s0.1.spelt=kRequire:=List.mem_singleton.1 (QjG hw);obtain⟨d,hd,hk,e1,e2,e3,e4,_⟩:=ab.inn hc (Or.inl (by rw[ag];decide));obtain⟨f,rfl⟩:∃ f,f'=f+1:=⟨f' - 1,by omega⟩;exact QuM (by rw[e4,ag])
def CmdsP (a:L8) (cs:List (Qbo 7)):Prop:=
 ∀ (A C:L8) (F' f':Nat) (s':PS),2*(QaG.length+a.length+1)+10≤F'→2*(QaG.length+a.length+1)+10≤f'→(∀ s,nL (A++(a++10 :: C)) (A.length+a.length)=.ok s→s.1.spelt=[125])→nL (A++(a++10 :: C)) A.length=.ok s'→
     (∃ e,bMr (A++(a++10 :: C)) (cmdL (A++(a++10 :: C)) Qb5 F' 6) f' [] s'=.error e)∨∃ cs' x z,bMr (A++(a++10 :: C)) (cmdL (A++(a++10 :: C)) Qb5 F' 6) f' [] s'=.ok (cs',z)∧cs.map (Qdq 7)=cs'.map (gC 1 6)∧nL (A++(a++10 :: C)) (A.length+a.length)=.ok x∧nL (A++(a++10 :: C)) x.2=.ok z
theorem Qwr{a:L8}{y:List (L8)×List (Qbo 7)}(h:prL (QaG++a)=.ok y):∃ cs,CmdsP a cs:=Qv4 h
theorem Qen{l:L8}{zs:List (L8)}{s:PS}{y:Nat×PS}(h:paL l zs s=.ok y):¬ wL zs s.1.spelt=0/\nL l s.2=.ok y.2:=by
 unfold paL at h;by_cases hz:wL zs s.1.spelt=0
 ·rw[if_pos hz]at h;cases h
 ·rw[if_neg hz]at h
  cases hn:nL l s.2 with
  |error e=>rw[hn]at h;cases h
  |ok z=>rw[hn]at h;cases h;exact⟨hz,rfl⟩
theorem Qhl{a:L8}{cs:List (Qbo 7)}(hp:CmdsP a cs){l C:L8}{F:Nat}{sT:PS}(hd:l.drop sT.2=a++10::125::C)(hle:sT.2<=l.length)(hF:2*(QaG.length+a.length+1)+10<=F){y:List (Qbo 6)×PS}(h:blockL l F (cmdL l Qb5 F 6) sT=.ok y) :
 cs.map (Qdq 7)=y.1.map (gC 1 6)/\∃ q,l.drop q=C/\q<=l.length/\nL l q=.ok y.2:=by
 unfold blockL at h
 cases hps:paL l [[123]] sT with
 |error e=>rw[Qad hps]at h;cases h
 |ok z=>
  rw[Qac hps]at h;have hn:=(Qen hps).2;obtain⟨A,hA⟩:∃ A,A=l.take sT.2:=⟨_,rfl⟩;have ac:A.length=sT.2:=by rw[hA,List.length_take];omega
  have hl:l=A++(a++10::(125::C)):=by rw[hA,<-hd,List.take_append_drop]
  have hT:Tok (10::125::C) C 3 [125] [] 0:=QbO (by decide) (QtS C)
  have aa:l.drop (A.length+a.length)=10::125::C:=by
   rw[hl,QdG _ _ _ _ (Nat.le_refl _),List.drop_length];rfl
  have hb:∀ s,nL (A++(a++10::(125::C))) (A.length+a.length)=.ok s->s.1.spelt=[125]/\l.drop s.2=C/\s.2<=l.length:=fun s hs=>by
   rw[<-hl]at hs;obtain⟨q1,q2,h1,h2⟩:=hT l _ aa
   have hq:A.length+a.length<=l.length:=by
    rcases Nat.lt_or_ge l.length (A.length+a.length)with hh|hh
    ·rw[List.drop_of_length_le (by omega)]at aa;cases aa
    ·exact hh
   have ab:=(Qby l _ hq s hs).2.1;rw[h1]at hs;cases hs;exact⟨rfl,h2,ab⟩
  rw[<-ac]at hn;rcases hp A (125::C) F F z.2 hF hF (fun s hs=>(hb s hs).1) (by rw[<-hl];exact hn)with⟨e,h1⟩ | ⟨cs',x,w,h1,h2,h3,h4⟩
  ·rw[<-hl]at h1;rw[h1]at h;cases h
  ·rw[<-hl]at h1 h4;rw[h1]at h;cases h;exact⟨h2,x.2,(hb x h3).2.1,(hb x h3).2.2,h4⟩
def Qc9 (a b:L8):L8:=32 :: 123 :: (a++10 :: 125 :: (32 :: (Qch++(32 :: 123 :: (b++10 :: 125 :: [])))))
theorem QeE(R:L8):Tok (32::123::R) R 3 [123] [] 0:=QbO (by decide) (Qto R)
theorem Qf4{l:L8}{q:Nat}{c:UInt8}{r:L8}(h:l.drop q=c::r):q<=l.length:=by
 rcases Nat.lt_or_ge l.length q with hh|hh
 ·rw[List.drop_of_length_le (by omega)]at h;cases h
 ·exact hh
theorem Qko{a b:L8}{ca cb:List (Qbo 7)}(ha:CmdsP a ca)(hb:CmdsP b cb){l:L8}{F ar q:Nat}{s1 sT:PS}{T:Qa6 6}{y:(Qgt×List (Qa6 6×List (Qbo 6))×List (Qbo 6))×PS}(hF:0<F)(aj:2*(QaG.length+a.length+1)+10<=F)(ak:2*(QaG.length+b.length+1)+10<=F)
 (ht:testL l Qb5 F 6 s1=.ok (T,sT)) (hn:nL l q=.ok sT) (hd:l.drop q=Qc9 a b) (h:cBd l F (testL l Qb5 F 6) (cmdL l Qb5 F 6) 7 ar s1=.ok y) :
 ∃ A B,y.1.1.kind=7/\y.1.2.1=[(T,A)]/\y.1.2.2=B/\ca.map (Qdq 7)=A.map (gC 1 6)/\cb.map (Qdq 7)=B.map (gC 1 6)/\y.2.1.kind=0:=by
 have hq:=Qf4 hd
 have ai:sT.1.spelt=[123]/\l.drop sT.2=a++10::125::(32::(Qch++(32::123::(b++10::125::[]))))/\sT.2<=l.length:=by
  have ad:=(Qby l q hq sT hn).2.1;obtain⟨q1,q2,h1,h2⟩:=QeE _ l q hd;rw[h1]at hn;cases hn;exact⟨rfl,h2,ad⟩
 unfold cBd at h
 cases hbk:blockL l F (cmdL l Qb5 F 6) sT with
 |error e=>
  have he:armL l F (testL l Qb5 F 6) (cmdL l Qb5 F 6) s1=.error e:=by unfold armL;rw[Qac ht,Qad hbk]
  rw[Qad he]at h;cases h
 |ok yb=>
  have he:armL l F (testL l Qb5 F 6) (cmdL l Qb5 F 6) s1=.ok ((T,yb.1),yb.2):=by unfold armL;rw[Qac ht,Qac hbk]
  rw[Qac he]at h;obtain⟨hA,q2,ap,hq2l,af⟩:=Qhl ha ai.2.1 ai.2.2 aj hbk;have aa:Tok (32::(Qch++(32::123::(b++10::125::[])))) (32::123::(b++10::125::[])) 1 Qch [] 0:=QbO (by decide) (QdB ⟨by decide,by decide⟩ (QfD _))
  have ac:yb.2.1.spelt=Qch/\l.drop yb.2.2=32::123::(b++10::125::[]):=by
   obtain⟨p1,p2,h1,h2⟩:=aa l q2 ap;rw[h1]at af;generalize yb.2=s at *;cases af;exact⟨rfl,h2⟩
  obtain⟨f,rfl⟩:∃ f,F=f+1:=⟨F - 1,by omega⟩;have ao:mayL l [QbM] yb.2=.ok (0,yb.2):=by unfold mayL;rw[ac.1,if_pos (by decide)]
  have ab:aMr l (f+1) (testL l Qb5 (f+1) 6) (cmdL l Qb5 (f+1) 6) (f+1) [(T,yb.1)] yb.2=.ok ([(T,yb.1)],yb.2):=by
   rw[aMr,Qac ao];rfl
  rw[Qac ab]at h
  cases hn3:nL l yb.2.2 with
  |error e=>
   have ae:mayL l [Qch] yb.2=.error e:=by unfold mayL;rw[ac.1,if_neg (by decide),hn3]
   rw[Qad ae]at h;cases h
  |ok s3=>
   have ae:mayL l [Qch] yb.2=.ok (1,s3):=by unfold mayL;rw[ac.1,if_neg (by decide),hn3];rfl
   rw[Qac ae,if_neg (show ¬(1:Nat)=0 by decide)]at h
   have ah:l.drop s3.2=b++10::125::[]/\s3.2<=l.length:=by
    have ad:=(Qby l _ (Qf4 ac.2) s3 hn3).2.1;obtain⟨p1,p2,h1,h2⟩:=QeE _ l _ ac.2;rw[h1]at hn3;cases hn3;exact⟨h2,ad⟩
   cases hbk2:blockL l (f+1) (cmdL l Qb5 (f+1) 6) s3 with
   |error e=>rw[Qad hbk2]at h;cases h
   |ok yc=>
    rw[Qac hbk2]at h;cases h;obtain⟨hB,q4,aq,hq4l,ag⟩:=Qhl hb ah.1 ah.2 ak hbk2;obtain⟨p1,p2,h1,h2⟩:=Qpd l q4 aq;refine⟨yb.1,yc.1,rfl,rfl,rfl,hA,hB,?_⟩;show yc.2.1.kind=0
    rw[h1]at ag;generalize yc.2=s at *;cases ag;rfl
structure TestP (t:L8) (T:Qa6 6):Prop where
 at_:∃ s1 sT,nL (QcG t) (QaG++(kIf++[32])).length=.ok s1∧testL (QcG t) Qb5 (2*(QcG t).length+10) 6 s1=.ok (T,sT)∧nL (QcG t) ((QaG++(kIf++[32])).length+t.length)=.ok sT
theorem Qyg{t:L8}{y:List (L8)×List (Qbo 7)}(h:prL (QcG t)=.ok y)(h3:nlN (textL y)=3):∃ T,TestP t T:=by
 obtain⟨T,s1,sT,_,h1,h2,h3⟩:=Qvx h h3;exact⟨T,⟨s1,sT,h1,h2,h3⟩⟩
theorem Qjw{t:L8}(d n:Nat){T:Qa6 (d+n)}{s1 sT:PS}(h1:nL (QcG t) (QaG++(kIf++[32])).length=.ok s1)(h2:testL (QcG t) Qb5 (2*(QcG t).length+10) (d+n) s1=.ok (T,sT))(h3:nL (QcG t) ((QaG++(kIf++[32])).length+t.length)=.ok sT)
 {A C b2:L8} {F':Nat} (hF:2*(QcG t).length+10<=F') (hb:∀ s,nL (A++(t++10::C)) (A.length+t.length)=.ok s->s.1.spelt=b2) (ho:QlH b2) {s':PS} (hs:nL (A++(t++10::C)) A.length=.ok s') {y:Qa6 n×PS} (hy:testL (A++(t++10::C)) Qb5 F' n s'=.ok y) :
 Qbz (d+n) T=gU d n y.1/\nL (A++(t++10::C)) (A.length+t.length)=.ok y.2:=by
 obtain⟨l,hl⟩:∃ l,l=QcG t:=⟨_,rfl⟩;obtain⟨A0,aa⟩:∃ A0,A0=QaG++(kIf++[32]):=⟨_,rfl⟩;rw[<-hl,<-aa]at h1 h3;rw[<-hl]at h2 hF;have ad:l=A0++(t++10::Qfj):=by rw[hl,Qj1,aa]
 have ac:Qr0 l A0.length t:=by rw[ad];exact Qhq A0 t Qfj
 have ab:Qno l A0.length t:=by rw[ad];exact QmK A0 t Qfj (by decide) (by decide)
 have hE:∀ s,nL l (A0.length+t.length)=.ok s->s.1.spelt=[123]/\s.1.kind=3:=fun s hs=>Qyo t s (by rw[<-hl,<-aa];exact hs)
 have af:A0.length+t.length<=l.length:=by rw[ad];simp only[List.length_append];omega
 have hc:Cx l A0.length (A++(t++10::C)) A.length t [123] b2:=⟨⟨ac,ab,Qhq A t C⟩,af,fun s hs=>⟨(hE s hs).1,by rw[(hE s hs).2];decide,by rw[(hE s hs).2];decide,by rw[(hE s hs).2];decide⟩,hb⟩;have ae:=Qjb hc h1 hs
 have ag:mu l.length s1<2*l.length+10:=by
  have:=ae.1.1;unfold mu;split<;>omega
 rcases testL_two hc out123.1 out123.2 ho Qb5 hF d n s1 s' ag ae _ h2 with⟨e,q1⟩ | ⟨y',q1,q2,q3⟩
 ·rw[hy]at q1;cases q1
 ·rw[hy]at q1;cases q1;refine⟨q2,?_⟩;rcases q3.2 with⟨dd,hd,hk,e1,_⟩ | ⟨_,_,q4⟩
  ·exfalso;have hlt:=(Qby l _ af sT h3).2.2.2.2 (by rw[(hE sT h3).2];decide);have e1':sT.2=A0.length+dd:=e1;omega
  ·exact q4
theorem Qvu{t:L8}{T:Qa6 6}(h:TestP t T){A C b2:L8}{F':Nat}(hF:2*(QcG t).length+10<=F')(hb:∀ s,nL (A++(t++10::C)) (A.length+t.length)=.ok s->s.1.spelt=b2)(ho:QlH b2){s':PS}(hs:nL (A++(t++10::C)) A.length=.ok s'){y:Qa6 6×PS}(hy:testL (A++(t++10::C)) Qb5 F' 6 s'=.ok y) :
 Qbz 6 T=gU 0 6 y.1/\nL (A++(t++10::C)) (A.length+t.length)=.ok y.2:=by
 obtain⟨s1,sT,h1,h2,h3⟩:=h.at_;exact Qjw 0 6 h1 h2 h3 hF hb ho hs hy
theorem Qi2{t:L8}{T:Qa6 6}(h:TestP t T){A C b2:L8}{F':Nat}(hF:2*(QcG t).length+10<=F')(hb:∀ s,nL (A++(t++10::C)) (A.length+t.length)=.ok s->s.1.spelt=b2)(ho:QlH b2){s':PS}(hs:nL (A++(t++10::C)) A.length=.ok s'){y:Qa6 5×PS}(hy:testL (A++(t++10::C)) Qb5 F' 5 s'=.ok y) :
 Qbz 6 T=gU 1 5 y.1/\nL (A++(t++10::C)) (A.length+t.length)=.ok y.2:=by
 obtain⟨s1,sT,h1,h2,h3⟩:=h.at_;exact Qjw 1 5 h1 h2 h3 hF hb ho hs hy
theorem QlY{R:L8}{y:List (L8)×List (Qbo 7)}(h:prL (QaG++(kIf++32::R))=.ok y) :
 ∃ F pos s1 yc r,F=2*(QaG++(kIf++32::R)).length+10/\y.1=Qb5/\y.2=yc.1::r/\nL (QaG++(kIf++32::R)) (QaG++(kIf++[32])).length=.ok s1/\cBd (QaG++(kIf++32::R)) F (testL (QaG++(kIf++32::R)) Qb5 F 6) (cmdL (QaG++(kIf++32::R)) Qb5 F 6) 7 pos s1=.ok yc/\(yc.2.1.kind=0->r=[]):=by
 obtain⟨s0,n0,ab⟩:=Qjz (R:=kIf++32::R) h;obtain⟨l,hl⟩:∃ l,l=QaG++(kIf++32::R):=⟨_,rfl⟩;rw[<-hl]at n0 ab ⊢;have hI:Tok (kIf++32::R) (32::R) 1 kIf [] 0:=QdB ⟨by decide,by decide⟩ (QfD _);have ag:l.drop QaG.length=kIf++32::R:=by rw[hl,List.drop_left]
 obtain⟨q1,q2,i1,i2⟩:=hI l QaG.length ag;rw[i1]at n0;cases n0;obtain⟨ah,aa⟩:=ab (show wL [kRequire] kIf=0 by decide);obtain⟨F,af⟩:∃ F,F=2*l.length+10:=⟨_,rfl⟩;rw[<-af]at aa;obtain⟨f,hf⟩:∃ f,F=f+2:=⟨2*l.length+8,by omega⟩;rw[show cMr (cmdL l Qb5 F 7) F [] (⟨1,q1,kIf,[],0⟩,q2)=cMr (cmdL l Qb5 F 7) (f+1+1) [] (⟨1,q1,kIf,[],0⟩,q2) by rw[hf],cMr,if_neg (show ¬(1:Nat)=0 by decide)]at aa
 cases hq:cmdL l Qb5 F 7 (⟨1,q1,kIf,[],0⟩,q2)with
 |error e=>rw[hq]at aa;cases aa
 |ok yc=>
  rw[hq]at aa;dsimp only at aa;obtain⟨r,ae,hr2⟩:=QgD _ _ _ _ aa;obtain⟨s1,n1,ac⟩:=QtJ rfl hq
  have hq2:q2=QaG.length+2:=by
   have ad:=congrArg List.length i2;rw[List.length_drop]at ad;have hle:q2<=l.length:=(Qby l QaG.length (by rw[hl,List.length_append];omega) _ i1).2.1
   have hll:l.length=QaG.length+(2+(1+R.length)):=by
    rw[hl];simp only[List.length_append,List.length_cons,show kIf.length=2 from rfl];omega
   simp only[List.length_cons]at ad;omega
  have ha:(QaG++(kIf++[32])).length=q2+1:=by
   simp only[List.length_append,List.length_cons,List.length_nil,show kIf.length=2 from rfl];omega
  refine⟨F,_,s1,yc,r,af,ah,by rw[ae];rfl,?_,ac,fun hk=>?_⟩
  ·rw[ha,<-QdJ i2 (by decide)];exact n1
  ·rw[cMr,if_pos hk]at aa;injection aa with aa
   rw[<-aa]at ae;have h0:=congrArg List.length ae;rw[List.length_append (as:=[]++[yc.1])]at h0;exact List.eq_nil_of_length_eq_zero (by omega)
theorem Qjh(a b:L8):(Qc9 a b).length=a.length+b.length+13:=by
 unfold Qc9;simp only[List.length_cons,List.length_append,List.length_nil,show Qch.length=4 from rfl];omega
theorem Qhi(t:L8):(QcG t).length=QaG.length+t.length+7:=by
 unfold QcG;simp only[List.length_cons,List.length_append,show kIf.length=2 from rfl,show Qfj.length=3 from rfl];omega
theorem Qx8{t a b:L8}{T:Qa6 6}{ca cb:List (Qbo 7)}(ht:TestP t T)(ha:CmdsP a ca)(hb:CmdsP b cb){y:List (L8)×List (Qbo 7)}(h:prL (QaG++(kIf++32::(t++10::Qc9 a b)))=.ok y) :
 y.1=Qb5/\∃(c:Qbo 7) (T':Qa6 6) (A B:List (Qbo 6)),y.2=[c]/\c.1.kind=7/\c.2.1=[(T',A)]/\c.2.2=B/\Qbz 6 T=gU 0 6 T'/\ca.map (Qdq 7)=A.map (gC 1 6)/\cb.map (Qdq 7)=B.map (gC 1 6):=by
 obtain⟨F,pos,s1,yc,r,ai,ao,ap,af,aa,hr⟩:=QlY h;obtain⟨l,hl⟩:∃ l,l=QaG++(kIf++32::(t++10::Qc9 a b)):=⟨_,rfl⟩;obtain⟨A0,ag⟩:∃ A0,A0=QaG++(kIf++[32]):=⟨_,rfl⟩;rw[<-hl]at ai af aa;rw[<-ag]at af;have ad:l=A0++(t++10::Qc9 a b):=by rw[hl,ag];simp
 have hll:l.length=QaG.length+t.length+a.length+b.length+17:=by
  rw[hl];simp only[List.length_append,List.length_cons,Qjh,show kIf.length=2 from rfl];omega
 have hX:=Qhi t;obtain⟨_,_,T',cs,sT,s3,ah,_⟩:=QdW (by omega) aa
 have ae:l.drop (A0.length+t.length)=10::Qc9 a b:=by
  rw[ad,QdG _ _ _ _ (Nat.le_refl _),List.drop_length];rfl
 have aj:∀ s,nL (A0++(t++10::Qc9 a b)) (A0.length+t.length)=.ok s->s.1.spelt=[123]:=fun s hs=>by
  rw[<-ad]at hs;obtain⟨q1,q2,h1,_⟩:=(QbO (c:=10) (by decide) (QeE _)) l _ ae;rw[h1]at hs;cases hs;rfl
 obtain⟨hz,ab⟩:=Qvu ht (F':=F) (by omega) aj out123.2 (by rw[<-ad];exact af) (by rw[<-ad];exact ah);rw[<-ad]at ab
 have ac:nL l (A0.length+t.length+1)=.ok sT:=by
  rw[<-QdJ ae (by decide)];exact ab
 obtain⟨A,B,g1,g2,g3,g4,g5,g6⟩:=Qko ha hb (by omega) (by omega) (by omega) ah ac (Qc3 ae) aa;have ak:=hr g6;exact⟨ao,yc.1,T',A,B,by rw[ap,ak],g1,g2,g3,hz,g4,g5⟩
theorem Qg3{l:L8}{req:List (L8)}{F n k:Nat}{s:PS}{y:Qa6 (n+1)×PS}(hk:wL tNs s.1.spelt=k+1)(h:testL l req F (n+1) s=.ok y):∃ s1,nL l s.2=.ok s1/\tBd l F (testL l req F n) k s.1.pos s1=.ok y:=by
 rw[testL,if_neg (by rw[hk];omega),hk,Nat.add_sub_cancel]at h;by_cases hu:Qb6 req s.1.spelt=true
 ·rw[if_pos hu]at h
  cases hn:nL l s.2 with
  |error e=>cases(QaC hn).symm.trans h
  |ok s1=>exact⟨s1,rfl,(QaE hn).symm.trans h⟩
 ·rw[if_neg hu]at h;cases h
theorem Qvh{α:Type}{l:L8}{F aa:Nat}{sub:PS->Except Flt (α×PS)}{s:PS}{y:(Qcv×List α)×PS}(h:tBd l F sub 2 aa s=.ok y):∃ z,sub s=.ok z/\y=((⟨2,aa,0,false,[],[],0⟩,[z.1]),z.2):=by
 unfold tBd at h
 cases hq:sub s with
 |error e=>rw[Qad hq]at h;cases h
 |ok z=>rw[Qac hq]at h;cases h;exact⟨z,rfl,rfl⟩
theorem QpN{l w R:L8}{q:Nat}{s:PS}(hw:Kw w)(hd:l.drop q=w++32::R)(hn:nL l q=.ok s):s.1.spelt=w/\l.drop s.2=32::R/\s.2<=l.length:=by
 have hq:q<=l.length:=by
  rcases Nat.lt_or_ge l.length q with hh|hh
  ·rw[List.drop_of_length_le (by omega)]at hd;have:=congrArg List.length hd;simp at this
  ·exact hh
 have aa:=(Qby l q hq s hn).2.1;obtain⟨q1,q2,h1,h2⟩:=QdB hw (QfD R) l q hd;rw[h1]at hn;cases hn;exact⟨rfl,h2,aa⟩
theorem Qi9{l A R:L8}{q:Nat}(hl:l=A++R)(hd:l.drop q=R)(hq:q<=l.length):q=A.length:=by
 have h1:=congrArg List.length hd;rw[List.length_drop,hl,List.length_append]at h1;rw[hl,List.length_append]at hq;omega
theorem Qyb{t a b:L8}{T:Qa6 6}{ca cb:List (Qbo 7)}(ht:TestP t T)(ha:CmdsP a ca)(hb:CmdsP b cb){y:List (L8)×List (Qbo 7)}(h:prL (QaG++(kIf++32::(kNot++32::(t++10::Qc9 a b))))=.ok y) :
 y.1=Qb5/\∃(c:Qbo 7) (x:Qcv) (T':Qa6 5) (A B:List (Qbo 6)),y.2=[c]/\c.1.kind=7/\c.2.1=[((x,[T']),A)]/\x.kind=2/\c.2.2=B/\Qbz 6 T=gU 1 5 T'/\ca.map (Qdq 7)=A.map (gC 1 6)/\cb.map (Qdq 7)=B.map (gC 1 6):=by
 obtain⟨F,pos,s1,yc,r,aj,ar,au,ae,aa,hr⟩:=QlY h;obtain⟨l,hl⟩:∃ l,l=QaG++(kIf++32::(kNot++32::(t++10::Qc9 a b))):=⟨_,rfl⟩;obtain⟨A0,af⟩:∃ A0,A0=QaG++(kIf++[32]):=⟨_,rfl⟩;obtain⟨A1,ai⟩:∃ A1,A1=QaG++(kIf++32::(kNot++[32])):=⟨_,rfl⟩;rw[<-hl]at aj ae aa;rw[<-af]at ae;have ao:l=A0++(kNot++32::(t++10::Qc9 a b)):=by rw[hl,af];simp
 have hlc:l=A1++(t++10::Qc9 a b):=by rw[hl,ai];simp
 have hll:l.length=QaG.length+t.length+a.length+b.length+21:=by
  rw[hl];simp only[List.length_append,List.length_cons,Qjh,show kIf.length=2 from rfl,show kNot.length=3 from rfl];omega
 have hX:=Qhi t;obtain⟨_,_,T',cs,sT,s3,ag,_⟩:=QdW (by omega) aa;obtain⟨w1,w2,w3⟩:=QpN (w:=kNot) ⟨by decide,by decide⟩ (by rw[ao,List.drop_left]) ae;obtain⟨s2,n2,ap⟩:=Qg3 (n:=5) (k:=2) (by rw[w1];decide) ag;obtain⟨z,av,ah⟩:=Qvh ap
 have hp:s1.2+1=A1.length:=Qi9 hlc (Qc3 w2) (Qf4 (l:=l) (q:=s1.2) w2 |> fun _=>by
  have h1:=congrArg List.length w2;rw[List.length_drop]at h1;simp only[List.length_cons]at h1
  omega)
 have aw:nL l A1.length=.ok s2:=by rw[<-hp,<-QdJ w2 (by decide)];exact n2
 have ad:l.drop (A1.length+t.length)=10::Qc9 a b:=by
  rw[hlc,QdG _ _ _ _ (Nat.le_refl _),List.drop_length];rfl
 have ak:∀ s,nL (A1++(t++10::Qc9 a b)) (A1.length+t.length)=.ok s->s.1.spelt=[123]:=fun s hs=>by
  rw[<-hlc]at hs;obtain⟨q1,q2,h1,_⟩:=(QbO (c:=10) (by decide) (QeE _)) l _ ad;rw[h1]at hs;cases hs;rfl
 obtain⟨hz,ab⟩:=Qi2 ht (F':=F) (by omega) ak out123.2 (by rw[<-hlc];exact aw) (by rw[<-hlc];exact av);rw[<-hlc]at ab;have e1:T'=((⟨2,s1.1.pos,0,false,[],[],0⟩:Qcv),[z.1]):=congrArg Prod.fst ah;have e2:sT=z.2:=congrArg Prod.snd ah
 have ac:nL l (A1.length+t.length+1)=.ok sT:=by
  rw[<-QdJ ad (by decide),e2];exact ab
 obtain⟨A,B,g1,g2,g3,g4,g5,g6⟩:=Qko ha hb (by omega) (by omega) (by omega) ag ac (Qc3 ad) aa;have aq:=hr g6;exact⟨ar,yc.1,⟨2,s1.1.pos,0,false,[],[],0⟩,z.1,A,B,by rw[au,aq],g1,(by rw[g2,e1];rfl),rfl,g3,hz,g4,g5⟩
theorem QkZ{α:Type}{l:L8}{F aa:Nat}{sub:PS->Except Flt (α×PS)}{s:PS}{y:(Qcv×List α)×PS}{k:Nat}(hk:k=3\/k=4)(h:tBd l F sub k aa s=.ok y):∃ z,groupL l F sub s=.ok z/\y=((⟨k,aa,0,false,[],[],0⟩,z.1),z.2):=by
 have h':Qa2 (groupL l F sub s) (fun ts s1=>.ok ((⟨k,aa,0,false,[],[],0⟩,ts),s1))=.ok y:=by
  rcases hk with rfl|rfl
  ·exact h
  ·exact h
 cases hq:groupL l F sub s with
 |error e=>rw[Qad hq]at h';cases h'
 |ok z=>rw[Qac hq]at h';cases h';exact⟨z,rfl,rfl⟩
theorem Qka{α:Type}{l:L8}{F:Nat}{sub:PS->Except Flt (α×PS)}{s:PS}{y:List α×PS}(h:groupL l F sub s=.ok y):∃ s1 z,nL l s.2=.ok s1/\sub s1=.ok z/\gMr l sub F [z.1] z.2=.ok y:=by
 unfold groupL at h
 cases hp:paL l [[40]] s with
 |error e=>rw[Qad hp]at h;cases h
 |ok i=>
  rw[Qac hp]at h
  cases hq:sub i.2 with
  |error e=>rw[Qad hq]at h;cases h
  |ok z=>
   rw[Qac hq]at h;exact⟨i.2,z,(Qen hp).2,hq,h⟩
theorem Qpc{α:Type}{l:L8}{f:Nat}{sub:PS->Except Flt (α×PS)}{s:PS}{aa:List α}{y:List α×PS}(hs:s.1.spelt=[44])(h:gMr l sub (f+1) aa s=.ok y):∃ s1 z,nL l s.2=.ok s1/\sub s1=.ok z/\gMr l sub f (aa++[z.1]) z.2=.ok y:=by
 rw[gMr]at h
 cases hp:paL l [[44],[41]] s with
 |error e=>rw[Qad hp]at h;cases h
 |ok i=>
  rw[Qac hp]at h
  have hi:i.1=1:=by
   unfold paL at hp;rw[hs,if_neg (by decide)]at hp
   cases hn:nL l s.2 with
   |error e=>rw[hn]at hp;cases hp
   |ok z=>rw[hn]at hp;cases hp;rfl
  rw[if_pos hi]at h
  cases hq:sub i.2 with
  |error e=>rw[Qad hq]at h;cases h
  |ok z=>
   rw[Qac hq]at h;exact⟨i.2,z,(Qen hp).2,hq,h⟩
theorem QjT{α:Type}{l:L8}{f:Nat}{sub:PS->Except Flt (α×PS)}{s:PS}{aa:List α}{y:List α×PS}(hs:s.1.spelt=[41])(h:gMr l sub (f+1) aa s=.ok y):y.1=aa/\nL l s.2=.ok y.2:=by
 rw[gMr]at h
 cases hp:paL l [[44],[41]] s with
 |error e=>rw[Qad hp]at h;cases h
 |ok i=>
  rw[Qac hp]at h
  have hi:¬ i.1=1:=by
   unfold paL at hp;rw[hs,if_neg (by decide)]at hp
   cases hn:nL l s.2 with
   |error e=>rw[hn]at hp;cases hp
   |ok z=>rw[hn]at hp;cases hp;show ¬ wL [[44],[41]] [41]=1;decide
  rw[if_neg hi]at h;cases h;exact⟨rfl,(Qen hp).2⟩
theorem QyH:QlH [44]:=⟨by decide,by decide,by decide,by decide⟩
theorem Qyp:QlH [41]:=⟨by decide,by decide,by decide,by decide⟩
theorem Qdf{l A t R:L8}{c:UInt8}(hl:l=A++(t++10::c::R))(ht:Tok (c::R) R 3 [c] [] 0){s:PS}(hs:nL l (A.length+t.length)=.ok s):s.1.spelt=[c]/\l.drop s.2=R/\s.2<=l.length:=by
 have aa:l.drop (A.length+t.length)=10::c::R:=by
  rw[hl,QdG _ _ _ _ (Nat.le_refl _),List.drop_length];rfl
 have ab:=(Qby l _ (Qf4 aa) s hs).2.1;obtain⟨q1,q2,h1,h2⟩:=(QbO (c:=10) (by decide) ht) l _ aa;rw[h1]at hs;cases hs;exact⟨rfl,h2,ab⟩
theorem Qyk{t a b:L8}{T:Qa6 6}{ca cb:List (Qbo 7)}(ht:TestP t T)(ha:CmdsP a ca)(hb:CmdsP b cb){y:List (L8)×List (Qbo 7)}(h:prL (QaG++(kIf++32::(QbW++32::40::(t++10::44::32::(t++10::41::Qc9 a b)))))=.ok y) :
 y.1=Qb5/\∃(c:Qbo 7) (x:Qcv) (T1 T2:Qa6 5) (A B:List (Qbo 6)),y.2=[c]/\c.1.kind=7/\c.2.1=[((x,[T1,T2]),A)]/\x.kind=3/\c.2.2=B/\Qbz 6 T=gU 1 5 T1/\Qbz 6 T=gU 1 5 T2/\ca.map (Qdq 7)=A.map (gC 1 6)/\cb.map (Qdq 7)=B.map (gC 1 6):=by
 obtain⟨F,pos,s1,yc,r,ax,aI,aJ,ah,aa,hr⟩:=QlY h;obtain⟨l,hl⟩:∃ l,l=QaG++(kIf++32::(QbW++32::40::(t++10::44::32::(t++10::41::Qc9 a b)))):=⟨_,rfl⟩;obtain⟨A0,aj⟩:∃ A0,A0=QaG++(kIf++[32]):=⟨_,rfl⟩;obtain⟨A1,av⟩:∃ A1,A1=QaG++(kIf++32::(QbW++32::[40])):=⟨_,rfl⟩;obtain⟨A2,aw⟩:∃ A2,A2=A1++(t++10::44::[32]):=⟨_,rfl⟩;rw[<-hl]at ax ah aa;rw[<-aj]at ah;have aB:l=A0++(QbW++32::40::(t++10::44::32::(t++10::41::Qc9 a b))):=by rw[hl,aj];simp
 have ae:l=A1++(t++10::44::(32::(t++10::41::Qc9 a b))):=by rw[hl,av];simp
 have af:l=A2++(t++10::41::Qc9 a b):=by rw[ae,aw];simp
 have hll:l.length=QaG.length+2*t.length+a.length+b.length+28:=by
  rw[hl];simp only[List.length_append,List.length_cons,Qjh,show kIf.length=2 from rfl,show QbW.length=5 from rfl];omega
 have hX:=Qhi t;obtain⟨_,_,T',cs,sT,s3,ar,_⟩:=QdW (by omega) aa;obtain⟨w1,w2,w3⟩:=QpN (w:=QbW) ⟨by decide,by decide⟩ (by rw[aB,List.drop_left]) ah;obtain⟨s2,n2,aA⟩:=Qg3 (n:=5) (k:=3) (by rw[w1];decide) ar;obtain⟨z,aK,au⟩:=QkZ (Or.inl rfl) aA;obtain⟨p,u1,ak,aD,ao⟩:=Qka aK
 have aq:l.drop s2.2=t++10::44::(32::(t++10::41::Qc9 a b))/\s2.2<=l.length:=by
  have aC:=(Qby l _ w3 s2 n2).2.1;obtain⟨q1,q2,h1,h2⟩:=(QbO (c:=32) (by decide) (QwH _)) l _ w2;rw[h1]at n2;cases n2;exact⟨h2,aC⟩
 have aG:=Qi9 ae aq.1 aq.2;rw[aG]at ak;obtain⟨f,hf⟩:∃ f,F=f+2:=⟨F - 2,by omega⟩
 have ay:∀ s,nL (A1++(t++10::44::(32::(t++10::41::Qc9 a b)))) (A1.length+t.length)=.ok s->s.1.spelt=[44]:=fun s hs=>by
  rw[<-ae]at hs;exact(Qdf ae (Qor _) hs).1
 obtain⟨e1,ab⟩:=Qi2 ht (F':=F) (by omega) ay QyH (by rw[<-ae];exact ak) (by rw[<-ae];exact aD);rw[<-ae]at ab;obtain⟨c1,c2,c3⟩:=Qdf ae (Qor _) ab;rw[show gMr l (testL l Qb5 F 5) F [u1.1] u1.2=gMr l (testL l Qb5 F 5) (f+1+1) [u1.1] u1.2 by rw[hf]]at ao;obtain⟨p2,u2,ap,aE,aF⟩:=Qpc c1 ao
 have ag:u1.2.2+1<=l.length:=by
  have h1:=congrArg List.length c2;rw[List.length_drop]at h1;simp only[List.length_cons]at h1;omega
 have ai:=Qi9 af (Qc3 c2) ag;rw[QdJ c2 (by decide),ai]at ap
 have az:∀ s,nL (A2++(t++10::41::Qc9 a b)) (A2.length+t.length)=.ok s->s.1.spelt=[41]:=fun s hs=>by
  rw[<-af]at hs;exact(Qdf af (QqS _) hs).1
 obtain⟨e2,ac⟩:=Qi2 ht (F':=F) (by omega) az Qyp (by rw[<-af];exact ap) (by rw[<-af];exact aE);rw[<-af]at ac;obtain⟨c4,c5,c6⟩:=Qdf af (QqS _) ac;obtain⟨g0,ad⟩:=QjT c4 aF;have eT:T'=((⟨3,s1.1.pos,0,false,[],[],0⟩:Qcv),z.1):=congrArg Prod.fst au;have eS:sT=z.2:=congrArg Prod.snd au;rw[<-eS]at ad;obtain⟨A,B,g1,g2,g3,g4,g5,g6⟩:=Qko ha hb (by omega) (by omega) (by omega) ar ad c5 aa;have aH:=hr g6;exact⟨aI,yc.1,⟨3,s1.1.pos,0,false,[],[],0⟩,u1.1,u2.1,A,B,by rw[aJ,aH],g1,(by rw[g2,eT,g0];rfl),rfl,g3,e1,e2,g4,g5⟩
end Go.Proofs.YtgnkjijocdmniaaGreatDoor
