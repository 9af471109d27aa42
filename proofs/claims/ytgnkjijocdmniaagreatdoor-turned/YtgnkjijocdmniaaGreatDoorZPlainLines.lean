import Derived.Test.YtgnkjijocdmniaaGreatDoorZPlainCode
namespace Go.Proofs.YtgnkjijocdmniaaGreatDoor
set_option linter.unusedVariables false
set_option linter.unusedSimpArgs false
set_option maxRecDepth 100000
set_option maxHeartbeats 4000000
structure Gp (l:L8) (s:PS):Prop where
 le:s.2≤l.length
 lt:s.1.pos≤s.2
 word:s.1.kind≠0→s.1.pos < s.2
 said:s.1.kind=5→s.1.said.length+2≤s.2 - s.1.pos
 spelt:s.1.kind=0→s.1.spelt=[]
 num:s.1.num≤2147483647
 spl:s.1.spelt.length≤s.2 - s.1.pos
def ph (l:L8) (s:PS):Nat:=l.length - s.1.pos
theorem QtO{r:L8}{p:Nat}{x:PS}(h:scanL r p=.ok x):x.1.spelt.length<=x.2 - x.1.pos:=by
 have aa:∀(k n:Nat) (t:L8),(QbD k t p n).1.spelt.length<=(QbD k t p n).2 - (QbD k t p n).1.pos:=fun k n t=>by
  unfold QbD;simp[zL];omega
 cases r with
 |nil=>unfold scanL at h;dsimp only at h;cases h;simp
 |cons c r=>
  unfold scanL at h;dsimp only at h
  split at h
  ·cases h;exact aa _ _ _
  ·split at h
   ·split at h
    ·cases h
    ·cases h;exact aa _ _ _
   ·split at h
    ·obtain⟨n',v',he⟩:∃ n' v':Nat,sNL (c::r) p=if letdig ((c::r).getD n' 0)then .error ⟨2,p⟩else if 2147483647<v' then .error ⟨3,p⟩else .ok (⟨4,p,[],[],v'⟩,p+n'):=⟨_,_,rfl⟩
     rw[he]at h
     split at h
     ·cases h
     ·split at h
      ·cases h
      ·cases h;simp
    ·split at h
     ·unfold quoteR at h
      cases hq:qL r with
      |none=>rw[hq]at h;cases h
      |some y=>rw[hq]at h;cases h;simp
     ·split at h
      ·cases h;exact aa _ _ _
      ·cases h
theorem QiW(l:L8)(p:Nat)(hp:p<=l.length)(x:PS)(h:scanL (l.drop p) p=.ok x):Gp l x/\x.1.pos=p:=by
 obtain⟨h1,h2,h3,h4,h5⟩:=Qja l p hp x h;refine⟨⟨h2,by omega,fun hk=>by have:=h5 hk;omega,fun hk=>?_,fun hk=>(h4 hk).2,(QjK l p x h).2,QtO h⟩,h1⟩;generalize l.drop p=r at h
 cases r with
 |nil=>unfold scanL at h;dsimp only at h;cases h;cases hk
 |cons c r=>
  unfold scanL at h;dsimp only at h
  split at h
  ·cases h;cases hk
  ·split at h
   ·split at h
    ·cases h
    ·cases h;cases hk
   ·split at h
    ·obtain⟨n',v',he⟩:∃ n' v':Nat,sNL (c::r) p=if letdig ((c::r).getD n' 0)then .error ⟨2,p⟩else if 2147483647<v' then .error ⟨3,p⟩else .ok (⟨4,p,[],[],v'⟩,p+n'):=⟨_,_,rfl⟩
     rw[he]at h
     split at h
     ·cases h
     ·split at h
      ·cases h
      ·cases h;cases hk
    ·split at h
     ·unfold quoteR at h
      cases hq:qL r with
      |none=>rw[hq]at h;cases h
      |some y=>
       rw[hq]at h;have h2:=QeW _ _ hq;cases h;simp;omega
     ·split at h
      ·cases h;cases hk
      ·cases h
theorem Qi6{l:L8}{s y:PS}(h:Gp l s)(hn:nL l s.2=.ok y):Gp l y/\s.2<=y.1.pos:=by
 unfold nL at hn
 cases hs:QbJ (l.length+1) (l.drop s.2) s.2 with
 |error f=>rw[hs]at hn;cases hn
 |ok n=>
  rw[hs]at hn;have h1:=QdE l _ s.2 n h.le hs;have h2:=QiW l n h1.2 y hn;exact⟨h2.1,by omega⟩
def Bd {α:Type} (c:Nat) (l:L8) (len:α→Nat) (r:Except Flt (α×PS)) (s:PS):Prop:=∀ y,r=.ok y→Gp l y.2∧len y.1+c+64*ph l y.2≤64*ph l s
theorem Bd.err{α:Type}{c:Nat}{l:L8}{aa:α->Nat}{f:Flt}{s:PS}:Bd c l aa (.error f) s:=fun y h=>by cases h
theorem Bd.okk{α:Type}{l:L8}{aa:α->Nat}{a:α}{s:PS}(h:Gp l s)(ha:aa a=0):Bd 0 l aa (.ok (a,s)) s:=fun y e=>by cases e;exact⟨h,by simp only[ha];omega⟩
theorem Qdx{l:L8}{s y:PS}(h:Gp l s)(hk:s.1.kind≠0)(hn:nL l s.2=.ok y):Gp l y/\64+64*ph l y<=64*ph l s:=by
 obtain⟨h1,h2⟩:=Qi6 h hn;have h3:=h.word hk;have h4:=h.le;have h5:=h1.le;have h6:=h1.lt;refine⟨h1,?_⟩;unfold ph;omega
theorem QdU{l:L8}{zs:List (L8)}{s:PS}(h:Gp l s)(hz:∀ z∈zs,z≠[])(h0:¬ wL zs s.1.spelt=0):s.1.kind≠0:=fun e=>h0 (by rw[h.spelt e];exact QeA zs hz)
theorem QcM{l:L8}{zs:List (L8)}{s:PS}(h:Gp l s)(hz:∀ z∈zs,z≠[]):Bd 64 l (fun _=>0) (paL l zs s) s:=fun y e=>by
 unfold paL at e
 split at e
 ·cases e
 ·rename_i h0
  cases hn:nL l s.2 with
  |error f=>rw[hn]at e;cases e
  |ok s'=>rw[hn]at e;cases e;have:=Qdx h (QdU h hz h0) hn;exact⟨this.1,by dsimp only;omega⟩
theorem Qet{l:L8}{zs:List (L8)}{s:PS}(h:Gp l s)(hz:∀ z∈zs,z≠[]):Bd 0 l (fun i=>if i=0 then 0 else 64) (mayL l zs s) s:=fun y e=>by
 unfold mayL at e
 split at e
 ·cases e;exact⟨h,by simp⟩
 ·rename_i h0
  cases hn:nL l s.2 with
  |error f=>rw[hn]at e;cases e
  |ok s'=>rw[hn]at e;cases e;have:=Qdx h (QdU h hz h0) hn;exact⟨this.1,by dsimp only;rw[if_neg h0];omega⟩
theorem Qjk(x:L8):(quotedL x).length<=2*x.length+2:=by
 unfold quotedL;rw[List.length_cons,List.length_append]
 have:(x.flatMap QbE).length<=2*x.length:=by
  induction x with
  |nil=>simp
  |cons c r ih=>
   rw[List.flatMap_cons,List.length_append,List.length_cons];have:(QbE c).length<=2:=by unfold QbE;split<;>simp
   omega
 simp only[List.length_cons,List.length_nil];omega
theorem QbZ{l:L8}{chk:L8->Nat}{s:PS}(h:Gp l s):Bd 32 l (fun x=>(quotedL x).length) (sL l chk s) s:=fun y e=>by
 unfold sL at e
 split at e
 ·rename_i hk
  split at e
  ·cases hn:nL l s.2 with
   |error f=>rw[hn]at e;cases e
   |ok s'=>
    rw[hn]at e;cases e;obtain⟨h1,h2⟩:=Qi6 h hn;have h3:=h.said hk;have h4:=h.le;have h5:=h1.le;have h6:=h1.lt;have h7:=Qjk s.1.said;have h8:=h.lt;refine⟨h1,?_⟩;show(quotedL s.1.said).length+32+64*ph l s'<=64*ph l s
    unfold ph;omega
  ·cases e
 ·cases e
def Qds (xs:List (L8)):Nat:=(xs.map fun x=>x.length+2).sum
theorem QjP(x:L8)(xs:List (L8)):Qds (x::xs)=x.length+2+Qds xs:=by simp[Qds]
theorem QeY(xs ys:List (L8)):Qds (xs++ys)=Qds xs+Qds ys:=by simp[Qds]
theorem QdK(x:L8):Qds [x]=x.length+2:=by simp[Qds]
theorem Qom(xs:List (L8)):(Qdw [44,32] xs).length<=Qds xs:=by
 induction xs with
 |nil=>simp[Qdw,Qds]
 |cons x r ih=>
  cases r with
  |nil=>simp[Qdw,Qds]
  |cons y r=>
   rw[QjP];simp only[Qdw,List.length_append,List.length_cons,List.length_nil];omega
def Qiy (xs:List (L8)):Nat:=Qds (xs.map quotedL)
theorem QeN(xs:List (L8)):(Qam xs).length<=Qiy xs+2:=by
 unfold Qam Qiy;split
 ·rw[List.map_cons,List.map_nil,QdK];omega
 ·have:=Qom (xs.map quotedL);simp only[List.length_append,List.length_cons,List.length_nil];omega
theorem Qt7{l:L8}{chk:L8->Nat}:∀(f:Nat) (aa:List (L8)) (s:PS),Gp l s->∀ y,moreL l chk f aa s=.ok y->Gp l y.2/\Qiy y.1+64*ph l y.2<=Qiy aa+64*ph l s
 |0,aa,s,h=>fun y e=>by cases e;exact⟨h,Nat.le_refl _⟩
 |f+1,aa,s,h=>fun y e=>by
  rw[moreL]at e
  cases hp:paL l [[44],[93]] s with
  |error g=>rw[hp]at e;cases e
  |ok z=>
   rw[hp]at e;obtain⟨h1,h2⟩:=QcM (zs:=[[44],[93]]) h (by decide) z hp;dsimp only at e
   split at e
   ·cases hs:sL l chk z.2 with
    |error g=>rw[hs]at e;cases e
    |ok x=>
     rw[hs]at e;obtain⟨h3,h4⟩:=QbZ h1 x hs;obtain⟨h5,h6⟩:=Qt7 f _ x.2 h3 y e;refine⟨h5,?_⟩;unfold Qiy at *;rw[List.map_append,QeY,List.map_cons,List.map_nil,QdK]at h6;dsimp only at *;omega
   ·cases e;exact⟨h1,by dsimp only;omega⟩
theorem Qey{l:L8}{chk:L8->Nat}{F:Nat}{s:PS}(h:Gp l s):Bd 16 l Qiy (sLs l chk F s) s:=fun y e=>by
 unfold sLs at e
 cases hm:mayL l [[91]] s with
 |error g=>rw[hm]at e;cases e
 |ok z=>
  rw[hm]at e;obtain⟨h1,h2⟩:=Qet (zs:=[[91]]) h (by decide) z hm;dsimp only at e
  cases hs:sL l chk z.2 with
  |error g=>rw[hs]at e;cases e
  |ok x=>
   rw[hs]at e;obtain⟨h3,h4⟩:=QbZ h1 x hs;dsimp only at e;have h9:Qiy [x.1]=(quotedL x.1).length+2:=by unfold Qiy;rw[List.map_cons,List.map_nil,QdK]
   split at e
   ·cases e;exact⟨h3,by dsimp only at *;omega⟩
   ·obtain⟨h5,h6⟩:=Qt7 F _ x.2 h3 y e;exact⟨h5,by dsimp only at *;omega⟩
theorem QkF(t p:L8):(QaH t p).length<=t.length+1+p.length:=by
 unfold QaH;split<;>simp only[List.length_append,List.length_cons,List.length_nil]<;>omega
def Qcx (ps:List (L8)):Nat:=(ps.map fun p=>p.length+1).sum
theorem Qk8:∀(ps:List (L8)) (t:L8),(ps.foldl QaH t).length<=t.length+Qcx ps
 | [],t=>by simp[Qcx]
 |p::r,t=>by
  have h1:=Qk8 r (QaH t p);have h2:=QkF t p;rw[List.foldl_cons];simp only[Qcx,List.map_cons,List.sum_cons]at h1 ⊢;omega
theorem Qcd(ps:List (L8)):(phraseL ps).length<=Qcx ps:=by
 have:=Qk8 ps [];simpa[phraseL]using this
theorem Qfo(tag:Nat)(aa:List (L8))(m:Nat)(h:∀ z∈aa,z.length<=m):(tagTextL tag aa).length<=m:=by
 unfold tagTextL;split
 ·simp
 ·rw[List.getD_eq_getElem?_getD]
  cases he:aa[tag - 1]? with
  |none=>simp
  |some z=>exact h z (List.mem_of_getElem? he)
theorem Qt0{l:L8}:∀(f tag:Nat) (oct aa:Bool) (s:PS),Gp l s->Bd 0 l (fun _=>0) (Qd3 l f tag oct aa s) s
 |0,tag,oct,aa,s,h=>Bd.okk h rfl
 |f+1,tag,oct,aa,s,h=>fun y e=>by
  rw[Qd3]at e;by_cases h1:wL [tIs,Qaq,Qaz] s.1.spelt=0
  ·rw[if_pos h1]at e;by_cases h2:wL [Qas] s.1.spelt=0
   ·rw[if_pos h2]at e;cases e;exact⟨h,by simp⟩
   ·rw[if_neg h2]at e;cases aa
    ·rw[if_neg (by decide)]at e
     cases hn:nL l s.2 with
     |error g=>rw[QaC hn]at e;cases e
     |ok z=>
      rw[QaE hn]at e;obtain⟨g1,g2⟩:=Qdx h (QdU (zs:=[Qas]) h (by decide) h2) hn
      cases hs:sL l (fun x=>if 0<wL [Qcl,QdD] x then 0 else 7) z with
      |error g=>rw[Qad hs]at e;cases e
      |ok x=>
       rw[Qac hs]at e;obtain⟨g3,g4⟩:=QbZ g1 x hs;obtain⟨g5,g6⟩:=Qt0 f _ _ _ x.2 g3 y e;exact⟨g5,by dsimp only at *;omega⟩
    ·rw[if_pos rfl]at e;cases e
  ·rw[if_neg h1]at e;by_cases ht:tag=0
   ·rw[if_pos ht]at e
    cases hn:nL l s.2 with
    |error g=>rw[QaC hn]at e;cases e
    |ok z=>
     rw[QaE hn]at e;obtain⟨g1,g2⟩:=Qdx h (QdU (zs:=[tIs,Qaq,Qaz]) h (by decide) h1) hn;obtain⟨g5,g6⟩:=Qt0 f _ _ _ z g1 y e;exact⟨g5,by dsimp only at *;omega⟩
   ·rw[if_neg ht]at e;cases e
theorem QfG(hw:L8)(x:Qcv)(h:hw.length<=8):(Qbd hw x).length<=52+Qiy x.fr+Qiy x.keys:=by
 unfold Qbd;have h1:=Qcd [hw,if x.octet then phraseL [Qas,quotedL Qcl]else [],if x.tag≠1 then tagTextL x.tag [tIs,Qaq,Qaz]else [],Qam x.fr,Qam x.keys];have h2:=QeN x.fr;have h3:=QeN x.keys
 have h4:(if x.octet then phraseL [Qas,quotedL Qcl]else []).length<=21:=by
  split
  ·decide
  ·simp
 have h5:(if x.tag≠1 then tagTextL x.tag [tIs,Qaq,Qaz]else []).length<=9:=by
  split
  ·exact Qfo _ _ 9 (by decide)
  ·simp
 simp only[Qcx,List.map_cons,List.map_nil,List.sum_cons,List.sum_nil]at h1;omega
theorem Qi3{l:L8}{F:Nat}{chk:L8->Nat}{k aa:Nat}{s:PS}(h:Gp l s):Bd 16 l (fun x=>Qiy x.fr+Qiy x.keys) (Qbp l F chk k aa s) s:=fun y e=>by
 unfold Qbp at e
 cases h1:Qd3 l F 0 false false s with
 |error f=>rw[Qad h1]at e;cases e
 |ok a=>
  rw[Qac h1]at e;obtain⟨g1,g2⟩:=Qt0 F 0 false false s h a h1
  cases h2:sLs l chk F a.2 with
  |error f=>rw[Qad h2]at e;cases e
  |ok c=>
   rw[Qac h2]at e;obtain⟨g3,g4⟩:=Qey g1 c h2
   cases h3:sLs l (fun _=>0) F c.2 with
   |error f=>rw[Qad h3]at e;cases e
   |ok d=>
    rw[Qac h3]at e;obtain⟨g5,g6⟩:=Qey g3 d h3;cases e;exact⟨g5,by dsimp only at *;omega⟩
theorem Qiu{α:Type}{l:L8}{sub:PS->Except Flt (α×PS)}{txt:α->L8}(hs:∀ s,Gp l s->Bd 8 l (fun x=>(txt x).length) (sub s) s):∀(f:Nat) (aa:List α) (s:PS),Gp l s->∀ y,gMr l sub f aa s=.ok y->Gp l y.2/\Qds (y.1.map txt)+64*ph l y.2<=Qds (aa.map txt)+64*ph l s
 |0,aa,s,h=>fun y e=>by cases e;exact⟨h,Nat.le_refl _⟩
 |f+1,aa,s,h=>fun y e=>by
  rw[gMr]at e
  cases hp:paL l [[44],[41]] s with
  |error g=>rw[Qad hp]at e;cases e
  |ok z=>
   rw[Qac hp]at e;obtain⟨h1,h2⟩:=QcM (zs:=[[44],[41]]) h (by decide) z hp
   split at e
   ·cases hq:sub z.2 with
    |error g=>rw[Qad hq]at e;cases e
    |ok x=>
     rw[Qac hq]at e;obtain⟨h3,h4⟩:=hs z.2 h1 x hq;obtain⟨h5,h6⟩:=Qiu hs f _ x.2 h3 y e;refine⟨h5,?_⟩;rw[List.map_append,QeY,List.map_cons,List.map_nil,QdK]at h6;dsimp only at *;omega
   ·cases e;exact⟨h1,by dsimp only at *;omega⟩
theorem Qrf{α:Type}{l:L8}{F:Nat}{sub:PS->Except Flt (α×PS)}{txt:α->L8}(hs:∀ s,Gp l s->Bd 8 l (fun x=>(txt x).length) (sub s) s){s:PS}(h:Gp l s):Bd 16 l (fun xs=>Qds (xs.map txt)) (groupL l F sub s) s:=fun y e=>by
 unfold groupL at e
 cases hp:paL l [[40]] s with
 |error g=>rw[Qad hp]at e;cases e
 |ok z=>
  rw[Qac hp]at e;obtain⟨h1,h2⟩:=QcM (zs:=[[40]]) h (by decide) z hp
  cases hq:sub z.2 with
  |error g=>rw[Qad hq]at e;cases e
  |ok x=>
   rw[Qac hq]at e;obtain⟨h3,h4⟩:=hs z.2 h1 x hq;obtain⟨h5,h6⟩:=Qiu hs F _ x.2 h3 y e;refine⟨h5,?_⟩;rw[List.map_cons,List.map_nil,QdK]at h6;dsimp only at *;omega
theorem Qtk(n:Nat)(h:n<=2147483647):(iL n).length<=21:=by
 have:=Lib.itoa_length_le n (by omega) (by omega);rw[Lib.itoa_nonneg]at this;exact this
theorem Qtl{l:L8}{aa:Nat}{s:PS}(h:Gp l s):∀ y,sizeL l aa s=.ok y->Gp l y.2/\64*ph l y.2+16<=64*ph l s/\y.1.kind=9/\y.1.num<=2147483647:=fun y e=>by
 unfold sizeL at e
 cases hp:paL l [Qdh,Qb9] s with
 |error g=>rw[Qad hp]at e;cases e
 |ok z=>
  rw[Qac hp]at e;obtain⟨h1,h2⟩:=QcM (zs:=[Qdh,Qb9]) h (by decide) z hp
  split at e
  ·rename_i hk
   cases hn:nL l z.2.2 with
   |error g=>rw[QaC hn]at e;cases e
   |ok x=>
    rw[QaE hn]at e;obtain⟨g1,g2⟩:=Qdx h1 (by omega) hn;cases e;exact⟨g1,by dsimp only at *;omega,rfl,h1.num⟩
  ·cases e
theorem QdN{l:L8}{F:Nat}{chk:L8->Nat}{k aa:Nat}{s:PS}{y:Qcv×PS}(h:Qbp l F chk k aa s=.ok y):y.1.kind=k:=by
 unfold Qbp at h
 cases h1:Qd3 l F 0 false false s with
 |error f=>rw[Qad h1]at h;cases h
 |ok a=>
  rw[Qac h1]at h
  cases h2:sLs l chk F a.2 with
  |error f=>rw[Qad h2]at h;cases h
  |ok c=>
   rw[Qac h2]at h
   cases h3:sLs l (fun _=>0) F c.2 with
   |error f=>rw[Qad h3]at h;cases h
   |ok e=>rw[Qac h3]at h;cases h;rfl
theorem Qsk(x:Qcv)(ts:List (L8))(h:x.kind=5):QaB x ts=Qbd QbX x:=by simp only[QaB,h]
theorem QsP(x:Qcv)(ts:List (L8))(h:x.kind=6):QaB x ts=Qbd QaL x:=by simp only[QaB,h]
theorem QrM(x:Qcv)(ts:List (L8))(h:x.kind=7):QaB x ts=Qbd Qbx x:=by simp only[QaB,h]
theorem QsG(x:Qcv)(ts:List (L8))(h:x.kind=9):QaB x ts=phraseL [Qd5,tagTextL x.tag [Qdh,Qb9],iL x.num]:=by simp only[QaB,h]
theorem QpZ(n:Nat){l:L8}{F:Nat}{sub:PS->Except Flt (Qa6 n×PS)}(hs:∀ s,Gp l s->Bd 8 l (fun x=>(Qay n x).length) (sub s) s)(k aa:Nat){s:PS}(h:Gp l s):∀ y,tBd l F sub k aa s=.ok y->Gp l y.2/\(Qay (n+1) y.1).length+64*ph l y.2<=56+64*ph l s:=by
 intro y e
 have hg:∀(hw:L8) (ts:List (L8)),hw.length<=8->(Qbg hw ts).length<=12+Qds ts:=fun hw ts hl=>by
  have:=Qom ts;simp only[Qbg,List.length_append,List.length_cons,List.length_nil];omega
 unfold tBd at e
 split at e
 ·cases e;exact⟨h,by show(4:Nat)+64*ph l s<=_;omega⟩
 ·cases e;exact⟨h,by show(5:Nat)+64*ph l s<=_;omega⟩
 ·cases hq:sub s with
  |error g=>rw[Qad hq]at e;cases e
  |ok x=>
   rw[Qac hq]at e;obtain⟨h1,h2⟩:=hs s h x hq;cases e;refine⟨h1,?_⟩;show(phraseL [kNot,Qay n x.1]).length+64*ph l x.2<=_
   have:=Qcd [kNot,Qay n x.1];simp only[Qcx,List.map_cons,List.map_nil,List.sum_cons,List.sum_nil,show kNot.length=3 from rfl]at this;dsimp only at *;omega
 ·cases hq:groupL l F sub s with
  |error g=>rw[Qad hq]at e;cases e
  |ok x=>
   rw[Qac hq]at e;obtain⟨h1,h2⟩:=Qrf hs h x hq;cases e;refine⟨h1,?_⟩;show(Qbg QbW (x.1.map (Qay n))).length+64*ph l x.2<=_
   have:=hg QbW (x.1.map (Qay n)) (by decide);dsimp only at *;omega
 ·cases hq:groupL l F sub s with
  |error g=>rw[Qad hq]at e;cases e
  |ok x=>
   rw[Qac hq]at e;obtain⟨h1,h2⟩:=Qrf hs h x hq;cases e;refine⟨h1,?_⟩;show(Qbg QbV (x.1.map (Qay n))).length+64*ph l x.2<=_
   have:=hg QbV (x.1.map (Qay n)) (by decide);dsimp only at *;omega
 ·cases hq:Qbp l F (fun _=>0) 5 aa s with
  |error g=>rw[Qad hq]at e;cases e
  |ok x=>
   rw[Qac hq]at e;obtain⟨h1,h2⟩:=Qi3 h x hq;have h3:=QdN hq;cases e;refine⟨h1,?_⟩;show(QaB x.1 []).length+64*ph l x.2<=_
   have:=QfG QbX x.1 (by decide);rw[Qsk _ _ h3];dsimp only at *;omega
 ·cases hq:Qbp l F (fun x=>if 0<wL [QhJ,kTo] (zL x)then 0 else 7) 6 aa s with
  |error g=>rw[Qad hq]at e;cases e
  |ok x=>
   rw[Qac hq]at e;obtain⟨h1,h2⟩:=Qi3 h x hq;have h3:=QdN hq;cases e;refine⟨h1,?_⟩;show(QaB x.1 []).length+64*ph l x.2<=_
   have:=QfG QaL x.1 (by decide);rw[QsP _ _ h3];dsimp only at *;omega
 ·cases hq:Qbp l F (fun _=>0) 7 aa s with
  |error g=>rw[Qad hq]at e;cases e
  |ok x=>
   rw[Qac hq]at e;obtain⟨h1,h2⟩:=Qi3 h x hq;have h3:=QdN hq;cases e;refine⟨h1,?_⟩;show(QaB x.1 []).length+64*ph l x.2<=_
   have:=QfG Qbx x.1 (by decide);rw[QrM _ _ h3];dsimp only at *;omega
 ·cases hq:sLs l (fun _=>0) F s with
  |error g=>rw[Qad hq]at e;cases e
  |ok x=>
   rw[Qac hq]at e;obtain⟨h1,h2⟩:=Qey h x hq;cases e;refine⟨h1,?_⟩;show(phraseL [QbK,Qam x.1]).length+64*ph l x.2<=_
   have h3:=Qcd [QbK,Qam x.1];have h4:=QeN x.1;simp only[Qcx,List.map_cons,List.map_nil,List.sum_cons,List.sum_nil,show QbK.length=6 from rfl]at h3;omega
 ·cases hq:sizeL l aa s with
  |error g=>rw[Qad hq]at e;cases e
  |ok x=>
   rw[Qac hq]at e;obtain⟨h1,h2,h3,h4⟩:=Qtl h x hq;cases e;refine⟨h1,?_⟩;show(QaB x.1 []).length+64*ph l x.2<=_
   have h5:=Qcd [Qd5,tagTextL x.1.tag [Qdh,Qb9],iL x.1.num];have h6:=Qfo x.1.tag [Qdh,Qb9] 6 (by decide);have h7:=Qtk x.1.num h4;simp only[Qcx,List.map_cons,List.map_nil,List.sum_cons,List.sum_nil,show Qd5.length=4 from rfl]at h5;rw[QsG _ _ h3];omega
theorem QlU{l:L8}{req:List (L8)}{F:Nat}:∀(n:Nat) (s:PS),Gp l s->Bd 8 l (fun x=>(Qay n x).length) (testL l req F n s) s
 |0,s,h=>by
  rw[testL];split<;>exact Bd.err
 |n+1,s,h=>fun y e=>by
  rw[testL]at e;by_cases h0:wL tNs s.1.spelt=0
  ·rw[if_pos h0]at e;cases e
  ·rw[if_neg h0]at e;cases hu:Qb6 req s.1.spelt
   ·rw[hu,if_neg (by decide)]at e;cases e
   ·rw[hu,if_pos rfl]at e
    cases hn:nL l s.2 with
    |error g=>cases(QaC hn).symm.trans e
    |ok z=>
     replace e:=(QaE hn).symm.trans e;obtain⟨g1,g2⟩:=Qdx h (QdU (zs:=tNs) h (by decide) h0) hn;obtain⟨g3,g4⟩:=QpZ n (fun s g=>QlU n s g) _ _ g1 y e;exact⟨g3,by dsimp only at *;omega⟩
def Qbu {α:Type} (c:α→Nat) (xs:List α):Nat:=(xs.map c).sum
theorem QdL{α:Type}(c:α->Nat)(xs:List α)(x:α):Qbu c (xs++[x])=Qbu c xs+c x:=by simp[Qbu]
theorem Qf1{α:Type}(txt:α->L8->L8)(i:L8):∀ cs:List α,(linesL txt cs i).length=Qbu (fun c=>i.length+(txt c i).length+1) cs
 | []=>rfl
 |c::r=>by
  have:=Qf1 txt i r;simp only[linesL,Qbu,List.flatMap_cons,List.length_append,List.map_cons,List.sum_cons,List.length_cons,List.length_nil]at this ⊢;omega
def Ct {α:Type} (k:Nat) (l:L8) (c:α→Nat) (r:Except Flt (α×PS)) (s:PS):Prop:=∀ y,r=.ok y→Gp l y.2∧c y.1+k+64*ph l y.2≤64*ph l s
theorem QiB{α:Type}{l:L8}{sub:PS->Except Flt (α×PS)}{c:α->Nat}(hs:∀ s,Gp l s->Ct 0 l c (sub s) s):∀(f:Nat) (aa:List α) (s:PS),Gp l s->∀ y,bMr l sub f aa s=.ok y->Gp l y.2/\Qbu c y.1+64*ph l y.2<=Qbu c aa+64*ph l s
 |0,aa,s,h=>fun y e=>by cases e;exact⟨h,Nat.le_refl _⟩
 |f+1,aa,s,h=>fun y e=>by
  rw[bMr]at e
  cases hp:mayL l [[125]] s with
  |error g=>rw[Qad hp]at e;cases e
  |ok z=>
   rw[Qac hp]at e;obtain⟨h1,h2⟩:=Qet (zs:=[[125]]) h (by decide) z hp
   split at e
   ·cases hq:sub z.2 with
    |error g=>rw[Qad hq]at e;cases e
    |ok x=>
     rw[Qac hq]at e;obtain⟨h3,h4⟩:=hs z.2 h1 x hq;obtain⟨h5,h6⟩:=QiB hs f _ x.2 h3 y e;refine⟨h5,?_⟩;rw[QdL]at h6;dsimp only at *;omega
   ·cases e;exact⟨h1,by dsimp only at *;omega⟩
theorem Qry{α:Type}{l:L8}{F:Nat}{sub:PS->Except Flt (α×PS)}{c:α->Nat}(hs:∀ s,Gp l s->Ct 0 l c (sub s) s){s:PS}(h:Gp l s):Ct 64 l (Qbu c) (blockL l F sub s) s:=fun y e=>by
 unfold blockL at e
 cases hp:paL l [[123]] s with
 |error g=>rw[Qad hp]at e;cases e
 |ok z=>
  rw[Qac hp]at e;obtain⟨h1,h2⟩:=QcM (zs:=[[123]]) h (by decide) z hp;obtain⟨h5,h6⟩:=QiB hs F _ z.2 h1 y e;refine⟨h5,?_⟩;have:Qbu c ([]:List α)=0:=rfl;dsimp only at *;omega
theorem QwI{α β:Type}{l:L8}{F:Nat}{aa:PS->Except Flt (β×PS)}{sub:PS->Except Flt (α×PS)}{ct:β->Nat}{c:α->Nat}(ht:∀ s,Gp l s->Ct 0 l ct (aa s) s)(hs:∀ s,Gp l s->Ct 0 l c (sub s) s){s:PS}(h:Gp l s):Ct 0 l (fun a=>64+ct a.1+Qbu c a.2) (armL l F aa sub s) s:=fun y e=>by
 unfold armL at e
 cases hp:aa s with
 |error g=>rw[Qad hp]at e;cases e
 |ok z=>
  rw[Qac hp]at e;obtain⟨h1,h2⟩:=ht s h z hp
  cases hq:blockL l F sub z.2 with
  |error g=>rw[Qad hq]at e;cases e
  |ok x=>
   rw[Qac hq]at e;obtain⟨h3,h4⟩:=Qry hs h1 x hq;cases e;exact⟨h3,by dsimp only at *;omega⟩
theorem QuN{α β:Type}{l:L8}{F:Nat}{ab:PS->Except Flt (β×PS)}{sub:PS->Except Flt (α×PS)}{ct:β->Nat}{c:α->Nat}(ht:∀ s,Gp l s->Ct 0 l ct (ab s) s)(hs:∀ s,Gp l s->Ct 0 l c (sub s) s):∀(f:Nat) (aa:List (β×List α)) (s:PS),Gp l s->∀ y,aMr l F ab sub f aa s=.ok y->Gp l y.2/\Qbu (fun a=>64+ct a.1+Qbu c a.2) y.1+64*ph l y.2<=Qbu (fun a=>64+ct a.1+Qbu c a.2) aa+64*ph l s
 |0,aa,s,h=>fun y e=>by cases e;exact⟨h,Nat.le_refl _⟩
 |f+1,aa,s,h=>fun y e=>by
  rw[aMr]at e
  cases hp:mayL l [QbM] s with
  |error g=>rw[Qad hp]at e;cases e
  |ok z=>
   rw[Qac hp]at e;obtain⟨h1,h2⟩:=Qet (zs:=[QbM]) h (by decide) z hp
   split at e
   ·cases e;exact⟨h1,by dsimp only at *;omega⟩
   ·cases hq:armL l F ab sub z.2 with
    |error g=>rw[Qad hq]at e;cases e
    |ok x=>
     rw[Qac hq]at e;obtain⟨h3,h4⟩:=QwI ht hs h1 x hq;obtain⟨h5,h6⟩:=QuN ht hs f _ x.2 h3 y e;refine⟨h5,?_⟩;rw[QdL]at h6;dsimp only at *;omega
theorem QrZ(aa i t b:L8)(hw:aa.length<=7)(hi:i.length<=14):(Qc4 aa i t b).length<=32+t.length+b.length:=by
 have:=Qcd [aa,t,Qfe];simp only[Qcx,List.map_cons,List.map_nil,List.sum_cons,List.sum_nil,show Qfe.length=2 from rfl]at this;simp only[Qc4,List.length_append];omega
theorem QjE(i:L8)(hi:i.length<=14):∀(as:List (L8×L8)) (aa:L8),aa.length<=7->(Qa9 i aa as).length<=Qbu (fun a=>32+a.1.length+a.2.length) as
 | [],aa,_=>by simp[Qa9,Qbu]
 |a::r,aa,hw=>by
  have h1:=QrZ aa i a.1 a.2 hw hi;have h2:=QjE i hi r Qce (by decide);simp only[Qa9,Qbu,List.length_append,List.map_cons,List.sum_cons]at h2 ⊢;omega
theorem Qij{α β:Type}(f:α->β)(c:β->Nat)(d:α->Nat)(h:∀ a,c (f a)<=d a):∀ xs:List α,Qbu c (xs.map f)<=Qbu d xs
 | []=>Nat.le_refl _
 |x::r=>by
  have h1:=Qij f c d h r;have h2:=h x;simp only[Qbu,List.map_cons,List.sum_cons,List.map_map]at h1 ⊢;omega
def Qdi (n:Nat) (i:L8) (x:Qbo n):Nat:=i.length+(Qa0 n x i).length+1
theorem QgC{α:Type}{l:L8}{s:PS}{a:α}(h:Gp l s):∀ y,semi l s a=.ok y->y.1=a/\Gp l y.2/\64*ph l y.2<=64*ph l s:=fun y e=>by
 unfold semi at e
 cases hp:paL l [[59]] s with
 |error g=>rw[Qad hp]at e;cases e
 |ok z=>
  rw[Qac hp]at e;obtain⟨h1,h2⟩:=QcM (zs:=[[59]]) h (by decide) z hp;cases e;exact⟨rfl,h1,by dsimp only at *;omega⟩
theorem Qmw(x:L8):(quotedL (zL x)).length<=2*x.length+2:=by
 have:=Qjk (zL x);simpa[zL]using this
theorem QqB{l:L8}{chk:L8->Nat}{s:PS}(h:Gp l s):∀ y,sL l chk s=.ok y->2*y.1.length+2+32+64*ph l y.2<=64*ph l s:=fun y e=>by
 unfold sL at e
 split at e
 ·rename_i hk
  split at e
  ·cases hn:nL l s.2 with
   |error f=>rw[hn]at e;cases e
   |ok s'=>
    rw[hn]at e;cases e;obtain⟨h1,h2⟩:=Qi6 h hn;have h3:=h.said hk;have h4:=h.le;have h5:=h1.le;have h6:=h1.lt;have h8:=h.lt;show 2*s.1.said.length+2+32+64*ph l s'<=64*ph l s
    unfold ph;omega
  ·cases e
 ·cases e
theorem Qss(n:Nat){l:L8}{F:Nat}{aa:PS->Except Flt (Qa6 n×PS)}{sub:PS->Except Flt (Qbo n×PS)}(i:L8)(hi:i.length<=14)(ht:∀ s,Gp l s->Ct 0 l (fun x=>(Qay n x).length) (aa s) s)(hs:∀ s,Gp l s->Ct 0 l (Qdi n (i++[32,32])) (sub s) s)(k ac:Nat){s:PS}(h:Gp l s):∀ y,cBd l F aa sub k ac s=.ok y->Gp l y.2/\Qdi (n+1) i y.1+64*ph l y.2<=64+64*ph l s:=by
 intro y e;unfold cBd at e
 split at e
 ·obtain⟨e1,h1,h2⟩:=QgC h y e;refine⟨h1,?_⟩;rw[e1];show i.length+5+1+64*ph l y.2<=_
  omega
 ·obtain⟨e1,h1,h2⟩:=QgC h y e;refine⟨h1,?_⟩;rw[e1];show i.length+8+1+64*ph l y.2<=_
  omega
 ·obtain⟨e1,h1,h2⟩:=QgC h y e;refine⟨h1,?_⟩;rw[e1];show i.length+5+1+64*ph l y.2<=_
  omega
 ·cases hq:sL l (fun _=>0) s with
  |error g=>rw[Qad hq]at e;cases e
  |ok x=>
   rw[Qac hq]at e;obtain⟨g1,g2⟩:=QbZ h x hq;obtain⟨e1,h1,h2⟩:=QgC g1 y e;refine⟨h1,?_⟩;rw[e1];show i.length+(phraseL [QaO,quotedL x.1]++[59]).length+1+64*ph l y.2<=_
   have h3:=Qcd [QaO,quotedL x.1];simp only[Qcx,List.map_cons,List.map_nil,List.sum_cons,List.sum_nil,show QaO.length=8 from rfl]at h3;simp only[List.length_append,List.length_cons,List.length_nil];dsimp only at g2;omega
 ·cases hq:sL l (fun _=>0) s with
  |error g=>rw[Qad hq]at e;cases e
  |ok x=>
   rw[Qac hq]at e;obtain⟨g1,g2⟩:=QbZ h x hq;obtain⟨e1,h1,h2⟩:=QgC g1 y e;refine⟨h1,?_⟩;rw[e1];show i.length+(phraseL [Qbl,quotedL x.1]++[59]).length+1+64*ph l y.2<=_
   have h3:=Qcd [Qbl,quotedL x.1];simp only[Qcx,List.map_cons,List.map_nil,List.sum_cons,List.sum_nil,show Qbl.length=8 from rfl]at h3;simp only[List.length_append,List.length_cons,List.length_nil];dsimp only at g2;omega
 ·cases hq:sL l (fun _=>0) s with
  |error g=>rw[Qad hq]at e;cases e
  |ok x=>
   rw[Qac hq]at e;obtain⟨g1,g2⟩:=QbZ h x hq;obtain⟨e1,h1,h2⟩:=QgC g1 y e;refine⟨h1,?_⟩;rw[e1];show i.length+(phraseL [Qbc,quotedL x.1]++[59]).length+1+64*ph l y.2<=_
   have h3:=Qcd [Qbc,quotedL x.1];simp only[Qcx,List.map_cons,List.map_nil,List.sum_cons,List.sum_nil,show Qbc.length=6 from rfl]at h3;simp only[List.length_append,List.length_cons,List.length_nil];dsimp only at g2;omega
 ·cases hm:mayL l [QbT,QbU,Qbr] s with
  |error g=>rw[Qad hm]at e;cases e
  |ok m=>
   rw[Qac hm]at e;obtain⟨g0,ab⟩:=Qet (zs:=[QbT,QbU,Qbr]) h (by decide) m hm
   cases hv:sL l (fun x=>if isNameL x then 0 else 7) m.2 with
   |error g=>rw[Qad hv]at e;cases e
   |ok v=>
    rw[Qac hv]at e;obtain⟨g3,g4⟩:=QbZ g0 v hv;have g5:=QqB g0 v hv
    cases hq:sL l (fun _=>0) v.2 with
    |error g=>rw[Qad hq]at e;cases e
    |ok x=>
     rw[Qac hq]at e;obtain⟨g1,g2⟩:=QbZ g3 x hq;obtain⟨e1,h1,h2⟩:=QgC g1 y e;refine⟨h1,?_⟩;rw[e1];show i.length+(phraseL [QhB,tagTextL m.1 [QbT,QbU,Qbr],quotedL (zL v.1),quotedL x.1]++[59]).length+1+64*ph l y.2<=_
     have h3:=Qcd [QhB,tagTextL m.1 [QbT,QbU,Qbr],quotedL (zL v.1),quotedL x.1];have h4:=Qfo m.1 [QbT,QbU,Qbr] 7 (by decide);have h5:=Qmw v.1;simp only[Qcx,List.map_cons,List.map_nil,List.sum_cons,List.sum_nil,show QhB.length=3 from rfl]at h3;simp only[List.length_append,List.length_cons,List.length_nil];dsimp only at g2 ab g4;omega
 ·cases ha:armL l F aa sub s with
  |error g=>rw[Qad ha]at e;cases e
  |ok a=>
   rw[Qac ha]at e;obtain⟨g1,g2⟩:=QwI ht hs h a ha
   cases hb:aMr l F aa sub F [a.1] a.2 with
   |error g=>rw[Qad hb]at e;cases e
   |ok bb=>
    rw[Qac hb]at e;obtain⟨g3,g4⟩:=QuN ht hs F _ a.2 g1 bb hb;have hone:Qbu (fun a:Qa6 n×List (Qbo n)=>64+(Qay n a.1).length+Qbu (Qdi n (i++[32,32])) a.2) [a.1]=64+(Qay n a.1.1).length+Qbu (Qdi n (i++[32,32])) a.1.2:=by simp[Qbu]
    cases hm:mayL l [Qch] bb.2 with
    |error g=>rw[Qad hm]at e;cases e
    |ok m=>
     rw[Qac hm]at e;obtain⟨g5,g6⟩:=Qet (zs:=[Qch]) g3 (by decide) m hm
     have hA:(Qa9 i kIf (bb.1.map fun a:Qa6 n×List (Qbo n)=>(Qay n a.1,linesL (Qa0 n) a.2 (i++[32,32])))).length<=Qbu (fun a:Qa6 n×List (Qbo n)=>64+(Qay n a.1).length+Qbu (Qdi n (i++[32,32])) a.2) bb.1:=by
      refine Nat.le_trans (QjE i hi _ kIf (by decide)) (Qij _ _ _ (fun a=>?_) bb.1);dsimp only;have:=Qf1 (Qa0 n) (i++[32,32]) a.2;rw[this];unfold Qdi;omega
     split at e
     ·cases e;refine⟨g5,?_⟩;show i.length+(Qa9 i kIf (bb.1.map fun a:Qa6 n×List (Qbo n)=>(Qay n a.1,linesL (Qa0 n) a.2 (i++[32,32])))++(if false then QeI++linesL (Qa0 n) [] (i++[32,32])++i else [])++[125]).length+1+64*ph l m.2<=_
      simp only[Bool.false_eq_true,if_false,List.length_append,List.length_cons,List.length_nil];dsimp only at *;omega
     ·rename_i hm0
      cases hc:blockL l F sub m.2 with
      |error g=>rw[Qad hc]at e;cases e
      |ok cs=>
       rw[Qac hc]at e;obtain⟨g7,g8⟩:=Qry hs g5 cs hc;cases e;refine⟨g7,?_⟩;show i.length+(Qa9 i kIf (bb.1.map fun a:Qa6 n×List (Qbo n)=>(Qay n a.1,linesL (Qa0 n) a.2 (i++[32,32])))++(if true then QeI++linesL (Qa0 n) cs.1 (i++[32,32])++i else [])++[125]).length+1+64*ph l cs.2<=_
       have hl:=Qf1 (Qa0 n) (i++[32,32]) cs.1;simp only[if_true,List.length_append,List.length_cons,List.length_nil,show QeI.length=9 from rfl]at hl ⊢;rw[hl]
       have:Qbu (fun c=>i.length+(0+1+1)+(Qa0 n c (i++[32,32])).length+1) cs.1=Qbu (Qdi n (i++[32,32])) cs.1:=by
        congr 1;funext c;simp[Qdi]
       dsimp only at *;omega
theorem QrA{l:L8}{req:List (L8)}{F:Nat}:∀(n:Nat) (i:L8),i.length+2*n<=14->∀(s:PS),Gp l s->Ct 0 l (Qdi n i) (cmdL l req F n s) s
 |0,i,hi,s,h=>by
  rw[cmdL];split<;>exact fun y e=>by cases e
 |n+1,i,hi,s,h=>fun y e=>by
  rw[cmdL]at e;by_cases h0:wL cNs s.1.spelt=0
  ·rw[if_pos h0]at e;cases e
  ·rw[if_neg h0]at e;cases hu:Qb6 req s.1.spelt
   ·rw[hu,if_neg (by decide)]at e;cases e
   ·rw[hu,if_pos rfl]at e
    cases hn:nL l s.2 with
    |error g=>cases(QaC hn).symm.trans e
    |ok z=>
     replace e:=(QaE hn).symm.trans e;obtain⟨g1,g2⟩:=Qdx h (QdU (zs:=cNs) h (by decide) h0) hn;obtain⟨g3,g4⟩:=Qss n i (by omega) (fun s g y e=>by obtain⟨a1,a2⟩:=QlU n s g y e;exact⟨a1,by dsimp only at *;omega⟩) (fun s g=>QrA n (i++[32,32]) (by simp only[List.length_append,List.length_cons,List.length_nil];omega) s g) _ _ g1 y e;exact⟨g3,by omega⟩
theorem QsU(req:List (L8))(x:L8):Qiy (Qcr req x)<=Qiy req+(quotedL x).length+2:=by
 unfold Qcr;split
 ·omega
 ·unfold Qiy;rw[List.map_append,QeY,List.map_cons,List.map_nil,QdK];omega
theorem Qkk:∀(xs req:List (L8)),Qiy (xs.foldl Qcr req)<=Qiy req+Qiy xs
 | [],req=>by simp
 |x::r,req=>by
  have h1:=Qkk r (Qcr req x);have h2:=QsU req x;have h3:Qiy (x::r)=(quotedL x).length+2+Qiy r:=by unfold Qiy;rw[List.map_cons,QjP]
  rw[List.foldl_cons];omega
theorem Qf3{l:L8}{F:Nat}:∀(f:Nat) (req:List (L8)) (s:PS),Gp l s->∀ y,reqMore l F f req s=.ok y->Gp l y.2/\Qiy y.1+64*ph l y.2<=Qiy req+64*ph l s
 |0,req,s,h=>fun y e=>by cases e;exact⟨h,Nat.le_refl _⟩
 |f+1,req,s,h=>fun y e=>by
  rw[reqMore]at e
  cases hp:mayL l [kRequire] s with
  |error g=>rw[Qad hp]at e;cases e
  |ok z=>
   rw[Qac hp]at e;obtain⟨h1,h2⟩:=Qet (zs:=[kRequire]) h (by decide) z hp
   split at e
   ·cases e;exact⟨h1,by dsimp only at *;omega⟩
   ·cases hq:sLs l (fun x=>if 0<wL [QaL,QaO,Qbc,Qbw] x then 0 else 6) F z.2 with
    |error g=>rw[Qad hq]at e;cases e
    |ok x=>
     rw[Qac hq]at e;obtain⟨h3,h4⟩:=Qey h1 x hq
     cases hr:paL l [[59]] x.2 with
     |error g=>rw[Qad hr]at e;cases e
     |ok v=>
      rw[Qac hr]at e;obtain⟨h5,h6⟩:=QcM (zs:=[[59]]) h3 (by decide) v hr;obtain⟨h7,h8⟩:=Qf3 f _ v.2 h5 y e;have h9:=Qkk x.1 req;refine⟨h7,?_⟩;dsimp only at *;omega
theorem QgM{α:Type}{l:L8}{sub:PS->Except Flt (α×PS)}{c:α->Nat}(hs:∀ s,Gp l s->Ct 0 l c (sub s) s):∀(f:Nat) (aa:List α) (s:PS),Gp l s->∀ y,cMr sub f aa s=.ok y->Qbu c y<=Qbu c aa+64*ph l s
 |0,aa,s,h=>fun y e=>by cases e;omega
 |f+1,aa,s,h=>fun y e=>by
  rw[cMr]at e
  split at e
  ·cases e;omega
  ·cases hq:sub s with
   |error g=>rw[hq]at e;cases e
   |ok x=>
    rw[hq]at e;obtain⟨h3,h4⟩:=hs s h x hq;have h6:=QgM hs f _ x.2 h3 y e;rw[QdL]at h6;omega
theorem QoB{l:L8}{y:List (L8)×List (Qbo 7)}(h:prL l=.ok y):(textL y).length<=64*l.length+64:=by
 unfold prL at h;dsimp only at h;generalize 2*l.length+10=F at h
 cases h1:nL l 0 with
 |error f=>rw[h1]at h;cases h
 |ok s=>
  rw[h1]at h;dsimp only at h
  have hg:Gp l s:=by
   unfold nL at h1
   cases hs:QbJ (l.length+1) (l.drop 0) 0 with
   |error f=>rw[hs]at h1;cases h1
   |ok n=>
    rw[hs]at h1;exact(QiW l n (QdE l _ 0 n (Nat.zero_le _) hs).2 s h1).1
  cases h3:reqMore l F F [] s with
  |error f=>rw[h3]at h;cases h
  |ok z=>
   rw[h3]at h;dsimp only at h;obtain⟨g1,g2⟩:=Qf3 F [] s hg z h3
   cases h4:cMr (cmdL l z.1 F 7) F [] z.2 with
   |error f=>rw[h4]at h;cases h
   |ok cs=>
    rw[h4]at h;have g3:=QgM (c:=Qdi 7 []) (fun s g=>QrA 7 [] (by decide) s g) F [] z.2 g1 cs h4;cases h;have g4:=Qf1 (Qa0 7) [] cs;have g5:Qbu (fun c=>([]:L8).length+(Qa0 7 c []).length+1) cs=Qbu (Qdi 7 []) cs:=rfl
    have g6:(requireTxt z.1).length<=Qiy z.1+12:=by
     unfold requireTxt;split
     ·simp
     ·have:=QeN z.1;simp only[List.length_append,List.length_cons,List.length_nil,show kRequire.length=7 from rfl];omega
    have g7:Qiy ([]:List (L8))=0:=rfl;have g8:Qbu (Qdi 7 []) ([]:List (Qbo 7))=0:=rfl;have g9:ph l s<=l.length:=by unfold ph;omega
    show(requireTxt z.1++linesL (Qa0 7) cs []).length<=_
    rw[List.length_append];omega
structure WfT (req:List (L8)) (x:Qcv) (m:Nat):Prop where
 kind:x.kind≤9
 use:Qb6 req (tNs.getD x.kind [])=true
 one:x.kind=2→m=1
 many:x.kind=3∨x.kind=4→0 < m
 leaf:x.kind≤1∨5≤x.kind→m=0
 tag:5≤x.kind→x.kind≤7→1≤x.tag∧x.tag≤3
 frm:5≤x.kind→x.kind≤8→x.fr≠[]
 keys:5≤x.kind→x.kind≤7→x.keys≠[]
 env:x.kind=6→∀ z∈x.fr,0 < wL [QhJ,kTo] (zL z)
 size:x.kind=9→1≤x.tag∧x.tag≤2
 num:x.num≤2147483647
 num0:x.kind≠9→x.num=0
 tag0:x.kind≤4∨x.kind=8→x.tag=0
 oct0:x.kind≤4∨8≤x.kind→x.octet=false
 fr0:x.kind≤4∨x.kind=9→x.fr=[]
 keys0:x.kind≤4∨8≤x.kind→x.keys=[]
structure WfC (req:List (L8)) (x:Qgt) (a e:Nat):Prop where
 kind:x.kind≤7
 use:Qb6 req (cNs.getD x.kind [])=true
 tag:x.tag≤3
 tag0:x.kind≠6→x.tag=0
 arg0:x.kind≤2∨x.kind=7→x.arg=[]
 var0:x.kind≠6→x.var=[]
 var:x.kind=6→∃ v,isNameL v=true∧x.var=zL v
 els0:x.kind≠7→x.els=false
 arms:x.kind=7→0 < a
 arms0:x.kind≠7→a=0
 else0:x.els=false→e=0
def QiY (p:Qcv→Nat→Prop):(n:Nat)→Qa6 n→Prop
 | 0,_=>False
 | n+1,x=>p x.1 x.2.length∧∀ a∈x.2,QiY p n a
def allC (p:Qcv→Nat→Prop) (q:Qgt→Nat→Nat→Prop):(n:Nat)→Qbo n→Prop
 | 0,_=>False
 | n+1,x=>q x.1 x.2.1.length x.2.2.length∧(∀ a∈x.2.1,QiY p n a.1∧∀ c∈a.2,allC p q n c)∧∀ c∈x.2.2,allC p q n c
theorem Qge:∀(zs:List (L8)) (x:L8),¬ wL zs x=0->zs.getD (wL zs x - 1) []=x
 | [],x,h=>absurd rfl h
 |s::r,x,h=>by
  unfold wL at h ⊢;split
  ·rename_i e;simp[e]
  ·rename_i e;rw[if_neg e]at h;split
   ·rename_i e0;rw[if_pos e0]at h;exact absurd rfl h
   ·rename_i e0;have ih:=Qge r x e0;have e1:wL r x+1 - 1=(wL r x - 1)+1:=by omega
    rw[e1];simpa using ih
def Has {α:Type} (P:α→Prop) (r:Except Flt (α×PS)):Prop:=∀ y,r=.ok y→P y.1
theorem Qh3{l:L8}{chk:L8->Nat}{s:PS}:Has (fun x=>chk x=0) (sL l chk s):=fun y e=>by
 unfold sL at e
 split at e
 ·split at e
  ·rename_i hc
   cases hn:nL l s.2 with
   |error f=>rw[hn]at e;cases e
   |ok s'=>rw[hn]at e;cases e;exact hc
  ·cases e
 ·cases e
theorem QqQ{l:L8}{chk:L8->Nat}:∀(f:Nat) (aa:List (L8)) (s:PS),aa≠[]->(∀ z∈aa,chk z=0)->Has (fun xs=>xs≠[]/\∀ z∈xs,chk z=0) (moreL l chk f aa s)
 |0,aa,s,h,hc=>fun y e=>by cases e;exact⟨h,hc⟩
 |f+1,aa,s,h,hc=>fun y e=>by
  rw[moreL]at e
  cases hp:paL l [[44],[93]] s with
  |error g=>rw[hp]at e;cases e
  |ok z=>
   rw[hp]at e;dsimp only at e
   split at e
   ·cases hs:sL l chk z.2 with
    |error g=>rw[hs]at e;cases e
    |ok x=>
     rw[hs]at e;have h1:=Qh3 x hs;refine QqQ f _ x.2 (by simp) (fun u hu=>?_) y e;rcases List.mem_append.1 hu with hu|hu
     ·exact hc u hu
     ·rw[List.mem_singleton.1 hu];exact h1
   ·cases e;exact⟨h,hc⟩
theorem QeL{l:L8}{chk:L8->Nat}{F:Nat}{s:PS}:Has (fun xs=>xs≠[]/\∀ z∈xs,chk z=0) (sLs l chk F s):=fun y e=>by
 unfold sLs at e
 cases hm:mayL l [[91]] s with
 |error g=>rw[hm]at e;cases e
 |ok z=>
  rw[hm]at e;dsimp only at e
  cases hs:sL l chk z.2 with
  |error g=>rw[hs]at e;cases e
  |ok x=>
   rw[hs]at e;have h1:=Qh3 x hs;dsimp only at e
   split at e
   ·cases e;exact⟨by simp,fun u hu=>by rw[List.mem_singleton.1 hu];exact h1⟩
   ·exact QqQ F [x.1] x.2 (by simp) (fun u hu=>by rw[List.mem_singleton.1 hu];exact h1) y e
theorem Qu6{l:L8}{zs:List (L8)}{s:PS}:Has (fun i=>1<=i/\i<=zs.length) (paL l zs s):=fun y e=>by
 unfold paL at e
 split at e
 ·cases e
 ·rename_i h0
  cases hn:nL l s.2 with
  |error f=>rw[hn]at e;cases e
  |ok s'=>rw[hn]at e;cases e;have:=QbN zs s.1.spelt;dsimp only;omega
theorem Qxx{l:L8}{zs:List (L8)}{s:PS}:Has (fun i=>i<=zs.length) (mayL l zs s):=fun y e=>by
 unfold mayL at e
 split at e
 ·cases e;exact Nat.zero_le _
 ·cases hn:nL l s.2 with
  |error f=>rw[hn]at e;cases e
  |ok s'=>rw[hn]at e;cases e;exact QbN zs s.1.spelt
theorem Qql{l:L8}:∀(f tag:Nat) (oct aa:Bool) (s:PS),Gp l s->ph l s<f->tag<=3->Has (fun o=>1<=o.1/\o.1<=3) (Qd3 l f tag oct aa s)
 |0,tag,oct,aa,s,h,hf,ht=>by omega
 |f+1,tag,oct,aa,s,h,hf,ht=>fun y e=>by
  rw[Qd3]at e;by_cases h1:wL [tIs,Qaq,Qaz] s.1.spelt=0
  ·rw[if_pos h1]at e;by_cases h2:wL [Qas] s.1.spelt=0
   ·rw[if_pos h2]at e;cases e;dsimp only;omega
   ·rw[if_neg h2]at e;cases aa
    ·rw[if_neg (by decide)]at e
     cases hn:nL l s.2 with
     |error g=>rw[QaC hn]at e;cases e
     |ok z=>
      rw[QaE hn]at e;obtain⟨g1,g2⟩:=Qdx h (QdU (zs:=[Qas]) h (by decide) h2) hn
      cases hs:sL l (fun x=>if 0<wL [Qcl,QdD] x then 0 else 7) z with
      |error g=>rw[Qad hs]at e;cases e
      |ok x=>
       rw[Qac hs]at e;obtain⟨g3,g4⟩:=QbZ g1 x hs;exact Qql f _ _ _ x.2 g3 (by omega) ht y e
    ·rw[if_pos rfl]at e;cases e
  ·rw[if_neg h1]at e;by_cases h3:tag=0
   ·rw[if_pos h3]at e
    cases hn:nL l s.2 with
    |error g=>rw[QaC hn]at e;cases e
    |ok z=>
     rw[QaE hn]at e;obtain⟨g1,g2⟩:=Qdx h (QdU (zs:=[tIs,Qaq,Qaz]) h (by decide) h1) hn;exact Qql f _ _ _ z g1 (by omega) (QbN [tIs,Qaq,Qaz] s.1.spelt) y e
   ·rw[if_neg h3]at e;cases e
theorem Qkx{l:L8}{F:Nat}{chk:L8->Nat}{k aa:Nat}{s:PS}(h:Gp l s)(hF:l.length<F):Has (fun x=>x=⟨k,aa,x.tag,x.octet,x.fr,x.keys,0⟩/\1<=x.tag/\x.tag<=3/\x.fr≠[]/\x.keys≠[]/\∀ z∈x.fr,chk z=0) (Qbp l F chk k aa s):=fun y e=>by
 unfold Qbp at e
 cases h1:Qd3 l F 0 false false s with
 |error f=>rw[Qad h1]at e;cases e
 |ok a=>
  rw[Qac h1]at e;have g0:=Qql F 0 false false s h (by unfold ph;omega) (by omega) a h1
  cases h2:sLs l chk F a.2 with
  |error f=>rw[Qad h2]at e;cases e
  |ok c=>
   rw[Qac h2]at e;have g1:=QeL c h2
   cases h3:sLs l (fun _=>0) F c.2 with
   |error f=>rw[Qad h3]at e;cases e
   |ok d=>
    rw[Qac h3]at e;have g2:=QeL d h3;cases e;exact⟨rfl,g0.1,g0.2,g1.1,g2.1,g1.2⟩
theorem Qhu{α:Type}{l:L8}{sub:PS->Except Flt (α×PS)}{P:α->Prop}(hg:∀ s,Gp l s->∀ y,sub s=.ok y->Gp l y.2)(hs:∀ s,Gp l s->Has P (sub s)):∀(f:Nat) (aa:List α) (s:PS),Gp l s->aa≠[]->(∀ a∈aa,P a)->Has (fun xs=>xs≠[]/\∀ a∈xs,P a) (gMr l sub f aa s)
 |0,aa,s,g,h,hc=>fun y e=>by cases e;exact⟨h,hc⟩
 |f+1,aa,s,g,h,hc=>fun y e=>by
  rw[gMr]at e
  cases hp:paL l [[44],[41]] s with
  |error g=>rw[Qad hp]at e;cases e
  |ok z=>
   rw[Qac hp]at e;obtain⟨h1,h2⟩:=QcM (zs:=[[44],[41]]) g (by decide) z hp
   split at e
   ·cases hq:sub z.2 with
    |error g=>rw[Qad hq]at e;cases e
    |ok x=>
     rw[Qac hq]at e;refine Qhu hg hs f _ x.2 (hg _ h1 x hq) (by simp) (fun u hu=>?_) y e;rcases List.mem_append.1 hu with hu|hu
     ·exact hc u hu
     ·rw[List.mem_singleton.1 hu];exact hs _ h1 x hq
   ·cases e;exact⟨h,hc⟩
theorem Qn2{α:Type}{l:L8}{F:Nat}{sub:PS->Except Flt (α×PS)}{P:α->Prop}(hg:∀ s,Gp l s->∀ y,sub s=.ok y->Gp l y.2)(hs:∀ s,Gp l s->Has P (sub s)){s:PS}(h:Gp l s):Has (fun xs=>xs≠[]/\∀ a∈xs,P a) (groupL l F sub s):=fun y e=>by
 unfold groupL at e
 cases hp:paL l [[40]] s with
 |error g=>rw[Qad hp]at e;cases e
 |ok z=>
  rw[Qac hp]at e;obtain⟨h1,h2⟩:=QcM (zs:=[[40]]) h (by decide) z hp
  cases hq:sub z.2 with
  |error g=>rw[Qad hq]at e;cases e
  |ok x=>
   rw[Qac hq]at e;exact Qhu hg hs F [x.1] x.2 (hg _ h1 x hq) (by simp) (fun u hu=>by rw[List.mem_singleton.1 hu];exact hs _ h1 x hq) y e
theorem Qnx(n:Nat){l:L8}{req:List (L8)}{F:Nat}{sub:PS->Except Flt (Qa6 n×PS)}(hF:l.length<F)(hg:∀ s,Gp l s->∀ y,sub s=.ok y->Gp l y.2)(hs:∀ s,Gp l s->Has (QiY (WfT req) n) (sub s))(k aa:Nat)(hk:k<=9)(hu:Qb6 req (tNs.getD k [])=true){s:PS}(h:Gp l s):Has (fun x:Qcv×List (Qa6 n)=>WfT req x.1 x.2.length/\∀ a∈x.2,QiY (WfT req) n a) (tBd l F sub k aa s):=fun y e=>by
 unfold tBd at e
 split at e
 ·cases e;exact⟨by constructor<;>simp<;>(first|exact hu|skip),by simp⟩
 ·cases e;exact⟨by constructor<;>simp<;>(first|exact hu|skip),by simp⟩
 ·cases hq:sub s with
  |error g=>rw[Qad hq]at e;cases e
  |ok x=>
   rw[Qac hq]at e;cases e;exact⟨by constructor<;>simp<;>(first|exact hu|skip),fun a ha=>by rw[List.mem_singleton.1 ha];exact hs _ h x hq⟩
 ·cases hq:groupL l F sub s with
  |error g=>rw[Qad hq]at e;cases e
  |ok x=>
   rw[Qac hq]at e;have h1:=Qn2 hg hs h x hq;cases e;exact⟨by constructor<;>simp<;>(first|exact hu|exact List.length_pos_iff.2 h1.1|skip),h1.2⟩
 ·cases hq:groupL l F sub s with
  |error g=>rw[Qad hq]at e;cases e
  |ok x=>
   rw[Qac hq]at e;have h1:=Qn2 hg hs h x hq;cases e;exact⟨by constructor<;>simp<;>(first|exact hu|exact List.length_pos_iff.2 h1.1|skip),h1.2⟩
 ·cases hq:Qbp l F (fun _=>0) 5 aa s with
  |error g=>rw[Qad hq]at e;cases e
  |ok x=>
   rw[Qac hq]at e;obtain⟨h1,h2,h3,h4,h5,h6⟩:=Qkx h hF x hq;cases e;dsimp only;rw[h1];exact⟨by constructor<;>simp<;>(first|exact hu|exact⟨h2,h3⟩|assumption|skip),by simp⟩
 ·cases hq:Qbp l F (fun x=>if 0<wL [QhJ,kTo] (zL x)then 0 else 7) 6 aa s with
  |error g=>rw[Qad hq]at e;cases e
  |ok x=>
   rw[Qac hq]at e;obtain⟨h1,h2,h3,h4,h5,h6⟩:=Qkx h hF x hq
   have h7:∀ z∈x.1.fr,0<wL [QhJ,kTo] (zL z):=fun z hz=>by
    have:=h6 z hz
    split at this
    ·assumption
    ·cases this
   cases e;dsimp only;rw[h1];exact⟨by constructor<;>simp<;>(first|exact hu|exact⟨h2,h3⟩|assumption|skip),by simp⟩
 ·cases hq:Qbp l F (fun _=>0) 7 aa s with
  |error g=>rw[Qad hq]at e;cases e
  |ok x=>
   rw[Qac hq]at e;obtain⟨h1,h2,h3,h4,h5,h6⟩:=Qkx h hF x hq;cases e;dsimp only;rw[h1];exact⟨by constructor<;>simp<;>(first|exact hu|exact⟨h2,h3⟩|assumption|skip),by simp⟩
 ·cases hq:sLs l (fun _=>0) F s with
  |error g=>rw[Qad hq]at e;cases e
  |ok x=>
   rw[Qac hq]at e;have h1:=QeL x hq;cases e;exact⟨by constructor<;>simp<;>(first|exact hu|exact h1.1|skip),by simp⟩
 ·rename_i h0 h1 h2 h3 h4 h5 h6 h7 h8
  cases hq:sizeL l aa s with
  |error g=>rw[Qad hq]at e;cases e
  |ok x=>
   rw[Qac hq]at e
   have ab:k=9:=by
    have a0:k≠0:=h0;have a1:k≠1:=h1;have a2:k≠2:=h2;have a3:k≠3:=h3;have a4:k≠4:=h4;have a5:k≠5:=h5;have a6:k≠6:=h6;have a7:k≠7:=h7;have a8:k≠8:=h8;omega
   subst ab;unfold sizeL at hq
   cases hp:paL l [Qdh,Qb9] s with
   |error g=>rw[Qad hp]at hq;cases hq
   |ok i=>
    rw[Qac hp]at hq;have g1:=Qu6 i hp;obtain⟨g2,g3⟩:=QcM (zs:=[Qdh,Qb9]) h (by decide) i hp;have g4:=g2.num
    split at hq
    ·cases hn:nL l i.2.2 with
     |error f=>rw[QaC hn]at hq;cases hq
     |ok z=>
      rw[QaE hn]at hq;cases hq;cases e;exact⟨by constructor<;>simp<;>(first|exact hu|exact g4|exact g1|skip),by simp⟩
    ·cases hq
theorem QqO{l:L8}{req:List (L8)}{F:Nat}(hF:l.length<F):∀(n:Nat) (s:PS),Gp l s->Has (QiY (WfT req) n) (testL l req F n s)
 |0,s,h=>fun y e=>by rw[testL]at e;split at e<;>cases e
 |n+1,s,h=>fun y e=>by
  rw[testL]at e;by_cases h0:wL tNs s.1.spelt=0
  ·rw[if_pos h0]at e;cases e
  ·rw[if_neg h0]at e;cases hu:Qb6 req s.1.spelt
   ·rw[hu,if_neg (by decide)]at e;cases e
   ·rw[hu,if_pos rfl]at e
    cases hn:nL l s.2 with
    |error g=>cases(QaC hn).symm.trans e
    |ok z=>
     replace e:=(QaE hn).symm.trans e;obtain⟨g1,g2⟩:=Qdx h (QdU (zs:=tNs) h (by decide) h0) hn;exact Qnx n hF (fun s g y e=>(QlU n s g y e).1) (fun s g=>QqO hF n s g) _ _ (by have:=QbN tNs s.1.spelt;have:tNs.length=10:=rfl;omega) (by rw[Qge _ _ h0];exact hu) g1 y e
theorem Qg4{α:Type}{l:L8}{sub:PS->Except Flt (α×PS)}{P:α->Prop}(hg:∀ s,Gp l s->∀ y,sub s=.ok y->Gp l y.2)(hs:∀ s,Gp l s->Has P (sub s)):∀(f:Nat) (aa:List α) (s:PS),Gp l s->(∀ a∈aa,P a)->∀ y,bMr l sub f aa s=.ok y->Gp l y.2/\∀ a∈y.1,P a
 |0,aa,s,g,hc=>fun y e=>by cases e;exact⟨g,hc⟩
 |f+1,aa,s,g,hc=>fun y e=>by
  rw[bMr]at e
  cases hp:mayL l [[125]] s with
  |error g=>rw[Qad hp]at e;cases e
  |ok z=>
   rw[Qac hp]at e;obtain⟨h1,h2⟩:=Qet (zs:=[[125]]) g (by decide) z hp
   split at e
   ·cases hq:sub z.2 with
    |error g=>rw[Qad hq]at e;cases e
    |ok x=>
     rw[Qac hq]at e;refine Qg4 hg hs f _ x.2 (hg _ h1 x hq) (fun u hu=>?_) y e;rcases List.mem_append.1 hu with hu|hu
     ·exact hc u hu
     ·rw[List.mem_singleton.1 hu];exact hs _ h1 x hq
   ·cases e;exact⟨h1,hc⟩
theorem QoN{α:Type}{l:L8}{F:Nat}{sub:PS->Except Flt (α×PS)}{P:α->Prop}(hg:∀ s,Gp l s->∀ y,sub s=.ok y->Gp l y.2)(hs:∀ s,Gp l s->Has P (sub s)){s:PS}(h:Gp l s):∀ y,blockL l F sub s=.ok y->Gp l y.2/\∀ a∈y.1,P a:=fun y e=>by
 unfold blockL at e
 cases hp:paL l [[123]] s with
 |error g=>rw[Qad hp]at e;cases e
 |ok z=>
  rw[Qac hp]at e;obtain⟨h1,h2⟩:=QcM (zs:=[[123]]) h (by decide) z hp;exact Qg4 hg hs F [] z.2 h1 (by simp) y e
theorem QuC{α β:Type}{l:L8}{F:Nat}{aa:PS->Except Flt (β×PS)}{sub:PS->Except Flt (α×PS)}{P:α->Prop}{Q:β->Prop}(ab:∀ s,Gp l s->∀ y,aa s=.ok y->Gp l y.2)(ht:∀ s,Gp l s->Has Q (aa s))(hg:∀ s,Gp l s->∀ y,sub s=.ok y->Gp l y.2)(hs:∀ s,Gp l s->Has P (sub s)){s:PS}(h:Gp l s):∀ y,armL l F aa sub s=.ok y->Gp l y.2/\Q y.1.1/\∀ a∈y.1.2,P a:=fun y e=>by
 unfold armL at e
 cases hp:aa s with
 |error g=>rw[Qad hp]at e;cases e
 |ok z=>
  rw[Qac hp]at e
  cases hq:blockL l F sub z.2 with
  |error g=>rw[Qad hq]at e;cases e
  |ok x=>
   rw[Qac hq]at e;have h1:=QoN hg hs (ab _ h z hp) x hq;have h2:=ht _ h z hp;cases e;exact⟨h1.1,h2,h1.2⟩
theorem Qrm{α β:Type}{l:L8}{F:Nat}{ab:PS->Except Flt (β×PS)}{sub:PS->Except Flt (α×PS)}{P:α->Prop}{Q:β->Prop}(ac:∀ s,Gp l s->∀ y,ab s=.ok y->Gp l y.2)(ht:∀ s,Gp l s->Has Q (ab s))(hg:∀ s,Gp l s->∀ y,sub s=.ok y->Gp l y.2)(hs:∀ s,Gp l s->Has P (sub s)):∀(f:Nat) (aa:List (β×List α)) (s:PS),Gp l s->aa≠[]->(∀ a∈aa,Q a.1/\∀ c∈a.2,P c)->∀ y,aMr l F ab sub f aa s=.ok y->Gp l y.2/\y.1≠[]/\∀ a∈y.1,Q a.1/\∀ c∈a.2,P c
 |0,aa,s,g,h,hc=>fun y e=>by cases e;exact⟨g,h,hc⟩
 |f+1,aa,s,g,h,hc=>fun y e=>by
  rw[aMr]at e
  cases hp:mayL l [QbM] s with
  |error g=>rw[Qad hp]at e;cases e
  |ok z=>
   rw[Qac hp]at e;obtain⟨h1,h2⟩:=Qet (zs:=[QbM]) g (by decide) z hp
   split at e
   ·cases e;exact⟨h1,h,hc⟩
   ·cases hq:armL l F ab sub z.2 with
    |error g=>rw[Qad hq]at e;cases e
    |ok x=>
     rw[Qac hq]at e;obtain⟨h3,h4,h5⟩:=QuC ac ht hg hs h1 x hq;refine Qrm ac ht hg hs f _ x.2 h3 (by simp) (fun u hu=>?_) y e;rcases List.mem_append.1 hu with hu|hu
     ·exact hc u hu
     ·rw[List.mem_singleton.1 hu];exact⟨h4,h5⟩
theorem QeK{α:Type}{l:L8}{s:PS}{a:α}:Has (fun x=>x=a) (semi l s a):=fun y e=>by
 unfold semi at e
 cases hp:paL l [[59]] s with
 |error g=>rw[Qad hp]at e;cases e
 |ok z=>rw[Qac hp]at e;cases e;rfl
theorem QpQ(n:Nat){l:L8}{req:List (L8)}{F:Nat}{aa:PS->Except Flt (Qa6 n×PS)}{sub:PS->Except Flt (Qbo n×PS)}(ab:∀ s,Gp l s->∀ y,aa s=.ok y->Gp l y.2)(ht:∀ s,Gp l s->Has (QiY (WfT req) n) (aa s))(hg:∀ s,Gp l s->∀ y,sub s=.ok y->Gp l y.2)(hs:∀ s,Gp l s->Has (allC (WfT req) (WfC req) n) (sub s))(k ad:Nat)(hk:k<=7)(hu:Qb6 req (cNs.getD k [])=true){s:PS}(h:Gp l s):Has (fun x:Qgt×List (Qa6 n×List (Qbo n))×List (Qbo n)=>WfC req x.1 x.2.1.length x.2.2.length/\(∀ a∈x.2.1,QiY (WfT req) n a.1/\∀ c∈a.2,allC (WfT req) (WfC req) n c)/\∀ c∈x.2.2,allC (WfT req) (WfC req) n c) (cBd l F aa sub k ad s):=fun y e=>by
 unfold cBd at e
 split at e
 ·rw[QeK y e];exact⟨by constructor<;>simp<;>(first|exact hu|skip),by simp,by simp⟩
 ·rw[QeK y e];exact⟨by constructor<;>simp<;>(first|exact hu|skip),by simp,by simp⟩
 ·rw[QeK y e];exact⟨by constructor<;>simp<;>(first|exact hu|skip),by simp,by simp⟩
 ·cases hq:sL l (fun _=>0) s with
  |error g=>rw[Qad hq]at e;cases e
  |ok x=>rw[Qac hq]at e;rw[QeK y e];exact⟨by constructor<;>simp<;>(first|exact hu|skip),by simp,by simp⟩
 ·cases hq:sL l (fun _=>0) s with
  |error g=>rw[Qad hq]at e;cases e
  |ok x=>rw[Qac hq]at e;rw[QeK y e];exact⟨by constructor<;>simp<;>(first|exact hu|skip),by simp,by simp⟩
 ·cases hq:sL l (fun _=>0) s with
  |error g=>rw[Qad hq]at e;cases e
  |ok x=>rw[Qac hq]at e;rw[QeK y e];exact⟨by constructor<;>simp<;>(first|exact hu|skip),by simp,by simp⟩
 ·cases hm:mayL l [QbT,QbU,Qbr] s with
  |error g=>rw[Qad hm]at e;cases e
  |ok m=>
   rw[Qac hm]at e;have g0:=Qxx m hm
   cases hv:sL l (fun x=>if isNameL x then 0 else 7) m.2 with
   |error g=>rw[Qad hv]at e;cases e
   |ok v=>
    rw[Qac hv]at e;have g1:=Qh3 v hv
    have g2:isNameL v.1=true:=by
     dsimp only at g1
     split at g1
     ·assumption
     ·cases g1
    cases hq:sL l (fun _=>0) v.2 with
    |error g=>rw[Qad hq]at e;cases e
    |ok x=>
     rw[Qac hq]at e;rw[QeK y e];exact⟨by constructor<;>simp<;>(first|exact hu|exact g0|exact⟨v.1,g2,rfl⟩|skip),by simp,by simp⟩
 ·rename_i h0 h1 h2 h3 h4 h5 h6
  have ac:k=7:=by
   have a0:k≠0:=h0;have a1:k≠1:=h1;have a2:k≠2:=h2;have a3:k≠3:=h3;have a4:k≠4:=h4;have a5:k≠5:=h5;have a6:k≠6:=h6;omega
  subst ac
  cases ha:armL l F aa sub s with
  |error g=>rw[Qad ha]at e;cases e
  |ok a=>
   rw[Qac ha]at e;obtain⟨g1,g2,g3⟩:=QuC ab ht hg hs h a ha
   cases hb:aMr l F aa sub F [a.1] a.2 with
   |error g=>rw[Qad hb]at e;cases e
   |ok bb=>
    rw[Qac hb]at e;obtain⟨g4,g5,g6⟩:=Qrm ab ht hg hs F [a.1] a.2 g1 (by simp) (fun u hu=>by rw[List.mem_singleton.1 hu];exact⟨g2,g3⟩) bb hb
    cases hm:mayL l [Qch] bb.2 with
    |error g=>rw[Qad hm]at e;cases e
    |ok m=>
     rw[Qac hm]at e;obtain⟨g7,g8⟩:=Qet (zs:=[Qch]) g4 (by decide) m hm
     split at e
     ·cases e;exact⟨by constructor<;>simp<;>(first|exact hu|exact List.length_pos_iff.2 g5|skip),g6,by simp⟩
     ·cases hc:blockL l F sub m.2 with
      |error g=>rw[Qad hc]at e;cases e
      |ok cs=>
       rw[Qac hc]at e;have g9:=QoN hg hs g7 cs hc;cases e;exact⟨by constructor<;>simp<;>(first|exact hu|exact List.length_pos_iff.2 g5|skip),g6,g9.2⟩
theorem QwE{l:L8}{req:List (L8)}{F:Nat}:∀(n:Nat) (hn:n<=7) (s:PS),Gp l s->∀ y,cmdL l req F n s=.ok y->Gp l y.2:=fun n hn s h y e=>(QrA n [] (by simp;omega) s h y e).1
theorem QuI{l:L8}{req:List (L8)}{F:Nat}(hF:l.length<F):∀(n:Nat) (hn:n<=7) (s:PS),Gp l s->Has (allC (WfT req) (WfC req) n) (cmdL l req F n s)
 |0,hn,s,h=>fun y e=>by rw[cmdL]at e;split at e<;>cases e
 |n+1,hn7,s,h=>fun y e=>by
  rw[cmdL]at e;by_cases h0:wL cNs s.1.spelt=0
  ·rw[if_pos h0]at e;cases e
  ·rw[if_neg h0]at e;cases hu:Qb6 req s.1.spelt
   ·rw[hu,if_neg (by decide)]at e;cases e
   ·rw[hu,if_pos rfl]at e
    cases hn:nL l s.2 with
    |error g=>cases(QaC hn).symm.trans e
    |ok z=>
     replace e:=(QaE hn).symm.trans e;obtain⟨g1,g2⟩:=Qdx h (QdU (zs:=cNs) h (by decide) h0) hn;exact QpQ n (fun s g y e=>(QlU n s g y e).1) (fun s g=>QqO hF n s g) (QwE n (by omega)) (fun s g=>QuI hF n (by omega) s g) _ _ (by have:=QbN cNs s.1.spelt;have:cNs.length=8:=rfl;omega) (by rw[Qge _ _ h0];exact hu) g1 y e
def WfR (req:List (L8)):Prop:=req.Nodup∧∀ z∈req,0 < wL [QaL,QaO,Qbc,Qbw] z
theorem Qn6:∀(zs:List (L8)) (x:L8),x∈zs->0<wL zs x
 | [],x,h=>by cases h
 |s::r,x,h=>by
  unfold wL;split
  ·omega
  ·rename_i e;rcases List.mem_cons.1 h with h|h
   ·exact absurd h.symm e
   ·have:=Qn6 r x h;rw[if_neg (by omega)];omega
theorem Qk5:∀(xs req:List (L8)),WfR req->(∀ z∈xs,0<wL [QaL,QaO,Qbc,Qbw] z)->WfR (xs.foldl Qcr req)
 | [],req,h,hx=>h
 |x::r,req,h,hx=>by
  rw[List.foldl_cons];refine Qk5 r _ ?_ (fun z hz=>hx z (by simp[hz]));unfold Qcr;split
  ·exact h
  ·rename_i h0;refine⟨?_,fun z hz=>?_⟩
   ·rw[List.nodup_append];refine⟨h.1,by simp,fun a ha b hb=>?_⟩;rw[List.mem_singleton.1 hb];intro e;subst e;exact h0 (Qn6 _ _ ha)
   ·rcases List.mem_append.1 hz with hz|hz
    ·exact h.2 z hz
    ·rw[List.mem_singleton.1 hz];exact hx x (by simp)
theorem Qlg{l:L8}{F:Nat}:∀(f:Nat) (req:List (L8)) (s:PS),WfR req->Has WfR (reqMore l F f req s)
 |0,req,s,h=>fun y e=>by cases e;exact h
 |f+1,req,s,h=>fun y e=>by
  rw[reqMore]at e
  cases hp:mayL l [kRequire] s with
  |error g=>rw[Qad hp]at e;cases e
  |ok z=>
   rw[Qac hp]at e
   split at e
   ·cases e;exact h
   ·cases hq:sLs l (fun x=>if 0<wL [QaL,QaO,Qbc,Qbw] x then 0 else 6) F z.2 with
    |error g=>rw[Qad hq]at e;cases e
    |ok x=>
     rw[Qac hq]at e;have h1:=QeL x hq
     cases hr:paL l [[59]] x.2 with
     |error g=>rw[Qad hr]at e;cases e
     |ok v=>
      rw[Qac hr]at e;refine Qlg f _ v.2 (Qk5 x.1 req h (fun z hz=>?_)) y e;have:=h1.2 z hz
      split at this
      ·assumption
      ·cases this
theorem QiD{α:Type}{l:L8}{sub:PS->Except Flt (α×PS)}{P:α->Prop}(hg:∀ s,Gp l s->∀ y,sub s=.ok y->Gp l y.2)(hs:∀ s,Gp l s->Has P (sub s)):∀(f:Nat) (aa:List α) (s:PS),Gp l s->(∀ a∈aa,P a)->∀ y,cMr sub f aa s=.ok y->∀ a∈y,P a
 |0,aa,s,h,hc=>fun y e=>by cases e;exact hc
 |f+1,aa,s,h,hc=>fun y e=>by
  rw[cMr]at e
  split at e
  ·cases e;exact hc
  ·cases hq:sub s with
   |error g=>rw[hq]at e;cases e
   |ok x=>
    rw[hq]at e;refine QiD hg hs f _ x.2 (hg _ h x hq) (fun u hu=>?_) y e;rcases List.mem_append.1 hu with hu|hu
    ·exact hc u hu
    ·rw[List.mem_singleton.1 hu];exact hs _ h x hq
theorem Qe3{l:L8}{y:List (L8)×List (Qbo 7)}(h:prL l=.ok y):WfR y.1/\∀ c∈y.2,allC (WfT y.1) (WfC y.1) 7 c:=by
 unfold prL at h;dsimp only at h;have hF:l.length<2*l.length+10:=by omega
 generalize 2*l.length+10=F at h hF
 cases h1:nL l 0 with
 |error f=>rw[h1]at h;cases h
 |ok s=>
  rw[h1]at h;dsimp only at h
  have hg:Gp l s:=by
   unfold nL at h1
   cases hs:QbJ (l.length+1) (l.drop 0) 0 with
   |error f=>rw[hs]at h1;cases h1
   |ok n=>
    rw[hs]at h1;exact(QiW l n (QdE l _ 0 n (Nat.zero_le _) hs).2 s h1).1
  cases h3:reqMore l F F [] s with
  |error f=>rw[h3]at h;cases h
  |ok z=>
   rw[h3]at h;dsimp only at h;have g1:=(Qf3 F [] s hg z h3).1;have g2:=Qlg F [] s ⟨by simp,by simp⟩ z h3
   cases h4:cMr (cmdL l z.1 F 7) F [] z.2 with
   |error f=>rw[h4]at h;cases h
   |ok cs=>
    rw[h4]at h;have g3:=QiD (P:=allC (WfT z.1) (WfC z.1) 7) (QwE 7 (by omega)) (fun s g=>QuI hF 7 (by omega) s g) F [] z.2 g1 (by simp) cs h4;cases h;exact⟨g2,g3⟩
theorem Qc3{l:L8}{q:Nat}{c:UInt8}{r:L8}(h:l.drop q=c::r):l.drop (q+1)=r:=by
 rw[<-List.drop_drop,h];rfl
def QsA (r:L8):Prop:=∀ c t,r=c :: t→letdig c=false
theorem Qk9{c:UInt8}{t:L8}(h:letdig c=false):QsA (c::t):=fun d u e=>by cases e;exact h
def Tok (r r':L8) (k:Nat) (sp sa:L8) (nu:Nat):Prop:=∀ l q,l.drop q=r→∃ q1 q2,nL l q=.ok (⟨k,q1,sp,sa,nu⟩,q2)∧l.drop q2=r'
theorem QbO{c:UInt8}{r r':L8}{k:Nat}{sp sa:L8}{nu:Nat}(hb:Qa8 c.toNat=true)(h:Tok r r' k sp sa nu):Tok (c::r) r' k sp sa nu:=fun l q hq=>by
 obtain⟨q1,q2,h1,h2⟩:=h l (q+1) (Qc3 hq);refine⟨q1,q2,?_,h2⟩;rw[QcN,Qc3 hq]at h1;rw[QcN,hq,QbR r q hb];exact h1
theorem Qmc{c:UInt8}{r r':L8}{k:Nat}{sp sa:L8}{nu m:Nat}(hb:Qa8 c.toNat=false)(aa:¬ c.toNat=35)(ab:¬ c.toNat=47)(hs:∀ q,scanL (c::r) q=.ok (⟨k,q,sp,sa,nu⟩,q+m))(hr:(c::r).drop m=r'):Tok (c::r) r' k sp sa nu:=fun l q hq=>by
 refine⟨q,q+m,?_,?_⟩
 ·rw[QcN,hq,Qes r q hb aa ?_]
  ·show scanL (l.drop q) q=_
   rw[hq];exact hs q
  ·unfold Lib.hasPrefix;have:¬(47:UInt8)=c:=fun e=>ab (by rw[<-e];rfl)
   simp[List.isPrefixOf,this]
 ·rw[<-List.drop_drop,hq,hr]
theorem Qj2{r:L8}(h:QsA r):r.takeWhile letdig=[]:=by
 cases r with
 |nil=>rfl
 |cons c t=>rw[List.takeWhile_cons,h c t rfl];rfl
theorem Qnm{w r:L8}(hw:∀ c∈w,letdig c=true)(h:QsA r):Qbe (w++r)=w.length:=by
 unfold Qbe;rw[List.takeWhile_append_of_pos hw,Qj2 h,List.append_nil]
theorem Qls:∀ t:L8,(t.takeWhile letdig).length=t.length->∀ d∈t,letdig d=true
 | [],_=>fun d hd=>by cases hd
 |c::t,h=>fun d hd=>by
  rw[List.takeWhile_cons]at h;cases hc:letdig c
  ·rw[hc]at h;simp at h
  ·rw[hc]at h;rcases List.mem_cons.1 hd with hd|hd
   ·rw[hd];exact hc
   ·exact Qls t (by simpa using h) d hd
theorem Qin{w:L8}(h:isNameL w=true):∃ c t,w=c::t/\Qbs c.toNat=true/\∀ d∈t,letdig d=true:=by
 cases w with
 |nil=>cases h
 |cons c t=>
  have h:(!(c::t).isEmpty&&(if Qbs c.toNat then 1+Qbe t else 0)==(c::t).length)=true:=h;refine⟨c,t,rfl,?_⟩;cases hc:Qbs c.toNat
  ·rw[hc]at h;simp at h
  ·rw[hc]at h;refine⟨rfl,?_⟩;simp at h;exact Qls t (by unfold Qbe at h;omega)
theorem Qpv{w r:L8}(h:isNameL w=true)(hr:QsA r):Qa5 (w++r)=w.length:=by
 obtain⟨c,t,rfl,h1,h2⟩:=Qin h;show(if Qbs c.toNat then 1+Qbe (t++r)else 0)=_
 rw[if_pos h1,Qnm h2 hr,List.length_cons];omega
theorem QuR{c:UInt8}(h:Qbs c.toNat=true):Qa8 c.toNat=false/\¬ c.toNat=35/\¬ c.toNat=47:=by
 unfold Qbs QeB at h;unfold Qa8;simp at h ⊢;omega
def Kw (w:L8):Prop:=isNameL w=true∧zL w=w
theorem QdB{w r:L8}(hw:Kw w)(hr:QsA r):Tok (w++r) r 1 w [] 0:=by
 have h1:=Qpv hw.1 hr;obtain⟨c,t,e,h2,h3⟩:=Qin hw.1;have hs:=hw.2;subst e;rw[List.cons_append]at h1 ⊢;obtain⟨a,b,d⟩:=QuR h2;refine Qmc (m:=(c::t).length) a b d (fun q=>?_) (by rw[<-List.cons_append,List.drop_left]);unfold scanL;dsimp only;rw[if_pos h2,h1];unfold QbD;rw[<-List.cons_append,List.take_left,hs]
theorem Qd9{c:UInt8}{r:L8}(hs:Qho c=true)(hl:Qbs c.toNat=false)(hd:QaS c.toNat=false)(ad:¬ c.toNat=58)(aa:¬ c.toNat=34)(hb:Qa8 c.toNat=false)(ab:¬ c.toNat=35)(ac:¬ c.toNat=47)(ae:Qgr c=c):Tok (c::r) r 3 [c] [] 0:=by
 refine Qmc (m:=1) hb ab ac (fun q=>?_) rfl;unfold scanL;dsimp only;rw[if_neg (by rw[hl];decide),if_neg ad,if_neg (by rw[hd];decide),if_neg aa,if_pos hs];unfold QbD;simp[zL,ae]
theorem Qg9(r:L8):∀ x:L8,qL (x.flatMap QbE++34::r)=some (x,(x.flatMap QbE).length+1)
 | []=>by
  show qL (34::r)=_
  unfold qL;rw[if_pos (by decide)];rfl
 |c::x=>by
  have ih:=Qg9 r x;rw[List.flatMap_cons];by_cases h:c=34\/c=92
  ·have hb:QbE c=[92,c]:=by unfold QbE;rw[if_pos h]
   rw[hb];show qL (92::c::(x.flatMap QbE++34::r))=_
   rw[qL.eq_def];dsimp only;rw[if_neg (by decide),if_pos (by decide),ih];simp
  ·have hb:QbE c=[c]:=by unfold QbE;rw[if_neg h]
   rw[hb];show qL (c::(x.flatMap QbE++34::r))=_
   have h1:¬ c.toNat=34:=fun e=>h (Or.inl (UInt8.toNat_inj.1 (by rw[e];rfl)))
   have h2:¬ c.toNat=92:=fun e=>h (Or.inr (UInt8.toNat_inj.1 (by rw[e];rfl)))
   rw[qL.eq_def];dsimp only;rw[if_neg h1,if_neg h2,ih];simp
theorem Qh6(x r:L8):Tok (quotedL x++r) r 5 [] x 0:=by
 unfold quotedL;rw[List.cons_append,List.append_assoc];have h:=Qg9 r x;refine Qmc (m:=1+((x.flatMap QbE).length+1)) (by decide) (by decide) (by decide) (fun q=>?_) ?_
 ·unfold scanL;dsimp only;rw[if_neg (by decide),if_neg (by decide),if_neg (by decide),if_pos (by decide)];unfold quoteR;have e:x.flatMap QbE++([34]++r)=x.flatMap QbE++34::r:=rfl;rw[e,h]
 ·rw[Nat.add_comm,List.drop_succ_cons];have:x.flatMap QbE++([34]++r)=(x.flatMap QbE++[34])++r:=by simp
  rw[this];have e:(x.flatMap QbE).length+1=(x.flatMap QbE++[34]).length:=by simp
  rw[e,List.drop_left]
theorem Qpd:Tok [] [] 0 [] [] 0:=fun l q hq=>by
 refine⟨q,q,?_,hq⟩;rw[QcN,hq,Qkn];show scanL (l.drop q) q=_
 rw[hq];rfl
def Lx (r:L8):Prop:=∃ r' k sp sa nu,Tok r r' k sp sa nu
theorem Tok.lx{r r':L8}{k:Nat}{sp sa:L8}{nu:Nat}(h:Tok r r' k sp sa nu):Lx r:=⟨_,_,_,_,_,h⟩
theorem QrI{c:UInt8}{r:L8}(hb:Qa8 c.toNat=true)(h:Lx r):Lx (c::r):=by
 obtain⟨_,_,_,_,_,h⟩:=h;exact(QbO hb h).lx
def Nx (l r:L8) (s:PS):Prop:=∃ q,l.drop q=r∧nL l q=.ok s
theorem Nx.blank{l:L8}{c:UInt8}{r:L8}{s:PS}(hb:Qa8 c.toNat=true)(h:Nx l (c::r) s):Nx l r s:=by
 obtain⟨q,h1,h2⟩:=h;refine⟨q+1,Qc3 h1,?_⟩;rw[QcN,h1,QbR r q hb]at h2;rw[QcN,Qc3 h1];exact h2
theorem Nx.tok{l r r':L8}{k:Nat}{sp sa:L8}{nu:Nat}{s:PS}(h:Nx l r s)(ht:Tok r r' k sp sa nu):(∃ q1,s.1=⟨k,q1,sp,sa,nu⟩)/\l.drop s.2=r':=by
 obtain⟨q,h1,h2⟩:=h;obtain⟨q1,q2,h3,h4⟩:=ht l q h1;rw[h3]at h2;cases h2;exact⟨⟨q1,rfl⟩,h4⟩
theorem Nx.next{l r:L8}{s:PS}(hl:Lx r)(h:l.drop s.2=r):∃ y,nL l s.2=.ok y/\Nx l r y:=by
 obtain⟨_,_,_,_,_,ht⟩:=hl;obtain⟨q1,q2,h3,h4⟩:=ht l s.2 h;exact⟨_,h3,s.2,h,h3⟩
def QkK {α:Type} (l r r':L8) (f:PS→Except Flt (α×PS)) (P:α→Prop):Prop:=∀ s,Nx l r s→∃ a s',f s=.ok (a,s')∧P a∧Nx l r' s'
theorem QkK.blank{α:Type}{l r r':L8}{c:UInt8}{f:PS->Except Flt (α×PS)}{P:α->Prop}(hb:Qa8 c.toNat=true)(h:QkK l r r' f P):QkK l (c::r) r' f P:=fun s hs=>h s (hs.blank hb)
theorem QlG{l r r':L8}{k:Nat}{sp sa:L8}{nu:Nat}{zs:List (L8)}(ht:Tok r r' k sp sa nu)(hi:¬ wL zs sp=0)(hl:Lx r'):QkK l r r' (paL l zs) (fun i=>i=wL zs sp):=fun s hs=>by
 obtain⟨⟨q,h1⟩,h2⟩:=hs.tok ht;obtain⟨y,h3,h4⟩:=Nx.next hl h2;refine⟨wL zs sp,y,?_,rfl,h4⟩;unfold paL;rw[h1,if_neg hi,h3]
theorem QoD{l r r':L8}{k:Nat}{sp sa:L8}{nu:Nat}{zs:List (L8)}(ht:Tok r r' k sp sa nu)(hi:¬ wL zs sp=0)(hl:Lx r'):QkK l r r' (mayL l zs) (fun i=>i=wL zs sp):=fun s hs=>by
 obtain⟨⟨q,h1⟩,h2⟩:=hs.tok ht;obtain⟨y,h3,h4⟩:=Nx.next hl h2;refine⟨wL zs sp,y,?_,rfl,h4⟩;unfold mayL;rw[h1,if_neg hi,h3]
theorem QxD{l r r':L8}{k:Nat}{sp sa:L8}{nu:Nat}{zs:List (L8)}(ht:Tok r r' k sp sa nu)(hi:wL zs sp=0):QkK l r r (mayL l zs) (fun i=>i=0):=fun s hs=>by
 obtain⟨⟨q,h1⟩,h2⟩:=hs.tok ht;refine⟨0,s,?_,rfl,hs⟩;unfold mayL;rw[h1,if_pos hi]
theorem QfH{l:L8}{x r':L8}{chk:L8->Nat}(hc:chk x=0)(hl:Lx r'):QkK l (quotedL x++r') r' (sL l chk) (fun y=>y=x):=fun s hs=>by
 obtain⟨⟨q,h1⟩,h2⟩:=hs.tok (Qh6 x r');obtain⟨y,h3,h4⟩:=Nx.next hl h2;refine⟨x,y,?_,rfl,h4⟩;unfold sL;rw[h1];dsimp only;rw[if_pos rfl,if_pos hc,h3]
theorem QjY(x r:L8):Lx (quotedL x++r):=(Qh6 x r).lx
theorem Qor(r:L8):Tok (44::r) r 3 [44] [] 0:=Qd9 (by decide) (by decide) (by decide) (by decide) (by decide) (by decide) (by decide) (by decide) (by decide)
theorem QwM(r:L8):Tok (93::r) r 3 [93] [] 0:=Qd9 (by decide) (by decide) (by decide) (by decide) (by decide) (by decide) (by decide) (by decide) (by decide)
theorem Qwx(r:L8):Tok (91::r) r 3 [91] [] 0:=Qd9 (by decide) (by decide) (by decide) (by decide) (by decide) (by decide) (by decide) (by decide) (by decide)
theorem QwH(r:L8):Tok (40::r) r 3 [40] [] 0:=Qd9 (by decide) (by decide) (by decide) (by decide) (by decide) (by decide) (by decide) (by decide) (by decide)
theorem QqS(r:L8):Tok (41::r) r 3 [41] [] 0:=Qd9 (by decide) (by decide) (by decide) (by decide) (by decide) (by decide) (by decide) (by decide) (by decide)
theorem QuE(r:L8):Tok (59::r) r 3 [59] [] 0:=Qd9 (by decide) (by decide) (by decide) (by decide) (by decide) (by decide) (by decide) (by decide) (by decide)
theorem Qto(r:L8):Tok (123::r) r 3 [123] [] 0:=Qd9 (by decide) (by decide) (by decide) (by decide) (by decide) (by decide) (by decide) (by decide) (by decide)
theorem QtS(r:L8):Tok (125::r) r 3 [125] [] 0:=Qd9 (by decide) (by decide) (by decide) (by decide) (by decide) (by decide) (by decide) (by decide) (by decide)
def Qkl (xs:List (L8)):L8:=xs.flatMap fun x=>44 :: 32 :: quotedL x
theorem Qyq(x:L8):∀ xs:List (L8),Qdw [44,32] ((x::xs).map quotedL)=quotedL x++Qkl xs
 | []=>by simp[Qdw,Qkl]
 |y::r=>by
  have ih:=Qyq y r;show quotedL x++[44,32]++Qdw [44,32] ((y::r).map quotedL)=_
  rw[ih];simp[Qkl]
theorem Qln{l:L8}{r':L8}{chk:L8->Nat}(hl:Lx r'):∀(xs:List (L8)) (f:Nat) (aa:List (L8)),(∀ x∈xs,chk x=0)->xs.length<f->QkK l (Qkl xs++93::r') r' (moreL l chk f aa) (fun ys=>ys=aa++xs)
 |xs,0,aa,hc,hf=>by omega
 | [],f+1,aa,hc,hf=>fun s hs=>by
  obtain⟨i,s1,h1,h2,h3⟩:=QlG (zs:=[[44],[93]]) (QwM r') (by decide) hl s hs;refine⟨aa,s1,?_,by simp,h3⟩;rw[moreL,h1];dsimp only;rw[h2,if_neg (by decide)]
 |x::xs,f+1,aa,hc,hf=>fun s hs=>by
  have e:Qkl (x::xs)++93::r'=44::32::(quotedL x++(Qkl xs++93::r')):=by simp[Qkl]
  rw[e]at hs
  have ab:Lx (Qkl xs++93::r'):=by
   cases xs with
   |nil=>exact(QwM r').lx
   |cons y ys=>exact(Qor _).lx
  obtain⟨i,s1,h1,h2,h3⟩:=QlG (zs:=[[44],[93]]) (Qor _) (by decide) (QrI (by decide) (QjY x _)) s hs;obtain⟨y,s2,h4,h5,h6⟩:=QfH (chk:=chk) (hc x (by simp)) ab s1 (h3.blank (by decide));obtain⟨ys,s3,h7,h8,h9⟩:=Qln hl xs f (aa++[x]) (fun z hz=>hc z (by simp[hz])) (by simp at hf;omega) s2 h6;refine⟨ys,s3,?_,by rw[h8];simp,h9⟩;rw[moreL,h1];dsimp only;rw[h2,if_pos (by decide),h4];dsimp only;rw[h5];exact h7
theorem Qir(x y:L8)(r:List (L8)):Qam (x::y::r)=91::(quotedL x++(Qkl (y::r)++[93])):=by
 show [91]++Qdw [44,32] ((x::y::r).map quotedL)++[93]=_
 rw[Qyq];simp
theorem Qui{xs:List (L8)}(hx:xs≠[])(r:L8):Lx (Qam xs++r):=by
 match xs,hx with
 | [x],_=>exact QjY x r
 |x::y::t,_=>rw[Qir];exact(Qwx _).lx
theorem Qme{l:L8}{r':L8}{chk:L8->Nat}{F:Nat}{xs:List (L8)}(hl:Lx r')(hx:xs≠[])(hc:∀ x∈xs,chk x=0)(hF:xs.length<=F):QkK l (Qam xs++r') r' (sLs l chk F) (fun ys=>ys=xs):=fun s hs=>by
 match xs,hx with
 | [x],_=>
  obtain⟨i,s1,h1,h2,h3⟩:=QxD (l:=l) (zs:=[[91]]) (Qh6 x r') (by decide) s hs;obtain⟨y,s2,h4,h5,h6⟩:=QfH (chk:=chk) (hc x (by simp)) hl s1 h3;refine⟨[x],s2,?_,rfl,h6⟩;unfold sLs;rw[h1];dsimp only;rw[h4];dsimp only;rw[h2,if_pos rfl,h5]
 |x::y::t,_=>
  have e:Qam (x::y::t)++r'=91::(quotedL x++(Qkl (y::t)++93::r')):=by rw[Qir];simp
  rw[e]at hs;obtain⟨i,s1,h1,h2,h3⟩:=QoD (zs:=[[91]]) (Qwx _) (by decide) (QjY x _) s hs;have aa:Lx (Qkl (y::t)++93::r'):=(Qor _).lx;obtain⟨z,s2,h4,h5,h6⟩:=QfH (chk:=chk) (hc x (by simp)) aa s1 h3;obtain⟨ys,s3,h7,h8,h9⟩:=Qln (chk:=chk) hl (y::t) F [x] (fun z hz=>hc z (by simp at hz ⊢;right;exact hz)) (by simp at hF ⊢;omega) s2 h6;refine⟨ys,s3,?_,by rw[h8];simp,h9⟩;unfold sLs;rw[h1];dsimp only;rw[h4];dsimp only;rw[h2,if_neg (by decide),h5];exact h7
theorem QfD(r:L8):QsA (32::r):=Qk9 (by decide)
theorem Qbq:∀(js:List Nat) (cs:List Ins),(landL js cs).length=cs.length
 | [],_=>rfl
 |j::r,cs=>by
  show(landL r (cs.modify j _)).length=_
  rw[Qbq r,List.length_modify]
theorem Qdr{α:Type}{sub:α->List Ins->List Ins}(h:∀ t cs,cs.length<=(sub t cs).length):∀(ts:List α) (cs:List Ins),cs.length<=(blockC sub ts cs).length
 | [],_=>Nat.le_refl _
 |t::r,cs=>Nat.le_trans (h t cs) (Qdr h r (sub t cs))
theorem QmD{α:Type}{sub:α->List Ins->List Ins}(h:∀ t cs,cs.length<=(sub t cs).length)(aa:Int):∀(ts:List α) (p:List Ins×List Nat),p.1.length<=(ts.foldl (Qe6 sub aa) p).1.length
 | [],_=>Nat.le_refl _
 |t::r,p=>by
  have h1:=QmD h aa r (Qe6 sub aa p t);have h2:=h t p.1;have h3:(Qe6 sub aa p t).1.length=(sub t p.1).length+1:=by unfold Qe6;simp
  rw[List.foldl_cons];omega
theorem QdQ(b:Bool)(r:List Ins×List Nat):(Qed b r).length=r.1.length+3:=by
 unfold Qed;rw[Qbq,List.length_append,Qbq,List.length_append];rfl
theorem QnI{α:Type}{sub:α->List Ins->List Ins}(h:∀ t cs,cs.length<=(sub t cs).length)(x:Qcv)(ts:List α)(cs:List Ins):cs.length<=(Qa1 sub x ts cs).length:=by
 have hg:∀ jump b,cs.length<=(Qdb sub jump b ts cs).length:=fun jump b=>by
  unfold Qdb;rw[QdQ];have:=QmD h jump ts (cs,[]);dsimp only at this;omega
 unfold Qa1;split
 all_goals first|exact hg _ _|(rw[List.length_append];first|(have:=Qdr h ts cs;omega)|omega)
theorem Qi1:∀(n:Nat) (t:Qa6 n) (cs:List Ins),cs.length<=(Qb7 n t cs).length
 |0,_,_=>Nat.le_refl _
 |n+1,x,cs=>QnI (Qi1 n) x.1 x.2 cs
theorem QwU{α β:Type}{aa:β->List Ins->List Ins}{ab:α->List Ins->List Ins}(ht:∀ t cs,cs.length<=(aa t cs).length)(hc:∀ t cs,cs.length<=(ab t cs).length)(p:List Ins×List Nat)(a:β×List α):p.1.length<=(QmZ aa ab p a).1.length:=by
 unfold QmZ;dsimp only;rw[Qbq,List.length_append];have h1:=ht a.1 p.1;have h2:=Qdr hc a.2 (aa a.1 p.1++[insOp 5]);rw[List.length_append]at h2;omega
theorem QhK{α β:Type}{tst:β->List Ins->List Ins}{cmd:α->List Ins->List Ins}(ht:∀ t cs,cs.length<=(tst t cs).length)(hc:∀ t cs,cs.length<=(cmd t cs).length):∀(as_:List (β×List α)) (p:List Ins×List Nat),p.1.length<=(as_.foldl (QmZ tst cmd) p).1.length
 | [],_=>Nat.le_refl _
 |a::r,p=>Nat.le_trans (QwU ht hc p a) (QhK ht hc r _)
theorem Qie{α:Type}{aa:α->List Ins->List Ins}(hc:∀ t cs,cs.length<=(aa t cs).length)(ab:List α)(r:List Ins×List Nat):r.1.length<=(Qd0 aa ab r).length:=by
 unfold Qd0;rw[Qbq];exact Qdr hc ab r.1
theorem Qp5{α β:Type}{ad:β->List Ins->List Ins}{ab:α->List Ins->List Ins}(ht:∀ t cs,cs.length<=(ad t cs).length)(hc:∀ t cs,cs.length<=(ab t cs).length)(x:Qgt)(aa:List (β×List α))(ac:List α)(cs:List Ins):cs.length<=(Qbn ad ab x aa ac cs).length:=by
 have hg:cs.length<=(QdT ad ab aa ac cs).length:=Nat.le_trans (QhK ht hc aa (cs,[])) (Qie hc ac _);unfold Qbn;split
 all_goals first|exact hg|(rw[List.length_append];omega)
theorem Qqh:∀(n:Nat) (t:Qbo n) (cs:List Ins),cs.length<=(Qkc n t cs).length
 |0,_,_=>Nat.le_refl _
 |n+1,x,cs=>Qp5 (Qi1 n) (Qqh n) x.1 x.2.1 x.2.2 cs
def Qrv (xs:List (L8)):Nat:=(xs.map List.length).sum
theorem QcI(x:L8)(xs:List (L8)):Qrv (x::xs)=x.length+Qrv xs:=by simp[Qrv]
theorem Qnb:∀(ps:List (L8)) (t:L8),t.length+Qrv ps<=(ps.foldl QaH t).length
 | [],t=>by simp[Qrv]
 |p::r,t=>by
  have h1:=Qnb r (QaH t p)
  have h2:t.length+p.length<=(QaH t p).length:=by
   unfold QaH;split<;>simp only[List.length_append,List.length_cons,List.length_nil]<;>omega
  rw[List.foldl_cons,QcI];omega
theorem QhF(ps:List (L8)):Qrv ps<=(phraseL ps).length:=by
 have:=Qnb ps [];unfold phraseL;simp only[List.length_nil]at this;omega
theorem QrJ:∀(xs:List (L8)),Qrv xs+2*xs.length<=(Qdw [44,32] xs).length+2
 | []=>by simp[Qrv,Qdw]
 | [x]=>by simp[Qrv,Qdw]
 |x::y::r=>by
  have:=QrJ (y::r);rw[QcI];simp only[Qdw,List.length_append,List.length_cons,List.length_nil]at this ⊢;omega
theorem Qfx{α:Type}{sub:α->List Ins->List Ins}{txt:α->L8}:∀(ts:List α) (cs:List Ins),(∀ t∈ts,∀ cs,(sub t cs).length<=cs.length+4*(txt t).length)->(blockC sub ts cs).length<=cs.length+4*Qrv (ts.map txt)
 | [],cs,_=>by simp[blockC]
 |t::r,cs,h=>by
  have h1:=h t (by simp) cs;have h2:=Qfx r (sub t cs) (fun t ht=>h t (by simp[ht]));rw[List.map_cons,QcI];show(blockC sub r (sub t cs)).length<=_
  omega
theorem Qri{α:Type}{sub:α->List Ins->List Ins}{txt:α->L8}(h:∀ t cs,(sub t cs).length<=cs.length+4*(txt t).length)(aa:Int):∀(ts:List α) (p:List Ins×List Nat),(ts.foldl (Qe6 sub aa) p).1.length<=p.1.length+4*Qrv (ts.map txt)+ts.length
 | [],p=>by simp
 |t::r,p=>by
  have h1:=Qri h aa r (Qe6 sub aa p t);have h2:=h t p.1;have h3:(Qe6 sub aa p t).1.length=(sub t p.1).length+1:=by unfold Qe6;simp
  rw[List.foldl_cons,List.map_cons,QcI,List.length_cons];omega
theorem Qnc{α:Type}{sub:α->List Ins->List Ins}{txt:α->L8}(h:∀ t cs,(sub t cs).length<=cs.length+4*(txt t).length)(x:Qcv)(ts:List α)(cs:List Ins):(Qa1 sub x ts cs).length<=cs.length+4*(QaB x (ts.map txt)).length:=by
 have hg:∀ jump b hw,(Qdb sub jump b ts cs).length<=cs.length+4*(Qbg hw (ts.map txt)).length:=fun jump b hw=>by
  unfold Qdb Qbg;rw[QdQ];have h1:=Qri h jump ts (cs,[]);have h2:=QrJ (ts.map txt);simp only[List.length_append,List.length_cons,List.length_nil,List.length_map]at h1 h2 ⊢;omega
 have hp:∀(w:L8) (r:List (L8)),w.length<=(phraseL (w::r)).length:=fun w r=>by
  have:=QhF (w::r);rw[QcI]at this;omega
 have hm:∀ hw:L8,hw.length<=(Qbd hw x).length:=fun hw=>hp _ _
 unfold Qa1 QaB;generalize x.kind=k
 match k with
 |0=>
  show(cs++[pushI true]).length<=cs.length+4*(QfB).length
  rw[List.length_append];show _<=_+4*4;simp
 |1=>
  show(cs++[pushI false]).length<=cs.length+4*(QcD).length
  rw[List.length_append];show _<=_+4*5;simp
 |2=>
  show(blockC sub ts cs++[insOp 2]).length<=cs.length+4*(phraseL (kNot::ts.map txt)).length
  rw[List.length_append];have h1:=Qfx (txt:=txt) ts cs (fun t _=>h t);have h2:=QhF (kNot::ts.map txt);rw[QcI]at h2;have h3:kNot.length=3:=rfl;simp only[List.length_cons,List.length_nil];omega
 |3=>
  show(Qdb sub 5 false ts cs).length<=cs.length+4*(Qbg QbW (ts.map txt)).length
  exact hg _ _ _
 |4=>
  show(Qdb sub 4 true ts cs).length<=cs.length+4*(Qbg QbV (ts.map txt)).length
  exact hg _ _ _
 |5=>
  show(cs++[Qb2 6 x]).length<=cs.length+4*(Qbd QbX x).length
  rw[List.length_append];have h1:=hm QbX;have h2:QbX.length=6:=rfl;simp only[List.length_cons,List.length_nil];omega
 |6=>
  show(cs++[Qb2 7 x]).length<=cs.length+4*(Qbd QaL x).length
  rw[List.length_append];have h1:=hm QaL;have h2:QaL.length=8:=rfl;simp only[List.length_cons,List.length_nil];omega
 |7=>
  show(cs++[Qb2 8 x]).length<=cs.length+4*(Qbd Qbx x).length
  rw[List.length_append];have h1:=hm Qbx;have h2:Qbx.length=6:=rfl;simp only[List.length_cons,List.length_nil];omega
 |8=>
  show(cs++[(⟨9,0,0,false,x.fr,[],0⟩:Ins)]).length<=cs.length+4*(phraseL [QbK,Qam x.fr]).length
  rw[List.length_append];have h1:=hp QbK [Qam x.fr];have h2:QbK.length=6:=rfl;simp only[List.length_cons,List.length_nil];omega
 |_+9=>
  show(cs++[(⟨10,x.num,x.tag,false,[],[],0⟩:Ins)]).length<=cs.length+4*(phraseL [Qd5,tagTextL x.tag [Qdh,Qb9],iL x.num]).length
  rw[List.length_append];have h1:=hp Qd5 [tagTextL x.tag [Qdh,Qb9],iL x.num];have h2:Qd5.length=4:=rfl;simp only[List.length_cons,List.length_nil];omega
theorem Qq9:∀(n:Nat) (t:Qa6 n) (cs:List Ins),(Qb7 n t cs).length<=cs.length+4*(Qay n t).length
 |0,_,cs=>by show cs.length<=_;omega
 |n+1,x,cs=>Qnc (Qq9 n) x.1 x.2 cs
theorem QjH{α:Type}(txt:α->L8->L8)(cs:List α)(i:L8):Qrv (cs.map fun c=>txt c i)<=(linesL txt cs i).length:=by
 induction cs with
 |nil=>simp[Qrv]
 |cons c r ih=>
  unfold linesL at ih ⊢;rw[List.map_cons,QcI,List.flatMap_cons];simp only[List.length_append];omega
theorem Qlj{α β:Type}{ab:β->List Ins->List Ins}{ac:α->List Ins->List Ins}{tt:β->L8}{ct:α->L8->L8}(j i:L8)(ht:∀ t cs,(ab t cs).length<=cs.length+4*(tt t).length):∀(ad:List (β×List α)) (aa:L8) (p:List Ins×List Nat),(∀ a∈ad,∀ t∈a.2,∀ cs i,(ac t cs).length<=cs.length+4*(ct t i).length)->(ad.foldl (QmZ ab ac) p).1.length<=p.1.length+4*(Qa9 j aa (ad.map fun a=>(tt a.1,linesL ct a.2 i))).length
 | [],_,p,_=>by simp[Qa9]
 |a::r,aa,p,hc=>by
  have h1:=Qlj j i ht r Qce (QmZ ab ac p a) (fun a ha=>hc a (by simp[ha]));have h2:=ht a.1 p.1;have h3:=Qfx (txt:=fun c=>ct c i) a.2 (ab a.1 p.1++[insOp 5]) (fun t h cs=>hc a (by simp) t h cs i);have h4:(QmZ ab ac p a).1.length=(blockC ac a.2 (ab a.1 p.1++[insOp 5])).length+1:=by unfold QmZ;dsimp only;rw[Qbq,List.length_append];rfl
  have h5:=QjH ct a.2 i;have h6:=QhF [aa,tt a.1,Qfe];rw[QcI,QcI,QcI]at h6;have h7:Qfe.length=2:=rfl;rw[List.foldl_cons,List.map_cons];show _<=p.1.length+4*(Qc4 aa j (tt a.1) (linesL ct a.2 i)++Qa9 j Qce (r.map fun a=>(tt a.1,linesL ct a.2 i))).length
  unfold Qc4;simp only[List.length_append,List.length_cons,List.length_nil]at h3 ⊢;omega
theorem Qpt{α β:Type}{ad:β->List Ins->List Ins}{ac:α->List Ins->List Ins}{tt:β->L8}{ct:α->L8->L8}(j i:L8)(ht:∀ t cs,(ad t cs).length<=cs.length+4*(tt t).length)(x:Qgt)(aa:List (β×List α))(ab:List α)(cs:List Ins)(hc:∀ a∈aa,∀ t∈a.2,∀ cs i,(ac t cs).length<=cs.length+4*(ct t i).length)(ae:∀ t∈ab,∀ cs i,(ac t cs).length<=cs.length+4*(ct t i).length)(he:x.els=false->ab=[]) :
 (Qbn ad ac x aa ab cs).length<=cs.length+4*(Qbh x j (aa.map fun a=>(tt a.1,linesL ct a.2 i)) (linesL ct ab i)).length:=by
 unfold Qbn Qbh;generalize x.kind=k
 match k with
 |0=>
  show(cs++[Qgx 1 x.pos []]).length<=cs.length+4*(Qfk++[59]).length
  rw[List.length_append,List.length_append];simp only[List.length_cons,List.length_nil];omega
 |1=>
  show(cs++[(⟨13,0,0,false,[],[],x.pos⟩:Ins)]).length<=cs.length+4*(Qb0++[59]).length
  rw[List.length_append,List.length_append];simp only[List.length_cons,List.length_nil];omega
 |2=>
  show(cs++[(⟨14,0,0,false,[],[],x.pos⟩:Ins)]).length<=cs.length+4*(Qd6++[59]).length
  rw[List.length_append,List.length_append];simp only[List.length_cons,List.length_nil];omega
 |3=>
  show(cs++[Qgx 2 x.pos [x.arg]]).length<=cs.length+4*(phraseL [QaO,quotedL x.arg]++[59]).length
  rw[List.length_append,List.length_append];simp only[List.length_cons,List.length_nil];omega
 |4=>
  show(cs++[Qgx 3 x.pos [x.arg]]).length<=cs.length+4*(phraseL [Qbl,quotedL x.arg]++[59]).length
  rw[List.length_append,List.length_append];simp only[List.length_cons,List.length_nil];omega
 |5=>
  show(cs++[Qgx 4 x.pos [x.arg]]).length<=cs.length+4*(phraseL [Qbc,quotedL x.arg]++[59]).length
  rw[List.length_append,List.length_append];simp only[List.length_cons,List.length_nil];omega
 |6=>
  show(cs++[(⟨12,0,x.tag,false,[x.var],[x.arg],x.pos⟩:Ins)]).length<=cs.length+4*(phraseL [QhB,tagTextL x.tag [QbT,QbU,Qbr],quotedL x.var,quotedL x.arg]++[59]).length
  rw[List.length_append,List.length_append];simp only[List.length_cons,List.length_nil];omega
 |_+7=>
  show(QdT ad ac aa ab cs).length<=cs.length+4*(Qa9 j kIf (aa.map fun(a:β×List α)=>(tt a.1,linesL ct a.2 i))++(if x.els then QeI++linesL ct ab i++j else [])++[125]).length
  unfold QdT Qd0;rw[Qbq];have h1:=Qlj j i ht aa kIf (cs,[]) hc;have h2:=Qfx (txt:=fun c=>ct c i) ab (aa.foldl (QmZ ad ac) (cs,[])).1 (fun t h cs=>ae t h cs i);have h3:=QjH ct ab i;dsimp only at h1;rw[List.length_append,List.length_append];by_cases hx:x.els=true
  ·rw[if_pos hx];simp only[List.length_append];omega
  ·have hn:ab=[]:=he (by cases h:x.els with|false=>rfl|true=>exact absurd h hx);subst hn;have h4:Qrv (([]:List α).map fun c=>ct c i)=0:=rfl;omega
theorem Qpr(req:List (L8)):∀(n:Nat) (t:Qbo n),allC (WfT req) (WfC req) n t->∀(cs:List Ins) (i:L8),(Qkc n t cs).length<=cs.length+4*(Qa0 n t i).length
 |0,_,h,cs,i=>h.elim
 |n+1,x,h,cs,i=>by
  obtain⟨h1,h2,h3⟩:=h;refine Qpt i (i++[32,32]) (Qq9 n) x.1 x.2.1 x.2.2 cs (fun a ha t ht cs i=>Qpr req n t ((h2 a ha).2 t ht) cs i) (fun t ht cs i=>Qpr req n t (h3 t ht) cs i) (fun he=>?_);exact List.eq_nil_of_length_eq_zero (h1.else0 he)
theorem Qq0{y:List (L8)×List (Qbo 7)}(h:∀ c∈y.2,allC (WfT y.1) (WfC y.1) 7 c):(QcF y.2).length<=4*(textL y).length:=by
 have h1:=Qfx (txt:=fun c=>Qa0 7 c []) y.2 [] (fun t ht cs=>Qpr y.1 7 t (h t ht) cs []);have h2:=QjH (Qa0 7) y.2 [];unfold QcF textL;rw[List.length_append];simp only[List.length_nil]at h1;omega
theorem QlL:∀ {m:L8},47 ∉ m->Lib.index m [42,47] = -1
 | [],_=>rfl
 | [b],_=>by simp[Lib.index,List.isPrefixOf]
 |b::c::l,h=>by
  have ih:=QlL (m:=c::l) (fun hm=>h (List.mem_cons_of_mem _ hm));have hc:c≠47:=fun e=>h (by rw[e];simp)
  rw[Lib.index,if_neg,ih]
  ·rfl
  ·simp only[List.isPrefixOf,Bool.and_eq_true,beq_iff_eq];rintro⟨_,h2,_⟩;exact hc h2.symm
theorem Qq2{C:L8}:∀ {l:L8},Lib.index l [42,47]<0->47 ∉ C->Lib.index (l++10::C) [42,47]<0
 | [],_,hC=>by
  rw[List.nil_append,QlL (m:=10::C) (by simp;exact hC)];decide
 |b::l,h,hC=>by
  have h0:¬ List.isPrefixOf [42,47] (b::l)=true:=fun e=>by rw[Lib.index,if_pos e]at h;exact absurd h (by decide)
  have h1:Lib.index l [42,47]<0:=by
   rw[Lib.index,if_neg h0]at h;by_cases e:(Lib.index l [42,47] == -1)=true
   ·have:=beq_iff_eq.1 e;omega
   ·rw[if_neg e]at h;have:=Lib.index_ge l [42,47];have e':Lib.index l [42,47]≠-1:=fun x=>e (beq_iff_eq.2 x)
    omega
  have ih:=Qq2 h1 hC;have aa:Lib.index (l++10::C) [42,47] = -1:=by have:=Lib.index_ge (l++10::C) [42,47];omega
  rw[List.cons_append,Lib.index,if_neg,aa]
  ·decide
  ·intro e
   cases l with
   |nil=>
    simp[List.isPrefixOf]at e
   |cons d l=>
    apply h0;simpa[List.isPrefixOf]using e
theorem QiX(C:L8):∀(k:Nat) (r:L8) (p q:Nat),r.length<=k->
 (∀ n,skipS r p=.ok n->p<=n/\((n<p+r.length/\skipS (r++10::C) q=.ok (q+(n - p)))\/(n=p+r.length/\skipS (r++10::C) q=skipS C (q+r.length+1))))/\(∀ f,skipS r p=.error f->47 ∉ C->∃ f',skipS (r++10::C) q=.error f')
 |k,[],p,q,_=>by
  refine⟨fun n h=>?_,fun f h=>by cases h⟩;cases h;exact⟨Nat.le_refl _,Or.inr ⟨rfl,QbR C q (by decide)⟩⟩
 |0,c::r,p,q,h=>absurd h (by simp)
 |k+1,c::r,p,q,h=>by
  simp only[List.length_cons]at h;cases hb:Qa8 c.toNat
  ·by_cases h1:c.toNat=35
   ·rw[Qgc r p hb h1,List.cons_append,Qgc _ q hb h1,<-List.cons_append];have h3:=Qd2 c r;by_cases hn:0<=Lib.indexByte (c::r) 10
    ·rw[Qgo _ hn];have ab:=QfZ (c::r);rw[List.drop_append_of_le_length ab];have ad:((c::r).drop (lineLen (c::r))).length=r.length+1 - lineLen (c::r):=by rw[List.length_drop];rfl
     simp only[List.length_cons]at ab;obtain⟨i1,i2⟩:=QiX C k ((c::r).drop (lineLen (c::r))) (p+lineLen (c::r)) (q+lineLen (c::r)) (by omega);refine⟨fun n aa=>?_,i2⟩;obtain⟨a1,a2⟩:=i1 n aa;refine⟨by omega,?_⟩;rcases a2 with⟨b1,b2⟩ | ⟨b1,b2⟩
     ·left;refine⟨by simp only[List.length_cons];omega,?_⟩;rw[b2];congr 1;omega
     ·right;refine⟨by simp only[List.length_cons];omega,?_⟩;rw[b2];simp only[List.length_cons];congr 1;omega
    ·have aa:Lib.indexByte (c::r) 10<0:=by omega
     rw[Qem _ aa];have e1:lineLen (c::r)=(c::r).length:=by unfold lineLen;rw[if_pos aa]
     rw[e1,List.drop_length,Qkn]
     have e2:List.drop ((c::r).length+1) (c::r++10::C)=C:=by
      rw[List.drop_append,List.drop_of_length_le (by omega)];simp
     rw[e2];refine⟨fun n hh=>?_,fun f hh=>by cases hh⟩;cases hh;exact⟨by omega,Or.inr ⟨rfl,rfl⟩⟩
   ·cases h2:Lib.hasPrefix (c::r) [47,42]
    ·rw[Qes r p hb h1 h2,List.cons_append,Qes _ q hb h1 (by rw[Qux];exact h2)];refine⟨fun n hh=>?_,fun f hh=>by cases hh⟩;cases hh;exact⟨Nat.le_refl _,Or.inl ⟨by simp,by simp⟩⟩
    ·by_cases h3:Lib.index (r.drop 1) [42,47]<0
     ·rw[QgB r p hb h1 h2 h3];refine⟨fun n hh=>(by cases hh),fun f hh h47=>⟨⟨2,q⟩,?_⟩⟩
      have ae:1<=r.length:=by
       have:=(List.isPrefixOf_iff_prefix.1 h2).length_le;simp at this;omega
      have hd:(r++10::C).drop 1=r.drop 1++10::C:=List.drop_append_of_le_length ae;rw[List.cons_append];exact QgB _ q hb h1 (by rw[Qux];exact h2) (by rw[hd];exact Qq2 h3 h47)
     ·have ae:1<=r.length:=by
       have:=(List.isPrefixOf_iff_prefix.1 h2).length_le;simp at this;omega
      have hd:(r++10::C).drop 1=r.drop 1++10::C:=List.drop_append_of_le_length ae
      have hi:Lib.index ((r++10::C).drop 1) [42,47]=Lib.index (r.drop 1) [42,47]:=by
       rw[hd];exact Qfv _ (by omega) (by decide)
      rw[Qhr r p hb h1 h2 h3,List.cons_append,Qhr _ q hb h1 (by rw[Qux];exact h2) (by rw[hi];exact h3),hi,<-List.cons_append];have ac:=Qel (r.drop 1) [42,47]
      have hx:Lib.index (r.drop 1) [42,47]+2<=(r.length - 1:Nat):=by
       rcases ac with hh|hh
       ·exact absurd hh h3
       ·rw[List.length_drop]at hh;simpa using hh
      generalize hj:(Lib.index (r.drop 1) [42,47]).toNat=j at *;have ab:4+j<=(c::r).length:=by simp only[List.length_cons];omega
      rw[List.drop_append_of_le_length ab];have ad:((c::r).drop (4+j)).length=r.length+1 - (4+j):=by rw[List.length_drop];rfl
      simp only[List.length_cons]at ab;obtain⟨i1,i2⟩:=QiX C k ((c::r).drop (4+j)) (p+(4+j)) (q+(4+j)) (by omega);refine⟨fun n aa=>?_,i2⟩;obtain⟨a1,a2⟩:=i1 n aa;refine⟨by omega,?_⟩;rcases a2 with⟨b1,b2⟩ | ⟨b1,b2⟩
      ·left;refine⟨by simp only[List.length_cons];omega,?_⟩;rw[b2];congr 1;omega
      ·right;refine⟨by simp only[List.length_cons];omega,?_⟩;rw[b2];simp only[List.length_cons];congr 1;omega
  ·rw[QbR r p hb,List.cons_append,QbR _ q hb];obtain⟨i1,i2⟩:=QiX C k r (p+1) (q+1) (by omega);refine⟨fun n aa=>?_,i2⟩;obtain⟨a1,a2⟩:=i1 n aa;refine⟨by omega,?_⟩;rcases a2 with⟨b1,b2⟩ | ⟨b1,b2⟩
   ·left;refine⟨by simp only[List.length_cons];omega,?_⟩;rw[b2];congr 1;omega
   ·right;refine⟨by simp only[List.length_cons];omega,?_⟩;rw[b2];simp only[List.length_cons];congr 1;omega
theorem QeC:∀(k:Nat) (m:L8),m.length<=k->34 ∉ m->qL m=none
 |_,[],_,_=>by unfold qL;rfl
 |0,c::r,h,_=>absurd h (by simp)
 |k+1,c::r,h,hm=>by
  simp only[List.length_cons]at h;have hc:¬ c.toNat=34:=fun e=>hm (by rw[show(34:UInt8)=c from UInt8.toNat_inj.1 (by rw[e];rfl)];exact List.mem_cons_self)
  unfold qL;rw[if_neg hc];by_cases h2:c.toNat=92
  ·rw[if_pos h2]
   cases r with
   |nil=>rfl
   |cons d r'=>
    simp only[List.length_cons]at h;dsimp only;rw[QeC k r' (by omega) (fun hx=>hm (List.mem_cons_of_mem _ (List.mem_cons_of_mem _ hx)))];rfl
  ·rw[if_neg h2,QeC k r (by omega) (fun hx=>hm (List.mem_cons_of_mem _ hx))];rfl
theorem Qku{C:L8}(hC:34 ∉ C):∀(k:Nat) (r:L8),r.length<=k->qL r=none->qL (r++10::C)=none
 |_,[],_,_=>QeC _ (10::C) (Nat.le_refl _) (by simp;exact hC)
 |0,c::r,h,_=>absurd h (by simp)
 |k+1,c::r,h,hq=>by
  simp only[List.length_cons]at h;rw[List.cons_append];unfold qL at hq ⊢;by_cases hc:c.toNat=34
  ·rw[if_pos hc]at hq;cases hq
  rw[if_neg hc]at hq ⊢;by_cases h2:c.toNat=92
  ·rw[if_pos h2]at hq ⊢
   cases r with
   |nil=>
    show(qL C).map _=none
    rw[QeC _ C (Nat.le_refl _) hC];rfl
   |cons d r'=>
    simp only[List.length_cons]at h;rw[List.cons_append];dsimp only at hq ⊢;rw[Qku hC k r' (by omega) (by cases hh:qL r' with|none=>rfl|some y=>rw[hh]at hq;cases hq)];rfl
  ·rw[if_neg h2]at hq ⊢;rw[Qku hC k r (by omega) (by cases hh:qL r with|none=>rfl|some y=>rw[hh]at hq;cases hq)];rfl
theorem Qqf(c:UInt8)(r C:L8)(p q:Nat)(f:Flt)(h:sNL (c::r) p=.error f):∃ f',sNL (c::(r++10::C)) q=.error f':=by
 revert h;rw[<-List.cons_append];generalize c::r=R;have hd:Qa7 (R++10::C)=Qa7 R:=by unfold Qa7;rw[Qe2]
 have hv:Qdn (R++10::C)=Qdn R:=by unfold Qdn;rw[Qe2]
 have ab:=Qh7 R
 have hm:isM ((R++10::C).getD (Qa7 R) 0)=isM (R.getD (Qa7 R) 0):=by
  rcases getD_append R C _ ab with h | ⟨h,h'⟩
  ·rw[h]
  ·rw[h,h'];decide
 have hk:isK ((R++10::C).getD (Qa7 R) 0)=isK (R.getD (Qa7 R) 0):=by
  rcases getD_append R C _ ab with h | ⟨h,h'⟩
  ·rw[h]
  ·rw[h,h'];decide
 obtain⟨n',v',aa,ad,e1⟩:∃ n' v':Nat,n'=(if isM (R.getD (Qa7 R) 0) || isK (R.getD (Qa7 R) 0)then Qa7 R+1 else Qa7 R)/\v'=(if isM (R.getD (Qa7 R) 0)then Qdn R*1048576 else if isK (R.getD (Qa7 R) 0)then Qdn R*1024 else Qdn R)/\
  sNL R p=if letdig (R.getD n' 0)then .error ⟨2,p⟩else if 2147483647<v' then .error ⟨3,p⟩else .ok (⟨4,p,[],[],v'⟩,p+n'):=⟨_,_,rfl,rfl,rfl⟩
 have e2:sNL (R++10::C) q=if letdig ((R++10::C).getD n' 0)then .error ⟨2,q⟩else if 2147483647<v' then .error ⟨3,q⟩else .ok (⟨4,q,[],[],v'⟩,q+n'):=by
  unfold sNL;dsimp only;rw[hd,hv,hm,hk,aa,ad]
 have ac:n'<=R.length:=by
  by_cases hm:(isM (R.getD (Qa7 R) 0) || isK (R.getD (Qa7 R) 0))=true
  ·have hlt2:Qa7 R<R.length:=by
    apply Classical.byContradiction;intro hge;rw[QdS _ _ (by omega)]at hm;exact absurd hm (by decide)
   rw[aa,if_pos hm];omega
  ·rw[aa,if_neg hm];omega
 have hl:letdig ((R++10::C).getD n' 0)=letdig (R.getD n' 0):=by
  rcases getD_append R C _ ac with h | ⟨h,h'⟩
  ·rw[h]
  ·rw[h,h'];decide
 rw[e1,e2,hl];intro h;by_cases h1:letdig (R.getD n' 0)=true
 ·rw[if_pos h1];exact⟨_,rfl⟩
 ·rw[if_neg h1]at h ⊢;by_cases h3:2147483647<v'
  ·rw[if_pos h3];exact⟨_,rfl⟩
  ·rw[if_neg h3]at h;cases h
theorem QtT(c:UInt8)(r C:L8)(p q:Nat)(f:Flt)(h:scanL (c::r) p=.error f)(hC:34 ∉ C):∃ f',scanL (c::(r++10::C)) q=.error f':=by
 unfold scanL at h ⊢;dsimp only at h ⊢;by_cases h1:Qbs (c.toNat:Int)=true
 ·rw[if_pos h1]at h;cases h
 rw[if_neg h1]at h ⊢;by_cases h2:c.toNat=58
 ·rw[if_pos h2]at h ⊢;rw[Qeh r C];by_cases h3:Qa5 r=0
  ·rw[if_pos h3];exact⟨_,rfl⟩
  ·rw[if_neg h3]at h;cases h
 rw[if_neg h2]at h ⊢;by_cases h3:QaS (c.toNat:Int)=true
 ·rw[if_pos h3]at h ⊢;exact Qqf c r C p q f h
 rw[if_neg h3]at h ⊢;by_cases h4:c.toNat=34
 ·rw[if_pos h4]at h ⊢;unfold quoteR at h ⊢
  cases hq:qL r with
  |some y=>rw[hq]at h;cases h
  |none=>rw[Qku hC _ r (Nat.le_refl _) hq];exact⟨_,rfl⟩
 rw[if_neg h4]at h ⊢;by_cases h5:Qho c=true
 ·rw[if_pos h5]at h;cases h
 rw[if_neg h5];exact⟨_,rfl⟩
structure Qr0 (l:L8) (a:Nat) (r:L8):Prop where
 word:∀ d y,d≤r.length→nL r d=.ok y→y.1.kind≠0→nL l (a+d)=.ok (y.1.at (a+y.1.pos),a+y.2)
 last:∀ d y,d≤r.length→nL r d=.ok y→y.1.kind=0→nL l (a+d)=nL l (a+r.length)
def Qno (l:L8) (a:Nat) (r:L8):Prop:=∀ d f,d≤r.length→nL r d=.error f→∃ f',nL l (a+d)=.error f'
theorem QdG(A r T:L8)(d:Nat)(h:d<=r.length):(A++(r++T)).drop (A.length+d)=r.drop d++T:=by
 rw[List.drop_append,List.drop_of_length_le (by omega),List.nil_append];have e:A.length+d - A.length=d:=by omega
 rw[e,List.drop_append_of_le_length h]
theorem QmI(A r C:L8)(d:Nat)(hd:d<=r.length) :
 (∀ y,nL r d=.ok y->(y.1.kind≠0/\nL (A++(r++10::C)) (A.length+d)=.ok (y.1.at (A.length+y.1.pos),A.length+y.2))\/(y.1.kind=0/\nL (A++(r++10::C)) (A.length+d)=nL (A++(r++10::C)) (A.length+r.length)))/\(∀ f,nL r d=.error f->34 ∉ C->47 ∉ C->∃ f',nL (A++(r++10::C)) (A.length+d)=.error f'):=by
 obtain⟨i1,i2⟩:=QiX C (r.drop d).length (r.drop d) d (A.length+d) (Nat.le_refl _);have hdl:(r.drop d).length=r.length - d:=List.length_drop;rw[QcN,QcN (A++(r++10::C)),QdG A r _ d hd]
 cases hs:skipS (r.drop d) d with
 |error f=>
  dsimp only;refine⟨fun y h=>(by cases h),fun f' h h34 h47=>?_⟩;obtain⟨f2,h2⟩:=i2 f hs h47;rw[h2];exact⟨f2,rfl⟩
 |ok n=>
  dsimp only;obtain⟨h1,h2⟩:=i1 n hs;rcases h2 with⟨h2,h3⟩ | ⟨h2,h3⟩
  ·have e:A.length+d+(n - d)=A.length+n:=by omega
   rw[h3,e];dsimp only;rw[QdG A r _ n (by omega)];obtain⟨c,ρ,hc⟩:∃ c ρ,r.drop n=c::ρ:=⟨_,_,List.drop_eq_getElem_cons (by omega)⟩;rw[hc,List.cons_append];refine⟨fun y h=>Or.inl ?_,fun f h h34 h47=>QtT c ρ C n (A.length+n) f h h34⟩;obtain⟨g1,g2,g3⟩:=(Ql8 c ρ C n (A.length+n)).1 y h
   have hp:y.1.pos=n:=by
    have h':scanL (r.drop n) n=.ok y:=by rw[hc];exact h
    exact(Qja r n (by omega) y h').1
   refine⟨g3,?_⟩;rw[g1,hp];have e2:A.length+n+(y.2 - n)=A.length+y.2:=by omega
   rw[e2]
  ·have hn:n=r.length:=by omega
   have e:A.length+d+(r.drop d).length+1=A.length+r.length+1:=by omega
   rw[h3,e];have hr:r.drop n=[]:=List.drop_of_length_le (by omega);rw[hr];refine⟨fun y h=>Or.inr ?_,fun f h=>by cases h⟩;cases h;refine⟨rfl,?_⟩;rw[QcN (A++(r++10::C)),QdG A r _ r.length (Nat.le_refl _),List.drop_length,List.nil_append,QbR C _ (by decide)]
theorem Qhq(A r C:L8):Qr0 (A++(r++10::C)) A.length r:=
 ⟨fun d y hd hy hk=>by
  rcases(QmI A r C d hd).1 y hy with⟨_,h⟩ | ⟨h,_⟩
  ·exact h
  ·exact absurd h hk,fun d y hd hy hk=>by
  rcases(QmI A r C d hd).1 y hy with⟨h,_⟩ | ⟨_,h⟩
  ·exact absurd hk h
  ·exact h⟩
theorem QmK(A r C:L8)(h34:34 ∉ C)(h47:47 ∉ C):Qno (A++(r++10::C)) A.length r:=fun d f hd hf=>(QmI A r C d hd).2 f hf h34 h47
structure Qyi (l:L8) (a:Nat) (u:L8) (b:Nat) (r:L8):Prop where
 one:Qr0 l a r
 bad:Qno l a r
 two:Qr0 u b r
def QyX (l:L8) (a:Nat) (u:L8) (b:Nat) (r:L8) (s s':PS):Prop:=
 (∃ d,d≤r.length∧s.1.kind≠0∧s.2=a+d∧s'.2=b+d∧s'.1.kind=s.1.kind∧s'.1.spelt=s.1.spelt∧s'.1.said=s.1.said∧s'.1.num=s.1.num)∨(nL l (a+r.length)=.ok s∧(∀ x,nL u (b+r.length)=.ok x→s'=x)∧nL u (b+r.length)=.ok s')
theorem both_next{l u r:L8}{a b d:Nat}(h:Qyi l a u b r)(hd:d<=r.length){y:PS}(hy:nL l (a+d)=.ok y):(∃ f,nL u (b+d)=.error f)\/∃ y',nL u (b+d)=.ok y'/\QyX l a u b r y y':=by
 cases hr:nL r d with
 |error f=>
  obtain⟨f',h1⟩:=h.bad d f hd hr;rw[h1]at hy;cases hy
 |ok z=>
  have hz:=Qby r d hd z hr;by_cases hk:z.1.kind=0
  ·rw[h.one.last d z hd hr hk]at hy;rw[h.two.last d z hd hr hk]
   cases hu:nL u (b+r.length)with
   |error f=>exact Or.inl ⟨f,rfl⟩
   |ok y'=>exact Or.inr ⟨y',rfl,Or.inr ⟨hy,fun x hx=>by rw[hu]at hx;cases hx;rfl,hu⟩⟩
  ·have h1:=h.one.word d z hd hr hk;have h2:=h.two.word d z hd hr hk;rw[h1]at hy;cases hy;exact Or.inr ⟨_,h2,Or.inl ⟨z.2,hz.2.1,hk,rfl,rfl,rfl,rfl,rfl,rfl⟩⟩
section
structure Cx (l:L8) (a:Nat) (u:L8) (b:Nat) (r b1 b2:L8):Prop where
 tw:Qyi l a u b r
 la:a+r.length≤l.length
 e1:∀ s,nL l (a+r.length)=.ok s→s.1.spelt=b1∧s.1.kind≠5∧s.1.kind≠4∧s.1.kind≠1
 e2:∀ s,nL u (b+r.length)=.ok s→s.1.spelt=b2
def BG (l:L8) (a:Nat) (u:L8) (b:Nat) (r:L8) (s s':PS):Prop:=Gd l s∧QyX l a u b r s s'
def Two {α α' γ:Type} (g:α→γ) (g':α'→γ) (l:L8) (a:Nat) (u:L8) (b:Nat) (r:L8) (x:Except Flt (α×PS)) (x':Except Flt (α'×PS)):Prop:=
 ∀ y,x=.ok y→(∃ f,x'=.error f)∨∃ y',x'=.ok y'∧g y.1=g' y'.1∧BG l a u b r y.2 y'.2
section
variable {l u r b1 b2:L8} {a b:Nat}
theorem Two.okk{α α' γ:Type}{g:α->γ}{g':α'->γ}{x:α}{x':α'}{s s':PS}(hg:g x=g' x')(h:BG l a u b r s s'):Two g g' l a u b r (.ok (x,s)) (.ok (x',s')):=fun y e=>by
 cases e;exact Or.inr ⟨_,rfl,hg,h⟩
theorem Two.fail{α α' γ:Type}{g:α->γ}{g':α'->γ}{f:Flt}{x':Except Flt (α'×PS)}:Two g g' l a u b r (.error f) x':=fun y e=>by cases e
theorem Two.andThen{α α' γ β β' δ:Type}{g:α->γ}{g':α'->γ}{h:β->δ}{h':β'->δ}{x:Except Flt (α×PS)}{x':Except Flt (α'×PS)}{k:α->PS->Except Flt (β×PS)}{k':α'->PS->Except Flt (β'×PS)}(hr:Two g g' l a u b r x x')
 (hk:∀(y:α×PS) (y':α'×PS),x=.ok y->g y.1=g' y'.1->BG l a u b r y.2 y'.2->Two h h' l a u b r (k y.1 y.2) (k' y'.1 y'.2)):Two h h' l a u b r (Qa2 x k) (Qa2 x' k'):=fun z e=>by
 cases hx:x with
 |error f=>rw[Qad hx]at e;cases e
 |ok y=>
  rw[Qac hx]at e;rcases hr y hx with⟨f,h1⟩ | ⟨y',h1,h2,h3⟩
  ·exact Or.inl ⟨f,Qad h1⟩
  ·rw[Qac h1];exact hk y y' hx h2 h3 z e
def Qyt (a b:Nat) (r:L8) (s s':PS):Prop:=∃ d,d≤r.length∧s.1.kind≠0∧s.2=a+d∧s'.2=b+d∧s'.1.kind=s.1.kind∧s'.1.spelt=s.1.spelt∧s'.1.said=s.1.said∧s'.1.num=s.1.num
theorem next_bg(hc:Cx l a u b r b1 b2){s s':PS}(h:Qyt a b r s s'){y:PS}(hy:nL l s.2=.ok y):(∃ f,nL u s'.2=.error f)\/∃ y',nL u s'.2=.ok y'/\BG l a u b r y y':=by
 obtain⟨d,hd,_,e1,e2,_⟩:=h;rw[e1]at hy;rw[e2];have hla:=hc.la;have hl:=Qby l (a+d) (by omega) y hy;rcases both_next hc.tw hd hy with h | ⟨y',h1,h2⟩
 ·exact Or.inl h
 ·exact Or.inr ⟨y',h1,⟨hl.2.1,hl.2.2.2.1⟩,h2⟩
theorem Two.next{β β' δ:Type}{h:β->δ}{h':β'->δ}(hc:Cx l a u b r b1 b2){s s':PS}(hi:Qyt a b r s s'){k:PS->Except Flt (β×PS)}{k':PS->Except Flt (β'×PS)}
 (hk:∀ y y',nL l s.2=.ok y->BG l a u b r y y'->Two h h' l a u b r (k y) (k' y')):Two h h' l a u b r (nextThen l s k) (nextThen u s' k'):=fun z e=>by
 cases hx:nL l s.2 with
 |error f=>rw[QaC hx]at e;cases e
 |ok y=>
  rw[QaE hx]at e;rcases next_bg hc hi hx with⟨f,h1⟩ | ⟨y',h1,h2⟩
  ·exact Or.inl ⟨f,QaC h1⟩
  ·rw[QaE h1];exact hk y y' hx h2 z e
theorem BG.inn(hc:Cx l a u b r b1 b2){s s':PS}(h:BG l a u b r s s')(hn:s.1.spelt≠b1\/s.1.kind=5\/s.1.kind=4\/s.1.kind=1):Qyt a b r s s':=by
 rcases h.2 with h | ⟨h,_⟩
 ·exact h
 ·obtain⟨g1,g2,g3,g4⟩:=hc.e1 s h;rcases hn with hn|hn|hn|hn
  ·exact absurd g1 hn
  ·exact absurd hn g2
  ·exact absurd hn g3
  ·exact absurd hn g4
theorem QlO(hc:Cx l a u b r b1 b2)(zs:List (L8))(h1:wL zs b1=0)(h2:wL zs b2=0){s s':PS}(h:BG l a u b r s s'):Two id id l a u b r (mayL l zs s) (mayL u zs s'):=fun y e=>by
 unfold mayL at e ⊢;rcases h.2 with hi | ⟨g1,g2,g3⟩
 ·obtain⟨d,hd,hk,e1,e2,e3,e4,e5,e6⟩:=hi;rw[e4];by_cases h0:wL zs s.1.spelt=0
  ·rw[if_pos h0]at e ⊢;cases e;exact Or.inr ⟨_,rfl,rfl,h⟩
  ·rw[if_neg h0]at e ⊢
   cases hx:nL l s.2 with
   |error f=>rw[hx]at e;cases e
   |ok z=>
    rw[hx]at e;cases e;rcases next_bg hc ⟨d,hd,hk,e1,e2,e3,e4,e5,e6⟩ hx with⟨f,q1⟩ | ⟨y',q1,q2⟩
    ·rw[q1];exact Or.inl ⟨f,rfl⟩
    ·rw[q1];exact Or.inr ⟨_,rfl,rfl,q2⟩
 ·rw[(hc.e1 s g1).1,if_pos h1]at e;rw[hc.e2 s' g3,if_pos h2];cases e;exact Or.inr ⟨_,rfl,rfl,h⟩
theorem Qgd(hc:Cx l a u b r b1 b2)(zs:List (L8))(h1:wL zs b1=0){s s':PS}(h:BG l a u b r s s'):Two id id l a u b r (paL l zs s) (paL u zs s'):=fun y e=>by
 unfold paL at e ⊢;by_cases h0:wL zs s.1.spelt=0
 ·rw[if_pos h0]at e;cases e
 ·rw[if_neg h0]at e;have hi:=h.inn hc (Or.inl (fun x=>h0 (by rw[x];exact h1)));obtain⟨d,hd,hk,e1,e2,e3,e4,e5,e6⟩:=hi;rw[e4,if_neg h0]
  cases hx:nL l s.2 with
  |error f=>rw[hx]at e;cases e
  |ok z=>
   rw[hx]at e;cases e;rcases next_bg hc ⟨d,hd,hk,e1,e2,e3,e4,e5,e6⟩ hx with⟨f,q1⟩ | ⟨y',q1,q2⟩
   ·rw[q1];exact Or.inl ⟨f,rfl⟩
   ·rw[q1];exact Or.inr ⟨_,rfl,rfl,q2⟩
theorem QcQ(hc:Cx l a u b r b1 b2)(chk:L8->Nat){s s':PS}(h:BG l a u b r s s'):Two id id l a u b r (sL l chk s) (sL u chk s'):=fun y e=>by
 unfold sL at e ⊢;by_cases h0:s.1.kind=5
 ·rw[if_pos h0]at e;obtain⟨d,hd,hk,e1,e2,e3,e4,e5,e6⟩:=h.inn hc (Or.inr (Or.inl h0));rw[e3,e5,if_pos h0];by_cases hx0:chk s.1.said=0
  ·rw[if_pos hx0]at e ⊢
   cases hx:nL l s.2 with
   |error f=>rw[hx]at e;cases e
   |ok z=>
    rw[hx]at e;cases e;rcases next_bg hc ⟨d,hd,hk,e1,e2,e3,e4,e5,e6⟩ hx with⟨f,q1⟩ | ⟨y',q1,q2⟩
    ·rw[q1];exact Or.inl ⟨f,rfl⟩
    ·rw[q1];exact Or.inr ⟨_,rfl,rfl,q2⟩
  ·rw[if_neg hx0]at e;cases e
 ·rw[if_neg h0]at e;cases e
structure QuB (x:L8):Prop where
 o1:wL [[44],[93]] x=0
 o2:wL [[44],[41]] x=0
 o3:wL [[40]] x=0
 o4:wL [Qdh,Qb9] x=0
structure QlH (x:L8):Prop where
 o1:wL [[91]] x=0
 o2:wL [tIs,Qaq,Qaz] x=0
 o3:wL [Qas] x=0
 o4:wL tNs x=0
theorem QqN(hc:Cx l a u b r b1 b2)(h1:QuB b1)(chk:L8->Nat):∀(f f':Nat) (aa:List (L8)) (s s':PS),f<=f'->mu l.length s<f->BG l a u b r s s'->Two id id l a u b r (moreL l chk f aa s) (moreL u chk f' aa s')
 |0,_,_,_,_,_,hm,_=>absurd hm (Nat.not_lt_zero _)
 |f+1,0,_,_,_,hf,_,_=>absurd hf (by omega)
 |f+1,f'+1,aa,s,s',hf,hm,h=>by
  rw[Qf9,Qf9];refine(Qgd hc _ h1.o1 h).andThen fun y y' hy e h2=>?_
  have d1:=(Qcu (zs:=[[44],[93]]) h.1 (by decide) y hy).2;rw[show y'.1=y.1 from e.symm];by_cases h0:y.1=1
  ·rw[if_pos h0,if_pos h0];refine(QcQ hc chk h2).andThen fun z z' hz ez h3=>?_
   have d2:=(QbH h2.1 z hz).2;rw[show z'.1=z.1 from ez.symm];exact QqN hc h1 chk f f' _ _ _ (by omega) (by omega) h3
  ·rw[if_neg h0,if_neg h0];exact Two.okk rfl h2
theorem Qgv(hc:Cx l a u b r b1 b2)(h1:QuB b1)(aa:QlH b1)(ab:QlH b2)(chk:L8->Nat){F F':Nat}(hF:F<=F'){s s':PS}(hm:mu l.length s<F)(h:BG l a u b r s s'):Two id id l a u b r (sLs l chk F s) (sLs u chk F' s'):=by
 rw[QdC,QdC];refine(QlO hc _ aa.o1 ab.o1 h).andThen fun y y' hy e h3=>?_
 have d1:=(Qdz (zs:=[[91]]) h.1 (by decide) y hy).2;refine(QcQ hc chk h3).andThen fun z z' hz ez h4=>?_
 have d2:=(QbH h3.1 z hz).2;rw[show y'.1=y.1 from e.symm,show z'.1=z.1 from ez.symm];by_cases h0:y.1=0
 ·rw[if_pos h0,if_pos h0];exact Two.okk rfl h4
 ·rw[if_neg h0,if_neg h0];exact QqN hc h1 chk _ _ _ _ _ hF (by omega) h4
theorem Qpf(hc:Cx l a u b r b1 b2)(h1:QlH b1)(h2:QlH b2):∀(f f' tag:Nat) (oct aa:Bool) (s s':PS),f<=f'->mu l.length s<f->BG l a u b r s s'->Two id id l a u b r (Qd3 l f tag oct aa s) (Qd3 u f' tag oct aa s')
 |0,_,_,_,_,_,_,_,hm,_=>absurd hm (Nat.not_lt_zero _)
 |f+1,0,_,_,_,_,_,hf,_,_=>absurd hf (by omega)
 |f+1,f'+1,tag,oct,aa,s,s',hf,hm,h=>by
  rw[Qd3,Qd3];by_cases h0:wL [tIs,Qaq,Qaz] s.1.spelt=0
  ·rw[if_pos h0];by_cases h3:wL [Qas] s.1.spelt=0
   ·rw[if_pos h3]
    have hs:wL [tIs,Qaq,Qaz] s'.1.spelt=0/\wL [Qas] s'.1.spelt=0:=by
     rcases h.2 with⟨d,_,_,_,_,_,e4,_⟩ | ⟨_,_,g3⟩
     ·rw[e4];exact⟨h0,h3⟩
     ·rw[hc.e2 s' g3];exact⟨h2.o2,h2.o3⟩
    rw[if_pos hs.1,if_pos hs.2];exact Two.okk rfl h
   ·rw[if_neg h3];have hk:=QbF (zs:=[Qas]) h.1 (by decide) h3;have hi:=h.inn hc (Or.inl (fun x=>h3 (by rw[x];exact h1.o3)));obtain⟨d,hd,ab,e1,e2,e3,e4,e5,e6⟩:=hi;rw[e4,if_pos h0,if_neg h3];cases aa
    ·simp only[Bool.false_eq_true,if_false];refine Two.next hc ⟨d,hd,ab,e1,e2,e3,e4,e5,e6⟩ fun y y' hy q2=>?_
     have d1:=Qcf h.1.1 hk hy;refine(QcQ hc _ q2).andThen fun z z' hz ez q3=>?_
     have d2:=(QbH q2.1 z hz).2;rw[show z'.1=z.1 from ez.symm];exact Qpf hc h1 h2 f f' _ _ _ _ _ (by omega) (by omega) q3
    ·simp only[if_true];exact Two.fail
  ·rw[if_neg h0];have hk:=QbF (zs:=[tIs,Qaq,Qaz]) h.1 (by decide) h0;have hi:=h.inn hc (Or.inl (fun x=>h0 (by rw[x];exact h1.o2)));obtain⟨d,hd,ab,e1,e2,e3,e4,e5,e6⟩:=hi;rw[e4,if_neg h0];by_cases ht:tag=0
   ·rw[if_pos ht,if_pos ht];refine Two.next hc ⟨d,hd,ab,e1,e2,e3,e4,e5,e6⟩ fun y y' hy q2=>?_
    have d1:=Qcf h.1.1 hk hy;exact Qpf hc h1 h2 f f' _ _ _ _ _ (by omega) (by omega) q2
   ·rw[if_neg ht,if_neg ht];exact Two.fail
theorem QjW(hc:Cx l a u b r b1 b2)(h1:QuB b1)(aa:QlH b1)(ab:QlH b2)(chk:L8->Nat)(k ad ac:Nat){F F':Nat}(hF:F<=F'){s s':PS}(hm:mu l.length s<F)(h:BG l a u b r s s'):Two zT zT l a u b r (Qbp l F chk k ad s) (Qbp u F' chk k ac s'):=by
 unfold Qbp;refine(Qpf hc aa ab F F' _ _ _ _ _ hF hm h).andThen fun o o' ho eo q1=>?_
 have d1:=(Qn5 F 0 false false s h.1 o ho).2;refine(Qgv hc h1 aa ab _ hF (by omega) q1).andThen fun x x' hx ex q2=>?_
 have d2:=(Qdc q1.1 x hx).2;refine(Qgv hc h1 aa ab _ hF (by omega) q2).andThen fun y y' hy ey q3=>?_
 rw[show o'.1=o.1 from eo.symm,show x'.1=x.1 from ex.symm,show y'.1=y.1 from ey.symm];exact Two.okk rfl q3
theorem QgV(hc:Cx l a u b r b1 b2)(h1:QuB b1){α α' γ:Type}(g:α->γ)(g':α'->γ){sub:PS->Except Flt (α×PS)}{sub':PS->Except Flt (α'×PS)}(hd:∀ s,Gd l s->Dn 1 l (sub s) s){M:Nat}(hs:∀ s s',mu l.length s<M->BG l a u b r s s'->Two g g' l a u b r (sub s) (sub' s')):∀(f f':Nat) (ab:List α) (aa:List α') (s s':PS),ab.map g=aa.map g'->f<=f'->mu l.length s<f->mu l.length s<M->BG l a u b r s s'->Two (List.map g) (List.map g') l a u b r (gMr l sub f ab s) (gMr u sub' f' aa s')
 |0,_,_,_,_,_,_,_,hm,_,_=>absurd hm (Nat.not_lt_zero _)
 |f+1,0,_,_,_,_,_,hf,_,_,_=>absurd hf (by omega)
 |f+1,f'+1,ab,aa,s,s',ha,hf,hm,hM,h=>by
  rw[gMr,gMr];refine(Qgd hc _ h1.o2 h).andThen fun y y' hy e q1=>?_
  have d1:=(Qcu (zs:=[[44],[41]]) h.1 (by decide) y hy).2;rw[show y'.1=y.1 from e.symm];by_cases h0:y.1=1
  ·rw[if_pos h0,if_pos h0];refine(hs _ _ (by omega) q1).andThen fun z z' hz ez q2=>?_
   have d2:=(hd _ q1.1 z hz).2;exact QgV hc h1 g g' hd hs f f' _ _ _ _ (by rw[List.map_append,List.map_append,ha];simp[ez]) (by omega) (by omega) (by omega) q2
  ·rw[if_neg h0,if_neg h0];exact Two.okk ha q1
theorem QnR(hc:Cx l a u b r b1 b2)(h1:QuB b1){α α' γ:Type}(g:α->γ)(g':α'->γ){sub:PS->Except Flt (α×PS)}{sub':PS->Except Flt (α'×PS)}(hd:∀ s,Gd l s->Dn 1 l (sub s) s){M:Nat}(hs:∀ s s',mu l.length s<M->BG l a u b r s s'->Two g g' l a u b r (sub s) (sub' s')){F F':Nat}(hF:F<=F'){s s':PS}(hm:mu l.length s<F)(hM:mu l.length s<M)(h:BG l a u b r s s'):Two (List.map g) (List.map g') l a u b r (groupL l F sub s) (groupL u F' sub' s'):=by
 unfold groupL;refine(Qgd hc _ h1.o3 h).andThen fun y y' hy e q1=>?_
 have d1:=(Qcu (zs:=[[40]]) h.1 (by decide) y hy).2;refine(hs _ _ (by omega) q1).andThen fun z z' hz ez q2=>?_
 have d2:=(hd _ q1.1 z hz).2;exact QgV hc h1 g g' hd hs F F' _ _ _ _ (by simp[ez]) hF (by omega) (by omega) q2
theorem Qvg(hc:Cx l a u b r b1 b2)(h1:QuB b1)(ab aa:Nat){s s':PS}(h:BG l a u b r s s'):Two zT zT l a u b r (sizeL l ab s) (sizeL u aa s'):=by
 unfold sizeL;refine(Qgd hc _ h1.o4 h).andThen fun y y' hy e q1=>?_
 rw[show y'.1=y.1 from e.symm];by_cases h0:y.2.1.kind=4
 ·rw[if_pos h0];obtain⟨d,hd,hk,e1,e2,e3,e4,e5,e6⟩:=q1.inn hc (Or.inr (Or.inr (Or.inl h0)));rw[e3,e6,if_pos h0];refine Two.next hc ⟨d,hd,hk,e1,e2,e3,e4,e5,e6⟩ fun z z' hz q2=>?_
  exact Two.okk rfl q2
 ·rw[if_neg h0];exact Two.fail
end
def dfT:(d:Nat)→Qa6 d
 | 0=>()
 | _+1=>(⟨0,0,0,false,[],[],0⟩,[])
def upT (d:Nat):(n:Nat)→Qa6 n→Qa6 (d+n)
 | 0,_=>dfT d
 | n+1,x=>(x.1,x.2.map (upT d n))
def gU (d n:Nat) (x:Qa6 n):Qa6 (d+n):=Qbz (d+n) (upT d n x)
section
variable {l u r b1 b2:L8} {a b:Nat}
theorem QnK(hc:Cx l a u b r b1 b2)(h1:QuB b1)(ab:QlH b1)(ac:QlH b2)(d n:Nat){sub:PS->Except Flt (Qa6 (d+n)×PS)}{sub':PS->Except Flt (Qa6 n×PS)}(hd:∀ s,Gd l s->Dn 1 l (sub s) s){M:Nat}(hs:∀ s s',mu l.length s<M->BG l a u b r s s'->Two (Qbz (d+n)) (gU d n) l a u b r (sub s) (sub' s')){F F':Nat}(hF:F<=F')(k ae ad:Nat){s s':PS}(hm:mu l.length s<F)(hM:mu l.length s<M)(h:BG l a u b r s s'):Two (Qbz (d+(n+1))) (gU d (n+1)) l a u b r (tBd l F sub k ae s) (tBd u F' sub' k ad s'):=by
 unfold tBd;have aa:∀ ts:List (Qa6 n),(ts.map (upT d n)).map (Qbz (d+n))=ts.map (gU d n):=fun ts=>by rw[List.map_map];rfl
 split
 ·exact Two.okk rfl h
 ·exact Two.okk rfl h
 ·refine(hs _ _ hM h).andThen fun z z' hz ez q2=>Two.okk ?_ q2
  show(_,[Qbz (d+n) z.1])=(_,[gU d n z'.1])
  rw[ez];rfl
 ·refine(QnR hc h1 (Qbz (d+n)) (gU d n) hd hs hF hm hM h).andThen fun z z' hz ez q2=>Two.okk ?_ q2
  show(_,List.map (Qbz (d+n)) z.1)=(_,(z'.1.map (upT d n)).map (Qbz (d+n)))
  rw[ez,aa];rfl
 ·refine(QnR hc h1 (Qbz (d+n)) (gU d n) hd hs hF hm hM h).andThen fun z z' hz ez q2=>Two.okk ?_ q2
  show(_,List.map (Qbz (d+n)) z.1)=(_,(z'.1.map (upT d n)).map (Qbz (d+n)))
  rw[ez,aa];rfl
 ·refine(QjW hc h1 ab ac _ _ _ _ hF hm h).andThen fun z z' hz ez q2=>Two.okk ?_ q2
  show(zT z.1,[])=(zT z'.1,[])
  rw[ez]
 ·refine(QjW hc h1 ab ac _ _ _ _ hF hm h).andThen fun z z' hz ez q2=>Two.okk ?_ q2
  show(zT z.1,[])=(zT z'.1,[])
  rw[ez]
 ·refine(QjW hc h1 ab ac _ _ _ _ hF hm h).andThen fun z z' hz ez q2=>Two.okk ?_ q2
  show(zT z.1,[])=(zT z'.1,[])
  rw[ez]
 ·refine(Qgv hc h1 ab ac _ hF hm h).andThen fun z z' hz ez q2=>Two.okk ?_ q2
  rw[show z'.1=z.1 from ez.symm];rfl
 ·refine(Qvg hc h1 _ _ h).andThen fun z z' hz ez q2=>Two.okk ?_ q2
  show(zT z.1,[])=(zT z'.1,[])
  rw[ez]
theorem testL_two(hc:Cx l a u b r b1 b2)(h1:QuB b1)(aa:QlH b1)(ab:QlH b2)(req:List (L8)){F F':Nat}(hF:F<=F')(d:Nat):∀(n:Nat) (s s':PS),mu l.length s<F->BG l a u b r s s'->Two (Qbz (d+n)) (gU d n) l a u b r (testL l req F (d+n) s) (testL u req F' n s')
 |0,s,s',hm,h=>fun y e=>by
  refine Or.inl ?_;rw[testL];by_cases h0:s'.1.kind=1
  ·rw[if_pos h0];exact⟨_,rfl⟩
  ·rw[if_neg h0];exact⟨_,rfl⟩
 |n+1,s,s',hm,h=>by
  show Two (Qbz (d+(n+1))) (gU d (n+1)) l a u b r (testL l req F (d+n+1) s) (testL u req F' (n+1) s')
  rw[testL,testL];by_cases h0:wL tNs s.1.spelt=0
  ·rw[if_pos h0];exact Two.fail
  ·rw[if_neg h0];have hk:=QbF (zs:=tNs) h.1 (by decide) h0;obtain⟨dd,hd,ac,e1,e2,e3,e4,e5,e6⟩:=h.inn hc (Or.inl (fun x=>h0 (by rw[x];exact aa.o4)));rw[e4,if_neg h0];cases hu:Qb6 req s.1.spelt
   ·rw[if_neg (by decide)];exact Two.fail
   ·rw[if_pos rfl,if_pos rfl];refine Two.next hc ⟨dd,hd,ac,e1,e2,e3,e4,e5,e6⟩ fun y y' hy q2=>?_
    have d1:=Qcf h.1.1 hk hy;exact QnK hc h1 aa ab d n (fun s g=>QfC (d+n) s g) (M:=F) (fun s s' hm h=>testL_two hc h1 aa ab req hF d n s s' hm h) hF _ _ _ (by omega) (by omega) q2
end
structure QwO (x:L8):Prop where
 o1:wL [QbT,QbU,Qbr] x=0
 o2:wL [QbM] x=0
 o3:wL [Qch] x=0
structure Qvz (x:L8):Prop where
 o1:wL [[123]] x=0
 o2:wL [[59]] x=0
 o3:wL cNs x=0
 o4:wL [[125]] x=0
section
variable {l u r b1 b2:L8} {a b:Nat}
theorem Qxh(hc:Cx l a u b r b1 b2)(zs:List (L8)){s s':PS}(hg:Gd l s)(hi:Qyt a b r s s'):Two id id l a u b r (mayL l zs s) (mayL u zs s'):=fun y e=>by
 unfold mayL at e ⊢;obtain⟨d,hd,hk,e1,e2,e3,e4,e5,e6⟩:=hi;rw[e4];by_cases h0:wL zs s.1.spelt=0
 ·rw[if_pos h0]at e ⊢;cases e;exact Or.inr ⟨_,rfl,rfl,hg,Or.inl ⟨d,hd,hk,e1,e2,e3,e4,e5,e6⟩⟩
 ·rw[if_neg h0]at e ⊢
  cases hx:nL l s.2 with
  |error f=>rw[hx]at e;cases e
  |ok z=>
   rw[hx]at e;cases e;rcases next_bg hc ⟨d,hd,hk,e1,e2,e3,e4,e5,e6⟩ hx with⟨f,q1⟩ | ⟨y',q1,q2⟩
   ·rw[q1];exact Or.inl ⟨f,rfl⟩
   ·rw[q1];exact Or.inr ⟨_,rfl,rfl,q2⟩
theorem Qhb(hc:Cx l a u b r b1 b2)(h4:Qvz b1){α α' γ:Type}(g:α->γ)(g':α'->γ){sub:PS->Except Flt (α×PS)}{sub':PS->Except Flt (α'×PS)}(hd:∀ s,Gd l s->Dn 1 l (sub s) s)(h0:∀ s,nL l (a+r.length)=.ok s->∃ f,sub s=.error f){M:Nat}(hs:∀ s s',mu l.length s<M->BG l a u b r s s'->Two g g' l a u b r (sub s) (sub' s')):∀(f f':Nat) (ab:List α) (aa:List α') (s s':PS),ab.map g=aa.map g'->f<=f'->mu l.length s<f->mu l.length s<M->BG l a u b r s s'->Two (List.map g) (List.map g') l a u b r (bMr l sub f ab s) (bMr u sub' f' aa s')
 |0,_,_,_,_,_,_,_,hm,_,_=>absurd hm (Nat.not_lt_zero _)
 |f+1,0,_,_,_,_,_,hf,_,_,_=>absurd hf (by omega)
 |f+1,f'+1,ab,aa,s,s',ha,hf,hm,hM,h=>by
  rw[bMr,bMr];rcases h.2 with hi | ⟨g1,_,_⟩
  ·refine(Qxh hc [[125]] h.1 hi).andThen fun y y' hy e q1=>?_
   have d1:=(Qdz (zs:=[[125]]) h.1 (by decide) y hy).2;rw[show y'.1=y.1 from e.symm];by_cases hz:y.1=0
   ·rw[if_pos hz,if_pos hz];refine(hs _ _ (by omega) q1).andThen fun z z' hz' ez q2=>?_
    have d2:=(hd _ q1.1 z hz').2;exact Qhb hc h4 g g' hd h0 hs f f' _ _ _ _ (by rw[List.map_append,List.map_append,ha];simp[ez]) (by omega) (by omega) (by omega) q2
   ·rw[if_neg hz,if_neg hz];exact Two.okk ha q1
  ·intro y e;have ad:mayL l [[125]] s=.ok (0,s):=by unfold mayL;rw[(hc.e1 s g1).1,if_pos h4.o4]
   rw[Qac ad]at e;dsimp only at e;rw[if_pos rfl]at e;obtain⟨f0,ac⟩:=h0 s g1;rw[Qad ac]at e;cases e
theorem QnO(hc:Cx l a u b r b1 b2)(h4:Qvz b1){α α' γ:Type}(g:α->γ)(g':α'->γ){sub:PS->Except Flt (α×PS)}{sub':PS->Except Flt (α'×PS)}(hd:∀ s,Gd l s->Dn 1 l (sub s) s)(h0:∀ s,nL l (a+r.length)=.ok s->∃ f,sub s=.error f){M:Nat}(hs:∀ s s',mu l.length s<M->BG l a u b r s s'->Two g g' l a u b r (sub s) (sub' s')){F F':Nat}(hF:F<=F'){s s':PS}(hm:mu l.length s<F)(hM:mu l.length s<M)(h:BG l a u b r s s'):Two (List.map g) (List.map g') l a u b r (blockL l F sub s) (blockL u F' sub' s'):=by
 unfold blockL;refine(Qgd hc _ h4.o1 h).andThen fun y y' hy e q1=>?_
 have d1:=(Qcu (zs:=[[123]]) h.1 (by decide) y hy).2;exact Qhb hc h4 g g' hd h0 hs F F' _ _ _ _ rfl hF (by omega) (by omega) q1
theorem Quf(hc:Cx l a u b r b1 b2)(h4:Qvz b1){α α' β β' γ δ:Type}(g:α->γ)(g':α'->γ)(t:β->δ)(t':β'->δ){ab:PS->Except Flt (β×PS)}{aa:PS->Except Flt (β'×PS)}{sub:PS->Except Flt (α×PS)}{sub':PS->Except Flt (α'×PS)}(ac:∀ s,Gd l s->Dn 1 l (ab s) s)(hd:∀ s,Gd l s->Dn 1 l (sub s) s)(h0:∀ s,nL l (a+r.length)=.ok s->∃ f,sub s=.error f){M:Nat}(ht:∀ s s',mu l.length s<M->BG l a u b r s s'->Two t t' l a u b r (ab s) (aa s'))(hs:∀ s s',mu l.length s<M->BG l a u b r s s'->Two g g' l a u b r (sub s) (sub' s')){F F':Nat}(hF:F<=F'){s s':PS}(hm:mu l.length s<F)(hM:mu l.length s<M)(h:BG l a u b r s s') :
 Two (fun x=>(t x.1,x.2.map g)) (fun x=>(t' x.1,x.2.map g')) l a u b r (armL l F ab sub s) (armL u F' aa sub' s'):=by
 unfold armL;refine(ht _ _ hM h).andThen fun y y' hy e q1=>?_
 have d1:=(ac _ h.1 y hy).2;refine(QnO hc h4 g g' hd h0 hs hF (by omega) (by omega) q1).andThen fun z z' hz ez q2=>?_
 exact Two.okk (by rw[e,ez]) q2
theorem QrB(hc:Cx l a u b r b1 b2)(h4:Qvz b1)(h3:QwO b1)(af:QwO b2){α α' β β' γ δ:Type}(g:α->γ)(g':α'->γ)(t:β->δ)(t':β'->δ){ae:PS->Except Flt (β×PS)}{ab:PS->Except Flt (β'×PS)}{sub:PS->Except Flt (α×PS)}{sub':PS->Except Flt (α'×PS)}(ad:∀ s,Gd l s->Dn 1 l (ae s) s)(hd:∀ s,Gd l s->Dn 1 l (sub s) s)(h0:∀ s,nL l (a+r.length)=.ok s->∃ f,sub s=.error f){M:Nat}(ht:∀ s s',mu l.length s<M->BG l a u b r s s'->Two t t' l a u b r (ae s) (ab s'))(hs:∀ s s',mu l.length s<M->BG l a u b r s s'->Two g g' l a u b r (sub s) (sub' s')){F F':Nat}(hF:F<=F'):∀(f f':Nat) (ac:List (β×List α)) (aa:List (β'×List α')) (s s':PS),ac.map (fun x=>(t x.1,x.2.map g))=aa.map (fun x=>(t' x.1,x.2.map g'))->f<=f'->mu l.length s<f->mu l.length s<F->mu l.length s<M->BG l a u b r s s'->
 Two (List.map (fun x=>(t x.1,x.2.map g))) (List.map (fun x=>(t' x.1,x.2.map g'))) l a u b r (aMr l F ae sub f ac s) (aMr u F' ab sub' f' aa s')
 |0,_,_,_,_,_,_,_,hm,_,_,_=>absurd hm (Nat.not_lt_zero _)
 |f+1,0,_,_,_,_,_,hf,_,_,_,_=>absurd hf (by omega)
 |f+1,f'+1,ac,aa,s,s',ha,hf,hm,hmF,hM,h=>by
  rw[aMr,aMr];refine(QlO hc [QbM] h3.o2 af.o2 h).andThen fun y y' hy e q1=>?_
  have d1:=(Qdz (zs:=[QbM]) h.1 (by decide) y hy).2;rw[show y'.1=y.1 from e.symm];by_cases hz:y.1=0
  ·rw[if_pos hz,if_pos hz];exact Two.okk ha q1
  ·rw[if_neg hz,if_neg hz];refine(Quf hc h4 g g' t t' ad hd h0 ht hs hF (by omega) (by omega) q1).andThen fun z z' hz' ez q2=>?_
   have d2:=(Qjm ad hd q1.1 z hz').2;exact QrB hc h4 h3 af g g' t t' ad hd h0 ht hs hF f f' _ _ _ _ (by rw[List.map_append,List.map_append,ha];simp only[List.map_cons,List.map_nil];rw[ez]) (by omega) (by omega) (by omega) (by omega) q2
theorem Qe4(hc:Cx l a u b r b1 b2)(h4:Qvz b1){α α' γ:Type}{g:α->γ}{g':α'->γ}{x:α}{x':α'}(hx:g x=g' x'){s s':PS}(h:BG l a u b r s s'):Two g g' l a u b r (semi l s x) (semi u s' x'):=by
 unfold semi;exact(Qgd hc _ h4.o2 h).andThen fun y y' hy e q1=>Two.okk hx q1
end
def dfC:(d:Nat)→Qbo d
 | 0=>()
 | _+1=>(⟨0,0,0,[],[],false⟩,[],[])
def upC (d:Nat):(n:Nat)→Qbo n→Qbo (d+n)
 | 0,_=>dfC d
 | n+1,x=>(x.1,x.2.1.map (fun a=>(upT d n a.1,a.2.map (upC d n))),x.2.2.map (upC d n))
def gC (d n:Nat) (x:Qbo n):Qbo (d+n):=Qdq (d+n) (upC d n x)
section
variable {l u r b1 b2:L8} {a b:Nat}
theorem QpH(hc:Cx l a u b r b1 b2)(h4:Qvz b1)(h3:QwO b1)(ae:QwO b2)(d n:Nat){ag:PS->Except Flt (Qa6 (d+n)×PS)}{ac:PS->Except Flt (Qa6 n×PS)}{sub:PS->Except Flt (Qbo (d+n)×PS)}{sub':PS->Except Flt (Qbo n×PS)}(ad:∀ s,Gd l s->Dn 1 l (ag s) s)(hd:∀ s,Gd l s->Dn 1 l (sub s) s)(h0:∀ s,nL l (a+r.length)=.ok s->∃ f,sub s=.error f){M:Nat}(ht:∀ s s',mu l.length s<M->BG l a u b r s s'->Two (Qbz (d+n)) (gU d n) l a u b r (ag s) (ac s'))(hs:∀ s s',mu l.length s<M->BG l a u b r s s'->Two (Qdq (d+n)) (gC d n) l a u b r (sub s) (sub' s')){F F':Nat}(hF:F<=F')(k ah af:Nat){s s':PS}(hm:mu l.length s<F)(hM:mu l.length s<M)(h:BG l a u b r s s') :
 Two (Qdq (d+(n+1))) (gC d (n+1)) l a u b r (cBd l F ag sub k ah s) (cBd u F' ac sub' k af s'):=by
 unfold cBd;have ab:∀ ts:List (Qbo n),(ts.map (upC d n)).map (Qdq (d+n))=ts.map (gC d n):=fun ts=>by rw[List.map_map];rfl
 have aa:∀ as:List (Qa6 n×List (Qbo n)),(as.map (fun a=>(upT d n a.1,a.2.map (upC d n)))).map (fun a=>(Qbz (d+n) a.1,a.2.map (Qdq (d+n))))=as.map (fun a=>(gU d n a.1,a.2.map (gC d n))):=fun as=>by
  rw[List.map_map];refine List.map_congr_left (fun x _=>?_);show(Qbz (d+n) (upT d n x.1),(x.2.map (upC d n)).map (Qdq (d+n)))=_
  rw[ab];rfl
 split
 ·refine Qe4 hc h4 ?_ h;rfl
 ·refine Qe4 hc h4 ?_ h;rfl
 ·refine Qe4 hc h4 ?_ h;rfl
 ·refine(QcQ hc _ h).andThen fun z z' hz ez q2=>Qe4 hc h4 ?_ q2
  rw[show z'.1=z.1 from ez.symm];rfl
 ·refine(QcQ hc _ h).andThen fun z z' hz ez q2=>Qe4 hc h4 ?_ q2
  rw[show z'.1=z.1 from ez.symm];rfl
 ·refine(QcQ hc _ h).andThen fun z z' hz ez q2=>Qe4 hc h4 ?_ q2
  rw[show z'.1=z.1 from ez.symm];rfl
 ·refine(QlO hc _ h3.o1 ae.o1 h).andThen fun y y' hy e q1=>?_
  refine(QcQ hc _ q1).andThen fun z z' hz ez q2=>?_
  refine(QcQ hc _ q2).andThen fun v v' hv ev q3=>Qe4 hc h4 ?_ q3
  rw[show y'.1=y.1 from e.symm,show z'.1=z.1 from ez.symm,show v'.1=v.1 from ev.symm];rfl
 ·refine(Quf hc h4 (Qdq (d+n)) (gC d n) (Qbz (d+n)) (gU d n) ad hd h0 ht hs hF hm hM h).andThen fun y y' hy e q1=>?_
  have d1:=(Qjm ad hd h.1 y hy).2;refine(QrB hc h4 h3 ae (Qdq (d+n)) (gC d n) (Qbz (d+n)) (gU d n) ad hd h0 ht hs hF F F' [y.1] [y'.1] _ _ (by simp only[List.map_cons,List.map_nil];rw[e]) hF (by omega) (by omega) (by omega) q1).andThen fun z z' hz ez q2=>?_
  have d2:=(Qmq ad hd F [y.1] y.2 q1.1 z hz).2;refine(QlO hc _ h3.o3 ae.o3 q2).andThen fun i i' hi ei q3=>?_
  have d3:=(Qdz (zs:=[Qch]) q2.1 (by decide) i hi).2;rw[show i'.1=i.1 from ei.symm];by_cases hz0:i.1=0
  ·rw[if_pos hz0,if_pos hz0];refine Two.okk ?_ q3;show(_,z.1.map (fun a=>(Qbz (d+n) a.1,a.2.map (Qdq (d+n)))),[])=(_,(z'.1.map (fun a=>(upT d n a.1,a.2.map (upC d n)))).map (fun a=>(Qbz (d+n) a.1,a.2.map (Qdq (d+n)))),[])
   rw[aa,ez];rfl
  ·rw[if_neg hz0,if_neg hz0];refine(QnO hc h4 (Qdq (d+n)) (gC d n) hd h0 hs hF (by omega) (by omega) q3).andThen fun cs cs' hcs ecs q4=>Two.okk ?_ q4
   show(_,z.1.map (fun a=>(Qbz (d+n) a.1,a.2.map (Qdq (d+n)))),cs.1.map (Qdq (d+n)))=(_,(z'.1.map (fun a=>(upT d n a.1,a.2.map (upC d n)))).map (fun a=>(Qbz (d+n) a.1,a.2.map (Qdq (d+n)))),(cs'.1.map (upC d n)).map (Qdq (d+n)))
   rw[aa,ez,ab,ecs];rfl
theorem Qth(hc:Cx l a u b r b1 b2)(h4:Qvz b1)(req:List (L8))(F n:Nat)(s:PS)(hs:nL l (a+r.length)=.ok s):∃ f,cmdL l req F n s=.error f:=by
 cases n with
 |zero=>
  rw[cmdL];by_cases h0:s.1.kind=1
  ·rw[if_pos h0];exact⟨_,rfl⟩
  ·rw[if_neg h0];exact⟨_,rfl⟩
 |succ n=>
  rw[cmdL,(hc.e1 s hs).1,if_pos h4.o3];exact⟨_,rfl⟩
theorem QrD(hc:Cx l a u b r b1 b2)(h1:QuB b1)(aa:QlH b1)(ab:QlH b2)(h4:Qvz b1)(h3:QwO b1)(ac:QwO b2)(req:List (L8)){F F':Nat}(hF:F<=F')(d:Nat):∀(n:Nat) (s s':PS),mu l.length s<F->BG l a u b r s s'->Two (Qdq (d+n)) (gC d n) l a u b r (cmdL l req F (d+n) s) (cmdL u req F' n s')
 |0,s,s',hm,h=>fun y e=>by
  refine Or.inl ?_;rw[cmdL];by_cases h0:s'.1.kind=1
  ·rw[if_pos h0];exact⟨_,rfl⟩
  ·rw[if_neg h0];exact⟨_,rfl⟩
 |n+1,s,s',hm,h=>by
  show Two (Qdq (d+(n+1))) (gC d (n+1)) l a u b r (cmdL l req F (d+n+1) s) (cmdL u req F' (n+1) s')
  rw[cmdL,cmdL];by_cases h0:wL cNs s.1.spelt=0
  ·rw[if_pos h0];exact Two.fail
  ·rw[if_neg h0];have hk:=QbF (zs:=cNs) h.1 (by decide) h0;obtain⟨dd,hd,ad,e1,e2,e3,e4,e5,e6⟩:=h.inn hc (Or.inl (fun x=>h0 (by rw[x];exact h4.o3)));rw[e4,if_neg h0];cases hu:Qb6 req s.1.spelt
   ·rw[if_neg (by decide)];exact Two.fail
   ·rw[if_pos rfl,if_pos rfl];refine Two.next hc ⟨dd,hd,ad,e1,e2,e3,e4,e5,e6⟩ fun y y' hy q2=>?_
    have d1:=Qcf h.1.1 hk hy;exact QpH hc h4 h3 ac d n (fun s g=>QfC (d+n) s g) (fun s g=>QjZ (d+n) s g) (fun s hs=>Qth hc h4 req F (d+n) s hs) (M:=F) (fun s s' hm h=>testL_two hc h1 aa ab req hF d n s s' hm h) (fun s s' hm h=>QrD hc h1 aa ab h4 h3 ac req hF d n s s' hm h) hF _ _ _ (by omega) (by omega) q2
theorem QlD(hc:Cx l a u b r b1 [125]){α α' γ:Type}(g:α->γ)(g':α'->γ){sub:PS->Except Flt (α×PS)}{sub':PS->Except Flt (α'×PS)}(hd:∀ s,Gd l s->Dn 1 l (sub s) s)(h0:∀ s,nL l (a+r.length)=.ok s->s.1.kind=0){M:Nat}(hn:∀ s y,sub s=.ok y->wL [[125]] s.1.spelt=0)(hs:∀ s s',mu l.length s<M->BG l a u b r s s'->Two g g' l a u b r (sub s) (sub' s')):∀(f f':Nat) (ab:List α) (aa:List α') (s s':PS),ab.map g=aa.map g'->f<=f'->mu l.length s<f->mu l.length s<M->BG l a u b r s s'->∀ cs,cMr sub f ab s=.ok cs->
 (∃ e,bMr u sub' f' aa s'=.error e)\/∃ cs' x y,bMr u sub' f' aa s'=.ok (cs',y)/\cs.map g=cs'.map g'/\nL u (b+r.length)=.ok x/\nL u x.2=.ok y
 |0,_,_,_,_,_,_,_,hm,_,_=>absurd hm (Nat.not_lt_zero _)
 |f+1,0,_,_,_,_,_,hf,_,_,_=>absurd hf (by omega)
 |f+1,f'+1,ab,aa,s,s',ha,hf,hm,hM,h=>fun cs e=>by
  rw[cMr]at e;rw[bMr];rcases h.2 with hi | ⟨g1,_,g3⟩
  ·obtain⟨d,hdd,hk,e1,e2,e3,e4,e5,e6⟩:=hi;rw[if_neg hk]at e
   cases hq:sub s with
   |error x=>rw[hq]at e;cases e
   |ok y=>
    rw[hq]at e;have ac:mayL u [[125]] s'=.ok (0,s'):=by unfold mayL;rw[e4,if_pos (hn s y hq)]
    rw[Qac ac];dsimp only;rw[if_pos rfl];have d1:=(hd s h.1 y hq).2;rcases hs s s' hM h y hq with⟨x,q1⟩ | ⟨y',q1,q2,q3⟩
    ·exact Or.inl ⟨x,Qad q1⟩
    ·rw[Qac q1];exact QlD hc g g' hd h0 hn hs f f' _ _ _ _ (by rw[List.map_append,List.map_append,ha];simp[q2]) (by omega) (by omega) (by omega) q3 cs e
  ·rw[if_pos (h0 s g1)]at e;cases e;have ad:=hc.e2 s' g3
   cases hx:nL u s'.2 with
   |error x=>
    refine Or.inl ⟨x,Qad ?_⟩;unfold mayL;rw[ad,if_neg (by decide),hx]
   |ok y=>
    have ac:mayL u [[125]] s'=.ok (1,y):=by
     unfold mayL;rw[ad,if_neg (by decide),hx];rfl
    rw[Qac ac];exact Or.inr ⟨aa,s',y,rfl,ha,g3,hx⟩
end
end
def Qb5:List (L8):=[Qbw,QaL,QaO,Qbc]
def QaG:L8:=kRequire++32 :: (Qam Qb5++[59])
theorem Qua(R:L8):QaG++R=kRequire++32::(Qam Qb5++59::R):=by
 unfold QaG;simp
theorem Qjz{R:L8}{y:List (L8)×List (Qbo 7)}(h:prL (QaG++R)=.ok y) :
 ∃ s0,nL (QaG++R) QaG.length=.ok s0/\(wL [kRequire] s0.1.spelt=0->y.1=Qb5/\cMr (cmdL (QaG++R) Qb5 (2*(QaG++R).length+10) 7) (2*(QaG++R).length+10) [] s0=.ok y.2):=by
 obtain⟨l,hl⟩:∃ l,l=QaG++R:=⟨_,rfl⟩;rw[<-hl]at h ⊢;have e2:l=kRequire++32::(Qam Qb5++59::R):=by rw[hl,Qua]
 unfold prL at h;dsimp only at h;obtain⟨f,hf⟩:∃ f,2*l.length+10=f+4:=⟨2*l.length+6,by omega⟩;rw[hf]at h ⊢;have hT:=QdB (w:=kRequire) (r:=32::(Qam Qb5++59::R)) ⟨by decide,by decide⟩ (QfD _);obtain⟨q1,q2,h1,h2⟩:=hT l 0 (by rw[List.drop_zero];exact e2);have ac:Nx l (kRequire++32::(Qam Qb5++59::R)) (⟨1,q1,kRequire,[],0⟩,q2):=⟨0,by rw[List.drop_zero];exact e2,h1⟩;rw[h1]at h;dsimp only at h;obtain⟨i,s1,m1,m2,m3⟩:=QoD (l:=l) (zs:=[kRequire]) hT (by decide) (QrI (by decide) (Qui (xs:=Qb5) (by decide) _)) _ ac;obtain⟨xs,s2,p1,p2,p3⟩:=QkK.blank (l:=l) (c:=32) (by decide) (Qme (chk:=fun x=>if 0<wL [QaL,QaO,Qbc,Qbw] x then 0 else 6) (F:=f+4) (xs:=Qb5) (QuE R).lx (by decide) (by decide) (show 4<=f+4 by omega)) s1 m3;obtain⟨⟨q3,e3⟩,e4⟩:=p3.tok (QuE R)
 have hg2:s2.2<=l.length:=by
  obtain⟨q,k1,k2⟩:=p3
  have hq:q<=l.length:=by
   rcases Nat.lt_or_ge l.length q with hh|hh
   ·rw[List.drop_of_length_le (by omega)]at k1;cases k1
   ·exact hh
  exact(Qby l q hq s2 k2).2.1
 have ad:s2.2=QaG.length:=by
  have aa:=congrArg List.length e4;rw[List.length_drop]at aa;have hll:l.length=QaG.length+R.length:=by rw[hl,List.length_append]
  omega
 have ab:reqMore l (f+4) (f+4) [] (⟨1,q1,kRequire,[],0⟩,q2)=Qa2 (paL l [[59]] s2) fun _ s3=>reqMore l (f+4) (f+3) Qb5 s3:=by
  rw[reqMore,Qac m1];dsimp only;rw[if_neg (by rw[m2];decide),Qac p1];dsimp only;rw[p2];rfl
 rw[ab]at h;unfold paL at h;rw[e3,if_neg (show ¬ wL [[59]] [59]=0 by decide),ad]at h
 cases hx:nL l QaG.length with
 |error x=>rw[hx]at h;cases h
 |ok s0=>
  rw[hx]at h;refine⟨s0,rfl,fun hw=>?_⟩
  have hr:reqMore l (f+4) (f+3) Qb5 s0=.ok (Qb5,s0):=by
   rw[reqMore];have hm:mayL l [kRequire] s0=.ok (0,s0):=by unfold mayL;rw[if_pos hw]
   rw[Qac hm];rfl
  rw[Qac rfl]at h;dsimp only at h;rw[hr]at h;dsimp only at h
  cases hc:cMr (cmdL l Qb5 (f+4) 7) (f+4) [] s0 with
  |error x=>rw[hc]at h;cases h
  |ok cs=>rw[hc]at h;cases h;exact⟨rfl,rfl⟩
def nlN (l:L8):Nat:=l.count 10
theorem QcY(a b:L8):nlN (a++b)=nlN a+nlN b:=List.count_append
theorem Qmp{α:Type}(txt:α->L8->L8)(i:L8):∀ cs:List α,cs.length<=nlN (linesL txt cs i)
 | []=>Nat.zero_le _
 |c::r=>by
  have ih:=Qmp txt i r;have e:linesL txt (c::r) i=(i++txt c i++[10])++linesL txt r i:=by simp[linesL]
  rw[e,QcY,QcY];have:nlN [10]=1:=by decide
  simp only[List.length_cons];omega
theorem QnM:∀(ps:List (L8)) (t:L8),nlN t+(ps.map nlN).sum<=nlN (ps.foldl QaH t)
 | [],t=>by simp
 |p::r,t=>by
  have ih:=QnM r (QaH t p)
  have h:nlN t+nlN p<=nlN (QaH t p):=by
   unfold QaH;rw[QcY];split
   ·rw[QcY];omega
   ·omega
  rw[List.foldl_cons,List.map_cons,List.sum_cons];omega
theorem Qyr(aa i t b:L8):1+nlN b<=nlN (Qc4 aa i t b):=by
 unfold Qc4;rw[QcY,QcY];have h:=QnM [aa,t,Qfe] [];have e:nlN Qfe=1:=by decide
 simp only[List.map_cons,List.map_nil,List.sum_cons,List.sum_nil]at h;have e2:phraseL [aa,t,Qfe]=[aa,t,Qfe].foldl QaH []:=rfl;rw[e2];omega
theorem Qtm(i:L8):∀(as:List (L8×L8)) (aa:L8),(as.map fun a=>1+nlN a.2).sum<=nlN (Qa9 i aa as)
 | [],_=>Nat.zero_le _
 |a::r,aa=>by
  have h1:=Qyr aa i a.1 a.2;have h2:=Qtm i r Qce;rw[Qa9,QcY,List.map_cons,List.sum_cons];omega
theorem QyM{n:Nat}(x:Qbo (n+1))(i:L8)(hk:x.1.kind=7):(x.2.1.map fun a=>1+a.2.length).sum+(if x.1.els then 1 else 0)<=nlN (Qa0 (n+1) x i):=by
 have aa:∀ as:List (Qa6 n×List (Qbo n)),(as.map fun a=>1+a.2.length).sum<=((as.map fun a=>(Qay n a.1,linesL (Qa0 n) a.2 (i++[32,32]))).map fun a=>1+nlN a.2).sum:=fun as=>by
  induction as with
  |nil=>exact Nat.le_refl _
  |cons a r ih=>
   have h:=Qmp (Qa0 n) (i++[32,32]) a.2;simp only[List.map_cons,List.sum_cons];omega
 have h1:=aa x.2.1;have h2:=Qtm i (x.2.1.map fun a=>(Qay n a.1,linesL (Qa0 n) a.2 (i++[32,32]))) kIf;show _<=nlN (Qbh x.1 i (x.2.1.map fun a=>(Qay n a.1,linesL (Qa0 n) a.2 (i++[32,32]))) (linesL (Qa0 n) x.2.2 (i++[32,32])))
 unfold Qbh;rw[hk]
 cases x.1.els with
 |false=>
  simp only[Bool.false_eq_true,if_false];simp only[QcY];omega
 |true=>
  simp only[if_true];simp only[QcY];have e:nlN QeI=1:=by decide
  omega
theorem Qpm{y:List (L8)×List (Qbo 7)}{c:Qbo 7}{aa:List (Qbo 7)}(h3:nlN (textL y)=3)(h1:y.1=Qb5)(h2:y.2=c::aa)(hk:c.1.kind=7)(ha:c.2.1≠[]):aa=[]/\(∃ T,c.2.1=[(T,[])])/\c.1.els=false:=by
 unfold textL at h3;rw[h1,h2,QcY]at h3;have e1:nlN (requireTxt Qb5)=1:=by decide
 have e2:linesL (Qa0 7) (c::aa) []=([]++Qa0 7 c []++[10])++linesL (Qa0 7) aa []:=by simp[linesL]
 rw[e1,e2,QcY,QcY,QcY]at h3;have e3:nlN [10]=1:=by decide
 have e4:nlN ([]:L8)=0:=rfl;have h4:=Qmp (Qa0 7) [] aa;have h5:(c.2.1.map fun a=>1+a.2.length).sum+(if c.1.els then 1 else 0)<=nlN (Qa0 7 c []):=QyM (n:=6) c [] hk;obtain⟨a,as,hc⟩:=List.exists_cons_of_ne_nil ha;rw[hc,List.map_cons,List.sum_cons]at h5;have hr:aa.length=0:=by omega
 have hl:a.2.length=0:=by omega
 have hs:(as.map fun a=>1+a.2.length).sum=0:=by omega
 have ab:as=[]:=by
  cases as with
  |nil=>rfl
  |cons b bs=>rw[List.map_cons,List.sum_cons]at hs;omega
 refine⟨List.eq_nil_of_length_eq_zero hr,⟨a.1,?_⟩,?_⟩
 ·rw[hc,ab,<-List.eq_nil_of_length_eq_zero hl]
 ·cases he:c.1.els with
  |false=>rfl
  |true=>rw[he]at h5;simp only[if_true]at h5;omega
end Go.Proofs.YtgnkjijocdmniaaGreatDoor
