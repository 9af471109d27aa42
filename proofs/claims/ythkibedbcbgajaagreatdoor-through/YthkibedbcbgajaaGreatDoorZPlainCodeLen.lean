import Derived.Lib.ItoaLen
import Derived.Lib.Join
import Derived.Lib.ItoaNum
import Derived.Test.YthkibedbcbgajaaGreatDoorZPlainMu
namespace Go.Proofs.YthkibedbcbgajaaGreatDoor
set_option linter.unusedVariables false
set_option linter.unusedSimpArgs false
set_option maxRecDepth 100000
set_option maxHeartbeats 4000000
def QiH (c:UInt8):L8:=if c=34∨c=92 then [92,c] else [c]
def QaP (x:L8):L8:=34 :: (x.flatMap QiH++[34])
def Qfq (sep:L8):List (L8)→L8
 | []=>[]
 | [x]=>x
 | x :: y :: r=>x++sep++Qfq sep (y :: r)
def QbD (xs:List (L8)):L8:=
 match xs with
 | [x]=>QaP x
 | xs=>[91]++Qfq [44,32] (xs.map QaP)++[93]
def Qba (t p:L8):L8:=(if t≠[]∧p≠[] then t++[32] else t)++p
def QaW (parts:List (L8)):L8:=parts.foldl Qba []
def QbT (tag:Nat) (tags:List (L8)):L8:=if tag=0 then [] else tags.getD (tag - 1) []
def iL (n:Nat):L8:=Lib.decDigits n
def QbG (hw:L8) (x:Qec):L8:=
 QaW [hw,if x.octet then QaW [QaJ,QaP Qc2] else [],if x.tag≠1 then QbT x.tag [tIs,Qax,QaM] else [],QbD x.fr,QbD x.keys]
def QbI (hw:L8) (ts:List (L8)):L8:=hw++[32,40]++Qfq [44,32] ts++[41]
def QaZ (x:Qec) (ts:List (L8)):L8:=
 match x.kind with
 | 0=>Qfz
 | 1=>Qdt
 | 2=>QaW (kNot :: ts)
 | 3=>QbI QcC ts
 | 4=>QbI QcL ts
 | 5=>QbG QbM x
 | 6=>QbG QaG x
 | 7=>QbG Qbl x
 | 8=>QaW [Qby,QbD x.fr]
 | _=>QaW [QdU,QbT x.tag [QfE,Qdl],iL x.num]
def QaY:(n:Nat)→QdG n→L8
 | 0,_=>[]
 | n+1,x=>QaZ x.1 (x.2.map (QaY n))
def Qej:L8:=125 :: 32 :: QdF
def QkR:L8:=[123,10]
def Qrv:L8:=125 :: 32 :: (QgJ++[32,123,10])
def Qbw {α:Type} (txt:α→L8→L8) (cs:List α) (i:L8):L8:=cs.flatMap fun c=>i++txt c i++[10]
def QeY (word i:L8) (t b:L8):L8:=QaW [word,t,QkR]++b++i
def QbL (i:L8):L8→List (L8×L8)→L8
 | _,[]=>[]
 | word,a :: r=>QeY word i a.1 a.2++QbL i Qej r
def QcG (x:Qjl) (i:L8) (arms:List (L8×L8)) (els:L8):L8:=
 match x.kind with
 | 0=>QfJ++[59]
 | 1=>QbV++[59]
 | 2=>QfP++[59]
 | 3=>QaW [QaN,QaP x.arg]++[59]
 | 4=>QaW [Qbc,QaP x.arg]++[59]
 | 5=>QaW [Qa5,QaP x.arg]++[59]
 | 6=>QaW [QhO,QbT x.tag [Qdc,Qc9,Qch],QaP x.var,QaP x.arg]++[59]
 | _=>QbL i kIf arms++(if x.els then Qrv++els++i else [])++[125]
def Qbx:(n:Nat)→QdT n→L8→L8
 | 0,_,_=>[]
 | n+1,x,i=>QcG x.1 i (x.2.1.map fun a=>(QaY n a.1,Qbw (Qbx n) a.2 (i++[32,32]))) (Qbw (Qbx n) x.2.2 (i++[32,32]))
def QdM (req:List (L8)):L8:=if req=[] then [] else Qdg++[32]++QbD req++[59,10]
def QhD (t:List (L8)×List (QdT 7)):L8:=QdM t.1++Qbw (Qbx 7) t.2 []
theorem Qiu:∀(ps:List (L8)) (t:L8),t.length<=(ps.foldl Qba t).length
 | [],t=>Nat.le_refl _
 |p::r,t=>by
  have h1:=Qiu r (Qba t p);have h2:t.length<=(Qba t p).length:=by unfold Qba;split<;>simp
  rw[List.foldl_cons];omega
theorem Qj8:∀(ps:List (L8)) (t p:L8),p∈ps->p.length<=(ps.foldl Qba t).length
 | [],t,p,h=>by cases h
 |q::r,t,p,h=>by
  rw[List.foldl_cons];rcases List.mem_cons.1 h with h|h
  ·subst h;have h1:=Qiu r (Qba t p);have h2:p.length<=(Qba t p).length:=by unfold Qba;rw[List.length_append];omega
   omega
  ·exact Qj8 r _ p h
theorem Qcs{ps:List (L8)}{p:L8}(h:p∈ps):p.length<=(QaW ps).length:=Qj8 ps [] p h
theorem QiZ:∀(xs:List (L8)) (x:L8),x∈xs->x.length<=(Qfq [44,32] xs).length
 | [],x,h=>by cases h
 | [y],x,h=>by rw[List.mem_singleton.1 h];exact Nat.le_refl _
 |y::z::r,x,h=>by
  simp only[Qfq,List.length_append];rcases List.mem_cons.1 h with h|h
  ·subst h;omega
  ·have:=QiZ (z::r) x h;omega
theorem Ql3{ts:List (L8)}{hw:L8}{t:L8}(h:t∈ts):t.length<=(QbI hw ts).length:=by
 have:=QiZ ts t h;unfold QbI;simp only[List.length_append];omega
theorem Qg6:∀ xs:List (L8),xs.length<=(Qfq [44,32] xs).length+1
 | []=>by simp
 | [x]=>by simp
 |x::y::r=>by
  have:=Qg6 (y::r);simp only[Qfq,List.length_append,List.length_cons,List.length_nil]at this ⊢;omega
def Qit (i:L8) (ts:List (L8)):L8:=ts.flatMap fun t=>i++t++[10]
theorem Qu5{α:Type}(txt:α->L8->L8)(cs:List α)(i:L8):Qbw txt cs i=Qit i (cs.map fun c=>txt c i):=by
 unfold Qbw Qit;rw[List.flatMap_map]
theorem QnJ(i:L8):∀ ts:List (L8),ts.length<=(Qit i ts).length
 | []=>by simp
 |t::ts=>by
  have:=QnJ i ts;unfold Qit at this ⊢;rw[List.flatMap_cons];simp only[List.length_append,List.length_cons,List.length_nil]at this ⊢;omega
theorem Qki(i:L8):∀(ts:List (L8)) (t:L8),t∈ts->t.length<=(Qit i ts).length
 | [],t,h=>by cases h
 |u::ts,t,h=>by
  unfold Qit;rw[List.flatMap_cons];simp only[List.length_append,List.length_cons,List.length_nil];rcases List.mem_cons.1 h with h|h
  ·subst h;omega
  ·have:=Qki i ts t h;unfold Qit at this;simp only[List.append_assoc]at *;omega
theorem Qkv(i:L8):∀(al:List (L8×L8)) (aa:L8),al.length<=(QbL i aa al).length
 | [],aa=>by simp
 |a::r,aa=>by
  have:=Qkv i r Qej
  have h2:1<=(QeY aa i a.1 a.2).length:=by
   unfold QeY;rw[List.length_append,List.length_append];have:=Qcs (ps:=[aa,a.1,QkR]) (p:=QkR) (by simp);have:QkR.length=2:=rfl;omega
  show(a::r).length<=(QeY aa i a.1 a.2++QbL i Qej r).length
  rw[List.length_append,List.length_cons];omega
theorem Qim(i:L8):∀(al:List (L8×L8)) (aa:L8) (a:L8×L8),a∈al->a.1.length<=(QbL i aa al).length/\a.2.length<=(QbL i aa al).length
 | [],aa,a,h=>by cases h
 |u::al,aa,a,h=>by
  show a.1.length<=(QeY aa i u.1 u.2++QbL i Qej al).length/\a.2.length<=(QeY aa i u.1 u.2++QbL i Qej al).length
  rw[List.length_append];rcases List.mem_cons.1 h with h|h
  ·subst h;have h1:=Qcs (ps:=[aa,a.1,QkR]) (p:=a.1) (by simp);unfold QeY;rw[List.length_append,List.length_append];omega
  ·have:=Qim i al Qej a h;omega
structure Gp (l:L8) (s:PS):Prop where
 le:s.2≤l.length
 lt:s.1.pos≤s.2
 word:s.1.kind≠0→s.1.pos < s.2
 said:s.1.kind=5→s.1.said.length+2≤s.2 - s.1.pos
 spelt:s.1.kind=0→s.1.spelt=[]
 num:s.1.num≤2147483647
def ph (l:L8) (s:PS):Nat:=l.length - s.1.pos
theorem Qlz(l:L8)(p:Nat)(hp:p<=l.length)(x:PS)(h:Qct (l.drop p) p=.ok x):Gp l x/\x.1.pos=p:=by
 obtain⟨h1,h2,h3,h4,h5⟩:=QpQ l p hp x h;refine⟨⟨h2,by omega,fun hk=>by have:=h5 hk;omega,fun hk=>?_,fun hk=>(h4 hk).2,(Qi3 l p x h).2⟩,h1⟩;generalize l.drop p=r at h
 cases r with
 |nil=>unfold Qct at h;dsimp only at h;cases h;cases hk
 |cons c r=>
  unfold Qct at h;dsimp only at h
  split at h
  ·cases h;cases hk
  ·split at h
   ·split at h
    ·cases h
    ·cases h;cases hk
   ·split at h
    ·obtain⟨n',v',he⟩:∃ n' v':Nat,sNL (c::r) p=if QbO ((c::r).getD n' 0)then .error ⟨2,p⟩else if 2147483647<v' then .error ⟨3,p⟩else .ok (⟨4,p,[],[],v'⟩,p+n'):=⟨_,_,rfl⟩
     rw[he]at h
     split at h
     ·cases h
     ·split at h
      ·cases h
      ·cases h;cases hk
    ·split at h
     ·unfold quoteR at h
      cases hq:qL r with
      |none=>rw[hq]at h;cases h
      |some y=>
       rw[hq]at h;have h2:=QdV _ _ hq;cases h;simp;omega
     ·split at h
      ·cases h;cases hk
      ·cases h
theorem Qkz{l:L8}{s y:PS}(h:Gp l s)(hn:nL l s.2=.ok y):Gp l y/\s.2<=y.1.pos:=by
 unfold nL at hn
 cases hs:Qcg (l.length+1) (l.drop s.2) s.2 with
 |error f=>rw[hs]at hn;cases hn
 |ok n=>
  rw[hs]at hn;have h1:=QdE l _ s.2 n h.le hs;have h2:=Qlz l n h1.2 y hn;exact⟨h2.1,by omega⟩
def Bd {α:Type} (c:Nat) (l:L8) (len:α→Nat) (r:Except Flt (α×PS)) (s:PS):Prop:=∀ y,r=.ok y→Gp l y.2∧len y.1+c+64*ph l y.2≤64*ph l s
theorem Bd.err{α:Type}{c:Nat}{l:L8}{aa:α->Nat}{f:Flt}{s:PS}:Bd c l aa (.error f) s:=fun y h=>by cases h
theorem Bd.okk{α:Type}{l:L8}{aa:α->Nat}{a:α}{s:PS}(h:Gp l s)(ha:aa a=0):Bd 0 l aa (.ok (a,s)) s:=fun y e=>by cases e;exact⟨h,by simp only[ha];omega⟩
theorem Qdq{l:L8}{s y:PS}(h:Gp l s)(hk:s.1.kind≠0)(hn:nL l s.2=.ok y):Gp l y/\64+64*ph l y<=64*ph l s:=by
 obtain⟨h1,h2⟩:=Qkz h hn;have h3:=h.word hk;have h4:=h.le;have h5:=h1.le;have h6:=h1.lt;refine⟨h1,?_⟩;unfold ph;omega
theorem QdH{l:L8}{zs:List (L8)}{s:PS}(h:Gp l s)(hz:∀ z∈zs,z≠[])(h0:¬ wL zs s.1.spelt=0):s.1.kind≠0:=fun e=>h0 (by rw[h.spelt e];exact QdP zs hz)
theorem Qdv{l:L8}{zs:List (L8)}{s:PS}(h:Gp l s)(hz:∀ z∈zs,z≠[]):Bd 64 l (fun _=>0) (paL l zs s) s:=fun y e=>by
 unfold paL at e
 split at e
 ·cases e
 ·rename_i h0
  cases hn:nL l s.2 with
  |error f=>rw[hn]at e;cases e
  |ok s'=>rw[hn]at e;cases e;have:=Qdq h (QdH h hz h0) hn;exact⟨this.1,by dsimp only;omega⟩
theorem Qgz{l:L8}{zs:List (L8)}{s:PS}(h:Gp l s)(hz:∀ z∈zs,z≠[]):Bd 0 l (fun i=>if i=0 then 0 else 64) (mayL l zs s) s:=fun y e=>by
 unfold mayL at e
 split at e
 ·cases e;exact⟨h,by simp⟩
 ·rename_i h0
  cases hn:nL l s.2 with
  |error f=>rw[hn]at e;cases e
  |ok s'=>rw[hn]at e;cases e;have:=Qdq h (QdH h hz h0) hn;exact⟨this.1,by dsimp only;rw[if_neg h0];omega⟩
theorem Qiq(x:L8):(QaP x).length<=2*x.length+2:=by
 unfold QaP;rw[List.length_cons,List.length_append]
 have:(x.flatMap QiH).length<=2*x.length:=by
  induction x with
  |nil=>simp
  |cons c r ih=>
   rw[List.flatMap_cons,List.length_append,List.length_cons];have:(QiH c).length<=2:=by unfold QiH;split<;>simp
   omega
 simp only[List.length_cons,List.length_nil];omega
theorem QcI{l:L8}{chk:L8->Nat}{s:PS}(h:Gp l s):Bd 32 l (fun x=>(QaP x).length) (sL l chk s) s:=fun y e=>by
 unfold sL at e
 split at e
 ·rename_i hk
  split at e
  ·cases hn:nL l s.2 with
   |error f=>rw[hn]at e;cases e
   |ok s'=>
    rw[hn]at e;cases e;obtain⟨h1,h2⟩:=Qkz h hn;have h3:=h.said hk;have h4:=h.le;have h5:=h1.le;have h6:=h1.lt;have h7:=Qiq s.1.said;have h8:=h.lt;refine⟨h1,?_⟩;show(QaP s.1.said).length+32+64*ph l s'<=64*ph l s
    unfold ph;omega
  ·cases e
 ·cases e
def QcZ (xs:List (L8)):Nat:=(xs.map fun x=>x.length+2).sum
theorem Qil(x:L8)(xs:List (L8)):QcZ (x::xs)=x.length+2+QcZ xs:=by simp[QcZ]
theorem Qd0(xs ys:List (L8)):QcZ (xs++ys)=QcZ xs+QcZ ys:=by simp[QcZ]
theorem Qdk(x:L8):QcZ [x]=x.length+2:=by simp[QcZ]
theorem Qne(xs:List (L8)):(Qfq [44,32] xs).length<=QcZ xs:=by
 induction xs with
 |nil=>simp[Qfq,QcZ]
 |cons x r ih=>
  cases r with
  |nil=>simp[Qfq,QcZ]
  |cons y r=>
   rw[Qil];simp only[Qfq,List.length_append,List.length_cons,List.length_nil];omega
def QhM (xs:List (L8)):Nat:=QcZ (xs.map QaP)
theorem QdY(xs:List (L8)):(QbD xs).length<=QhM xs+2:=by
 unfold QbD QhM;split
 ·rw[List.map_cons,List.map_nil,Qdk];omega
 ·have:=Qne (xs.map QaP);simp only[List.length_append,List.length_cons,List.length_nil];omega
theorem QtM{l:L8}{chk:L8->Nat}:∀(f:Nat) (aa:List (L8)) (s:PS),Gp l s->∀ y,moreL l chk f aa s=.ok y->Gp l y.2/\QhM y.1+64*ph l y.2<=QhM aa+64*ph l s
 |0,aa,s,h=>fun y e=>by cases e;exact⟨h,Nat.le_refl _⟩
 |f+1,aa,s,h=>fun y e=>by
  rw[moreL]at e
  cases hp:paL l [[44],[93]] s with
  |error g=>rw[hp]at e;cases e
  |ok z=>
   rw[hp]at e;obtain⟨h1,h2⟩:=Qdv (zs:=[[44],[93]]) h (by decide) z hp;dsimp only at e
   split at e
   ·cases hs:sL l chk z.2 with
    |error g=>rw[hs]at e;cases e
    |ok x=>
     rw[hs]at e;obtain⟨h3,h4⟩:=QcI h1 x hs;obtain⟨h5,h6⟩:=QtM f _ x.2 h3 y e;refine⟨h5,?_⟩;unfold QhM at *;rw[List.map_append,Qd0,List.map_cons,List.map_nil,Qdk]at h6;dsimp only at *;omega
   ·cases e;exact⟨h1,by dsimp only;omega⟩
theorem Qe9{l:L8}{chk:L8->Nat}{F:Nat}{s:PS}(h:Gp l s):Bd 16 l QhM (sLs l chk F s) s:=fun y e=>by
 unfold sLs at e
 cases hm:mayL l [[91]] s with
 |error g=>rw[hm]at e;cases e
 |ok z=>
  rw[hm]at e;obtain⟨h1,h2⟩:=Qgz (zs:=[[91]]) h (by decide) z hm;dsimp only at e
  cases hs:sL l chk z.2 with
  |error g=>rw[hs]at e;cases e
  |ok x=>
   rw[hs]at e;obtain⟨h3,h4⟩:=QcI h1 x hs;dsimp only at e;have h9:QhM [x.1]=(QaP x.1).length+2:=by unfold QhM;rw[List.map_cons,List.map_nil,Qdk]
   split at e
   ·cases e;exact⟨h3,by dsimp only at *;omega⟩
   ·obtain⟨h5,h6⟩:=QtM F _ x.2 h3 y e;exact⟨h5,by dsimp only at *;omega⟩
theorem Qjr(t p:L8):(Qba t p).length<=t.length+1+p.length:=by
 unfold Qba;split<;>simp only[List.length_append,List.length_cons,List.length_nil]<;>omega
def Qca (ps:List (L8)):Nat:=(ps.map fun p=>p.length+1).sum
theorem QjT:∀(ps:List (L8)) (t:L8),(ps.foldl Qba t).length<=t.length+Qca ps
 | [],t=>by simp[Qca]
 |p::r,t=>by
  have h1:=QjT r (Qba t p);have h2:=Qjr t p;rw[List.foldl_cons];simp only[Qca,List.map_cons,List.sum_cons]at h1 ⊢;omega
theorem QbS(ps:List (L8)):(QaW ps).length<=Qca ps:=by
 have:=QjT ps [];simpa[QaW]using this
theorem QeG(tag:Nat)(aa:List (L8))(m:Nat)(h:∀ z∈aa,z.length<=m):(QbT tag aa).length<=m:=by
 unfold QbT;split
 ·simp
 ·rw[List.getD_eq_getElem?_getD]
  cases he:aa[tag - 1]? with
  |none=>simp
  |some z=>exact h z (List.mem_of_getElem? he)
theorem QsV{l:L8}:∀(f tag:Nat) (oct aa:Bool) (s:PS),Gp l s->Bd 0 l (fun _=>0) (Qfi l f tag oct aa s) s
 |0,tag,oct,aa,s,h=>Bd.okk h rfl
 |f+1,tag,oct,aa,s,h=>fun y e=>by
  rw[Qfi]at e;by_cases h1:wL [tIs,Qax,QaM] s.1.spelt=0
  ·rw[if_pos h1]at e;by_cases h2:wL [QaJ] s.1.spelt=0
   ·rw[if_pos h2]at e;cases e;exact⟨h,by simp⟩
   ·rw[if_neg h2]at e;cases aa
    ·rw[if_neg (by decide)]at e
     cases hn:nL l s.2 with
     |error g=>rw[Qa3 hn]at e;cases e
     |ok z=>
      rw[Qa2 hn]at e;obtain⟨g1,g2⟩:=Qdq h (QdH (zs:=[QaJ]) h (by decide) h2) hn
      cases hs:sL l (fun x=>if 0<wL [Qc2,QdC] x then 0 else 7) z with
      |error g=>rw[Qae hs]at e;cases e
      |ok x=>
       rw[Qad hs]at e;obtain⟨g3,g4⟩:=QcI g1 x hs;obtain⟨g5,g6⟩:=QsV f _ _ _ x.2 g3 y e;exact⟨g5,by dsimp only at *;omega⟩
    ·rw[if_pos rfl]at e;cases e
  ·rw[if_neg h1]at e;by_cases ht:tag=0
   ·rw[if_pos ht]at e
    cases hn:nL l s.2 with
    |error g=>rw[Qa3 hn]at e;cases e
    |ok z=>
     rw[Qa2 hn]at e;obtain⟨g1,g2⟩:=Qdq h (QdH (zs:=[tIs,Qax,QaM]) h (by decide) h1) hn;obtain⟨g5,g6⟩:=QsV f _ _ _ z g1 y e;exact⟨g5,by dsimp only at *;omega⟩
   ·rw[if_neg ht]at e;cases e
theorem Qe0(hw:L8)(x:Qec)(h:hw.length<=8):(QbG hw x).length<=52+QhM x.fr+QhM x.keys:=by
 unfold QbG;have h1:=QbS [hw,if x.octet then QaW [QaJ,QaP Qc2]else [],if x.tag≠1 then QbT x.tag [tIs,Qax,QaM]else [],QbD x.fr,QbD x.keys];have h2:=QdY x.fr;have h3:=QdY x.keys
 have h4:(if x.octet then QaW [QaJ,QaP Qc2]else []).length<=21:=by
  split
  ·decide
  ·simp
 have h5:(if x.tag≠1 then QbT x.tag [tIs,Qax,QaM]else []).length<=9:=by
  split
  ·exact QeG _ _ 9 (by decide)
  ·simp
 simp only[Qca,List.map_cons,List.map_nil,List.sum_cons,List.sum_nil]at h1;omega
theorem Qlx{l:L8}{F:Nat}{chk:L8->Nat}{k aa:Nat}{s:PS}(h:Gp l s):Bd 16 l (fun x=>QhM x.fr+QhM x.keys) (QbQ l F chk k aa s) s:=fun y e=>by
 unfold QbQ at e
 cases h1:Qfi l F 0 false false s with
 |error f=>rw[Qae h1]at e;cases e
 |ok a=>
  rw[Qad h1]at e;obtain⟨g1,g2⟩:=QsV F 0 false false s h a h1
  cases h2:sLs l chk F a.2 with
  |error f=>rw[Qae h2]at e;cases e
  |ok c=>
   rw[Qad h2]at e;obtain⟨g3,g4⟩:=Qe9 g1 c h2
   cases h3:sLs l (fun _=>0) F c.2 with
   |error f=>rw[Qae h3]at e;cases e
   |ok d=>
    rw[Qad h3]at e;obtain⟨g5,g6⟩:=Qe9 g3 d h3;cases e;exact⟨g5,by dsimp only at *;omega⟩
theorem Qhh{α:Type}{l:L8}{ab:PS->Except Flt (α×PS)}{txt:α->L8}(hs:∀ s,Gp l s->Bd 8 l (fun x=>(txt x).length) (ab s) s):∀(f:Nat) (aa:List α) (s:PS),Gp l s->∀ y,gMr l ab f aa s=.ok y->Gp l y.2/\QcZ (y.1.map txt)+64*ph l y.2<=QcZ (aa.map txt)+64*ph l s
 |0,aa,s,h=>fun y e=>by cases e;exact⟨h,Nat.le_refl _⟩
 |f+1,aa,s,h=>fun y e=>by
  rw[gMr]at e
  cases hp:paL l [[44],[41]] s with
  |error g=>rw[Qae hp]at e;cases e
  |ok z=>
   rw[Qad hp]at e;obtain⟨h1,h2⟩:=Qdv (zs:=[[44],[41]]) h (by decide) z hp
   split at e
   ·cases hq:ab z.2 with
    |error g=>rw[Qae hq]at e;cases e
    |ok x=>
     rw[Qad hq]at e;obtain⟨h3,h4⟩:=hs z.2 h1 x hq;obtain⟨h5,h6⟩:=Qhh hs f _ x.2 h3 y e;refine⟨h5,?_⟩;rw[List.map_append,Qd0,List.map_cons,List.map_nil,Qdk]at h6;dsimp only at *;omega
   ·cases e;exact⟨h1,by dsimp only at *;omega⟩
theorem Qqp{α:Type}{l:L8}{F:Nat}{aa:PS->Except Flt (α×PS)}{txt:α->L8}(hs:∀ s,Gp l s->Bd 8 l (fun x=>(txt x).length) (aa s) s){s:PS}(h:Gp l s):Bd 16 l (fun xs=>QcZ (xs.map txt)) (QcQ l F aa s) s:=fun y e=>by
 unfold QcQ at e
 cases hp:paL l [[40]] s with
 |error g=>rw[Qae hp]at e;cases e
 |ok z=>
  rw[Qad hp]at e;obtain⟨h1,h2⟩:=Qdv (zs:=[[40]]) h (by decide) z hp
  cases hq:aa z.2 with
  |error g=>rw[Qae hq]at e;cases e
  |ok x=>
   rw[Qad hq]at e;obtain⟨h3,h4⟩:=hs z.2 h1 x hq;obtain⟨h5,h6⟩:=Qhh hs F _ x.2 h3 y e;refine⟨h5,?_⟩;rw[List.map_cons,List.map_nil,Qdk]at h6;dsimp only at *;omega
theorem Qdm(n:Nat)(h:n<=2147483647):(iL n).length<=21:=by
 have:=Lib.itoa_length_le n (by omega) (by omega);rw[Lib.itoa_nonneg]at this;exact this
theorem Qxm{l:L8}{aa:Nat}{s:PS}(h:Gp l s):∀ y,sizeL l aa s=.ok y->Gp l y.2/\64*ph l y.2+16<=64*ph l s/\y.1.kind=9/\y.1.num<=2147483647:=fun y e=>by
 unfold sizeL at e
 cases hp:paL l [QfE,Qdl] s with
 |error g=>rw[Qae hp]at e;cases e
 |ok z=>
  rw[Qad hp]at e;obtain⟨h1,h2⟩:=Qdv (zs:=[QfE,Qdl]) h (by decide) z hp
  split at e
  ·rename_i hk
   cases hn:nL l z.2.2 with
   |error g=>rw[Qa3 hn]at e;cases e
   |ok x=>
    rw[Qa2 hn]at e;obtain⟨g1,g2⟩:=Qdq h1 (by omega) hn;cases e;exact⟨g1,by dsimp only at *;omega,rfl,h1.num⟩
  ·cases e
theorem Qg1{l:L8}{F:Nat}{chk:L8->Nat}{k aa:Nat}{s:PS}{y:Qec×PS}(h:QbQ l F chk k aa s=.ok y):y.1.kind=k:=by
 unfold QbQ at h
 cases h1:Qfi l F 0 false false s with
 |error f=>rw[Qae h1]at h;cases h
 |ok a=>
  rw[Qad h1]at h
  cases h2:sLs l chk F a.2 with
  |error f=>rw[Qae h2]at h;cases h
  |ok c=>
   rw[Qad h2]at h
   cases h3:sLs l (fun _=>0) F c.2 with
   |error f=>rw[Qae h3]at h;cases h
   |ok e=>rw[Qad h3]at h;cases h;rfl
theorem Qra(x:Qec)(ts:List (L8))(h:x.kind=5):QaZ x ts=QbG QbM x:=by simp only[QaZ,h]
theorem Qrw(x:Qec)(ts:List (L8))(h:x.kind=6):QaZ x ts=QbG QaG x:=by simp only[QaZ,h]
theorem QrU(x:Qec)(ts:List (L8))(h:x.kind=7):QaZ x ts=QbG Qbl x:=by simp only[QaZ,h]
theorem QqP(x:Qec)(ts:List (L8))(h:x.kind=9):QaZ x ts=QaW [QdU,QbT x.tag [QfE,Qdl],iL x.num]:=by simp only[QaZ,h]
theorem Qoe(n:Nat){l:L8}{F:Nat}{aa:PS->Except Flt (QdG n×PS)}(hs:∀ s,Gp l s->Bd 8 l (fun x=>(QaY n x).length) (aa s) s)(k ab:Nat){s:PS}(h:Gp l s):∀ y,tBd l F aa k ab s=.ok y->Gp l y.2/\(QaY (n+1) y.1).length+64*ph l y.2<=56+64*ph l s:=by
 intro y e
 have hg:∀(hw:L8) (ts:List (L8)),hw.length<=8->(QbI hw ts).length<=12+QcZ ts:=fun hw ts hl=>by
  have:=Qne ts;simp only[QbI,List.length_append,List.length_cons,List.length_nil];omega
 unfold tBd at e
 split at e
 ·cases e;exact⟨h,by show(4:Nat)+64*ph l s<=_;omega⟩
 ·cases e;exact⟨h,by show(5:Nat)+64*ph l s<=_;omega⟩
 ·cases hq:aa s with
  |error g=>rw[Qae hq]at e;cases e
  |ok x=>
   rw[Qad hq]at e;obtain⟨h1,h2⟩:=hs s h x hq;cases e;refine⟨h1,?_⟩;show(QaW [kNot,QaY n x.1]).length+64*ph l x.2<=_
   have:=QbS [kNot,QaY n x.1];simp only[Qca,List.map_cons,List.map_nil,List.sum_cons,List.sum_nil,show kNot.length=3 from rfl]at this;dsimp only at *;omega
 ·cases hq:QcQ l F aa s with
  |error g=>rw[Qae hq]at e;cases e
  |ok x=>
   rw[Qad hq]at e;obtain⟨h1,h2⟩:=Qqp hs h x hq;cases e;refine⟨h1,?_⟩;show(QbI QcC (x.1.map (QaY n))).length+64*ph l x.2<=_
   have:=hg QcC (x.1.map (QaY n)) (by decide);dsimp only at *;omega
 ·cases hq:QcQ l F aa s with
  |error g=>rw[Qae hq]at e;cases e
  |ok x=>
   rw[Qad hq]at e;obtain⟨h1,h2⟩:=Qqp hs h x hq;cases e;refine⟨h1,?_⟩;show(QbI QcL (x.1.map (QaY n))).length+64*ph l x.2<=_
   have:=hg QcL (x.1.map (QaY n)) (by decide);dsimp only at *;omega
 ·cases hq:QbQ l F (fun _=>0) 5 ab s with
  |error g=>rw[Qae hq]at e;cases e
  |ok x=>
   rw[Qad hq]at e;obtain⟨h1,h2⟩:=Qlx h x hq;have h3:=Qg1 hq;cases e;refine⟨h1,?_⟩;show(QaZ x.1 []).length+64*ph l x.2<=_
   have:=Qe0 QbM x.1 (by decide);rw[Qra _ _ h3];dsimp only at *;omega
 ·cases hq:QbQ l F (fun x=>if 0<wL [Qh8,kTo] (zL x)then 0 else 7) 6 ab s with
  |error g=>rw[Qae hq]at e;cases e
  |ok x=>
   rw[Qad hq]at e;obtain⟨h1,h2⟩:=Qlx h x hq;have h3:=Qg1 hq;cases e;refine⟨h1,?_⟩;show(QaZ x.1 []).length+64*ph l x.2<=_
   have:=Qe0 QaG x.1 (by decide);rw[Qrw _ _ h3];dsimp only at *;omega
 ·cases hq:QbQ l F (fun _=>0) 7 ab s with
  |error g=>rw[Qae hq]at e;cases e
  |ok x=>
   rw[Qad hq]at e;obtain⟨h1,h2⟩:=Qlx h x hq;have h3:=Qg1 hq;cases e;refine⟨h1,?_⟩;show(QaZ x.1 []).length+64*ph l x.2<=_
   have:=Qe0 Qbl x.1 (by decide);rw[QrU _ _ h3];dsimp only at *;omega
 ·cases hq:sLs l (fun _=>0) F s with
  |error g=>rw[Qae hq]at e;cases e
  |ok x=>
   rw[Qad hq]at e;obtain⟨h1,h2⟩:=Qe9 h x hq;cases e;refine⟨h1,?_⟩;show(QaW [Qby,QbD x.1]).length+64*ph l x.2<=_
   have h3:=QbS [Qby,QbD x.1];have h4:=QdY x.1;simp only[Qca,List.map_cons,List.map_nil,List.sum_cons,List.sum_nil,show Qby.length=6 from rfl]at h3;omega
 ·cases hq:sizeL l ab s with
  |error g=>rw[Qae hq]at e;cases e
  |ok x=>
   rw[Qad hq]at e;obtain⟨h1,h2,h3,h4⟩:=Qxm h x hq;cases e;refine⟨h1,?_⟩;show(QaZ x.1 []).length+64*ph l x.2<=_
   have h5:=QbS [QdU,QbT x.1.tag [QfE,Qdl],iL x.1.num];have h6:=QeG x.1.tag [QfE,Qdl] 6 (by decide);have h7:=Qdm x.1.num h4;simp only[Qca,List.map_cons,List.map_nil,List.sum_cons,List.sum_nil,show QdU.length=4 from rfl]at h5;rw[QqP _ _ h3];omega
theorem QkO{l:L8}{req:List (L8)}{F:Nat}:∀(n:Nat) (s:PS),Gp l s->Bd 8 l (fun x=>(QaY n x).length) (QbP l req F n s) s
 |0,s,h=>by
  rw[QbP];split<;>exact Bd.err
 |n+1,s,h=>fun y e=>by
  rw[QbP]at e;by_cases h0:wL tNs s.1.spelt=0
  ·rw[if_pos h0]at e;cases e
  ·rw[if_neg h0]at e;cases hu:Qcu req s.1.spelt
   ·rw[hu,if_neg (by decide)]at e;cases e
   ·rw[hu,if_pos rfl]at e
    cases hn:nL l s.2 with
    |error g=>cases(Qa3 hn).symm.trans e
    |ok z=>
     replace e:=(Qa2 hn).symm.trans e;obtain⟨g1,g2⟩:=Qdq h (QdH (zs:=tNs) h (by decide) h0) hn;obtain⟨g3,g4⟩:=Qoe n (fun s g=>QkO n s g) _ _ g1 y e;exact⟨g3,by dsimp only at *;omega⟩
def Qcf {α:Type} (c:α→Nat) (xs:List α):Nat:=(xs.map c).sum
theorem Qg0{α:Type}(c:α->Nat)(xs:List α)(x:α):Qcf c (xs++[x])=Qcf c xs+c x:=by simp[Qcf]
theorem Qfc{α:Type}(txt:α->L8->L8)(i:L8):∀ cs:List α,(Qbw txt cs i).length=Qcf (fun c=>i.length+(txt c i).length+1) cs
 | []=>rfl
 |c::r=>by
  have:=Qfc txt i r;simp only[Qbw,Qcf,List.flatMap_cons,List.length_append,List.map_cons,List.sum_cons,List.length_cons,List.length_nil]at this ⊢;omega
def Ct {α:Type} (k:Nat) (l:L8) (c:α→Nat) (r:Except Flt (α×PS)) (s:PS):Prop:=∀ y,r=.ok y→Gp l y.2∧c y.1+k+64*ph l y.2≤64*ph l s
theorem Qhq{α:Type}{l:L8}{ab:PS->Except Flt (α×PS)}{c:α->Nat}(hs:∀ s,Gp l s->Ct 0 l c (ab s) s):∀(f:Nat) (aa:List α) (s:PS),Gp l s->∀ y,bMr l ab f aa s=.ok y->Gp l y.2/\Qcf c y.1+64*ph l y.2<=Qcf c aa+64*ph l s
 |0,aa,s,h=>fun y e=>by cases e;exact⟨h,Nat.le_refl _⟩
 |f+1,aa,s,h=>fun y e=>by
  rw[bMr]at e
  cases hp:mayL l [[125]] s with
  |error g=>rw[Qae hp]at e;cases e
  |ok z=>
   rw[Qad hp]at e;obtain⟨h1,h2⟩:=Qgz (zs:=[[125]]) h (by decide) z hp
   split at e
   ·cases hq:ab z.2 with
    |error g=>rw[Qae hq]at e;cases e
    |ok x=>
     rw[Qad hq]at e;obtain⟨h3,h4⟩:=hs z.2 h1 x hq;obtain⟨h5,h6⟩:=Qhq hs f _ x.2 h3 y e;refine⟨h5,?_⟩;rw[Qg0]at h6;dsimp only at *;omega
   ·cases e;exact⟨h1,by dsimp only at *;omega⟩
theorem QpP{α:Type}{l:L8}{F:Nat}{aa:PS->Except Flt (α×PS)}{c:α->Nat}(hs:∀ s,Gp l s->Ct 0 l c (aa s) s){s:PS}(h:Gp l s):Ct 64 l (Qcf c) (blockL l F aa s) s:=fun y e=>by
 unfold blockL at e
 cases hp:paL l [[123]] s with
 |error g=>rw[Qae hp]at e;cases e
 |ok z=>
  rw[Qad hp]at e;obtain⟨h1,h2⟩:=Qdv (zs:=[[123]]) h (by decide) z hp;obtain⟨h5,h6⟩:=Qhq hs F _ z.2 h1 y e;refine⟨h5,?_⟩;have:Qcf c ([]:List α)=0:=rfl;dsimp only at *;omega
theorem Qv7{α β:Type}{l:L8}{F:Nat}{ab:PS->Except Flt (β×PS)}{aa:PS->Except Flt (α×PS)}{ct:β->Nat}{c:α->Nat}(ht:∀ s,Gp l s->Ct 0 l ct (ab s) s)(hs:∀ s,Gp l s->Ct 0 l c (aa s) s){s:PS}(h:Gp l s):Ct 0 l (fun a=>64+ct a.1+Qcf c a.2) (armL l F ab aa s) s:=fun y e=>by
 unfold armL at e
 cases hp:ab s with
 |error g=>rw[Qae hp]at e;cases e
 |ok z=>
  rw[Qad hp]at e;obtain⟨h1,h2⟩:=ht s h z hp
  cases hq:blockL l F aa z.2 with
  |error g=>rw[Qae hq]at e;cases e
  |ok x=>
   rw[Qad hq]at e;obtain⟨h3,h4⟩:=QpP hs h1 x hq;cases e;exact⟨h3,by dsimp only at *;omega⟩
theorem QsI{α β:Type}{l:L8}{F:Nat}{ac:PS->Except Flt (β×PS)}{ab:PS->Except Flt (α×PS)}{ct:β->Nat}{c:α->Nat}(ht:∀ s,Gp l s->Ct 0 l ct (ac s) s)(hs:∀ s,Gp l s->Ct 0 l c (ab s) s):∀(f:Nat) (aa:List (β×List α)) (s:PS),Gp l s->∀ y,aMr l F ac ab f aa s=.ok y->Gp l y.2/\Qcf (fun a=>64+ct a.1+Qcf c a.2) y.1+64*ph l y.2<=Qcf (fun a=>64+ct a.1+Qcf c a.2) aa+64*ph l s
 |0,aa,s,h=>fun y e=>by cases e;exact⟨h,Nat.le_refl _⟩
 |f+1,aa,s,h=>fun y e=>by
  rw[aMr]at e
  cases hp:mayL l [QdF] s with
  |error g=>rw[Qae hp]at e;cases e
  |ok z=>
   rw[Qad hp]at e;obtain⟨h1,h2⟩:=Qgz (zs:=[QdF]) h (by decide) z hp
   split at e
   ·cases e;exact⟨h1,by dsimp only at *;omega⟩
   ·cases hq:armL l F ac ab z.2 with
    |error g=>rw[Qae hq]at e;cases e
    |ok x=>
     rw[Qad hq]at e;obtain⟨h3,h4⟩:=Qv7 ht hs h1 x hq;obtain⟨h5,h6⟩:=QsI ht hs f _ x.2 h3 y e;refine⟨h5,?_⟩;rw[Qg0]at h6;dsimp only at *;omega
theorem Qq0(aa i t b:L8)(hw:aa.length<=7)(hi:i.length<=14):(QeY aa i t b).length<=32+t.length+b.length:=by
 have:=QbS [aa,t,QkR];simp only[Qca,List.map_cons,List.map_nil,List.sum_cons,List.sum_nil,show QkR.length=2 from rfl]at this;simp only[QeY,List.length_append];omega
theorem Qix(i:L8)(hi:i.length<=14):∀(as:List (L8×L8)) (aa:L8),aa.length<=7->(QbL i aa as).length<=Qcf (fun a=>32+a.1.length+a.2.length) as
 | [],aa,_=>by simp[QbL,Qcf]
 |a::r,aa,hw=>by
  have h1:=Qq0 aa i a.1 a.2 hw hi;have h2:=Qix i hi r Qej (by decide);simp only[QbL,Qcf,List.length_append,List.map_cons,List.sum_cons]at h2 ⊢;omega
theorem Qhf{α β:Type}(f:α->β)(c:β->Nat)(d:α->Nat)(h:∀ a,c (f a)<=d a):∀ xs:List α,Qcf c (xs.map f)<=Qcf d xs
 | []=>Nat.le_refl _
 |x::r=>by
  have h1:=Qhf f c d h r;have h2:=h x;simp only[Qcf,List.map_cons,List.sum_cons,List.map_map]at h1 ⊢;omega
def Qc8 (n:Nat) (i:L8) (x:QdT n):Nat:=i.length+(Qbx n x i).length+1
theorem QfX{α:Type}{l:L8}{s:PS}{a:α}(h:Gp l s):∀ y,semi l s a=.ok y->y.1=a/\Gp l y.2/\64*ph l y.2<=64*ph l s:=fun y e=>by
 unfold semi at e
 cases hp:paL l [[59]] s with
 |error g=>rw[Qae hp]at e;cases e
 |ok z=>
  rw[Qad hp]at e;obtain⟨h1,h2⟩:=Qdv (zs:=[[59]]) h (by decide) z hp;cases e;exact⟨rfl,h1,by dsimp only at *;omega⟩
theorem QkM(x:L8):(QaP (zL x)).length<=2*x.length+2:=by
 have:=Qiq (zL x);simpa[zL]using this
theorem Qn2{l:L8}{chk:L8->Nat}{s:PS}(h:Gp l s):∀ y,sL l chk s=.ok y->2*y.1.length+2+32+64*ph l y.2<=64*ph l s:=fun y e=>by
 unfold sL at e
 split at e
 ·rename_i hk
  split at e
  ·cases hn:nL l s.2 with
   |error f=>rw[hn]at e;cases e
   |ok s'=>
    rw[hn]at e;cases e;obtain⟨h1,h2⟩:=Qkz h hn;have h3:=h.said hk;have h4:=h.le;have h5:=h1.le;have h6:=h1.lt;have h8:=h.lt;show 2*s.1.said.length+2+32+64*ph l s'<=64*ph l s
    unfold ph;omega
  ·cases e
 ·cases e
theorem QrC(n:Nat){l:L8}{F:Nat}{ab:PS->Except Flt (QdG n×PS)}{aa:PS->Except Flt (QdT n×PS)}(i:L8)(hi:i.length<=14)(ht:∀ s,Gp l s->Ct 0 l (fun x=>(QaY n x).length) (ab s) s)(hs:∀ s,Gp l s->Ct 0 l (Qc8 n (i++[32,32])) (aa s) s)(k ad:Nat){s:PS}(h:Gp l s):∀ y,cBd l F ab aa k ad s=.ok y->Gp l y.2/\Qc8 (n+1) i y.1+64*ph l y.2<=64+64*ph l s:=by
 intro y e;unfold cBd at e
 split at e
 ·obtain⟨e1,h1,h2⟩:=QfX h y e;refine⟨h1,?_⟩;rw[e1];show i.length+5+1+64*ph l y.2<=_
  omega
 ·obtain⟨e1,h1,h2⟩:=QfX h y e;refine⟨h1,?_⟩;rw[e1];show i.length+8+1+64*ph l y.2<=_
  omega
 ·obtain⟨e1,h1,h2⟩:=QfX h y e;refine⟨h1,?_⟩;rw[e1];show i.length+5+1+64*ph l y.2<=_
  omega
 ·cases hq:sL l (fun _=>0) s with
  |error g=>rw[Qae hq]at e;cases e
  |ok x=>
   rw[Qad hq]at e;obtain⟨g1,g2⟩:=QcI h x hq;obtain⟨e1,h1,h2⟩:=QfX g1 y e;refine⟨h1,?_⟩;rw[e1];show i.length+(QaW [QaN,QaP x.1]++[59]).length+1+64*ph l y.2<=_
   have h3:=QbS [QaN,QaP x.1];simp only[Qca,List.map_cons,List.map_nil,List.sum_cons,List.sum_nil,show QaN.length=8 from rfl]at h3;simp only[List.length_append,List.length_cons,List.length_nil];dsimp only at g2;omega
 ·cases hq:sL l (fun _=>0) s with
  |error g=>rw[Qae hq]at e;cases e
  |ok x=>
   rw[Qad hq]at e;obtain⟨g1,g2⟩:=QcI h x hq;obtain⟨e1,h1,h2⟩:=QfX g1 y e;refine⟨h1,?_⟩;rw[e1];show i.length+(QaW [Qbc,QaP x.1]++[59]).length+1+64*ph l y.2<=_
   have h3:=QbS [Qbc,QaP x.1];simp only[Qca,List.map_cons,List.map_nil,List.sum_cons,List.sum_nil,show Qbc.length=8 from rfl]at h3;simp only[List.length_append,List.length_cons,List.length_nil];dsimp only at g2;omega
 ·cases hq:sL l (fun _=>0) s with
  |error g=>rw[Qae hq]at e;cases e
  |ok x=>
   rw[Qad hq]at e;obtain⟨g1,g2⟩:=QcI h x hq;obtain⟨e1,h1,h2⟩:=QfX g1 y e;refine⟨h1,?_⟩;rw[e1];show i.length+(QaW [Qa5,QaP x.1]++[59]).length+1+64*ph l y.2<=_
   have h3:=QbS [Qa5,QaP x.1];simp only[Qca,List.map_cons,List.map_nil,List.sum_cons,List.sum_nil,show Qa5.length=6 from rfl]at h3;simp only[List.length_append,List.length_cons,List.length_nil];dsimp only at g2;omega
 ·cases hm:mayL l [Qdc,Qc9,Qch] s with
  |error g=>rw[Qae hm]at e;cases e
  |ok m=>
   rw[Qad hm]at e;obtain⟨g0,ac⟩:=Qgz (zs:=[Qdc,Qc9,Qch]) h (by decide) m hm
   cases hv:sL l (fun x=>if isNameL x then 0 else 7) m.2 with
   |error g=>rw[Qae hv]at e;cases e
   |ok v=>
    rw[Qad hv]at e;obtain⟨g3,g4⟩:=QcI g0 v hv;have g5:=Qn2 g0 v hv
    cases hq:sL l (fun _=>0) v.2 with
    |error g=>rw[Qae hq]at e;cases e
    |ok x=>
     rw[Qad hq]at e;obtain⟨g1,g2⟩:=QcI g3 x hq;obtain⟨e1,h1,h2⟩:=QfX g1 y e;refine⟨h1,?_⟩;rw[e1];show i.length+(QaW [QhO,QbT m.1 [Qdc,Qc9,Qch],QaP (zL v.1),QaP x.1]++[59]).length+1+64*ph l y.2<=_
     have h3:=QbS [QhO,QbT m.1 [Qdc,Qc9,Qch],QaP (zL v.1),QaP x.1];have h4:=QeG m.1 [Qdc,Qc9,Qch] 7 (by decide);have h5:=QkM v.1;simp only[Qca,List.map_cons,List.map_nil,List.sum_cons,List.sum_nil,show QhO.length=3 from rfl]at h3;simp only[List.length_append,List.length_cons,List.length_nil];dsimp only at g2 ac g4;omega
 ·cases ha:armL l F ab aa s with
  |error g=>rw[Qae ha]at e;cases e
  |ok a=>
   rw[Qad ha]at e;obtain⟨g1,g2⟩:=Qv7 ht hs h a ha
   cases hb:aMr l F ab aa F [a.1] a.2 with
   |error g=>rw[Qae hb]at e;cases e
   |ok bb=>
    rw[Qad hb]at e;obtain⟨g3,g4⟩:=QsI ht hs F _ a.2 g1 bb hb;have hone:Qcf (fun a:QdG n×List (QdT n)=>64+(QaY n a.1).length+Qcf (Qc8 n (i++[32,32])) a.2) [a.1]=64+(QaY n a.1.1).length+Qcf (Qc8 n (i++[32,32])) a.1.2:=by simp[Qcf]
    cases hm:mayL l [QgJ] bb.2 with
    |error g=>rw[Qae hm]at e;cases e
    |ok m=>
     rw[Qad hm]at e;obtain⟨g5,g6⟩:=Qgz (zs:=[QgJ]) g3 (by decide) m hm
     have hA:(QbL i kIf (bb.1.map fun a:QdG n×List (QdT n)=>(QaY n a.1,Qbw (Qbx n) a.2 (i++[32,32])))).length<=Qcf (fun a:QdG n×List (QdT n)=>64+(QaY n a.1).length+Qcf (Qc8 n (i++[32,32])) a.2) bb.1:=by
      refine Nat.le_trans (Qix i hi _ kIf (by decide)) (Qhf _ _ _ (fun a=>?_) bb.1);dsimp only;have:=Qfc (Qbx n) (i++[32,32]) a.2;rw[this];unfold Qc8;omega
     split at e
     ·cases e;refine⟨g5,?_⟩;show i.length+(QbL i kIf (bb.1.map fun a:QdG n×List (QdT n)=>(QaY n a.1,Qbw (Qbx n) a.2 (i++[32,32])))++(if false then Qrv++Qbw (Qbx n) [] (i++[32,32])++i else [])++[125]).length+1+64*ph l m.2<=_
      simp only[Bool.false_eq_true,if_false,List.length_append,List.length_cons,List.length_nil];dsimp only at *;omega
     ·rename_i hm0
      cases hc:blockL l F aa m.2 with
      |error g=>rw[Qae hc]at e;cases e
      |ok cs=>
       rw[Qad hc]at e;obtain⟨g7,g8⟩:=QpP hs g5 cs hc;cases e;refine⟨g7,?_⟩;show i.length+(QbL i kIf (bb.1.map fun a:QdG n×List (QdT n)=>(QaY n a.1,Qbw (Qbx n) a.2 (i++[32,32])))++(if true then Qrv++Qbw (Qbx n) cs.1 (i++[32,32])++i else [])++[125]).length+1+64*ph l cs.2<=_
       have hl:=Qfc (Qbx n) (i++[32,32]) cs.1;simp only[if_true,List.length_append,List.length_cons,List.length_nil,show Qrv.length=9 from rfl]at hl ⊢;rw[hl]
       have:Qcf (fun c=>i.length+(0+1+1)+(Qbx n c (i++[32,32])).length+1) cs.1=Qcf (Qc8 n (i++[32,32])) cs.1:=by
        congr 1;funext c;simp[Qc8]
       dsimp only at *;omega
theorem QtO{l:L8}{req:List (L8)}{F:Nat}:∀(n:Nat) (i:L8),i.length+2*n<=14->∀(s:PS),Gp l s->Ct 0 l (Qc8 n i) (cmdL l req F n s) s
 |0,i,hi,s,h=>by
  rw[cmdL];split<;>exact fun y e=>by cases e
 |n+1,i,hi,s,h=>fun y e=>by
  rw[cmdL]at e;by_cases h0:wL cNs s.1.spelt=0
  ·rw[if_pos h0]at e;cases e
  ·rw[if_neg h0]at e;cases hu:Qcu req s.1.spelt
   ·rw[hu,if_neg (by decide)]at e;cases e
   ·rw[hu,if_pos rfl]at e
    cases hn:nL l s.2 with
    |error g=>cases(Qa3 hn).symm.trans e
    |ok z=>
     replace e:=(Qa2 hn).symm.trans e;obtain⟨g1,g2⟩:=Qdq h (QdH (zs:=cNs) h (by decide) h0) hn;obtain⟨g3,g4⟩:=QrC n i (by omega) (fun s g y e=>by obtain⟨a1,a2⟩:=QkO n s g y e;exact⟨a1,by dsimp only at *;omega⟩) (fun s g=>QtO n (i++[32,32]) (by simp only[List.length_append,List.length_cons,List.length_nil];omega) s g) _ _ g1 y e;exact⟨g3,by omega⟩
theorem Qrb(req:List (L8))(x:L8):QhM (Qb6 req x)<=QhM req+(QaP x).length+2:=by
 unfold Qb6;split
 ·omega
 ·unfold QhM;rw[List.map_append,Qd0,List.map_cons,List.map_nil,Qdk];omega
theorem QiD:∀(xs req:List (L8)),QhM (xs.foldl Qb6 req)<=QhM req+QhM xs
 | [],req=>by simp
 |x::r,req=>by
  have h1:=QiD r (Qb6 req x);have h2:=Qrb req x;have h3:QhM (x::r)=(QaP x).length+2+QhM r:=by unfold QhM;rw[List.map_cons,Qil]
  rw[List.foldl_cons];omega
theorem Qg7{l:L8}{F:Nat}:∀(f:Nat) (req:List (L8)) (s:PS),Gp l s->∀ y,reqMore l F f req s=.ok y->Gp l y.2/\QhM y.1+64*ph l y.2<=QhM req+64*ph l s
 |0,req,s,h=>fun y e=>by cases e;exact⟨h,Nat.le_refl _⟩
 |f+1,req,s,h=>fun y e=>by
  rw[reqMore]at e
  cases hp:mayL l [Qdg] s with
  |error g=>rw[Qae hp]at e;cases e
  |ok z=>
   rw[Qad hp]at e;obtain⟨h1,h2⟩:=Qgz (zs:=[Qdg]) h (by decide) z hp
   split at e
   ·cases e;exact⟨h1,by dsimp only at *;omega⟩
   ·cases hq:sLs l (fun x=>if 0<wL [QaG,QaN,Qa5,Qbm] x then 0 else 6) F z.2 with
    |error g=>rw[Qae hq]at e;cases e
    |ok x=>
     rw[Qad hq]at e;obtain⟨h3,h4⟩:=Qe9 h1 x hq
     cases hr:paL l [[59]] x.2 with
     |error g=>rw[Qae hr]at e;cases e
     |ok v=>
      rw[Qad hr]at e;obtain⟨h5,h6⟩:=Qdv (zs:=[[59]]) h3 (by decide) v hr;obtain⟨h7,h8⟩:=Qg7 f _ v.2 h5 y e;have h9:=QiD x.1 req;refine⟨h7,?_⟩;dsimp only at *;omega
theorem Qip{α:Type}{l:L8}{ab:PS->Except Flt (α×PS)}{c:α->Nat}(hs:∀ s,Gp l s->Ct 0 l c (ab s) s):∀(f:Nat) (aa:List α) (s:PS),Gp l s->∀ y,cMr ab f aa s=.ok y->Qcf c y<=Qcf c aa+64*ph l s
 |0,aa,s,h=>fun y e=>by cases e;omega
 |f+1,aa,s,h=>fun y e=>by
  rw[cMr]at e
  split at e
  ·cases e;omega
  ·cases hq:ab s with
   |error g=>rw[hq]at e;cases e
   |ok x=>
    rw[hq]at e;obtain⟨h3,h4⟩:=hs s h x hq;have h6:=Qip hs f _ x.2 h3 y e;rw[Qg0]at h6;omega
theorem Qnc{l:L8}{y:List (L8)×List (QdT 7)}(h:prL l=.ok y):(QhD y).length<=64*l.length+64:=by
 unfold prL at h;dsimp only at h;generalize 2*l.length+10=F at h
 cases h1:nL l 0 with
 |error f=>rw[h1]at h;cases h
 |ok s=>
  rw[h1]at h;dsimp only at h
  have hg:Gp l s:=by
   unfold nL at h1
   cases hs:Qcg (l.length+1) (l.drop 0) 0 with
   |error f=>rw[hs]at h1;cases h1
   |ok n=>
    rw[hs]at h1;exact(Qlz l n (QdE l _ 0 n (Nat.zero_le _) hs).2 s h1).1
  cases h3:reqMore l F F [] s with
  |error f=>rw[h3]at h;cases h
  |ok z=>
   rw[h3]at h;dsimp only at h;obtain⟨g1,g2⟩:=Qg7 F [] s hg z h3
   cases h4:cMr (cmdL l z.1 F 7) F [] z.2 with
   |error f=>rw[h4]at h;cases h
   |ok cs=>
    rw[h4]at h;have g3:=Qip (c:=Qc8 7 []) (fun s g=>QtO 7 [] (by decide) s g) F [] z.2 g1 cs h4;cases h;have g4:=Qfc (Qbx 7) [] cs;have g5:Qcf (fun c=>([]:L8).length+(Qbx 7 c []).length+1) cs=Qcf (Qc8 7 []) cs:=rfl
    have g6:(QdM z.1).length<=QhM z.1+12:=by
     unfold QdM;split
     ·simp
     ·have:=QdY z.1;simp only[List.length_append,List.length_cons,List.length_nil,show Qdg.length=7 from rfl];omega
    have g7:QhM ([]:List (L8))=0:=rfl;have g8:Qcf (Qc8 7 []) ([]:List (QdT 7))=0:=rfl;have g9:ph l s<=l.length:=by unfold ph;omega
    show(QdM z.1++Qbw (Qbx 7) cs []).length<=_
    rw[List.length_append];omega
structure WfT (req:List (L8)) (x:Qec) (m:Nat):Prop where
 kind:x.kind≤9
 use:Qcu req (tNs.getD x.kind [])=true
 one:x.kind=2→m=1
 many:x.kind=3∨x.kind=4→0 < m
 leaf:x.kind≤1∨5≤x.kind→m=0
 tag:5≤x.kind→x.kind≤7→1≤x.tag∧x.tag≤3
 frm:5≤x.kind→x.kind≤8→x.fr≠[]
 keys:5≤x.kind→x.kind≤7→x.keys≠[]
 env:x.kind=6→∀ z∈x.fr,0 < wL [Qh8,kTo] (zL z)
 size:x.kind=9→1≤x.tag∧x.tag≤2
 num:x.num≤2147483647
 num0:x.kind≠9→x.num=0
 tag0:x.kind≤4∨x.kind=8→x.tag=0
 oct0:x.kind≤4∨8≤x.kind→x.octet=false
 fr0:x.kind≤4∨x.kind=9→x.fr=[]
 keys0:x.kind≤4∨8≤x.kind→x.keys=[]
structure WfC (req:List (L8)) (x:Qjl) (a e:Nat):Prop where
 kind:x.kind≤7
 use:Qcu req (cNs.getD x.kind [])=true
 tag:x.tag≤3
 tag0:x.kind≠6→x.tag=0
 arg0:x.kind≤2∨x.kind=7→x.arg=[]
 var0:x.kind≠6→x.var=[]
 var:x.kind=6→∃ v,isNameL v=true∧x.var=zL v
 els0:x.kind≠7→x.els=false
 arms:x.kind=7→0 < a
 arms0:x.kind≠7→a=0
 else0:x.els=false→e=0
def Qwg (p:Qec→Nat→Prop):(n:Nat)→QdG n→Prop
 | 0,_=>False
 | n+1,x=>p x.1 x.2.length∧∀ a∈x.2,Qwg p n a
def QnQ (p:Qec→Nat→Prop) (q:Qjl→Nat→Nat→Prop):(n:Nat)→QdT n→Prop
 | 0,_=>False
 | n+1,x=>q x.1 x.2.1.length x.2.2.length∧(∀ a∈x.2.1,Qwg p n a.1∧∀ c∈a.2,QnQ p q n c)∧∀ c∈x.2.2,QnQ p q n c
theorem QgX:∀(zs:List (L8)) (x:L8),¬ wL zs x=0->zs.getD (wL zs x - 1) []=x
 | [],x,h=>absurd rfl h
 |s::r,x,h=>by
  unfold wL at h ⊢;split
  ·rename_i e;simp[e]
  ·rename_i e;rw[if_neg e]at h;split
   ·rename_i e0;rw[if_pos e0]at h;exact absurd rfl h
   ·rename_i e0;have ih:=QgX r x e0;have e1:wL r x+1 - 1=(wL r x - 1)+1:=by omega
    rw[e1];simpa using ih
def Has {α:Type} (P:α→Prop) (r:Except Flt (α×PS)):Prop:=∀ y,r=.ok y→P y.1
theorem QgW{l:L8}{chk:L8->Nat}{s:PS}:Has (fun x=>chk x=0) (sL l chk s):=fun y e=>by
 unfold sL at e
 split at e
 ·split at e
  ·rename_i hc
   cases hn:nL l s.2 with
   |error f=>rw[hn]at e;cases e
   |ok s'=>rw[hn]at e;cases e;exact hc
  ·cases e
 ·cases e
theorem QpN{l:L8}{chk:L8->Nat}:∀(f:Nat) (aa:List (L8)) (s:PS),aa≠[]->(∀ z∈aa,chk z=0)->Has (fun xs=>xs≠[]/\∀ z∈xs,chk z=0) (moreL l chk f aa s)
 |0,aa,s,h,hc=>fun y e=>by cases e;exact⟨h,hc⟩
 |f+1,aa,s,h,hc=>fun y e=>by
  rw[moreL]at e
  cases hp:paL l [[44],[93]] s with
  |error g=>rw[hp]at e;cases e
  |ok z=>
   rw[hp]at e;dsimp only at e
   split at e
   ·cases hs:sL l chk z.2 with
    |error g=>rw[hs]at e;cases e
    |ok x=>
     rw[hs]at e;have h1:=QgW x hs;refine QpN f _ x.2 (by simp) (fun u hu=>?_) y e;rcases List.mem_append.1 hu with hu|hu
     ·exact hc u hu
     ·rw[List.mem_singleton.1 hu];exact h1
   ·cases e;exact⟨h,hc⟩
theorem Qd7{l:L8}{chk:L8->Nat}{F:Nat}{s:PS}:Has (fun xs=>xs≠[]/\∀ z∈xs,chk z=0) (sLs l chk F s):=fun y e=>by
 unfold sLs at e
 cases hm:mayL l [[91]] s with
 |error g=>rw[hm]at e;cases e
 |ok z=>
  rw[hm]at e;dsimp only at e
  cases hs:sL l chk z.2 with
  |error g=>rw[hs]at e;cases e
  |ok x=>
   rw[hs]at e;have h1:=QgW x hs;dsimp only at e
   split at e
   ·cases e;exact⟨by simp,fun u hu=>by rw[List.mem_singleton.1 hu];exact h1⟩
   ·exact QpN F [x.1] x.2 (by simp) (fun u hu=>by rw[List.mem_singleton.1 hu];exact h1) y e
theorem QuK{l:L8}{zs:List (L8)}{s:PS}:Has (fun i=>1<=i/\i<=zs.length) (paL l zs s):=fun y e=>by
 unfold paL at e
 split at e
 ·cases e
 ·rename_i h0
  cases hn:nL l s.2 with
  |error f=>rw[hn]at e;cases e
  |ok s'=>rw[hn]at e;cases e;have:=QbC zs s.1.spelt;dsimp only;omega
theorem Qxk{l:L8}{zs:List (L8)}{s:PS}:Has (fun i=>i<=zs.length) (mayL l zs s):=fun y e=>by
 unfold mayL at e
 split at e
 ·cases e;exact Nat.zero_le _
 ·cases hn:nL l s.2 with
  |error f=>rw[hn]at e;cases e
  |ok s'=>rw[hn]at e;cases e;exact QbC zs s.1.spelt
theorem Qps{l:L8}:∀(f tag:Nat) (oct aa:Bool) (s:PS),Gp l s->ph l s<f->tag<=3->Has (fun o=>1<=o.1/\o.1<=3) (Qfi l f tag oct aa s)
 |0,tag,oct,aa,s,h,hf,ht=>by omega
 |f+1,tag,oct,aa,s,h,hf,ht=>fun y e=>by
  rw[Qfi]at e;by_cases h1:wL [tIs,Qax,QaM] s.1.spelt=0
  ·rw[if_pos h1]at e;by_cases h2:wL [QaJ] s.1.spelt=0
   ·rw[if_pos h2]at e;cases e;dsimp only;omega
   ·rw[if_neg h2]at e;cases aa
    ·rw[if_neg (by decide)]at e
     cases hn:nL l s.2 with
     |error g=>rw[Qa3 hn]at e;cases e
     |ok z=>
      rw[Qa2 hn]at e;obtain⟨g1,g2⟩:=Qdq h (QdH (zs:=[QaJ]) h (by decide) h2) hn
      cases hs:sL l (fun x=>if 0<wL [Qc2,QdC] x then 0 else 7) z with
      |error g=>rw[Qae hs]at e;cases e
      |ok x=>
       rw[Qad hs]at e;obtain⟨g3,g4⟩:=QcI g1 x hs;exact Qps f _ _ _ x.2 g3 (by omega) ht y e
    ·rw[if_pos rfl]at e;cases e
  ·rw[if_neg h1]at e;by_cases h3:tag=0
   ·rw[if_pos h3]at e
    cases hn:nL l s.2 with
    |error g=>rw[Qa3 hn]at e;cases e
    |ok z=>
     rw[Qa2 hn]at e;obtain⟨g1,g2⟩:=Qdq h (QdH (zs:=[tIs,Qax,QaM]) h (by decide) h1) hn;exact Qps f _ _ _ z g1 (by omega) (QbC [tIs,Qax,QaM] s.1.spelt) y e
   ·rw[if_neg h3]at e;cases e
theorem QiU{l:L8}{F:Nat}{chk:L8->Nat}{k aa:Nat}{s:PS}(h:Gp l s)(hF:l.length<F):Has (fun x=>x=⟨k,aa,x.tag,x.octet,x.fr,x.keys,0⟩/\1<=x.tag/\x.tag<=3/\x.fr≠[]/\x.keys≠[]/\∀ z∈x.fr,chk z=0) (QbQ l F chk k aa s):=fun y e=>by
 unfold QbQ at e
 cases h1:Qfi l F 0 false false s with
 |error f=>rw[Qae h1]at e;cases e
 |ok a=>
  rw[Qad h1]at e;have g0:=Qps F 0 false false s h (by unfold ph;omega) (by omega) a h1
  cases h2:sLs l chk F a.2 with
  |error f=>rw[Qae h2]at e;cases e
  |ok c=>
   rw[Qad h2]at e;have g1:=Qd7 c h2
   cases h3:sLs l (fun _=>0) F c.2 with
   |error f=>rw[Qae h3]at e;cases e
   |ok d=>
    rw[Qad h3]at e;have g2:=Qd7 d h3;cases e;exact⟨rfl,g0.1,g0.2,g1.1,g2.1,g1.2⟩
theorem Qf3{α:Type}{l:L8}{ab:PS->Except Flt (α×PS)}{P:α->Prop}(hg:∀ s,Gp l s->∀ y,ab s=.ok y->Gp l y.2)(hs:∀ s,Gp l s->Has P (ab s)):∀(f:Nat) (aa:List α) (s:PS),Gp l s->aa≠[]->(∀ a∈aa,P a)->Has (fun xs=>xs≠[]/\∀ a∈xs,P a) (gMr l ab f aa s)
 |0,aa,s,g,h,hc=>fun y e=>by cases e;exact⟨h,hc⟩
 |f+1,aa,s,g,h,hc=>fun y e=>by
  rw[gMr]at e
  cases hp:paL l [[44],[41]] s with
  |error g=>rw[Qae hp]at e;cases e
  |ok z=>
   rw[Qad hp]at e;obtain⟨h1,h2⟩:=Qdv (zs:=[[44],[41]]) g (by decide) z hp
   split at e
   ·cases hq:ab z.2 with
    |error g=>rw[Qae hq]at e;cases e
    |ok x=>
     rw[Qad hq]at e;refine Qf3 hg hs f _ x.2 (hg _ h1 x hq) (by simp) (fun u hu=>?_) y e;rcases List.mem_append.1 hu with hu|hu
     ·exact hc u hu
     ·rw[List.mem_singleton.1 hu];exact hs _ h1 x hq
   ·cases e;exact⟨h,hc⟩
theorem QnA{α:Type}{l:L8}{F:Nat}{aa:PS->Except Flt (α×PS)}{P:α->Prop}(hg:∀ s,Gp l s->∀ y,aa s=.ok y->Gp l y.2)(hs:∀ s,Gp l s->Has P (aa s)){s:PS}(h:Gp l s):Has (fun xs=>xs≠[]/\∀ a∈xs,P a) (QcQ l F aa s):=fun y e=>by
 unfold QcQ at e
 cases hp:paL l [[40]] s with
 |error g=>rw[Qae hp]at e;cases e
 |ok z=>
  rw[Qad hp]at e;obtain⟨h1,h2⟩:=Qdv (zs:=[[40]]) h (by decide) z hp
  cases hq:aa z.2 with
  |error g=>rw[Qae hq]at e;cases e
  |ok x=>
   rw[Qad hq]at e;exact Qf3 hg hs F [x.1] x.2 (hg _ h1 x hq) (by simp) (fun u hu=>by rw[List.mem_singleton.1 hu];exact hs _ h1 x hq) y e
theorem Qm4(n:Nat){l:L8}{req:List (L8)}{F:Nat}{aa:PS->Except Flt (QdG n×PS)}(hF:l.length<F)(hg:∀ s,Gp l s->∀ y,aa s=.ok y->Gp l y.2)(hs:∀ s,Gp l s->Has (Qwg (WfT req) n) (aa s))(k ab:Nat)(hk:k<=9)(hu:Qcu req (tNs.getD k [])=true){s:PS}(h:Gp l s):Has (fun x:Qec×List (QdG n)=>WfT req x.1 x.2.length/\∀ a∈x.2,Qwg (WfT req) n a) (tBd l F aa k ab s):=fun y e=>by
 unfold tBd at e
 split at e
 ·cases e;exact⟨by constructor<;>simp<;>(first|exact hu|skip),by simp⟩
 ·cases e;exact⟨by constructor<;>simp<;>(first|exact hu|skip),by simp⟩
 ·cases hq:aa s with
  |error g=>rw[Qae hq]at e;cases e
  |ok x=>
   rw[Qad hq]at e;cases e;exact⟨by constructor<;>simp<;>(first|exact hu|skip),fun a ha=>by rw[List.mem_singleton.1 ha];exact hs _ h x hq⟩
 ·cases hq:QcQ l F aa s with
  |error g=>rw[Qae hq]at e;cases e
  |ok x=>
   rw[Qad hq]at e;have h1:=QnA hg hs h x hq;cases e;exact⟨by constructor<;>simp<;>(first|exact hu|exact List.length_pos_iff.2 h1.1|skip),h1.2⟩
 ·cases hq:QcQ l F aa s with
  |error g=>rw[Qae hq]at e;cases e
  |ok x=>
   rw[Qad hq]at e;have h1:=QnA hg hs h x hq;cases e;exact⟨by constructor<;>simp<;>(first|exact hu|exact List.length_pos_iff.2 h1.1|skip),h1.2⟩
 ·cases hq:QbQ l F (fun _=>0) 5 ab s with
  |error g=>rw[Qae hq]at e;cases e
  |ok x=>
   rw[Qad hq]at e;obtain⟨h1,h2,h3,h4,h5,h6⟩:=QiU h hF x hq;cases e;dsimp only;rw[h1];exact⟨by constructor<;>simp<;>(first|exact hu|exact⟨h2,h3⟩|assumption|skip),by simp⟩
 ·cases hq:QbQ l F (fun x=>if 0<wL [Qh8,kTo] (zL x)then 0 else 7) 6 ab s with
  |error g=>rw[Qae hq]at e;cases e
  |ok x=>
   rw[Qad hq]at e;obtain⟨h1,h2,h3,h4,h5,h6⟩:=QiU h hF x hq
   have h7:∀ z∈x.1.fr,0<wL [Qh8,kTo] (zL z):=fun z hz=>by
    have:=h6 z hz
    split at this
    ·assumption
    ·cases this
   cases e;dsimp only;rw[h1];exact⟨by constructor<;>simp<;>(first|exact hu|exact⟨h2,h3⟩|assumption|skip),by simp⟩
 ·cases hq:QbQ l F (fun _=>0) 7 ab s with
  |error g=>rw[Qae hq]at e;cases e
  |ok x=>
   rw[Qad hq]at e;obtain⟨h1,h2,h3,h4,h5,h6⟩:=QiU h hF x hq;cases e;dsimp only;rw[h1];exact⟨by constructor<;>simp<;>(first|exact hu|exact⟨h2,h3⟩|assumption|skip),by simp⟩
 ·cases hq:sLs l (fun _=>0) F s with
  |error g=>rw[Qae hq]at e;cases e
  |ok x=>
   rw[Qad hq]at e;have h1:=Qd7 x hq;cases e;exact⟨by constructor<;>simp<;>(first|exact hu|exact h1.1|skip),by simp⟩
 ·rename_i h0 h1 h2 h3 h4 h5 h6 h7 h8
  cases hq:sizeL l ab s with
  |error g=>rw[Qae hq]at e;cases e
  |ok x=>
   rw[Qad hq]at e
   have ac:k=9:=by
    have a0:k≠0:=h0;have a1:k≠1:=h1;have a2:k≠2:=h2;have a3:k≠3:=h3;have a4:k≠4:=h4;have a5:k≠5:=h5;have a6:k≠6:=h6;have a7:k≠7:=h7;have a8:k≠8:=h8;omega
   subst ac;unfold sizeL at hq
   cases hp:paL l [QfE,Qdl] s with
   |error g=>rw[Qae hp]at hq;cases hq
   |ok i=>
    rw[Qad hp]at hq;have g1:=QuK i hp;obtain⟨g2,g3⟩:=Qdv (zs:=[QfE,Qdl]) h (by decide) i hp;have g4:=g2.num
    split at hq
    ·cases hn:nL l i.2.2 with
     |error f=>rw[Qa3 hn]at hq;cases hq
     |ok z=>
      rw[Qa2 hn]at hq;cases hq;cases e;exact⟨by constructor<;>simp<;>(first|exact hu|exact g4|exact g1|skip),by simp⟩
    ·cases hq
theorem Qqf{l:L8}{req:List (L8)}{F:Nat}(hF:l.length<F):∀(n:Nat) (s:PS),Gp l s->Has (Qwg (WfT req) n) (QbP l req F n s)
 |0,s,h=>fun y e=>by rw[QbP]at e;split at e<;>cases e
 |n+1,s,h=>fun y e=>by
  rw[QbP]at e;by_cases h0:wL tNs s.1.spelt=0
  ·rw[if_pos h0]at e;cases e
  ·rw[if_neg h0]at e;cases hu:Qcu req s.1.spelt
   ·rw[hu,if_neg (by decide)]at e;cases e
   ·rw[hu,if_pos rfl]at e
    cases hn:nL l s.2 with
    |error g=>cases(Qa3 hn).symm.trans e
    |ok z=>
     replace e:=(Qa2 hn).symm.trans e;obtain⟨g1,g2⟩:=Qdq h (QdH (zs:=tNs) h (by decide) h0) hn;exact Qm4 n hF (fun s g y e=>(QkO n s g y e).1) (fun s g=>Qqf hF n s g) _ _ (by have:=QbC tNs s.1.spelt;have:tNs.length=10:=rfl;omega) (by rw[QgX _ _ h0];exact hu) g1 y e
theorem QgF{α:Type}{l:L8}{ab:PS->Except Flt (α×PS)}{P:α->Prop}(hg:∀ s,Gp l s->∀ y,ab s=.ok y->Gp l y.2)(hs:∀ s,Gp l s->Has P (ab s)):∀(f:Nat) (aa:List α) (s:PS),Gp l s->(∀ a∈aa,P a)->∀ y,bMr l ab f aa s=.ok y->Gp l y.2/\∀ a∈y.1,P a
 |0,aa,s,g,hc=>fun y e=>by cases e;exact⟨g,hc⟩
 |f+1,aa,s,g,hc=>fun y e=>by
  rw[bMr]at e
  cases hp:mayL l [[125]] s with
  |error g=>rw[Qae hp]at e;cases e
  |ok z=>
   rw[Qad hp]at e;obtain⟨h1,h2⟩:=Qgz (zs:=[[125]]) g (by decide) z hp
   split at e
   ·cases hq:ab z.2 with
    |error g=>rw[Qae hq]at e;cases e
    |ok x=>
     rw[Qad hq]at e;refine QgF hg hs f _ x.2 (hg _ h1 x hq) (fun u hu=>?_) y e;rcases List.mem_append.1 hu with hu|hu
     ·exact hc u hu
     ·rw[List.mem_singleton.1 hu];exact hs _ h1 x hq
   ·cases e;exact⟨h1,hc⟩
theorem Ql6{α:Type}{l:L8}{F:Nat}{aa:PS->Except Flt (α×PS)}{P:α->Prop}(hg:∀ s,Gp l s->∀ y,aa s=.ok y->Gp l y.2)(hs:∀ s,Gp l s->Has P (aa s)){s:PS}(h:Gp l s):∀ y,blockL l F aa s=.ok y->Gp l y.2/\∀ a∈y.1,P a:=fun y e=>by
 unfold blockL at e
 cases hp:paL l [[123]] s with
 |error g=>rw[Qae hp]at e;cases e
 |ok z=>
  rw[Qad hp]at e;obtain⟨h1,h2⟩:=Qdv (zs:=[[123]]) h (by decide) z hp;exact QgF hg hs F [] z.2 h1 (by simp) y e
theorem QtW{α β:Type}{l:L8}{F:Nat}{ab:PS->Except Flt (β×PS)}{aa:PS->Except Flt (α×PS)}{P:α->Prop}{Q:β->Prop}(ac:∀ s,Gp l s->∀ y,ab s=.ok y->Gp l y.2)(ht:∀ s,Gp l s->Has Q (ab s))(hg:∀ s,Gp l s->∀ y,aa s=.ok y->Gp l y.2)(hs:∀ s,Gp l s->Has P (aa s)){s:PS}(h:Gp l s):∀ y,armL l F ab aa s=.ok y->Gp l y.2/\Q y.1.1/\∀ a∈y.1.2,P a:=fun y e=>by
 unfold armL at e
 cases hp:ab s with
 |error g=>rw[Qae hp]at e;cases e
 |ok z=>
  rw[Qad hp]at e
  cases hq:blockL l F aa z.2 with
  |error g=>rw[Qae hq]at e;cases e
  |ok x=>
   rw[Qad hq]at e;have h1:=Ql6 hg hs (ac _ h z hp) x hq;have h2:=ht _ h z hp;cases e;exact⟨h1.1,h2,h1.2⟩
theorem Qqa{α β:Type}{l:L8}{F:Nat}{ac:PS->Except Flt (β×PS)}{ab:PS->Except Flt (α×PS)}{P:α->Prop}{Q:β->Prop}(ad:∀ s,Gp l s->∀ y,ac s=.ok y->Gp l y.2)(ht:∀ s,Gp l s->Has Q (ac s))(hg:∀ s,Gp l s->∀ y,ab s=.ok y->Gp l y.2)(hs:∀ s,Gp l s->Has P (ab s)):∀(f:Nat) (aa:List (β×List α)) (s:PS),Gp l s->aa≠[]->(∀ a∈aa,Q a.1/\∀ c∈a.2,P c)->∀ y,aMr l F ac ab f aa s=.ok y->Gp l y.2/\y.1≠[]/\∀ a∈y.1,Q a.1/\∀ c∈a.2,P c
 |0,aa,s,g,h,hc=>fun y e=>by cases e;exact⟨g,h,hc⟩
 |f+1,aa,s,g,h,hc=>fun y e=>by
  rw[aMr]at e
  cases hp:mayL l [QdF] s with
  |error g=>rw[Qae hp]at e;cases e
  |ok z=>
   rw[Qad hp]at e;obtain⟨h1,h2⟩:=Qgz (zs:=[QdF]) g (by decide) z hp
   split at e
   ·cases e;exact⟨h1,h,hc⟩
   ·cases hq:armL l F ac ab z.2 with
    |error g=>rw[Qae hq]at e;cases e
    |ok x=>
     rw[Qad hq]at e;obtain⟨h3,h4,h5⟩:=QtW ad ht hg hs h1 x hq;refine Qqa ad ht hg hs f _ x.2 h3 (by simp) (fun u hu=>?_) y e;rcases List.mem_append.1 hu with hu|hu
     ·exact hc u hu
     ·rw[List.mem_singleton.1 hu];exact⟨h4,h5⟩
theorem Qed{α:Type}{l:L8}{s:PS}{a:α}:Has (fun x=>x=a) (semi l s a):=fun y e=>by
 unfold semi at e
 cases hp:paL l [[59]] s with
 |error g=>rw[Qae hp]at e;cases e
 |ok z=>rw[Qad hp]at e;cases e;rfl
theorem Qol(n:Nat){l:L8}{req:List (L8)}{F:Nat}{ab:PS->Except Flt (QdG n×PS)}{aa:PS->Except Flt (QdT n×PS)}(ac:∀ s,Gp l s->∀ y,ab s=.ok y->Gp l y.2)(ht:∀ s,Gp l s->Has (Qwg (WfT req) n) (ab s))(hg:∀ s,Gp l s->∀ y,aa s=.ok y->Gp l y.2)(hs:∀ s,Gp l s->Has (QnQ (WfT req) (WfC req) n) (aa s))(k ad:Nat)(hk:k<=7)(hu:Qcu req (cNs.getD k [])=true){s:PS}(h:Gp l s):Has (fun x:Qjl×List (QdG n×List (QdT n))×List (QdT n)=>WfC req x.1 x.2.1.length x.2.2.length/\(∀ a∈x.2.1,Qwg (WfT req) n a.1/\∀ c∈a.2,QnQ (WfT req) (WfC req) n c)/\∀ c∈x.2.2,QnQ (WfT req) (WfC req) n c) (cBd l F ab aa k ad s):=fun y e=>by
 unfold cBd at e
 split at e
 ·rw[Qed y e];exact⟨by constructor<;>simp<;>(first|exact hu|skip),by simp,by simp⟩
 ·rw[Qed y e];exact⟨by constructor<;>simp<;>(first|exact hu|skip),by simp,by simp⟩
 ·rw[Qed y e];exact⟨by constructor<;>simp<;>(first|exact hu|skip),by simp,by simp⟩
 ·cases hq:sL l (fun _=>0) s with
  |error g=>rw[Qae hq]at e;cases e
  |ok x=>rw[Qad hq]at e;rw[Qed y e];exact⟨by constructor<;>simp<;>(first|exact hu|skip),by simp,by simp⟩
 ·cases hq:sL l (fun _=>0) s with
  |error g=>rw[Qae hq]at e;cases e
  |ok x=>rw[Qad hq]at e;rw[Qed y e];exact⟨by constructor<;>simp<;>(first|exact hu|skip),by simp,by simp⟩
 ·cases hq:sL l (fun _=>0) s with
  |error g=>rw[Qae hq]at e;cases e
  |ok x=>rw[Qad hq]at e;rw[Qed y e];exact⟨by constructor<;>simp<;>(first|exact hu|skip),by simp,by simp⟩
 ·cases hm:mayL l [Qdc,Qc9,Qch] s with
  |error g=>rw[Qae hm]at e;cases e
  |ok m=>
   rw[Qad hm]at e;have g0:=Qxk m hm
   cases hv:sL l (fun x=>if isNameL x then 0 else 7) m.2 with
   |error g=>rw[Qae hv]at e;cases e
   |ok v=>
    rw[Qad hv]at e;have g1:=QgW v hv
    have g2:isNameL v.1=true:=by
     dsimp only at g1
     split at g1
     ·assumption
     ·cases g1
    cases hq:sL l (fun _=>0) v.2 with
    |error g=>rw[Qae hq]at e;cases e
    |ok x=>
     rw[Qad hq]at e;rw[Qed y e];exact⟨by constructor<;>simp<;>(first|exact hu|exact g0|exact⟨v.1,g2,rfl⟩|skip),by simp,by simp⟩
 ·rename_i h0 h1 h2 h3 h4 h5 h6
  have ae:k=7:=by
   have a0:k≠0:=h0;have a1:k≠1:=h1;have a2:k≠2:=h2;have a3:k≠3:=h3;have a4:k≠4:=h4;have a5:k≠5:=h5;have a6:k≠6:=h6;omega
  subst ae
  cases ha:armL l F ab aa s with
  |error g=>rw[Qae ha]at e;cases e
  |ok a=>
   rw[Qad ha]at e;obtain⟨g1,g2,g3⟩:=QtW ac ht hg hs h a ha
   cases hb:aMr l F ab aa F [a.1] a.2 with
   |error g=>rw[Qae hb]at e;cases e
   |ok bb=>
    rw[Qad hb]at e;obtain⟨g4,g5,g6⟩:=Qqa ac ht hg hs F [a.1] a.2 g1 (by simp) (fun u hu=>by rw[List.mem_singleton.1 hu];exact⟨g2,g3⟩) bb hb
    cases hm:mayL l [QgJ] bb.2 with
    |error g=>rw[Qae hm]at e;cases e
    |ok m=>
     rw[Qad hm]at e;obtain⟨g7,g8⟩:=Qgz (zs:=[QgJ]) g4 (by decide) m hm
     split at e
     ·cases e;exact⟨by constructor<;>simp<;>(first|exact hu|exact List.length_pos_iff.2 g5|skip),g6,by simp⟩
     ·cases hc:blockL l F aa m.2 with
      |error g=>rw[Qae hc]at e;cases e
      |ok cs=>
       rw[Qad hc]at e;have g9:=Ql6 hg hs g7 cs hc;cases e;exact⟨by constructor<;>simp<;>(first|exact hu|exact List.length_pos_iff.2 g5|skip),g6,g9.2⟩
theorem Qwa{l:L8}{req:List (L8)}{F:Nat}:∀(n:Nat) (hn:n<=7) (s:PS),Gp l s->∀ y,cmdL l req F n s=.ok y->Gp l y.2:=fun n hn s h y e=>(QtO n [] (by simp;omega) s h y e).1
theorem Qtt{l:L8}{req:List (L8)}{F:Nat}(hF:l.length<F):∀(n:Nat) (hn:n<=7) (s:PS),Gp l s->Has (QnQ (WfT req) (WfC req) n) (cmdL l req F n s)
 |0,hn,s,h=>fun y e=>by rw[cmdL]at e;split at e<;>cases e
 |n+1,hn7,s,h=>fun y e=>by
  rw[cmdL]at e;by_cases h0:wL cNs s.1.spelt=0
  ·rw[if_pos h0]at e;cases e
  ·rw[if_neg h0]at e;cases hu:Qcu req s.1.spelt
   ·rw[hu,if_neg (by decide)]at e;cases e
   ·rw[hu,if_pos rfl]at e
    cases hn:nL l s.2 with
    |error g=>cases(Qa3 hn).symm.trans e
    |ok z=>
     replace e:=(Qa2 hn).symm.trans e;obtain⟨g1,g2⟩:=Qdq h (QdH (zs:=cNs) h (by decide) h0) hn;exact Qol n (fun s g y e=>(QkO n s g y e).1) (fun s g=>Qqf hF n s g) (Qwa n (by omega)) (fun s g=>Qtt hF n (by omega) s g) _ _ (by have:=QbC cNs s.1.spelt;have:cNs.length=8:=rfl;omega) (by rw[QgX _ _ h0];exact hu) g1 y e
def WfR (req:List (L8)):Prop:=req.Nodup∧∀ z∈req,0 < wL [QaG,QaN,Qa5,Qbm] z
theorem Qmq:∀(zs:List (L8)) (x:L8),x∈zs->0<wL zs x
 | [],x,h=>by cases h
 |s::r,x,h=>by
  unfold wL;split
  ·omega
  ·rename_i e;rcases List.mem_cons.1 h with h|h
   ·exact absurd h.symm e
   ·have:=Qmq r x h;rw[if_neg (by omega)];omega
theorem QjU:∀(xs req:List (L8)),WfR req->(∀ z∈xs,0<wL [QaG,QaN,Qa5,Qbm] z)->WfR (xs.foldl Qb6 req)
 | [],req,h,hx=>h
 |x::r,req,h,hx=>by
  rw[List.foldl_cons];refine QjU r _ ?_ (fun z hz=>hx z (by simp[hz]));unfold Qb6;split
  ·exact h
  ·rename_i h0;refine⟨?_,fun z hz=>?_⟩
   ·rw[List.nodup_append];refine⟨h.1,by simp,fun a ha b hb=>?_⟩;rw[List.mem_singleton.1 hb];intro e;subst e;exact h0 (Qmq _ _ ha)
   ·rcases List.mem_append.1 hz with hz|hz
    ·exact h.2 z hz
    ·rw[List.mem_singleton.1 hz];exact hx x (by simp)
theorem QjM{l:L8}{F:Nat}:∀(f:Nat) (req:List (L8)) (s:PS),WfR req->Has WfR (reqMore l F f req s)
 |0,req,s,h=>fun y e=>by cases e;exact h
 |f+1,req,s,h=>fun y e=>by
  rw[reqMore]at e
  cases hp:mayL l [Qdg] s with
  |error g=>rw[Qae hp]at e;cases e
  |ok z=>
   rw[Qad hp]at e
   split at e
   ·cases e;exact h
   ·cases hq:sLs l (fun x=>if 0<wL [QaG,QaN,Qa5,Qbm] x then 0 else 6) F z.2 with
    |error g=>rw[Qae hq]at e;cases e
    |ok x=>
     rw[Qad hq]at e;have h1:=Qd7 x hq
     cases hr:paL l [[59]] x.2 with
     |error g=>rw[Qae hr]at e;cases e
     |ok v=>
      rw[Qad hr]at e;refine QjM f _ v.2 (QjU x.1 req h (fun z hz=>?_)) y e;have:=h1.2 z hz
      split at this
      ·assumption
      ·cases this
theorem Qhs{α:Type}{l:L8}{ab:PS->Except Flt (α×PS)}{P:α->Prop}(hg:∀ s,Gp l s->∀ y,ab s=.ok y->Gp l y.2)(hs:∀ s,Gp l s->Has P (ab s)):∀(f:Nat) (aa:List α) (s:PS),Gp l s->(∀ a∈aa,P a)->∀ y,cMr ab f aa s=.ok y->∀ a∈y,P a
 |0,aa,s,h,hc=>fun y e=>by cases e;exact hc
 |f+1,aa,s,h,hc=>fun y e=>by
  rw[cMr]at e
  split at e
  ·cases e;exact hc
  ·cases hq:ab s with
   |error g=>rw[hq]at e;cases e
   |ok x=>
    rw[hq]at e;refine Qhs hg hs f _ x.2 (hg _ h x hq) (fun u hu=>?_) y e;rcases List.mem_append.1 hu with hu|hu
    ·exact hc u hu
    ·rw[List.mem_singleton.1 hu];exact hs _ h x hq
theorem QpR{l:L8}{y:List (L8)×List (QdT 7)}(h:prL l=.ok y):WfR y.1/\∀ c∈y.2,QnQ (WfT y.1) (WfC y.1) 7 c:=by
 unfold prL at h;dsimp only at h;have hF:l.length<2*l.length+10:=by omega
 generalize 2*l.length+10=F at h hF
 cases h1:nL l 0 with
 |error f=>rw[h1]at h;cases h
 |ok s=>
  rw[h1]at h;dsimp only at h
  have hg:Gp l s:=by
   unfold nL at h1
   cases hs:Qcg (l.length+1) (l.drop 0) 0 with
   |error f=>rw[hs]at h1;cases h1
   |ok n=>
    rw[hs]at h1;exact(Qlz l n (QdE l _ 0 n (Nat.zero_le _) hs).2 s h1).1
  cases h3:reqMore l F F [] s with
  |error f=>rw[h3]at h;cases h
  |ok z=>
   rw[h3]at h;dsimp only at h;have g1:=(Qg7 F [] s hg z h3).1;have g2:=QjM F [] s ⟨by simp,by simp⟩ z h3
   cases h4:cMr (cmdL l z.1 F 7) F [] z.2 with
   |error f=>rw[h4]at h;cases h
   |ok cs=>
    rw[h4]at h;have g3:=Qhs (P:=QnQ (WfT z.1) (WfC z.1) 7) (Qwa 7 (by omega)) (fun s g=>Qtt hF 7 (by omega) s g) F [] z.2 g1 (by simp) cs h4;cases h;exact⟨g2,g3⟩
section
def pcL:L8→List (Nat×UInt8)
 | []=>[]
 | [c]=>[if c=42 then (2,0) else if c=63 then (1,0) else (0,c)]
 | c :: d :: r=>if c=42 then (2,0) :: pcL (d :: r) else if c=63 then (1,0) :: pcL (d :: r) else if c=92 then (0,d) :: pcL r else (0,c) :: pcL (d :: r)
def Qfr (p:Nat×UInt8) (c:UInt8):Bool:=p.1 == 1 || (p.1 == 0 && p.2 == c)
def QaO:List (Nat×UInt8)→L8→Bool
 | [],v=>v.isEmpty
 | p :: k,[]=>p.1 == 2 && QaO k []
 | p :: k,c :: v=>if p.1=2 then QaO k (c :: v) || QaO (p :: k) v else Qfr p c && QaO k v
termination_by k v=>k.length+v.length
def QcK:List (Nat×UInt8)→L8→Bool
 | [],[]=>true
 | p :: k,c :: v=>p.1 != 2 && (Qfr p c && QcK k v)
 | _,_=>false
theorem QeI:∀(k:List (Nat×UInt8)) (v:L8),QcK k v=true->k.length=v.length
 | [],[],_=>rfl
 | [],_::_,h=>by simp[QcK]at h
 |_::_,[],h=>by simp[QcK]at h
 |p::k,c::v,h=>by
  simp only[QcK,Bool.and_eq_true]at h;simp[QeI k v h.2.2]
theorem Qke:∀(k:List (Nat×UInt8)) (v:L8) (p:Nat×UInt8) (c:UInt8),QcK k v=true->p.1≠2->Qfr p c=true->QcK (k++[p]) (v++[c])=true
 | [],[],p,c,_,h1,h2=>by simp[QcK,h1,h2]
 | [],_::_,_,_,h,_,_=>by simp[QcK]at h
 |_::_,[],_,_,h,_,_=>by simp[QcK]at h
 |p::k,c::v,q,d,h,h1,h2=>by
  simp only[QcK,Bool.and_eq_true,List.cons_append]at h ⊢;exact⟨h.1,h.2.1,Qke k v q d h.2.2 h1 h2⟩
theorem QgZ:∀(k:List (Nat×UInt8)) (v:L8) (k':List (Nat×UInt8)) (v':L8),QcK k v=true->QaO (k++k') (v++v')=QaO k' v'
 | [],[],_,_,_=>rfl
 | [],_::_,_,_,h=>by simp[QcK]at h
 |_::_,[],_,_,h=>by simp[QcK]at h
 |p::k,c::v,k',v',h=>by
  simp only[QcK,Bool.and_eq_true,bne_iff_ne,ne_eq]at h;rw[List.cons_append,List.cons_append,QaO,if_neg h.1,h.2.1,Bool.true_and];exact QgZ k v k' v' h.2.2
theorem Qin(x:UInt8)(k:List (Nat×UInt8))(c:UInt8)(v:L8)(h:QaO ((2,x)::k) v=true):QaO ((2,x)::k) (c::v)=true:=by
 rw[QaO,if_pos rfl,h,Bool.or_true]
theorem Qjv(x:UInt8)(k:List (Nat×UInt8))(u v:L8)(h:QaO ((2,x)::k) v=true):QaO ((2,x)::k) (u++v)=true:=by
 induction u with
 |nil=>exact h
 |cons c u ih=>exact Qin x k c _ ih
theorem QeJ(x:UInt8)(k:List (Nat×UInt8))(v:L8)(h:QaO k v=true):QaO ((2,x)::k) v=true:=by
 cases v with
 |nil=>rw[QaO];simp[h]
 |cons c v=>rw[QaO,if_pos rfl,h,Bool.true_or]
theorem QgV:∀(k:List (Nat×UInt8)) (k':List (Nat×UInt8)) (v:L8),(∀ p,p∈k->p.1≠2)->QaO (k++k') v=true->∃ u v',v=u++v'/\QcK k u=true/\QaO k' v'=true
 | [],k',v,_,h=>⟨[],v,rfl,rfl,h⟩
 |p::k,k',[],hk,h=>by
  rw[List.cons_append,QaO]at h;simp[hk p (List.mem_cons_self ..)]at h
 |p::k,k',c::v,hk,h=>by
  rw[List.cons_append,QaO,if_neg (hk p (List.mem_cons_self ..)),Bool.and_eq_true]at h;obtain⟨u,v',e,a,b⟩:=QgV k k' v (fun q hq=>hk q (List.mem_cons_of_mem _ hq)) h.2;exact⟨c::u,v',by rw[e];rfl,by simp[QcK,hk p (List.mem_cons_self ..),h.1,a],b⟩
theorem Qe3:∀(k:List (Nat×UInt8)) (v:L8),QcK k v=true->∀ p,p∈k->p.1≠2
 | [],_,_,p,hp=>by cases hp
 |_::_,[],h,_,_=>by simp[QcK]at h
 |q::k,c::v,h,p,hp=>by
  simp only[QcK,Bool.and_eq_true,bne_iff_ne,ne_eq]at h;rcases List.mem_cons.1 hp with rfl|hp
  ·exact h.1
  ·exact Qe3 k v h.2.2 p hp
theorem QjY(x:UInt8)(k:List (Nat×UInt8))(v:L8)(h:QaO ((2,x)::k) v=true):∃ u v',v=u++v'/\QaO k v'=true:=by
 induction v with
 |nil=>rw[QaO]at h;simp at h;exact⟨[],[],rfl,h⟩
 |cons c v ih=>
  rw[QaO,if_pos rfl,Bool.or_eq_true]at h;rcases h with h|h
  ·exact⟨[],c::v,rfl,h⟩
  ·obtain⟨u,v',e,a⟩:=ih h;exact⟨c::u,v',by rw[e];rfl,a⟩
theorem QqY(x y:UInt8)(k:List (Nat×UInt8))(u:L8)(k':List (Nat×UInt8))(v:L8)(h:QcK k u=true):QaO ((2,x)::(k++(2,y)::k')) (u++v)=QaO ((2,y)::k') v:=by
 rw[Bool.eq_iff_iff];constructor
 ·intro hm;obtain⟨a,b,e,hb⟩:=QjY x _ _ hm;obtain⟨c,d,e2,hc,hd⟩:=QgV k _ b (Qe3 k u h) hb;have hl:c.length=u.length:=by rw[<-QeI _ _ hc,QeI _ _ h]
  have:v=((a++c).drop u.length)++d:=by
   have:=congrArg (List.drop u.length) e;rw[List.drop_left,e2,<-List.append_assoc,List.drop_append_of_le_length (by rw[List.length_append];omega)]at this;exact this
  rw[this];exact Qjv y k' _ _ hd
 ·intro hm;exact QeJ x _ _ (by rw[QgZ k u _ _ h];exact hm)
theorem Qhu(x:UInt8)(k:List (Nat×UInt8))(c:UInt8)(v:L8)(h:QaO k (c::v)=false):QaO ((2,x)::k) (c::v)=QaO ((2,x)::k) v:=by
 rw[QaO,if_pos rfl,h,Bool.false_or]
theorem QoS(x:UInt8)(k:List (Nat×UInt8))(u:L8)(p:Nat×UInt8)(k':List (Nat×UInt8))(h:QcK k u=true)(hp:p.1≠2):QaO ((2,x)::(k++p::k')) u=false:=by
 rw[Bool.eq_false_iff];intro hm;obtain⟨a,b,e,hb⟩:=QjY x _ _ hm;have hb':QaO ((k++[p])++k') b=true:=by rw[List.append_assoc];exact hb
 obtain ⟨c,d,e2,hc,_⟩:=QgV (k++[p]) k' b (fun q hq=>by
  rcases List.mem_append.1 hq with hq|hq
  ·exact Qe3 k u h q hq
  ·rw [List.mem_singleton.1 hq];exact hp) hb'
 have h1:=QeI _ _ hc;have h2:=QeI _ _ h;have h3:=congrArg List.length e;rw[e2]at h3;simp only[List.length_append,List.length_cons,List.length_nil]at h1 h3;omega
def QhN (k:List (Nat×UInt8)):L8→Nat
 | []=>0
 | c :: v=>if QaO k (c :: v)=true then 0 else QhN k v+1
def plL:List (Nat×UInt8)→L8→Nat→List Nat
 | [],_,o=>[o]
 | p :: k,v,o=>o :: (if p.1=2 then plL k (v.drop (QhN k v)) (o+QhN k v) else plL k (v.drop 1) (o+1))
theorem QjL(k:List (Nat×UInt8))(v:L8)(h:QaO k v=true):QhN k v=0:=by
 cases v with
 |nil=>rfl
 |cons c v=>rw[QhN,if_pos h]
theorem QiK:∀(k:List (Nat×UInt8)) (v:L8) (k':List (Nat×UInt8)) (v':L8) (o:Nat),QcK k v=true->plL (k++k') (v++v') o=List.range' o k.length++plL k' v' (o+k.length)
 | [],[],_,_,_,_=>rfl
 | [],_::_,_,_,_,h=>by simp[QcK]at h
 |_::_,[],_,_,_,h=>by simp[QcK]at h
 |p::k,c::v,k',v',o,h=>by
  simp only[QcK,Bool.and_eq_true,bne_iff_ne,ne_eq]at h;rw[List.cons_append,List.cons_append,plL,if_neg h.1,List.length_cons,List.range'_succ,List.cons_append];rw[List.drop_succ_cons,List.drop_zero,QiK k v k' v' (o+1) h.2.2,Nat.add_assoc,Nat.add_comm 1]
structure Qez (v:L8) (key:List (Nat×UInt8)) (s e a k:Nat) (pl:List Nat):Prop where
 sk:s≤k
 kl:k≤key.length
 ea:e+(k - s)=a
 al:a≤v.length
 just:QcK ((key.drop s).take (k - s)) ((v.drop e).take (k - s))=true
 pll:pl.length=key.length+1
 last:pl[key.length]?=some v.length
 run:∀ i,i < k - s→pl[s+i]?=some (e+i)
 same:QaO key v=if s=0 then QaO (key.drop s) (v.drop e) else QaO ((2,0) :: key.drop s) (v.drop e)
 places:QaO key v=true→plL key v 0=pl.take s++(if s=0 then plL (key.drop s) (v.drop e) e else plL (key.drop s) ((v.drop e).drop (QhN (key.drop s) (v.drop e))) (e+QhN (key.drop s) (v.drop e)))
theorem Qvs(v:L8)(aa:List (Nat×UInt8))(pl:List Nat)(h1:pl.length=aa.length+1)(h2:pl[aa.length]?=some v.length):Qez v aa 0 0 0 0 pl:=
 ⟨Nat.le_refl _,Nat.zero_le _,rfl,Nat.zero_le _,rfl,h1,h2,fun i h=>absurd h (Nat.not_lt_zero _),by simp,fun _=>by simp⟩
variable {v:L8} {key:List (Nat×UInt8)} {s e a k:Nat} {pl:List Nat}
theorem Qez.keyEq(h:Qez v key s e a k pl):key.drop s=(key.drop s).take (k - s)++key.drop k:=by
 have:=(List.take_append_drop (k - s) (key.drop s)).symm;rwa [List.drop_drop,Nat.add_sub_cancel' h.sk]at this
theorem Qez.valEq(h:Qez v key s e a k pl):v.drop e=(v.drop e).take (k - s)++v.drop a:=by
 have:=(List.take_append_drop (k - s) (v.drop e)).symm;rwa [List.drop_drop,h.ea]at this
theorem Qez.keyLen(h:Qez v key s e a k pl):((key.drop s).take (k - s)).length=k - s:=by
 rw[List.length_take,List.length_drop];have:=h.sk;have:=h.kl;omega
theorem Qez.rest(h:Qez v key s e a k pl):QaO (key.drop s) (v.drop e)=QaO (key.drop k) (v.drop a):=by
 conv=>lhs;rw[h.keyEq,h.valEq]
 exact QgZ _ _ _ _ h.just
theorem Qez.restPlaces(h:Qez v key s e a k pl):plL (key.drop s) (v.drop e) e=List.range' e (k - s)++plL (key.drop k) (v.drop a) a:=by
 conv=>lhs;rw[h.keyEq,h.valEq]
 rw[QiK _ _ _ _ _ h.just,h.keyLen,h.ea]
theorem Qez.takeEq(h:Qez v key s e a k pl):pl.take s++List.range' e (k - s)=pl.take k:=by
 apply List.ext_getElem?;intro i;have h1:=h.sk;have h2:=h.kl;have h3:=h.pll;have h4:(pl.take s).length=s:=by rw[List.length_take];omega
 rw[List.getElem?_append,h4];split
 ·next hi=>rw[List.getElem?_take,List.getElem?_take,if_pos hi,if_pos (by omega)]
 ·next hi=>
  rw[List.getElem?_take];split
  ·next hk=>
   rw[List.getElem?_range' (by omega)];have:=h.run (i - s) (by omega);rw[Nat.add_sub_cancel' (by omega)]at this;rw[this,Nat.one_mul]
  ·next hk=>rw[List.getElem?_eq_none];rw[List.length_range'];omega
theorem Qez.star(h:Qez v key s e a k pl)(hk:k<key.length)(hs:key[k]=(2,0)):Qez v key (k+1) a a (k+1) (pl.set k a):=by
 have hd:key.drop k=(2,0)::key.drop (k+1):=by rw[List.drop_eq_getElem_cons hk,hs]
 have aa:QaO key v=QaO ((2,0)::key.drop (k+1)) (v.drop a):=by
  rw[h.same];split
  ·rw[h.rest,hd]
  ·conv=>lhs;rw[h.keyEq,h.valEq,hd]
   exact QqY 0 0 _ _ _ _ h.just
 refine⟨Nat.le_refl _,hk,by simp,h.al,by simp[QcK],by simp[h.pll],?_,fun i hi=>by omega,?_,fun hm=>?_⟩
 ·rw[List.getElem?_set_ne (by omega)];exact h.last
 ·rw[if_neg (Nat.succ_ne_zero _)];exact aa
 ·rw[if_neg (Nat.succ_ne_zero _),h.places hm];have hz:QaO (key.drop s) (v.drop e)=true:=by rw[h.rest,hd,<-aa,hm]
  rw[QjL _ _ hz,List.drop_zero,Nat.add_zero,ite_self,h.restPlaces,hd,plL,if_pos rfl,<-List.append_assoc,h.takeEq]
  have:(pl.set k a).take (k+1)=pl.take k++[a]:=by
   have hl:k<(pl.set k a).length:=by rw[List.length_set,h.pll];omega
   rw[List.take_succ_eq_append_getElem hl,List.getElem_set_self,List.take_set_of_le (Nat.le_refl _)]
  rw[this,List.append_assoc];rfl
theorem Qez.take(h:Qez v key s e a k pl)(hk:k<key.length)(ha:a<v.length)(hn:key[k].1≠2)(ht:Qfr key[k] v[a]=true):Qez v key s e (a+1) (k+1) (pl.set k a):=by
 have h1:=h.sk;have h2:=h.ea;have e1:k+1 - s=(k - s)+1:=by omega
 refine⟨by omega,hk,by omega,ha,?_,by simp[h.pll],?_,fun i hi=>?_,h.same,fun hm=>?_⟩
 ·rw[e1,List.take_succ_eq_append_getElem (by rw[List.length_drop];omega),List.take_succ_eq_append_getElem (by rw[List.length_drop];omega)];apply Qke _ _ _ _ h.just
  ·simp only[List.getElem_drop,Nat.add_sub_cancel' h1];exact hn
  ·simp only[List.getElem_drop,Nat.add_sub_cancel' h1,h2];exact ht
 ·rw[List.getElem?_set_ne (by omega)];exact h.last
 ·by_cases hi':i<k - s
  ·rw[List.getElem?_set_ne (by omega)];exact h.run i hi'
  ·have:s+i=k:=by omega
   rw[this,List.getElem?_set_self (by rw[h.pll];omega)];congr 1;omega
 ·rw[List.take_set_of_le h1];exact h.places hm
theorem Qez.no(h:Qez v key s e a k pl)(hc:(k=key.length/\a<v.length)\/∃(hk:k<key.length),key[k].1≠2/\∀(ha:a<v.length),Qfr key[k] v[a]=false):QaO (key.drop s) (v.drop e)=false:=by
 rw[h.rest];rcases hc with⟨e1,ha⟩ | ⟨hk,hn,ht⟩
 ·rw[e1,List.drop_length,List.drop_eq_getElem_cons ha,QaO];rfl
 ·rw[List.drop_eq_getElem_cons hk];by_cases ha:a<v.length
  ·rw[List.drop_eq_getElem_cons ha,QaO,if_neg hn,ht ha,Bool.false_and]
  ·rw[List.drop_eq_nil_of_le (show v.length<=a by omega),QaO];simp[hn]
theorem Qez.longer(h:Qez v key s e a k pl)(hs:s≠0)(ha:a<v.length)(hc:k=key.length\/∃(hk:k<key.length),key[k].1≠2/\Qfr key[k] v[a]=false):Qez v key s (e+1) (e+1) s pl:=by
 have hno:QaO (key.drop s) (v.drop e)=false:=h.no (by
  rcases hc with e1 | ⟨hk,hn,ht⟩
  ·exact .inl ⟨e1,ha⟩
  ·exact .inr ⟨hk,hn,fun _=>ht⟩)
 have h2:=h.ea;have hd:v.drop e=v[e]::v.drop (e+1):=List.drop_eq_getElem_cons (by omega);rw[hd]at hno;refine⟨Nat.le_refl _,Nat.le_trans h.sk h.kl,by simp,by omega,by simp[QcK],h.pll,h.last,fun i hi=>by omega,?_,fun hm=>?_⟩
 ·rw[h.same,if_neg hs,if_neg hs,hd,Qhu 0 _ _ _ hno]
 ·rw[h.places hm,if_neg hs,if_neg hs,hd,QhN,hno];simp only[Bool.false_eq_true,if_false,List.drop_succ_cons];rw[Nat.add_assoc,Nat.add_comm 1]
theorem Qez.yes(h:Qez v key s e a k pl)(ha:¬ a<v.length)(hk:¬ k<key.length):QaO key v=true/\pl=plL key v 0:=by
 have h1:a=v.length:=Nat.le_antisymm h.al (Nat.not_lt.1 ha);have h2:k=key.length:=Nat.le_antisymm h.kl (Nat.not_lt.1 hk)
 have hz:QaO (key.drop s) (v.drop e)=true:=by
  rw[h.rest,h1,h2,List.drop_length,List.drop_length,QaO];rfl
 have hm:QaO key v=true:=by
  rw[h.same];split
  ·exact hz
  ·exact QeJ 0 _ _ hz
 refine⟨hm,?_⟩;rw[h.places hm,QjL _ _ hz,List.drop_zero,Nat.add_zero,ite_self,h.restPlaces,<-List.append_assoc,h.takeEq,h1,h2,List.drop_length,plL];have hl:key.length<pl.length:=by rw[h.pll];omega
 have e1:pl[key.length]=v.length:=by
  have:=h.last;rw[List.getElem?_eq_getElem hl]at this;exact Option.some.inj this
 have:=List.take_succ_eq_append_getElem hl;rw[e1,List.take_of_length_le (by rw[h.pll];omega)]at this;exact this
theorem Qez.never(h:Qez v key s e a k pl)(hg:a<v.length\/k<key.length)(h1:∀(hk:k<key.length),key[k].1≠2)(h2:∀(hk:k<key.length)(ha:a<v.length),Qfr key[k] v[a]=false)(h3:¬(s≠0/\a<v.length)):QaO key v=false:=by
 rw[h.same];split
 ·apply h.no;by_cases hk:k<key.length
  ·exact .inr ⟨hk,h1 hk,h2 hk⟩
  ·have:=h.kl;exact .inl ⟨by omega,by omega⟩
 ·next hs=>
  have ha:¬ a<v.length:=fun x=>h3 ⟨hs,x⟩
  have hk:k<key.length:=by omega
  have hv:=h.valEq;rw[List.drop_eq_nil_of_le (show v.length<=a by omega),List.append_nil]at hv;rw[h.keyEq,List.drop_eq_getElem_cons hk,hv];exact QoS 0 _ _ _ _ h.just (h1 hk)
def QhI (v:L8) (key:List (Nat×UInt8)) (s e a:Nat):Nat:=(key.length+v.length - (s+e))*(v.length+1)+(v.length - (a - e))
theorem Qez.muTake(h:Qez v key s e a k pl)(ha:a<v.length):QhI v key s e (a+1)<QhI v key s e a:=by
 have:=h.ea;unfold QhI;omega
theorem Qs8{x y n p q:Nat}(h:x<y)(hp:p<=n):x*(n+1)+p<y*(n+1)+q:=by
 have:(x+1)*(n+1)<=y*(n+1):=Nat.mul_le_mul_right _ h;rw[Nat.add_mul]at this;omega
theorem Qez.muStar(h:Qez v key s e a k pl)(hk:k<key.length):QhI v key (k+1) a a<QhI v key s e a:=by
 have:=h.ea;have:=h.sk;have:=h.al;exact Qs8 (by omega) (Nat.sub_le _ _)
theorem Qez.muLonger(h:Qez v key s e a k pl)(ha:a<v.length):QhI v key s (e+1) (e+1)<QhI v key s e a:=by
 have:=h.ea;have:=h.sk;have:=h.kl;exact Qs8 (by omega) (Nat.sub_le _ _)
end
theorem Qtr(x:UInt8)(k:List (Nat×UInt8))(v:L8)(h:QaO ((2,x)::k) v=true):QhN k v<=v.length/\QaO k (v.drop (QhN k v))=true:=by
 induction v with
 |nil=>rw[QaO]at h;simp at h;exact⟨Nat.le_refl _,h⟩
 |cons c v ih=>
  rw[QhN];split
  ·next hm=>exact⟨Nat.zero_le _,hm⟩
  ·next hm=>
   rw[Qhu x k c v (by simpa using hm)]at h;exact⟨Nat.succ_le_succ (ih h).1,by rw[List.drop_succ_cons];exact(ih h).2⟩
theorem Qff:∀(k:List (Nat×UInt8)) (v:L8) (o:Nat),(plL k v o).length=k.length+1
 | [],_,_=>rfl
 |p::k,v,o=>by
  rw[plL,List.length_cons,List.length_cons];split
  ·rw[Qff k]
  ·rw[Qff k]
theorem Qow(k:List (Nat×UInt8))(v:L8)(o:Nat):(plL k v o)[0]?=some o:=by
 cases k<;>rfl
theorem Qic:∀(k:List (Nat×UInt8)) (v:L8) (o:Nat),QaO k v=true->∀ i,i<k.length->∃ x y,(plL k v o)[i]?=some x/\(plL k v o)[i+1]?=some y/\o<=x/\x<=y/\y<=o+v.length
 | [],_,_,_,i,hi=>absurd hi (Nat.not_lt_zero _)
 |p::k,v,o,h,i,hi=>by
  have aa:∃ n,plL (p::k) v o=o::plL k (v.drop n) (o+n)/\n<=v.length/\QaO k (v.drop n)=true:=by
   by_cases hp:p.1=2
   ·obtain⟨p1,x⟩:=p;subst hp;obtain⟨a,b⟩:=Qtr x k v h;exact⟨QhN k v,by rw[plL,if_pos rfl],a,b⟩
   ·cases v with
    |nil=>rw[QaO]at h;simp[hp]at h
    |cons c v=>
     rw[QaO,if_neg hp,Bool.and_eq_true]at h;exact⟨1,by rw[plL,if_neg hp],Nat.succ_le_succ (Nat.zero_le _),h.2⟩
  obtain⟨n,e,hn,hm⟩:=aa;rw[e];have hl:(v.drop n).length=v.length - n:=List.length_drop ..
  cases i with
  |zero=>exact⟨o,o+n,rfl,by rw[List.getElem?_cons_succ];exact Qow ..,Nat.le_refl _,by omega,by omega⟩
  |succ i=>
   obtain⟨x,y,a,b,c,d,f⟩:=Qic k (v.drop n) (o+n) hm i (Nat.lt_of_succ_lt_succ hi);exact⟨x,y,by rw[List.getElem?_cons_succ];exact a,by rw[List.getElem?_cons_succ];exact b,by omega,d,by omega⟩
def toldTo (v:L8) (key:List (Nat×UInt8)) (pl:List Nat):Nat→List (L8)
 | 0=>[v]
 | n+1=>toldTo v key pl n++(if (key.getD n (0,0)).1=0 then [] else [(v.drop (pl.getD n 0)).take (pl.getD (n+1) 0 - pl.getD n 0)])
theorem Qh0(v:L8)(aa:List (Nat×UInt8))(pl:List Nat)(n:Nat):∃ r,toldTo v aa pl n=v::r:=by
 induction n with
 |zero=>exact⟨[],rfl⟩
 |succ n ih=>
  obtain⟨r,e⟩:=ih;exact⟨_,by rw[toldTo,e,List.cons_append]⟩
structure Msg where
 fr:L8
 to:L8
 size:Int
 hdrs:List (L8×L8)
structure SS where
 vs:Bool
 vals:L8→Option (L8)
 told:List (L8)
 met:List (Int×L8)
 disc:Bool
abbrev FZ:=Int×Int
def Qu3 (s:SS) (t:List (L8)):SS:=⟨s.vs,s.vals,t,s.met,s.disc⟩
def Qxt (s:SS) (l:List (Int×L8)):SS:=⟨s.vs,s.vals,s.told,l,s.disc⟩
def QvF (s:SS):SS:=⟨s.vs,s.vals,s.told,s.met,true⟩
def ss0 (v:Bool):SS:=⟨v,fun _=>none,[],[],false⟩
def nmLen (l:L8):Nat:=
 match l with
 | []=>0
 | c :: r=>if QaL c.toNat then 1 else Qa0 (c :: r)
def QjO (s:SS) (name:L8):L8:=
 match name with
 | []=>[]
 | c :: r=>if QaL c.toNat then s.told.getD (c.toNat - 48) [] else (s.vals (zL (c :: r))).getD []
def QeW (l:L8):Nat:=
 if l.take 2=[36,123]∧((l.drop 2).drop (nmLen (l.drop 2))).take 1=[125] then nmLen (l.drop 2) else 0
def standL (s:SS) (l:L8):L8×Nat:=
 if QeW l=0 then (l.take 1,1) else (QjO s ((l.drop 2).take (QeW l)),3+QeW l)
def Qqm (s:SS):Nat→L8→L8→L8
 | 0,_,acc=>acc
 | n+1,l,acc=>if l≠[]∧acc.length < 1024 then Qqm s n (l.drop (standL s l).2) (acc++(standL s l).1.take (1024 - acc.length)) else acc
def expL (s:SS) (l:L8):L8:=if s.vs then Qqm s (l.length+1) l [] else l
def lookL (oct:Bool) (x:L8):L8:=if oct then x else zL x
def Qyd (k:L8):L8→Bool
 | []=>k.isPrefixOf []
 | c :: v=>k.isPrefixOf (c :: v) || Qyd k v
def Qt7 (tag:Int) (oct:Bool) (v k:L8):Bool:=
 if tag=1 then decide (lookL oct v=lookL oct k)
 else if tag=2 then Qyd (lookL oct k) (lookL oct v)
 else QaO (pcL (lookL oct k)) (lookL oct v)
def wayT (tag:Int) (oct:Bool) (v k:L8):Option (List (L8)):=
 if tag=3 then some (toldTo v (pcL (lookL oct k)) (plL (pcL (lookL oct k)) (lookL oct v) 0) (pcL (lookL oct k)).length) else none
def Qtw (tag:Int) (oct:Bool) (v:L8):List (L8)→Option (L8)
 | []=>none
 | k :: r=>if Qt7 tag oct v k then some k else Qtw tag oct v r
def QpM (tag:Int) (oct:Bool) (keys:List (L8)):List (L8)→Option (L8×L8)
 | []=>none
 | v :: r=>match Qtw tag oct v keys with
  | some k=>some (v,k)
  | none=>QpM tag oct keys r
def askL (s:SS) (tag:Int) (oct:Bool) (vals keys:List (L8)):Bool×SS:=
 match QpM tag oct (keys.map (expL s)) vals with
 | none=>(false,s)
 | some (v,k)=>(true,match wayT tag oct v k with
  | some t=>Qu3 s t
  | none=>s)
def QbX (h:L8×L8) (n:L8):Bool:=decide (zL h.1=zL n)
def fieldsL (M:Msg) (names:List (L8)):List (L8):=names.flatMap fun n=>(M.hdrs.filter (QbX · n)).map (·.2)
def QiQ (M:Msg) (parts:List (L8)):List (L8):=parts.flatMap fun p=>if zL p=[102,114,111,109] then [M.fr] else if zL p=[116,111] then [M.to] else []
def existsL (M:Msg) (names:List (L8)):Bool:=names.all fun n=>M.hdrs.any (QbX · n)
def sizeB (M:Msg) (tag n:Int):Bool:=if tag=2 then decide (M.size < n) else decide (n < M.size)
def Qxr (c:UInt8):Bool:=QbO c || c == 45 || c == 46
def Qbp (x:L8):Bool:=!x.isEmpty && (decide (x.length≤16) && (x.head? != some 46 && x.all Qxr))
def QbN (x:L8):Bool:=decide (3≤x.length) && (decide (x.length≤32) && (decide (x.count 64=1) && (x.all (fun c=>!QbH c.toNat) && (x.head? != some 64 && x.getLast? != some 64))))
def cutArg (kind:Int) (arg:L8):L8:=if kind=4 then arg.take 48 else arg
def addL (met:List (Int×L8)) (kind:Int) (arg:L8):Int×List (Int×L8):=
 if kind=2∧Qbp arg=false then (8,met)
 else if kind=3∧QbN arg=false then (9,met)
 else if (kind,cutArg kind arg)∈met then (0,met)
 else if met≠[]∧(kind=4∨(met.headD (0,[])).1=4) then (10,met)
 else if met.length=6 then (11,met)
 else (0,met++[(kind,cutArg kind arg)])
def Qwn (s:SS):List (Int×L8):=if s.met=[]∧s.disc=false then [(1,[])] else s.met
def Qwk (c:UInt8):UInt8:=if Qia c.toNat then c - 97+65 else c
def capL (l:L8):L8:=l.map Qwk
def QoH (tag:Int) (x:L8):L8:=
 if tag=1 then zL x else if tag=2 then capL x else if tag=3 then Lib.decDigits x.length else x
def Qyg (s:SS) (name:L8) (tag:Int) (said:L8):SS:=
 ⟨s.vs,fun x=>if x=name then some ((QoH tag (expL s said)).take 48) else s.vals x,s.told,s.met,s.disc⟩
structure Ins where
 op:Int
 n:Int
 tag:Int
 oct:Bool
 a:List (L8)
 b:List (L8)
 at_:Int
structure MS where
 st:SS
 stack:List Bool
 now:Nat
 next:Nat
def Qjz (v:Bool) (m:MS):Except FZ MS:=if m.stack.length < 8 then .ok ⟨m.st,m.stack++[v],m.now,m.next⟩ else .error (12,m.now)
def QoD (m:MS):MS:=⟨m.st,m.stack.dropLast,m.now,m.next⟩
def goL (m:MS) (n:Nat):MS:=⟨m.st,m.stack,m.now,n⟩
def stL (m:MS) (s:SS):MS:=⟨s,m.stack,m.now,m.next⟩
def atL (m:MS):MS:=⟨m.st,m.stack,m.next,m.next+1⟩
def topL (m:MS):Bool:=m.stack.getLastD false
def Qjo (count:Nat) (m:MS) (n:Int):Bool:=decide (0≤n) && decide (n≤(count:Int) - m.next)
def QvY (i:Ins) (m:MS) (arg:L8):Except FZ MS:=
 if (addL m.st.met i.tag (expL m.st arg)).1=0 then .ok (stL m (Qxt m.st (addL m.st.met i.tag (expL m.st arg)).2)) else .error ((addL m.st.met i.tag (expL m.st arg)).1,i.at_)
def QpL (r:Bool×SS) (m:MS):Except FZ MS:=Qjz r.1 (stL m r.2)
def Qb1 (m:MS):Except FZ MS:=.error (12,m.now)
def Qgo (i:Ins) (m:MS):Except FZ MS:=if i.n=0∨i.n=1 then Qjz (decide (i.n=1)) m else Qb1 m
def QlC (m:MS):Except FZ MS:=if m.stack=[] then Qb1 m else Qjz (!topL m) (QoD m)
def QgA (count:Nat) (i:Ins) (m:MS):Except FZ MS:=if Qjo count m i.n then .ok (goL m (m.next+i.n.toNat)) else Qb1 m
def doCond (taken:Bool) (count:Nat) (i:Ins) (m:MS):Except FZ MS:=
 if Qjo count m i.n then
  (if m.stack=[] then Qb1 m else .ok (if topL m=taken then goL (QoD m) (m.next+i.n.toNat) else QoD m))
 else Qb1 m
def doAsk (vals:List (L8)) (i:Ins) (m:MS):Except FZ MS:=
 if 1≤i.tag∧i.tag≤3 then QpL (askL m.st i.tag i.oct vals i.b) m else Qb1 m
def Qf1 (M:Msg) (i:Ins) (m:MS):Except FZ MS:=if i.tag=1∨i.tag=2 then Qjz (sizeB M i.tag i.n) m else Qb1 m
def QgK (i:Ins) (m:MS):Except FZ MS:=
 if i.tag=1 then QvY i m [] else if 2≤i.tag∧i.tag≤4∧i.a≠[] then QvY i m (i.a.headD []) else Qb1 m
def QkB (i:Ins) (m:MS):Except FZ MS:=
 if 0≤i.tag∧i.tag≤3∧i.a≠[]∧i.b≠[] then .ok (stL m (Qyg m.st (i.a.headD []) i.tag (i.b.headD []))) else Qb1 m
def Qk9 (M:Msg) (count:Nat) (i:Ins) (m:MS):Except FZ MS:=
 if i.op=1 then Qgo i m
 else if i.op=2 then QlC m
 else if i.op=3 then QgA count i m
 else if i.op=4 then doCond true count i m
 else if i.op=5 then doCond false count i m
 else if i.op=6 then doAsk (fieldsL M (i.a.map (expL m.st))) i m
 else if i.op=7 then doAsk (QiQ M i.a) i m
 else if i.op=8 then doAsk (i.a.map (expL m.st)) i m
 else if i.op=9 then Qjz (existsL M (i.a.map (expL m.st))) m
 else if i.op=10 then Qf1 M i m
 else if i.op=11 then QgK i m
 else if i.op=12 then QkB i m
 else if i.op=13 then .ok (stL m (QvF m.st))
 else if i.op=14 then .ok (goL m count)
 else Qb1 m
def QyE:Ins:=⟨0,0,0,false,[],[],0⟩
def QfL (M:Msg) (code:List Ins):Nat→MS→Nat→Except FZ MS×Nat
 | 0,m,d=>(.ok m,d)
 | f+1,m,d=>
  if m.next < code.length then
   (match Qk9 M code.length (code.getD m.next QyE) (atL m) with
    | .error e=>(.error e,d+1)
    | .ok m'=>QfL M code f m' (d+1))
  else (.ok m,d)
def ms0 (v:Bool):MS:=⟨ss0 v,[],0,0⟩
def execL (v:Bool) (code:List Ins) (M:Msg):List (Int×L8)×Nat×Option FZ:=
 if 400 < code.length then ([(1,[])],0,some (12,400))
 else match QfL M code code.length (ms0 v) 0 with
  | (.error e,d)=>([(1,[])],d,some e)
  | (.ok m,d)=>(Qwn m.st,d,none)
theorem QeP{v:Bool}{m m':MS}(h:Qjz v m=.ok m'):m'.next=m.next:=by
 unfold Qjz at h
 split at h
 ·cases h;rfl
 ·cases h
theorem Ql1{i:Ins}{m m':MS}{x:L8}(h:QvY i m x=.ok m'):m'.next=m.next:=by
 unfold QvY at h
 split at h
 ·cases h;rfl
 ·cases h
theorem QpY{aa:Nat}{m:MS}{n:Int}(h:Qjo aa m n=true):m.next+n.toNat<=aa:=by
 unfold Qjo at h;simp at h;omega
theorem QqL{M:Msg}{aa:Nat}{i:Ins}{m m':MS}(h:Qk9 M aa i m=.ok m')(hn:m.next<=aa):m.next<=m'.next/\m'.next<=aa:=by
 have ab:∀ k:Nat,k=m.next->k=m'.next->m.next<=m'.next/\m'.next<=aa:=fun k h1 h2=>by omega
 unfold Qk9 at h;by_cases h1:i.op=1
 ·rw[if_pos h1]at h;unfold Qgo Qb1 at h
  split at h
  ·exact ab _ rfl (QeP h).symm
  ·cases h
 rw[if_neg h1]at h;by_cases h1:i.op=2
 ·rw[if_pos h1]at h;unfold QlC Qb1 at h
  split at h
  ·cases h
  ·exact ab _ rfl (QeP h).symm
 rw[if_neg h1]at h;by_cases h1:i.op=3
 ·rw[if_pos h1]at h;unfold QgA Qb1 at h
  split at h
  ·next hm=>cases h;exact⟨Nat.le_add_right _ _,QpY hm⟩
  ·cases h
 rw[if_neg h1]at h
 have hc:∀ tk,doCond tk aa i m=.ok m'->m.next<=m'.next/\m'.next<=aa:=fun tk h=>by
  unfold doCond Qb1 at h
  split at h
  ·next hm=>
   split at h
   ·cases h
   ·cases h;split
    ·exact⟨Nat.le_add_right _ _,QpY hm⟩
    ·exact⟨Nat.le_refl _,hn⟩
  ·cases h
 by_cases h1:i.op=4
 ·rw[if_pos h1]at h;exact hc _ h
 rw[if_neg h1]at h;by_cases h1:i.op=5
 ·rw[if_pos h1]at h;exact hc _ h
 rw[if_neg h1]at h
 have ha:∀ vals,doAsk vals i m=.ok m'->m.next<=m'.next/\m'.next<=aa:=fun vals h=>by
  unfold doAsk Qb1 QpL at h
  split at h
  ·exact ab _ rfl (QeP h).symm
  ·cases h
 by_cases h1:i.op=6
 ·rw[if_pos h1]at h;exact ha _ h
 rw[if_neg h1]at h;by_cases h1:i.op=7
 ·rw[if_pos h1]at h;exact ha _ h
 rw[if_neg h1]at h;by_cases h1:i.op=8
 ·rw[if_pos h1]at h;exact ha _ h
 rw[if_neg h1]at h;by_cases h1:i.op=9
 ·rw[if_pos h1]at h;exact ab _ rfl (QeP h).symm
 rw[if_neg h1]at h;by_cases h1:i.op=10
 ·rw[if_pos h1]at h;unfold Qf1 Qb1 at h
  split at h
  ·exact ab _ rfl (QeP h).symm
  ·cases h
 rw[if_neg h1]at h;by_cases h1:i.op=11
 ·rw[if_pos h1]at h;unfold QgK Qb1 at h
  split at h
  ·exact ab _ rfl (Ql1 h).symm
  ·split at h
   ·exact ab _ rfl (Ql1 h).symm
   ·cases h
 rw[if_neg h1]at h;by_cases h1:i.op=12
 ·rw[if_pos h1]at h;unfold QkB Qb1 at h
  split at h
  ·cases h;exact⟨Nat.le_refl _,hn⟩
  ·cases h
 rw[if_neg h1]at h;by_cases h1:i.op=13
 ·rw[if_pos h1]at h;cases h;exact⟨Nat.le_refl _,hn⟩
 rw[if_neg h1]at h;by_cases h1:i.op=14
 ·rw[if_pos h1]at h;cases h;exact⟨hn,Nat.le_refl _⟩
 rw[if_neg h1]at h;cases h
def idB (c:UInt8):Bool:=Qbt c.toNat || QaL c.toNat
def Qeu (s:L8):Bool:=!s.isEmpty && (decide (s.length≤8) && s.all idB)
def Qh5:L8:=[105,110,98,111,120,47]
def Qvf:L8:=[98,111,120,47]
def QxV:L8:=[111,117,116,47]
def QvS:L8:=[116,111,32]
def QdD:L8:=[114,101,106,101,99,116,32]
def outL (id text:L8) (n:Nat) (line:L8):L8×L8:=(QxV++id++[46]++iL n,line++[10]++text)
def fileL (id text:L8) (n:Nat) (a:Int×L8):Except Nat (L8×L8):=
 if a.1=1 then .ok (Qh5++id,text)
 else if a.1=2 then if Qbp a.2 then .ok (Qvf++a.2++[47]++id,text) else .error 8
 else if a.1=3 then .ok (outL id text n (QvS++a.2))
 else if a.1=4 then .ok (outL id text n (QdD++a.2))
 else .error 7
def fTo (id text:L8):Nat→List (Int×L8)→Except Nat (List (L8×L8))
 | _,[]=>.ok []
 | n,a :: r=>
  match fileL id text n a with
  | .error e=>.error e
  | .ok f=>match fTo id text (n+1) r with
   | .error e=>.error e
   | .ok l=>.ok (f :: l)
def filesL (id:L8) (acts:List (Int×L8)) (text:L8):Except Nat (List (L8×L8)):=
 if Qeu id then if 6 < acts.length then .error 11 else fTo id text 0 acts else .error 13
def QvU (fs:List (L8×L8)) (r:Except Nat (List (L8×L8))):Except Nat (List (L8×L8)):=
 match r with
 | .ok l=>.ok (fs++l)
 | .error e=>.error e
theorem Qu0(r:Except Nat (List (L8×L8))):QvU [] r=r:=by cases r<;>rfl
theorem Qot{id text:L8}{n e:Nat}{a:Int×L8}{r:List (Int×L8)}(fs:List (L8×L8))(h:fileL id text n a=.error e):QvU fs (fTo id text n (a::r))=.error e:=by
 rw[fTo,h];rfl
theorem Qrc{id text:L8}{n:Nat}{a:Int×L8}{r:List (Int×L8)}{f:L8×L8}(fs:List (L8×L8))(h:fileL id text n a=.ok f):QvU fs (fTo id text n (a::r))=QvU (fs++[f]) (fTo id text (n+1) r):=by
 rw[fTo,h];dsimp only
 cases fTo id text (n+1) r with
 |error e=>rfl
 |ok l=>simp[QvU]
theorem QfB{id text:L8}:∀(r:List (Int×L8)) (n:Nat) (l:List (L8×L8)),fTo id text n r=.ok l->l.length=r.length
 | [],n,l,h=>by rw[fTo]at h;cases h;rfl
 |a::r,n,l,h=>by
  rw[fTo]at h
  cases hf:fileL id text n a with
  |error e=>rw[hf]at h;cases h
  |ok f=>
   rw[hf]at h;dsimp only at h
   cases hr:fTo id text (n+1) r with
   |error e=>rw[hr]at h;cases h
   |ok l'=>
    rw[hr]at h;cases h;simp[QfB r (n+1) l' hr]
def QjH (x:L8):Prop:=x.length≤100∧∃ c r,x=c :: r∧c≠46
theorem QwE{x:L8}(h:Qbp x=true):x.length<=16:=by
 unfold Qbp at h;simp at h;omega
theorem QxH{x:L8}(h:Qeu x=true):x.length<=8:=by
 unfold Qeu at h;simp at h;omega
theorem QwC{id text:L8}{n:Nat}{a:Int×L8}{f:L8×L8}(hi:id.length<=8)(hn:(iL n).length<=21)(h:fileL id text n a=.ok f):QjH f.1/\f.2.length<=a.2.length+text.length+8:=by
 unfold fileL at h
 split at h
 ·cases h;exact⟨⟨by simp[Qh5];omega,105,_,rfl,by decide⟩,by simp;omega⟩
 ·split at h
  ·split at h
   ·rename_i hb;have:=QwE hb;cases h;exact⟨⟨by simp[Qvf];omega,98,_,rfl,by decide⟩,by simp;omega⟩
   ·cases h
  ·split at h
   ·cases h;exact⟨⟨by simp[outL,QxV];omega,111,_,rfl,by decide⟩,by simp[outL,QvS];omega⟩
   ·split at h
    ·cases h;exact⟨⟨by simp[outL,QxV];omega,111,_,rfl,by decide⟩,by simp[outL,QdD];omega⟩
    ·cases h
theorem Qfw{id text:L8}(hi:id.length<=8)(M:Nat)(hD:∀ n,n<=6->(iL n).length<=21):∀(r:List (Int×L8)) (n:Nat) (l:List (L8×L8)),n+r.length<=6->(∀ a∈r,a.2.length<=M)->fTo id text n r=.ok l->∀ f∈l,QjH f.1/\f.2.length<=M+text.length+8
 | [],n,l,_,_,h=>by rw[fTo]at h;cases h;intro f hf;cases hf
 |a::r,n,l,hn,hM,h=>by
  rw[fTo]at h;simp only[List.length_cons]at hn
  cases hf:fileL id text n a with
  |error e=>rw[hf]at h;cases h
  |ok f=>
   rw[hf]at h;dsimp only at h
   cases hr:fTo id text (n+1) r with
   |error e=>rw[hr]at h;cases h
   |ok l'=>
    rw[hr]at h;cases h;intro g hg;rcases List.mem_cons.1 hg with hg|hg
    ·subst hg;have h1:=QwC hi (hD n (by omega)) hf;exact⟨h1.1,by have:=hM a (by simp);omega⟩
    ·exact Qfw hi M hD r (n+1) l' (by omega) (fun b hb=>hM b (by simp[hb])) hr g hg
def QcO (op:Int):Ins:=⟨op,0,0,false,[],[],0⟩
def QcM (h:Bool):Ins:=⟨1,if h then 1 else 0,0,false,[],[],0⟩
def Qcl (op:Int) (x:Qec):Ins:=⟨op,0,x.tag,x.octet,x.fr,x.keys,0⟩
def Qjh (kind:Int) (pos:Nat) (a:List (L8)):Ins:=⟨11,0,kind,false,a,[],pos⟩
def Qh9 (n:Int) (i:Ins):Ins:=⟨i.op,n,i.tag,i.oct,i.a,i.b,i.at_⟩
def landL (js:List Nat) (cs:List Ins):List Ins:=js.foldl (fun c j=>c.modify j (Qh9 ((c.length:Int) - ((j:Int)+1)))) cs
def blockC {α:Type} (sub:α→List Ins→List Ins) (ts:List α) (cs:List Ins):List Ins:=ts.foldl (fun c t=>sub t c) cs
def Qfn {α:Type} (sub:α→List Ins→List Ins) (jump:Int) (p:List Ins×List Nat) (t:α):List Ins×List Nat:=(sub t p.1++[QcO jump],p.2++[(sub t p.1).length])
def Qel (settled:Bool) (r:List Ins×List Nat):List Ins:=
 landL [r.1.length+1] (landL r.2 (r.1++[QcM (!settled),QcO 3])++[QcM settled])
def Qda {α:Type} (sub:α→List Ins→List Ins) (jump:Int) (settled:Bool) (ts:List α) (cs:List Ins):List Ins:=
 Qel settled (ts.foldl (Qfn sub jump) (cs,[]))
def QaU {α:Type} (sub:α→List Ins→List Ins) (x:Qec) (ts:List α) (cs:List Ins):List Ins:=
 match x.kind with
 | 0=>cs++[QcM true]
 | 1=>cs++[QcM false]
 | 2=>blockC sub ts cs++[QcO 2]
 | 3=>Qda sub 5 false ts cs
 | 4=>Qda sub 4 true ts cs
 | 5=>cs++[Qcl 6 x]
 | 6=>cs++[Qcl 7 x]
 | 7=>cs++[Qcl 8 x]
 | 8=>cs++[⟨9,0,0,false,x.fr,[],0⟩]
 | _=>cs++[⟨10,x.num,x.tag,false,[],[],0⟩]
def Qb2:(n:Nat)→QdG n→List Ins→List Ins
 | 0,_,cs=>cs
 | n+1,x,cs=>QaU (Qb2 n) x.1 x.2 cs
def QoY {α β:Type} (tst:β→List Ins→List Ins) (cmd:α→List Ins→List Ins) (p:List Ins×List Nat) (a:β×List α):List Ins×List Nat:=
 (landL [(tst a.1 p.1).length] (blockC cmd a.2 (tst a.1 p.1++[QcO 5])++[QcO 3]),p.2++[(blockC cmd a.2 (tst a.1 p.1++[QcO 5])).length])
def QdI {α:Type} (cmd:α→List Ins→List Ins) (els:List α) (r:List Ins×List Nat):List Ins:=landL r.2 (blockC cmd els r.1)
def Qd5 {α β:Type} (tst:β→List Ins→List Ins) (cmd:α→List Ins→List Ins) (arms:List (β×List α)) (els:List α) (cs:List Ins):List Ins:=
 QdI cmd els (arms.foldl (QoY tst cmd) (cs,[]))
def Qbd {α β:Type} (tst:β→List Ins→List Ins) (cmd:α→List Ins→List Ins) (x:Qjl) (arms:List (β×List α)) (els:List α) (cs:List Ins):List Ins:=
 match x.kind with
 | 0=>cs++[Qjh 1 x.pos []]
 | 1=>cs++[⟨13,0,0,false,[],[],x.pos⟩]
 | 2=>cs++[⟨14,0,0,false,[],[],x.pos⟩]
 | 3=>cs++[Qjh 2 x.pos [x.arg]]
 | 4=>cs++[Qjh 3 x.pos [x.arg]]
 | 5=>cs++[Qjh 4 x.pos [x.arg]]
 | 6=>cs++[⟨12,0,x.tag,false,[x.var],[x.arg],x.pos⟩]
 | _=>Qd5 tst cmd arms els cs
def Qkg:(n:Nat)→QdT n→List Ins→List Ins
 | 0,_,cs=>cs
 | n+1,x,cs=>Qbd (Qb2 n) (Qkg n) x.1 x.2.1 x.2.2 cs
def QeF (cs:List (QdT 7)):List Ins:=blockC (Qkg 7) cs []
theorem Qa9:∀(js:List Nat) (cs:List Ins),(landL js cs).length=cs.length
 | [],_=>rfl
 |j::r,cs=>by
  show(landL r (cs.modify j _)).length=_
  rw[Qa9 r,List.length_modify]
theorem Qc0{α:Type}{sub:α->List Ins->List Ins}(h:∀ t cs,cs.length<=(sub t cs).length):∀(ts:List α) (cs:List Ins),cs.length<=(blockC sub ts cs).length
 | [],_=>Nat.le_refl _
 |t::r,cs=>Nat.le_trans (h t cs) (Qc0 h r (sub t cs))
theorem QkL{α:Type}{ab:α->List Ins->List Ins}(h:∀ t cs,cs.length<=(ab t cs).length)(aa:Int):∀(ts:List α) (p:List Ins×List Nat),p.1.length<=(ts.foldl (Qfn ab aa) p).1.length
 | [],_=>Nat.le_refl _
 |t::r,p=>by
  have h1:=QkL h aa r (Qfn ab aa p t);have h2:=h t p.1;have h3:(Qfn ab aa p t).1.length=(ab t p.1).length+1:=by unfold Qfn;simp
  rw[List.foldl_cons];omega
theorem Qdu(b:Bool)(r:List Ins×List Nat):(Qel b r).length=r.1.length+3:=by
 unfold Qel;rw[Qa9,List.length_append,Qa9,List.length_append];rfl
theorem Qmv{α:Type}{aa:α->List Ins->List Ins}(h:∀ t cs,cs.length<=(aa t cs).length)(x:Qec)(ts:List α)(cs:List Ins):cs.length<=(QaU aa x ts cs).length:=by
 have hg:∀ jump b,cs.length<=(Qda aa jump b ts cs).length:=fun jump b=>by
  unfold Qda;rw[Qdu];have:=QkL h jump ts (cs,[]);dsimp only at this;omega
 unfold QaU;split
 all_goals first|exact hg _ _|(rw[List.length_append];first|(have:=Qc0 h ts cs;omega)|omega)
theorem QhS:∀(n:Nat) (t:QdG n) (cs:List Ins),cs.length<=(Qb2 n t cs).length
 |0,_,_=>Nat.le_refl _
 |n+1,x,cs=>Qmv (QhS n) x.1 x.2 cs
theorem Qw7{α β:Type}{aa:β->List Ins->List Ins}{ab:α->List Ins->List Ins}(ht:∀ t cs,cs.length<=(aa t cs).length)(hc:∀ t cs,cs.length<=(ab t cs).length)(p:List Ins×List Nat)(a:β×List α):p.1.length<=(QoY aa ab p a).1.length:=by
 unfold QoY;dsimp only;rw[Qa9,List.length_append];have h1:=ht a.1 p.1;have h2:=Qc0 hc a.2 (aa a.1 p.1++[QcO 5]);rw[List.length_append]at h2;omega
theorem QgR{α β:Type}{tst:β->List Ins->List Ins}{cmd:α->List Ins->List Ins}(ht:∀ t cs,cs.length<=(tst t cs).length)(hc:∀ t cs,cs.length<=(cmd t cs).length):∀(as_:List (β×List α)) (p:List Ins×List Nat),p.1.length<=(as_.foldl (QoY tst cmd) p).1.length
 | [],_=>Nat.le_refl _
 |a::r,p=>Nat.le_trans (Qw7 ht hc p a) (QgR ht hc r _)
theorem Qhy{α:Type}{aa:α->List Ins->List Ins}(hc:∀ t cs,cs.length<=(aa t cs).length)(ab:List α)(r:List Ins×List Nat):r.1.length<=(QdI aa ab r).length:=by
 unfold QdI;rw[Qa9];exact Qc0 hc ab r.1
theorem QoW{α β:Type}{ad:β->List Ins->List Ins}{ab:α->List Ins->List Ins}(ht:∀ t cs,cs.length<=(ad t cs).length)(hc:∀ t cs,cs.length<=(ab t cs).length)(x:Qjl)(aa:List (β×List α))(ac:List α)(cs:List Ins):cs.length<=(Qbd ad ab x aa ac cs).length:=by
 have hg:cs.length<=(Qd5 ad ab aa ac cs).length:=Nat.le_trans (QgR ht hc aa (cs,[])) (Qhy hc ac _);unfold Qbd;split
 all_goals first|exact hg|(rw[List.length_append];omega)
theorem QnY:∀(n:Nat) (t:QdT n) (cs:List Ins),cs.length<=(Qkg n t cs).length
 |0,_,_=>Nat.le_refl _
 |n+1,x,cs=>QoW (QhS n) (QnY n) x.1 x.2.1 x.2.2 cs
def Qqg (xs:List (L8)):Nat:=(xs.map List.length).sum
theorem Qcn(x:L8)(xs:List (L8)):Qqg (x::xs)=x.length+Qqg xs:=by simp[Qqg]
theorem Qmt:∀(ps:List (L8)) (t:L8),t.length+Qqg ps<=(ps.foldl Qba t).length
 | [],t=>by simp[Qqg]
 |p::r,t=>by
  have h1:=Qmt r (Qba t p)
  have h2:t.length+p.length<=(Qba t p).length:=by
   unfold Qba;split<;>simp only[List.length_append,List.length_cons,List.length_nil]<;>omega
  rw[List.foldl_cons,Qcn];omega
theorem Qg4(ps:List (L8)):Qqg ps<=(QaW ps).length:=by
 have:=Qmt ps [];unfold QaW;simp only[List.length_nil]at this;omega
theorem Qp3:∀(xs:List (L8)),Qqg xs+2*xs.length<=(Qfq [44,32] xs).length+2
 | []=>by simp[Qqg,Qfq]
 | [x]=>by simp[Qqg,Qfq]
 |x::y::r=>by
  have:=Qp3 (y::r);rw[Qcn];simp only[Qfq,List.length_append,List.length_cons,List.length_nil]at this ⊢;omega
theorem QeD{α:Type}{aa:α->List Ins->List Ins}{txt:α->L8}:∀(ts:List α) (cs:List Ins),(∀ t∈ts,∀ cs,(aa t cs).length<=cs.length+4*(txt t).length)->(blockC aa ts cs).length<=cs.length+4*Qqg (ts.map txt)
 | [],cs,_=>by simp[blockC]
 |t::r,cs,h=>by
  have h1:=h t (by simp) cs;have h2:=QeD r (aa t cs) (fun t ht=>h t (by simp[ht]));rw[List.map_cons,Qcn];show(blockC aa r (aa t cs)).length<=_
  omega
theorem Qp5{α:Type}{ab:α->List Ins->List Ins}{txt:α->L8}(h:∀ t cs,(ab t cs).length<=cs.length+4*(txt t).length)(aa:Int):∀(ts:List α) (p:List Ins×List Nat),(ts.foldl (Qfn ab aa) p).1.length<=p.1.length+4*Qqg (ts.map txt)+ts.length
 | [],p=>by simp
 |t::r,p=>by
  have h1:=Qp5 h aa r (Qfn ab aa p t);have h2:=h t p.1;have h3:(Qfn ab aa p t).1.length=(ab t p.1).length+1:=by unfold Qfn;simp
  rw[List.foldl_cons,List.map_cons,Qcn,List.length_cons];omega
theorem Qnd{α:Type}{aa:α->List Ins->List Ins}{txt:α->L8}(h:∀ t cs,(aa t cs).length<=cs.length+4*(txt t).length)(x:Qec)(ts:List α)(cs:List Ins):(QaU aa x ts cs).length<=cs.length+4*(QaZ x (ts.map txt)).length:=by
 have hg:∀ jump b hw,(Qda aa jump b ts cs).length<=cs.length+4*(QbI hw (ts.map txt)).length:=fun jump b hw=>by
  unfold Qda QbI;rw[Qdu];have h1:=Qp5 h jump ts (cs,[]);have h2:=Qp3 (ts.map txt);simp only[List.length_append,List.length_cons,List.length_nil,List.length_map]at h1 h2 ⊢;omega
 have hp:∀(w:L8) (r:List (L8)),w.length<=(QaW (w::r)).length:=fun w r=>by
  have:=Qg4 (w::r);rw[Qcn]at this;omega
 have hm:∀ hw:L8,hw.length<=(QbG hw x).length:=fun hw=>hp _ _
 unfold QaU QaZ;generalize x.kind=k
 match k with
 |0=>
  show(cs++[QcM true]).length<=cs.length+4*(Qfz).length
  rw[List.length_append];show _<=_+4*4;simp
 |1=>
  show(cs++[QcM false]).length<=cs.length+4*(Qdt).length
  rw[List.length_append];show _<=_+4*5;simp
 |2=>
  show(blockC aa ts cs++[QcO 2]).length<=cs.length+4*(QaW (kNot::ts.map txt)).length
  rw[List.length_append];have h1:=QeD (txt:=txt) ts cs (fun t _=>h t);have h2:=Qg4 (kNot::ts.map txt);rw[Qcn]at h2;have h3:kNot.length=3:=rfl;simp only[List.length_cons,List.length_nil];omega
 |3=>
  show(Qda aa 5 false ts cs).length<=cs.length+4*(QbI QcC (ts.map txt)).length
  exact hg _ _ _
 |4=>
  show(Qda aa 4 true ts cs).length<=cs.length+4*(QbI QcL (ts.map txt)).length
  exact hg _ _ _
 |5=>
  show(cs++[Qcl 6 x]).length<=cs.length+4*(QbG QbM x).length
  rw[List.length_append];have h1:=hm QbM;have h2:QbM.length=6:=rfl;simp only[List.length_cons,List.length_nil];omega
 |6=>
  show(cs++[Qcl 7 x]).length<=cs.length+4*(QbG QaG x).length
  rw[List.length_append];have h1:=hm QaG;have h2:QaG.length=8:=rfl;simp only[List.length_cons,List.length_nil];omega
 |7=>
  show(cs++[Qcl 8 x]).length<=cs.length+4*(QbG Qbl x).length
  rw[List.length_append];have h1:=hm Qbl;have h2:Qbl.length=6:=rfl;simp only[List.length_cons,List.length_nil];omega
 |8=>
  show(cs++[(⟨9,0,0,false,x.fr,[],0⟩:Ins)]).length<=cs.length+4*(QaW [Qby,QbD x.fr]).length
  rw[List.length_append];have h1:=hp Qby [QbD x.fr];have h2:Qby.length=6:=rfl;simp only[List.length_cons,List.length_nil];omega
 |_+9=>
  show(cs++[(⟨10,x.num,x.tag,false,[],[],0⟩:Ins)]).length<=cs.length+4*(QaW [QdU,QbT x.tag [QfE,Qdl],iL x.num]).length
  rw[List.length_append];have h1:=hp QdU [QbT x.tag [QfE,Qdl],iL x.num];have h2:QdU.length=4:=rfl;simp only[List.length_cons,List.length_nil];omega
theorem Qqq:∀(n:Nat) (t:QdG n) (cs:List Ins),(Qb2 n t cs).length<=cs.length+4*(QaY n t).length
 |0,_,cs=>by show cs.length<=_;omega
 |n+1,x,cs=>Qnd (Qqq n) x.1 x.2 cs
theorem Qis{α:Type}(txt:α->L8->L8)(cs:List α)(i:L8):Qqg (cs.map fun c=>txt c i)<=(Qbw txt cs i).length:=by
 induction cs with
 |nil=>simp[Qqg]
 |cons c r ih=>
  unfold Qbw at ih ⊢;rw[List.map_cons,Qcn,List.flatMap_cons];simp only[List.length_append];omega
theorem QjN{α β:Type}{ab:β->List Ins->List Ins}{ac:α->List Ins->List Ins}{tt:β->L8}{ct:α->L8->L8}(j i:L8)(ht:∀ t cs,(ab t cs).length<=cs.length+4*(tt t).length):∀(ad:List (β×List α)) (aa:L8) (p:List Ins×List Nat),(∀ a∈ad,∀ t∈a.2,∀ cs i,(ac t cs).length<=cs.length+4*(ct t i).length)->(ad.foldl (QoY ab ac) p).1.length<=p.1.length+4*(QbL j aa (ad.map fun a=>(tt a.1,Qbw ct a.2 i))).length
 | [],_,p,_=>by simp[QbL]
 |a::r,aa,p,hc=>by
  have h1:=QjN j i ht r Qej (QoY ab ac p a) (fun a ha=>hc a (by simp[ha]));have h2:=ht a.1 p.1;have h3:=QeD (txt:=fun c=>ct c i) a.2 (ab a.1 p.1++[QcO 5]) (fun t h cs=>hc a (by simp) t h cs i);have h4:(QoY ab ac p a).1.length=(blockC ac a.2 (ab a.1 p.1++[QcO 5])).length+1:=by unfold QoY;dsimp only;rw[Qa9,List.length_append];rfl
  have h5:=Qis ct a.2 i;have h6:=Qg4 [aa,tt a.1,QkR];rw[Qcn,Qcn,Qcn]at h6;have h7:QkR.length=2:=rfl;rw[List.foldl_cons,List.map_cons];show _<=p.1.length+4*(QeY aa j (tt a.1) (Qbw ct a.2 i)++QbL j Qej (r.map fun a=>(tt a.1,Qbw ct a.2 i))).length
  unfold QeY;simp only[List.length_append,List.length_cons,List.length_nil]at h3 ⊢;omega
theorem Qov{α β:Type}{ad:β->List Ins->List Ins}{ac:α->List Ins->List Ins}{tt:β->L8}{ct:α->L8->L8}(j i:L8)(ht:∀ t cs,(ad t cs).length<=cs.length+4*(tt t).length)(x:Qjl)(aa:List (β×List α))(ab:List α)(cs:List Ins)(hc:∀ a∈aa,∀ t∈a.2,∀ cs i,(ac t cs).length<=cs.length+4*(ct t i).length)(ae:∀ t∈ab,∀ cs i,(ac t cs).length<=cs.length+4*(ct t i).length)(he:x.els=false->ab=[]) :
 (Qbd ad ac x aa ab cs).length<=cs.length+4*(QcG x j (aa.map fun a=>(tt a.1,Qbw ct a.2 i)) (Qbw ct ab i)).length:=by
 unfold Qbd QcG;generalize x.kind=k
 match k with
 |0=>
  show(cs++[Qjh 1 x.pos []]).length<=cs.length+4*(QfJ++[59]).length
  rw[List.length_append,List.length_append];simp only[List.length_cons,List.length_nil];omega
 |1=>
  show(cs++[(⟨13,0,0,false,[],[],x.pos⟩:Ins)]).length<=cs.length+4*(QbV++[59]).length
  rw[List.length_append,List.length_append];simp only[List.length_cons,List.length_nil];omega
 |2=>
  show(cs++[(⟨14,0,0,false,[],[],x.pos⟩:Ins)]).length<=cs.length+4*(QfP++[59]).length
  rw[List.length_append,List.length_append];simp only[List.length_cons,List.length_nil];omega
 |3=>
  show(cs++[Qjh 2 x.pos [x.arg]]).length<=cs.length+4*(QaW [QaN,QaP x.arg]++[59]).length
  rw[List.length_append,List.length_append];simp only[List.length_cons,List.length_nil];omega
 |4=>
  show(cs++[Qjh 3 x.pos [x.arg]]).length<=cs.length+4*(QaW [Qbc,QaP x.arg]++[59]).length
  rw[List.length_append,List.length_append];simp only[List.length_cons,List.length_nil];omega
 |5=>
  show(cs++[Qjh 4 x.pos [x.arg]]).length<=cs.length+4*(QaW [Qa5,QaP x.arg]++[59]).length
  rw[List.length_append,List.length_append];simp only[List.length_cons,List.length_nil];omega
 |6=>
  show(cs++[(⟨12,0,x.tag,false,[x.var],[x.arg],x.pos⟩:Ins)]).length<=cs.length+4*(QaW [QhO,QbT x.tag [Qdc,Qc9,Qch],QaP x.var,QaP x.arg]++[59]).length
  rw[List.length_append,List.length_append];simp only[List.length_cons,List.length_nil];omega
 |_+7=>
  show(Qd5 ad ac aa ab cs).length<=cs.length+4*(QbL j kIf (aa.map fun(a:β×List α)=>(tt a.1,Qbw ct a.2 i))++(if x.els then Qrv++Qbw ct ab i++j else [])++[125]).length
  unfold Qd5 QdI;rw[Qa9];have h1:=QjN j i ht aa kIf (cs,[]) hc;have h2:=QeD (txt:=fun c=>ct c i) ab (aa.foldl (QoY ad ac) (cs,[])).1 (fun t h cs=>ae t h cs i);have h3:=Qis ct ab i;dsimp only at h1;rw[List.length_append,List.length_append];by_cases hx:x.els=true
  ·rw[if_pos hx];simp only[List.length_append];omega
  ·have hn:ab=[]:=he (by cases h:x.els with|false=>rfl|true=>exact absurd h hx);subst hn;have h4:Qqg (([]:List α).map fun c=>ct c i)=0:=rfl;omega
theorem QnS(req:List (L8)):∀(n:Nat) (t:QdT n),QnQ (WfT req) (WfC req) n t->∀(cs:List Ins) (i:L8),(Qkg n t cs).length<=cs.length+4*(Qbx n t i).length
 |0,_,h,cs,i=>h.elim
 |n+1,x,h,cs,i=>by
  obtain⟨h1,h2,h3⟩:=h;refine Qov i (i++[32,32]) (Qqq n) x.1 x.2.1 x.2.2 cs (fun a ha t ht cs i=>QnS req n t ((h2 a ha).2 t ht) cs i) (fun t ht cs i=>QnS req n t (h3 t ht) cs i) (fun he=>?_);exact List.eq_nil_of_length_eq_zero (h1.else0 he)
theorem QpB{y:List (L8)×List (QdT 7)}(h:∀ c∈y.2,QnQ (WfT y.1) (WfC y.1) 7 c):(QeF y.2).length<=4*(QhD y).length:=by
 have h1:=QeD (txt:=fun c=>Qbx 7 c []) y.2 [] (fun t ht cs=>QnS y.1 7 t (h t ht) cs []);have h2:=Qis (Qbx 7) y.2 [];unfold QeF QhD;rw[List.length_append];simp only[List.length_nil]at h1;omega
end Go.Proofs.YthkibedbcbgajaaGreatDoor
