import Derived.Test.YtgnkjijocdmniaaGreatDoorZPlainCut13
namespace Go.Proofs.YtgnkjijocdmniaaGreatDoor
set_option linter.unusedVariables false
set_option linter.unusedSimpArgs false
set_option maxRecDepth 100000
set_option maxHeartbeats 4000000
section
theorem Qgb{α:Type}(a b:List α)(x:α)(f:α->α):(a++x::b).modify a.length f=a++f x::b:=by
 induction a with
 |nil=>rfl
 |cons c r ih=>show c::(r++x::b).modify r.length f=_;rw[ih];rfl
def jmpI (op:Int) (n:Nat):Ins:=⟨op,n,0,false,[],[],0⟩
theorem Qje(op:Int)(n:Nat):Qgg (n:Int) (insOp op)=jmpI op n:=rfl
section
variable {α:Type}
def QfY (tc:α→List Ins) (jump:Int):List α→List Ins
 | []=>[]
 | t :: r=>tc t++insOp jump :: QfY tc jump r
def Qgi (tc:α→List Ins) (jump:Int) (k:Nat):List α→List Ins
 | []=>[]
 | t :: r=>tc t++jmpI jump ((QfY tc jump r).length+k) :: Qgi tc jump k r
def QxO (tc:α→List Ins) (p:Nat):List α→List Nat
 | []=>[]
 | t :: r=>(p+(tc t).length) :: QxO tc (p+(tc t).length+1) r
theorem Qfl(tc:α->List Ins)(aa:Int)(k:Nat):∀ ts,(Qgi tc aa k ts).length=(QfY tc aa ts).length
 | []=>rfl
 |t::r=>by simp only[Qgi,QfY,List.length_append,List.length_cons,Qfl tc aa k r]
theorem Qyc{sub:α->List Ins->List Ins}{tc:α->List Ins}(aa:Int):∀(ts:List α) (c:List Ins) (js:List Nat),(∀ t∈ts,∀ cs,sub t cs=cs++tc t)->ts.foldl (Qe6 sub aa) (c,js)=(c++QfY tc aa ts,js++QxO tc c.length ts)
 | [],c,js,h=>by simp[QfY,QxO]
 |t::r,c,js,h=>by
  rw[List.foldl_cons]
  have h1:Qe6 sub aa (c,js) t=(c++tc t++[insOp aa],js++[c.length+(tc t).length]):=by
   unfold Qe6;dsimp only;rw[h t List.mem_cons_self,List.length_append]
  rw[h1,Qyc aa r _ _ (fun x hx=>h x (List.mem_cons_of_mem _ hx))];simp only[QfY,QxO,List.length_append,List.length_cons,List.length_nil,List.append_assoc,List.cons_append,List.nil_append,Nat.add_assoc]
theorem Qym(tc:α->List Ins)(aa:Int):∀(ts:List α) (c ab:List Ins),landL (QxO tc c.length ts) (c++(QfY tc aa ts++ab))=c++(Qgi tc aa ab.length ts++ab)
 | [],c,ab=>rfl
 |t::r,c,ab=>by
  show landL (QxO tc (c.length+(tc t).length+1) r) ((c++((tc t++insOp aa::QfY tc aa r)++ab)).modify (c.length+(tc t).length) (Qgg (((c++((tc t++insOp aa::QfY tc aa r)++ab)).length:Int) - (((c.length+(tc t).length:Nat):Int)+1))))=_
  have e1:c++((tc t++insOp aa::QfY tc aa r)++ab)=(c++tc t)++insOp aa::(QfY tc aa r++ab):=by simp
  have e2:(((c++((tc t++insOp aa::QfY tc aa r)++ab)).length:Int) - (((c.length+(tc t).length:Nat):Int)+1))=(((QfY tc aa r).length+ab.length:Nat):Int):=by
   rw[e1];simp only[List.length_append,List.length_cons];omega
  rw[e2,e1];have e3:c.length+(tc t).length=(c++tc t).length:=by rw[List.length_append]
  rw[e3,Qgb,Qje];have e4:(c++tc t)++jmpI aa ((QfY tc aa r).length+ab.length)::(QfY tc aa r++ab)=((c++tc t)++[jmpI aa ((QfY tc aa r).length+ab.length)])++(QfY tc aa r++ab):=by simp
  have e5:(c++tc t).length+1=((c++tc t)++[jmpI aa ((QfY tc aa r).length+ab.length)]).length:=by simp;omega
  rw[e4,e5,Qym tc aa r];simp[Qgi]
def Qd4 (tc:α→List Ins) (jump:Int) (settled:Bool) (ts:List α):List Ins:=Qgi tc jump 2 ts++[pushI (!settled),jmpI 3 1,pushI settled]
theorem Qk3{sub:α->List Ins->List Ins}{tc:α->List Ins}(ab:Int)(aa:Bool)(ts:List α)(cs:List Ins)(h:∀ t∈ts,∀ cs,sub t cs=cs++tc t):Qdb sub ab aa ts cs=cs++Qd4 tc ab aa ts:=by
 unfold Qdb Qed;rw[Qyc ab ts cs [] h];dsimp only;rw[List.nil_append,List.append_assoc,Qym tc ab ts cs [pushI (!aa),insOp 3]];have e1:(cs++(Qgi tc ab [pushI (!aa),insOp 3].length ts++[pushI (!aa),insOp 3]))++[pushI aa]=(cs++Qgi tc ab 2 ts++[pushI (!aa)])++insOp 3::[pushI aa]:=by simp
 rw[e1];have e2:(cs++QfY tc ab ts).length+1=(cs++Qgi tc ab 2 ts++[pushI (!aa)]).length:=by simp[Qfl];omega
 rw[e2];show((cs++Qgi tc ab 2 ts++[pushI (!aa)])++insOp 3::[pushI aa]).modify (cs++Qgi tc ab 2 ts++[pushI (!aa)]).length (Qgg _)=_
 have e3:((((cs++Qgi tc ab 2 ts++[pushI (!aa)])++insOp 3::[pushI aa]).length:Int) - (((cs++Qgi tc ab 2 ts++[pushI (!aa)]).length:Int)+1))=((1:Nat):Int):=by
  rw[List.length_append];simp only[List.length_cons,List.length_nil];omega
 rw[e3,Qgb,Qje];simp[Qd4]
def Qa4 (cc:α→List Ins) (ts:List α):List Ins:=ts.flatMap cc
theorem Qek{sub:α->List Ins->List Ins}{cc:α->List Ins}:∀(ts:List α) (cs:List Ins),(∀ t∈ts,∀ cs,sub t cs=cs++cc t)->blockC sub ts cs=cs++Qa4 cc ts
 | [],cs,h=>by simp[blockC,Qa4]
 |t::r,cs,h=>by
  show blockC sub r (sub t cs)=_
  rw[h t List.mem_cons_self,Qek r _ (fun x hx=>h x (List.mem_cons_of_mem _ hx))];simp[Qa4]
end
section
variable {α β:Type}
def Qd7 (tc:β→List Ins) (cc:α→List Ins) (els:List α):List (β×List α)→List Ins
 | []=>Qa4 cc els
 | a :: r=>tc a.1++jmpI 5 ((Qa4 cc a.2).length+1) :: (Qa4 cc a.2++jmpI 3 (Qd7 tc cc els r).length :: Qd7 tc cc els r)
def QoQ (tc:β→List Ins) (cc:α→List Ins):List (β×List α)→List Ins
 | []=>[]
 | a :: r=>tc a.1++jmpI 5 ((Qa4 cc a.2).length+1) :: (Qa4 cc a.2++insOp 3 :: QoQ tc cc r)
def QwT (tc:β→List Ins) (cc:α→List Ins) (p:Nat):List (β×List α)→List Nat
 | []=>[]
 | a :: r=>(p+(tc a.1).length+1+(Qa4 cc a.2).length) :: QwT tc cc (p+(tc a.1).length+1+(Qa4 cc a.2).length+1) r
theorem Qx5{ac:β->List Ins->List Ins}{ab:α->List Ins->List Ins}{tc:β->List Ins}{cc:α->List Ins}:∀(aa:List (β×List α)) (c:List Ins) (js:List Nat),(∀ a∈aa,(∀ cs,ac a.1 cs=cs++tc a.1)/\∀ x∈a.2,∀ cs,ab x cs=cs++cc x)->
 aa.foldl (QmZ ac ab) (c,js)=(c++QoQ tc cc aa,js++QwT tc cc c.length aa)
 | [],c,js,h=>by simp[QoQ,QwT]
 |a::r,c,js,h=>by
  rw[List.foldl_cons];obtain⟨h1,h2⟩:=h a List.mem_cons_self
  have e:QmZ ac ab (c,js) a=(c++(tc a.1++jmpI 5 ((Qa4 cc a.2).length+1)::(Qa4 cc a.2++[insOp 3])),js++[c.length+(tc a.1).length+1+(Qa4 cc a.2).length]):=by
   unfold QmZ;dsimp only;rw[h1,Qek a.2 _ h2];refine Prod.ext ?_ ?_
   ·show((c++tc a.1++[insOp 5]++Qa4 cc a.2)++[insOp 3]).modify (c++tc a.1).length (Qgg ((((c++tc a.1++[insOp 5]++Qa4 cc a.2)++[insOp 3]).length:Int) - (((c++tc a.1).length:Int)+1)))=_
    have e1:(c++tc a.1++[insOp 5]++Qa4 cc a.2)++[insOp 3]=(c++tc a.1)++insOp 5::(Qa4 cc a.2++[insOp 3]):=by simp
    rw[e1]
    have e2:((((c++tc a.1)++insOp 5::(Qa4 cc a.2++[insOp 3])).length:Int) - (((c++tc a.1).length:Int)+1))=(((Qa4 cc a.2).length+1:Nat):Int):=by
     rw[List.length_append];simp only[List.length_cons,List.length_append,List.length_nil];omega
    rw[e2,Qgb,Qje];simp
   ·show js++[(c++tc a.1++[insOp 5]++Qa4 cc a.2).length]=_
    simp only[List.length_append,List.length_cons,List.length_nil]
  have el:(c++(tc a.1++jmpI 5 ((Qa4 cc a.2).length+1)::(Qa4 cc a.2++[insOp 3]))).length=c.length+(tc a.1).length+1+(Qa4 cc a.2).length+1:=by simp;omega
  rw[e,Qx5 r _ _ (fun x hx=>h x (List.mem_cons_of_mem _ hx)),el];refine Prod.ext ?_ ?_
  ·simp[QoQ]
  ·simp[QwT]
theorem Qq8(tc:β->List Ins)(cc:α->List Ins)(aa:List α):∀ arms,(Qd7 tc cc aa arms).length=(QoQ tc cc arms).length+(Qa4 cc aa).length
 | []=>by simp[Qd7,QoQ]
 |a::r=>by
  simp only[Qd7,QoQ,List.length_append,List.length_cons,Qq8 tc cc aa r];omega
theorem Qya(tc:β->List Ins)(cc:α->List Ins)(aa:List α):∀(ab:List (β×List α)) (c:List Ins),landL (QwT tc cc c.length ab) (c++(QoQ tc cc ab++Qa4 cc aa))=c++Qd7 tc cc aa ab
 | [],c=>by simp[QwT,QoQ,Qd7,landL]
 |a::r,c=>by
  obtain⟨d,hd⟩:∃ d,d=c++(tc a.1++jmpI 5 ((Qa4 cc a.2).length+1)::Qa4 cc a.2):=⟨_,rfl⟩;have e1:c++(QoQ tc cc (a::r)++Qa4 cc aa)=d++insOp 3::(QoQ tc cc r++Qa4 cc aa):=by rw[hd];simp[QoQ]
  have e2:c.length+(tc a.1).length+1+(Qa4 cc a.2).length=d.length:=by rw[hd];simp;omega
  show landL (QwT tc cc (c.length+(tc a.1).length+1+(Qa4 cc a.2).length+1) r) ((c++(QoQ tc cc (a::r)++Qa4 cc aa)).modify (c.length+(tc a.1).length+1+(Qa4 cc a.2).length) (Qgg (((c++(QoQ tc cc (a::r)++Qa4 cc aa)).length:Int) - (((c.length+(tc a.1).length+1+(Qa4 cc a.2).length:Nat):Int)+1))))=_
  rw[e2,e1]
  have e3:(((d++insOp 3::(QoQ tc cc r++Qa4 cc aa)).length:Int) - ((d.length:Int)+1))=((Qd7 tc cc aa r).length:Nat):=by
   rw[Qq8,List.length_append];simp only[List.length_cons,List.length_append];omega
  rw[e3,Qgb,Qje];have e4:d++jmpI 3 (Qd7 tc cc aa r).length::(QoQ tc cc r++Qa4 cc aa)=(d++[jmpI 3 (Qd7 tc cc aa r).length])++(QoQ tc cc r++Qa4 cc aa):=by simp
  have e5:d.length+1=(d++[jmpI 3 (Qd7 tc cc aa r).length]).length:=by simp
  rw[e4,e5,Qya tc cc aa r,hd];simp[Qd7]
theorem Qpa{ad:β->List Ins->List Ins}{ac:α->List Ins->List Ins}{tc:β->List Ins}{cc:α->List Ins}(aa:List (β×List α))(ab:List α)(cs:List Ins)(h:∀ a∈aa,(∀ cs,ad a.1 cs=cs++tc a.1)/\∀ x∈a.2,∀ cs,ac x cs=cs++cc x)(he:∀ x∈ab,∀ cs,ac x cs=cs++cc x) :
 QdT ad ac aa ab cs=cs++Qd7 tc cc ab aa:=by
 unfold QdT Qd0;rw[Qx5 aa cs [] h];dsimp only;rw[Qek ab _ he,List.nil_append,List.append_assoc,Qya]
end
def Qep {α:Type} (tc:α→List Ins) (x:Qcv) (ts:List α):List Ins:=
 match x.kind with
 | 0=>[pushI true]
 | 1=>[pushI false]
 | 2=>Qa4 tc ts++[insOp 2]
 | 3=>Qd4 tc 5 false ts
 | 4=>Qd4 tc 4 true ts
 | 5=>[Qb2 6 x]
 | 6=>[Qb2 7 x]
 | 7=>[Qb2 8 x]
 | 8=>[⟨9,0,0,false,x.fr,[],0⟩]
 | _=>[⟨10,x.num,x.tag,false,[],[],0⟩]
def Qde:(n:Nat)→Qa6 n→List Ins
 | 0,_=>[]
 | n+1,x=>Qep (Qde n) x.1 x.2
theorem Qnz:∀(n:Nat) (x:Qa6 n) (cs:List Ins),Qb7 n x cs=cs++Qde n x
 |0,x,cs=>by simp[Qb7,Qde]
 |n+1,x,cs=>by
  have ih:=Qnz n;show Qa1 (Qb7 n) x.1 x.2 cs=cs++Qep (Qde n) x.1 x.2
  unfold Qa1 Qep;generalize x.1.kind=k;rcases k with _|_|_|_|_|_|_|_|_|k
  ·rfl
  ·rfl
  ·show blockC (Qb7 n) x.2 cs++[insOp 2]=cs++(Qa4 (Qde n) x.2++[insOp 2])
   rw[Qek (cc:=Qde n) x.2 cs (fun t _ c=>ih t c),List.append_assoc]
  ·exact Qk3 5 false x.2 cs (fun t _ c=>ih t c)
  ·exact Qk3 4 true x.2 cs (fun t _ c=>ih t c)
  all_goals rfl
def QoC {α β:Type} (tc:β→List Ins) (cc:α→List Ins) (x:Qgt) (arms:List (β×List α)) (els:List α):List Ins:=
 match x.kind with
 | 0=>[Qgx 1 x.pos []]
 | 1=>[⟨13,0,0,false,[],[],x.pos⟩]
 | 2=>[⟨14,0,0,false,[],[],x.pos⟩]
 | 3=>[Qgx 2 x.pos [x.arg]]
 | 4=>[Qgx 3 x.pos [x.arg]]
 | 5=>[Qgx 4 x.pos [x.arg]]
 | 6=>[⟨12,0,x.tag,false,[x.var],[x.arg],x.pos⟩]
 | _=>Qd7 tc cc els arms
def Qeq:(n:Nat)→Qbo n→List Ins
 | 0,_=>[]
 | n+1,x=>QoC (Qde n) (Qeq n) x.1 x.2.1 x.2.2
theorem Qrc:∀(n:Nat) (x:Qbo n) (cs:List Ins),Qkc n x cs=cs++Qeq n x
 |0,x,cs=>by simp[Qkc,Qeq]
 |n+1,x,cs=>by
  have ih:=Qrc n;show Qbn (Qb7 n) (Qkc n) x.1 x.2.1 x.2.2 cs=cs++QoC (Qde n) (Qeq n) x.1 x.2.1 x.2.2
  unfold Qbn QoC;generalize x.1.kind=k;rcases k with _|_|_|_|_|_|_|k
  any_goals rfl
  exact Qpa (tc:=Qde n) (cc:=Qeq n) x.2.1 x.2.2 cs (fun a _=>⟨fun c=>Qnz n a.1 c,fun y _ c=>ih y c⟩) (fun y _ c=>ih y c)
theorem QjQ(cs:List (Qbo 7)):QcF cs=Qa4 (Qeq 7) cs:=by
 unfold QcF;rw[Qek (cc:=Qeq 7) cs [] (fun t _ c=>Qrc 7 t c),List.nil_append]
end
def gEval {α:Type} (ev:α→SS→Bool×SS) (settled:Bool):List α→SS→Bool×SS
 | [],s=>(!settled,s)
 | t :: r,s=>if (ev t s).1=settled then (settled,(ev t s).2) else gEval ev settled r (ev t s).2
def Qfi {α:Type} (ev:α→SS→Bool×SS):List α→SS→Bool×SS
 | [],s=>(false,s)
 | t :: _,s=>(!(ev t s).1,(ev t s).2)
def QcX {α:Type} (M:Msg) (ev:α→SS→Bool×SS) (x:Qcv) (ts:List α) (s:SS):Bool×SS:=
 match x.kind with
 | 0=>(true,s)
 | 1=>(false,s)
 | 2=>Qfi ev ts s
 | 3=>gEval ev false ts s
 | 4=>gEval ev true ts s
 | 5=>askL s x.tag x.octet (fieldsL M (x.fr.map (expL s))) x.keys
 | 6=>askL s x.tag x.octet (QiQ M x.fr) x.keys
 | 7=>askL s x.tag x.octet (x.fr.map (expL s)) x.keys
 | 8=>(existsL M (x.fr.map (expL s)),s)
 | _=>(sizeB M x.tag x.num,s)
def evalT (M:Msg):(n:Nat)→Qa6 n→SS→Bool×SS
 | 0,_,s=>(false,s)
 | n+1,x,s=>QcX M (evalT M n) x.1 x.2 s
abbrev CR:=Except FZ (SS×Bool)
def QvI (s:SS) (kind:Int) (arg:L8) (pos:Nat):CR:=
 if (addL s.met kind (expL s arg)).1=0 then .ok (Qxa s (addL s.met kind (expL s arg)).2,false) else .error ((addL s.met kind (expL s arg)).1,pos)
def Qej {α:Type} (ev:α→SS→CR):List α→SS→CR
 | [],s=>.ok (s,false)
 | c :: r,s=>match ev c s with
  | .error e=>.error e
  | .ok (s',true)=>.ok (s',true)
  | .ok (s',false)=>Qej ev r s'
def QhY {α β:Type} (tv:β→SS→Bool×SS) (ev:α→SS→CR) (els:List α):List (β×List α)→SS→CR
 | [],s=>Qej ev els s
 | a :: r,s=>if (tv a.1 s).1=true then Qej ev a.2 (tv a.1 s).2 else QhY tv ev els r (tv a.1 s).2
def QfR {α β:Type} (tv:β→SS→Bool×SS) (ev:α→SS→CR) (x:Qgt) (arms:List (β×List α)) (els:List α) (s:SS):CR:=
 match x.kind with
 | 0=>QvI s 1 [] x.pos
 | 1=>.ok (Qsp s,false)
 | 2=>.ok (s,true)
 | 3=>QvI s 2 x.arg x.pos
 | 4=>QvI s 3 x.arg x.pos
 | 5=>QvI s 4 x.arg x.pos
 | 6=>.ok (QxK s x.var x.tag x.arg,false)
 | _=>QhY tv ev els arms s
def Qc2 (M:Msg):(n:Nat)→Qbo n→SS→CR
 | 0,_,s=>.ok (s,false)
 | n+1,x,s=>QfR (evalT M n) (Qc2 M n) x.1 x.2.1 x.2.2 s
def runL (M:Msg) (code:List Ins) (m:MS):Except FZ MS:=(QdH M code (code.length - m.next) m 0).1
theorem Qlx{M:Msg}{aa:List Ins}:∀(f g:Nat) (m:MS) (d e:Nat),aa.length - m.next<=f->aa.length - m.next<=g->(QdH M aa f m d).1=(QdH M aa g m e).1
 |0,0,m,d,e,_,_=>rfl
 |0,g+1,m,d,e,hf,hg=>by
  have:¬ m.next<aa.length:=by omega
  rw[QdH,QdH,if_neg this]
 |f+1,0,m,d,e,hf,hg=>by
  have:¬ m.next<aa.length:=by omega
  rw[QdH,QdH,if_neg this]
 |f+1,g+1,m,d,e,hf,hg=>by
  rw[QdH,QdH];by_cases h:m.next<aa.length
  ·rw[if_pos h,if_pos h]
   cases hs:stepL M aa.length (aa.getD m.next QyA) (atL m)with
   |error x=>rfl
   |ok m'=>
    have h1:=(QhI hs (show(atL m).next<=aa.length by show m.next+1<=_;omega)).1;have h2:m.next+1<=m'.next:=h1;exact Qlx f g m' (d+1) (e+1) (by omega) (by omega)
  ·rw[if_neg h,if_neg h]
theorem QqV{M:Msg}{aa:List Ins}{m:MS}(h:aa.length<=m.next):runL M aa m=.ok m:=by
 unfold runL;have e:aa.length - m.next=0:=by omega
 rw[e];rfl
theorem Qjl {M:Msg} {code a b:List Ins} {i:Ins} {m:MS} (hc:code=a++i :: b) (hn:m.next=a.length):runL M code m=(match stepL M code.length i (atL m) with
 | .error e=>.error e
 | .ok m'=>runL M code m'):=by
 have hl:code.length=a.length+(b.length+1):=by rw[hc,List.length_append,List.length_cons]
 unfold runL;obtain⟨k,hk⟩:∃ k,code.length - m.next=k+1:=⟨b.length,by omega⟩;rw[hk,QdH,if_pos (by omega)]
 have hg:code.getD m.next QyA=i:=by
  rw[hc,hn,List.getD_eq_getElem?_getD,List.getElem?_append_right (Nat.le_refl _)];simp
 rw[hg]
 cases hs:stepL M code.length i (atL m)with
 |error x=>rfl
 |ok m'=>
  have h1:=(QhI hs (show(atL m).next<=code.length by show m.next+1<=_;omega)).1;have h2:m.next+1<=m'.next:=h1;exact Qlx _ _ m' _ _ (by omega) (by omega)
def Comes (M:Msg) (code:List Ins) (m:MS) (s:SS) (st:List Bool) (p:Nat):Prop:=∃ now,runL M code m=runL M code ⟨s,st,now,p⟩
theorem Comes.trans{M:Msg}{aa:List Ins}{m:MS}{s s':SS}{st ac:List Bool}{p p':Nat}(h:Comes M aa m s st p)(h':∀ now,Comes M aa ⟨s,st,now,p⟩ s' ac p'):Comes M aa m s' ac p':=by
 obtain⟨now,h⟩:=h;obtain⟨ab,h'⟩:=h' now;exact⟨ab,h.trans h'⟩
theorem Qcn{M:Msg}{aa a b:List Ins}{i:Ins}{s s':SS}{st ab:List Bool}{now p' now':Nat}(hc:aa=a++i::b)(h:stepL M aa.length i ⟨s,st,a.length,a.length+1⟩=.ok ⟨s',ab,now',p'⟩):Comes M aa ⟨s,st,now,a.length⟩ s' ab p':=by
 refine⟨now',?_⟩;rw[Qjl (m:=⟨s,st,now,a.length⟩) hc rfl];have h':stepL M aa.length i (atL ⟨s,st,now,a.length⟩)=.ok ⟨s',ab,now',p'⟩:=h;rw[h']
theorem Qga{M:Msg}{aa a b:List Ins}{v:Bool}{s:SS}{now:Nat}(hc:aa=a++pushI v::b):Comes M aa ⟨s,[],now,a.length⟩ s [v] (a.length+1):=by
 refine Qcn (now':=a.length) hc ?_;cases v<;>rfl
theorem Quo{M:Msg}{aa a b:List Ins}{v:Bool}{s:SS}{now:Nat}(hc:aa=a++insOp 2::b):Comes M aa ⟨s,[v],now,a.length⟩ s [!v] (a.length+1):=by
 refine Qcn (now':=a.length) hc ?_;cases v<;>rfl
theorem Qtg{aa:Nat}{m:MS}{n:Nat}(h:m.next+n<=aa):QiL aa m (n:Int)=true:=by
 unfold QiL;simp only[Bool.and_eq_true,decide_eq_true_eq];omega
theorem Qk0{M:Msg}{aa a b:List Ins}{n:Nat}{s:SS}{st:List Bool}{now:Nat}(hc:aa=a++jmpI 3 n::b)(hn:n<=b.length):Comes M aa ⟨s,st,now,a.length⟩ s st (a.length+1+n):=by
 refine Qcn (now':=a.length) hc ?_;have hl:aa.length=a.length+(b.length+1):=by rw[hc,List.length_append,List.length_cons]
 show Qgm aa.length (jmpI 3 n) ⟨s,st,a.length,a.length+1⟩=_
 unfold Qgm;rw[show(jmpI 3 n).n=(n:Int)from rfl,if_pos (Qtg (by show a.length+1+n<=_;omega))];rfl
theorem Qlk{M:Msg}{aa a b:List Ins}{n:Nat}{s:SS}{v tk:Bool}{now:Nat}(hc:aa=a++jmpI (if tk then 4 else 5) n::b)(hn:n<=b.length):Comes M aa ⟨s,[v],now,a.length⟩ s [] (if v=tk then a.length+1+n else a.length+1):=by
 have hl:aa.length=a.length+(b.length+1):=by rw[hc,List.length_append,List.length_cons]
 refine Qcn (now':=a.length) hc ?_;have hd:stepL M aa.length (jmpI (if tk then 4 else 5) n) ⟨s,[v],a.length,a.length+1⟩=doCond tk aa.length (jmpI (if tk then 4 else 5) n) ⟨s,[v],a.length,a.length+1⟩:=by cases tk<;>rfl
 rw[hd];unfold doCond;rw[show(jmpI (if tk then 4 else 5) n).n=(n:Int)from rfl,if_pos (Qtg (by show a.length+1+n<=_;omega)),if_neg (by simp)];show Except.ok (if v=tk then _ else _)=_
 split<;>rfl
def QlJ (M:Msg) (c:List Ins) (ev:SS→Bool×SS):Prop:=
 ∀ (code a b:List Ins) (s:SS) (now:Nat),code=a++(c++b)→Comes M code ⟨s,[],now,a.length⟩ (ev s).2 [(ev s).1] (a.length+c.length)
theorem Qmk{α:Type}{M:Msg}{tc:α->List Ins}{ev:α->SS->Bool×SS}(aa:Bool):∀(ts:List α),(∀ t∈ts,QlJ M (tc t) (ev t))->
 ∀(ab a b:List Ins) (s:SS) (now:Nat),ab=a++(Qd4 tc (if aa then 4 else 5) aa ts++b)->Comes M ab ⟨s,[],now,a.length⟩ (gEval ev aa ts s).2 [(gEval ev aa ts s).1] (a.length+(Qd4 tc (if aa then 4 else 5) aa ts).length)
 | [],_,ab,a,b,s,now,hc=>by
  have h1:ab=a++pushI (!aa)::(jmpI 3 1::pushI aa::b):=by rw[hc];rfl
  have h2:ab=(a++[pushI (!aa)])++jmpI 3 1::(pushI aa::b):=by rw[h1];simp
  refine(Qga h1).trans (fun now'=>?_);have h3:=Qk0 (M:=M) (s:=s) (st:=[!aa]) (now:=now') h2 (by simp);have e1:(a++[pushI (!aa)]).length=a.length+1:=by simp
  rw[e1]at h3;exact h3
 |t::r,ht,ab,a,b,s,now,hc=>by
  have hg:Qd4 tc (if aa then 4 else 5) aa (t::r)=tc t++jmpI (if aa then 4 else 5) ((QfY tc (if aa then 4 else 5) r).length+2)::Qd4 tc (if aa then 4 else 5) aa r:=by
   unfold Qd4;simp[Qgi]
  have ad:(Qd4 tc (if aa then 4 else 5) aa r).length=(QfY tc (if aa then 4 else 5) r).length+3:=by
   unfold Qd4;simp[Qfl]
  have h1:ab=a++(tc t++(jmpI (if aa then 4 else 5) ((QfY tc (if aa then 4 else 5) r).length+2)::(Qd4 tc (if aa then 4 else 5) aa r++b))):=by rw[hc,hg];simp
  have h2:ab=(a++tc t)++jmpI (if aa then 4 else 5) ((QfY tc (if aa then 4 else 5) r).length+2)::(Qd4 tc (if aa then 4 else 5) aa r++b):=by rw[h1];simp
  refine(ht t List.mem_cons_self ab a _ s now h1).trans (fun now'=>?_);have e1:a.length+(tc t).length=(a++tc t).length:=by simp
  rw[e1];refine(Qlk (tk:=aa) h2 (by rw[List.length_append,ad];omega)).trans (fun now2=>?_)
  have ac:(Qd4 tc (if aa then 4 else 5) aa (t::r)).length=(tc t).length+1+(QfY tc (if aa then 4 else 5) r).length+3:=by
   rw[hg,List.length_append,List.length_cons,ad];omega
  unfold gEval;by_cases hv:(ev t s).1=aa
  ·rw[if_pos hv,if_pos hv,ac]
   have h3:ab=(a++tc t++[jmpI (if aa then 4 else 5) ((QfY tc (if aa then 4 else 5) r).length+2)]++Qgi tc (if aa then 4 else 5) 2 r++[pushI (!aa),jmpI 3 1])++pushI aa::b:=by
    rw[h2];unfold Qd4;simp
   have h4:=Qga (M:=M) (s:=(ev t s).2) (now:=now2) h3
   have e2:(a++tc t++[jmpI (if aa then 4 else 5) ((QfY tc (if aa then 4 else 5) r).length+2)]++Qgi tc (if aa then 4 else 5) 2 r++[pushI (!aa),jmpI 3 1]).length=(a++tc t).length+1+((QfY tc (if aa then 4 else 5) r).length+2):=by
    simp[Qfl];omega
   rw[e2]at h4;have e3:(a++tc t).length+1+((QfY tc (if aa then 4 else 5) r).length+2)+1=a.length+((tc t).length+1+(QfY tc (if aa then 4 else 5) r).length+3):=by simp;omega
   rw[e3]at h4;exact h4
  ·rw[if_neg hv,if_neg hv];have h3:ab=(a++tc t++[jmpI (if aa then 4 else 5) ((QfY tc (if aa then 4 else 5) r).length+2)])++(Qd4 tc (if aa then 4 else 5) aa r++b):=by rw[h2];simp
   have h4:=Qmk aa r (fun x hx=>ht x (List.mem_cons_of_mem _ hx)) ab _ b (ev t s).2 now2 h3;have e2:(a++tc t++[jmpI (if aa then 4 else 5) ((QfY tc (if aa then 4 else 5) r).length+2)]).length=(a++tc t).length+1:=by simp;omega
   rw[e2]at h4;have e3:(a++tc t).length+1+(Qd4 tc (if aa then 4 else 5) aa r).length=a.length+(Qd4 tc (if aa then 4 else 5) aa (t::r)).length:=by rw[ac,ad];simp;omega
   rw[e3]at h4;exact h4
theorem Qkv{M:Msg}{aa a b:List Ins}{x:Qcv}{s:SS}{now:Nat}(op:Int)(vals:List (L8))(ab:∀ m,m.st=s->stepL M aa.length (Qb2 op x) m=doAsk vals (Qb2 op x) m)(ht:1<=x.tag/\x.tag<=3)(hc:aa=a++Qb2 op x::b) :
 Comes M aa ⟨s,[],now,a.length⟩ (askL s x.tag x.octet vals x.keys).2 [(askL s x.tag x.octet vals x.keys).1] (a.length+1):=by
 refine Qcn (now':=a.length) hc ?_;rw[ab _ rfl];unfold doAsk;rw[if_pos (show(1:Int)<=(Qb2 op x).tag/\(Qb2 op x).tag<=3 by show(1:Int)<=(x.tag:Int)/\(x.tag:Int)<=3;omega)];rfl
theorem Qxr{α:Type}{M:Msg}{req:List (L8)}{tc:α->List Ins}{ev:α->SS->Bool×SS}(x:Qcv)(ts:List α)(hw:WfT req x ts.length)(ht:∀ t∈ts,QlJ M (tc t) (ev t)):QlJ M (Qep tc x ts) (QcX M ev x ts):=by
 intro aa a b s now hc;have hk:=hw.kind;unfold Qep QcX at *;obtain⟨k,ab⟩:∃ k,k=x.kind:=⟨_,rfl⟩;rw[<-ab]at hc hk ⊢;rcases k with _|_|_|_|_|_|_|_|_|_|k
 ·exact Qga hc
 ·exact Qga hc
 ·have h1:=hw.one ab.symm;obtain⟨t,rfl⟩:=List.length_eq_one_iff.1 h1;have hb:Qa4 tc [t]=tc t:=by simp[Qa4]
  have ac:aa=a++((Qa4 tc [t]++[insOp 2])++b):=hc;show Comes M aa ⟨s,[],now,a.length⟩ (Qfi ev [t] s).2 [(Qfi ev [t] s).1] (a.length+(Qa4 tc [t]++[insOp 2]).length)
  rw[hb]at ac ⊢;have h2:aa=a++(tc t++(insOp 2::b)):=by rw[ac];simp
  have h3:aa=(a++tc t)++insOp 2::b:=by rw[h2];simp
  refine(ht t List.mem_cons_self aa a _ s now h2).trans (fun now'=>?_);have h4:=Quo (M:=M) (v:=(ev t s).1) (s:=(ev t s).2) (now:=now') h3;have e1:(a++tc t).length=a.length+(tc t).length:=by simp
  rw[e1]at h4;have e2:a.length+(tc t++[insOp 2]).length=a.length+(tc t).length+1:=by simp;omega
  rw[e2];exact h4
 ·exact Qmk false ts ht aa a b s now hc
 ·exact Qmk true ts ht aa a b s now hc
 ·exact Qkv 6 (fieldsL M (x.fr.map (expL s))) (fun m hm=>by rw[<-hm];rfl) (hw.tag (by omega) (by omega)) hc
 ·exact Qkv 7 (QiQ M x.fr) (fun m hm=>rfl) (hw.tag (by omega) (by omega)) hc
 ·exact Qkv 8 (x.fr.map (expL s)) (fun m hm=>by rw[<-hm];rfl) (hw.tag (by omega) (by omega)) hc
 ·exact Qcn (now':=a.length) hc rfl
 ·refine Qcn (now':=a.length) hc ?_;have hz:=hw.size ab.symm;show Qgp M ⟨10,x.num,x.tag,false,[],[],0⟩ ⟨s,[],a.length,a.length+1⟩=_
  unfold Qgp;rw[if_pos (show(x.tag:Int)=1\/(x.tag:Int)=2 by omega)];rfl
 ·omega
theorem QuG{M:Msg}{req:List (L8)}:∀(n:Nat) (x:Qa6 n),QiY (WfT req) n x->QlJ M (Qde n x) (evalT M n x)
 |0,x,h=>by cases h
 |n+1,x,h=>Qxr x.1 x.2 h.1 (fun t ht=>QuG n t (h.2 t ht))
def OutL (M:Msg) (code:List Ins) (m:MS) (p:Nat):CR→Prop
 | .error e=>runL M code m=.error e
 | .ok (s,true)=>∃ m',runL M code m=.ok m'∧m'.st=s
 | .ok (s,false)=>Comes M code m s [] p
theorem Comes.out{M:Msg}{aa:List Ins}{m:MS}{s:SS}{st:List Bool}{p q:Nat}{r:CR}(h:Comes M aa m s st p)(h':∀ now,OutL M aa ⟨s,st,now,p⟩ q r):OutL M aa m q r:=by
 obtain⟨now,h⟩:=h;have h2:=h' now
 match r,h2 with
 | .error e,h2=>exact h.trans h2
 | .ok (s',true),⟨m',h3,h4⟩=>exact⟨m',h.trans h3,h4⟩
 | .ok (s',false),⟨now',h3⟩=>exact⟨now',h.trans h3⟩
def QmA (M:Msg) (c:List Ins) (ev:SS→CR):Prop:=
 ∀ (code a b:List Ins) (s:SS) (now:Nat),code=a++(c++b)→OutL M code ⟨s,[],now,a.length⟩ (a.length+c.length) (ev s)
theorem QiU{α:Type}{M:Msg}{cc:α->List Ins}{ev:α->SS->CR}:∀(ts:List α),(∀ t∈ts,QmA M (cc t) (ev t))->QmA M (Qa4 cc ts) (Qej ev ts)
 | [],_,code,a,b,s,now,hc=>by
  show Comes M code ⟨s,[],now,a.length⟩ s [] (a.length+0)
  exact⟨now,rfl⟩
 |t::r,ht,code,a,b,s,now,hc=>by
  have hb:Qa4 cc (t::r)=cc t++Qa4 cc r:=by simp[Qa4]
  rw[hb]at hc ⊢;have h1:code=a++(cc t++(Qa4 cc r++b)):=by rw[hc];simp
  have h2:code=(a++cc t)++(Qa4 cc r++b):=by rw[h1];simp
  have h3:=ht t List.mem_cons_self code a _ s now h1;have e1:(a++cc t).length=a.length+(cc t).length:=by simp
  have e2:a.length+(cc t++Qa4 cc r).length=(a++cc t).length+(Qa4 cc r).length:=by simp;omega
  unfold Qej
  match hr:ev t s,h3 with
  | .error e,h3=>exact h3
  | .ok (s',true),h3=>exact h3
  | .ok (s',false),h3=>
   have aa:Comes M code ⟨s,[],now,a.length⟩ s' [] (a.length+(cc t).length):=h3;refine aa.out (fun now'=>?_);rw[<-e1,e2];exact QiU r (fun x hx=>ht x (List.mem_cons_of_mem _ hx)) code (a++cc t) b s' now' h2
theorem QtN{α β:Type}{M:Msg}{tc:β->List Ins}{tv:β->SS->Bool×SS}{cc:α->List Ins}{ev:α->SS->CR}(ac:List α)(he:∀ c∈ac,QmA M (cc c) (ev c)):∀(ab:List (β×List α)),(∀ a∈ab,QlJ M (tc a.1) (tv a.1)/\∀ c∈a.2,QmA M (cc c) (ev c))->QmA M (Qd7 tc cc ac ab) (QhY tv ev ac ab)
 | [],_=>QiU ac he
 |x::r,hx=>by
  intro aa a b s now hc;obtain⟨t1,t2⟩:=hx x List.mem_cons_self;have ih:=QtN ac he r (fun y hy=>hx y (List.mem_cons_of_mem _ hy));obtain⟨R,hR⟩:∃ R,R=Qd7 tc cc ac r:=⟨_,rfl⟩;have ad:Qd7 tc cc ac (x::r)=tc x.1++jmpI 5 ((Qa4 cc x.2).length+1)::(Qa4 cc x.2++jmpI 3 R.length::R):=by rw[hR];rfl
  rw[<-hR]at ih;rw[ad]at hc ⊢;have h1:aa=a++(tc x.1++(jmpI 5 ((Qa4 cc x.2).length+1)::(Qa4 cc x.2++jmpI 3 R.length::(R++b)))):=by rw[hc];simp
  have h2:aa=(a++tc x.1)++jmpI (if false then 4 else 5) ((Qa4 cc x.2).length+1)::(Qa4 cc x.2++jmpI 3 R.length::(R++b)):=by rw[h1];simp
  have h3:aa=(a++tc x.1++[jmpI 5 ((Qa4 cc x.2).length+1)])++(Qa4 cc x.2++(jmpI 3 R.length::(R++b))):=by rw[h1];simp
  have h4:aa=(a++tc x.1++[jmpI 5 ((Qa4 cc x.2).length+1)]++Qa4 cc x.2)++jmpI 3 R.length::(R++b):=by rw[h1];simp
  have h5:aa=(a++tc x.1++[jmpI 5 ((Qa4 cc x.2).length+1)]++Qa4 cc x.2++[jmpI 3 R.length])++(R++b):=by rw[h1];simp
  have e1:(a++tc x.1).length=a.length+(tc x.1).length:=by simp
  have e3:(a++tc x.1++[jmpI 5 ((Qa4 cc x.2).length+1)]).length=a.length+(tc x.1).length+1:=by simp;omega
  have e4:(a++tc x.1++[jmpI 5 ((Qa4 cc x.2).length+1)]++Qa4 cc x.2).length=a.length+(tc x.1).length+1+(Qa4 cc x.2).length:=by simp;omega
  have e5:(a++tc x.1++[jmpI 5 ((Qa4 cc x.2).length+1)]++Qa4 cc x.2++[jmpI 3 R.length]).length=a.length+(tc x.1).length+1+(Qa4 cc x.2).length+1:=by simp;omega
  have e6:a.length+(tc x.1++jmpI 5 ((Qa4 cc x.2).length+1)::(Qa4 cc x.2++jmpI 3 R.length::R)).length=a.length+(tc x.1).length+1+(Qa4 cc x.2).length+1+R.length:=by simp;omega
  rw[e6];refine(t1 aa a _ s now h1).out (fun n1=>?_);rw[<-e1];refine(Qlk (tk:=false) h2 (by simp)).out (fun n2=>?_);unfold QhY;by_cases hv:(tv x.1 s).1=true
  ·rw[if_neg (by rw[hv];decide),if_pos hv,e1,<-e3];have hb:=QiU x.2 t2 aa _ _ (tv x.1 s).2 n2 h3;rw[e3]at hb ⊢
   match hr:Qej ev x.2 (tv x.1 s).2,hb with
   | .error e,hb=>exact hb
   | .ok (s',true),hb=>exact hb
   | .ok (s',false),hb=>
    have ae:Comes M aa ⟨(tv x.1 s).2,[],n2,a.length+(tc x.1).length+1⟩ s' [] (a.length+(tc x.1).length+1+(Qa4 cc x.2).length):=hb;show Comes M aa ⟨(tv x.1 s).2,[],n2,a.length+(tc x.1).length+1⟩ s' [] (a.length+(tc x.1).length+1+(Qa4 cc x.2).length+1+R.length)
    refine ae.trans (fun n3=>?_);have hj:=Qk0 (M:=M) (s:=s') (st:=[]) (now:=n3) h4 (by simp);rw[e4]at hj;exact hj
  ·rw[if_pos (by simpa using hv),if_neg hv];have hi:=ih aa _ b (tv x.1 s).2 n2 h5;rw[e5]at hi;rw[e1];have e7:a.length+(tc x.1).length+1+((Qa4 cc x.2).length+1)=a.length+(tc x.1).length+1+(Qa4 cc x.2).length+1:=by omega
   rw[e7];exact hi
theorem QmM{M:Msg}{aa a b:List Ins}{kind:Int}{ab:Nat}{arg:L8}{s:SS}{now:Nat}(la:List (L8))(hs:∀ m,stepL M aa.length (Qgx kind ab la) m=Qu1 (Qgx kind ab la) m arg)(hc:aa=a++Qgx kind ab la::b):OutL M aa ⟨s,[],now,a.length⟩ (a.length+1) (QvI s kind arg ab):=by
 unfold QvI;by_cases h0:(addL s.met kind (expL s arg)).1=0
 ·rw[if_pos h0];refine Qcn (now':=a.length) hc ?_;rw[hs];unfold Qu1;rw[show(Qgx kind ab la).tag=kind from rfl,if_pos h0];rfl
 ·rw[if_neg h0];show runL M aa ⟨s,[],now,a.length⟩=.error _
  rw[Qjl (m:=⟨s,[],now,a.length⟩) hc rfl,hs]
  have h1:Qu1 (Qgx kind ab la) (atL ⟨s,[],now,a.length⟩) arg=.error ((addL s.met kind (expL s arg)).1,ab):=by
   unfold Qu1;exact if_neg h0
  rw[h1]
theorem Qu7{α β:Type}{M:Msg}{req:List (L8)}{tc:β->List Ins}{tv:β->SS->Bool×SS}{cc:α->List Ins}{ev:α->SS->CR}(x:Qgt)(aa:List (β×List α))(ac:List α)(hw:WfC req x aa.length ac.length)(hx:∀ a∈aa,QlJ M (tc a.1) (tv a.1)/\∀ c∈a.2,QmA M (cc c) (ev c))(he:∀ c∈ac,QmA M (cc c) (ev c)) :
 QmA M (QoC tc cc x aa ac) (QfR tv ev x aa ac):=by
 intro ab a b s ad hc;have hk:=hw.kind;unfold QoC QfR at *;obtain⟨k,ae⟩:∃ k,k=x.kind:=⟨_,rfl⟩;rw[<-ae]at hc hk ⊢;rcases k with _|_|_|_|_|_|_|_|k
 ·exact QmM [] (fun m=>rfl) hc
 ·show Comes M ab ⟨s,[],ad,a.length⟩ (Qsp s) [] (a.length+1)
  exact Qcn (now':=a.length) hc rfl
 ·show ∃ m',runL M ab ⟨s,[],ad,a.length⟩=.ok m'/\m'.st=s
  refine⟨⟨s,[],a.length,ab.length⟩,?_,rfl⟩;rw[Qjl (m:=⟨s,[],ad,a.length⟩) hc rfl];exact QqV (Nat.le_refl _)
 ·exact QmM [x.arg] (fun m=>rfl) hc
 ·exact QmM [x.arg] (fun m=>rfl) hc
 ·exact QmM [x.arg] (fun m=>rfl) hc
 ·show Comes M ab ⟨s,[],ad,a.length⟩ (QxK s x.var x.tag x.arg) [] (a.length+1)
  refine Qcn (now':=a.length) hc ?_;have ht:=hw.tag;show QkE ⟨12,0,x.tag,false,[x.var],[x.arg],x.pos⟩ ⟨s,[],a.length,a.length+1⟩=_
  unfold QkE;rw[if_pos (show(0:Int)<=(x.tag:Int)/\(x.tag:Int)<=3/\[x.var]≠[]/\[x.arg]≠[] by refine⟨by omega,by omega,by simp,by simp⟩)];rfl
 ·exact QtN ac he aa hx ab a b s ad hc
 ·omega
theorem Qub{M:Msg}{req:List (L8)}:∀(n:Nat) (x:Qbo n),allC (WfT req) (WfC req) n x->QmA M (Qeq n x) (Qc2 M n x)
 |0,x,h=>by cases h
 |n+1,x,h=>Qu7 x.1 x.2.1 x.2.2 h.1 (fun a ha=>⟨QuG n a.1 (h.2.1 a ha).1,fun c hc=>Qub n c ((h.2.1 a ha).2 c hc)⟩) (fun c hc=>Qub n c (h.2.2 c hc))
def QyF (r:CR):List (Int×L8)×Option FZ:=
 match r with
 | .error e=>([(1,[])],some e)
 | .ok (s,_)=>(QxF s,none)
theorem QvP{M:Msg}{req:List (L8)}(v:Bool)(cs:List (Qbo 7))(hw:∀ c∈cs,allC (WfT req) (WfC req) 7 c)(hl:(QcF cs).length<=400) :
 ((execL v (QcF cs) M).1,(execL v (QcF cs) M).2.2)=QyF (Qej (Qc2 M 7) cs (ss0 v)):=by
 have h:=QiU cs (fun c hc=>Qub (M:=M) 7 c (hw c hc)) (QcF cs) [] [] (ss0 v) 0 (by rw[QjQ];simp);have aa:runL M (QcF cs) (ms0 v)=(QdH M (QcF cs) (QcF cs).length (ms0 v) 0).1:=rfl;have ab:(⟨ss0 v,[],0,([]:List Ins).length⟩:MS)=ms0 v:=rfl;rw[ab]at h;unfold execL;rw[if_neg (by omega)]
 cases hL:QdH M (QcF cs) (QcF cs).length (ms0 v) 0 with
 |mk r d=>
  rw[hL]at aa;dsimp only at aa
  match hb:Qej (Qc2 M 7) cs (ss0 v),h with
  | .error e,h=>
   have h1:r=.error e:=aa.symm.trans h;subst h1;rfl
  | .ok (s,true),⟨m',h1,h2⟩=>
   have h3:r=.ok m':=aa.symm.trans h1;subst h3;subst h2;rfl
  | .ok (s,false),⟨now,h1⟩=>
   have h2:runL M (QcF cs) ⟨s,[],now,([]:List Ins).length+(Qa4 (Qeq 7) cs).length⟩=.ok ⟨s,[],now,([]:List Ins).length+(Qa4 (Qeq 7) cs).length⟩:=QqV (by show(QcF cs).length<=([]:List Ins).length+(Qa4 (Qeq 7) cs).length;rw[QjQ];simp);have h3:=aa.symm.trans (h1.trans h2);subst h3;rfl
theorem QdV{α β:Type}{ev:α->SS->Bool×SS}{ab:β->SS->Bool×SS}{f:α->β}(aa:Bool):∀(ts:List α),(∀ t∈ts,∀ s,ab (f t) s=ev t s)->∀ s,gEval ab aa (ts.map f) s=gEval ev aa ts s
 | [],_,s=>rfl
 |t::r,h,s=>by
  rw[List.map_cons];unfold gEval;rw[h t List.mem_cons_self];split
  ·rfl
  ·exact QdV aa r (fun x hx=>h x (List.mem_cons_of_mem _ hx)) _
theorem QhN(M:Msg):∀(n:Nat) (x:Qa6 n) (s:SS),evalT M n (Qbz n x) s=evalT M n x s
 |0,x,s=>rfl
 |n+1,x,s=>by
  have ih:=QhN M n;show QcX M (evalT M n) (zT x.1) (x.2.map (Qbz n)) s=QcX M (evalT M n) x.1 x.2 s
  unfold QcX;rw[show(zT x.1).kind=x.1.kind from rfl];generalize x.1.kind=k;rcases k with _|_|_|_|_|_|_|_|_|k
  ·rfl
  ·rfl
  ·show Qfi (evalT M n) (x.2.map (Qbz n)) s=Qfi (evalT M n) x.2 s
   cases x.2 with
   |nil=>rfl
   |cons t r=>show(!(evalT M n (Qbz n t) s).1,(evalT M n (Qbz n t) s).2)=_;rw[ih];rfl
  ·exact QdV false x.2 (fun t _ s=>ih t s) s
  ·exact QdV true x.2 (fun t _ s=>ih t s) s
  all_goals rfl
def noAt (r:CR):Except Int (SS×Bool):=
 match r with
 | .error e=>.error e.1
 | .ok y=>.ok y
theorem QdZ{α β:Type}{ev:α->SS->CR}{aa:β->SS->CR}{f:α->β}:∀(ts:List α),(∀ t∈ts,∀ s,noAt (aa (f t) s)=noAt (ev t s))->∀ s,noAt (Qej aa (ts.map f) s)=noAt (Qej ev ts s)
 | [],_,s=>rfl
 |t::r,h,s=>by
  rw[List.map_cons];unfold Qej;have h1:=h t List.mem_cons_self s
  match he:ev t s,he':aa (f t) s with
  | .error e,.error e'=>rw[he,he']at h1;exact h1
  | .error e,.ok y=>rw[he,he']at h1;cases h1
  | .ok y,.error e=>rw[he,he']at h1;cases h1
  | .ok (s1,true),.ok (s2,b)=>
   rw[he,he']at h1;injection h1 with h1
   injection h1 with h1 h2
   subst h1 h2;rfl
  | .ok (s1,false),.ok (s2,b)=>
   rw[he,he']at h1;injection h1 with h1
   injection h1 with h1 h2
   subst h1 h2;exact QdZ r (fun x hx=>h x (List.mem_cons_of_mem _ hx)) _
theorem Qgz{α β γ δ:Type}{tv:β->SS->Bool×SS}{ad:δ->SS->Bool×SS}{ev:α->SS->CR}{ac:γ->SS->CR}{f:α->γ}{g:β->δ}(ab:List α)(he:∀ t∈ab,∀ s,noAt (ac (f t) s)=noAt (ev t s)):∀(aa:List (β×List α)),(∀ a∈aa,(∀ s,ad (g a.1) s=tv a.1 s)/\∀ t∈a.2,∀ s,noAt (ac (f t) s)=noAt (ev t s))->∀ s,noAt (QhY ad ac (ab.map f) (aa.map fun a=>(g a.1,a.2.map f)) s)=noAt (QhY tv ev ab aa s)
 | [],_,s=>QdZ ab he s
 |a::r,h,s=>by
  obtain⟨h1,h2⟩:=h a List.mem_cons_self;rw[List.map_cons];unfold QhY;dsimp only;rw[h1 s];split
  ·exact QdZ a.2 h2 _
  ·exact Qgz ab he r (fun x hx=>h x (List.mem_cons_of_mem _ hx)) _
theorem Qrk(s:SS)(kind:Int)(arg:L8)(p q:Nat):noAt (QvI s kind arg p)=noAt (QvI s kind arg q):=by
 unfold QvI;split<;>rfl
theorem Qpi(M:Msg):∀(n:Nat) (x:Qbo n) (s:SS),noAt (Qc2 M n (Qdq n x) s)=noAt (Qc2 M n x s)
 |0,x,s=>rfl
 |n+1,x,s=>by
  have ih:=Qpi M n;show noAt (QfR (evalT M n) (Qc2 M n) (zC x.1) (x.2.1.map fun a=>(Qbz n a.1,a.2.map (Qdq n))) (x.2.2.map (Qdq n)) s)=noAt (QfR (evalT M n) (Qc2 M n) x.1 x.2.1 x.2.2 s)
  unfold QfR;rw[show(zC x.1).kind=x.1.kind from rfl];generalize x.1.kind=k;rcases k with _|_|_|_|_|_|_|k
  ·exact Qrk _ _ _ _ _
  ·rfl
  ·rfl
  ·exact Qrk _ _ _ _ _
  ·exact Qrk _ _ _ _ _
  ·exact Qrk _ _ _ _ _
  ·rfl
  ·exact Qgz x.2.2 (fun t _ s=>ih t s) x.2.1 (fun a _=>⟨fun s=>QhN M n a.1 s,fun t _ s=>ih t s⟩) s
def QxZ (x:L8):Prop:=36 ∉ x∧x.length≤1024
theorem QoG(s:SS):∀(n:Nat) (l aa:L8),l.length<n->36 ∉ l->aa.length+l.length<=1024->QoW s n l aa=aa++l
 |0,l,aa,h,_,_=>absurd h (Nat.not_lt_zero _)
 |n+1,[],aa,h,_,_=>by
  unfold QoW;rw[if_neg (by rintro⟨h,_⟩;exact h rfl),List.append_nil]
 |n+1,c::r,aa,h,hd,hl=>by
  have hc:c≠36:=fun e=>hd (by rw[e];exact List.mem_cons_self)
  have hv:QeO (c::r)=0:=by
   unfold QeO;rw[if_neg];rintro⟨h1,_⟩;rw[List.take_succ_cons]at h1;injection h1 with h1 _
   exact hc h1
  have hs:standL s (c::r)=([c],1):=by unfold standL;rw[if_pos hv];rfl
  simp only[List.length_cons]at h hl;unfold QoW;rw[if_pos ⟨by simp,by omega⟩,hs];dsimp only;rw[List.take_of_length_le (by simp;omega),List.drop_succ_cons,List.drop_zero,QoG s n r (aa++[c]) (by omega) (fun h=>hd (List.mem_cons_of_mem _ h)) (by simp;omega)];simp
theorem Qut(s:SS){x:L8}(h:QxZ x):expL s x=x:=by
 unfold expL;split
 ·rw[QoG s _ x [] (Nat.lt_succ_self _) h.1 (by simpa using h.2)];rfl
 ·rfl
theorem Qhn(s:SS){l:List (L8)}(h:∀ x∈l,QxZ x):l.map (expL s)=l:=by
 induction l with
 |nil=>rfl
 |cons x r ih=>rw[List.map_cons,Qut s (h x List.mem_cons_self),ih (fun y hy=>h y (List.mem_cons_of_mem _ hy))]
def QyS (x:Qcv) (m:Nat):Prop:=(∀ z∈x.fr,QxZ z)∧∀ z∈x.keys,QxZ z
def Qyy (s:SS) (u:Option (List (L8))):SS:=
 match u with
 | none=>s
 | some t=>QtH s t
def Qye (u v:Option (List (L8))):Option (List (L8)):=match v with | none=>u | some t=>some t
theorem Qrb(s:SS)(u v:Option (List (L8))):Qyy (Qyy s u) v=Qyy s (Qye u v):=by
 cases u<;>cases v<;>rfl
def QiG (ev:SS→Bool×SS):Prop:=∃ v u,∀ s,ev s=(v,Qyy s u)
theorem Qh1{tag:Int}{oct:Bool}{vals keys:List (L8)}(h:∀ x∈keys,QxZ x):QiG (fun s=>askL s tag oct vals keys):=by
 cases hh:QpO tag oct keys vals with
 |none=>exact⟨false,none,fun s=>by show askL s tag oct vals keys=_;unfold askL;rw[Qhn s h,hh];rfl⟩
 |some y=>
  refine⟨true,wayT tag oct y.1 y.2,fun s=>?_⟩;show askL s tag oct vals keys=_
  unfold askL;rw[Qhn s h,hh];obtain⟨a,b⟩:=y;dsimp only;cases wayT tag oct a b<;>rfl
theorem QfO{α:Type}{ev:α->SS->Bool×SS}(aa:Bool):∀(ts:List α),(∀ t∈ts,QiG (ev t))->QiG (gEval ev aa ts)
 | [],_=>⟨!aa,none,fun s=>rfl⟩
 |t::r,h=>by
  obtain⟨v,u,h1⟩:=h t List.mem_cons_self;obtain⟨v2,u2,h2⟩:=QfO aa r (fun x hx=>h x (List.mem_cons_of_mem _ hx));by_cases hv:v=aa
  ·refine⟨aa,u,fun s=>?_⟩;unfold gEval;rw[h1 s];dsimp only;rw[if_pos hv]
  ·refine⟨v2,Qye u u2,fun s=>?_⟩;unfold gEval;rw[h1 s];dsimp only;rw[if_neg hv,h2,Qrb]
theorem Qkr(M:Msg):∀(n:Nat) (x:Qa6 n),QiY QyS n x->QiG (evalT M n x)
 |0,x,h=>by cases h
 |n+1,x,h=>by
  obtain⟨⟨hf,hk⟩,hs⟩:=h;have ih:∀ t∈x.2,QiG (evalT M n t):=fun t ht=>Qkr M n t (hs t ht)
  show QiG (fun s=>QcX M (evalT M n) x.1 x.2 s)
  unfold QcX;generalize x.1.kind=k;rcases k with _|_|_|_|_|_|_|_|_|k
  ·exact⟨true,none,fun s=>rfl⟩
  ·exact⟨false,none,fun s=>rfl⟩
  ·show QiG (fun s=>Qfi (evalT M n) x.2 s)
   cases hx:x.2 with
   |nil=>exact⟨false,none,fun s=>rfl⟩
   |cons t r=>
    obtain⟨v,u,h1⟩:=ih t (by rw[hx];exact List.mem_cons_self);exact⟨!v,u,fun s=>by show(!(evalT M n t s).1,(evalT M n t s).2)=_;rw[h1 s]⟩
  ·exact QfO false x.2 ih
  ·exact QfO true x.2 ih
  ·obtain⟨v,u,h1⟩:=Qh1 (tag:=x.1.tag) (oct:=x.1.octet) (vals:=fieldsL M x.1.fr) hk;exact⟨v,u,fun s=>by show askL s x.1.tag x.1.octet (fieldsL M (x.1.fr.map (expL s))) x.1.keys=_;rw[Qhn s hf];exact h1 s⟩
  ·exact Qh1 hk
  ·obtain⟨v,u,h1⟩:=Qh1 (tag:=x.1.tag) (oct:=x.1.octet) (vals:=x.1.fr) hk;exact⟨v,u,fun s=>by show askL s x.1.tag x.1.octet (x.1.fr.map (expL s)) x.1.keys=_;rw[Qhn s hf];exact h1 s⟩
  ·exact⟨existsL M x.1.fr,none,fun s=>by show(existsL M (x.1.fr.map (expL s)),s)=_;rw[Qhn s hf];rfl⟩
  ·exact⟨sizeB M x.1.tag x.1.num,none,fun s=>rfl⟩
def QuQ (b:L8):L8:=32 :: 123 :: (Qd6++59 :: 125 :: 32 :: (Qch++32 :: 123 :: (b++10 :: 125 :: [])))
def Qkg (a b:L8):L8:=32 :: 123 :: (a++10 :: 125 :: (32 :: (QbM++32 :: (QcD++QuQ b))))
theorem Qgl{l r r':L8}{k nu q:Nat}{sp sa:L8}{s:PS}(ht:Tok r r' k sp sa nu)(hd:l.drop q=r)(hn:nL l q=.ok s):s.1.spelt=sp/\l.drop s.2=r':=by
 obtain⟨q1,q2,h1,h2⟩:=ht l q hd;rw[h1]at hn;cases hn;exact⟨rfl,h2⟩
theorem Qu8{l:L8}{req:List (L8)}{F n k:Nat}{s:PS}{y:Qbo (n+1)×PS}(hk:wL cNs s.1.spelt=k+1)(h:cmdL l req F (n+1) s=.ok y):∃ s1,nL l s.2=.ok s1/\cBd l F (testL l req F n) (cmdL l req F n) k s.1.pos s1=.ok y:=by
 rw[cmdL,if_neg (by rw[hk];omega),hk,Nat.add_sub_cancel]at h;by_cases hu:Qb6 req s.1.spelt=true
 ·rw[if_pos hu]at h
  cases hn:nL l s.2 with
  |error e=>cases(QaC hn).symm.trans h
  |ok s1=>exact⟨s1,rfl,(QaE hn).symm.trans h⟩
 ·rw[if_neg hu]at h;cases h
theorem Qst{b l:L8}{F:Nat}{sT:PS}(hF:2<=F)(hd:l.drop sT.2=Qd6++59::125::32::(Qch++32::123::(b++10::125::[]))){y:List (Qbo 6)×PS}(h:blockL l F (cmdL l Qb5 F 6) sT=.ok y) :
 ∃ c:Qbo 6,y.1=[c]/\c.1.kind=2/\y.2.1.spelt=Qch/\l.drop y.2.2=32::123::(b++10::125::[]):=by
 unfold blockL at h
 cases hps:paL l [[123]] sT with
 |error e=>rw[Qad hps]at h;cases h
 |ok z=>
  rw[Qac hps]at h;have hn:=(Qen hps).2;obtain⟨s,hs⟩:∃ s,s=z.2:=⟨_,rfl⟩;rw[<-hs]at hn h;obtain⟨w1,w2⟩:=Qgl (QdB (w:=Qd6) ⟨by decide,by decide⟩ (Qk9 (by decide))) hd hn;obtain⟨f,rfl⟩:∃ f,F=f+2:=⟨F - 2,by omega⟩;have hm:mayL l [[125]] s=.ok (0,s):=by unfold mayL;rw[w1,if_pos (by decide)]
  rw[show bMr l (cmdL l Qb5 (f+2) 6) (f+2) [] s=bMr l (cmdL l Qb5 (f+2) 6) (f+1+1) [] s from rfl,bMr,Qac hm,if_pos rfl]at h
  cases hc:cmdL l Qb5 (f+2) 6 s with
  |error e=>rw[Qad hc]at h;cases h
  |ok yc=>
   rw[Qac hc]at h;obtain⟨s4,n4,hb⟩:=Qu8 (n:=5) (k:=2) (by rw[w1];decide) hc;have aa:semi l s4 ((⟨2,s.1.pos,0,[],[],false⟩:Qgt),([]:List (Qa6 5×List (Qbo 5))),([]:List (Qbo 5)))=.ok yc:=hb;obtain⟨v1,v2⟩:=Qgl (QuE _) w2 n4;unfold semi at aa
   cases hp:paL l [[59]] s4 with
   |error e=>rw[Qad hp]at aa;cases aa
   |ok i=>
    rw[Qac hp]at aa;have n5:=(Qen hp).2;obtain⟨x1,x2⟩:=Qgl (QtS _) v2 n5;have e1:yc.2=i.2:=by cases aa;rfl
    have e2:yc.1.1.kind=2:=by cases aa;rfl
    rw[e1,bMr]at h
    cases hm2:mayL l [[125]] i.2 with
    |error e=>rw[Qad hm2]at h;cases h
    |ok j=>
     rw[Qac hm2]at h
     have hj:j.1≠0:=by
      unfold mayL at hm2;rw[x1,if_neg (by decide)]at hm2
      cases hn6:nL l i.2.2 with
      |error e=>rw[hn6]at hm2;cases hm2
      |ok w=>rw[hn6]at hm2;cases hm2;show wL [[125]] [125]≠0;decide
     rw[if_neg hj]at h;have n6:=(QiZ hm2 hj).2;obtain⟨z1,z2⟩:=Qgl (QbO (c:=32) (by decide) (QdB (w:=Qch) ⟨by decide,by decide⟩ (QfD _))) x2 n6;have e3:y=([yc.1],j.2):=by injection h with h;exact h.symm
     rw[e3];exact⟨yc.1,rfl,e2,z1,z2⟩
theorem Qoy{α β:Type}{l:L8}{F:Nat}{aa:PS->Except Flt (β×PS)}{sub:PS->Except Flt (α×PS)}{s:PS}{y:(β×List α)×PS}(h:armL l F aa sub s=.ok y):∃ z,aa s=.ok z/\∃ w,blockL l F sub z.2=.ok w/\y=((z.1,w.1),w.2):=by
 unfold armL at h
 cases ht:aa s with
 |error e=>rw[Qad ht]at h;cases h
 |ok z=>
  rw[Qac ht]at h
  cases hb:blockL l F sub z.2 with
  |error e=>rw[Qad hb]at h;cases h
  |ok w=>rw[Qac hb]at h;cases h;exact⟨z,rfl,w,hb,rfl⟩
theorem Qr1{a b:L8}{ca cb:List (Qbo 7)}(ha:CmdsP a ca)(hb:CmdsP b cb){l:L8}{F aw q:Nat}{s1 sT:PS}{T:Qa6 6}{y:(Qgt×List (Qa6 6×List (Qbo 6))×List (Qbo 6))×PS}(hF:2<=F)(ah:2*(QaG.length+a.length+1)+10<=F)(ai:2*(QaG.length+b.length+1)+10<=F)
 (ht:testL l Qb5 F 6 s1=.ok (T,sT)) (hn:nL l q=.ok sT) (hd:l.drop q=Qkg a b) (h:cBd l F (testL l Qb5 F 6) (cmdL l Qb5 F 6) 7 aw s1=.ok y) :
 ∃(A B:List (Qbo 6)) (x:Qcv) (c:Qbo 6),y.1.1.kind=7/\y.1.2.1=[(T,A),((x,[]),[c])]/\x.kind=1/\c.1.kind=2/\y.1.2.2=B/\ca.map (Qdq 7)=A.map (gC 1 6)/\cb.map (Qdq 7)=B.map (gC 1 6)/\y.2.1.kind=0:=by
 have hq:=Qf4 hd;have af:l.drop sT.2=a++10::125::(32::(QbM++32::(QcD++QuQ b)))/\sT.2<=l.length:=⟨(Qgl (QeE _) hd hn).2,(Qby l q hq sT hn).2.1⟩;unfold cBd at h
 cases harm:armL l F (testL l Qb5 F 6) (cmdL l Qb5 F 6) s1 with
 |error e=>rw[Qad harm]at h;cases h
 |ok ya=>
  rw[Qac harm]at h;obtain⟨z,hz,yb,aj,rfl⟩:=Qoy harm;rw[ht]at hz;cases hz;obtain⟨hA,q2,ap,hq2l,ab⟩:=Qhl ha af.1 af.2 ah aj;obtain⟨s2,ad⟩:∃ s2,s2=yb.2:=⟨_,rfl⟩;rw[<-ad]at ab;dsimp only at h;rw[<-ad]at h;obtain⟨k1,k2⟩:=Qgl (QbO (c:=32) (by decide) (QdB (w:=QbM) ⟨by decide,by decide⟩ (QfD _))) ap ab;obtain⟨f,rfl⟩:∃ f,F=f+2:=⟨F - 2,by omega⟩
  cases hmore:aMr l (f+2) (testL l Qb5 (f+2) 6) (cmdL l Qb5 (f+2) 6) (f+2) [(T,yb.1)] s2 with
  |error e=>rw[Qad hmore]at h;cases h
  |ok ym=>
   rw[Qac hmore]at h;rw[show aMr l (f+2) (testL l Qb5 (f+2) 6) (cmdL l Qb5 (f+2) 6) (f+2) [(T,yb.1)] s2=aMr l (f+2) (testL l Qb5 (f+2) 6) (cmdL l Qb5 (f+2) 6) (f+1+1) [(T,yb.1)] s2 from rfl,aMr]at hmore
   cases hm:mayL l [QbM] s2 with
   |error e=>rw[Qad hm]at hmore;cases hmore
   |ok i=>
    rw[Qac hm]at hmore
    have hi:i.1≠0:=by
     unfold mayL at hm;rw[k1,if_neg (by decide)]at hm
     cases hn6:nL l s2.2 with
     |error e=>rw[hn6]at hm;cases hm
     |ok w=>rw[hn6]at hm;cases hm;show wL [QbM] QbM≠0;decide
    rw[if_neg hi]at hmore;have n3:=(QiZ hm hi).2;obtain⟨m1,m2⟩:=Qgl (QbO (c:=32) (by decide) (QdB (w:=QcD) (r:=QuQ b) ⟨by decide,by decide⟩ (QfD _))) k2 n3
    cases harm2:armL l (f+2) (testL l Qb5 (f+2) 6) (cmdL l Qb5 (f+2) 6) i.2 with
    |error e=>rw[Qad harm2]at hmore;cases hmore
    |ok ya2=>
     rw[Qac harm2]at hmore;obtain⟨z2,av,w2,au,rfl⟩:=Qoy harm2;obtain⟨s4,n4,ak⟩:=Qg3 (n:=5) (k:=1) (by rw[m1];decide) av;have aa:(.ok ((⟨1,i.2.1.pos,0,false,[],[],0⟩,[]),s4):Except Flt ((Qcv×List (Qa6 5))×PS))=.ok z2:=ak;obtain⟨p1,p2⟩:=Qgl (QeE _) m2 n4;have e1:z2.2=s4:=by injection aa with aa;rw[<-aa]
     have e2:z2.1=((⟨1,i.2.1.pos,0,false,[],[],0⟩:Qcv),([]:List (Qa6 5))):=by injection aa with aa;rw[<-aa]
     obtain⟨c,g1,g2,g3,g4⟩:=Qst (by omega) (by rw[e1];exact p2) au;dsimp only at hmore;obtain⟨s5,ar⟩:∃ s5,s5=w2.2:=⟨_,rfl⟩;rw[<-ar]at hmore g3 g4;have ao:mayL l [QbM] s5=.ok (0,s5):=by unfold mayL;rw[g3,if_pos (by decide)]
     rw[aMr,Qac ao,if_pos rfl]at hmore;have ag:ym=([(T,yb.1)]++[(z2.1,w2.1)],s5):=by injection hmore with hmore;exact hmore.symm
     rw[ag]at h;dsimp only at h
     cases hm6:mayL l [Qch] s5 with
     |error e=>rw[Qad hm6]at h;cases h
     |ok j=>
      rw[Qac hm6]at h
      have hj:j.1≠0:=by
       unfold mayL at hm6;rw[g3,if_neg (by decide)]at hm6
       cases hn6:nL l s5.2 with
       |error e=>rw[hn6]at hm6;cases hm6
       |ok w=>rw[hn6]at hm6;cases hm6;show wL [Qch] Qch≠0;decide
      rw[if_neg hj]at h;have n7:=(QiZ hm6 hj).2;have ae:l.drop j.2.2=b++10::125::[]/\j.2.2<=l.length:=⟨(Qgl (QeE _) g4 n7).2,(Qby l _ (Qf4 g4) j.2 n7).2.1⟩
      cases hbk2:blockL l (f+2) (cmdL l Qb5 (f+2) 6) j.2 with
      |error e=>rw[Qad hbk2]at h;cases h
      |ok yc=>
       rw[Qac hbk2]at h;obtain⟨hB,q4,aq,hq4l,ac⟩:=Qhl hb ae.1 ae.2 ai hbk2;obtain⟨t1,t2,h1,h2⟩:=Qpd l q4 aq;cases h;refine⟨yb.1,yc.1,⟨1,i.2.1.pos,0,false,[],[],0⟩,c,rfl,?_,rfl,g2,rfl,hA,hB,?_⟩
       ·show [(T,yb.1)]++[(z2.1,w2.1)]=_
        rw[e2,g1];rfl
       ·show yc.2.1.kind=0
        rw[h1]at ac;generalize yc.2=s at *;cases ac;rfl
theorem Qtn(a b:L8):(Qkg a b).length=a.length+b.length+33:=by
 unfold Qkg QuQ;simp only[List.length_cons,List.length_append,List.length_nil,show Qch.length=4 from rfl,show QbM.length=5 from rfl,show QcD.length=5 from rfl,show Qd6.length=4 from rfl];omega
theorem Qx1{t a b:L8}{T:Qa6 6}{ca cb:List (Qbo 7)}(ht:TestP t T)(ha:CmdsP a ca)(hb:CmdsP b cb){y:List (L8)×List (Qbo 7)}(h:prL (QaG++(kIf++32::(QbV++32::40::(t++10::41::Qkg a b))))=.ok y) :
 y.1=Qb5/\∃(c:Qbo 7) (x x2:Qcv) (T1:Qa6 5) (A B:List (Qbo 6)) (c2:Qbo 6),y.2=[c]/\c.1.kind=7/\c.2.1=[((x,[T1]),A),((x2,[]),[c2])]/\x.kind=4/\x2.kind=1/\c2.1.kind=2/\c.2.2=B/\Qbz 6 T=gU 1 5 T1/\ca.map (Qdq 7)=A.map (gC 1 6)/\cb.map (Qdq 7)=B.map (gC 1 6):=by
 obtain⟨F,pos,s1,yc,r,ap,ay,az,ae,aa,hr⟩:=QlY h;obtain⟨l,hl⟩:∃ l,l=QaG++(kIf++32::(QbV++32::40::(t++10::41::Qkg a b))):=⟨_,rfl⟩;obtain⟨A0,af⟩:∃ A0,A0=QaG++(kIf++[32]):=⟨_,rfl⟩;obtain⟨A1,ao⟩:∃ A1,A1=QaG++(kIf++32::(QbV++32::[40])):=⟨_,rfl⟩;rw[<-hl]at ap ae aa;rw[<-af]at ae;have au:l=A0++(QbV++32::40::(t++10::41::Qkg a b)):=by rw[hl,af];simp
 have ad:l=A1++(t++10::41::Qkg a b):=by rw[hl,ao];simp
 have hll:QaG.length+t.length+a.length+b.length+32<=l.length:=by
  rw[hl];simp only[List.length_append,List.length_cons,Qtn,show kIf.length=2 from rfl,show QbV.length=5 from rfl];omega
 have hX:=Qhi t;obtain⟨_,_,T',cs,sT,s3,aj,_⟩:=QdW (by omega) aa;obtain⟨w1,w2,w3⟩:=QpN (w:=QbV) ⟨by decide,by decide⟩ (by rw[au,List.drop_left]) ae;obtain⟨s2,n2,ar⟩:=Qg3 (n:=5) (k:=4) (by rw[w1];decide) aj;obtain⟨z,aA,ak⟩:=QkZ (Or.inr rfl) ar;obtain⟨p,u1,ag,av,ah⟩:=Qka aA;have ai:l.drop s2.2=t++10::41::Qkg a b/\s2.2<=l.length:=⟨(Qgl (QbO (c:=32) (by decide) (QwH _)) w2 n2).2,(Qby l _ w3 s2 n2).2.1⟩;have aw:=Qi9 ad ai.1 ai.2;rw[aw]at ag;obtain⟨f,hf⟩:∃ f,F=f+1:=⟨F - 1,by omega⟩
 have aq:∀ s,nL (A1++(t++10::41::Qkg a b)) (A1.length+t.length)=.ok s->s.1.spelt=[41]:=fun s hs=>by
  rw[<-ad]at hs;exact(Qdf ad (QqS _) hs).1
 obtain⟨e1,ab⟩:=Qi2 ht (F':=F) (by omega) aq Qyp (by rw[<-ad];exact ag) (by rw[<-ad];exact av);rw[<-ad]at ab;obtain⟨c4,c5,c6⟩:=Qdf ad (QqS _) ab;rw[show gMr l (testL l Qb5 F 5) F [u1.1] u1.2=gMr l (testL l Qb5 F 5) (f+1) [u1.1] u1.2 by rw[hf]]at ah;obtain⟨g0,ac⟩:=QjT c4 ah;have eT:T'=((⟨4,s1.1.pos,0,false,[],[],0⟩:Qcv),z.1):=congrArg Prod.fst ak;have eS:sT=z.2:=congrArg Prod.snd ak;rw[<-eS]at ac;obtain⟨A,B,x2,c2,g1,g2,g3,g4,g5,g6,g7,g8⟩:=Qr1 ha hb (by omega) (by omega) (by omega) aj ac c5 aa;have ax:=hr g8;exact⟨ay,yc.1,⟨4,s1.1.pos,0,false,[],[],0⟩,x2,u1.1,A,B,c2,by rw[az,ax],g1,(by rw[g2,eT,g0];rfl),rfl,g3,g4,g5,e1,g6,g7⟩
theorem Qjf(M:Msg)(d:Nat){p:Qcv->Nat->Prop}:∀(n:Nat) (x:Qa6 n),QiY p n x->∀ s,evalT M (d+n) (upT d n x) s=evalT M n x s
 |0,x,h,s=>by cases h
 |n+1,x,h,s=>by
  have ih:∀ t∈x.2,∀ s,evalT M (d+n) (upT d n t) s=evalT M n t s:=fun t ht s=>Qjf M d n t (h.2 t ht) s
  show QcX M (evalT M (d+n)) x.1 (x.2.map (upT d n)) s=QcX M (evalT M n) x.1 x.2 s
  unfold QcX;generalize x.1.kind=k;rcases k with _|_|_|_|_|_|_|_|_|k
  ·rfl
  ·rfl
  ·show Qfi (evalT M (d+n)) (x.2.map (upT d n)) s=Qfi (evalT M n) x.2 s
   cases hx:x.2 with
   |nil=>rfl
   |cons t r=>show(!(evalT M (d+n) (upT d n t) s).1,(evalT M (d+n) (upT d n t) s).2)=_;rw[ih t (by rw[hx];exact List.mem_cons_self)];rfl
  ·exact QdV false x.2 ih s
  ·exact QdV true x.2 ih s
  all_goals rfl
theorem Qrg(M:Msg)(d:Nat){p:Qcv->Nat->Prop}{q:Qgt->Nat->Nat->Prop}:∀(n:Nat) (x:Qbo n),allC p q n x->∀ s,noAt (Qc2 M (d+n) (upC d n x) s)=noAt (Qc2 M n x s)
 |0,x,h,s=>by cases h
 |n+1,x,h,s=>by
  have aa:∀ c,allC p q n c->∀ s,noAt (Qc2 M (d+n) (upC d n c) s)=noAt (Qc2 M n c s):=fun c hc s=>Qrg M d n c hc s
  show noAt (QfR (evalT M (d+n)) (Qc2 M (d+n)) x.1 (x.2.1.map fun a=>(upT d n a.1,a.2.map (upC d n))) (x.2.2.map (upC d n)) s)=noAt (QfR (evalT M n) (Qc2 M n) x.1 x.2.1 x.2.2 s)
  unfold QfR;generalize x.1.kind=k;rcases k with _|_|_|_|_|_|_|k
  any_goals rfl
  exact Qgz x.2.2 (fun t ht s=>aa t (h.2.2 t ht) s) x.2.1 (fun a ha=>⟨fun s=>Qjf M d n a.1 (h.2.1 a ha).1 s,fun t ht s=>aa t ((h.2.1 a ha).2 t ht) s⟩) s
theorem Qjc(M:Msg){p:Qcv->Nat->Prop}{T:Qa6 6}{T':Qa6 5}(h:Qbz 6 T=gU 1 5 T')(hT:QiY p 5 T')(s:SS):evalT M 5 T' s=evalT M 6 T s:=by
 rw[<-QhN M 6 T s,h];show _=evalT M 6 (Qbz 6 (upT 1 5 T')) s
 rw[QhN];exact(Qjf M 1 5 T' hT s).symm
theorem QvV(M:Msg){p:Qcv->Nat->Prop}{T T':Qa6 6}(h:Qbz 6 T=gU 0 6 T')(hT:QiY p 6 T')(s:SS):evalT M 6 T' s=evalT M 6 T s:=by
 rw[<-QhN M 6 T s,h];show _=evalT M 6 (Qbz 6 (upT 0 6 T')) s
 rw[QhN];exact(Qjf M 0 6 T' hT s).symm
def Nod (l z:L8):Prop:=36 ∉ z∧z.length≤l.length
def Sf (l:L8) (s:PS):Prop:=Nod l s.1.said
theorem QhX:∀(r:L8) (x:L8×Nat),qL r=some x->∀ c∈x.1,c∈r
 | [],x,h=>by cases h
 |c::r,x,h=>by
  rw[qL.eq_def]at h;dsimp only at h
  split at h
  ·cases h;simp
  ·split at h
   ·cases r with
    |nil=>cases h
    |cons d r'=>
     dsimp only at h
     cases hq:qL r' with
     |none=>rw[hq]at h;cases h
     |some y=>
      have ih:=QhX r' y hq;rw[hq]at h;cases h;intro e he;rcases List.mem_cons.1 he with he|he
      ·subst he;simp
      ·exact List.mem_cons_of_mem _ (List.mem_cons_of_mem _ (ih e he))
   ·cases hq:qL r with
    |none=>rw[hq]at h;cases h
    |some y=>
     have ih:=QhX r y hq;rw[hq]at h;cases h;intro e he;rcases List.mem_cons.1 he with he|he
     ·subst he;simp
     ·exact List.mem_cons_of_mem _ (ih e he)
theorem QtX(r:L8)(p:Nat)(x:PS)(h:scanL r p=.ok x):∀ c∈x.1.said,c∈r:=by
 cases r with
 |nil=>unfold scanL at h;dsimp only at h;cases h;simp
 |cons c r=>
  unfold scanL at h;dsimp only at h
  split at h
  ·cases h;simp[QbD]
  ·split at h
   ·split at h
    ·cases h
    ·cases h;simp[QbD]
   ·split at h
    ·obtain⟨n',v',he⟩:∃ n' v':Nat,sNL (c::r) p=if letdig ((c::r).getD n' 0)then .error ⟨2,p⟩else if 2147483647<v' then .error ⟨3,p⟩else .ok (⟨4,p,[],[],v'⟩,p+n'):=⟨_,_,rfl⟩
     rw[he]at h
     split at h
     ·cases h
     ·split at h
      ·cases h
      ·cases h;simp
    ·split at h
     ·unfold quoteR at h
      cases hq:qL r with
      |none=>rw[hq]at h;cases h
      |some y=>
       rw[hq]at h;cases h;intro e he;exact List.mem_cons_of_mem _ (QhX r y hq e he)
     ·split at h
      ·cases h;simp[QbD]
      ·cases h
theorem Qfu{l:L8}{p:Nat}{s:PS}(aa:36 ∉ l)(h:nL l p=.ok s):Sf l s:=by
 refine⟨fun hm=>?_,(Qkm l p s h).1⟩;unfold nL at h
 cases hs:QbJ (l.length+1) (l.drop p) p with
 |error f=>rw[hs]at h;cases h
 |ok n=>
  rw[hs]at h;exact aa (List.mem_of_mem_drop (QtX _ n s h 36 hm))
def Hsf {α:Type} (l:L8) (P:α→Prop) (r:Except Flt (α×PS)):Prop:=∀ y,r=.ok y→P y.1∧Sf l y.2
theorem Qyh{l:L8}(aa:36 ∉ l){zs:List (L8)}{s:PS}(h:Sf l s):Hsf l (fun _=>True) (mayL l zs s):=fun y e=>by
 unfold mayL at e
 split at e
 ·cases e;exact⟨trivial,h⟩
 ·cases hn:nL l s.2 with
  |error f=>rw[hn]at e;cases e
  |ok s'=>rw[hn]at e;cases e;exact⟨trivial,Qfu aa hn⟩
theorem QpS{l:L8}(aa:36 ∉ l){zs:List (L8)}{s:PS}:Hsf l (fun _=>True) (paL l zs s):=fun y e=>by
 unfold paL at e
 split at e
 ·cases e
 ·cases hn:nL l s.2 with
  |error f=>rw[hn]at e;cases e
  |ok s'=>rw[hn]at e;cases e;exact⟨trivial,Qfu aa hn⟩
theorem QjJ{l:L8}(aa:36 ∉ l){chk:L8->Nat}{s:PS}(h:Sf l s):Hsf l (Nod l) (sL l chk s):=fun y e=>by
 unfold sL at e
 split at e
 ·split at e
  ·cases hn:nL l s.2 with
   |error f=>rw[hn]at e;cases e
   |ok s'=>rw[hn]at e;cases e;exact⟨h,Qfu aa hn⟩
  ·cases e
 ·cases e
def Qu2 (l:L8) (xs:List (L8)):Prop:=∀ z∈xs,Nod l z
theorem Qu2.snoc{l:L8}{xs:List (L8)}{z:L8}(h:Qu2 l xs)(hz:Nod l z):Qu2 l (xs++[z]):=fun u hu=>by
 rcases List.mem_append.1 hu with hu|hu
 ·exact h u hu
 ·rw[List.mem_singleton.1 hu];exact hz
theorem QuD{l:L8}(ab:36 ∉ l){chk:L8->Nat}:∀(f:Nat) (aa:List (L8)) (s:PS),Sf l s->Qu2 l aa->Hsf l (Qu2 l) (moreL l chk f aa s)
 |0,aa,s,h,hc=>fun y e=>by cases e;exact⟨hc,h⟩
 |f+1,aa,s,h,hc=>fun y e=>by
  rw[moreL]at e
  cases hp:paL l [[44],[93]] s with
  |error g=>rw[hp]at e;cases e
  |ok z=>
   rw[hp]at e;have h0:=(QpS ab z hp).2;dsimp only at e
   split at e
   ·cases hs:sL l chk z.2 with
    |error g=>rw[hs]at e;cases e
    |ok x=>
     rw[hs]at e;have h1:=QjJ ab h0 x hs;exact QuD ab f _ x.2 h1.2 (hc.snoc h1.1) y e
   ·cases e;exact⟨hc,h0⟩
theorem QhU{l:L8}(aa:36 ∉ l){chk:L8->Nat}{F:Nat}{s:PS}(h:Sf l s):Hsf l (Qu2 l) (sLs l chk F s):=fun y e=>by
 unfold sLs at e
 cases hm:mayL l [[91]] s with
 |error g=>rw[hm]at e;cases e
 |ok z=>
  rw[hm]at e;have h0:=(Qyh aa h z hm).2;dsimp only at e
  cases hs:sL l chk z.2 with
  |error g=>rw[hs]at e;cases e
  |ok x=>
   rw[hs]at e;have h1:=QjJ aa h0 x hs;have h2:Qu2 l [x.1]:=fun u hu=>by rw[List.mem_singleton.1 hu];exact h1.1
   dsimp only at e
   split at e
   ·cases e;exact⟨h2,h1.2⟩
   ·exact QuD aa F [x.1] x.2 h1.2 h2 y e
theorem Qtq{l:L8}(aa:36 ∉ l):∀(f tag:Nat) (oct ab:Bool) (s:PS),Sf l s->Hsf l (fun _=>True) (Qd3 l f tag oct ab s)
 |0,tag,oct,ab,s,h=>fun y e=>by cases e;exact⟨trivial,h⟩
 |f+1,tag,oct,ab,s,h=>fun y e=>by
  rw[Qd3]at e;by_cases h1:wL [tIs,Qaq,Qaz] s.1.spelt=0
  ·rw[if_pos h1]at e;by_cases h2:wL [Qas] s.1.spelt=0
   ·rw[if_pos h2]at e;cases e;exact⟨trivial,h⟩
   ·rw[if_neg h2]at e;cases ab
    ·rw[if_neg (by decide)]at e
     cases hn:nL l s.2 with
     |error g=>rw[QaC hn]at e;cases e
     |ok z=>
      rw[QaE hn]at e
      cases hs:sL l (fun x=>if 0<wL [Qcl,QdD] x then 0 else 7) z with
      |error g=>rw[Qad hs]at e;cases e
      |ok x=>
       rw[Qac hs]at e;exact Qtq aa f _ _ _ x.2 (QjJ aa (Qfu aa hn) x hs).2 y e
    ·rw[if_pos rfl]at e;cases e
  ·rw[if_neg h1]at e;by_cases h3:tag=0
   ·rw[if_pos h3]at e
    cases hn:nL l s.2 with
    |error g=>rw[QaC hn]at e;cases e
    |ok z=>
     rw[QaE hn]at e;exact Qtq aa f _ _ _ z (Qfu aa hn) y e
   ·rw[if_neg h3]at e;cases e
def QxQ (l:L8) (x:Qcv) (m:Nat):Prop:=Qu2 l x.fr∧Qu2 l x.keys
theorem QvN(l:L8):Qu2 l []:=fun u hu=>by cases hu
theorem Ql2{l:L8}(aa:36 ∉ l){F:Nat}{chk:L8->Nat}{k ab:Nat}{s:PS}(h:Sf l s):Hsf l (fun x=>QxQ l x 0) (Qbp l F chk k ab s):=fun y e=>by
 unfold Qbp at e
 cases h1:Qd3 l F 0 false false s with
 |error f=>rw[Qad h1]at e;cases e
 |ok a=>
  rw[Qac h1]at e;have g0:=(Qtq aa F 0 false false s h a h1).2
  cases h2:sLs l chk F a.2 with
  |error f=>rw[Qad h2]at e;cases e
  |ok c=>
   rw[Qac h2]at e;have g1:=QhU aa g0 c h2
   cases h3:sLs l (fun _=>0) F c.2 with
   |error f=>rw[Qad h3]at e;cases e
   |ok d=>
    rw[Qac h3]at e;have g2:=QhU aa g1.2 d h3;cases e;exact⟨⟨g1.1,g2.1⟩,g2.2⟩
theorem QiC{α:Type}{l:L8}(ab:36 ∉ l){sub:PS->Except Flt (α×PS)}{P:α->Prop}(hs:∀ s,Sf l s->Hsf l P (sub s)):∀(f:Nat) (aa:List α) (s:PS),Sf l s->(∀ a∈aa,P a)->Hsf l (fun xs=>∀ a∈xs,P a) (gMr l sub f aa s)
 |0,aa,s,g,hc=>fun y e=>by cases e;exact⟨hc,g⟩
 |f+1,aa,s,g,hc=>fun y e=>by
  rw[gMr]at e
  cases hp:paL l [[44],[41]] s with
  |error g=>rw[Qad hp]at e;cases e
  |ok z=>
   rw[Qac hp]at e;have h1:=(QpS ab z hp).2
   split at e
   ·cases hq:sub z.2 with
    |error g=>rw[Qad hq]at e;cases e
    |ok x=>
     rw[Qac hq]at e;have h2:=hs _ h1 x hq;refine QiC ab hs f _ x.2 h2.2 (fun u hu=>?_) y e;rcases List.mem_append.1 hu with hu|hu
     ·exact hc u hu
     ·rw[List.mem_singleton.1 hu];exact h2.1
   ·cases e;exact⟨hc,h1⟩
theorem Qru{α:Type}{l:L8}(aa:36 ∉ l){F:Nat}{sub:PS->Except Flt (α×PS)}{P:α->Prop}(hs:∀ s,Sf l s->Hsf l P (sub s)){s:PS}:Hsf l (fun xs=>∀ a∈xs,P a) (groupL l F sub s):=fun y e=>by
 unfold groupL at e
 cases hp:paL l [[40]] s with
 |error g=>rw[Qad hp]at e;cases e
 |ok z=>
  rw[Qac hp]at e;have h1:=(QpS aa z hp).2
  cases hq:sub z.2 with
  |error g=>rw[Qad hq]at e;cases e
  |ok x=>
   rw[Qac hq]at e;have h2:=hs _ h1 x hq;exact QiC aa hs F [x.1] x.2 h2.2 (fun u hu=>by rw[List.mem_singleton.1 hu];exact h2.1) y e
theorem Qqj(n:Nat){l:L8}(aa:36 ∉ l){F:Nat}{sub:PS->Except Flt (Qa6 n×PS)}(hs:∀ s,Sf l s->Hsf l (QiY (QxQ l) n) (sub s))(k ab:Nat){s:PS}(h:Sf l s):Hsf l (fun x:Qcv×List (Qa6 n)=>QxQ l x.1 x.2.length/\∀ a∈x.2,QiY (QxQ l) n a) (tBd l F sub k ab s):=fun y e=>by
 have n0:=QvN l;have e0:∀ a∈([]:List (Qa6 n)),QiY (QxQ l) n a:=fun a ha=>by cases ha
 unfold tBd at e
 split at e
 ·cases e;exact⟨⟨⟨n0,n0⟩,e0⟩,h⟩
 ·cases e;exact⟨⟨⟨n0,n0⟩,e0⟩,h⟩
 ·cases hq:sub s with
  |error g=>rw[Qad hq]at e;cases e
  |ok x=>
   rw[Qac hq]at e;have h1:=hs _ h x hq;cases e;exact⟨⟨⟨n0,n0⟩,fun a ha=>by rw[List.mem_singleton.1 ha];exact h1.1⟩,h1.2⟩
 ·cases hq:groupL l F sub s with
  |error g=>rw[Qad hq]at e;cases e
  |ok x=>
   rw[Qac hq]at e;have h1:=Qru aa hs x hq;cases e;exact⟨⟨⟨n0,n0⟩,h1.1⟩,h1.2⟩
 ·cases hq:groupL l F sub s with
  |error g=>rw[Qad hq]at e;cases e
  |ok x=>
   rw[Qac hq]at e;have h1:=Qru aa hs x hq;cases e;exact⟨⟨⟨n0,n0⟩,h1.1⟩,h1.2⟩
 ·cases hq:Qbp l F (fun _=>0) 5 ab s with
  |error g=>rw[Qad hq]at e;cases e
  |ok x=>
   rw[Qac hq]at e;have h1:=Ql2 aa h x hq;cases e;exact⟨⟨h1.1,e0⟩,h1.2⟩
 ·cases hq:Qbp l F (fun x=>if 0<wL [QhJ,kTo] (zL x)then 0 else 7) 6 ab s with
  |error g=>rw[Qad hq]at e;cases e
  |ok x=>
   rw[Qac hq]at e;have h1:=Ql2 aa h x hq;cases e;exact⟨⟨h1.1,e0⟩,h1.2⟩
 ·cases hq:Qbp l F (fun _=>0) 7 ab s with
  |error g=>rw[Qad hq]at e;cases e
  |ok x=>
   rw[Qac hq]at e;have h1:=Ql2 aa h x hq;cases e;exact⟨⟨h1.1,e0⟩,h1.2⟩
 ·cases hq:sLs l (fun _=>0) F s with
  |error g=>rw[Qad hq]at e;cases e
  |ok x=>
   rw[Qac hq]at e;have h1:=QhU aa h x hq;cases e;exact⟨⟨⟨h1.1,n0⟩,e0⟩,h1.2⟩
 ·cases hq:sizeL l ab s with
  |error g=>rw[Qad hq]at e;cases e
  |ok x=>
   rw[Qac hq]at e;unfold sizeL at hq
   cases hp:paL l [Qdh,Qb9] s with
   |error g=>rw[Qad hp]at hq;cases hq
   |ok i=>
    rw[Qac hp]at hq
    split at hq
    ·cases hn:nL l i.2.2 with
     |error f=>rw[QaC hn]at hq;cases hq
     |ok z=>
      rw[QaE hn]at hq;cases hq;cases e;exact⟨⟨⟨n0,n0⟩,e0⟩,Qfu aa hn⟩
    ·cases hq
theorem Qur{l:L8}(aa:36 ∉ l){req:List (L8)}{F:Nat}:∀(n:Nat) (s:PS),Sf l s->Hsf l (QiY (QxQ l) n) (testL l req F n s)
 |0,s,h=>fun y e=>by rw[testL]at e;split at e<;>cases e
 |n+1,s,h=>fun y e=>by
  rw[testL]at e;by_cases h0:wL tNs s.1.spelt=0
  ·rw[if_pos h0]at e;cases e
  ·rw[if_neg h0]at e;cases hu:Qb6 req s.1.spelt
   ·rw[hu,if_neg (by decide)]at e;cases e
   ·rw[hu,if_pos rfl]at e
    cases hn:nL l s.2 with
    |error g=>cases(QaC hn).symm.trans e
    |ok z=>
     replace e:=(QaE hn).symm.trans e;exact Qqj n aa (fun s g=>Qur aa n s g) _ _ (Qfu aa hn) y e
theorem QoH{p q:Qcv->Nat->Prop}(h:∀ x m,p x m->q x m):∀(n:Nat) (x:Qa6 n),QiY p n x->QiY q n x
 |0,x,hx=>by cases hx
 |n+1,x,hx=>⟨h _ _ hx.1,fun a ha=>QoH h n a (hx.2 a ha)⟩
theorem QvU{t:L8}{T:Qa6 6}(M:Msg)(h:TestP t T)(ac:36 ∉ t)(hl:t.length<=600):QiG (evalT M 6 T):=by
 obtain⟨s1,sT,h1,h2,h3⟩:=h.at_
 have aa:36 ∉ QcG t:=by
  intro hm;unfold QcG at hm;rcases List.mem_append.1 hm with hm|hm
  ·exact absurd hm (by decide)
  ·rcases List.mem_append.1 hm with hm|hm
   ·exact absurd hm (by decide)
   ·rcases List.mem_cons.1 hm with hm|hm
    ·exact absurd hm (by decide)
    ·rcases List.mem_append.1 hm with hm|hm
     ·exact ac hm
     ·exact absurd hm (by decide)
 have ab:(QcG t).length<=1024:=by
  unfold QcG;simp only[List.length_append,List.length_cons];have e1:QaG.length<=80:=by decide
  have e2:kIf.length=2:=rfl;have e3:Qfj.length=3:=rfl;omega
 have g:=(Qur aa 6 s1 (Qfu aa h1) _ h2).1;refine Qkr M 6 T (QoH (fun x m hx=>?_) 6 T g);exact⟨fun z hz=>⟨(hx.1 z hz).1,Nat.le_trans (hx.1 z hz).2 ab⟩,fun z hz=>⟨(hx.2 z hz).1,Nat.le_trans (hx.2 z hz).2 ab⟩⟩
theorem QwS{l:L8}{s y:PS}(h:Gp l s)(hn:nL l s.2=.ok y):Gp l y/\64*s.1.spelt.length+64*ph l y<=64*ph l s:=by
 obtain⟨h1,h2⟩:=Qi6 h hn;have h3:=h.spl;have h4:=h.le;have h5:=h1.le;have h6:=h1.lt;have h7:=h.lt;refine⟨h1,?_⟩;unfold ph;omega
theorem QhR{α:Type}(c:α->Nat)(x:α)(xs:List α):Qbu c (x::xs)=c x+Qbu c xs:=by simp[Qbu]
theorem Qnl{α:Type}(c:α->Nat)(x:α):Qbu c [x]=c x:=by simp[Qbu]
theorem Qig{α:Type}{l:L8}{sub:PS->Except Flt (α×PS)}{c:α->Nat}(hs:∀ s,Gp l s->Ct 32 l c (sub s) s):∀(f:Nat) (aa:List α) (s:PS),Gp l s->ph l s<f->∀ y,gMr l sub f aa s=.ok y->Gp l y.2/\Qbu (fun x=>c x+96) y.1+64+64*ph l y.2<=Qbu (fun x=>c x+96) aa+64*ph l s
 |0,aa,s,h,hf=>absurd hf (Nat.not_lt_zero _)
 |f+1,aa,s,h,hf=>fun y e=>by
  rw[gMr]at e
  cases hp:paL l [[44],[41]] s with
  |error g=>rw[Qad hp]at e;cases e
  |ok z=>
   rw[Qac hp]at e;obtain⟨h1,h2⟩:=QcM (zs:=[[44],[41]]) h (by decide) z hp
   split at e
   ·cases hq:sub z.2 with
    |error g=>rw[Qad hq]at e;cases e
    |ok x=>
     rw[Qac hq]at e;obtain⟨h3,h4⟩:=hs z.2 h1 x hq;obtain⟨h5,h6⟩:=Qig hs f _ x.2 h3 (by dsimp only at *;omega) y e;refine⟨h5,?_⟩;rw[QdL]at h6;dsimp only at *;omega
   ·cases e;exact⟨h1,by dsimp only at *;omega⟩
theorem Qrt{α:Type}{l:L8}{F:Nat}{sub:PS->Except Flt (α×PS)}{c:α->Nat}(hF:l.length<F)(hs:∀ s,Gp l s->Ct 32 l c (sub s) s){s:PS}(h:Gp l s):Ct 64 l (Qbu (fun x=>c x+96)) (groupL l F sub s) s:=fun y e=>by
 unfold groupL at e
 cases hp:paL l [[40]] s with
 |error g=>rw[Qad hp]at e;cases e
 |ok z=>
  rw[Qac hp]at e;obtain⟨h1,h2⟩:=QcM (zs:=[[40]]) h (by decide) z hp
  cases hq:sub z.2 with
  |error g=>rw[Qad hq]at e;cases e
  |ok x=>
   rw[Qac hq]at e;obtain⟨h3,h4⟩:=hs z.2 h1 x hq;have hph:ph l x.2<=l.length:=by unfold ph;omega
   obtain⟨h5,h6⟩:=Qig hs F _ x.2 h3 (by omega) y e;refine⟨h5,?_⟩;rw[Qnl]at h6;dsimp only at *;omega
theorem Qrl{α:Type}(tc:α->List Ins)(j:Int):∀ ts:List α,96*(QfY tc j ts).length=Qbu (fun x=>96*(tc x).length+96) ts
 | []=>rfl
 |t::r=>by
  have:=Qrl tc j r;rw[QhR];simp only[QfY,List.length_append,List.length_cons];omega
theorem Qoq{α:Type}(tc:α->List Ins)(j:Int)(b:Bool)(ts:List α):96*(Qd4 tc j b ts).length=Qbu (fun x=>96*(tc x).length+96) ts+288:=by
 have h1:=Qrl tc j ts;unfold Qd4;simp only[List.length_append,List.length_cons,List.length_nil,Qfl];omega
theorem QmR{l:L8}{F:Nat}{chk:L8->Nat}{k aa:Nat}{s:PS}{y:Qcv×PS}(h:Gp l s)(e:Qbp l F chk k aa s=.ok y):Gp l y.2/\64*ph l y.2<=64*ph l s:=by
 obtain⟨h1,h2⟩:=Qi3 h y e;exact⟨h1,by omega⟩
def QvG (k:Nat):Nat:=if k=2 then 3 else if k=3∨k=4 then 5 else 4
theorem Qpq(n:Nat){l:L8}{F:Nat}{sub:PS->Except Flt (Qa6 n×PS)}(hF:l.length<F)(hs:∀ s,Gp l s->Ct 32 l (fun x=>96*(Qde n x).length) (sub s) s)(k aa:Nat){s:PS}(h:Gp l s):∀ y,tBd l F sub k aa s=.ok y->Gp l y.2/\96*(Qde (n+1) y.1).length+32+64*ph l y.2<=64*QvG k+64*ph l s:=by
 intro y e;unfold tBd at e
 split at e
 ·cases e;exact⟨h,by show 96*1+32+64*ph l s<=64*4+_;omega⟩
 ·cases e;exact⟨h,by show 96*1+32+64*ph l s<=64*4+_;omega⟩
 ·cases hq:sub s with
  |error g=>rw[Qad hq]at e;cases e
  |ok x=>
   rw[Qac hq]at e;obtain⟨h1,h2⟩:=hs s h x hq;cases e;refine⟨h1,?_⟩;show 96*(Qa4 (Qde n) [x.1]++[insOp 2]).length+32+64*ph l x.2<=64*3+_
   simp only[Qa4,List.flatMap_cons,List.flatMap_nil,List.append_nil,List.length_append,List.length_cons,List.length_nil];dsimp only at *;omega
 ·cases hq:groupL l F sub s with
  |error g=>rw[Qad hq]at e;cases e
  |ok x=>
   rw[Qac hq]at e;obtain⟨h1,h2⟩:=Qrt hF hs h x hq;cases e;refine⟨h1,?_⟩;show 96*(Qd4 (Qde n) 5 false x.1).length+32+64*ph l x.2<=64*5+_
   rw[Qoq];omega
 ·cases hq:groupL l F sub s with
  |error g=>rw[Qad hq]at e;cases e
  |ok x=>
   rw[Qac hq]at e;obtain⟨h1,h2⟩:=Qrt hF hs h x hq;cases e;refine⟨h1,?_⟩;show 96*(Qd4 (Qde n) 4 true x.1).length+32+64*ph l x.2<=64*5+_
   rw[Qoq];omega
 ·cases hq:Qbp l F (fun _=>0) 5 aa s with
  |error g=>rw[Qad hq]at e;cases e
  |ok x=>
   rw[Qac hq]at e;obtain⟨h1,h2⟩:=QmR h hq;have h3:=QdN hq;cases e;refine⟨h1,?_⟩
   have h4:(Qde (n+1) ((x.1,[]):Qa6 (n+1))).length=1:=by
    show(Qep (Qde n) x.1 []).length=1
    unfold Qep;rw[h3];rfl
   rw[h4];show 96*1+32+64*ph l x.2<=64*4+_
   omega
 ·cases hq:Qbp l F (fun x=>if 0<wL [QhJ,kTo] (zL x)then 0 else 7) 6 aa s with
  |error g=>rw[Qad hq]at e;cases e
  |ok x=>
   rw[Qac hq]at e;obtain⟨h1,h2⟩:=QmR h hq;have h3:=QdN hq;cases e;refine⟨h1,?_⟩
   have h4:(Qde (n+1) ((x.1,[]):Qa6 (n+1))).length=1:=by
    show(Qep (Qde n) x.1 []).length=1
    unfold Qep;rw[h3];rfl
   rw[h4];show 96*1+32+64*ph l x.2<=64*4+_
   omega
 ·cases hq:Qbp l F (fun _=>0) 7 aa s with
  |error g=>rw[Qad hq]at e;cases e
  |ok x=>
   rw[Qac hq]at e;obtain⟨h1,h2⟩:=QmR h hq;have h3:=QdN hq;cases e;refine⟨h1,?_⟩
   have h4:(Qde (n+1) ((x.1,[]):Qa6 (n+1))).length=1:=by
    show(Qep (Qde n) x.1 []).length=1
    unfold Qep;rw[h3];rfl
   rw[h4];show 96*1+32+64*ph l x.2<=64*4+_
   omega
 ·cases hq:sLs l (fun _=>0) F s with
  |error g=>rw[Qad hq]at e;cases e
  |ok x=>
   rw[Qac hq]at e;obtain⟨h1,h2⟩:=Qey h x hq;cases e;refine⟨h1,?_⟩;show 96*1+32+64*ph l x.2<=64*4+_
   omega
 ·next hk0 hk1 hk2 hk3 hk4 hk5 hk6 hk7 hk8=>
  cases hq:sizeL l aa s with
  |error g=>rw[Qad hq]at e;cases e
  |ok x=>
   rw[Qac hq]at e;obtain⟨h1,h2,h3,h4⟩:=Qtl h x hq;cases e;refine⟨h1,?_⟩
   have h5:(Qde (n+1) ((x.1,[]):Qa6 (n+1))).length=1:=by
    show(Qep (Qde n) x.1 []).length=1
    unfold Qep;rw[h3];rfl
   rw[h5]
   have h6:3<=QvG k:=by
    unfold QvG;by_cases a:k=2
    ·rw[if_pos a];omega
    ·rw[if_neg a];by_cases b:k=3\/k=4
     ·rw[if_pos b];omega
     ·rw[if_neg b];omega
   show 96*1+32+64*ph l x.2<=_
   omega
theorem QvS:∀ k,k<10->QvG k<=(tNs.getD k []).length:=by decide
theorem QtA{l:L8}{req:List (L8)}{F:Nat}(hF:l.length<F):∀(n:Nat) (s:PS),Gp l s->Ct 32 l (fun x=>96*(Qde n x).length) (testL l req F n s) s
 |0,s,h=>fun y e=>by
  rw[testL]at e
  split at e<;>cases e
 |n+1,s,h=>fun y e=>by
  rw[testL]at e;by_cases h0:wL tNs s.1.spelt=0
  ·rw[if_pos h0]at e;cases e
  ·rw[if_neg h0]at e;cases hu:Qb6 req s.1.spelt
   ·rw[hu,if_neg (by decide)]at e;cases e
   ·rw[hu,if_pos rfl]at e
    cases hn:nL l s.2 with
    |error g=>cases(QaC hn).symm.trans e
    |ok z=>
     replace e:=(QaE hn).symm.trans e;obtain⟨g1,g2⟩:=QwS h hn;obtain⟨g3,g4⟩:=Qpq n hF (fun s g=>QtA hF n s g) _ _ g1 y e;have g5:=QbN tNs s.1.spelt;have g6:tNs.length=10:=by decide
     have g7:=QvS (wL tNs s.1.spelt - 1) (by omega);rw[Qge tNs s.1.spelt h0]at g7;exact⟨g3,by dsimp only at *;omega⟩
theorem QiE{α:Type}{l:L8}{sub:PS->Except Flt (α×PS)}{c:α->Nat}(hg:∀ s,Gp l s->∀ y,sub s=.ok y->Gp l y.2/\ph l y.2<ph l s)(hs:∀ s,Gp l s->Ct 0 l c (sub s) s):∀(f:Nat) (aa:List α) (s:PS),Gp l s->ph l s<f->∀ y,bMr l sub f aa s=.ok y->Gp l y.2/\Qbu c y.1+64+64*ph l y.2<=Qbu c aa+64*ph l s
 |0,aa,s,h,hf=>absurd hf (Nat.not_lt_zero _)
 |f+1,aa,s,h,hf=>fun y e=>by
  rw[bMr]at e
  cases hp:mayL l [[125]] s with
  |error g=>rw[Qad hp]at e;cases e
  |ok z=>
   rw[Qac hp]at e;obtain⟨h1,h2⟩:=Qet (zs:=[[125]]) h (by decide) z hp
   split at e
   ·cases hq:sub z.2 with
    |error g=>rw[Qad hq]at e;cases e
    |ok x=>
     rw[Qac hq]at e;obtain⟨h3,h4⟩:=hs z.2 h1 x hq;have h7:=(hg z.2 h1 x hq).2;obtain⟨h5,h6⟩:=QiE hg hs f _ x.2 h3 (by dsimp only at *;split at h2<;>omega) y e;refine⟨h5,?_⟩;rw[QdL]at h6;dsimp only at *
     split at h2<;>omega
   ·next hi=>
    cases e;dsimp only at h2;rw[if_neg hi]at h2;exact⟨h1,by dsimp only at *;omega⟩
theorem QqY{α:Type}{l:L8}{F:Nat}{sub:PS->Except Flt (α×PS)}{c:α->Nat}(hF:l.length<F)(hg:∀ s,Gp l s->∀ y,sub s=.ok y->Gp l y.2/\ph l y.2<ph l s)(hs:∀ s,Gp l s->Ct 0 l c (sub s) s){s:PS}(h:Gp l s):Ct 128 l (Qbu c) (blockL l F sub s) s:=fun y e=>by
 unfold blockL at e
 cases hp:paL l [[123]] s with
 |error g=>rw[Qad hp]at e;cases e
 |ok z=>
  rw[Qac hp]at e;obtain⟨h1,h2⟩:=QcM (zs:=[[123]]) h (by decide) z hp;have hph:ph l z.2<=l.length:=by unfold ph;omega
  obtain⟨h5,h6⟩:=QiE hg hs F _ z.2 h1 (by omega) y e;refine⟨h5,?_⟩;have:Qbu c ([]:List α)=0:=rfl;dsimp only at *;omega
theorem QwG{α β:Type}{l:L8}{F:Nat}{aa:PS->Except Flt (β×PS)}{sub:PS->Except Flt (α×PS)}{ct:β->Nat}{c:α->Nat}(hF:l.length<F)(ht:∀ s,Gp l s->Ct 32 l ct (aa s) s)(hg:∀ s,Gp l s->∀ y,sub s=.ok y->Gp l y.2/\ph l y.2<ph l s)(hs:∀ s,Gp l s->Ct 0 l c (sub s) s){s:PS}(h:Gp l s):Ct 0 l (fun a=>160+ct a.1+Qbu c a.2) (armL l F aa sub s) s:=fun y e=>by
 unfold armL at e
 cases hp:aa s with
 |error g=>rw[Qad hp]at e;cases e
 |ok z=>
  rw[Qac hp]at e;obtain⟨h1,h2⟩:=ht s h z hp
  cases hq:blockL l F sub z.2 with
  |error g=>rw[Qad hq]at e;cases e
  |ok x=>
   rw[Qac hq]at e;obtain⟨h3,h4⟩:=QqY hF hg hs h1 x hq;cases e;exact⟨h3,by dsimp only at *;omega⟩
theorem Qtp{α β:Type}{l:L8}{F:Nat}{ab:PS->Except Flt (β×PS)}{sub:PS->Except Flt (α×PS)}{ct:β->Nat}{c:α->Nat}(hF:l.length<F)(ht:∀ s,Gp l s->Ct 32 l ct (ab s) s)(hg:∀ s,Gp l s->∀ y,sub s=.ok y->Gp l y.2/\ph l y.2<ph l s)(hs:∀ s,Gp l s->Ct 0 l c (sub s) s):∀(f:Nat) (aa:List (β×List α)) (s:PS),Gp l s->∀ y,aMr l F ab sub f aa s=.ok y->Gp l y.2/\Qbu (fun a=>192+ct a.1+Qbu c a.2) y.1+64*ph l y.2<=Qbu (fun a=>192+ct a.1+Qbu c a.2) aa+64*ph l s
 |0,aa,s,h=>fun y e=>by cases e;exact⟨h,Nat.le_refl _⟩
 |f+1,aa,s,h=>fun y e=>by
  rw[aMr]at e
  cases hp:mayL l [QbM] s with
  |error g=>rw[Qad hp]at e;cases e
  |ok z=>
   rw[Qac hp]at e;obtain⟨h1,h2⟩:=Qet (zs:=[QbM]) h (by decide) z hp
   split at e
   ·cases e;exact⟨h1,by dsimp only at *;split at h2<;>omega⟩
   ·next hi=>
    dsimp only at h2;rw[if_neg hi]at h2
    cases hq:armL l F ab sub z.2 with
    |error g=>rw[Qad hq]at e;cases e
    |ok x=>
     rw[Qac hq]at e;obtain⟨h3,h4⟩:=QwG hF ht hg hs h1 x hq;obtain⟨h5,h6⟩:=Qtp hF ht hg hs f _ x.2 h3 y e;refine⟨h5,?_⟩;rw[QdL]at h6;dsimp only at *;omega
theorem Qhm{α:Type}(cc:α->List Ins):∀ ts:List α,96*(Qa4 cc ts).length=Qbu (fun x=>96*(cc x).length) ts
 | []=>rfl
 |t::r=>by
  have:=Qhm cc r;rw[QhR];simp only[Qa4,List.flatMap_cons,List.length_append]at this ⊢;omega
theorem Qj6{α β:Type}(tc:β->List Ins)(cc:α->List Ins)(aa:List α):∀ arms:List (β×List α),96*(Qd7 tc cc aa arms).length=Qbu (fun a=>192+96*(tc a.1).length+Qbu (fun x=>96*(cc x).length) a.2) arms+Qbu (fun x=>96*(cc x).length) aa
 | []=>by have:=Qhm cc aa;simp only[Qd7];rw[this];simp[Qbu]
 |a::r=>by
  have h1:=Qj6 tc cc aa r;have h2:=Qhm cc a.2;rw[QhR];simp only[Qd7,List.length_append,List.length_cons];omega
theorem QgJ{α:Type}{l:L8}{s:PS}{a:α}(h:Gp l s):∀ y,semi l s a=.ok y->y.1=a/\Gp l y.2/\64+64*ph l y.2<=64*ph l s:=fun y e=>by
 unfold semi at e
 cases hp:paL l [[59]] s with
 |error g=>rw[Qad hp]at e;cases e
 |ok z=>
  rw[Qac hp]at e;obtain⟨h1,h2⟩:=QcM (zs:=[[59]]) h (by decide) z hp;cases e;exact⟨rfl,h1,by dsimp only at *;omega⟩
theorem QsT(n:Nat){l:L8}{F:Nat}{aa:PS->Except Flt (Qa6 n×PS)}{sub:PS->Except Flt (Qbo n×PS)}(hF:l.length<F)(ht:∀ s,Gp l s->Ct 32 l (fun x=>96*(Qde n x).length) (aa s) s)(hg:∀ s,Gp l s->∀ y,sub s=.ok y->Gp l y.2/\ph l y.2<ph l s)(hs:∀ s,Gp l s->Ct 0 l (fun x=>96*(Qeq n x).length) (sub s) s)(k ab:Nat){s:PS}(h:Gp l s):∀ y,cBd l F aa sub k ab s=.ok y->Gp l y.2/\96*(Qeq (n+1) y.1).length+64*ph l y.2<=64+64*ph l s:=by
 intro y e;unfold cBd at e
 split at e
 ·obtain⟨e1,h1,h2⟩:=QgJ h y e;refine⟨h1,?_⟩;rw[e1];show 96*1+64*ph l y.2<=_
  omega
 ·obtain⟨e1,h1,h2⟩:=QgJ h y e;refine⟨h1,?_⟩;rw[e1];show 96*1+64*ph l y.2<=_
  omega
 ·obtain⟨e1,h1,h2⟩:=QgJ h y e;refine⟨h1,?_⟩;rw[e1];show 96*1+64*ph l y.2<=_
  omega
 ·cases hq:sL l (fun _=>0) s with
  |error g=>rw[Qad hq]at e;cases e
  |ok x=>
   rw[Qac hq]at e;obtain⟨g1,g2⟩:=QbZ h x hq;obtain⟨e1,h1,h2⟩:=QgJ g1 y e;refine⟨h1,?_⟩;rw[e1];show 96*1+64*ph l y.2<=_
   omega
 ·cases hq:sL l (fun _=>0) s with
  |error g=>rw[Qad hq]at e;cases e
  |ok x=>
   rw[Qac hq]at e;obtain⟨g1,g2⟩:=QbZ h x hq;obtain⟨e1,h1,h2⟩:=QgJ g1 y e;refine⟨h1,?_⟩;rw[e1];show 96*1+64*ph l y.2<=_
   omega
 ·cases hq:sL l (fun _=>0) s with
  |error g=>rw[Qad hq]at e;cases e
  |ok x=>
   rw[Qac hq]at e;obtain⟨g1,g2⟩:=QbZ h x hq;obtain⟨e1,h1,h2⟩:=QgJ g1 y e;refine⟨h1,?_⟩;rw[e1];show 96*1+64*ph l y.2<=_
   omega
 ·cases hm:mayL l [QbT,QbU,Qbr] s with
  |error g=>rw[Qad hm]at e;cases e
  |ok m=>
   rw[Qac hm]at e;obtain⟨g0,g0'⟩:=Qet (zs:=[QbT,QbU,Qbr]) h (by decide) m hm
   cases hv:sL l (fun x=>if isNameL x then 0 else 7) m.2 with
   |error g=>rw[Qad hv]at e;cases e
   |ok v=>
    rw[Qac hv]at e;obtain⟨g3,g4⟩:=QbZ g0 v hv
    cases hq:sL l (fun _=>0) v.2 with
    |error g=>rw[Qad hq]at e;cases e
    |ok x=>
     rw[Qac hq]at e;obtain⟨g1,g2⟩:=QbZ g3 x hq;obtain⟨e1,h1,h2⟩:=QgJ g1 y e;refine⟨h1,?_⟩;rw[e1];show 96*1+64*ph l y.2<=_
     omega
 ·cases ha:armL l F aa sub s with
  |error g=>rw[Qad ha]at e;cases e
  |ok a=>
   rw[Qac ha]at e;obtain⟨g1,g2⟩:=QwG hF ht hg hs h a ha
   cases hb:aMr l F aa sub F [a.1] a.2 with
   |error g=>rw[Qad hb]at e;cases e
   |ok bb=>
    rw[Qac hb]at e;obtain⟨g3,g4⟩:=Qtp hF ht hg hs F _ a.2 g1 bb hb;rw[Qnl]at g4
    cases hm:mayL l [Qch] bb.2 with
    |error g=>rw[Qad hm]at e;cases e
    |ok m=>
     rw[Qac hm]at e;obtain⟨g5,g6⟩:=Qet (zs:=[Qch]) g3 (by decide) m hm;have g6':64*ph l m.2<=64*ph l bb.2:=by dsimp only at g6;split at g6<;>omega
     split at e
     ·cases e;refine⟨g5,?_⟩;show 96*(Qd7 (Qde n) (Qeq n) [] bb.1).length+64*ph l m.2<=_
      rw[Qj6];have:Qbu (fun x=>96*(Qeq n x).length) ([]:List (Qbo n))=0:=rfl;rw[this];dsimp only at *;omega
     ·cases hc:blockL l F sub m.2 with
      |error g=>rw[Qad hc]at e;cases e
      |ok cs=>
       rw[Qac hc]at e;obtain⟨g7,g8⟩:=QqY hF hg hs g5 cs hc;cases e;refine⟨g7,?_⟩;show 96*(Qd7 (Qde n) (Qeq n) cs.1 bb.1).length+64*ph l cs.2<=_
       rw[Qj6];dsimp only at *;omega
theorem Qwz{l:L8}{req:List (L8)}{F:Nat}(hF:l.length<F):∀(n:Nat) (hn:n<=7) (s:PS),Gp l s->Ct 0 l (fun x=>96*(Qeq n x).length) (cmdL l req F n s) s
 |0,hn,s,h=>fun y e=>by
  rw[cmdL]at e
  split at e<;>cases e
 |n+1,hn,s,h=>fun y e=>by
  rw[cmdL]at e;by_cases h0:wL cNs s.1.spelt=0
  ·rw[if_pos h0]at e;cases e
  ·rw[if_neg h0]at e;cases hu:Qb6 req s.1.spelt
   ·rw[hu,if_neg (by decide)]at e;cases e
   ·rw[hu,if_pos rfl]at e
    cases hq:nL l s.2 with
    |error g=>cases(QaC hq).symm.trans e
    |ok z=>
     replace e:=(QaE hq).symm.trans e;obtain⟨g1,g2⟩:=Qdx h (QdU (zs:=cNs) h (by decide) h0) hq
     obtain ⟨g3,g4⟩:=QsT n hF (fun s g=>QtA hF n s g) (fun s g y e=>by
      have h1:=QrA n [] (by simp;omega) s g y e;refine⟨h1.1,?_⟩;have h2:=h1.2;unfold Qdi at h2
      omega) (fun s g=>Qwz hF n (by omega) s g) _ _ g1 y e
     exact⟨g3,by dsimp only at *;omega⟩
theorem Qqp{l:L8}{y:List (L8)×List (Qbo 7)}(h:prL l=.ok y):3*(QcF y.2).length<=2*l.length:=by
 unfold prL at h;dsimp only at h;obtain⟨F,aa⟩:∃ F,F=2*l.length+10:=⟨_,rfl⟩;rw[<-aa]at h;have hF:l.length<F:=by omega
 clear aa
 cases h1:nL l 0 with
 |error f=>rw[h1]at h;cases h
 |ok s=>
  rw[h1]at h;dsimp only at h
  have hg:Gp l s:=by
   unfold nL at h1
   cases hs:QbJ (l.length+1) (l.drop 0) 0 with
   |error f=>rw[hs]at h1;cases h1
   |ok n=>
    rw[hs]at h1;exact(QiW l n (QdE l _ 0 n (Nat.zero_le _) hs).2 s h1).1
  cases h3:reqMore l F F [] s with
  |error f=>rw[h3]at h;cases h
  |ok z=>
   rw[h3]at h;dsimp only at h;obtain⟨g1,g2⟩:=Qf3 F [] s hg z h3
   cases h4:cMr (cmdL l z.1 F 7) F [] z.2 with
   |error f=>rw[h4]at h;cases h
   |ok cs=>
    rw[h4]at h;have g3:=QgM (c:=fun x=>96*(Qeq 7 x).length) (fun s g=>Qwz hF 7 (by omega) s g) F [] z.2 g1 cs h4;cases h;have g4:=Qhm (Qeq 7) cs;have g5:ph l s<=l.length:=by unfold ph;omega
    have g6:Qbu (fun x=>96*(Qeq 7 x).length) ([]:List (Qbo 7))=0:=rfl;have g7:Qiy ([]:List (L8))=0:=rfl;rw[QjQ];dsimp only;omega
section
theorem QmE{M:Msg}{c:Qbo 7}(hk:c.1.kind=7)(s:SS):Qej (Qc2 M 7) [c] s=QhY (evalT M 6) (Qc2 M 6) c.2.2 c.2.1 s:=by
 have h:Qc2 M 7 c s=QhY (evalT M 6) (Qc2 M 6) c.2.2 c.2.1 s:=by
  show QfR (evalT M 6) (Qc2 M 6) c.1 c.2.1 c.2.2 s=_
  unfold QfR;rw[hk];rfl
 rw[<-h];unfold Qej
 match Qc2 M 7 c s with
 | .error e=>rfl
 | .ok (s',true)=>rfl
 | .ok (s',false)=>rfl
theorem QfF{M:Msg}{p:Qcv->Nat->Prop}{q:Qgt->Nat->Nat->Prop}{A:List (Qbo 6)}{ca:List (Qbo 7)}(h:ca.map (Qdq 7)=A.map (gC 1 6))(hA:∀ c∈A,allC p q 6 c)(s:SS):noAt (Qej (Qc2 M 6) A s)=noAt (Qej (Qc2 M 7) ca s):=by
 have h1:noAt (Qej (Qc2 M 7) (A.map (gC 1 6)) s)=noAt (Qej (Qc2 M 6) A s):=QdZ (f:=gC 1 6) A (fun t ht s=>by
  show noAt (Qc2 M 7 (Qdq 7 (upC 1 6 t)) s)=_
  rw[Qpi]
  exact Qrg M 1 6 t (hA t ht) s) s
 have h2:noAt (Qej (Qc2 M 7) (ca.map (Qdq 7)) s)=noAt (Qej (Qc2 M 7) ca s):=QdZ (f:=Qdq 7) ca (fun t _ s=>Qpi M 7 t s) s;rw[<-h1,<-h,h2]
def ifE (T:SS→Bool×SS) (a b:SS→Except Int (SS×Bool)) (s:SS):Except Int (SS×Bool):=if (T s).1=true then a (T s).2 else b (T s).2
def Qlq (M:Msg) (cs:List (Qbo 7)) (s:SS):Except Int (SS×Bool):=noAt (Qej (Qc2 M 7) cs s)
def Qu3 (t a b:L8):L8:=QaG++(kIf++32 :: (t++10 :: Qc9 a b))
def Qwl (t a b:L8):L8:=QaG++(kIf++32 :: (kNot++32 :: (t++10 :: Qc9 b a)))
def Qwp (t a b:L8):L8:=QaG++(kIf++32 :: (QbW++32 :: 40 :: (t++10 :: 44 :: 32 :: (t++10 :: 41 :: Qc9 a b))))
def QwJ (t a b:L8):L8:=QaG++(kIf++32 :: (QbV++32 :: 40 :: (t++10 :: 41 :: Qkg a b)))
section
variable {t a b:L8} {T:Qa6 6} {ca cb:List (Qbo 7)} (ht:TestP t T) (ha:CmdsP a ca) (hb:CmdsP b cb) {y:List (L8)×List (Qbo 7)}
include ht ha hb
theorem QxA(M:Msg)(h:prL (Qu3 t a b)=.ok y)(s:SS):y.1=Qb5/\Qlq M y.2 s=ifE (evalT M 6 T) (Qlq M ca) (Qlq M cb) s:=by
 obtain⟨h1,c,T',A,B,h2,h3,h4,h5,h6,h7,h8⟩:=Qx8 ht ha hb h;have hw:=(Qe3 h).2 c (by rw[h2];exact List.mem_singleton.2 rfl);have aa:=hw.2.1 (T',A) (by rw[h4];exact List.mem_singleton.2 rfl);have ab:=hw.2.2;rw[h5]at ab;refine⟨h1,?_⟩;unfold Qlq ifE;rw[h2,QmE h3,h4,h5];simp only[QhY];rw[QvV M h6 aa.1 s];split
 ·exact QfF h7 aa.2 _
 ·exact QfF h8 ab _
theorem QyI(M:Msg)(h:prL (Qwl t a b)=.ok y)(s:SS):y.1=Qb5/\Qlq M y.2 s=ifE (evalT M 6 T) (Qlq M ca) (Qlq M cb) s:=by
 obtain⟨h1,c,x,T',A,B,h2,h3,h4,h5,h6,h7,h8,h9⟩:=Qyb ht hb ha h;have hw:=(Qe3 h).2 c (by rw[h2];exact List.mem_singleton.2 rfl);have aa:=hw.2.1 ((x,[T']),A) (by rw[h4];exact List.mem_singleton.2 rfl);have ab:=hw.2.2;rw[h6]at ab;have hT:QiY _ 5 T':=aa.1.2 T' (List.mem_singleton.2 rfl);refine⟨h1,?_⟩;unfold Qlq ifE;rw[h2,QmE h3,h4,h6]
 have e:evalT M 6 (x,[T']) s=(!(evalT M 6 T s).1,(evalT M 6 T s).2):=by
  rw[<-Qjc M h7 hT s];show QcX M (evalT M 5) x [T'] s=_
  unfold QcX;rw[h5];rfl
 simp only[QhY];rw[e];cases hv:(evalT M 6 T s).1
 ·exact QfF h8 aa.2 _
 ·exact QfF h9 ab _
theorem QyB(M:Msg)(ad:36 ∉ t)(hl:t.length<=600)(h:prL (Qwp t a b)=.ok y)(s:SS):y.1=Qb5/\Qlq M y.2 s=ifE (evalT M 6 T) (Qlq M ca) (Qlq M cb) s:=by
 obtain⟨h1,c,x,T1,T2,A,B,h2,h3,h4,h5,h6,h7,ae,h8,h9⟩:=Qyk ht ha hb h;have hw:=(Qe3 h).2 c (by rw[h2];exact List.mem_singleton.2 rfl);have aa:=hw.2.1 ((x,[T1,T2]),A) (by rw[h4];exact List.mem_singleton.2 rfl);have ac:=hw.2.2;rw[h6]at ac;have af:QiY _ 5 T1:=aa.1.2 T1 List.mem_cons_self;have ag:QiY _ 5 T2:=aa.1.2 T2 (List.mem_cons_of_mem _ List.mem_cons_self);refine⟨h1,?_⟩;unfold Qlq ifE;rw[h2,QmE h3,h4,h6];obtain⟨v,u,ab⟩:=QvU M ht ad hl
 have e:evalT M 6 (x,[T1,T2]) s=evalT M 6 T s:=by
  show QcX M (evalT M 5) x [T1,T2] s=_
  unfold QcX;rw[h5];show gEval (evalT M 5) false [T1,T2] s=_
  unfold gEval gEval gEval;rw[Qjc M h7 af s,Qjc M ae ag,ab,ab];cases v
  ·rfl
  ·dsimp only;rw[if_neg (by decide),if_neg (by decide),Qrb];cases u<;>rfl
 simp only[QhY];rw[e];split
 ·exact QfF h8 aa.2 _
 ·exact QfF h9 ac _
theorem QyK(M:Msg)(h:prL (QwJ t a b)=.ok y)(s:SS):y.1=Qb5/\Qlq M y.2 s=ifE (evalT M 6 T) (Qlq M ca) (Qlq M cb) s:=by
 obtain⟨h1,c,x,x2,T1,A,B,c2,h2,h3,h4,h5,ac,h5'',h6,h7,h8,h9⟩:=Qx1 ht ha hb h;have hw:=(Qe3 h).2 c (by rw[h2];exact List.mem_singleton.2 rfl);have aa:=hw.2.1 ((x,[T1]),A) (by rw[h4];exact List.mem_cons_self);have ab:=hw.2.2;rw[h6]at ab;have ad:QiY _ 5 T1:=aa.1.2 T1 List.mem_cons_self;refine⟨h1,?_⟩;unfold Qlq ifE;rw[h2,QmE h3,h4,h6]
 have e:evalT M 6 (x,[T1]) s=evalT M 6 T s:=by
  show QcX M (evalT M 5) x [T1] s=_
  unfold QcX;rw[h5];show gEval (evalT M 5) true [T1] s=_
  unfold gEval gEval;rw[Qjc M h7 ad s]
  cases hv:evalT M 6 T s with
  |mk v s'=>cases v<;>rfl
 have e2:∀ s,evalT M 6 (x2,[]) s=(false,s):=fun s=>by
  show QcX M (evalT M 5) x2 [] s=_
  unfold QcX;rw[ac];rfl
 simp only[QhY];rw[e,e2];split
 ·exact QfF h8 aa.2 _
 ·rw[if_neg (by simp)];exact QfF h9 ab _
end
def Qyu (r:Except Int (SS×Bool)):List (Int×L8)×Option Int:=
 match r with
 | .error e=>([(1,[])],some e)
 | .ok (s,_)=>(QxF s,none)
theorem QuY(r:CR):(QyF r).1=(Qyu (noAt r)).1/\(QyF r).2.map (·.1)=(Qyu (noAt r)).2:=by
 match r with
 | .error e=>exact⟨rfl,rfl⟩
 | .ok (s,v)=>exact⟨rfl,rfl⟩
theorem Qro{M:Msg}{l:L8}{y:List (L8)×List (Qbo 7)}(v:Bool)(h:prL l=.ok y)(hl:l.length<=600) :
 (execL v (QcF y.2) M).1=(Qyu (Qlq M y.2 (ss0 v))).1/\(execL v (QcF y.2) M).2.2.map (·.1)=(Qyu (Qlq M y.2 (ss0 v))).2:=by
 have h1:=QvP (M:=M) v y.2 (Qe3 h).2 (by have:=Qqp h;omega);have h2:=QuY (Qej (Qc2 M 7) y.2 (ss0 v));rw[<-h1]at h2;exact h2
end
end Go.Proofs.YtgnkjijocdmniaaGreatDoor
