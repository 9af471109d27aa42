import Derived.Test.YtgnkjijocdmniaaGreatDoorZPlainCodeLen
namespace Go.Proofs.YtgnkjijocdmniaaGreatDoor
set_option linter.all false
set_option maxRecDepth 100000
set_option maxHeartbeats 4000000
variable{α β:Type}{F k n now pos:Nat}{M:Msg}{a b:List Ins}{c:α->Nat}{i:Ins}{l:L8}{m:MS}{req:Qn}{s:SS}{st:List Bool}{sub:PS->Qq (α×PS)}{v:Bool}
section
theorem BD{a b:List α}(x:α)(f:α->α):(a++x::b).modify a.length f=a++f x::b:=by
 induction a with
 |nil=>rfl
 |cons c r ih=>show c::(r++x::b).modify r.length f=_;rw[ih];rfl
def jmpI(op:Int)(n:Nat):Ins:=⟨op,n,0,false,[],[],0⟩
theorem BS{op:Int}:Jc (n:Int) (insOp op)=jmpI op n:=rfl
section
variable {α:Type}
def Xd(tc:α->List Ins)(jump:Int):List α->List Ins
 | []=>[]
 |t::r=>tc t++insOp jump::Xd tc jump r
def JY(tc:α->List Ins)(jump:Int)(k:Nat):List α->List Ins
 | []=>[]
 |t::r=>tc t++jmpI jump ((Xd tc jump r).length+k)::JY tc jump k r
def Nt(tc:α->List Ins)(p:Nat):List α->List Nat
 | []=>[]
 |t::r=>(p+(tc t).length)::Nt tc (p+(tc t).length+1) r
theorem AD(tc:α->List Ins)(a:Int)(k:Nat):∀ts,(JY tc a k ts).length=(Xd tc a ts).length
 | []=>rfl
 |t::r=>by simp only[JY,Xd,Qz,Q1,AD tc a k r]
theorem GJ:type_of%@List.nil_append:=@List.nil_append
theorem Fe{sub:α->List Ins->List Ins}{tc:α->List Ins}(b:Int):∀(d:List α) (c:List Ins) (a:List Nat),(∀t∈d,∀cs,sub t cs=cs++tc t)->d.foldl (YZ sub b) (c,a)=(c++Xd tc b d,a++Nt tc c.length d)
 | [],c,a,h=>by simp[Xd,Nt]
 |t::r,c,a,h=>by
  rw[K7]
  have e:YZ sub b (c,a) t=(c++tc t++[insOp b],a++[c.length+(tc t).length]):=by
   unfold YZ;dsimp only;rw[h t Kh,Qz]
  rw[e,Fe b r _ _ (fun x f=>h x (Kz _ f))];simp only[Xd,Nt,Qz,Q1,Zl,YG,K6,GJ,Nat.add_assoc]
theorem Fb(tc:α->List Ins)(a:Int):∀(d:List α) (c b:List Ins),landL (Nt tc c.length d) (c++(Xd tc a d++b))=c++(JY tc a b.length d++b)
 | [],c,b=>rfl
 |t::r,c,b=>by
  show landL (Nt tc (c.length+(tc t).length+1) r) ((c++((tc t++insOp a::Xd tc a r)++b)).modify (c.length+(tc t).length) (Jc (((c++((tc t++insOp a::Xd tc a r)++b)).length:Int)-(((c.length+(tc t).length:Nat):Int)+1))))=_
  have e:c++((tc t++insOp a::Xd tc a r)++b)=(c++tc t)++insOp a::(Xd tc a r++b):=Qh
  have f:(((c++((tc t++insOp a::Xd tc a r)++b)).length:Int)-(((c.length+(tc t).length:Nat):Int)+1))=(((Xd tc a r).length+b.length:Nat):Int):=by
   rw[e];simp only[Qz,Q1];omega
  rw[f,e];have g:c.length+(tc t).length=(c++tc t).length:=by rw[Qz]
  rw[g,BD,BS];have i:(c++tc t)++jmpI a ((Xd tc a r).length+b.length)::(Xd tc a r++b)=((c++tc t)++[jmpI a ((Xd tc a r).length+b.length)])++(Xd tc a r++b):=Qh
  have j:(c++tc t).length+1=((c++tc t)++[jmpI a ((Xd tc a r).length+b.length)]).length:=by simp;omega
  rw[i,j,Fb tc a r];simp[JY]
def Yw(tc:α->List Ins)(jump:Int)(settled:Bool)(ts:List α):List Ins:=JY tc jump 2 ts++[pushI (!settled),jmpI 3 1,pushI settled]
theorem IK{sub:α->List Ins->List Ins}{tc:α->List Ins}(d:Int){b:Bool}{c:List α}(h:∀t∈c,∀a,sub t a=a++tc t):Ja sub d b c a=a++Yw tc d b c:=by
 unfold Ja NO;rw[Fe d c a [] h];dsimp only;rw[GJ,YG,Fb tc d c a [pushI (!b),insOp 3]];have e:(a++(JY tc d [pushI (!b),insOp 3].length c++[pushI (!b),insOp 3]))++[pushI b]=(a++JY tc d 2 c++[pushI (!b)])++insOp 3::[pushI b]:=Qh
 rw[e];have f:(a++Xd tc d c).length+1=(a++JY tc d 2 c++[pushI (!b)]).length:=by simp[AD];omega
 rw[f];show((a++JY tc d 2 c++[pushI (!b)])++insOp 3::[pushI b]).modify (a++JY tc d 2 c++[pushI (!b)]).length (Jc _)=_
 have g:((((a++JY tc d 2 c++[pushI (!b)])++insOp 3::[pushI b]).length:Int)-(((a++JY tc d 2 c++[pushI (!b)]).length:Int)+1))=((1:Nat):Int):=by
  rw[Qz];simp only[Q1,Zl];omega
 rw[g,BD,BS];simp[Yw]
def Q2(cc:α->List Ins)(ts:List α):List Ins:=ts.flatMap cc
theorem Av{sub:α->List Ins->List Ins}{cc:α->List Ins}:∀(b:List α) (a:List Ins),(∀t∈b,∀a,sub t a=a++cc t)->blockC sub b a=a++Q2 cc b
 | [],a,h=>by simp[blockC,Q2]
 |t::r,a,h=>by
  show blockC sub r (sub t a)=_
  rw[h t Kh,Av r _ (fun x c=>h x (Kz _ c))];simp[Q2]
end
section
variable {α β:Type}
def XT(tc:β->List Ins)(cc:α->List Ins)(els:List α):List (β×List α)->List Ins
 | []=>Q2 cc els
 |a::r=>tc a.1++jmpI 5 ((Q2 cc a.2).length+1)::(Q2 cc a.2++jmpI 3 (XT tc cc els r).length::XT tc cc els r)
def JN(tc:β->List Ins)(cc:α->List Ins):List (β×List α)->List Ins
 | []=>[]
 |a::r=>tc a.1++jmpI 5 ((Q2 cc a.2).length+1)::(Q2 cc a.2++insOp 3::JN tc cc r)
def Np(tc:β->List Ins)(cc:α->List Ins)(p:Nat):List (β×List α)->List Nat
 | []=>[]
 |a::r=>(p+(tc a.1).length+1+(Q2 cc a.2).length)::Np tc cc (p+(tc a.1).length+1+(Q2 cc a.2).length+1) r
theorem E_{tst:β->List Ins->List Ins}{f:α->List Ins->List Ins}{tc:β->List Ins}{cc:α->List Ins}:∀(d:List (β×List α)) (c:List Ins) (b:List Nat),(∀a∈d,(∀cs,tst a.1 cs=cs++tc a.1)/\∀x∈a.2,∀cs,f x cs=cs++cc x)->
 d.foldl (Ji tst f) (c,b)=(c++JN tc cc d,b++Np tc cc c.length d)
 | [],c,b,h=>by simp[JN,Np]
 |a::r,c,b,h=>by
  rw[K7];obtain⟨k,l⟩:=h a Kh
  have e:Ji tst f (c,b) a=(c++(tc a.1++jmpI 5 ((Q2 cc a.2).length+1)::(Q2 cc a.2++[insOp 3])),b++[c.length+(tc a.1).length+1+(Q2 cc a.2).length]):=by
   unfold Ji;dsimp only;rw[k,Av a.2 _ l];refine Prod.ext ?_ ?_
   .show((c++tc a.1++[insOp 5]++Q2 cc a.2)++[insOp 3]).modify (c++tc a.1).length (Jc ((((c++tc a.1++[insOp 5]++Q2 cc a.2)++[insOp 3]).length:Int)-(((c++tc a.1).length:Int)+1)))=_
    have g:(c++tc a.1++[insOp 5]++Q2 cc a.2)++[insOp 3]=(c++tc a.1)++insOp 5::(Q2 cc a.2++[insOp 3]):=Qh
    rw[g]
    have i:((((c++tc a.1)++insOp 5::(Q2 cc a.2++[insOp 3])).length:Int)-(((c++tc a.1).length:Int)+1))=(((Q2 cc a.2).length+1:Nat):Int):=by
     rw[Qz];simp only[Q1,Qz,Zl];omega
    rw[i,BD,BS];simp
   .show b++[(c++tc a.1++[insOp 5]++Q2 cc a.2).length]=_
    simp only[Qz,Q1,Zl]
  have j:(c++(tc a.1++jmpI 5 ((Q2 cc a.2).length+1)::(Q2 cc a.2++[insOp 3]))).length=c.length+(tc a.1).length+1+(Q2 cc a.2).length+1:=by simp;omega
  rw[e,E_ r _ _ (fun x m=>h x (Kz _ m)),j];refine Prod.ext ?_ ?_
  .simp[JN]
  .simp[Np]
theorem Me(tc:β->List Ins)(cc:α->List Ins)(b:List α):∀arms,(XT tc cc b arms).length=(JN tc cc arms).length+(Q2 cc b).length
 | []=>by simp[XT,JN]
 |a::r=>by
  simp only[XT,JN,Qz,Q1,Me tc cc b r];omega
theorem E6(tc:β->List Ins)(cc:α->List Ins)(b:List α):∀(e:List (β×List α)) (c:List Ins),landL (Np tc cc c.length e) (c++(JN tc cc e++Q2 cc b))=c++XT tc cc b e
 | [],c=>by simp[Np,JN,XT,landL]
 |a::r,c=>by
  obtain⟨d,f⟩:=Q3 (c++(tc a.1++jmpI 5 ((Q2 cc a.2).length+1)::Q2 cc a.2));have g:c++(JN tc cc (a::r)++Q2 cc b)=d++insOp 3::(JN tc cc r++Q2 cc b):=by rw[f];simp[JN]
  have i:c.length+(tc a.1).length+1+(Q2 cc a.2).length=d.length:=by rw[f];simp;omega
  show landL (Np tc cc (c.length+(tc a.1).length+1+(Q2 cc a.2).length+1) r) ((c++(JN tc cc (a::r)++Q2 cc b)).modify (c.length+(tc a.1).length+1+(Q2 cc a.2).length) (Jc (((c++(JN tc cc (a::r)++Q2 cc b)).length:Int)-(((c.length+(tc a.1).length+1+(Q2 cc a.2).length:Nat):Int)+1))))=_
  rw[i,g]
  have j:(((d++insOp 3::(JN tc cc r++Q2 cc b)).length:Int)-((d.length:Int)+1))=((XT tc cc b r).length:Nat):=by
   rw[Me,Qz];simp only[Q1,Qz];omega
  rw[j,BD,BS];have k:d++jmpI 3 (XT tc cc b r).length::(JN tc cc r++Q2 cc b)=(d++[jmpI 3 (XT tc cc b r).length])++(JN tc cc r++Q2 cc b):=Qh
  have l:d.length+1=(d++[jmpI 3 (XT tc cc b r).length]).length:=Qh
  rw[k,l,E6 tc cc b r,f];simp[XT]
theorem WS{tst:β->List Ins->List Ins}{e:α->List Ins->List Ins}{tc:β->List Ins}{cc:α->List Ins}{c:List (β×List α)}{d:List α}(h:∀a∈c,(∀b,tst a.1 b=b++tc a.1)/\∀x∈a.2,∀b,e x b=b++cc x)(he:∀x∈d,∀b,e x b=b++cc x) :
 U5 tst e c d b=b++XT tc cc d c:=by
 unfold U5 GY;rw[E_ c b [] h];dsimp only;rw[Av d _ he,GJ,YG,E6]
end
def KQ{α:Type}(tc:α->List Ins)(x:Zk)(ts:List α):List Ins:=
 match x.kind with
 |0=>[pushI true]
 |1=>[pushI false]
 |2=>Q2 tc ts++[insOp 2]
 |3=>Yw tc 5 false ts
 |4=>Yw tc 4 true ts
 |5=>[Xu 6 x]
 |6=>[Xu 7 x]
 |7=>[Xu 8 x]
 |8=>[⟨9,0,0,false,x.fr,[],0⟩]
 |_=>[⟨10,x.num,x.tag,false,[],[],0⟩]
def Xv:(n:Nat)->Zn n->List Ins
 |0,_=>[]
 |n+1,x=>KQ (Xv n) x.1 x.2
theorem IS:∀(n:Nat) (x:Zn n) (a:List Ins),ZS n x a=a++Xv n x
 |0,x,a=>by simp[ZS,Xv]
 |n+1,x,a=>by
  have b:=IS n;show XE (ZS n) x.1 x.2 a=a++KQ (Xv n) x.1 x.2
  unfold XE KQ;generalize x.1.kind=k;rcases k with _|_|_|_|_|_|_|_|_|k
  .rfl
  .rfl
  .show blockC (ZS n) x.2 a++[insOp 2]=a++(Q2 (Xv n) x.2++[insOp 2])
   rw[Av (cc:=Xv n) x.2 a (fun t _ c=>b t c),YG]
  .exact IK 5 (fun t _ c=>b t c)
  .exact IK 4 (fun t _ c=>b t c)
  all_goals rfl
def Gk{α β:Type}(tc:β->List Ins)(cc:α->List Ins)(x:Xa)(arms:List (β×List α))(els:List α):List Ins:=
 match x.kind with
 |0=>[Xs 1 x.pos []]
 |1=>[⟨13,0,0,false,[],[],x.pos⟩]
 |2=>[⟨14,0,0,false,[],[],x.pos⟩]
 |3=>[Xs 2 x.pos [x.arg]]
 |4=>[Xs 3 x.pos [x.arg]]
 |5=>[Xs 4 x.pos [x.arg]]
 |6=>[⟨12,0,x.tag,false,[x.var],[x.arg],x.pos⟩]
 |_=>XT tc cc els arms
def Xg:(n:Nat)->Q5 n->List Ins
 |0,_=>[]
 |n+1,x=>Gk (Xv n) (Xg n) x.1 x.2.1 x.2.2
theorem Mc:∀(n:Nat) (x:Q5 n) (b:List Ins),Yp n x b=b++Xg n x
 |0,x,b=>by simp[Yp,Xg]
 |n+1,x,b=>by
  have d:=Mc n;show X8 (ZS n) (Yp n) x.1 x.2.1 x.2.2 b=b++Gk (Xv n) (Xg n) x.1 x.2.1 x.2.2
  unfold X8 Gk;generalize x.1.kind=k;rcases k with _|_|_|_|_|_|_|k
  any_goals rfl
  exact WS (tc:=Xv n) (cc:=Xg n) (fun a _=>⟨fun c=>IS n a.1 c,fun y _ c=>d y c⟩) (fun y _ c=>d y c)
theorem BN{a:List (Q5 7)}:XH a=Q2 (Xg 7) a:=by
 unfold XH;rw[Av (cc:=Xg 7) a [] (fun t _ c=>Mc 7 t c),GJ]
end
def X3{α:Type}(ev:α->SS->Bool×SS)(settled:Bool):List α->SS->Bool×SS
 | [],s=>(!settled,s)
 |t::r,s=>if(ev t s).1=settled then(settled,(ev t s).2)else X3 ev settled r (ev t s).2
def Ev{α:Type}(ev:α->SS->Bool×SS):List α->SS->Bool×SS
 | [],s=>(false,s)
 |t::_,s=>(!(ev t s).1,(ev t s).2)
def evalTN{α:Type}(M:Msg)(ev:α->SS->Bool×SS)(x:Zk)(ts:List α)(s:SS):Bool×SS:=
 match x.kind with
 |0=>(true,s)
 |1=>(false,s)
 |2=>Ev ev ts s
 |3=>X3 ev false ts s
 |4=>X3 ev true ts s
 |5=>askL s x.tag x.octet (fieldsL M (x.fr.map (expL s))) x.keys
 |6=>askL s x.tag x.octet (envL M x.fr) x.keys
 |7=>askL s x.tag x.octet (x.fr.map (expL s)) x.keys
 |8=>(existsL M (x.fr.map (expL s)),s)
 |_=>(sizeB M x.tag x.num,s)
def Ye(M:Msg):(n:Nat)->Zn n->SS->Bool×SS
 |0,_,s=>(false,s)
 |n+1,x,s=>evalTN M (Ye M n) x.1 x.2 s
abbrev CR:=Except FZ (SS×Bool)
def UQ(s:SS)(kind:Int)(arg:L8)(pos:Nat):CR:=
 if(addL s.met kind (expL s arg)).1=0 then .ok (Y2 s (addL s.met kind (expL s arg)).2,false)else .error ((addL s.met kind (expL s arg)).1,pos)
def bEval{α:Type}(ev:α->SS->CR):List α->SS->CR
 | [],s=>.ok (s,false)
 |c::r,s=>match ev c s with
  | .error e=>.error e
  | .ok (s',true)=>.ok (s',true)
  | .ok (s',false)=>bEval ev r s'
def VP{α β:Type}(tv:β->SS->Bool×SS)(ev:α->SS->CR)(els:List α):List (β×List α)->SS->CR
 | [],s=>bEval ev els s
 |a::r,s=>if(tv a.1 s).1=true then bEval ev a.2 (tv a.1 s).2 else VP tv ev els r (tv a.1 s).2
def Uh{α β:Type}(tv:β->SS->Bool×SS)(ev:α->SS->CR)(x:Xa)(arms:List (β×List α))(els:List α)(s:SS):CR:=
 match x.kind with
 |0=>UQ s 1 [] x.pos
 |1=>.ok (Gl s,false)
 |2=>.ok (s,true)
 |3=>UQ s 2 x.arg x.pos
 |4=>UQ s 3 x.arg x.pos
 |5=>UQ s 4 x.arg x.pos
 |6=>.ok (Ur s x.var x.tag x.arg,false)
 |_=>VP tv ev els arms s
def evalC(M:Msg):(n:Nat)->Q5 n->SS->CR
 |0,_,s=>.ok (s,false)
 |n+1,x,s=>Uh (Ye M n) (evalC M n) x.1 x.2.1 x.2.2 s
def runL(M:Msg)(code:List Ins)(m:MS):Except FZ MS:=(Yd M code (code.length-m.next) m 0).1
theorem Ii{M:Msg}{a:List Ins}:∀(f g:Nat) (m:MS) (d e:Nat),a.length-m.next<=f->a.length-m.next<=g->(Yd M a f m d).1=(Yd M a g m e).1
 |0,0,m,d,e,_,_=>rfl
 |0,g+1,m,d,e,hf,hg=>by
  have:¬m.next<a.length:=I
  rw[Yd,Yd,Qg this]
 |f+1,0,m,d,e,hf,hg=>by
  have:¬m.next<a.length:=I
  rw[Yd,Yd,Qg this]
 |f+1,g+1,m,d,e,hf,hg=>by
  rw[Yd,Yd];by_cases h:m.next<a.length
  .rw[Qi h,Qi h]
   cases hs:stepL M a.length (a.getD m.next A6) (atL m)with
   |error x=>rfl
   |ok m'=>
    have b:=(Dv hs (show(atL m).next<=a.length by show m.next+1<=_;omega)).1;have c:m.next+1<=m'.next:=b;exact Ii f g m' (d+1) (e+1) I I
  .rw[Qg h,Qg h]
theorem Mn(h:a.length<=m.next):runL M a m=.ok m:=by
 unfold runL;have e:a.length-m.next=0:=I
 rw[e];rfl
theorem DG  {code:List Ins}   (hc:code=a++i :: b) (hn:m.next=a.length):runL M code m=(match stepL M code.length i (atL m) with
 | .error e=>.error e
 | .ok m'=>runL M code m'):=by
 have j:code.length=a.length+(b.length+1):=by rw[hc,Qz,Q1]
 unfold runL;obtain⟨k,f⟩:∃k,code.length-m.next=k+1:=⟨b.length,I⟩;rw[f,Yd,Xy]
 have d:code.getD m.next A6=i:=by
  rw[hc,hn,Zv,List.getElem?_append_right QF];simp
 rw[d]
 cases hs:stepL M code.length i (atL m)with
 |error x=>rfl
 |ok m'=>
  have c:=(Dv hs (show(atL m).next<=code.length by show m.next+1<=_;omega)).1;have g:m.next+1<=m'.next:=c;exact Ii _ _ m' _ _ I I
def Comes(M:Msg)(code:List Ins)(m:MS)(s:SS)(st:List Bool)(p:Nat):Prop:=∃now,runL M code m=runL M code ⟨s,st,now,p⟩
theorem Comes.trans{M:Msg}{a:List Ins}{m:MS}{s s':SS}{st d:List Bool}{p c:Nat}(h:Comes M a m s st p)(b:∀now,Comes M a ⟨s,st,now,p⟩ s' d c):Comes M a m s' d c:=by
 obtain⟨now,h⟩:=h;obtain⟨e,b⟩:=b now;exact⟨e,h.trans b⟩
theorem U2{c:List Ins}{s':SS}{e:List Bool}{d now':Nat}(g:c=a++i::b)(h:stepL M c.length i ⟨s,st,a.length,a.length+1⟩=.ok ⟨s',e,now',d⟩):Comes M c ⟨s,st,now,a.length⟩ s' e d:=by
 refine⟨now',?_⟩;rw[DG (m:=⟨s,st,now,a.length⟩) g rfl];have f:stepL M c.length i (atL ⟨s,st,now,a.length⟩)=.ok ⟨s',e,now',d⟩:=h;rw[f]
theorem Bu{c:List Ins}(d:c=a++pushI v::b):Comes M c ⟨s,[],now,a.length⟩ s [v] (a.length+1):=by
 refine U2 (now':=a.length) d ?_;cases v<;>rfl
theorem Qwi{c:List Ins}(d:c=a++insOp 2::b):Comes M c ⟨s,[v],now,a.length⟩ s [!v] (a.length+1):=by
 refine U2 (now':=a.length) d ?_;cases v<;>rfl
theorem MO{a:Nat}(h:m.next+n<=a):Un a m (n:Int)=true:=by
 unfold Un;simp only[Jl,decide_eq_true_eq];omega
theorem It{c:List Ins}(d:c=a++jmpI 3 n::b)(f:n<=b.length):Comes M c ⟨s,st,now,a.length⟩ s st (a.length+1+n):=by
 refine U2 (now':=a.length) d ?_;have e:c.length=a.length+(b.length+1):=by rw[d,Qz,Q1]
 show VL c.length (jmpI 3 n) ⟨s,st,a.length,a.length+1⟩=_
 unfold VL;rw[show(jmpI 3 n).n=(n:Int)from rfl,Qi (MO (by show a.length+1+n<=_;omega))];rfl
theorem Ib{c:List Ins}{tk:Bool}(d:c=a++jmpI (if tk then 4 else 5) n::b)(g:n<=b.length):Comes M c ⟨s,[v],now,a.length⟩ s [] (if v=tk then a.length+1+n else a.length+1):=by
 have f:c.length=a.length+(b.length+1):=by rw[d,Qz,Q1]
 refine U2 (now':=a.length) d ?_;have e:stepL M c.length (jmpI (if tk then 4 else 5) n) ⟨s,[v],a.length,a.length+1⟩=doCond tk c.length (jmpI (if tk then 4 else 5) n) ⟨s,[v],a.length,a.length+1⟩:=by cases tk<;>rfl
 rw[e];unfold doCond;rw[show(jmpI (if tk then 4 else 5) n).n=(n:Int)from rfl,Qi (MO (by show a.length+1+n<=_;omega)),Qg Qh];show Except.ok (if v=tk then _ else _)=_
 split<;>rfl
def NZ(M:Msg)(c:List Ins)(ev:SS->Bool×SS):Prop:=
 ∀(code a b:List Ins) (s:SS) (now:Nat),code=a++(c++b)->Comes M code ⟨s,[],now,a.length⟩ (ev s).2 [(ev s).1] (a.length+c.length)
theorem Ee{α:Type}{M:Msg}{tc:α->List Ins}{f:α->SS->Bool×SS}{c:Bool}:∀(k:List α),(∀t∈k,NZ M (tc t) (f t))->
 ∀(d a b:List Ins) (s:SS) (now:Nat),d=a++(Yw tc (if c then 4 else 5) c k++b)->Comes M d ⟨s,[],now,a.length⟩ (X3 f c k s).2 [(X3 f c k s).1] (a.length+(Yw tc (if c then 4 else 5) c k).length)
 | [],_,d,a,b,s,now,hc=>by
  have i:d=a++pushI (!c)::(jmpI 3 1::pushI c::b):=by rw[hc];rfl
  have j:d=(a++[pushI (!c)])++jmpI 3 1::(pushI c::b):=by rw[i];simp
  refine(Bu i).trans (fun u=>?_);have g:=It (M:=M) (s:=s) (st:=[!c]) (now:=u) j Qh;have l:(a++[pushI (!c)]).length=a.length+1:=Qh
  rw[l]at g;exact g
 |t::r,ht,d,a,b,s,now,hc=>by
  have p:Yw tc (if c then 4 else 5) c (t::r)=tc t++jmpI (if c then 4 else 5) ((Xd tc (if c then 4 else 5) r).length+2)::Yw tc (if c then 4 else 5) c r:=by
   unfold Yw;simp[JY]
  have o:(Yw tc (if c then 4 else 5) c r).length=(Xd tc (if c then 4 else 5) r).length+3:=by
   unfold Yw;simp[AD]
  have i:d=a++(tc t++(jmpI (if c then 4 else 5) ((Xd tc (if c then 4 else 5) r).length+2)::(Yw tc (if c then 4 else 5) c r++b))):=by rw[hc,p];simp
  have j:d=(a++tc t)++jmpI (if c then 4 else 5) ((Xd tc (if c then 4 else 5) r).length+2)::(Yw tc (if c then 4 else 5) c r++b):=by rw[i];simp
  refine(ht t Kh d a _ s now i).trans (fun u=>?_);have l:a.length+(tc t).length=(a++tc t).length:=Qh
  rw[l];refine(Ib (tk:=c) j (by rw[Qz,o];omega)).trans (fun v=>?_)
  have q:(Yw tc (if c then 4 else 5) c (t::r)).length=(tc t).length+1+(Xd tc (if c then 4 else 5) r).length+3:=by
   rw[p,Qz,Q1,o];omega
  unfold X3;by_cases hv:(f t s).1=c
  .rw[Qi hv,Qi hv,q]
   have g:d=(a++tc t++[jmpI (if c then 4 else 5) ((Xd tc (if c then 4 else 5) r).length+2)]++JY tc (if c then 4 else 5) 2 r++[pushI (!c),jmpI 3 1])++pushI c::b:=by
    rw[j];unfold Yw;simp
   have e:=Bu (M:=M) (s:=(f t s).2) (now:=v) g
   have m:(a++tc t++[jmpI (if c then 4 else 5) ((Xd tc (if c then 4 else 5) r).length+2)]++JY tc (if c then 4 else 5) 2 r++[pushI (!c),jmpI 3 1]).length=(a++tc t).length+1+((Xd tc (if c then 4 else 5) r).length+2):=by
    simp[AD];omega
   rw[m]at e;have n:(a++tc t).length+1+((Xd tc (if c then 4 else 5) r).length+2)+1=a.length+((tc t).length+1+(Xd tc (if c then 4 else 5) r).length+3):=by simp;omega
   rw[n]at e;exact e
  .rw[Qg hv,Qg hv];have g:d=(a++tc t++[jmpI (if c then 4 else 5) ((Xd tc (if c then 4 else 5) r).length+2)])++(Yw tc (if c then 4 else 5) c r++b):=by rw[j];simp
   have e:=Ee (c:=c) r (fun x w=>ht x (Kz _ w)) d _ b (f t s).2 v g;have m:(a++tc t++[jmpI (if c then 4 else 5) ((Xd tc (if c then 4 else 5) r).length+2)]).length=(a++tc t).length+1:=by simp;omega
   rw[m]at e;have n:(a++tc t).length+1+(Yw tc (if c then 4 else 5) c r).length=a.length+(Yw tc (if c then 4 else 5) c (t::r)).length:=by rw[q,o];simp;omega
   rw[n]at e;exact e
theorem DU{d:List Ins}{x:Zk}{c:Int}{vals:Qn}(f:∀m,m.st=s->stepL M d.length (Xu c x) m=doAsk vals (Xu c x) m)(g:1<=x.tag/\x.tag<=3)(e:d=a++Xu c x::b) :
 Comes M d ⟨s,[],now,a.length⟩ (askL s x.tag x.octet vals x.keys).2 [(askL s x.tag x.octet vals x.keys).1] (a.length+1):=by
 refine U2 (now':=a.length) e ?_;rw[f _ rfl];unfold doAsk;rw[Qi (show(1:Int)<=(Xu c x).tag/\(Xu c x).tag<=3 by show(1:Int)<=(x.tag:Int)/\(x.tag:Int)<=3;omega)];rfl
theorem Pn{tc:α->List Ins}{e:α->SS->Bool×SS}(x:Zk){f:List α}(hw:WfT req x f.length)(j:∀t∈f,NZ M (tc t) (e t)):NZ M (KQ tc x f) (evalTN M e x f):=by
 intro d a b s now c;have y:=hw.kind;unfold KQ evalTN at *;obtain⟨k,i⟩:=Q3 (x.kind);rw[<-i]at c y ⊢;rcases k with _|_|_|_|_|_|_|_|_|_|k
 .exact Bu c
 .exact Bu c
 .have r:=hw.one i.symm;obtain⟨t,rfl⟩:=List.length_eq_one_iff.1 r;have w:Q2 tc [t]=tc t:=by simp[Q2]
  have o:=c;show Comes M d ⟨s,[],now,a.length⟩ (Ev e [t] s).2 [(Ev e [t] s).1] (a.length+(Q2 tc [t]++[insOp 2]).length)
  rw[w]at o ⊢;have l:d=a++(tc t++(insOp 2::b)):=by rw[o];simp
  have u:d=(a++tc t)++insOp 2::b:=by rw[l];simp
  refine(j t Kh d a _ s now l).trans (fun now'=>?_);have n:=Qwi (M:=M) (v:=(e t s).1) (s:=(e t s).2) (now:=now') u;have p:(a++tc t).length=a.length+(tc t).length:=Qh
  rw[p]at n;have q:a.length+(tc t++[insOp 2]).length=a.length+(tc t).length+1:=by simp;omega
  rw[q];exact n
 .exact Ee f j d a b s now c
 .exact Ee f j d a b s now c
 .exact DU (fun m g=>by rw[<-g];rfl) (hw.tag I I) c
 .exact DU (fun m g=>rfl) (hw.tag I I) c
 .exact DU (fun m g=>by rw[<-g];rfl) (hw.tag I I) c
 .exact U2 (now':=a.length) c rfl
 .refine U2 (now':=a.length) c ?_;have z:=hw.size i.symm;show VK M ⟨10,x.num,x.tag,false,[],[],0⟩ ⟨s,[],a.length,a.length+1⟩=_
  unfold VK;rw[Qi (show(x.tag:Int)=1\/(x.tag:Int)=2 by omega)];rfl
 .omega
theorem M5{M:Msg}{req:Qn}:∀(n:Nat) (x:Zn n),JQ (WfT req) n x->NZ M (Xv n x) (Ye M n x)
 |0,x,h=>by cases h
 |n+1,x,h=>Pn x.1 h.1 (fun t a=>M5 n t (h.2 t a))
def OutL(M:Msg)(code:List Ins)(m:MS)(p:Nat):CR->Prop
 | .error e=>runL M code m=.error e
 | .ok (s,true)=>∃m',runL M code m=.ok m'/\m'.st=s
 | .ok (s,false)=>Comes M code m s [] p
theorem Comes.out{p q:Nat}{r:CR}(h:Comes M a m s st p)(c:∀now,OutL M a ⟨s,st,now,p⟩ q r):OutL M a m q r:=by
 obtain⟨now,h⟩:=h;have b:=c now
 match r,b with
 | .error e,b=>exact h.trans b
 | .ok (s',true),⟨m',h3,h4⟩=>exact⟨m',h.trans h3,h4⟩
 | .ok (s',false),⟨now',h3⟩=>exact⟨now',h.trans h3⟩
def VQ(M:Msg)(c:List Ins)(ev:SS->CR):Prop:=
 ∀(code a b:List Ins) (s:SS) (now:Nat),code=a++(c++b)->OutL M code ⟨s,[],now,a.length⟩ (a.length+c.length) (ev s)
theorem BY{α:Type}{M:Msg}{cc:α->List Ins}{d:α->SS->CR}:∀(f:List α),(∀t∈f,VQ M (cc t) (d t))->VQ M (Q2 cc f) (bEval d f)
 | [],_,code,a,b,s,now,hc=>by
  show Comes M code ⟨s,[],now,a.length⟩ s [] (a.length+0)
  exact⟨now,rfl⟩
 |t::r,ht,code,a,b,s,now,hc=>by
  have m:Q2 cc (t::r)=cc t++Q2 cc r:=by simp[Q2]
  rw[m]at hc ⊢;have g:code=a++(cc t++(Q2 cc r++b)):=by rw[hc];simp
  have k:code=(a++cc t)++(Q2 cc r++b):=by rw[g];simp
  have c:=ht t Kh code a _ s now g;have i:(a++cc t).length=a.length+(cc t).length:=Qh
  have j:a.length+(cc t++Q2 cc r).length=(a++cc t).length+(Q2 cc r).length:=by simp;omega
  unfold bEval
  match hr:d t s,c with
  | .error e,c=>exact c
  | .ok (s',true),c=>exact c
  | .ok (s',false),c=>
   have l:=c;refine l.out (fun o=>?_);rw[<-i,j];exact BY r (fun x n=>ht x (Kz _ n)) code (a++cc t) b s' o k
theorem Oc{α β:Type}{M:Msg}{tc:β->List Ins}{i:β->SS->Bool×SS}{cc:α->List Ins}{k:α->SS->CR}{g:List α}(he:∀c∈g,VQ M (cc c) (k c)):∀(l:List (β×List α)),(∀a∈l,NZ M (tc a.1) (i a.1)/\∀c∈a.2,VQ M (cc c) (k c))->VQ M (XT tc cc g l) (VP i k g l)
 | [],_=>BY g he
 |x::r,hx=>by
  intro d a b s now q;obtain⟨L,N⟩:=hx x Kh;have v:=Oc he r (fun y J=>hx y (Kz _ J));obtain⟨R,p⟩:=Q3 (XT tc cc g r);have G:XT tc cc g (x::r)=tc x.1++jmpI 5 ((Q2 cc x.2).length+1)::(Q2 cc x.2++jmpI 3 R.length::R):=by rw[p];rfl
  rw[<-p]at v;rw[G]at q ⊢;have j:d=a++(tc x.1++(jmpI 5 ((Q2 cc x.2).length+1)::(Q2 cc x.2++jmpI 3 R.length::(R++b)))):=by rw[q];simp
  have C:d=(a++tc x.1)++jmpI (if false then 4 else 5) ((Q2 cc x.2).length+1)::(Q2 cc x.2++jmpI 3 R.length::(R++b)):=by rw[j];simp
  have D:d=(a++tc x.1++[jmpI 5 ((Q2 cc x.2).length+1)])++(Q2 cc x.2++(jmpI 3 R.length::(R++b))):=by rw[j];simp
  have E:d=(a++tc x.1++[jmpI 5 ((Q2 cc x.2).length+1)]++Q2 cc x.2)++jmpI 3 R.length::(R++b):=by rw[j];simp
  have F:d=(a++tc x.1++[jmpI 5 ((Q2 cc x.2).length+1)]++Q2 cc x.2++[jmpI 3 R.length])++(R++b):=by rw[j];simp
  have m:(a++tc x.1).length=a.length+(tc x.1).length:=Qh
  have o:(a++tc x.1++[jmpI 5 ((Q2 cc x.2).length+1)]).length=a.length+(tc x.1).length+1:=by simp;omega
  have w:(a++tc x.1++[jmpI 5 ((Q2 cc x.2).length+1)]++Q2 cc x.2).length=a.length+(tc x.1).length+1+(Q2 cc x.2).length:=by simp;omega
  have z:(a++tc x.1++[jmpI 5 ((Q2 cc x.2).length+1)]++Q2 cc x.2++[jmpI 3 R.length]).length=a.length+(tc x.1).length+1+(Q2 cc x.2).length+1:=by simp;omega
  have A:a.length+(tc x.1++jmpI 5 ((Q2 cc x.2).length+1)::(Q2 cc x.2++jmpI 3 R.length::R)).length=a.length+(tc x.1).length+1+(Q2 cc x.2).length+1+R.length:=by simp;omega
  rw[A];refine(L d a _ s now j).out (fun P=>?_);rw[<-m];refine(Ib (tk:=false) C Qh).out (fun n=>?_);unfold VP;by_cases hv:(i x.1 s).1=true
  .rw[Qg (by rw[hv];decide),Qi hv,m,<-o];have f:=BY x.2 N d _ _ (i x.1 s).2 n D;rw[o]at f ⊢
   match hr:bEval k x.2 (i x.1 s).2,f with
   | .error e,f=>exact f
   | .ok (s',true),f=>exact f
   | .ok (s',false),f=>
    have H:=f;show Comes M d ⟨(i x.1 s).2,[],n,a.length+(tc x.1).length+1⟩ s' [] (a.length+(tc x.1).length+1+(Q2 cc x.2).length+1+R.length)
    refine H.trans (fun K=>?_);have u:=It (M:=M) (s:=s') (st:=[]) (now:=K) E Qh;rw[w]at u;exact u
  .rw[Qi (by simpa using hv),Qg hv];have t:=v d _ b (i x.1 s).2 n F;rw[z]at t;rw[m];have B:a.length+(tc x.1).length+1+((Q2 cc x.2).length+1)=a.length+(tc x.1).length+1+(Q2 cc x.2).length+1:=I
   rw[B];exact t
theorem Cd{c:List Ins}{kind:Int}{arg:L8}(la:Qn)(e:∀m,stepL M c.length (Xs kind pos la) m=Vl (Xs kind pos la) m arg)(d:c=a++Xs kind pos la::b):OutL M c ⟨s,[],now,a.length⟩ (a.length+1) (UQ s kind arg pos):=by
 unfold UQ;by_cases h0:(addL s.met kind (expL s arg)).1=0
 .rw[Qi h0];refine U2 (now':=a.length) d ?_;rw[e];unfold Vl;rw[show(Xs kind pos la).tag=kind from rfl,Qi h0];rfl
 .rw[Qg h0];show runL M c ⟨s,[],now,a.length⟩=.error _
  rw[DG (m:=⟨s,[],now,a.length⟩) d rfl,e]
  have f:Vl (Xs kind pos la) (atL ⟨s,[],now,a.length⟩) arg=.error ((addL s.met kind (expL s arg)).1,pos):=by
   unfold Vl;exact Qg h0
  rw[f]
theorem QxQ{tc:β->List Ins}{l:β->SS->Bool×SS}{cc:α->List Ins}{j:α->SS->CR}(x:Xa){e:List (β×List α)}{g:List α}(hw:WfC req x e.length g.length)(p:∀a∈e,NZ M (tc a.1) (l a.1)/\∀c∈a.2,VQ M (cc c) (j c))(he:∀c∈g,VQ M (cc c) (j c)) :
 VQ M (Gk tc cc x e g) (Uh l j x e g):=by
 intro f a b s i d;have n:=hw.kind;unfold Gk Uh at *;obtain⟨k,o⟩:=Q3 (x.kind);rw[<-o]at d n ⊢;rcases k with _|_|_|_|_|_|_|_|k
 .exact Cd [] (fun m=>rfl) d
 .show Comes M f ⟨s,[],i,a.length⟩ (Gl s) [] (a.length+1)
  exact U2 (now':=a.length) d rfl
 .show ∃m',runL M f ⟨s,[],i,a.length⟩=.ok m'/\m'.st=s
  refine⟨⟨s,[],a.length,f.length⟩,?_,rfl⟩;rw[DG (m:=⟨s,[],i,a.length⟩) d rfl];exact Mn QF
 .exact Cd [x.arg] (fun m=>rfl) d
 .exact Cd [x.arg] (fun m=>rfl) d
 .exact Cd [x.arg] (fun m=>rfl) d
 .show Comes M f ⟨s,[],i,a.length⟩ (Ur s x.var x.tag x.arg) [] (a.length+1)
  refine U2 (now':=a.length) d ?_;have q:=hw.tag;show VO ⟨12,0,x.tag,false,[x.var],[x.arg],x.pos⟩ ⟨s,[],a.length,a.length+1⟩=_
  unfold VO;rw[Qi (show(0:Int)<=(x.tag:Int)/\(x.tag:Int)<=3/\[x.var]≠[]/\[x.arg]≠[] by refine⟨I,I,Qh,Qh⟩)];rfl
 .exact Oc he e p f a b s i d
 .omega
theorem EL{M:Msg}{req:Qn}:∀(n:Nat) (x:Q5 n),YE (WfT req) (WfC req) n x->VQ M (Xg n x) (evalC M n x)
 |0,x,h=>by cases h
 |n+1,x,h=>QxQ x.1 h.1 (fun a d=>⟨M5 n a.1 (h.2.1 a d).1,fun c b=>EL n c ((h.2.1 a d).2 c b)⟩) (fun c b=>EL n c (h.2.2 c b))
def sayE(r:CR):List (Int×L8)×Option FZ:=
 match r with
 | .error e=>([(1,[])],some e)
 | .ok (s,_)=>(K1 s,none)
theorem Qyb(v:Bool){a:List (Q5 7)}(hw:∀c∈a,YE (WfT req) (WfC req) 7 c)(l:(XH a).length<=400) :
 ((execL v (XH a) M).1,(execL v (XH a) M).2.2)=sayE (bEval (evalC M 7) a (ss0 v)):=by
 have h:=BY a (fun c j=>EL (M:=M) 7 c (hw c j)) (XH a) [] [] (ss0 v) 0 (by rw[BN];simp);have f:runL M (XH a) (ms0 v)=(Yd M (XH a) (XH a).length (ms0 v) 0).1:=rfl;have k:(⟨ss0 v,[],0,([]:List Ins).length⟩:MS)=ms0 v:=rfl;rw[k]at h;unfold execL;rw[Q8]
 cases hL:Yd M (XH a) (XH a).length (ms0 v) 0 with
 |mk r d=>
  rw[hL]at f;dsimp only at f
  match hb:bEval (evalC M 7) a (ss0 v),h with
  | .error e,h=>
   have b:=f.symm.trans h;subst b;rfl
  | .ok (s,true),⟨m',b,g⟩=>
   have i:=f.symm.trans b;subst i;subst g;rfl
  | .ok (s,false),⟨now,b⟩=>
   have g:runL M (XH a) ⟨s,[],now,([]:List Ins).length+(Q2 (Xg 7) a).length⟩=.ok ⟨s,[],now,([]:List Ins).length+(Q2 (Xg 7) a).length⟩:=Mn (by show(XH a).length<=([]:List Ins).length+(Q2 (Xg 7) a).length;rw[BN];simp);have i:=f.symm.trans (b.trans g);subst i;rfl
theorem QzM{s y:PS}(h:Gp l s)(b:nL l s.2=.ok y):Gp l y/\64*s.1.spelt.length+64*ph l y<=64*ph l s:=by
 obtain⟨a,c⟩:=B0 h b;have d:=h.spl;have e:=a.le;have f:=a.lt;have g:=h.lt;refine⟨a,?_⟩;unfold ph;omega
theorem Dk(c:α->Nat)(x:α){xs:List α}:Zh c (x::xs)=c x+Zh c xs:=by simp[Zh]
theorem I_(c:α->Nat)(x:α):Zh c [x]=c x:=by simp[Zh]
theorem FK{α:Type}{l:L8}{sub:PS->Qq (α×PS)}{c:α->Nat}(b:∀s,Gp l s->Ct 32 l c (sub s) s):∀(f:Nat) (acc:List α) (s:PS),Gp l s->ph l s<f->∀y,gMr l sub f acc s=.ok y->Gp l y.2/\Zh (fun x=>c x+96) y.1+64+64*ph l y.2<=Zh (fun x=>c x+96) acc+64*ph l s
 |0,acc,s,h,hf=>absurd hf (XA _)
 |f+1,acc,s,h,hf=>fun y e=>by
  rw[gMr]at e
  cases hp:paL l [[44],[41]] s with
  |error g=>rw[QC hp]at e;cases e
  |ok z=>
   rw[Qx hp]at e;obtain⟨a,k⟩:=J_ (zs:=[[44],[41]]) h Qb z hp
   split at e
   .cases hq:sub z.2 with
    |error g=>rw[QC hq]at e;cases e
    |ok x=>
     rw[Qx hq]at e;obtain⟨d,m⟩:=b z.2 a x hq;obtain⟨i,j⟩:=FK b f _ x.2 d (by dsimp only at *;omega) y e;refine⟨i,?_⟩;rw[NI]at j;dsimp only at *;omega
   .cases e;exact⟨a,by dsimp only at *;omega⟩
theorem Mu(hF:l.length<F)(a:∀s,Gp l s->Ct 32 l c (sub s) s){s:PS}(h:Gp l s):Ct 64 l (Zh (fun x=>c x+96)) (groupL l F sub s) s:=fun y e=>by
 unfold groupL at e
 cases hp:paL l [[40]] s with
 |error g=>rw[QC hp]at e;cases e
 |ok z=>
  rw[Qx hp]at e;obtain⟨b,j⟩:=J_ (zs:=[[40]]) h Qb z hp
  cases hq:sub z.2 with
  |error g=>rw[QC hq]at e;cases e
  |ok x=>
   rw[Qx hq]at e;obtain⟨d,k⟩:=a z.2 b x hq;have m:ph l x.2<=l.length:=by unfold ph;omega
   obtain⟨f,i⟩:=FK a F _ x.2 d I y e;refine⟨f,?_⟩;rw[I_]at i;dsimp only at *;omega
theorem Mk{α:Type}(tc:α->List Ins)(j:Int):∀ts:List α,96*(Xd tc j ts).length=Zh (fun x=>96*(tc x).length+96) ts
 | []=>rfl
 |t::r=>by
  have:=Mk tc j r;rw[Dk];simp only[Xd,Qz,Q1];omega
theorem LB(tc:α->List Ins){j:Int}{b:Bool}{a:List α}:96*(Yw tc j b a).length=Zh (fun x=>96*(tc x).length+96) a+288:=by
 have c:=Mk tc j a;unfold Yw;simp only[Qz,Q1,Zl,AD];omega
theorem Es{chk:L8->Nat}{s:PS}{y:Zk×PS}(h:Gp l s)(e:Xr l F chk k pos s=.ok y):Gp l y.2/\64*ph l y.2<=64*ph l s:=by
 obtain⟨a,b⟩:=BW h y e;exact⟨a,I⟩
def Cp(k:Nat):Nat:=if k=2 then 3 else if k=3\/k=4 then 5 else 4
theorem WN(n:Nat){sub:PS->Qq (Zn n×PS)}(hF:l.length<F)(j:∀s,Gp l s->Ct 32 l (fun x=>96*(Xv n x).length) (sub s) s){s:PS}(h:Gp l s):∀y,tBd l F sub k pos s=.ok y->Gp l y.2/\96*(Xv (n+1) y.1).length+32+64*ph l y.2<=64*Cp k+64*ph l s:=by
 intro y e;unfold tBd at e
 split at e
 .cases e;exact⟨h,by show 96*1+32+64*ph l s<=64*4+_;omega⟩
 .cases e;exact⟨h,by show 96*1+32+64*ph l s<=64*4+_;omega⟩
 .cases hq:sub s with
  |error g=>rw[QC hq]at e;cases e
  |ok x=>
   rw[Qx hq]at e;obtain⟨c,d⟩:=j s h x hq;cases e;refine⟨c,?_⟩;show 96*(Q2 (Xv n) [x.1]++[insOp 2]).length+32+64*ph l x.2<=64*3+_
   simp only[Q2,YS,List.flatMap_nil,J3,Qz,Q1,Zl];dsimp only at *;omega
 .cases hq:groupL l F sub s with
  |error g=>rw[QC hq]at e;cases e
  |ok x=>
   rw[Qx hq]at e;obtain⟨c,d⟩:=Mu hF j h x hq;cases e;refine⟨c,?_⟩;show 96*(Yw (Xv n) 5 false x.1).length+32+64*ph l x.2<=64*5+_
   rw[LB];omega
 .cases hq:groupL l F sub s with
  |error g=>rw[QC hq]at e;cases e
  |ok x=>
   rw[Qx hq]at e;obtain⟨c,d⟩:=Mu hF j h x hq;cases e;refine⟨c,?_⟩;show 96*(Yw (Xv n) 4 true x.1).length+32+64*ph l x.2<=64*5+_
   rw[LB];omega
 .cases hq:Xr l F (fun _=>0) 5 pos s with
  |error g=>rw[QC hq]at e;cases e
  |ok x=>
   rw[Qx hq]at e;obtain⟨c,d⟩:=Es h hq;have f:=NE hq;cases e;refine⟨c,?_⟩
   have i:(Xv (n+1) ((x.1,[]):Zn (n+1))).length=1:=by
    show(KQ (Xv n) x.1 []).length=1
    unfold KQ;rw[f];rfl
   rw[i];show 96*1+32+64*ph l x.2<=64*4+_
   omega
 .cases hq:Xr l F (fun x=>if 0<wL [JL,kTo] (zL x)then 0 else 7) 6 pos s with
  |error g=>rw[QC hq]at e;cases e
  |ok x=>
   rw[Qx hq]at e;obtain⟨c,d⟩:=Es h hq;have f:=NE hq;cases e;refine⟨c,?_⟩
   have i:(Xv (n+1) ((x.1,[]):Zn (n+1))).length=1:=by
    show(KQ (Xv n) x.1 []).length=1
    unfold KQ;rw[f];rfl
   rw[i];show 96*1+32+64*ph l x.2<=64*4+_
   omega
 .cases hq:Xr l F (fun _=>0) 7 pos s with
  |error g=>rw[QC hq]at e;cases e
  |ok x=>
   rw[Qx hq]at e;obtain⟨c,d⟩:=Es h hq;have f:=NE hq;cases e;refine⟨c,?_⟩
   have i:(Xv (n+1) ((x.1,[]):Zn (n+1))).length=1:=by
    show(KQ (Xv n) x.1 []).length=1
    unfold KQ;rw[f];rfl
   rw[i];show 96*1+32+64*ph l x.2<=64*4+_
   omega
 .cases hq:sLs l (fun _=>0) F s with
  |error g=>rw[QC hq]at e;cases e
  |ok x=>
   rw[Qx hq]at e;obtain⟨c,d⟩:=An h x hq;cases e;refine⟨c,?_⟩;show 96*1+32+64*ph l x.2<=64*4+_
   omega
 .next hk0 hk1 hk2 hk3 hk4 hk5 hk6 hk7 hk8=>
  cases hq:sizeL l pos s with
  |error g=>rw[QC hq]at e;cases e
  |ok x=>
   rw[Qx hq]at e;obtain⟨c,d,f,i⟩:=M' h x hq;cases e;refine⟨c,?_⟩
   have m:(Xv (n+1) ((x.1,[]):Zn (n+1))).length=1:=by
    show(KQ (Xv n) x.1 []).length=1
    unfold KQ;rw[f];rfl
   rw[m]
   have o:3<=Cp k:=by
    unfold Cp;by_cases a:k=2
    .rw[Qi a];omega
    .rw[Qg a];by_cases b:k=3\/k=4
     .rw[Qi b];omega
     .rw[Qg b];omega
   show 96*1+32+64*ph l x.2<=_
   omega
theorem Qyr:∀k,k<10->Cp k<=(tNs.getD k []).length:=Qb
theorem Od{l:L8}{req:Qn}{F:Nat}(hF:l.length<F):∀(n:Nat) (s:PS),Gp l s->Ct 32 l (fun x=>96*(Xv n x).length) (QP l req F n s) s
 |0,s,h=>fun y e=>by
  rw[QP]at e
  split at e<;>cases e
 |n+1,s,h=>fun y e=>by
  rw[QP]at e;by_cases h0:wL tNs s.1.spelt=0
  .rw[Qi h0]at e;cases e
  .rw[Qg h0]at e;cases hu:Z4 req s.1.spelt
   .rw[hu,Qg Qb]at e;cases e
   .rw[hu,Qi rfl]at e
    cases hn:nL l s.2 with
    |error g=>cases(Jv hn).symm.trans e
    |ok z=>
     replace e:=(YV hn).symm.trans e;obtain⟨a,d⟩:=QzM h hn;obtain⟨b,f⟩:=WN n hF (fun s g=>Od hF n s g) a y e;have i:=KK tNs s.1.spelt;have j:tNs.length=10:=Qb
     have c:=Qyr (wL tNs s.1.spelt-1) I;rw[By tNs s.1.spelt h0]at c;exact⟨b,by dsimp only at *;omega⟩
theorem FM{α:Type}{l:L8}{sub:PS->Qq (α×PS)}{c:α->Nat}(d:∀s,Gp l s->∀y,sub s=.ok y->Gp l y.2/\ph l y.2<ph l s)(i:∀s,Gp l s->Ct 0 l c (sub s) s):∀(f:Nat) (acc:List α) (s:PS),Gp l s->ph l s<f->∀y,bMr l sub f acc s=.ok y->Gp l y.2/\Zh c y.1+64+64*ph l y.2<=Zh c acc+64*ph l s
 |0,acc,s,h,hf=>absurd hf (XA _)
 |f+1,acc,s,h,hf=>fun y e=>by
  rw[bMr]at e
  cases hp:mayL l [[125]] s with
  |error g=>rw[QC hp]at e;cases e
  |ok z=>
   rw[Qx hp]at e;obtain⟨b,a⟩:=KP (zs:=[[125]]) h Qb z hp
   split at e
   .cases hq:sub z.2 with
    |error g=>rw[QC hq]at e;cases e
    |ok x=>
     rw[Qx hq]at e;obtain⟨j,n⟩:=i z.2 b x hq;have o:=(d z.2 b x hq).2;obtain⟨k,m⟩:=FM d i f _ x.2 j (by dsimp only at *;split at a<;>omega) y e;refine⟨k,?_⟩;rw[NI]at m;dsimp only at *
     split at a<;>omega
   .next hi=>
    cases e;dsimp only at a;rw[Qg hi]at a;exact⟨b,by dsimp only at *;omega⟩
theorem L4(hF:l.length<F)(d:∀s,Gp l s->∀y,sub s=.ok y->Gp l y.2/\ph l y.2<ph l s)(f:∀s,Gp l s->Ct 0 l c (sub s) s){s:PS}(h:Gp l s):Ct 128 l (Zh c) (blockL l F sub s) s:=fun y e=>by
 unfold blockL at e
 cases hp:paL l [[123]] s with
 |error g=>rw[QC hp]at e;cases e
 |ok z=>
  rw[Qx hp]at e;obtain⟨a,i⟩:=J_ (zs:=[[123]]) h Qb z hp;have k:ph l z.2<=l.length:=by unfold ph;omega
  obtain⟨b,j⟩:=FM d f F _ z.2 a I y e;refine⟨b,?_⟩;have:Zh c ([]:List α)=0:=rfl;dsimp only at *;omega
theorem Ov{tst:PS->Qq (β×PS)}{b:β->Nat}(hF:l.length<F)(k:∀s,Gp l s->Ct 32 l b (tst s) s)(i:∀s,Gp l s->∀y,sub s=.ok y->Gp l y.2/\ph l y.2<ph l s)(j:∀s,Gp l s->Ct 0 l c (sub s) s){s:PS}(h:Gp l s):Ct 0 l (fun a=>160+b a.1+Zh c a.2) (armL l F tst sub s) s:=fun y e=>by
 unfold armL at e
 cases hp:tst s with
 |error g=>rw[QC hp]at e;cases e
 |ok z=>
  rw[Qx hp]at e;obtain⟨d,m⟩:=k s h z hp
  cases hq:blockL l F sub z.2 with
  |error g=>rw[QC hq]at e;cases e
  |ok x=>
   rw[Qx hq]at e;obtain⟨f,n⟩:=L4 hF i j d x hq;cases e;exact⟨f,by dsimp only at *;omega⟩
theorem Oa{α β:Type}{l:L8}{F:Nat}{tst:PS->Qq (β×PS)}{sub:PS->Qq (α×PS)}{b:β->Nat}{c:α->Nat}(hF:l.length<F)(m:∀s,Gp l s->Ct 32 l b (tst s) s)(j:∀s,Gp l s->∀y,sub s=.ok y->Gp l y.2/\ph l y.2<ph l s)(k:∀s,Gp l s->Ct 0 l c (sub s) s):∀(f:Nat) (acc:List (β×List α)) (s:PS),Gp l s->∀y,aMr l F tst sub f acc s=.ok y->Gp l y.2/\Zh (fun a=>192+b a.1+Zh c a.2) y.1+64*ph l y.2<=Zh (fun a=>192+b a.1+Zh c a.2) acc+64*ph l s
 |0,acc,s,h=>fun y e=>by cases e;exact⟨h,Q4 _⟩
 |f+1,acc,s,h=>fun y e=>by
  rw[aMr]at e
  cases hp:mayL l [YB] s with
  |error g=>rw[QC hp]at e;cases e
  |ok z=>
   rw[Qx hp]at e;obtain⟨i,d⟩:=KP (zs:=[YB]) h Qb z hp
   split at e
   .cases e;exact⟨i,by dsimp only at *;split at d<;>omega⟩
   .next hi=>
    dsimp only at d;rw[Qg hi]at d
    cases hq:armL l F tst sub z.2 with
    |error g=>rw[QC hq]at e;cases e
    |ok x=>
     rw[Qx hq]at e;obtain⟨n,q⟩:=Ov hF m j k i x hq;obtain⟨o,p⟩:=Oa hF m j k f _ x.2 n y e;refine⟨o,?_⟩;rw[NI]at p;dsimp only at *;omega
theorem BF{α:Type}(cc:α->List Ins):∀ts:List α,96*(Q2 cc ts).length=Zh (fun x=>96*(cc x).length) ts
 | []=>rfl
 |t::r=>by
  have:=BF cc r;rw[Dk];simp only[Q2,YS,Qz]at this ⊢;omega
theorem DH{α β:Type}(tc:β->List Ins)(cc:α->List Ins)(b:List α):∀arms:List (β×List α),96*(XT tc cc b arms).length=Zh (fun a=>192+96*(tc a.1).length+Zh (fun x=>96*(cc x).length) a.2) arms+Zh (fun x=>96*(cc x).length) b
 | []=>by have:=BF cc b;simp only[XT];rw[this];simp[Zh]
 |a::r=>by
  have c:=DH tc cc b r;have d:=BF cc a.2;rw[Dk];simp only[XT,Qz,Q1];omega
theorem G6{s:PS}{a:α}(h:Gp l s):∀y,semi l s a=.ok y->y.1=a/\Gp l y.2/\64+64*ph l y.2<=64*ph l s:=fun y e=>by
 unfold semi at e
 cases hp:paL l [[59]] s with
 |error g=>rw[QC hp]at e;cases e
 |ok z=>
  rw[Qx hp]at e;obtain⟨b,c⟩:=J_ (zs:=[[59]]) h Qb z hp;cases e;exact⟨rfl,b,by dsimp only at *;omega⟩
theorem Qtp(n:Nat){tst:PS->Qq (Zn n×PS)}{sub:PS->Qq (Q5 n×PS)}(hF:l.length<F)(u:∀s,Gp l s->Ct 32 l (fun x=>96*(Xv n x).length) (tst s) s)(o:∀s,Gp l s->∀y,sub s=.ok y->Gp l y.2/\ph l y.2<ph l s)(p:∀s,Gp l s->Ct 0 l (fun x=>96*(Xg n x).length) (sub s) s){s:PS}(h:Gp l s):∀y,cBd l F tst sub k pos s=.ok y->Gp l y.2/\96*(Xg (n+1) y.1).length+64*ph l y.2<=64+64*ph l s:=by
 intro y e;unfold cBd at e
 split at e
 .obtain⟨b,c,f⟩:=G6 h y e;refine⟨c,?_⟩;rw[b];show 96*1+64*ph l y.2<=_
  omega
 .obtain⟨b,c,f⟩:=G6 h y e;refine⟨c,?_⟩;rw[b];show 96*1+64*ph l y.2<=_
  omega
 .obtain⟨b,c,f⟩:=G6 h y e;refine⟨c,?_⟩;rw[b];show 96*1+64*ph l y.2<=_
  omega
 .cases hq:sL l (fun _=>0) s with
  |error g=>rw[QC hq]at e;cases e
  |ok x=>
   rw[Qx hq]at e;obtain⟨d,i⟩:=Kj h x hq;obtain⟨b,c,f⟩:=G6 d y e;refine⟨c,?_⟩;rw[b];show 96*1+64*ph l y.2<=_
   omega
 .cases hq:sL l (fun _=>0) s with
  |error g=>rw[QC hq]at e;cases e
  |ok x=>
   rw[Qx hq]at e;obtain⟨d,i⟩:=Kj h x hq;obtain⟨b,c,f⟩:=G6 d y e;refine⟨c,?_⟩;rw[b];show 96*1+64*ph l y.2<=_
   omega
 .cases hq:sL l (fun _=>0) s with
  |error g=>rw[QC hq]at e;cases e
  |ok x=>
   rw[Qx hq]at e;obtain⟨d,i⟩:=Kj h x hq;obtain⟨b,c,f⟩:=G6 d y e;refine⟨c,?_⟩;rw[b];show 96*1+64*ph l y.2<=_
   omega
 .cases hm:mayL l [Yn,Ym,Yj] s with
  |error g=>rw[QC hm]at e;cases e
  |ok m=>
   rw[Qx hm]at e;obtain⟨w,A⟩:=KP (zs:=[Yn,Ym,Yj]) h Qb m hm
   cases hv:sL l (fun x=>if isNameL x then 0 else 7) m.2 with
   |error g=>rw[QC hv]at e;cases e
   |ok v=>
    rw[Qx hv]at e;obtain⟨j,q⟩:=Kj w v hv
    cases hq:sL l (fun _=>0) v.2 with
    |error g=>rw[QC hq]at e;cases e
    |ok x=>
     rw[Qx hq]at e;obtain⟨d,i⟩:=Kj j x hq;obtain⟨b,c,f⟩:=G6 d y e;refine⟨c,?_⟩;rw[b];show 96*1+64*ph l y.2<=_
     omega
 .cases ha:armL l F tst sub s with
  |error g=>rw[QC ha]at e;cases e
  |ok a=>
   rw[Qx ha]at e;obtain⟨d,i⟩:=Ov hF u o p h a ha
   cases hb:aMr l F tst sub F [a.1] a.2 with
   |error g=>rw[QC hb]at e;cases e
   |ok bb=>
    rw[Qx hb]at e;obtain⟨j,q⟩:=Oa hF u o p F _ a.2 d bb hb;rw[I_]at q
    cases hm:mayL l [Yv] bb.2 with
    |error g=>rw[QC hm]at e;cases e
    |ok m=>
     rw[Qx hm]at e;obtain⟨r,t⟩:=KP (zs:=[Yv]) j Qb m hm;have B:64*ph l m.2<=64*ph l bb.2:=by dsimp only at t;split at t<;>omega
     split at e
     .cases e;refine⟨r,?_⟩;show 96*(XT (Xv n) (Xg n) [] bb.1).length+64*ph l m.2<=_
      rw[DH];have:Zh (fun x=>96*(Xg n x).length) ([]:List (Q5 n))=0:=rfl;rw[this];dsimp only at *;omega
     .cases hc:blockL l F sub m.2 with
      |error g=>rw[QC hc]at e;cases e
      |ok cs=>
       rw[Qx hc]at e;obtain⟨z,C⟩:=L4 hF o p r cs hc;cases e;refine⟨z,?_⟩;show 96*(XT (Xv n) (Xg n) cs.1 bb.1).length+64*ph l cs.2<=_
       rw[DH];dsimp only at *;omega
theorem OB{l:L8}{req:Qn}{F:Nat}(hF:l.length<F):∀(n:Nat) (b:n<=7) (s:PS),Gp l s->Ct 0 l (fun x=>96*(Xg n x).length) (cmdL l req F n s) s
 |0,b,s,h=>fun y e=>by
  rw[cmdL]at e
  split at e<;>cases e
 |n+1,b,s,h=>fun y e=>by
  rw[cmdL]at e;by_cases h0:wL cNs s.1.spelt=0
  .rw[Qi h0]at e;cases e
  .rw[Qg h0]at e;cases hu:Z4 req s.1.spelt
   .rw[hu,Qg Qb]at e;cases e
   .rw[hu,Qi rfl]at e
    cases hq:nL l s.2 with
    |error g=>cases(Jv hq).symm.trans e
    |ok z=>
     replace e:=(YV hq).symm.trans e;obtain⟨g1,d⟩:=Ub h (UF (zs:=cNs) h Qb h0) hq
     obtain ⟨g3,g4⟩:=Qtp n hF (fun s g=>Od hF n s g) (fun s g y e=>by
      have a:=Ck n [] (by simp;omega) s g y e;refine⟨a.1,?_⟩;have c:=a.2;unfold KM at c
      omega) (fun s g=>OB hF n I s g) g1 y e
     exact⟨g3,by dsimp only at *;omega⟩
theorem T_{y:Qn×List (Q5 7)}(h:prL l=.ok y):3*(XH y.2).length<=2*l.length:=by
 unfold prL at h;dsimp only at h;obtain⟨F,a⟩:=Q3 (2*l.length+10);rw[<-a]at h;have hF:l.length<F:=I
 clear a
 cases h1:nL l 0 with
 |error f=>rw[h1]at h;cases h
 |ok s=>
  rw[h1]at h;dsimp only at h
  have d:Gp l s:=by
   unfold nL at h1
   cases hs:Zw (l.length+1) (l.drop 0) 0 with
   |error f=>rw[hs]at h1;cases h1
   |ok n=>
    rw[hs]at h1;exact(BX (Vy l _ 0 n QR hs).2 s h1).1
  cases h3:reqMore l F F [] s with
  |error f=>rw[h3]at h;cases h
  |ok z=>
   rw[h3]at h;dsimp only at h;obtain⟨b,e⟩:=Bt F [] s d z h3
   cases h4:cMr (cmdL l z.1 F 7) F [] z.2 with
   |error f=>rw[h4]at h;cases h
   |ok cs=>
    rw[h4]at h;have i:=C_ (c:=fun x=>96*(Xg 7 x).length) (fun s g=>OB hF 7 I s g) F [] z.2 b cs h4;cases h;have j:=BF (Xg 7) cs;have k:ph l s<=l.length:=by unfold ph;omega
    have m:Zh (fun x=>96*(Xg 7 x).length) ([]:List (Q5 7))=0:=rfl;have o:X4 ([]:Qn)=0:=rfl;rw[BN];dsimp only;omega
end Go.Proofs.YtgnkjijocdmniaaGreatDoor
