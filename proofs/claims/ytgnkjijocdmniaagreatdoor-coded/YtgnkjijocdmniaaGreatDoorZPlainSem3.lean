import Derived.Lib.ItoaNum
import Derived.Test.YtgnkjijocdmniaaGreatDoorZPlainQ3
namespace Go.Proofs.YtgnkjijocdmniaaGreatDoor
set_option linter.unusedVariables false
set_option linter.unusedSimpArgs false
set_option maxRecDepth 100000
set_option maxHeartbeats 4000000
variable{α β:Type}{n now:Nat}{req:Qa}{st:List Bool}{v:Bool}
section
def Z2:L8->List (Nat×UInt8)
 | []=>[]
 | [c]=>[if c=42 then(2,0)else if c=63 then(1,0)else(0,c)]
 |c::d::r=>if c=42 then(2,0)::Z2 (d::r)else if c=63 then(1,0)::Z2 (d::r)else if c=92 then(0,d)::Z2 r else(0,c)::Z2 (d::r)
def Pc(p:Nat×UInt8)(c:UInt8):Bool:=p.1==1 || (p.1==0&&p.2==c)
def Xn:List (Nat×UInt8)->L8->Bool
 | [],v=>v.isEmpty
 |p::k,[]=>p.1==2&&Xn k []
 |p::k,c::v=>if p.1=2 then Xn k (c::v) || Xn (p::k) v else Pc p c&&Xn k v
termination_by k v=>k.length+v.length
theorem Pd(x:UInt8)(k:List (Nat×UInt8))(c:UInt8)(v:L8)(h:Xn k (c::v)=false):Xn ((2,x)::k) (c::v)=Xn ((2,x)::k) v:=by
 rw[Xn,if_pos rfl,h,Bool.false_or]
def Ya(k:List (Nat×UInt8)):L8->Nat
 | []=>0
 |c::v=>if Xn k (c::v)=true then 0 else Ya k v+1
def Jb:List (Nat×UInt8)->L8->Nat->List Nat
 | [],_,o=>[o]
 |p::k,v,o=>o::(if p.1=2 then Jb k (v.drop (Ya k v)) (o+Ya k v)else Jb k (v.drop 1) (o+1))
variable {v:L8} {key:List (Nat×UInt8)} {s e a k:Nat} {pl:List Nat}
end
theorem Pe(x:UInt8)(k:List (Nat×UInt8))(v:L8)(h:Xn ((2,x)::k) v=true):Ya k v<=v.length/\Xn k (v.drop (Ya k v))=true:=by
 induction v with
 |nil=>rw[Xn]at h;simp at h;exact⟨Nat.le_refl _,h⟩
 |cons c v ih=>
  rw[Ya];split
  ·next hm=>exact⟨QC,hm⟩
  ·next hm=>
   rw[Pd x k c v (by simpa using hm)]at h;exact⟨Nat.succ_le_succ (ih h).1,by rw[List.drop_succ_cons];exact(ih h).2⟩
def toldTo(v:L8)(key:List (Nat×UInt8))(pl:List Nat):Nat->Qa
 |0=>[v]
 |n+1=>toldTo v key pl n++(if(key.getD n (0,0)).1=0 then []else [(v.drop (pl.getD n 0)).take (pl.getD (n+1) 0 - pl.getD n 0)])
theorem NV(w:L8):Z2 (42::w)=(2,0)::Z2 w:=by
 cases w with
 |nil=>rfl
 |cons d r=>rw[Z2,if_pos rfl]
theorem Bn(w:L8):Z2 (63::w)=(1,0)::Z2 w:=by
 cases w with
 |nil=>rfl
 |cons d r=>rw[Z2,if_neg (by decide),if_pos rfl]
structure Msg where
 fr:L8
 to:L8
 size:Int
 hdrs:List (L8×L8)
variable{M:Msg}
structure SS where
 vs:Bool
 vals:L8->Option (L8)
 told:Qa
 met:List (Int×L8)
 disc:Bool
variable{s:SS}
abbrev FZ:=Int×Int
def VU(s:SS)(t:Qa):SS:=⟨s.vs,s.vals,t,s.met,s.disc⟩
def YW(s:SS)(l:List (Int×L8)):SS:=⟨s.vs,s.vals,s.told,l,s.disc⟩
def KE(s:SS):SS:=⟨s.vs,s.vals,s.told,s.met,true⟩
def ss0(v:Bool):SS:=⟨v,fun _=>none,[],[],false⟩
def Jn(l:L8):Nat:=
 match l with
 | []=>0
 |c::r=>if QK c.toNat then 1 else nameLen (c::r)
def DS(s:SS)(name:L8):L8:=
 match name with
 | []=>[]
 |c::r=>if QK c.toNat then s.told.getD (c.toNat - 48) []else(s.vals (zL (c::r))).getD []
def J1(l:L8):Nat:=
 if l.take 2=[36,123]/\((l.drop 2).drop (Jn (l.drop 2))).take 1=[125]then Jn (l.drop 2)else 0
def Yq(s:SS)(l:L8):L8×Nat:=
 if J1 l=0 then(l.take 1,1)else(DS s ((l.drop 2).take (J1 l)),3+J1 l)
def Gy(s:SS):Nat->L8->L8->L8
 |0,_,acc=>acc
 |n+1,l,acc=>if l≠[]/\acc.length<1024 then Gy s n (l.drop (Yq s l).2) (acc++(Yq s l).1.take (1024 - acc.length))else acc
def expL(s:SS)(l:L8):L8:=if s.vs then Gy s (l.length+1) l []else l
def lookL(oct:Bool)(x:L8):L8:=if oct then x else zL x
def Xw(k:L8):L8->Bool
 | []=>k.isPrefixOf []
 |c::v=>k.isPrefixOf (c::v) || Xw k v
def wayB(tag:Int)(oct:Bool)(v k:L8):Bool:=
 if tag=1 then decide (lookL oct v=lookL oct k)
 else if tag=2 then Xw (lookL oct k) (lookL oct v)
 else Xn (Z2 (lookL oct k)) (lookL oct v)
def VV(tag:Int)(oct:Bool)(v k:L8):Option (Qa):=
 if tag=3 then some (toldTo v (Z2 (lookL oct k)) (Jb (Z2 (lookL oct k)) (lookL oct v) 0) (Z2 (lookL oct k)).length)else none
def K7(tag:Int)(oct:Bool)(v:L8):Qa->Option (L8)
 | []=>none
 |k::r=>if wayB tag oct v k then some k else K7 tag oct v r
def KF(tag:Int)(oct:Bool)(keys:Qa):Qa->Option (L8×L8)
 | []=>none
 |v::r=>match K7 tag oct v keys with
  |some k=>some (v,k)
  |none=>KF tag oct keys r
def Z9(s:SS)(tag:Int)(oct:Bool)(vals keys:Qa):Bool×SS:=
 match KF tag oct (keys.map (expL s)) vals with
 |none=>(false,s)
 | some (v,k)=>(true,match VV tag oct v k with
  |some t=>VU s t
  | none=>s)
def AK(h:L8×L8)(n:L8):Bool:=decide (zL h.1=zL n)
def fieldsL(M:Msg)(names:Qa):Qa:=names.flatMap fun n=>(M.hdrs.filter (AK · n)).map (·.2)
def envL(M:Msg)(parts:Qa):Qa:=parts.flatMap fun p=>if zL p=[102,114,111,109]then [M.fr]else if zL p=[116,111]then [M.to]else []
def YB(M:Msg)(names:Qa):Bool:=names.all fun n=>M.hdrs.any (AK · n)
def UW(M:Msg)(tag n:Int):Bool:=if tag=2 then decide (M.size<n)else decide (n<M.size)
def VW(c:UInt8):Bool:=Q1 c || c==45 || c==46
def isBoxL(x:L8):Bool:=!x.isEmpty&&(decide (x.length<=16)&&(x.head? != some 46&&x.all VW))
def isAddrL(x:L8):Bool:=decide (3<=x.length)&&(decide (x.length<=32)&&(decide (x.count 64=1)&&(x.all (fun c=>!ZN c.toNat)&&(x.head? != some 64&&x.getLast? != some 64))))
def NC(kind:Int)(arg:L8):L8:=if kind=4 then arg.take 48 else arg
def Xc(met:List (Int×L8))(kind:Int)(arg:L8):Int×List (Int×L8):=
 if kind=2/\isBoxL arg=false then(8,met)
 else if kind=3/\isAddrL arg=false then(9,met)
 else if(kind,NC kind arg)∈met then(0,met)
 else if met≠[]/\(kind=4\/(met.headD (0,[])).1=4)then(10,met)
 else if met.length=6 then(11,met)
 else(0,met++[(kind,NC kind arg)])
def Va(s:SS):List (Int×L8):=if s.met=[]/\s.disc=false then [(1,[])]else s.met
def Kv(c:UInt8):UInt8:=if J9 c.toNat then c - 97+65 else c
def capL(l:L8):L8:=l.map Kv
def turnL(tag:Int)(x:L8):L8:=
 if tag=1 then zL x else if tag=2 then capL x else if tag=3 then Lib.decDigits x.length else x
def Kx(s:SS)(name:L8)(tag:Int)(said:L8):SS:=
 ⟨s.vs,fun x=>if x=name then some ((turnL tag (expL s said)).take 48)else s.vals x,s.told,s.met,s.disc⟩
structure Ins where
 op:Int
 n:Int
 tag:Int
 oct:Bool
 a:Qa
 b:Qa
 at_:Int
variable{a b code:List Ins}{i:Ins}{sub:α->List Ins->List Ins}{tst:β->List Ins->List Ins}
structure MS where
 st:SS
 stack:List Bool
 now:Nat
 next:Nat
variable{m:MS}
def J2(v:Bool)(m:MS):Except FZ MS:=if m.stack.length<8 then .ok ⟨m.st,m.stack++[v],m.now,m.next⟩else .error (12,m.now)
def Bo(m:MS):MS:=⟨m.st,m.stack.dropLast,m.now,m.next⟩
def goL(m:MS)(n:Nat):MS:=⟨m.st,m.stack,m.now,n⟩
def stL(m:MS)(s:SS):MS:=⟨s,m.stack,m.now,m.next⟩
def atL(m:MS):MS:=⟨m.st,m.stack,m.next,m.next+1⟩
def DT(m:MS):Bool:=m.stack.getLastD false
def KG(count:Nat)(m:MS)(n:Int):Bool:=decide (0<=n)&&decide (n<=(count:Int) - m.next)
def Uz(i:Ins)(m:MS)(arg:L8):Except FZ MS:=
 if(Xc m.st.met i.tag (expL m.st arg)).1=0 then .ok (stL m (YW m.st (Xc m.st.met i.tag (expL m.st arg)).2))else .error ((Xc m.st.met i.tag (expL m.st arg)).1,i.at_)
def Bp(r:Bool×SS)(m:MS):Except FZ MS:=J2 r.1 (stL m r.2)
def Yb(m:MS):Except FZ MS:=.error (12,m.now)
def NW(i:Ins)(m:MS):Except FZ MS:=if i.n=0\/i.n=1 then J2 (decide (i.n=1)) m else Yb m
def NX(m:MS):Except FZ MS:=if m.stack=[]then Yb m else J2 (!DT m) (Bo m)
def VX(count:Nat)(i:Ins)(m:MS):Except FZ MS:=if KG count m i.n then .ok (goL m (m.next+i.n.toNat))else Yb m
def doCond(taken:Bool)(count:Nat)(i:Ins)(m:MS):Except FZ MS:=
 if KG count m i.n then
  (if m.stack=[]then Yb m else .ok (if DT m=taken then goL (Bo m) (m.next+i.n.toNat)else Bo m))
 else Yb m
def doAsk(vals:Qa)(i:Ins)(m:MS):Except FZ MS:=
 if 1<=i.tag/\i.tag<=3 then Bp (Z9 m.st i.tag i.oct vals i.b) m else Yb m
def VY(M:Msg)(i:Ins)(m:MS):Except FZ MS:=if i.tag=1\/i.tag=2 then J2 (UW M i.tag i.n) m else Yb m
def NY(i:Ins)(m:MS):Except FZ MS:=
 if i.tag=1 then Uz i m []else if 2<=i.tag/\i.tag<=4/\i.a≠[]then Uz i m (i.a.headD [])else Yb m
def VZ(i:Ins)(m:MS):Except FZ MS:=
 if 0<=i.tag/\i.tag<=3/\i.a≠[]/\i.b≠[]then .ok (stL m (Kx m.st (i.a.headD []) i.tag (i.b.headD [])))else Yb m
def stepL(M:Msg)(count:Nat)(i:Ins)(m:MS):Except FZ MS:=
 if i.op=1 then NW i m
 else if i.op=2 then NX m
 else if i.op=3 then VX count i m
 else if i.op=4 then doCond true count i m
 else if i.op=5 then doCond false count i m
 else if i.op=6 then doAsk (fieldsL M (i.a.map (expL m.st))) i m
 else if i.op=7 then doAsk (envL M i.a) i m
 else if i.op=8 then doAsk (i.a.map (expL m.st)) i m
 else if i.op=9 then J2 (YB M (i.a.map (expL m.st))) m
 else if i.op=10 then VY M i m
 else if i.op=11 then NY i m
 else if i.op=12 then VZ i m
 else if i.op=13 then .ok (stL m (KE m.st))
 else if i.op=14 then .ok (goL m count)
 else Yb m
def Bq:Ins:=⟨0,0,0,false,[],[],0⟩
def Xo(M:Msg)(code:List Ins):Nat->MS->Nat->Except FZ MS×Nat
 |0,m,d=>(.ok m,d)
 |f+1,m,d=>
  if m.next<code.length then
   (match stepL M code.length (code.getD m.next Bq) (atL m) with
    | .error e=>(.error e,d+1)
    | .ok m'=>Xo M code f m' (d+1))
  else(.ok m,d)
def ms0(v:Bool):MS:=⟨ss0 v,[],0,0⟩
def XT(v:Bool)(code:List Ins)(M:Msg):List (Int×L8)×Nat×Option FZ:=
 if 400<code.length then([(1,[])],0,some (12,400))
 else match Xo M code code.length (ms0 v) 0 with
  |(.error e,d)=>([(1,[])],d,some e)
  |(.ok m,d)=>(Va m.st,d,none)
theorem GM{a:MS}(h:J2 v m=.ok a):a.next=m.next:=by
 unfold J2 at h
 split at h
 ·cases h;rfl
 ·cases h
theorem DU{a:MS}{x:L8}(h:Uz i m x=.ok a):a.next=m.next:=by
 unfold Uz at h
 split at h
 ·cases h;rfl
 ·cases h
theorem DV{a:Nat}{n:Int}(h:KG a m n=true):m.next+n.toNat<=a:=by
 unfold KG at h;simp at h;omega
theorem DW{c:Nat}{b:MS}(h:stepL M c i m=.ok b)(e:m.next<=c):m.next<=b.next/\b.next<=c:=by
 have d:∀ k:Nat,k=m.next->k=b.next->m.next<=b.next/\b.next<=c:=fun k a n=>by omega
 unfold stepL at h;by_cases a:i.op=1
 ·rw[if_pos a]at h;unfold NW Yb at h
  split at h
  ·exact d _ rfl (GM h).symm
  ·cases h
 rw[if_neg a]at h;by_cases a:i.op=2
 ·rw[if_pos a]at h;unfold NX Yb at h
  split at h
  ·cases h
  ·exact d _ rfl (GM h).symm
 rw[if_neg a]at h;by_cases a:i.op=3
 ·rw[if_pos a]at h;unfold VX Yb at h
  split at h
  ·next hm=>cases h;exact⟨Nat.le_add_right _ _,DV hm⟩
  ·cases h
 rw[if_neg a]at h
 have g:∀ j,doCond j c i m=.ok b->m.next<=b.next/\b.next<=c:=fun j h=>by
  unfold doCond Yb at h
  split at h
  ·next hm=>
   split at h
   ·cases h
   ·cases h;split
    ·exact⟨Nat.le_add_right _ _,DV hm⟩
    ·exact⟨Nat.le_refl _,e⟩
  ·cases h
 by_cases a:i.op=4
 ·rw[if_pos a]at h;exact g _ h
 rw[if_neg a]at h;by_cases a:i.op=5
 ·rw[if_pos a]at h;exact g _ h
 rw[if_neg a]at h
 have f:∀ l,doAsk l i m=.ok b->m.next<=b.next/\b.next<=c:=fun l h=>by
  unfold doAsk Yb Bp at h
  split at h
  ·exact d _ rfl (GM h).symm
  ·cases h
 by_cases a:i.op=6
 ·rw[if_pos a]at h;exact f _ h
 rw[if_neg a]at h;by_cases a:i.op=7
 ·rw[if_pos a]at h;exact f _ h
 rw[if_neg a]at h;by_cases a:i.op=8
 ·rw[if_pos a]at h;exact f _ h
 rw[if_neg a]at h;by_cases a:i.op=9
 ·rw[if_pos a]at h;exact d _ rfl (GM h).symm
 rw[if_neg a]at h;by_cases a:i.op=10
 ·rw[if_pos a]at h;unfold VY Yb at h
  split at h
  ·exact d _ rfl (GM h).symm
  ·cases h
 rw[if_neg a]at h;by_cases a:i.op=11
 ·rw[if_pos a]at h;unfold NY Yb at h
  split at h
  ·exact d _ rfl (DU h).symm
  ·split at h
   ·exact d _ rfl (DU h).symm
   ·cases h
 rw[if_neg a]at h;by_cases a:i.op=12
 ·rw[if_pos a]at h;unfold VZ Yb at h
  split at h
  ·cases h;exact⟨Nat.le_refl _,e⟩
  ·cases h
 rw[if_neg a]at h;by_cases a:i.op=13
 ·rw[if_pos a]at h;cases h;exact⟨Nat.le_refl _,e⟩
 rw[if_neg a]at h;by_cases a:i.op=14
 ·rw[if_pos a]at h;cases h;exact⟨e,Nat.le_refl _⟩
 rw[if_neg a]at h;cases h
def insOp(op:Int):Ins:=⟨op,0,0,false,[],[],0⟩
def pushI(h:Bool):Ins:=⟨1,if h then 1 else 0,0,false,[],[],0⟩
def ZY(op:Int)(x:QX):Ins:=⟨op,0,x.tag,x.octet,x.fr,x.keys,0⟩
def ZL(kind:Int)(pos:Nat)(a:Qa):Ins:=⟨11,0,kind,false,a,[],pos⟩
def Yr(n:Int)(i:Ins):Ins:=⟨i.op,n,i.tag,i.oct,i.a,i.b,i.at_⟩
def landL(js:List Nat)(cs:List Ins):List Ins:=js.foldl (fun c j=>c.modify j (Yr ((c.length:Int) - ((j:Int)+1)))) cs
def blockC{α:Type}(sub:α->List Ins->List Ins)(ts:List α)(cs:List Ins):List Ins:=ts.foldl (fun c t=>sub t c) cs
def Yc{α:Type}(sub:α->List Ins->List Ins)(jump:Int)(p:List Ins×List Nat)(t:α):List Ins×List Nat:=(sub t p.1++[insOp jump],p.2++[(sub t p.1).length])
def UA(settled:Bool)(r:List Ins×List Nat):List Ins:=
 landL [r.1.length+1] (landL r.2 (r.1++[pushI (!settled),insOp 3])++[pushI settled])
def Ys{α:Type}(sub:α->List Ins->List Ins)(jump:Int)(settled:Bool)(ts:List α)(cs:List Ins):List Ins:=
 UA settled (ts.foldl (Yc sub jump) (cs,[]))
def Z3{α:Type}(sub:α->List Ins->List Ins)(x:QX)(ts:List α)(cs:List Ins):List Ins:=
 match x.kind with
 |0=>cs++[pushI true]
 |1=>cs++[pushI false]
 |2=>blockC sub ts cs++[insOp 2]
 |3=>Ys sub 5 false ts cs
 |4=>Ys sub 4 true ts cs
 |5=>cs++[ZY 6 x]
 |6=>cs++[ZY 7 x]
 |7=>cs++[ZY 8 x]
 |8=>cs++[⟨9,0,0,false,x.fr,[],0⟩]
 |_=>cs++[⟨10,x.num,x.tag,false,[],[],0⟩]
def Zn:(n:Nat)->QQ n->List Ins->List Ins
 |0,_,cs=>cs
 |n+1,x,cs=>Z3 (Zn n) x.1 x.2 cs
def Yt{α β:Type}(tst:β->List Ins->List Ins)(cmd:α->List Ins->List Ins)(p:List Ins×List Nat)(a:β×List α):List Ins×List Nat:=
 (landL [(tst a.1 p.1).length] (blockC cmd a.2 (tst a.1 p.1++[insOp 5])++[insOp 3]),p.2++[(blockC cmd a.2 (tst a.1 p.1++[insOp 5])).length])
def Vb{α:Type}(cmd:α->List Ins->List Ins)(els:List α)(r:List Ins×List Nat):List Ins:=landL r.2 (blockC cmd els r.1)
def Kl{α β:Type}(tst:β->List Ins->List Ins)(cmd:α->List Ins->List Ins)(arms:List (β×List α))(els:List α)(cs:List Ins):List Ins:=
 Vb cmd els (arms.foldl (Yt tst cmd) (cs,[]))
def Xp{α β:Type}(tst:β->List Ins->List Ins)(cmd:α->List Ins->List Ins)(x:Zx)(arms:List (β×List α))(els:List α)(cs:List Ins):List Ins:=
 match x.kind with
 |0=>cs++[ZL 1 x.pos []]
 |1=>cs++[⟨13,0,0,false,[],[],x.pos⟩]
 |2=>cs++[⟨14,0,0,false,[],[],x.pos⟩]
 |3=>cs++[ZL 2 x.pos [x.arg]]
 |4=>cs++[ZL 3 x.pos [x.arg]]
 |5=>cs++[ZL 4 x.pos [x.arg]]
 |6=>cs++[⟨12,0,x.tag,false,[x.var],[x.arg],x.pos⟩]
 |_=>Kl tst cmd arms els cs
def XD:(n:Nat)->QF n->List Ins->List Ins
 |0,_,cs=>cs
 |n+1,x,cs=>Xp (Zn n) (XD n) x.1 x.2.1 x.2.2 cs
def codeL(cs:List (QF 7)):List Ins:=blockC (XD 7) cs []
theorem JF:∀(b:List Nat) (a:List Ins),(landL b a).length=a.length
 | [],_=>rfl
 |j::r,a=>by
  show(landL r (a.modify j _)).length=_
  rw[JF r,List.length_modify]
theorem UB{α:Type}{sub:α->List Ins->List Ins}(h:∀ t cs,cs.length<=(sub t cs).length):∀(ts:List α) (cs:List Ins),cs.length<=(blockC sub ts cs).length
 | [],_=>Nat.le_refl _
 |t::r,cs=>Qm (h t cs) (UB h r (sub t cs))
theorem Br{α:Type}{sub:α->List Ins->List Ins}(h:∀ t cs,cs.length<=(sub t cs).length)(a:Int):∀(b:List α) (p:List Ins×List Nat),p.1.length<=(b.foldl (Yc sub a) p).1.length
 | [],_=>Nat.le_refl _
 |t::r,p=>by
  have c:=Br h a r (Yc sub a p t);have d:=h t p.1;have e:(Yc sub a p t).1.length=(sub t p.1).length+1:=by unfold Yc;simp
  rw[List.foldl_cons];omega
theorem Bs(b:Bool)(r:List Ins×List Nat):(UA b r).length=r.1.length+3:=by
 unfold UA;rw[JF,Qk,JF,Qk];rfl
theorem Pf(h:∀ t a,a.length<=(sub t a).length)(x:QX)(c:List α)(a:List Ins):a.length<=(Z3 sub x c a).length:=by
 have e:∀ d b,a.length<=(Ys sub d b c a).length:=fun d b=>by
  unfold Ys;rw[Bs];have:=Br h d c (a,[]);dsimp only at this;omega
 unfold Z3;split
 all_goals first|exact e _ _|(rw[Qk];first|(have:=UB h c a;omega)|omega)
theorem NZ:∀(n:Nat) (t:QQ n) (cs:List Ins),cs.length<=(Zn n t cs).length
 |0,_,_=>Nat.le_refl _
 |n+1,x,cs=>Pf (NZ n) x.1 x.2 cs
theorem Pg{b:α->List Ins->List Ins}(e:∀ t cs,cs.length<=(tst t cs).length)(d:∀ t cs,cs.length<=(b t cs).length)(p:List Ins×List Nat)(a:β×List α):p.1.length<=(Yt tst b p a).1.length:=by
 unfold Yt;dsimp only;rw[JF,Qk];have f:=e a.1 p.1;have c:=UB d a.2 (tst a.1 p.1++[insOp 5]);rw[Qk]at c;omega
theorem Bt{α β:Type}{tst:β->List Ins->List Ins}{cmd:α->List Ins->List Ins}(ht:∀ t cs,cs.length<=(tst t cs).length)(hc:∀ t cs,cs.length<=(cmd t cs).length):∀(as_:List (β×List α)) (p:List Ins×List Nat),p.1.length<=(as_.foldl (Yt tst cmd) p).1.length
 | [],_=>Nat.le_refl _
 |a::r,p=>Qm (Pg ht hc p a) (Bt ht hc r _)
theorem DX{a:α->List Ins->List Ins}(c:∀ t cs,cs.length<=(a t cs).length)(b:List α)(r:List Ins×List Nat):r.1.length<=(Vb a b r).length:=by
 unfold Vb;rw[JF];exact UB c b r.1
theorem Ph{c:α->List Ins->List Ins}(g:∀ t a,a.length<=(tst t a).length)(e:∀ t a,a.length<=(c t a).length)(x:Zx)(b:List (β×List α))(d:List α)(a:List Ins):a.length<=(Xp tst c x b d a).length:=by
 have f:a.length<=(Kl tst c b d a).length:=Qm (Bt g e b (a,[])) (DX e d _);unfold Xp;split
 all_goals first|exact f|(rw[Qk];omega)
theorem Bu:∀(n:Nat) (t:QF n) (cs:List Ins),cs.length<=(XD n t cs).length
 |0,_,_=>Nat.le_refl _
 |n+1,x,cs=>Ph (NZ n) (Bu n) x.1 x.2.1 x.2.2 cs
def Jo(xs:Qa):Nat:=(xs.map List.length).sum
theorem KH(x:L8)(xs:Qa):Jo (x::xs)=x.length+Jo xs:=by simp[Jo]
theorem DY:∀(ps:Qa) (t:L8),t.length+Jo ps<=(ps.foldl YL t).length
 | [],t=>by simp[Jo]
 |p::r,t=>by
  have a:=DY r (YL t p)
  have b:t.length+p.length<=(YL t p).length:=by
   unfold YL;split<;>simp only[Qk,QD,Q4]<;>omega
  rw[List.foldl_cons,KH];omega
theorem Bv(ps:Qa):Jo ps<=(Zc ps).length:=by
 have:=DY ps [];unfold Zc;simp only[Q4]at this;omega
theorem DZ:∀(xs:Qa),Jo xs+2*xs.length<=(YM [44,32] xs).length+2
 | []=>by simp[Jo,YM]
 | [x]=>by simp[Jo,YM]
 |x::y::r=>by
  have:=DZ (y::r);rw[KH];simp only[YM,Qk,QD,Q4]at this ⊢;omega
theorem GN{α:Type}{sub:α->List Ins->List Ins}{txt:α->L8}:∀(b:List α) (a:List Ins),(∀ t∈b,∀ a,(sub t a).length<=a.length+4*(txt t).length)->(blockC sub b a).length<=a.length+4*Jo (b.map txt)
 | [],a,_=>by simp[blockC]
 |t::r,a,h=>by
  have d:=h t (by simp) a;have e:=GN r (sub t a) (fun t c=>h t (by simp[c]));rw[List.map_cons,KH];show(blockC sub r (sub t a)).length<=_
  omega
theorem D0{α:Type}{sub:α->List Ins->List Ins}{txt:α->L8}(h:∀ t cs,(sub t cs).length<=cs.length+4*(txt t).length)(a:Int):∀(b:List α) (p:List Ins×List Nat),(b.foldl (Yc sub a) p).1.length<=p.1.length+4*Jo (b.map txt)+b.length
 | [],p=>by simp
 |t::r,p=>by
  have c:=D0 h a r (Yc sub a p t);have d:=h t p.1;have e:(Yc sub a p t).1.length=(sub t p.1).length+1:=by unfold Yc;simp
  rw[List.foldl_cons,List.map_cons,KH,QD];omega
theorem Pi{txt:α->L8}(h:∀ t a,(sub t a).length<=a.length+4*(txt t).length)(x:QX)(c:List α)(a:List Ins):(Z3 sub x c a).length<=a.length+4*(ZP x (c.map txt)).length:=by
 have l:∀ j b f,(Ys sub j b c a).length<=a.length+4*(Yu f (c.map txt)).length:=fun j b f=>by
  unfold Ys Yu;rw[Bs];have e:=D0 h j c (a,[]);have d:=DZ (c.map txt);simp only[Qk,QD,Q4,List.length_map]at e d ⊢;omega
 have i:∀(w:L8) (r:Qa),w.length<=(Zc (w::r)).length:=fun w r=>by
  have:=Bv (w::r);rw[KH]at this;omega
 have g:∀ f:L8,f.length<=(YN f x).length:=fun f=>i _ _
 unfold Z3 ZP;generalize x.kind=k
 match k with
 |0=>
  show(a++[pushI true]).length<=a.length+4*(Jv).length
  rw[Qk];show _<=_+4*4;simp
 |1=>
  show(a++[pushI false]).length<=a.length+4*(Jw).length
  rw[Qk];show _<=_+4*5;simp
 |2=>
  show(blockC sub c a++[insOp 2]).length<=a.length+4*(Zc (kNot::c.map txt)).length
  rw[Qk];have e:=GN (txt:=txt) c a (fun t _=>h t);have d:=Bv (kNot::c.map txt);rw[KH]at d;have m:kNot.length=3:=rfl;simp only[QD,Q4];omega
 |3=>
  show(Ys sub 5 false c a).length<=a.length+4*(Yu YF (c.map txt)).length
  exact l _ _ _
 |4=>
  show(Ys sub 4 true c a).length<=a.length+4*(Yu YG (c.map txt)).length
  exact l _ _ _
 |5=>
  show(a++[ZY 6 x]).length<=a.length+4*(YN X7 x).length
  rw[Qk];have e:=g X7;have d:X7.length=6:=rfl;simp only[QD,Q4];omega
 |6=>
  show(a++[ZY 7 x]).length<=a.length+4*(YN QN x).length
  rw[Qk];have e:=g QN;have d:QN.length=8:=rfl;simp only[QD,Q4];omega
 |7=>
  show(a++[ZY 8 x]).length<=a.length+4*(YN ZA x).length
  rw[Qk];have e:=g ZA;have d:ZA.length=6:=rfl;simp only[QD,Q4];omega
 |8=>
  show(a++[(⟨9,0,0,false,x.fr,[],0⟩:Ins)]).length<=a.length+4*(Zc [XO,Z4 x.fr]).length
  rw[Qk];have e:=i XO [Z4 x.fr];have d:XO.length=6:=rfl;simp only[QD,Q4];omega
 |_+9=>
  show(a++[(⟨10,x.num,x.tag,false,[],[],0⟩:Ins)]).length<=a.length+4*(Zc [Yh,YO x.tag [X3,X4],V0 x.num]).length
  rw[Qk];have e:=i Yh [YO x.tag [X3,X4],V0 x.num];have d:Yh.length=4:=rfl;simp only[QD,Q4];omega
theorem D1:∀(n:Nat) (t:QQ n) (a:List Ins),(Zn n t a).length<=a.length+4*(Q3 n t).length
 |0,_,a=>by show a.length<=_;omega
 |n+1,x,a=>Pi (D1 n) x.1 x.2 a
theorem Bw(txt:α->L8->L8)(a:List α)(i:L8):Jo (a.map fun c=>txt c i)<=(Q7 txt a i).length:=by
 induction a with
 |nil=>simp[Jo]
 |cons c r ih=>
  unfold Q7 at ih ⊢;rw[List.map_cons,KH,List.flatMap_cons];simp only[Qk];omega
theorem D2{α β:Type}{tst:β->List Ins->List Ins}{d:α->List Ins->List Ins}{e:β->L8}{b:α->L8->L8}(j i:L8)(k:∀ t cs,(tst t cs).length<=cs.length+4*(e t).length):∀(g:List (β×List α)) (f:L8) (p:List Ins×List Nat),(∀ a∈g,∀ t∈a.2,∀ cs i,(d t cs).length<=cs.length+4*(b t i).length)->(g.foldl (Yt tst d) p).1.length<=p.1.length+4*(Xh j f (g.map fun a=>(e a.1,Q7 b a.2 i))).length
 | [],_,p,_=>by simp[Xh]
 |a::r,f,p,hc=>by
  have o:=D2 j i k r KI (Yt tst d p a) (fun a n=>hc a (by simp[n]));have q:=k a.1 p.1;have l:=GN (txt:=fun c=>b c i) a.2 (tst a.1 p.1++[insOp 5]) (fun t h cs=>hc a (by simp) t h cs i);have s:(Yt tst d p a).1.length=(blockC d a.2 (tst a.1 p.1++[insOp 5])).length+1:=by unfold Yt;dsimp only;rw[JF,Qk];rfl
  have u:=Bw b a.2 i;have m:=Bv [f,e a.1,JG];rw[KH,KH,KH]at m;have v:JG.length=2:=rfl;rw[List.foldl_cons,List.map_cons];show _<=p.1.length+4*(Jp f j (e a.1) (Q7 b a.2 i)++Xh j KI (r.map fun a=>(e a.1,Q7 b a.2 i))).length
  unfold Jp;simp only[Qk,QD,Q4]at l ⊢;omega
theorem Pj{g:α->List Ins->List Ins}{l:β->L8}{d:α->L8->L8}(j i:L8)(q:∀ t b,(tst t b).length<=b.length+4*(l t).length)(x:Zx)(f:List (β×List α))(e:List α)(b:List Ins)(n:∀ a∈f,∀ t∈a.2,∀ b i,(g t b).length<=b.length+4*(d t i).length)(o:∀ t∈e,∀ b i,(g t b).length<=b.length+4*(d t i).length)(he:x.els=false->e=[]) :
 (Xp tst g x f e b).length<=b.length+4*(XM x j (f.map fun a=>(l a.1,Q7 d a.2 i)) (Q7 d e i)).length:=by
 unfold Xp XM;generalize x.kind=k
 match k with
 |0=>
  show(b++[ZL 1 x.pos []]).length<=b.length+4*(JH++[59]).length
  rw[Qk,Qk];simp only[QD,Q4];omega
 |1=>
  show(b++[(⟨13,0,0,false,[],[],x.pos⟩:Ins)]).length<=b.length+4*(JI++[59]).length
  rw[Qk,Qk];simp only[QD,Q4];omega
 |2=>
  show(b++[(⟨14,0,0,false,[],[],x.pos⟩:Ins)]).length<=b.length+4*(JJ++[59]).length
  rw[Qk,Qk];simp only[QD,Q4];omega
 |3=>
  show(b++[ZL 2 x.pos [x.arg]]).length<=b.length+4*(Zc [Ze,QR x.arg]++[59]).length
  rw[Qk,Qk];simp only[QD,Q4];omega
 |4=>
  show(b++[ZL 3 x.pos [x.arg]]).length<=b.length+4*(Zc [Yn,QR x.arg]++[59]).length
  rw[Qk,Qk];simp only[QD,Q4];omega
 |5=>
  show(b++[ZL 4 x.pos [x.arg]]).length<=b.length+4*(Zc [Zf,QR x.arg]++[59]).length
  rw[Qk,Qk];simp only[QD,Q4];omega
 |6=>
  show(b++[(⟨12,0,x.tag,false,[x.var],[x.arg],x.pos⟩:Ins)]).length<=b.length+4*(Zc [ZW,YO x.tag [Xs,Xt,Xu],QR x.var,QR x.arg]++[59]).length
  rw[Qk,Qk];simp only[QD,Q4];omega
 |_+7=>
  show(Kl tst g f e b).length<=b.length+4*(Xh j kIf (f.map fun(a:β×List α)=>(l a.1,Q7 d a.2 i))++(if x.els then UC++Q7 d e i++j else [])++[125]).length
  unfold Kl Vb;rw[JF];have m:=D2 j i q f kIf (b,[]) n;have r:=GN (txt:=fun c=>d c i) e (f.foldl (Yt tst g) (b,[])).1 (fun t h b=>o t h b i);have s:=Bw d e i;dsimp only at m;rw[Qk,Qk];by_cases hx:x.els=true
  ·rw[if_pos hx];simp only[Qk];omega
  ·have p:e=[]:=he (by cases h:x.els with|false=>rfl|true=>exact absurd h hx);subst p;have u:Jo (([]:List α).map fun c=>d c i)=0:=rfl;omega
theorem Bx(req:Qa):∀(n:Nat) (t:QF n),XU (WfT req) (WfC req) n t->∀(b:List Ins) (i:L8),(XD n t b).length<=b.length+4*(Q8 n t i).length
 |0,_,h,b,i=>h.elim
 |n+1,x,h,b,i=>by
  obtain⟨d,e,f⟩:=h;refine Pj i (i++[32,32]) (D1 n) x.1 x.2.1 x.2.2 b (fun a g t c b i=>Bx req n t ((e a g).2 t c) b i) (fun t c b i=>Bx req n t (f t c) b i) (fun he=>?_);exact XB (d.else0 he)
theorem Pk{y:Qa×List (QF 7)}(h:∀ c∈y.2,XU (WfT y.1) (WfC y.1) 7 c):(codeL y.2).length<=4*(JK y).length:=by
 have b:=GN (txt:=fun c=>Q8 7 c []) y.2 [] (fun t d a=>Bx y.1 7 t (h t d) a []);have e:=Bw (Q8 7) y.2 [];unfold codeL JK;rw[Qk];simp only[Q4]at b;omega
section
theorem N0(a b:List α)(x:α)(f:α->α):(a++x::b).modify a.length f=a++f x::b:=by
 induction a with
 |nil=>rfl
 |cons c r ih=>show c::(r++x::b).modify r.length f=_;rw[ih];rfl
def jmpI(op:Int)(n:Nat):Ins:=⟨op,n,0,false,[],[],0⟩
theorem N1(op:Int)(n:Nat):Yr (n:Int) (insOp op)=jmpI op n:=rfl
section
variable {α:Type}
def ZG(tc:α->List Ins)(jump:Int):List α->List Ins
 | []=>[]
 |t::r=>tc t++insOp jump::ZG tc jump r
def Yv(tc:α->List Ins)(jump:Int)(k:Nat):List α->List Ins
 | []=>[]
 |t::r=>tc t++jmpI jump ((ZG tc jump r).length+k)::Yv tc jump k r
def V1(tc:α->List Ins)(p:Nat):List α->List Nat
 | []=>[]
 |t::r=>(p+(tc t).length)::V1 tc (p+(tc t).length+1) r
theorem GO(tc:α->List Ins)(a:Int)(k:Nat):∀ ts,(Yv tc a k ts).length=(ZG tc a ts).length
 | []=>rfl
 |t::r=>by simp only[Yv,ZG,Qk,QD,GO tc a k r]
theorem D3{sub:α->List Ins->List Ins}{tc:α->List Ins}(b:Int):∀(d:List α) (c:List Ins) (a:List Nat),(∀ t∈d,∀ cs,sub t cs=cs++tc t)->d.foldl (Yc sub b) (c,a)=(c++ZG tc b d,a++V1 tc c.length d)
 | [],c,a,h=>by simp[ZG,V1]
 |t::r,c,a,h=>by
  rw[List.foldl_cons]
  have e:Yc sub b (c,a) t=(c++tc t++[insOp b],a++[c.length+(tc t).length]):=by
   unfold Yc;dsimp only;rw[h t List.mem_cons_self,Qk]
  rw[e,D3 b r _ _ (fun x f=>h x (List.mem_cons_of_mem _ f))];simp only[ZG,V1,Qk,QD,Q4,List.append_assoc,List.cons_append,List.nil_append,Nat.add_assoc]
theorem D4(tc:α->List Ins)(a:Int):∀(d:List α) (c b:List Ins),landL (V1 tc c.length d) (c++(ZG tc a d++b))=c++(Yv tc a b.length d++b)
 | [],c,b=>rfl
 |t::r,c,b=>by
  show landL (V1 tc (c.length+(tc t).length+1) r) ((c++((tc t++insOp a::ZG tc a r)++b)).modify (c.length+(tc t).length) (Yr (((c++((tc t++insOp a::ZG tc a r)++b)).length:Int) - (((c.length+(tc t).length:Nat):Int)+1))))=_
  have e:c++((tc t++insOp a::ZG tc a r)++b)=(c++tc t)++insOp a::(ZG tc a r++b):=by simp
  have f:(((c++((tc t++insOp a::ZG tc a r)++b)).length:Int) - (((c.length+(tc t).length:Nat):Int)+1))=(((ZG tc a r).length+b.length:Nat):Int):=by
   rw[e];simp only[Qk,QD];omega
  rw[f,e];have g:c.length+(tc t).length=(c++tc t).length:=by rw[Qk]
  rw[g,N0,N1];have i:(c++tc t)++jmpI a ((ZG tc a r).length+b.length)::(ZG tc a r++b)=((c++tc t)++[jmpI a ((ZG tc a r).length+b.length)])++(ZG tc a r++b):=by simp
  have j:(c++tc t).length+1=((c++tc t)++[jmpI a ((ZG tc a r).length+b.length)]).length:=by simp;omega
  rw[i,j,D4 tc a r];simp[Yv]
def Xx(tc:α->List Ins)(jump:Int)(settled:Bool)(ts:List α):List Ins:=Yv tc jump 2 ts++[pushI (!settled),jmpI 3 1,pushI settled]
theorem D5{sub:α->List Ins->List Ins}{tc:α->List Ins}(d:Int)(b:Bool)(c:List α)(a:List Ins)(h:∀ t∈c,∀ a,sub t a=a++tc t):Ys sub d b c a=a++Xx tc d b c:=by
 unfold Ys UA;rw[D3 d c a [] h];dsimp only;rw[List.nil_append,List.append_assoc,D4 tc d c a [pushI (!b),insOp 3]];have e:(a++(Yv tc d [pushI (!b),insOp 3].length c++[pushI (!b),insOp 3]))++[pushI b]=(a++Yv tc d 2 c++[pushI (!b)])++insOp 3::[pushI b]:=by simp
 rw[e];have f:(a++ZG tc d c).length+1=(a++Yv tc d 2 c++[pushI (!b)]).length:=by simp[GO];omega
 rw[f];show((a++Yv tc d 2 c++[pushI (!b)])++insOp 3::[pushI b]).modify (a++Yv tc d 2 c++[pushI (!b)]).length (Yr _)=_
 have g:((((a++Yv tc d 2 c++[pushI (!b)])++insOp 3::[pushI b]).length:Int) - (((a++Yv tc d 2 c++[pushI (!b)]).length:Int)+1))=((1:Nat):Int):=by
  rw[Qk];simp only[QD,Q4];omega
 rw[g,N0,N1];simp[Xx]
def QB(cc:α->List Ins)(ts:List α):List Ins:=ts.flatMap cc
theorem GP{sub:α->List Ins->List Ins}{cc:α->List Ins}:∀(b:List α) (a:List Ins),(∀ t∈b,∀ a,sub t a=a++cc t)->blockC sub b a=a++QB cc b
 | [],a,h=>by simp[blockC,QB]
 |t::r,a,h=>by
  show blockC sub r (sub t a)=_
  rw[h t List.mem_cons_self,GP r _ (fun x c=>h x (List.mem_cons_of_mem _ c))];simp[QB]
end
section
variable {α β:Type}
def ZX(tc:β->List Ins)(cc:α->List Ins)(els:List α):List (β×List α)->List Ins
 | []=>QB cc els
 |a::r=>tc a.1++jmpI 5 ((QB cc a.2).length+1)::(QB cc a.2++jmpI 3 (ZX tc cc els r).length::ZX tc cc els r)
def YP(tc:β->List Ins)(cc:α->List Ins):List (β×List α)->List Ins
 | []=>[]
 |a::r=>tc a.1++jmpI 5 ((QB cc a.2).length+1)::(QB cc a.2++insOp 3::YP tc cc r)
def Vc(tc:β->List Ins)(cc:α->List Ins)(p:Nat):List (β×List α)->List Nat
 | []=>[]
 |a::r=>(p+(tc a.1).length+1+(QB cc a.2).length)::Vc tc cc (p+(tc a.1).length+1+(QB cc a.2).length+1) r
theorem D6{tst:β->List Ins->List Ins}{f:α->List Ins->List Ins}{tc:β->List Ins}{cc:α->List Ins}:∀(d:List (β×List α)) (c:List Ins) (b:List Nat),(∀ a∈d,(∀ cs,tst a.1 cs=cs++tc a.1)/\∀ x∈a.2,∀ cs,f x cs=cs++cc x)->
 d.foldl (Yt tst f) (c,b)=(c++YP tc cc d,b++Vc tc cc c.length d)
 | [],c,b,h=>by simp[YP,Vc]
 |a::r,c,b,h=>by
  rw[List.foldl_cons];obtain⟨k,l⟩:=h a List.mem_cons_self
  have e:Yt tst f (c,b) a=(c++(tc a.1++jmpI 5 ((QB cc a.2).length+1)::(QB cc a.2++[insOp 3])),b++[c.length+(tc a.1).length+1+(QB cc a.2).length]):=by
   unfold Yt;dsimp only;rw[k,GP a.2 _ l];refine Prod.ext ?_ ?_
   ·show((c++tc a.1++[insOp 5]++QB cc a.2)++[insOp 3]).modify (c++tc a.1).length (Yr ((((c++tc a.1++[insOp 5]++QB cc a.2)++[insOp 3]).length:Int) - (((c++tc a.1).length:Int)+1)))=_
    have g:(c++tc a.1++[insOp 5]++QB cc a.2)++[insOp 3]=(c++tc a.1)++insOp 5::(QB cc a.2++[insOp 3]):=by simp
    rw[g]
    have i:((((c++tc a.1)++insOp 5::(QB cc a.2++[insOp 3])).length:Int) - (((c++tc a.1).length:Int)+1))=(((QB cc a.2).length+1:Nat):Int):=by
     rw[Qk];simp only[QD,Qk,Q4];omega
    rw[i,N0,N1];simp
   ·show b++[(c++tc a.1++[insOp 5]++QB cc a.2).length]=_
    simp only[Qk,QD,Q4]
  have j:(c++(tc a.1++jmpI 5 ((QB cc a.2).length+1)::(QB cc a.2++[insOp 3]))).length=c.length+(tc a.1).length+1+(QB cc a.2).length+1:=by simp;omega
  rw[e,D6 r _ _ (fun x m=>h x (List.mem_cons_of_mem _ m)),j];refine Prod.ext ?_ ?_
  ·simp[YP]
  ·simp[Vc]
theorem D7(tc:β->List Ins)(cc:α->List Ins)(b:List α):∀ arms,(ZX tc cc b arms).length=(YP tc cc arms).length+(QB cc b).length
 | []=>by simp[ZX,YP]
 |a::r=>by
  simp only[ZX,YP,Qk,QD,D7 tc cc b r];omega
theorem D8(tc:β->List Ins)(cc:α->List Ins)(b:List α):∀(e:List (β×List α)) (c:List Ins),landL (Vc tc cc c.length e) (c++(YP tc cc e++QB cc b))=c++ZX tc cc b e
 | [],c=>by simp[Vc,YP,ZX,landL]
 |a::r,c=>by
  obtain⟨d,f⟩:=QE (c++(tc a.1++jmpI 5 ((QB cc a.2).length+1)::QB cc a.2));have g:c++(YP tc cc (a::r)++QB cc b)=d++insOp 3::(YP tc cc r++QB cc b):=by rw[f];simp[YP]
  have i:c.length+(tc a.1).length+1+(QB cc a.2).length=d.length:=by rw[f];simp;omega
  show landL (Vc tc cc (c.length+(tc a.1).length+1+(QB cc a.2).length+1) r) ((c++(YP tc cc (a::r)++QB cc b)).modify (c.length+(tc a.1).length+1+(QB cc a.2).length) (Yr (((c++(YP tc cc (a::r)++QB cc b)).length:Int) - (((c.length+(tc a.1).length+1+(QB cc a.2).length:Nat):Int)+1))))=_
  rw[i,g]
  have j:(((d++insOp 3::(YP tc cc r++QB cc b)).length:Int) - ((d.length:Int)+1))=((ZX tc cc b r).length:Nat):=by
   rw[D7,Qk];simp only[QD,Qk];omega
  rw[j,N0,N1];have k:d++jmpI 3 (ZX tc cc b r).length::(YP tc cc r++QB cc b)=(d++[jmpI 3 (ZX tc cc b r).length])++(YP tc cc r++QB cc b):=by simp
  have l:d.length+1=(d++[jmpI 3 (ZX tc cc b r).length]).length:=by simp
  rw[k,l,D8 tc cc b r,f];simp[ZX]
theorem Pl{tst:β->List Ins->List Ins}{e:α->List Ins->List Ins}{tc:β->List Ins}{cc:α->List Ins}(c:List (β×List α))(d:List α)(b:List Ins)(h:∀ a∈c,(∀ b,tst a.1 b=b++tc a.1)/\∀ x∈a.2,∀ b,e x b=b++cc x)(he:∀ x∈d,∀ b,e x b=b++cc x) :
 Kl tst e c d b=b++ZX tc cc d c:=by
 unfold Kl Vb;rw[D6 c b [] h];dsimp only;rw[GP d _ he,List.nil_append,List.append_assoc,D8]
end
def Jc{α:Type}(tc:α->List Ins)(x:QX)(ts:List α):List Ins:=
 match x.kind with
 |0=>[pushI true]
 |1=>[pushI false]
 |2=>QB tc ts++[insOp 2]
 |3=>Xx tc 5 false ts
 |4=>Xx tc 4 true ts
 |5=>[ZY 6 x]
 |6=>[ZY 7 x]
 |7=>[ZY 8 x]
 |8=>[⟨9,0,0,false,x.fr,[],0⟩]
 |_=>[⟨10,x.num,x.tag,false,[],[],0⟩]
def ZD:(n:Nat)->QQ n->List Ins
 |0,_=>[]
 |n+1,x=>Jc (ZD n) x.1 x.2
theorem D9:∀(n:Nat) (x:QQ n) (a:List Ins),Zn n x a=a++ZD n x
 |0,x,a=>by simp[Zn,ZD]
 |n+1,x,a=>by
  have b:=D9 n;show Z3 (Zn n) x.1 x.2 a=a++Jc (ZD n) x.1 x.2
  unfold Z3 Jc;generalize x.1.kind=k;rcases k with _|_|_|_|_|_|_|_|_|k
  ·rfl
  ·rfl
  ·show blockC (Zn n) x.2 a++[insOp 2]=a++(QB (ZD n) x.2++[insOp 2])
   rw[GP (cc:=ZD n) x.2 a (fun t _ c=>b t c),List.append_assoc]
  ·exact D5 5 false x.2 a (fun t _ c=>b t c)
  ·exact D5 4 true x.2 a (fun t _ c=>b t c)
  all_goals rfl
def KJ{α β:Type}(tc:β->List Ins)(cc:α->List Ins)(x:Zx)(arms:List (β×List α))(els:List α):List Ins:=
 match x.kind with
 |0=>[ZL 1 x.pos []]
 |1=>[⟨13,0,0,false,[],[],x.pos⟩]
 |2=>[⟨14,0,0,false,[],[],x.pos⟩]
 |3=>[ZL 2 x.pos [x.arg]]
 |4=>[ZL 3 x.pos [x.arg]]
 |5=>[ZL 4 x.pos [x.arg]]
 |6=>[⟨12,0,x.tag,false,[x.var],[x.arg],x.pos⟩]
 |_=>ZX tc cc els arms
def Zy:(n:Nat)->QF n->List Ins
 |0,_=>[]
 |n+1,x=>KJ (ZD n) (Zy n) x.1 x.2.1 x.2.2
theorem Ea:∀(n:Nat) (x:QF n) (b:List Ins),XD n x b=b++Zy n x
 |0,x,b=>by simp[XD,Zy]
 |n+1,x,b=>by
  have d:=Ea n;show Xp (Zn n) (XD n) x.1 x.2.1 x.2.2 b=b++KJ (ZD n) (Zy n) x.1 x.2.1 x.2.2
  unfold Xp KJ;generalize x.1.kind=k;rcases k with _|_|_|_|_|_|_|k
  any_goals rfl
  exact Pl (tc:=ZD n) (cc:=Zy n) x.2.1 x.2.2 b (fun a _=>⟨fun c=>D9 n a.1 c,fun y _ c=>d y c⟩) (fun y _ c=>d y c)
theorem GQ(a:List (QF 7)):codeL a=QB (Zy 7) a:=by
 unfold codeL;rw[GP (cc:=Zy 7) a [] (fun t _ c=>Ea 7 t c),List.nil_append]
end
def Xb{α:Type}(ev:α->SS->Bool×SS)(settled:Bool):List α->SS->Bool×SS
 | [],s=>(!settled,s)
 |t::r,s=>if(ev t s).1=settled then(settled,(ev t s).2)else Xb ev settled r (ev t s).2
def By{α:Type}(ev:α->SS->Bool×SS):List α->SS->Bool×SS
 | [],s=>(false,s)
 |t::_,s=>(!(ev t s).1,(ev t s).2)
def evalTN{α:Type}(M:Msg)(ev:α->SS->Bool×SS)(x:QX)(ts:List α)(s:SS):Bool×SS:=
 match x.kind with
 |0=>(true,s)
 |1=>(false,s)
 |2=>By ev ts s
 |3=>Xb ev false ts s
 |4=>Xb ev true ts s
 |5=>Z9 s x.tag x.octet (fieldsL M (x.fr.map (expL s))) x.keys
 |6=>Z9 s x.tag x.octet (envL M x.fr) x.keys
 |7=>Z9 s x.tag x.octet (x.fr.map (expL s)) x.keys
 |8=>(YB M (x.fr.map (expL s)),s)
 |_=>(UW M x.tag x.num,s)
def Xl(M:Msg):(n:Nat)->QQ n->SS->Bool×SS
 |0,_,s=>(false,s)
 |n+1,x,s=>evalTN M (Xl M n) x.1 x.2 s
abbrev CR:=Except FZ (SS×Bool)
def Kh(s:SS)(kind:Int)(arg:L8)(pos:Nat):CR:=
 if(Xc s.met kind (expL s arg)).1=0 then .ok (YW s (Xc s.met kind (expL s arg)).2,false)else .error ((Xc s.met kind (expL s arg)).1,pos)
def bEval{α:Type}(ev:α->SS->CR):List α->SS->CR
 | [],s=>.ok (s,false)
 |c::r,s=>match ev c s with
  | .error e=>.error e
  | .ok (s',true)=>.ok (s',true)
  | .ok (s',false)=>bEval ev r s'
def KY{α β:Type}(tv:β->SS->Bool×SS)(ev:α->SS->CR)(els:List α):List (β×List α)->SS->CR
 | [],s=>bEval ev els s
 |a::r,s=>if(tv a.1 s).1=true then bEval ev a.2 (tv a.1 s).2 else KY tv ev els r (tv a.1 s).2
def J3{α β:Type}(tv:β->SS->Bool×SS)(ev:α->SS->CR)(x:Zx)(arms:List (β×List α))(els:List α)(s:SS):CR:=
 match x.kind with
 |0=>Kh s 1 [] x.pos
 |1=>.ok (KE s,false)
 |2=>.ok (s,true)
 |3=>Kh s 2 x.arg x.pos
 |4=>Kh s 3 x.arg x.pos
 |5=>Kh s 4 x.arg x.pos
 |6=>.ok (Kx s x.var x.tag x.arg,false)
 |_=>KY tv ev els arms s
def evalC(M:Msg):(n:Nat)->QF n->SS->CR
 |0,_,s=>.ok (s,false)
 |n+1,x,s=>J3 (Xl M n) (evalC M n) x.1 x.2.1 x.2.2 s
def runL(M:Msg)(code:List Ins)(m:MS):Except FZ MS:=(Xo M code (code.length - m.next) m 0).1
theorem Eb{M:Msg}{code:List Ins}:∀(f g:Nat) (m:MS) (d e:Nat),code.length - m.next<=f->code.length - m.next<=g->(Xo M code f m d).1=(Xo M code g m e).1
 |0,0,m,d,e,_,_=>rfl
 |0,g+1,m,d,e,hf,hg=>by
  have:¬ m.next<code.length:=by omega
  rw[Xo,Xo,if_neg this]
 |f+1,0,m,d,e,hf,hg=>by
  have:¬ m.next<code.length:=by omega
  rw[Xo,Xo,if_neg this]
 |f+1,g+1,m,d,e,hf,hg=>by
  rw[Xo,Xo];by_cases h:m.next<code.length
  ·rw[if_pos h,if_pos h]
   cases hs:stepL M code.length (code.getD m.next Bq) (atL m)with
   |error x=>rfl
   |ok m'=>
    have a:=(DW hs (show(atL m).next<=code.length by show m.next+1<=_;omega)).1;have b:m.next+1<=m'.next:=a;exact Eb f g m' (d+1) (e+1) (by omega) (by omega)
  ·rw[if_neg h,if_neg h]
theorem Ec(h:code.length<=m.next):runL M code m=.ok m:=by
 unfold runL;have e:code.length - m.next=0:=by omega
 rw[e];rfl
theorem Bz     (hc:code=a++i :: b) (hn:m.next=a.length):runL M code m=(match stepL M code.length i (atL m) with
 | .error e=>.error e
 | .ok m'=>runL M code m'):=by
 have j:code.length=a.length+(b.length+1):=by rw[hc,Qk,QD]
 unfold runL;obtain⟨k,f⟩:∃ k,code.length - m.next=k+1:=⟨b.length,by omega⟩;rw[f,Xo,if_pos (by omega)]
 have d:code.getD m.next Bq=i:=by
  rw[hc,hn,List.getD_eq_getElem?_getD,List.getElem?_append_right Qt];simp
 rw[d]
 cases hs:stepL M code.length i (atL m)with
 |error x=>rfl
 |ok m'=>
  have c:=(DW hs (show(atL m).next<=code.length by show m.next+1<=_;omega)).1;have g:m.next+1<=m'.next:=c;exact Eb _ _ m' _ _ (by omega) (by omega)
def Comes(M:Msg)(code:List Ins)(m:MS)(s:SS)(st:List Bool)(p:Nat):Prop:=∃ now,runL M code m=runL M code ⟨s,st,now,p⟩
theorem Comes.trans{M:Msg}{code:List Ins}{m:MS}{s s':SS}{st c:List Bool}{p b:Nat}(h:Comes M code m s st p)(a:∀ now,Comes M code ⟨s,st,now,p⟩ s' c b):Comes M code m s' c b:=by
 obtain⟨now,h⟩:=h;obtain⟨d,a⟩:=a now;exact⟨d,h.trans a⟩
theorem KK{s':SS}{d:List Bool}{c now':Nat}(f:code=a++i::b)(h:stepL M code.length i ⟨s,st,a.length,a.length+1⟩=.ok ⟨s',d,now',c⟩):Comes M code ⟨s,st,now,a.length⟩ s' d c:=by
 refine⟨now',?_⟩;rw[Bz (m:=⟨s,st,now,a.length⟩) f rfl];have e:stepL M code.length i (atL ⟨s,st,now,a.length⟩)=.ok ⟨s',d,now',c⟩:=h;rw[e]
theorem N2(c:code=a++pushI v::b):Comes M code ⟨s,[],now,a.length⟩ s [v] (a.length+1):=by
 refine KK (now':=a.length) c ?_;cases v<;>rfl
theorem Pm(c:code=a++insOp 2::b):Comes M code ⟨s,[v],now,a.length⟩ s [!v] (a.length+1):=by
 refine KK (now':=a.length) c ?_;cases v<;>rfl
theorem Ed{a:Nat}(h:m.next+n<=a):KG a m (n:Int)=true:=by
 unfold KG;simp only[Bool.and_eq_true,decide_eq_true_eq];omega
theorem Ee(c:code=a++jmpI 3 n::b)(e:n<=b.length):Comes M code ⟨s,st,now,a.length⟩ s st (a.length+1+n):=by
 refine KK (now':=a.length) c ?_;have d:code.length=a.length+(b.length+1):=by rw[c,Qk,QD]
 show VX code.length (jmpI 3 n) ⟨s,st,a.length,a.length+1⟩=_
 unfold VX;rw[show(jmpI 3 n).n=(n:Int)from rfl,if_pos (Ed (by show a.length+1+n<=_;omega))];rfl
theorem Ef{tk:Bool}(c:code=a++jmpI (if tk then 4 else 5) n::b)(f:n<=b.length):Comes M code ⟨s,[v],now,a.length⟩ s [] (if v=tk then a.length+1+n else a.length+1):=by
 have e:code.length=a.length+(b.length+1):=by rw[c,Qk,QD]
 refine KK (now':=a.length) c ?_;have d:stepL M code.length (jmpI (if tk then 4 else 5) n) ⟨s,[v],a.length,a.length+1⟩=doCond tk code.length (jmpI (if tk then 4 else 5) n) ⟨s,[v],a.length,a.length+1⟩:=by cases tk<;>rfl
 rw[d];unfold doCond;rw[show(jmpI (if tk then 4 else 5) n).n=(n:Int)from rfl,if_pos (Ed (by show a.length+1+n<=_;omega)),if_neg (by simp)];show Except.ok (if v=tk then _ else _)=_
 split<;>rfl
def V2(M:Msg)(c:List Ins)(ev:SS->Bool×SS):Prop:=
 ∀(code a b:List Ins) (s:SS) (now:Nat),code=a++(c++b)->Comes M code ⟨s,[],now,a.length⟩ (ev s).2 [(ev s).1] (a.length+c.length)
theorem BA{α:Type}{M:Msg}{tc:α->List Ins}{e:α->SS->Bool×SS}(c:Bool):∀(j:List α),(∀ t∈j,V2 M (tc t) (e t))->
 ∀(code a b:List Ins) (s:SS) (now:Nat),code=a++(Xx tc (if c then 4 else 5) c j++b)->Comes M code ⟨s,[],now,a.length⟩ (Xb e c j s).2 [(Xb e c j s).1] (a.length+(Xx tc (if c then 4 else 5) c j).length)
 | [],_,code,a,b,s,now,hc=>by
  have g:code=a++pushI (!c)::(jmpI 3 1::pushI c::b):=by rw[hc];rfl
  have i:code=(a++[pushI (!c)])++jmpI 3 1::(pushI c::b):=by rw[g];simp
  refine(N2 g).trans (fun q=>?_);have f:=Ee (M:=M) (s:=s) (st:=[!c]) (now:=q) i (by simp);have k:(a++[pushI (!c)]).length=a.length+1:=by simp
  rw[k]at f;exact f
 |t::r,ht,code,a,b,s,now,hc=>by
  have o:Xx tc (if c then 4 else 5) c (t::r)=tc t++jmpI (if c then 4 else 5) ((ZG tc (if c then 4 else 5) r).length+2)::Xx tc (if c then 4 else 5) c r:=by
   unfold Xx;simp[Yv]
  have n:(Xx tc (if c then 4 else 5) c r).length=(ZG tc (if c then 4 else 5) r).length+3:=by
   unfold Xx;simp[GO]
  have g:code=a++(tc t++(jmpI (if c then 4 else 5) ((ZG tc (if c then 4 else 5) r).length+2)::(Xx tc (if c then 4 else 5) c r++b))):=by rw[hc,o];simp
  have i:code=(a++tc t)++jmpI (if c then 4 else 5) ((ZG tc (if c then 4 else 5) r).length+2)::(Xx tc (if c then 4 else 5) c r++b):=by rw[g];simp
  refine(ht t List.mem_cons_self code a _ s now g).trans (fun q=>?_);have k:a.length+(tc t).length=(a++tc t).length:=by simp
  rw[k];refine(Ef (tk:=c) i (by rw[Qk,n];omega)).trans (fun u=>?_)
  have p:(Xx tc (if c then 4 else 5) c (t::r)).length=(tc t).length+1+(ZG tc (if c then 4 else 5) r).length+3:=by
   rw[o,Qk,QD,n];omega
  unfold Xb;by_cases hv:(e t s).1=c
  ·rw[if_pos hv,if_pos hv,p]
   have f:code=(a++tc t++[jmpI (if c then 4 else 5) ((ZG tc (if c then 4 else 5) r).length+2)]++Yv tc (if c then 4 else 5) 2 r++[pushI (!c),jmpI 3 1])++pushI c::b:=by
    rw[i];unfold Xx;simp
   have d:=N2 (M:=M) (s:=(e t s).2) (now:=u) f
   have l:(a++tc t++[jmpI (if c then 4 else 5) ((ZG tc (if c then 4 else 5) r).length+2)]++Yv tc (if c then 4 else 5) 2 r++[pushI (!c),jmpI 3 1]).length=(a++tc t).length+1+((ZG tc (if c then 4 else 5) r).length+2):=by
    simp[GO];omega
   rw[l]at d;have m:(a++tc t).length+1+((ZG tc (if c then 4 else 5) r).length+2)+1=a.length+((tc t).length+1+(ZG tc (if c then 4 else 5) r).length+3):=by simp;omega
   rw[m]at d;exact d
  ·rw[if_neg hv,if_neg hv];have f:code=(a++tc t++[jmpI (if c then 4 else 5) ((ZG tc (if c then 4 else 5) r).length+2)])++(Xx tc (if c then 4 else 5) c r++b):=by rw[i];simp
   have d:=BA c r (fun x v=>ht x (List.mem_cons_of_mem _ v)) code _ b (e t s).2 u f;have l:(a++tc t++[jmpI (if c then 4 else 5) ((ZG tc (if c then 4 else 5) r).length+2)]).length=(a++tc t).length+1:=by simp;omega
   rw[l]at d;have m:(a++tc t).length+1+(Xx tc (if c then 4 else 5) c r).length=a.length+(Xx tc (if c then 4 else 5) c (t::r)).length:=by rw[p,n];simp;omega
   rw[m]at d;exact d
theorem BB{x:QX}(c:Int)(d:Qa)(f:∀ m,m.st=s->stepL M code.length (ZY c x) m=doAsk d (ZY c x) m)(g:1<=x.tag/\x.tag<=3)(e:code=a++ZY c x::b) :
 Comes M code ⟨s,[],now,a.length⟩ (Z9 s x.tag x.octet d x.keys).2 [(Z9 s x.tag x.octet d x.keys).1] (a.length+1):=by
 refine KK (now':=a.length) e ?_;rw[f _ rfl];unfold doAsk;rw[if_pos (show(1:Int)<=(ZY c x).tag/\(ZY c x).tag<=3 by show(1:Int)<=(x.tag:Int)/\(x.tag:Int)<=3;omega)];rfl
theorem Pn{tc:α->List Ins}{e:α->SS->Bool×SS}(x:QX)(f:List α)(hw:WfT req x f.length)(j:∀ t∈f,V2 M (tc t) (e t)):V2 M (Jc tc x f) (evalTN M e x f):=by
 intro d a b s now c;have y:=hw.kind;unfold Jc evalTN at *;obtain⟨k,i⟩:=QE (x.kind);rw[<-i]at c y ⊢;rcases k with _|_|_|_|_|_|_|_|_|_|k
 ·exact N2 c
 ·exact N2 c
 ·have r:=hw.one i.symm;obtain⟨t,rfl⟩:=List.length_eq_one_iff.1 r;have w:QB tc [t]=tc t:=by simp[QB]
  have o:d=a++((QB tc [t]++[insOp 2])++b):=c;show Comes M d ⟨s,[],now,a.length⟩ (By e [t] s).2 [(By e [t] s).1] (a.length+(QB tc [t]++[insOp 2]).length)
  rw[w]at o ⊢;have l:d=a++(tc t++(insOp 2::b)):=by rw[o];simp
  have u:d=(a++tc t)++insOp 2::b:=by rw[l];simp
  refine(j t List.mem_cons_self d a _ s now l).trans (fun now'=>?_);have n:=Pm (M:=M) (v:=(e t s).1) (s:=(e t s).2) (now:=now') u;have p:(a++tc t).length=a.length+(tc t).length:=by simp
  rw[p]at n;have q:a.length+(tc t++[insOp 2]).length=a.length+(tc t).length+1:=by simp;omega
  rw[q];exact n
 ·exact BA false f j d a b s now c
 ·exact BA true f j d a b s now c
 ·exact BB 6 (fieldsL M (x.fr.map (expL s))) (fun m g=>by rw[<-g];rfl) (hw.tag (by omega) (by omega)) c
 ·exact BB 7 (envL M x.fr) (fun m g=>rfl) (hw.tag (by omega) (by omega)) c
 ·exact BB 8 (x.fr.map (expL s)) (fun m g=>by rw[<-g];rfl) (hw.tag (by omega) (by omega)) c
 ·exact KK (now':=a.length) c rfl
 ·refine KK (now':=a.length) c ?_;have z:=hw.size i.symm;show VY M ⟨10,x.num,x.tag,false,[],[],0⟩ ⟨s,[],a.length,a.length+1⟩=_
  unfold VY;rw[if_pos (show(x.tag:Int)=1\/(x.tag:Int)=2 by omega)];rfl
 ·omega
theorem Eg{M:Msg}{req:Qa}:∀(n:Nat) (x:QQ n),Yl (WfT req) n x->V2 M (ZD n x) (Xl M n x)
 |0,x,h=>by cases h
 |n+1,x,h=>Pn x.1 x.2 h.1 (fun t a=>Eg n t (h.2 t a))
def OutL(M:Msg)(code:List Ins)(m:MS)(p:Nat):CR->Prop
 | .error e=>runL M code m=.error e
 | .ok (s,true)=>∃ m',runL M code m=.ok m'/\m'.st=s
 | .ok (s,false)=>Comes M code m s [] p
theorem Comes.out{p q:Nat}{r:CR}(h:Comes M code m s st p)(b:∀ now,OutL M code ⟨s,st,now,p⟩ q r):OutL M code m q r:=by
 obtain⟨now,h⟩:=h;have a:=b now
 match r,a with
 | .error e,a=>exact h.trans a
 | .ok (s',true),⟨m',h3,h4⟩=>exact⟨m',h.trans h3,h4⟩
 | .ok (s',false),⟨now',h3⟩=>exact⟨now',h.trans h3⟩
def K8(M:Msg)(c:List Ins)(ev:SS->CR):Prop:=
 ∀(code a b:List Ins) (s:SS) (now:Nat),code=a++(c++b)->OutL M code ⟨s,[],now,a.length⟩ (a.length+c.length) (ev s)
theorem N3{α:Type}{M:Msg}{cc:α->List Ins}{d:α->SS->CR}:∀(f:List α),(∀ t∈f,K8 M (cc t) (d t))->K8 M (QB cc f) (bEval d f)
 | [],_,code,a,b,s,now,hc=>by
  show Comes M code ⟨s,[],now,a.length⟩ s [] (a.length+0)
  exact⟨now,rfl⟩
 |t::r,ht,code,a,b,s,now,hc=>by
  have m:QB cc (t::r)=cc t++QB cc r:=by simp[QB]
  rw[m]at hc ⊢;have g:code=a++(cc t++(QB cc r++b)):=by rw[hc];simp
  have k:code=(a++cc t)++(QB cc r++b):=by rw[g];simp
  have c:=ht t List.mem_cons_self code a _ s now g;have i:(a++cc t).length=a.length+(cc t).length:=by simp
  have j:a.length+(cc t++QB cc r).length=(a++cc t).length+(QB cc r).length:=by simp;omega
  unfold bEval
  match hr:d t s,c with
  | .error e,c=>exact c
  | .ok (s',true),c=>exact c
  | .ok (s',false),c=>
   have l:Comes M code ⟨s,[],now,a.length⟩ s' [] (a.length+(cc t).length):=c;refine l.out (fun o=>?_);rw[<-i,j];exact N3 r (fun x n=>ht x (List.mem_cons_of_mem _ n)) code (a++cc t) b s' o k
theorem Eh{α β:Type}{M:Msg}{tc:β->List Ins}{g:β->SS->Bool×SS}{cc:α->List Ins}{k:α->SS->CR}(i:List α)(he:∀ c∈i,K8 M (cc c) (k c)):∀(m:List (β×List α)),(∀ a∈m,V2 M (tc a.1) (g a.1)/\∀ c∈a.2,K8 M (cc c) (k c))->K8 M (ZX tc cc i m) (KY g k i m)
 | [],_=>N3 i he
 |x::r,hx=>by
  intro d a b s now q;obtain⟨L,N⟩:=hx x List.mem_cons_self;have v:=Eh i he r (fun y J=>hx y (List.mem_cons_of_mem _ J));obtain⟨R,p⟩:=QE (ZX tc cc i r);have G:ZX tc cc i (x::r)=tc x.1++jmpI 5 ((QB cc x.2).length+1)::(QB cc x.2++jmpI 3 R.length::R):=by rw[p];rfl
  rw[<-p]at v;rw[G]at q ⊢;have j:d=a++(tc x.1++(jmpI 5 ((QB cc x.2).length+1)::(QB cc x.2++jmpI 3 R.length::(R++b)))):=by rw[q];simp
  have C:d=(a++tc x.1)++jmpI (if false then 4 else 5) ((QB cc x.2).length+1)::(QB cc x.2++jmpI 3 R.length::(R++b)):=by rw[j];simp
  have D:d=(a++tc x.1++[jmpI 5 ((QB cc x.2).length+1)])++(QB cc x.2++(jmpI 3 R.length::(R++b))):=by rw[j];simp
  have E:d=(a++tc x.1++[jmpI 5 ((QB cc x.2).length+1)]++QB cc x.2)++jmpI 3 R.length::(R++b):=by rw[j];simp
  have F:d=(a++tc x.1++[jmpI 5 ((QB cc x.2).length+1)]++QB cc x.2++[jmpI 3 R.length])++(R++b):=by rw[j];simp
  have n:(a++tc x.1).length=a.length+(tc x.1).length:=by simp
  have o:(a++tc x.1++[jmpI 5 ((QB cc x.2).length+1)]).length=a.length+(tc x.1).length+1:=by simp;omega
  have w:(a++tc x.1++[jmpI 5 ((QB cc x.2).length+1)]++QB cc x.2).length=a.length+(tc x.1).length+1+(QB cc x.2).length:=by simp;omega
  have z:(a++tc x.1++[jmpI 5 ((QB cc x.2).length+1)]++QB cc x.2++[jmpI 3 R.length]).length=a.length+(tc x.1).length+1+(QB cc x.2).length+1:=by simp;omega
  have A:a.length+(tc x.1++jmpI 5 ((QB cc x.2).length+1)::(QB cc x.2++jmpI 3 R.length::R)).length=a.length+(tc x.1).length+1+(QB cc x.2).length+1+R.length:=by simp;omega
  rw[A];refine(L d a _ s now j).out (fun P=>?_);rw[<-n];refine(Ef (tk:=false) C (by simp)).out (fun l=>?_);unfold KY;by_cases hv:(g x.1 s).1=true
  ·rw[if_neg (by rw[hv];decide),if_pos hv,n,<-o];have f:=N3 x.2 N d _ _ (g x.1 s).2 l D;rw[o]at f ⊢
   match hr:bEval k x.2 (g x.1 s).2,f with
   | .error e,f=>exact f
   | .ok (s',true),f=>exact f
   | .ok (s',false),f=>
    have H:Comes M d ⟨(g x.1 s).2,[],l,a.length+(tc x.1).length+1⟩ s' [] (a.length+(tc x.1).length+1+(QB cc x.2).length):=f;show Comes M d ⟨(g x.1 s).2,[],l,a.length+(tc x.1).length+1⟩ s' [] (a.length+(tc x.1).length+1+(QB cc x.2).length+1+R.length)
    refine H.trans (fun K=>?_);have u:=Ee (M:=M) (s:=s') (st:=[]) (now:=K) E (by simp);rw[w]at u;exact u
  ·rw[if_pos (by simpa using hv),if_neg hv];have t:=v d _ b (g x.1 s).2 l F;rw[z]at t;rw[n];have B:a.length+(tc x.1).length+1+((QB cc x.2).length+1)=a.length+(tc x.1).length+1+(QB cc x.2).length+1:=by omega
   rw[B];exact t
theorem N4{c:Int}{pos:Nat}{d:L8}(la:Qa)(f:∀ m,stepL M code.length (ZL c pos la) m=Uz (ZL c pos la) m d)(e:code=a++ZL c pos la::b):OutL M code ⟨s,[],now,a.length⟩ (a.length+1) (Kh s c d pos):=by
 unfold Kh;by_cases h0:(Xc s.met c (expL s d)).1=0
 ·rw[if_pos h0];refine KK (now':=a.length) e ?_;rw[f];unfold Uz;rw[show(ZL c pos la).tag=c from rfl,if_pos h0];rfl
 ·rw[if_neg h0];show runL M code ⟨s,[],now,a.length⟩=.error _
  rw[Bz (m:=⟨s,[],now,a.length⟩) e rfl,f]
  have g:Uz (ZL c pos la) (atL ⟨s,[],now,a.length⟩) d=.error ((Xc s.met c (expL s d)).1,pos):=by
   unfold Uz;exact if_neg h0
  rw[g]
theorem Po{tc:β->List Ins}{l:β->SS->Bool×SS}{cc:α->List Ins}{j:α->SS->CR}(x:Zx)(e:List (β×List α))(g:List α)(hw:WfC req x e.length g.length)(p:∀ a∈e,V2 M (tc a.1) (l a.1)/\∀ c∈a.2,K8 M (cc c) (j c))(he:∀ c∈g,K8 M (cc c) (j c)) :
 K8 M (KJ tc cc x e g) (J3 l j x e g):=by
 intro f a b s i d;have n:=hw.kind;unfold KJ J3 at *;obtain⟨k,o⟩:=QE (x.kind);rw[<-o]at d n ⊢;rcases k with _|_|_|_|_|_|_|_|k
 ·exact N4 [] (fun m=>rfl) d
 ·show Comes M f ⟨s,[],i,a.length⟩ (KE s) [] (a.length+1)
  exact KK (now':=a.length) d rfl
 ·show ∃ m',runL M f ⟨s,[],i,a.length⟩=.ok m'/\m'.st=s
  refine⟨⟨s,[],a.length,f.length⟩,?_,rfl⟩;rw[Bz (m:=⟨s,[],i,a.length⟩) d rfl];exact Ec Qt
 ·exact N4 [x.arg] (fun m=>rfl) d
 ·exact N4 [x.arg] (fun m=>rfl) d
 ·exact N4 [x.arg] (fun m=>rfl) d
 ·show Comes M f ⟨s,[],i,a.length⟩ (Kx s x.var x.tag x.arg) [] (a.length+1)
  refine KK (now':=a.length) d ?_;have q:=hw.tag;show VZ ⟨12,0,x.tag,false,[x.var],[x.arg],x.pos⟩ ⟨s,[],a.length,a.length+1⟩=_
  unfold VZ;rw[if_pos (show(0:Int)<=(x.tag:Int)/\(x.tag:Int)<=3/\[x.var]≠[]/\[x.arg]≠[] by refine⟨by omega,by omega,by simp,by simp⟩)];rfl
 ·exact Eh g he e p f a b s i d
 ·omega
theorem BC{M:Msg}{req:Qa}:∀(n:Nat) (x:QF n),XU (WfT req) (WfC req) n x->K8 M (Zy n x) (evalC M n x)
 |0,x,h=>by cases h
 |n+1,x,h=>Po x.1 x.2.1 x.2.2 h.1 (fun a d=>⟨Eg n a.1 (h.2.1 a d).1,fun c b=>BC n c ((h.2.1 a d).2 c b)⟩) (fun c b=>BC n c (h.2.2 c b))
def Xy(r:CR):List (Int×L8)×Option FZ:=
 match r with
 | .error e=>([(1,[])],some e)
 | .ok (s,_)=>(Va s,none)
theorem Pp(v:Bool)(a:List (QF 7))(hw:∀ c∈a,XU (WfT req) (WfC req) 7 c)(l:(codeL a).length<=400) :
 ((XT v (codeL a) M).1,(XT v (codeL a) M).2.2)=Xy (bEval (evalC M 7) a (ss0 v)):=by
 have h:=N3 a (fun c j=>BC (M:=M) 7 c (hw c j)) (codeL a) [] [] (ss0 v) 0 (by rw[GQ];simp);have f:runL M (codeL a) (ms0 v)=(Xo M (codeL a) (codeL a).length (ms0 v) 0).1:=rfl;have k:(⟨ss0 v,[],0,([]:List Ins).length⟩:MS)=ms0 v:=rfl;rw[k]at h;unfold XT;rw[if_neg (by omega)]
 cases hL:Xo M (codeL a) (codeL a).length (ms0 v) 0 with
 |mk r d=>
  rw[hL]at f;dsimp only at f
  match hb:bEval (evalC M 7) a (ss0 v),h with
  | .error e,h=>
   have b:r=.error e:=f.symm.trans h;subst b;rfl
  | .ok (s,true),⟨m',b,g⟩=>
   have i:r=.ok m':=f.symm.trans b;subst i;subst g;rfl
  | .ok (s,false),⟨now,b⟩=>
   have g:runL M (codeL a) ⟨s,[],now,([]:List Ins).length+(QB (Zy 7) a).length⟩=.ok ⟨s,[],now,([]:List Ins).length+(QB (Zy 7) a).length⟩:=Ec (by show(codeL a).length<=([]:List Ins).length+(QB (Zy 7) a).length;rw[GQ];simp);have i:=f.symm.trans (b.trans g);subst i;rfl
end Go.Proofs.YtgnkjijocdmniaaGreatDoor
