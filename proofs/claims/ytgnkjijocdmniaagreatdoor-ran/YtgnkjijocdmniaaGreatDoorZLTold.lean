import Derived.Laws.AppendOwnNone
import Derived.Test.YtgnkjijocdmniaaGreatDoorZLPick
import Derived.Test.YtgnkjijocdmniaaGreatDoorZPParse
import Derived.Test.YtgnkjijocdmniaaGreatDoorZSAct
namespace Go.Proofs.YtgnkjijocdmniaaGreatDoor
set_option linter.all false
set_option maxRecDepth 100000
set_option maxHeartbeats 4000000
open Go.Proofs.Tryz
open Go.RowKit
variable{B N b base c d g i j n size xb:Nat}{M:Msg}{P:Nat->Obj->Prop}{X:Nat->Prop}{a:Array Value}{cv mv v xv:Value}{e t:TypeId}{f:Nat×Nat}{l:List (Int×L8)}{m:MS}{o:Obj}{s:SS}{u w w':World}{xs:List Value}
section
attribute [local go_sem ↓] Zt Zu
structure Env (w:World):Prop where
 m1:∃m,w.cell? (Ql 1 0)=some (Qa m)
 et:Yy w
 tab:Tab w
theorem Env.below{w w':World}(h:Env w)(a:Qo w w'):Env w':=by
 obtain⟨m,b⟩:=h.m1;exact⟨⟨m,by rw[a.cell (p:=⟨1,0,none⟩) (QX b)];exact b⟩,h.et.below a,h.tab.below a⟩
theorem SG{w5:World}{row:Option Nat}(h:Below B w w')(hg:w'.grownBy w5 row)(hz:B<=w'.heap.size)(hr:∀k,row=some k->B<=k):Below B w w5:=h.grown hg hz hr
theorem LU(h:w.ownsRow base e size v n xs):n<=9223372036854775807:=by
 rcases h.2 with⟨_,h⟩ | ⟨g,b,c,_,_,_,d,a,_⟩
 .omega
 .unfold maxLen at a;omega
def UO(w:World)(v:Value)(l:List (Int×L8)):Prop:=∃a c,v=.slice a l.length c/\∀j (hj:j<l.length),∃g off,a=some ⟨g,off,none⟩/\w.cell? ⟨g,off+j*2,none⟩=some (Qa l[j].1)/\w.cell? ⟨g,off+j*2+1,none⟩=some (.string (sA l[j].2))
theorem UO.of_owns(h:w.ownsRow B 52 2 v l.length (ZG l)):UO w v l:=by
 obtain⟨a,c,f⟩:=Zj h;refine⟨a,c,f,fun j d=>?_⟩;obtain⟨g,n,i,_,_,b⟩:=Jo h I;rw[f]at i;injection i with e
 have k:=b (j*2) _ (V9 j d).1;have m:=b (j*2+1) _ (V9 j d).2;exact⟨g,0,e,by rw[J4];exact k,by rw[J4];exact m⟩
theorem UO.below(h:UO w v l)(i:Qo w w'):UO w' v l:=by
 obtain⟨a,c,m,h⟩:=h;refine⟨a,c,m,fun j k=>?_⟩;obtain⟨g,b,e,d,f⟩:=h j k;exact⟨g,b,e,by rw[i.cell (p:=⟨g,b+j*2,none⟩) (QX d)];exact d,by rw[i.cell (p:=⟨g,b+j*2+1,none⟩) (QX f)];exact f⟩
theorem PW(a:Int×L8)(W:World):(binOp .neq 52 (.agg #[Qa a.1,Qf a.2]) (.agg #[Qa a.1,Qf a.2])).run prog W=.ok (.bool false) W:=by
 have c:prog.underlying 52=some (.struct (prog.fieldsOf 52)):=Qm
 have e:prog.stoodInHeld 52=false:=Qm
 have d:(prog.fieldsOf 52).toList=[⟨ "Kind",3,0,false, "", "",0⟩,⟨ "Arg",9,1,false, "", "",8⟩]:=Qm
 have b:((sA a.2).toList==(sA a.2).toList)=true:=Qh
 rw[run_neq_struct,run_equalIn_struct W _ _ _ _ c e,d];simp[Op.eqFields,go_sem,Result.andThen,b]
theorem FF{s t:Value}(c:UO w s l)(d:UO w t l)(L:l.length<=9223372036854775807):Calls prog 35 #[s,t] w fun e w'=>e=.returned (.bool true)/\Qo w w':=by
 obtain⟨M,H,rfl,c⟩:=c;obtain⟨N,J,rfl,d⟩:=d;have P:=O c;have Q:=O d;have v:=O PW;clear c d;go_enter func35,ntmps35;go_wp2
 go_loopw [5] (fun r wr=>∃k:Nat,k<=l.length/\r=Qa k/\Hid (Qo w wr)) (fun r _=>l.length-(intOf r).toNat)
 case atStart=>exact⟨0,QR,rfl,QO _ _⟩
 case round=>
  obtain⟨k,K,rfl,a⟩:=hrel;by_cases hlt:k<l.length
  .have D:(k:Int)<(l.length:Int):=I
   obtain⟨g,f,E,j,n⟩:=P k hlt;obtain⟨b,i,F,m,q⟩:=Q k hlt;subst E F;have y:=QN a j (QX j)
   have A:=QN a n (QX n)
   have z:=QN a m (QX m)
   have B:=QN a q (QX q)
   have G:=v l[k];obtain⟨x,u⟩:=Qw (l[k]);rw[u]at y z A B G;clear j m n q u;go_wp2;go_region;go_wp2;go_roundw
   case rel=>exact⟨k+1,I,by go_num,a.o.drew⟩
   case measure=>simp[intOf];omega
  .have C:k=l.length:=I
   subst C;have D:¬(l.length:Int)<(l.length:Int):=I
   go_wp2;go_ret;exact⟨rfl,a⟩
theorem Tryz.infoPtrS:(prog.info? 53).map (fun i=>(i.zero,i.size,i.bytes))=some (some (.pointer none),1,8):=Qm
theorem Tryz.infoPtrR:(prog.info? 76).map (fun i=>(i.zero,i.size,i.bytes))=some (some (.pointer none),1,8):=Qm
def Nj(X:Nat->Prop)(y:Qn×List (Q5 7))(w:World)(v:Value):Prop:=
 ∃g rv lv,v=(Qc g)/\X g/\w.heap[g]?=some (Qe #[rv,lv] 124)/\Y1 X y.1 w rv/\blX X (Yx 7) y.2 w lv
theorem Vw:TreeQ Nj:=by
 refine⟨fun X a w m v h i=>?_,fun X Y a w v h f=>?_⟩
 .obtain⟨g,l,k,j,c,b,d,e⟩:=h;exact⟨g,l,k,j,c,by rw[i g c (QI b)];exact b,d.keep i,e.keep (XO 7) i⟩
 .obtain⟨g,l,k,j,c,b,d,e⟩:=h;exact⟨g,l,k,j,f g c (QI b),b,d.weak f,e.weak (XO 7) f⟩
theorem UY:TreeQ KL:=by
 refine⟨fun X a w m v h i=>?_,fun X Y a w v h f=>?_⟩
 .obtain⟨g,l,k,j,c,b,d,e⟩:=h;exact⟨g,l,k,j,c,by rw[i g c (QI b)];exact b,d.keep i,(Xk (XD 7)).keep _ _ _ _ _ e i⟩
 .obtain⟨g,l,k,j,c,b,d,e⟩:=h;exact⟨g,l,k,j,f g c (QI b),b,d.weak f,(Xk (XD 7)).weak _ _ _ _ _ e f⟩
abbrev UL:=Qn×List (Q5 7)
section
variable {wb:Nat} {u w w' w5:World} {xv mv v' x:Value} {ys1 ys2:List UL} {y:UL} {vs1 vs2:List Value} {o:Obj}
end
end
structure JO (X:Nat->Prop) (w:World) (v:Value) (l:List (Int×L8)):Prop where
 row:w.ownsRow 0 52 2 v l.length (ZG l)
 xr:∀k,v.ownBlock=some k->X k
theorem JO.keep(h:JO X w v l)(hk:∀k,X k->k<w.heap.size->w'.heap[k]?=w.heap[k]?):JO X w' v l:=⟨VG h.row fun k hk'=>hk k (h.xr k hk') (h.row.lt k hk').2,h.xr⟩
theorem JO.into{Y:Nat->Prop}(h:JO X w v l)(hX:∀k,X k->k<w.heap.size->Y k):JO Y w v l:=⟨h.row,fun k hk=>hX k (h.xr k hk) (h.row.lt k hk).2⟩
structure Ky where
 r:Value
 t:Value
 l:List (Int×L8)
def Ve(cs:List Ky):List Value:=cs.flatMap fun c=>[c.r,c.t]
theorem Lc:∀(a:List Ky) (j:Nat) (b:j<a.length),(Ve a)[j*2]?=some a[j].r/\(Ve a)[j*2+1]?=some a[j].t
 | [],j,b=>absurd b (XA _)
 |c::r,0,_=>⟨rfl,rfl⟩
 |c::r,j+1,b=>by
  have:=Lc r j (by simpa using b);have d:(j+1)*2=j*2+1+1:=I
  rw[d];exact this
theorem Wp{a:List Ky}(c:Ky):Ve a++[c.r,c.t]=Ve (a++[c]):=by unfold Ve;simp
theorem K4:type_of%@List.set_cons_succ:=@List.set_cons_succ
theorem Qtz{a:List Ky}(j:Nat)(b:j<a.length):Ve (a.set j ⟨a[j].r,a[j].t,l⟩)=Ve a:=by
 induction a generalizing j with
 |nil=>exact absurd b (XA _)
 |cons c r ih=>
  cases j with
  |zero=>rfl
  |succ j=>
   have:=ih j (by simpa using b);unfold Ve at this ⊢;rw[K4,YS,YS];exact ZI (_++·) this
structure Nm (col:Nat->Nat) (w:World) (j:Nat) (c:Ky):Prop where
 r:JO (fun k=>col k=2+2*j) w c.r c.l
 t:JO (fun k=>col k=3+2*j) w c.t c.l
 b:c.l.length<=1000000
structure WldA (wb:Nat) (u w:World) (col:Nat->Nat) (xv mv cv:Value) (ys1 ys2:List UL) (vs1 vs2:List Value) (cs:List Ky):Prop where
 nd:w.heap[wb]?=some (Qe #[xv,mv,cv,Qp] 44)
 o1:w.ownsRow (wb+1) 53 1 xv vs1.length vs1
 o2:w.ownsRow (wb+1) 76 1 mv vs2.length vs2
 o4:w.ownsRow (wb+1) 80 2 cv cs.length (Ve cs)
 r1:Zz (fun a u=>Nj (fun k=>col k=0) a w u) ys1 vs1
 r2:Zz (fun a u=>KL (fun k=>col k=0) a w u) ys2 vs2
 k1:∀k,xv.ownBlock=some k->col k=1
 k2:∀k,mv.ownBlock=some k->col k=1
 k4:∀k,cv.ownBlock=some k->col k=1
 cu:∀k,w.heap.size<=k∨k<=wb->col k=1
 kc:∀j (hj:j < cs.length),Nm col w j cs[j]
 b:Below wb u w
section
variable {wb:Nat} {u w w' w5:World} {col:Nat->Nat} {xv mv cv v' x:Value} {ys1 ys2:List UL} {y:UL} {vs1 vs2:List Value} {cs:List Ky} {o:Obj}
theorem Nm.keep{j:Nat}{c:Ky}(h:Nm col w j c)(hk:∀k,col k≠1->k<w.heap.size->w'.heap[k]?=w.heap[k]?):Nm col w' j c:=
 ⟨h.r.keep (fun k hc hz=>hk k (by have hc':col k=_:=hc;omega) hz),h.t.keep (fun k hc hz=>hk k (by have hc':col k=_:=hc;omega) hz),h.b⟩
theorem WldA.below(h:WldA wb u w col xv mv cv ys1 ys2 vs1 vs2 cs)(c:Qo w w'):WldA wb u w' col xv mv cv ys1 ys2 vs1 vs2 cs:=by
 have f:=QI h.nd;refine⟨Ze h.nd c,YA h.o1 c,YA h.o2 c,YA h.o4 c,h.r1.imp fun a u d=>Vw.keep _ _ _ _ _ d (fun k _ hk=>c.block k hk),h.r2.imp fun a u d=>UY.keep _ _ _ _ _ d (fun k _ hk=>c.block k hk),h.k1,h.k2,h.k4,fun k hk=>h.cu k ?_,fun j e=>(h.kc j e).keep (fun k _ hk=>c.block k hk),h.b.trans (c.mono (Xj f))⟩;rcases hk with hk|hk
 .exact Qt (QE c.size hk)
 .exact Qr hk
theorem WldA.paint(h:WldA wb u w col xv mv cv ys1 ys2 vs1 vs2 cs){s0:Nat}(c:Nat->Nat)(i:∀k,s0<=k->col k=1)(hw:wb<s0)(q:∀k,xv.ownBlock=some k->k<s0)(p:∀k,mv.ownBlock=some k->k<s0)(m:∀k,cv.ownBlock=some k->k<s0):WldA wb u w (fun k=>if s0<=k/\k<w.heap.size then c k else col k) xv mv cv ys1 ys2 vs1 vs2 cs:=by
 have e:∀ {k:Nat} {n:Nat},n≠1->col k=n->(if s0<=k/\k<w.heap.size then c k else col k)=n:=fun {k n} hn d=>by
  rw[Qg]
  .exact d
  .rintro⟨l,_⟩;rw[i k l]at d;exact hn d.symm
 have lo:∀ {k:Nat},k<s0->(if s0<=k/\k<w.heap.size then c k else col k)=col k:=fun {k} d=>Q8
 refine⟨h.nd,h.o1,h.o2,h.o4,h.r1.imp fun a u g=>Vw.weak _ _ _ _ _ g (fun k d _=>e Qb d),h.r2.imp fun a u g=>UY.weak _ _ _ _ _ g (fun k d _=>e Qb d),fun k d=>?_,fun k d=>?_,fun k d=>?_,fun k d=>?_,fun j o=>?_,h.b⟩
 .rw[lo (q k d)];exact h.k1 k d
 .rw[lo (p k d)];exact h.k2 k d
 .rw[lo (m k d)];exact h.k4 k d
 .show(if _ then _ else _)=1
  rw[Q8];exact h.cu k d
 .have f:=h.kc j o;exact⟨f.r.into (fun k d _=>e I d),f.t.into (fun k d _=>e I d),f.b⟩
theorem Bs{size:Nat}{n:Nat}{xs:List Value}(h:WldA wb u w col xv mv cv ys1 ys2 vs1 vs2 cs)(c:∀k,v.ownBlock=some k->col k=1)(b:(w.alloc o).grownBy w5 v.ownBlock)(p:Nat)(z:Value):∀k,col k≠1->k<w.heap.size->(w5.setCell ⟨wb,p,none⟩ z).heap[k]?=w.heap[k]?:=fun k hk hz=>by
 rw[Q' (fun e=>hk (by have a:k=wb:=e;rw[a];exact h.cu wb (Qr QF))),b.block k (by simp;omega) (fun e=>hk (c k e.symm))];exact ZL _ _ _ hz
theorem WldA.app1(h:WldA wb u w col xv mv cv ys1 ys2 vs1 vs2 cs)(d:Nj (fun k=>col k=0) y w x)(hg:(w.alloc o).grownBy w5 xv.ownBlock)(l:w5.ownsRow (wb+1) 53 1 v' (vs1.length+1) (vs1++[x]))(hat:v'.ownBlock=xv.ownBlock\/v'.ownBlock=some (w.heap.size+1)):WldA wb u (w5.setCell ⟨wb,0,none⟩ v') col v' mv cv (ys1++[y]) ys2 (vs1++[x]) vs2 cs:=by
 have c:=QI h.nd;have i:=VB h.o1 c hg;have f:=Bs (size:=0) (n:=0) (xs:=[]) h h.k1 hg 0 v';have m:w.heap.size<=w5.heap.size:=by have:=hg.size;simp at this;omega
 have hoth:∀ {v:Value} {e:TypeId} {size n:Nat} {xs:List Value},w.ownsRow (wb+1) e size v n xs->e≠53->(w5.setCell ⟨wb,0,none⟩ v').ownsRow (wb+1) e size v n xs:=fun {v e size n xs} hv he=>KG ((hv.alloc o).kept hg (by
  cases hb:v.ownBlock with
  |none=>exact Qt rfl
  | some k=>exact Qr (fun e2=>VA hv h.o1 he k hb e2.symm))) (Xp _)
 refine⟨QM ((i wb (Xp _)).trans h.nd),KG (by simpa using l) (Xp _),hoth h.o2 Qb,hoth h.o4 Qb,?_,h.r2.imp fun a u d=>UY.keep _ _ _ _ _ d (fun k hk c=>f k I c),fun k hk=>?_,h.k2,h.k4,fun k hk=>h.cu k ?_,fun j g=>(h.kc j g).keep f,?_⟩
 .exact(Zz.snoc (P:=fun a u=>Nj (fun k=>col k=0) a w u) d h.r1).imp fun a u d=>Vw.keep _ _ _ _ _ d (fun k hk c=>f k I c)
 .rcases hat with hat|hat
  .exact h.k1 k (by rw[<-hat];exact hk)
  .rw[hat]at hk;have:w.heap.size+1=k:=by simpa using hk
   exact h.cu k (Qt I)
 .rcases hk with hk|hk
  .rw[Vo]at hk;exact Qt I
  .exact Qr hk
 .exact(((h.b.alloc (Xj c) o).grown hg (by simp;omega) (fun k hk=>by have:=(h.o1.lt k hk).1;omega)).setCell QF _)
theorem WldA.app2(h:WldA wb u w col xv mv cv ys1 ys2 vs1 vs2 cs)(d:KL (fun k=>col k=0) y w x)(hg:(w.alloc o).grownBy w5 mv.ownBlock)(l:w5.ownsRow (wb+1) 76 1 v' (vs2.length+1) (vs2++[x]))(hat:v'.ownBlock=mv.ownBlock\/v'.ownBlock=some (w.heap.size+1)):WldA wb u (w5.setCell ⟨wb,1,none⟩ v') col xv v' cv ys1 (ys2++[y]) vs1 (vs2++[x]) cs:=by
 have c:=QI h.nd;have i:=VB h.o2 c hg;have f:=Bs (size:=0) (n:=0) (xs:=[]) h h.k2 hg 1 v';have m:w.heap.size<=w5.heap.size:=by have:=hg.size;simp at this;omega
 have hoth:∀ {v:Value} {e:TypeId} {size n:Nat} {xs:List Value},w.ownsRow (wb+1) e size v n xs->e≠76->(w5.setCell ⟨wb,1,none⟩ v').ownsRow (wb+1) e size v n xs:=fun {v e size n xs} hv he=>KG ((hv.alloc o).kept hg (by
  cases hb:v.ownBlock with
  |none=>exact Qt rfl
  | some k=>exact Qr (fun e2=>VA hv h.o2 he k hb e2.symm))) (Xp _)
 refine⟨QM ((i wb (Xp _)).trans h.nd),hoth h.o1 Qb,KG (by simpa using l) (Xp _),hoth h.o4 Qb,h.r1.imp fun a u d=>Vw.keep _ _ _ _ _ d (fun k hk c=>f k I c),?_,h.k1,fun k hk=>?_,h.k4,fun k hk=>h.cu k ?_,fun j g=>(h.kc j g).keep f,?_⟩
 .exact(Zz.snoc (P:=fun a u=>KL (fun k=>col k=0) a w u) d h.r2).imp fun a u d=>UY.keep _ _ _ _ _ d (fun k hk c=>f k I c)
 .rcases hat with hat|hat
  .exact h.k2 k (by rw[<-hat];exact hk)
  .rw[hat]at hk;have:w.heap.size+1=k:=by simpa using hk
   exact h.cu k (Qt I)
 .rcases hk with hk|hk
  .rw[Vo]at hk;exact Qt I
  .exact Qr hk
 .exact(((h.b.alloc (Xj c) o).grown hg (by simp;omega) (fun k hk=>by have:=(h.o2.lt k hk).1;omega)).setCell QF _)
theorem Iu{b:TypeId}(h:w.ownsRow (wb+1) b size cv n xs)(c:wb<w.heap.size)(a:(w.alloc o).grownBy w5 cv.ownBlock):∀k,k<wb+1->w5.heap[k]?=w.heap[k]?:=fun k hk=>by
 rw[a.block k (by simp;omega) (fun e=>by have:=(h.lt k e.symm).1;omega)];exact ZL _ _ _ I
theorem WldA.app3(h:WldA wb u w col xv mv cv ys1 ys2 vs1 vs2 cs){c:Ky}(f:Nm col w cs.length c)(hg:(w.alloc o).grownBy w5 cv.ownBlock)(p:w5.ownsRow (wb+1) 80 2 v' (cs.length+1) (Ve cs++[c.r,c.t]))(hat:v'.ownBlock=cv.ownBlock\/v'.ownBlock=some (w.heap.size+1)):WldA wb u (w5.setCell ⟨wb,2,none⟩ v') col xv mv v' ys1 ys2 vs1 vs2 (cs++[c]):=by
 have d:=QI h.nd;have m:=Iu h.o4 d hg;have g:=Bs (size:=0) (n:=0) (xs:=[]) h h.k4 hg 2 v';have q:w.heap.size<=w5.heap.size:=by have:=hg.size;simp at this;omega
 have hoth:∀ {v:Value} {e:TypeId} {size n:Nat} {xs:List Value},w.ownsRow (wb+1) e size v n xs->e≠80->(w5.setCell ⟨wb,2,none⟩ v').ownsRow (wb+1) e size v n xs:=fun {v e size n xs} hv he=>KG ((hv.alloc o).kept hg (by
  cases hb:v.ownBlock with
  |none=>exact Qt rfl
  | some k=>exact Qr (fun e2=>VA hv h.o4 he k hb e2.symm))) (Xp _)
 refine⟨QM ((m wb (Xp _)).trans h.nd),hoth h.o1 Qb,hoth h.o2 Qb,KG (by rw[Qz,<-Wp];exact p) (Xp _),h.r1.imp fun a u f=>Vw.keep _ _ _ _ _ f (fun k hk d=>g k I d),h.r2.imp fun a u f=>UY.keep _ _ _ _ _ f (fun k hk d=>g k I d),h.k1,h.k2,fun k hk=>?_,fun k hk=>h.cu k ?_,fun j i=>?_,?_⟩
 .rcases hat with hat|hat
  .exact h.k4 k (by rw[<-hat];exact hk)
  .rw[hat]at hk;have:w.heap.size+1=k:=by simpa using hk
   exact h.cu k (Qt I)
 .rcases hk with hk|hk
  .rw[Vo]at hk;exact Qt I
  .exact Qr hk
 .rw[Qz]at i;by_cases hjl:j<cs.length
  .rw[List.getElem_append_left hjl];exact(h.kc j hjl).keep g
  .have l:j=cs.length:=by simp at i;omega
   subst l;rw[List.getElem_append_right QF];simp only[Nat.sub_self,List.getElem_cons_zero];exact f.keep g
 .exact(((h.b.alloc (Xj d) o).grown hg (by simp;omega) (fun k hk=>by have:=(h.o4.lt k hk).1;omega)).setCell QF _)
theorem WldA.wrote(h:WldA wb u w col xv mv cv ys1 ys2 vs1 vs2 cs)(B:j<cs.length)(f:Fr (fun k _=>col k=2+2*j\/col k=3+2*j) w w')(D:JO (fun k=>col k=2+2*j) w' cs[j].r l)(E:JO (fun k=>col k=3+2*j) w' cs[j].t l)(C:l.length<=1000000):WldA wb u w' col xv mv cv ys1 ys2 vs1 vs2 (cs.set j ⟨cs[j].r,cs[j].t,l⟩):=by
 have c:=QI h.nd
 have d:∀k,col k≠2+2*j->col k≠3+2*j->k<w.heap.size->w'.heap[k]?=w.heap[k]?:=fun k z A hk=>by
  obtain⟨s,y⟩:∃s,w.heap[k]?=some s:=⟨w.heap[k],GB hk⟩;rw[y];exact f.block k s y (fun e=>e.elim z A)
 have p:∀ {v:Value} {e:TypeId} {size n:Nat} {xs:List Value},w.ownsRow (wb+1) e size v n xs->(∀k,v.ownBlock=some k->col k=1)->w'.ownsRow (wb+1) e size v n xs:=fun {v e size n xs} hv hc=>VG hv fun k hk=>d k (by rw[hc k hk];omega) (by rw[hc k hk];omega) (hv.lt k hk).2
 refine⟨(d wb (by rw[h.cu wb (Qr QF)];omega) (by rw[h.cu wb (Qr QF)];omega) c).trans h.nd,p h.o1 h.k1,p h.o2 h.k2,by rw[UW,Qtz j B];exact p h.o4 h.k4,h.r1.imp fun a u q=>Vw.keep _ _ _ _ _ q (fun k hk c=>d k I I c),h.r2.imp fun a u q=>UY.keep _ _ _ _ _ q (fun k hk c=>d k I I c),h.k1,h.k2,h.k4,fun k hk=>h.cu k ?_,fun i x=>?_,?_⟩
 .rcases hk with hk|hk
  .exact Qt (QE f.size hk)
  .exact Qr hk
 .rw[UW]at x;by_cases hij:j=i
  .subst hij;rw[List.getElem_set_self];exact⟨D,E,C⟩
  .rw[List.getElem_set_ne hij];have g:=h.kc i x;exact⟨g.r.keep (fun k hk c=>d k (by have m:col k=_:=hk;omega) (by have m:col k=_:=hk;omega) c),g.t.keep (fun k hk c=>d k (by have m:col k=_:=hk;omega) (by have m:col k=_:=hk;omega) c),g.b⟩
 .refine h.b.trans (f.below (fun k o hk=>?_) (Xj c));apply GE;intro F;have:=h.cu k (Qr I);omega
end
theorem WldA.get{z:Nat}{b:Nat->Nat}{j c o:Value}{a:List UL}{x y:List Value}{n:List Ky}(h:WldA z u w b j c o a a x y n)(i:Nat)(hi:i<a.length):∃cx cm bx bm gx gm,j=Qs bx a.length cx/\c=Qs bm a.length cm/\w.cell? ⟨bx,i,none⟩=some (Qc gx)/\w.cell? ⟨bm,i,none⟩=some (Qc gm)/\Nj (fun k=>b k=0) a[i] w (Qc gx)/\KL (fun k=>b k=0) a[i] w (Qc gm):=by
 have t:=U8 h.r1;have v:=U8 h.r2;obtain⟨u1,q,f⟩:=h.r1.at i hi;obtain⟨u2,r,g⟩:=h.r2.at i hi;obtain⟨gx,_,_,rfl,_⟩:=id f;obtain⟨gm,_,_,rfl,_⟩:=id g;have d:=h.o1;have e:=h.o2;rw[<-t]at d;rw[<-v]at e;obtain⟨bx,cx,s,_,_,l⟩:=Jo d I;obtain⟨bm,cm,p,_,_,m⟩:=Jo e I;exact⟨cx,cm,bx,bm,gx,gm,s,p,l _ _ q,m _ _ r,f,g⟩
def Jg(wb:Nat)(u:World)(N:Nat)(w:World):Prop:=
 ∃col xv mv cv ys vs1 vs2 cs,WldA wb u w col xv mv cv ys ys vs1 vs2 cs/\(∀y∈ys,∃t:L8,t.length<=600/\prL t=.ok y)/\ys.length<=N/\cs.length<=N
theorem Jg.below{a:Nat}{u w w':World}{N:Nat}(h:Jg a u N w)(g:Qo w w'):Jg a u N w':=by
 obtain⟨b,l,i,d,m,j,k,c,e,f⟩:=h;exact⟨b,l,i,d,m,j,k,c,e.below g,f⟩
theorem Jg.more{a:Nat}(h:Jg c u N w)(b:N<=a):Jg c u a w:=by
 obtain⟨d,o,l,f,p,m,n,e,g,i,j,k⟩:=h;exact⟨d,o,l,f,p,m,n,e,g,i,QE j b,QE k b⟩
section
attribute [local go_sem ↓] Zt Zu
theorem SH{s:L8}(h:Jg c u N w)(he:Env u)(A:u.heap.size=c)(hN:N<=1100000000000)(hs:s.length<=140737488355328):Calls prog 25 #[Qc c,Qf s] w fun e w'=>e=.returned (.bool true)/\Jg c u (N+1) w':=by
 obtain⟨P,xv,mv,R,ys,au,av,Q,d,L,aP,aN⟩:=h;have D:=Zc s;have l1:=U8 d.r1;have l2:=U8 d.r2;have aR:=O d;have aS:=O L;have HE:Hid (∀W,Below c u W->Env W):=fun W hW=>he.below (by show Below _ _ _;rw[A];exact hW)
 have T:=HE w d.b;obtain⟨i0,hi,aJ,aK,aL⟩:=ZU Tryz.infoPtrS;obtain⟨j0,i,aF,aG,aH⟩:=ZU Tryz.infoPtrR;have ar:=T.m1;have ap:=T.et;have aW:=O ar;have aV:=O ap;have aE:=QI d.nd;clear d L he T ar ap;go_enter func25,ntmps25;go_wp2_with fail;refine(Qto (sA s) aW aV).mono ?_;rintro e G ⟨S,hP⟩;have H:=O (aR.o.below S);have aA:=S.size;clear S;rcases hP with⟨az,rfl⟩ | ⟨ae,y,g,rv,lv,hy,rfl,aM,hc,hr,hb⟩ | ⟨ae,f,hf,rfl⟩
 .have C:600<s.length:=az;go_wp2_with fail;refine(Di G hs).mono ?_;rintro e B ⟨m,p⟩;rw[Qi C]at p;subst p;have M:=O (H.o.below m);clear m;go_wp2;go_ret;exact⟨rfl,P,xv,mv,R,ys,au,av,Q,M,aS,I,I⟩
 .have C:¬600<s.length:=by have:s.length<=600:=ae;omega
  have ah:prL s=.ok y:=hy;have ao:Hid (Nj (fromB w.heap.size) y G (Qc g)):=⟨g,rv,lv,rfl,aM,hc,hr,hb⟩;have aw:Hid (∃t:L8,t.length<=600/\prL t=.ok y):=⟨s,I,ah⟩;clear hc hr hb hy;go_wp2_with fail;refine(Di G hs).mono ?_;rintro e B ⟨m,p⟩;rw[Qg C,ah]at p;obtain⟨v2,rfl,af⟩:=p;obtain⟨x,ay⟩:∃x,v2=(Qc x):=by obtain⟨x,_,_,h,_⟩:=af;exact⟨x,h⟩
  subst ay;have aB:w.heap.size<=G.heap.size:=aA;have l:=(H.o.below m).paint (s0:=w.heap.size) (fun _=>0) (fun k a=>aR.cu k (Qt a)) aE (fun k a=>(aR.o1.lt k a).2) (fun k a=>(aR.o2.lt k a).2) (fun k a=>(aR.o4.lt k a).2);obtain⟨q,V⟩:=Qw (fun k=>if w.heap.size<=k/\k<B.heap.size then 0 else P k);rw[V]at l;have Z:∀k,w.heap.size<=k->k<B.heap.size->q k=0:=fun k h1 h2=>by rw[<-V];exact Qi ⟨h1,h2⟩
  have aU:=O Z;have M:=O l;clear Z V;have aC:=QI l.nd;have ai:Hid (Nj (fun k=>q k=0) y B (Qc g)):=Vw.weak _ _ _ _ _ (Vw.keep _ _ _ _ _ ao (fun k _ a=>m.block k a)) (fun k a D=>aU k a D);have ak:Hid (KL (fun k=>q k=0) y B (Qc x)):=UY.weak _ _ _ _ _ af (fun k a D=>aU k (QE aB a) D);have n0:=Qj l.nd 0;have aa:=l.o1;clear m af l H aR ao ah C;go_wp2_with (at_builtin;refine Kf _ rfl _ _ 39 rfl (c+1) 53 i0 (.pointer none) 1 8 underlying39 hi aJ aK aL rfl Qb _ _ _ rfl (aa.alloc _) ⟨B.heap.size,0,none⟩ 1 1 [Qc g] rfl rfl ?c1 ?c2 ?c3 ?c4 ?c5 ?_)
  case c1=>
   intro j u i
   match j,i with
   |0,i=>simp at i;subst i;simp[Addr.add]
  case c2=>intro u A;simp at A;subst A;rfl
  case c3=>unfold maxLen;omega
  case c4=>omega
  case c5=>simp;omega
  .intro v' w5 ab r _ E;have F:=VB (gb:=c) aa aC r;have X:=(F c (Xp _)).trans M.nd;obtain⟨p5,m5,c5,rfl⟩:=G2 ab;obtain⟨J,K⟩:=Q3 (w5.setCell ⟨c,0,none⟩ (.slice p5 m5 c5));have aX:=O K;have v:=M.app1 ai r ab E
   have aj:Hid (KL (fun k=>q k=0) y J (Qc x)):=by
    show KL _ _ _ _
    rw[K];exact UY.keep _ _ _ _ _ ak (fun k a D=>Bs (size:=0) (n:=0) (xs:=[]) M M.k1 r 0 (.slice p5 m5 c5) k (by have aO:q k=0:=a;omega) D)
   rw[<-K]at v;have aT:=O v;have f5:=fun o=>QQ X o
   have t5:=Qj X 0;have aD:=QI v.nd;have n1:=Qj v.nd 1;have ac:=v.o2;clear ab r aa E F X K v M ai ak n0;go_wp2_with (first|(at_builtin;refine Kf _ rfl _ _ 40 rfl (c+1) 76 j0 (.pointer none) 1 8 underlying40 i aF aG aH rfl Qb _ _ _ rfl (ac.alloc _) ⟨J.heap.size,0,none⟩ 1 1 [Qc x] rfl rfl ?c1 ?c2 ?c3 ?c4 ?c5 ?_)|(rw[<-aX.o]))
   case c1=>
    intro j u i
    match j,i with
    |0,i=>simp at i;subst i;simp[Addr.add]
   case c2=>intro u A;simp at A;subst A;rfl
   case c3=>unfold maxLen;omega
   case c4=>omega
   case c5=>simp;omega
   .intro aQ w8 ad r _ E;have F:=VB (gb:=c) ac aD r;have Y:=(F c (Xp _)).trans aT.nd;obtain⟨p8,m8,c8,rfl⟩:=G2 ad;obtain⟨W9,U⟩:=Q3 (w8.setCell ⟨c,1,none⟩ (.slice p8 m8 c8));have aY:=O U;have ag:=aT.app2 aj r ad E;rw[<-U]at ag;have aZ:=O ag;have f8:=fun o=>QQ Y o
    have t8:=Qj Y 1;clear ad r ac E F Y U ag aT aj n1;go_wp2_with (rw[<-aY.o]);go_wp2;go_ret;refine⟨rfl,q,_,_,R,ys++[y],_,_,Q,aZ,fun z aI=>?_,by simp;omega,I⟩;rcases Z6.1 aI with h|h
    .exact aS z h
    .rw[ZV h];exact aw
 .have C:¬600<s.length:=by have:s.length<=600:=ae;omega
  have aq:prL s=.error f:=hf;clear hf;go_wp2_with fail;refine(Di G hs).mono ?_;rintro e B ⟨m,p⟩;rw[Qg C,aq]at p;have ax:e=.returned (.tuple #[.pointer none,Qa f.err,Qa f.pos]):=p;subst ax;have M:=O (H.o.below m);clear m aq p;cases h0:((f.err:Int) != 0)<;>cases h1:((f.err:Int) != 1)
  all_goals
   go_wp2;go_ret;exact⟨rfl,P,xv,mv,R,ys,au,av,Q,M,aS,I,I⟩
theorem WldA.code{e:Nat}{f:Nat->Nat}{p b:Value}{x y:List UL}{q s:List Value}{a:List Ky}(h:WldA e u w f v p b x y q s a)(m:j<a.length):∃g c,b=Qs g a.length c/\g<w.heap.size/\e<g/\w.cell? ⟨g,j*2,none⟩=some a[j].r/\w.cell? ⟨g,j*2+1,none⟩=some a[j].t:=by
 obtain⟨g,c,o,l,n,d⟩:=Jo h.o4 I;obtain⟨i,k⟩:=Lc a j m;exact⟨g,c,o,n,l,d _ _ i,d _ _ k⟩
theorem B4(h:JO X w v l):∃a c,v=.slice a l.length c:=Zj h.row
theorem TV(h:Jg b u N w)(hN:N<=1100000000000):Calls prog 17 #[Qc b] w fun e w'=>e=.returned (.bool true)/\Qo w w':=by
 obtain⟨Y,xv,mv,Z,ys,ab,ac,a,d,_,_,aa⟩:=h;have HW:=O d;obtain⟨V,y,z⟩:=Zj d.o4;have L:=Qj d.nd 3;have x:=Qj d.nd 2;rw[z]at x;have ae:=O z;have A:=QI d.nd;clear d z;go_enter func17,ntmps17;go_wp2
 go_loopw [3] (fun B wr=>∃k:Nat,k<=a.length/\B=Qa k/\Hid (Qo w wr)) (fun B _=>a.length-(intOf B).toNat)
 case atStart=>exact⟨0,QR,rfl,QO _ _⟩
 case round=>
  obtain⟨k,hk,rfl,c⟩:=hrel;have d2:=QN c x A
  have d3:=QN c L A
  by_cases hlt:k<a.length
  .have U:(k:Int)<(a.length:Int):=I
   obtain⟨g,X,v,n,_,i,j⟩:=HW.code hlt;rw[ae.o]at v;injection v with v _ hcc
   subst v;have M:=QN c i n
   have P:=QN c j n
   have f:=HW.kc k hlt;obtain⟨E,J,q⟩:=B4 f.r;obtain⟨F,K,s⟩:=B4 f.t
   have D:Hid (∀W,Qo w W->Calls prog 35 #[a[k].r,a[k].t] W fun e w'=>e=.returned (.bool true)/\Qo W w'):=fun W G=>by
    exact FF ((UO.of_owns f.r.row).below G) ((UO.of_owns f.t.row).below G) (LU f.r.row)
   rw[q,s]at D;rw[q]at M;rw[s]at P;rw[q]at i;rw[s]at j;have G1:=O i;have G2:=O j;clear i j f q s hcc;go_wp2;go_region_held3 (fun w'=>w'.cell? (Ql b 2)=some (Qs g a.length y)/\w'.cell? ⟨g,k*2,none⟩=some (.slice E a[k].l.length J)/\w'.cell? ⟨g,k*2+1,none⟩=some (.slice F a[k].l.length K)) (first|go_keep|exact⟨Q,R,S⟩) (first|(go_at_call 35;refine Qv (D wr.drew c.o.drew) ?_;rintro C H;have m:=c.o.drew.trans (H.mono c.size);have Q:C.cell? (Ql b 2)=some (Qs g a.length y):=(by rw[m.cell (p:=⟨b,2,none⟩) A];exact x);have R:C.cell? ⟨g,k*2,none⟩=some (.slice E a[k].l.length J):=(by rw[m.cell (p:=⟨g,k*2,none⟩) n];exact G1);have S:C.cell? ⟨g,k*2+1,none⟩=some (.slice F a[k].l.length K):=(by rw[m.cell (p:=⟨g,k*2+1,none⟩) n];exact G2);have ad:=O m;clear H m;skip))
   all_goals go_wp2
   all_goals go_roundw
   all_goals first
    |exact⟨k+1,I,by go_num,ad⟩
    |(simp[intOf];omega)
  .have T:k=a.length:=I
   subst T;have U:¬(a.length:Int)<(a.length:Int):=I
   go_wp2;refine Vs 1 ?_;rw[UB];go_wp2;go_ret;exact⟨rfl,c⟩
theorem Ai{m k:Nat}(h:k≠m):({ w with heap:=w.heap.setIfInBounds m o }:World).heap[k]?=w.heap[k]?:=by
 show(w.heap.setIfInBounds m o)[k]?=_
 rw[Array.getElem?_setIfInBounds_ne (Ne.symm h)]
theorem Rw{m:Nat}{o':Obj}(h:w.heap[m]?=some o'):({ w with heap:=w.heap.setIfInBounds m o }:World).heap[m]?=some o:=by
 show(w.heap.setIfInBounds m o)[m]?=_
 exact(MapKept.heap_set h).1
theorem SI.setMap{D:Nat}{A:Value}{E C:Value}(h:SI w B D M s A i E C)(z:L8->Option (L8))(j:Array MapEntry)(c':Nat)(P:Vi j (Vk ⟨s.vs,z,s.told,s.met,s.disc⟩))(l:∀x t,z x=some t->t.length<=48) :
 SI { w with heap:=w.heap.setIfInBounds i (.map j c') } B D M ⟨s.vs,z,s.told,s.met,s.disc⟩ A i E C/\Fr (PSt B) w { w with heap:=w.heap.setIfInBounds i (.map j c') }:=by
 obtain⟨Q,c,y,R⟩:=h.mp
 have p:∀(k:Nat) (o:Obj),w.heap[k]?=some o->(∀d t f,o=.cells d t f->({ w with heap:=w.heap.setIfInBounds i (.map j c') }:World).heap[k]?=some o):=fun k o b d t f N=>by
  rw[Ai (fun e=>by subst e;rw[y]at b;cases b;cases N)];exact b
 obtain⟨m,J⟩:=h.m1;refine⟨⟨h.bs,h.bm,h.b1,⟨m,?_⟩,p _ _ h.blk _ _ _ rfl,?_,⟨j,c',Rw y,P⟩,?_,?_,h.mn,⟨h.bd.fr,h.bd.tu,h.bd.hl,h.bd.hd,h.bd.told,h.bd.tl,l,h.bd.met⟩⟩,⟨rfl,rfl,rfl,Qh,fun k o b hn=>?_⟩⟩
 .have:(1:Nat)≠i:=by have:=h.b1;have:=h.bm;omega
  rw[Xo (a:=⟨1,0,none⟩) (w:=w) (Ai this)];exact J
 .rcases h.hd with q | ⟨g,c,d,n,l,v⟩
  .exact Qt q
  .exact Qr ⟨g,c,d,n,p _ _ l _ _ _ rfl,v⟩
 .rcases h.told with q | ⟨g,c,n,d,l,v⟩
  .exact Qt q
  .exact Qr ⟨g,c,n,d,p _ _ l _ _ _ rfl,v⟩
 .obtain⟨H,u⟩:=h.met;refine⟨H,?_⟩;rcases u with u | ⟨g,F,G,n,K,L,r⟩
  .exact Qt u
  .exact Qr ⟨g,F,G,n,K,p _ _ L _ _ _ rfl,r⟩
 .rw [Ai (fun e=>by
   subst e;rw[y]at b;cases b
   exact hn ⟨h.bm,rfl⟩)]
  exact b
theorem QyL{x:L8}(w:World)(h:x.length<=1000000):Calls prog 253 #[Qf x] w fun e w'=>e=.returned (Qf (capL x))/\Qo w w':=
 TQ (sA x) w (by rw[Zc];omega)
theorem Pg(s:SS)(name:L8)(tag:Int)(said:L8):Ur s name tag said=⟨s.vs,fun x=>if x=name then some ((turnL tag (expL s said)).take 48)else s.vals x,s.told,s.met,s.disc⟩:=rfl
theorem Pk:∀n:Nat,n<=1000000->(Lib.decDigits n).length<=1000000:=fun n hn=>by
 rw[Lib.decDigits_length];have:=Lib.nDigits_le20 n I;omega
theorem PX(r:L8)(tag:Int)(u:L8)(h:SAt w B b M s)(H:Tab w)(W:u.length<=1000000):Calls prog 211 #[Qc b,Qf r,Qa tag,Qf u] w (AW (.ok (Ur s r tag u)) B b M w):=by
 have HS:=O h;have ah:=O H;have i:=O (Pg s r tag u);have S:=JG tag 1;have U:=JG tag 2;have V:=JG tag 3;have C:=D1 s W Qb;go_enter func211,ntmps211;go_wp2_with fail;refine Qv (Eh B b M s u w h W) ?_;rintro l j;obtain⟨x,p⟩:=Qw (expL s u);rw[p]at i C;rw[p];have af:=O j;clear p j h H;by_cases t1:tag=1
 case' pos=>
  rw[QU t1]at S;subst t1;go_wp2_with fail;refine Qv (Au x l C) ?_;rintro f v;have m:=O (af.o.trans (v.mono af.size));obtain⟨y,d⟩:=Qw (zL x);have K:y.length<=1000000:=by rw[<-d];simp[zL];omega
  rw[show turnL 1 x=y from d]at i
 case' neg=>
  rw[QB t1]at S;by_cases t2:tag=2
  case' pos=>
   rw[QU t2]at U;subst t2;go_wp2_with fail;refine Qv (QyL l C) ?_;rintro f v;have m:=O (af.o.trans (v.mono af.size));obtain⟨y,d⟩:=Qw (capL x);have K:y.length<=1000000:=by rw[<-d];simp[capL];omega
   rw[show turnL 2 x=y from d]at i
  case' neg=>
   rw[QB t2]at U;by_cases t3:tag=3
   case' pos=>
    rw[QU t3]at V;subst t3;have ad:=Zc x;go_wp2_with fail;refine Qv (Qys x.length I (ah.o.below af)) ?_;rintro f v;have m:=O (af.o.trans (v.mono af.size));obtain⟨y,d⟩:=Qw (iL x.length);have K:y.length<=1000000:=by rw[<-d];exact Pk _ C
    rw[show turnL 3 x=y from d]at i
   case' neg=>
    rw[QB t3]at V;rw[show turnL tag x=x by unfold turnL;rw[Qg t1,Qg t2,Qg t3]]at i;obtain⟨y,d⟩:=Qw (x);subst d;obtain⟨f,ab⟩:=Qw (l);subst ab;have m:=af;have K:=C;clear t1 t2 t3;go_wp2_with fail;obtain⟨z,k⟩:=Qw (x.take 48);have L:z.length<=48:=by rw[<-k,YT];omega
    obtain⟨q,D⟩:∃q:Nat,q=min x.length 48:=⟨_,rfl⟩;have hq:min (x.length:Int) 48=(q:Int):=I
    have aa:(q:Int)<=(x.length:Int):=I
    have Y:(sA x).extract 0 q=sA z:=by
     rw[NC,<-k,D];rcases Nat.le_total x.length 48 with hh|hh
     .rw[Nat.min_eq_left hh,Z7 QF,Z7 hh]
     .rw[Nat.min_eq_right hh]
    have ac:=Zc x;obtain⟨J,c,Q,P,ae⟩:=HS.o.below (Z9 m);have HSI:=O ae;obtain⟨X,mc,n,E⟩:=ae.mp;have N:l.cell? (Ql b 5)=some (.map (some c)):=ae.cell 5;rw[k]at i;obtain⟨es',c',Z,ag⟩:=MG (T:=270) (g:=Vk ⟨s.vs,fun x=>if x=r then some z else s.vals x,s.told,s.met,s.disc⟩) underlying270 Z2 n E r (.agg #[Qf z]) (by unfold Vk;simp) (fun x p=>by unfold Vk;simp[p]);have HU:=O ag;have HBD:=O ae.bd;have G:b≠c:=fun e=>by have A:=ae.blk;rw[e,n]at A;cases A
    have F:Hid (({ l.drew with heap:=l.drew.heap.setIfInBounds c (.map es' c') }:World).cell? (Ql b 5)=some (.map (some c))):=(Xo (a:=⟨b,5,none⟩) (w:=l) (Ai (w:=l.drew) G)).trans N;clear ae n E ag k D;go_region_held3 (fun R=>R.cell? (Ql b 5)=some (.map (some c))) (first|go_keep|exact F) (fail)
    all_goals go_wp2
    all_goals go_end0
    all_goals have hfin:=HSI.setMap _ es' c' HU (fun a t hat=>by
     split at hat
     .cases hat;exact L
     .exact HBD.vals a t hat)
    all_goals refine⟨(Fr.of_below (Z9 m)).trans hfin.2,?_⟩
    all_goals rw[i.o]
    all_goals exact⟨rfl,J,c,Q,P,hfin.1⟩
 all_goals
  rw[d];clear d v;go_wp2_with fail;obtain⟨z,k⟩:=Qw (y.take 48);have L:z.length<=48:=by rw[<-k,YT];omega
  obtain⟨q,D⟩:∃q:Nat,q=min y.length 48:=⟨_,rfl⟩;have hq:min (y.length:Int) 48=(q:Int):=I
  have aa:(q:Int)<=(y.length:Int):=I
  have Y:(sA y).extract 0 q=sA z:=by
   rw[NC,<-k,D];rcases Nat.le_total y.length 48 with hh|hh
   .rw[Nat.min_eq_left hh,Z7 QF,Z7 hh]
   .rw[Nat.min_eq_right hh]
  have ac:=Zc y;obtain⟨J,c,Q,P,ae⟩:=HS.o.below (Z9 m);have HSI:=O ae;obtain⟨X,mc,n,E⟩:=ae.mp;have N:f.cell? (Ql b 5)=some (.map (some c)):=ae.cell 5;rw[k]at i;obtain⟨es',c',Z,ag⟩:=MG (T:=270) (g:=Vk ⟨s.vs,fun x=>if x=r then some z else s.vals x,s.told,s.met,s.disc⟩) underlying270 Z2 n E r (.agg #[Qf z]) (by unfold Vk;simp) (fun x p=>by unfold Vk;simp[p]);have HU:=O ag;have HBD:=O ae.bd;have G:b≠c:=fun e=>by have A:=ae.blk;rw[e,n]at A;cases A
  have F:Hid (({ f.drew with heap:=f.drew.heap.setIfInBounds c (.map es' c') }:World).cell? (Ql b 5)=some (.map (some c))):=(Xo (a:=⟨b,5,none⟩) (w:=f) (Ai (w:=f.drew) G)).trans N;clear ae n E ag k D;go_region_held3 (fun R=>R.cell? (Ql b 5)=some (.map (some c))) (first|go_keep|exact F) (fail)
  all_goals go_wp2
  all_goals go_end0
  all_goals have hfin:=HSI.setMap _ es' c' HU (fun a t hat=>by
   split at hat
   .cases hat;exact L
   .exact HBD.vals a t hat)
  all_goals refine⟨(Fr.of_below (Z9 m)).trans hfin.2,?_⟩
  all_goals rw[i.o]
  all_goals exact⟨rfl,J,c,Q,P,hfin.1⟩
theorem Tryz.infoBool:(prog.info? 4).map (fun i=>(i.zero,i.size,i.bytes))=some (some (.bool false),1,1):=Qm
def Ue(l:List Bool):List Value:=l.map Value.bool
theorem TC{l:List Bool}{b:Bool}:Ue l++[.bool b]=Ue (l++[b]):=by simp[Ue]
def VF(sb:Nat)(kv:Value)(now next count:Nat):Array Value:=#[Qc sb,kv,Qa (now:Int),Qa (next:Int),Qa (count:Int)]
def kO(late:Bool):Obj->Bool
 | .cells _ t _=>t==188 || (t==4&&late)
 |_=>false
def PK(B xb k:Nat)(o:Obj):Prop:=B<=k/\kO (decide (xb+7<=k)) o=true
def PMc(B xb k:Nat)(o:Obj):Prop:=B<=k/\(kO (decide (xb+7<=k)) o || stO o)=true
theorem PMc.st{B xb k:Nat}(h:PSt B k o):PMc B xb k o:=⟨h.1,by rw[h.2,Bool.or_true]⟩
theorem PMc.k{B xb k:Nat}{o:Obj}(h:PK B xb k o):PMc B xb k o:=⟨h.1,by rw[h.2,Bool.true_or]⟩
theorem PK.not{B xb k:Nat}(b:t≠188)(c:t≠4):¬PK B xb k (.cells a t f):=fun h=>by
 have:=h.2;unfold kO at this;simp at this;rcases this with h|h
 .exact b h
 .exact c h.1
theorem PMc.not{B xb k:Nat}(b:t≠188)(c:t≠4)(d:t≠274)(e:t≠52):¬PMc B xb k (.cells a t f):=fun h=>by
 have:=h.2;unfold kO stO at this;simp at this;rcases this with(h|h)|(h|h)
 .exact b h
 .exact c h.1
 .exact d h
 .exact e h
theorem SlT.pm{zs:Qn}(h:SlT w v zs)(hf:Fr (PMc B xb) w w'):SlT w' v zs:=h.fr hf (fun _ _=>PMc.not Qb Qb Qb Qb)
structure MI (w:World) (B xb sb:Nat) (M:Msg) (m:MS) (count:Nat) (kv:Value):Prop where
 bx:B<=xb
 blk:w.heap[xb]?=some (Qe (VF sb kv m.now m.next count) 188)
 st:SAt w B sb M m.st
 stack:w.ownsRow (xb+7) 4 1 kv m.stack.length (Ue m.stack)
 sl:m.stack.length<=8
 nw:m.now<=400
 nx:m.next<=count
 cl:count<=400
 kz:xb+7<=w.heap.size
def MAt(w:World)(B xb sb:Nat)(M:Msg)(m:MS)(count:Nat):Prop:=∃kv,MI w B xb sb M m count kv
theorem MI.below{w w':World}{B xb sb:Nat}{M:Msg}{m:MS}{count:Nat}{kv:Value}(h:MI w B xb sb M m count kv)(hb:Qo w w'):MI w' B xb sb M m count kv:=
 ⟨h.bx,Ze h.blk hb,h.st.below hb,Yc (P:=fun _ _=>False) h.stack (Fr.of_below hb) (fun _ _ h=>h),h.sl,h.nw,h.nx,h.cl,QE h.kz hb.size⟩
theorem MAt.below{w w':World}{B xb b:Nat}{M:Msg}{m:MS}{a:Nat}(h:MAt w B xb b M m a)(c:Qo w w'):MAt w' B xb b M m a:=by
 obtain⟨d,h⟩:=h;exact⟨d,h.below c⟩
theorem MI.st'{sb:Nat}{count:Nat}{kv:Value}(h:MI w B xb sb M m count kv)(hs:SAt w' B sb M s)(hf:Fr (PSt B) w w'):MI w' B xb sb M (stL m s) count kv:=
 ⟨h.bx,hf.block _ _ h.blk (PSt.not Qb Qb),hs,Yc h.stack hf (fun _ _=>PSt.not Qb Qb),h.sl,h.nw,h.nx,h.cl,QE h.kz hf.size⟩
theorem SAt.pk{a:Nat}(h:SAt w B a M s)(c:Fr (PK B xb) w w'):SAt w' B a M s:=by
 obtain⟨d,e,g,f,h⟩:=h;exact⟨d,e,g,f,h.fr c (fun _ _=>PK.not Qb Qb) (fun _ _=>PK.not Qb Qb) (fun _ _=>PK.not Qb Qb) (fun _ _=>PK.not Qb Qb) (fun _ _ _ h=>Bool.false_ne_true h.2) (fun _ b=>by have:=b.1;have:=h.b1;omega)⟩
theorem MI.set{w:World}{B xb c:Nat}{M:Msg}{m:MS}{b:Nat}{f:Value}(h:MI w B xb c M m b f)(o:Nat)(v:Value)(a:MS)(e:Value)(g:(VF c f m.now m.next b).setIfInBounds o v=VF c e a.now a.next b)(l:a.st=m.st)(i:(w.setCell ⟨xb,o,none⟩ v).ownsRow (xb+7) 4 1 e a.stack.length (Ue a.stack))(j:a.stack.length<=8)(k:a.now<=400)(n:a.next<=b):MI (w.setCell ⟨xb,o,none⟩ v) B xb c M a b e/\Fr (PK B xb) w (w.setCell ⟨xb,o,none⟩ v):=by
 have d:Fr (PK B xb) w (w.setCell ⟨xb,o,none⟩ v):=(Fr.refl _ w).set h.blk ⟨h.bx,rfl⟩ o v;refine⟨⟨h.bx,?_,?_,i,j,k,n,h.cl,QE h.kz d.size⟩,d⟩
 .rw[<-g];exact QM h.blk
 .rw[l];exact h.st.pk d
theorem MI.row{a:Value}(h:MI w B xb d M m b a):a.ownBlock≠some xb:=fun e=>by
 obtain⟨_,f,c⟩:=JS h.stack e h.blk;injection c with e1 e2
 exact absurd e2 Qb
theorem Qt7(h:w.ownsRow base e 1 (.slice (some ⟨g,0,none⟩) (n+1) c) (n+1) xs):w.ownsRow base e 1 (.slice (some ⟨g,0,none⟩) n c) n xs.dropLast:=by
 obtain⟨p,a⟩:=h;rcases a with⟨a,_⟩ | ⟨i,b,d,o,j,k,q,l,f,m⟩
 .injection a with a;cases a
 .injection o with hv1 hv2 hv3
  refine⟨by rw[List.length_dropLast];omega,Qr ⟨i,b,d,?_,j,k,by omega,l,f,?_⟩⟩
  .rw[hv1,hv3]
  .rw[<-m,List.dropLast_eq_take,YT,List.take_take];congr 1;have:d.toList.length=b*1:=by simpa using f
   omega
theorem Wh{l:List Bool}:(Ue l).dropLast=Ue l.dropLast:=by simp[Ue,List.map_dropLast]
def QZ(r:Except FZ MS)(B xb sb:Nat)(M:Msg)(count:Nat)(w:World)(e:Ending)(w':World):Prop:=
 Fr (PMc B xb) w w'/\
 match r with
 | .ok m=>e=.returned (.tuple #[])/\MAt w' B xb sb M m count
 | .error f=>KO f w e w'
theorem QZ.ok{r:Except FZ MS}{B xb b:Nat}{M:Msg}{a:Nat}{m:MS}{w w':World}(h:r=.ok m)(c:Fr (PMc B xb) w w')(d:MAt w' B xb b M m a):QZ r B xb b M a w (.returned (.tuple #[])) w':=by
 subst h;exact⟨c,rfl,d⟩
theorem QZ.err{r:Except FZ MS}{a:Nat}{f:FZ}{e:Ending}(h:r=.error f)(b:Fr (PMc B xb) w w')(c:KO f w e w'):QZ r B xb d M a w e w':=by
 subst h;exact⟨b,c⟩
theorem QZ.cases{r:Except FZ MS}{B xb c:Nat}{M:Msg}{a:Nat}{w w':World}{e:Ending}(h:QZ r B xb c M a w e w'):Fr (PMc B xb) w w'/\((∃m,r=.ok m/\e=.returned (.tuple #[])/\MAt w' B xb c M m a)\/∃f,r=.error f/\KO f w e w'):=by
 obtain⟨b,h⟩:=h
 cases r with
 |ok m=>exact⟨b,Qt ⟨m,rfl,h⟩⟩
 |error f=>exact⟨b,Qr ⟨f,rfl,h⟩⟩
theorem KO.from{f:FZ}{e:Ending}(h:KO f w e w')(g:u.heap.size<=w.heap.size):KO f u e w':=by
 obtain⟨b,d,a,c⟩:=h;exact⟨b,I,a,c⟩
theorem QZ.from{r:Except FZ MS}{B xb c:Nat}{M:Msg}{a:Nat}{u w w':World}{e:Ending}(h:QZ r B xb c M a w e w')(b:Fr (PMc B xb) u w):QZ r B xb c M a u e w':=by
 obtain⟨d,h⟩:=h;refine⟨b.trans d,?_⟩
 cases r with
 |ok m=>exact h
 |error f=>exact h.from b.size
theorem Dg{er at_:Int}:KO (er,at_) w (.panicked [{ v:=.iface 125 (Qc w.heap.size),recovered:=false }]) (w.alloc (Qe #[Qa er,Qa at_] 130)):=
 ⟨w.heap.size,Q4 _,rfl,Q0⟩
theorem Ua:Calls prog 168 #[Qc xb,.bool true] w fun e w'=>e=.returned (.tuple #[])/\w'=w:=by
 go_enter func168,ntmps168;go_wp2;go_end0;exact⟨rfl,rfl⟩
theorem Dj(now:Int)(a:w.cell? (Ql xb 2)=some (Qa now)):Calls prog 168 #[Qc xb,.bool false] w fun e w'=>e=.panicked [{ v:=.iface 125 (Qc w.heap.size),recovered:=false }]/\w'=w.alloc (Qe #[Qa 12,Qa now] 130):=by
 go_enter func168,ntmps168;go_wp2_with (go_at_call 103;refine Qu (Yr) ?_);exact⟨rfl,rfl,rfl⟩
def ActsV(w:World)(B:Nat)(v:Value)(l:List (Int×L8)):Prop:=
 w.ownsRow B 52 2 v l.length (ZG l)/\(l=[]->v=.slice none 0 0)
theorem L3:Calls prog 102 #[] w fun e w'=>∃v,e=.returned v/\ActsV w' w.heap.size v [(1,[])]/\Qo w w':=by
 go_enter func102,ntmps102;go_wp2;go_ret;refine⟨_,rfl,⟨?_,fun h=>by cases h⟩,QH _⟩;exact World.ownsRow_lit (e:=52) (size:=2) w #[Qa 1,.string (sA [])] 1 QF (by unfold maxLen;omega) rfl
theorem QzJ(W:World):(binOp .eql 32 Qp Qp).run prog W=.ok (.bool true) W:=Qm
theorem Qxl(W:World)(a:Addr)(n c:Nat):(binOp .eql 32 (.slice (some a) n c) Qp).run prog W=.ok (.bool false) W:=Qm
theorem WY(l:List (Int×L8)):∀u∈ZG l,u.oneCell'=true:=by
 intro u c;unfold ZG at c;obtain⟨a,_,b⟩:=Vq.1 c;simp at b;rcases b with rfl|rfl<;>rfl
theorem S0{met:List (Int×L8)}{d:Value}(l:w.ownsRow base 52 2 d met.length (ZG met))(i:met=[]->d=.slice none 0 0)(H:met.length<=6):Calls prog 212 #[d] w fun e w'=>∃v,e=.returned v/\ActsV w' w.heap.size v met/\Qo w w':=by
 obtain⟨E,r,B,C,D⟩:=ZU Tryz.infoAction;have K:=QzJ;have L:=Qxl;by_cases h0:met=[]
 .subst h0;have x:=i rfl;subst x;go_enter func212,ntmps212;go_wp2;go_ret;exact⟨_,rfl,⟨Z5,fun _=>rfl⟩,QO _ _⟩
 .have y:=Xz.2 h0;obtain⟨g,c,z,G,q,hcells⟩:=Jo l y;subst z;have P:=O hcells;clear hcells l i;go_enter func212,ntmps212
  have n:Hid (∀j u,(ZG met)[j]?=some u->(w.alloc (Qe #[] 52)).cell? ((⟨g,0,none⟩:Addr).add j)=some u):=fun j u s=>by
   rw[J8,Xo (a:=⟨g,j,none⟩) (w:=w) (ZL _ _ _ q)];exact P j u s
  go_wp2_with (at_builtin;refine XM _ rfl _ _ 32 rfl w.heap.size 52 E _ 2 24 underlying32 r B C D rfl Qb _ _ _ rfl (World.ownsRow_made w #[] 0 QF QR rfl) ⟨g,0,none⟩ met.length c (ZG met) rfl (C0 met) n (WY met) (by unfold maxLen;omega) I Qh ?_;intro M N b f _;obtain⟨F,J,A⟩:=Zj b;subst A;have p:=O b;have m:=O (CS (QH _) f Qh (fun k t=>((World.ownsRow_made (e:=52) (size:=2) w #[] 0 QF QR rfl).lt k t).1));clear b f);go_ret;refine⟨_,rfl,⟨?_,fun h=>absurd h h0⟩,m⟩;have:=p.o;rw[J4,GJ]at this;exact this
theorem Qw2{l:Nat}(p:Bool)(h:SAt w B l M s)(g:p=s.disc):Calls prog 169 #[.pointer (some ⟨l,7,none⟩),.bool p] w fun e w'=>∃v,e=.returned v/\ActsV w' w.heap.size v (K1 s)/\Qo w w':=by
 obtain⟨E,F,G,C,d⟩:=h;have D:w.cell? (Ql l 7)=some C:=d.cell 7;have k:=d.mn;have r:=d.met;have z:=d.bd.met;obtain⟨la,A,y⟩:=Zj r;subst y;have c:Hid (K1 s=if s.met=[]/\s.disc=false then [(1,[])]else s.met):=rfl;clear d;by_cases h0:s.met=[]/\s.disc=false
 .rw[Qi h0]at c;rw[h0.2]at g;subst g;have q:((s.met.length:Int)==0)=true:=by rw[h0.1];rfl
  go_enter func169,ntmps169;go_wp2_with (go_at_call 102;refine(L3).mono ?_;rintro e u ⟨v,rfl,a,b⟩;obtain⟨n,t,f⟩:=Zj a.1;subst f;have j:=O a;have i:=O b;clear a b);go_ret;exact⟨_,rfl,by rw[c.o];exact j,i⟩
 .rw[Qg h0]at c;have m:=O (S0 r k z);by_cases hl:s.met=[]
  .have x:s.disc=true:=by cases hh:s.disc with|true=>rfl|false=>exact absurd ⟨hl,hh⟩ h0
   rw[x]at g;subst g;have q:((s.met.length:Int)==0)=true:=by rw[hl];rfl
   clear h0 k hl;go_enter func169,ntmps169;go_wp2_with (go_at_call 212;refine m.mono ?_;rintro e u ⟨v,rfl,a,b⟩;obtain⟨n,t,f⟩:=Zj a.1;subst f;have j:=O a;have i:=O b;clear a b);go_ret;exact⟨_,rfl,by rw[c.o];exact j,i⟩
  .have q:((s.met.length:Int)==0)=false:=by have:=Xz.2 hl;simp;omega
   clear h0 k;go_enter func169,ntmps169;go_wp2_with (go_at_call 212;refine m.mono ?_;rintro e u ⟨v,rfl,a,b⟩;obtain⟨n,t,f⟩:=Zj a.1;subst f;have j:=O a;have i:=O b;clear a b);go_ret;exact⟨_,rfl,by rw[c.o];exact j,i⟩
theorem Tryz.infoActs:(prog.info? 80).map (fun i=>(i.zero,i.size,i.bytes))=some (some (.agg #[Qp,Qp]),2,48):=Qm
theorem Tryz.infoActQ:(prog.info? 52).map (fun i=>(i.zero,i.size,i.bytes))=some (some (.agg #[Qa 0,.string ⟨#[]⟩]),2,24):=Qm
theorem T8(l:List (Int×L8)):∀u∈ZG l,u.oneCell'=true:=by
 intro u b;unfold ZG at b;obtain⟨a,_,h⟩:=Vq.1 b;simp at h;rcases h with rfl|rfl<;>rfl
theorem T1{r:Array Oper}{t:List Oper}{o:Oper}{a:Act}{Q:Exit->Act->World->Prop}(d:o.guard=none)(s x:Operand)
 (m:o.op=.call { callee:=.builtin .append,args:=#[s,x],argTypes:=#[32,32] }) {l:List (Int×L8)} {v:Value} {B:Nat} (n:a.eval s=.slice none 0 0) (p:a.eval x=v) (h:w.ownsRow B 52 2 v l.length (ZG l)) (P:l.length<=1000000)
 (K:∀a' k' w',w'.ownsRow w.heap.size 52 2 (.slice a' l.length k') l.length (ZG l)->Qo w w'->wpList prog r Q t (a.put o.dst (.slice a' l.length k')) w'):wpList prog r Q (o::t) a w:=by
 obtain⟨q,f,F,G,H⟩:=ZU Tryz.infoActQ;rcases h.2 with⟨rfl,z⟩ | ⟨g,y,L,rfl,_⟩
 .have E:=XV z;subst E;exact wpList_append_own_none d s x _ m w.heap.size 52 q 2 underlying32 f Qp 0 [] n (Z5) p (K none 0 w (Z5) (QO _ _))
 .refine XM _ d s x _ m w.heap.size 52 q _ 2 24 underlying32 f F G H rfl Qb Qp 0 [] n (Z5) ⟨g,0,none⟩ l.length y (ZG l) p (by rw[C0]) (fun j u i=>?_) (T8 l) (by unfold maxLen;omega) I QF (fun R w' b C _=>?_)
  .have N:j<l.length*2:=by rw[<-C0];exact(List.getElem?_eq_some_iff.1 i).1
   obtain⟨M,J,c,_,_,A⟩:=Jo h I;injection c with e
   injection e with e
   injection e with e
   subst e;rw[J8];exact A j u i
  .rw[J4,GJ]at b;obtain⟨a',k',c⟩:=Zj b;subst c;exact K a' k' w' b (SG (QO _ _) C QF (fun k D=>nomatch D))
theorem Qx5(w:World)(r t:Value)(b:TypeId):∀j u,[r,t][j]?=some u->(w.alloc (Qe #[r,t] b)).cell? ((⟨w.heap.size,0,none⟩:Addr).add j)=some u:=by
 intro j u a
 match j,a with
 |0,a=>simp at a;subst a;simp[Addr.add]
 |1,a=>simp at a;subst a;simp[Addr.add]
def A1(f:Option FZ):FZ:=f.getD (0,-1)
theorem Qvw{s:World}{az:Nat->Nat}{P:List UL}{aR aS:List Value}{g:List Ky}(hw:WldA d u s az xv mv cv P P aR aS g)(hB:Qo s w)(aP:∀y∈P,∃t:L8,t.length<=600/\prL t=.ok y)(bd:P.length<=N)(a9:g.length<=N)(hN:N<=1100000000000)
 {l:List (Int×L8)} (f:Option FZ) {lv rv:Value} (X:w.ownsRow s.heap.size 52 2 lv l.length (ZG l)) (L:l=[]->lv=.slice none 0 0) (Z:w.ownsRow s.heap.size 52 2 rv l.length (ZG l)) (h7:l.length<=7):Calls prog 30 #[Qc d,lv,Qa (A1 f).1,Qa (A1 f).2,K0 rv f] w fun e w'=>e=.returned (.bool true)/\Jg d u (N+1) w':=by
 obtain⟨la,i,ag⟩:=Zj X;obtain⟨A,B,ar⟩:=Zj Z
 obtain⟨R,C,q,tp,aE,aF,aO,aa,aW⟩:∃R C q tp:Int,(f.getD (0,0)).1=R/\(f.getD (0,0)).2=C/\(A1 f).1=q/\(A1 f).2=tp/\q=R/\(¬R=0->tp=C):=by
  cases f with
  |none=>exact⟨0,0,0,-1,rfl,rfl,rfl,rfl,rfl,fun h=>absurd rfl h⟩
  |some p=>exact⟨p.1,p.2,p.1,p.2,rfl,rfl,rfl,rfl,rfl,fun _=>rfl⟩
 obtain⟨aX,aD⟩:=aW;subst aX;unfold K0;rw[aE,aF,aO,aa,ar,ag];rw[ag]at X L;rw[ar]at Z;obtain⟨H,U⟩:=Q3 (w.alloc (Qe #[.slice A l.length B,Qa q,Qa C] 70));have S:Qo w H:=by rw[U];exact QH _
 have aN:H.heap[w.heap.size]?=some (Qe #[.slice A l.length B,Qa q,Qa C] 70):=by rw[U];exact Q0
 have T:=hB.trans (S.mono hB.size);have aw:=O (YA X S);have ay:=O (YA Z S);have bf:=O hw;have bk:=O T;have bq:=O U;have ax:=O aN;have bs:=O aP;have bl:=O aD;have aT:=O L;obtain⟨M,ap⟩:=Qw (w.heap.size);rw[ap]at ax;have bp:=O ap;have aQ:=T.size;obtain⟨pc,cc,D⟩:=Zj hw.o4;have bh:=O D;have c2:H.cell? (Ql d 2)=some (.slice pc g.length cc):=by rw[<-D];exact Qj (hw.below T).nd 2
 have au:=QI hw.nd;have a2:=Yq au aQ;obtain⟨i0,aY,a3,a4,a5⟩:=ZU Tryz.infoActs;clear hw hB aP X Z L U S aN T ap ag ar aE aF aO aa aD D;go_enter func30,ntmps30;go_wp2_with (at_builtin;rw[<-bq.o,bp.o];refine T1 rfl _ _ rfl rfl rfl ay I ?_);intro m n F Y x;have n2:=QN x c2 a2
 have bj:=O Y;have bg:=O x;clear Y x;have aA:=bk.o.trans (bg.mono aQ);have ad:=YA aw bg;have aB:=YA ay bg;obtain⟨Q,af⟩:∃Q:Nat->Nat,Q=fun k=>if(Value.slice la l.length i).ownBlock=some k then 2+2*g.length else if(Value.slice m l.length n).ownBlock=some k then 3+2*g.length else 1:=⟨_,rfl⟩
 have z:=(bf.o.below aA).paint (s0:=s.heap.size) Q (fun k b=>bf.cu k (Qt b)) au (fun k b=>(bf.o1.lt k b).2) (fun k b=>(bf.o2.lt k b).2) (fun k b=>(bf.o4.lt k b).2);obtain⟨v,V⟩:=Qw (fun k=>if s.heap.size<=k/\k<F.heap.size then Q k else az k);rw[V]at z
 have aJ:∀k,(Value.slice la l.length i).ownBlock=some k->v k=2+2*g.length:=fun k b=>by
  have a:=ad.lt k b;rw[<-V];show(if _ then _ else _)=_
  rw[Qi ⟨a.1,a.2⟩,af];exact Qi b
 have aK:∀k,(Value.slice m l.length n).ownBlock=some k->v k=3+2*g.length:=fun k b=>by
  have a:=bj.o.lt k b;have h2:(Value.slice la l.length i).ownBlock≠some k:=fun e=>by have:=(aw.o.lt k e).2;omega
  rw[<-V];show(if _ then _ else _)=_
  rw[Qi ⟨I,a.2⟩,af];show(if _ then _ else _)=_
  rw[Qg h2,Qi b]
 have aH:Nm v F g.length ⟨.slice la l.length i,.slice m l.length n,l⟩:=⟨⟨U6 ad QR,aJ⟩,⟨U6 bj QR,aK⟩,by show l.length<=_;omega⟩;have E:=z.o4;rw[bh.o]at E;have a0:=QI z.nd;have G:=O (Ze ax bg);have av:=O (Qx5 F (.slice la l.length i) (.slice m l.length n) 80);have bm:=O aH;have bi:=O z;have bo:=O aB;clear aA ad aB af z V aJ aK aH;go_wp2_with (at_builtin;refine Kf _ rfl _ _ 41 rfl (d+1) 80 i0 (.agg #[Qp,Qp]) 2 48 underlying41 aY a3 a4 a5 rfl Qb _ _ _ rfl (E.alloc _) ⟨F.heap.size,0,none⟩ 1 1 [.slice la l.length i,.slice m l.length n] rfl rfl ?c1 ?c2 ?c3 ?c4 ?c5 ?_)
 case c1=>exact av
 case c2=>intro u hu;simp at hu;rcases hu with rfl|rfl<;>rfl
 case c3=>unfold maxLen;omega
 case c4=>omega
 case c5=>simp;omega
 intro v' w5 ak K _ aC;have aL:=Iu E a0 K;have aj:=(aL d (Xp _)).trans bi.nd;obtain⟨p5,m5,c5,rfl⟩:=DN ak;obtain⟨j,J⟩:=Q3 (w5.setCell ⟨d,2,none⟩ (.slice p5 m5 c5));have br:=O J;have aG:(F.alloc (Qe #[.slice la l.length i,.slice m l.length n] 80)).grownBy w5 cv.ownBlock:=by rw[bh.o];exact K
 have ab:=bi.app3 (c:=⟨.slice la l.length i,.slice m l.length n,l⟩) bm aG ak (by rw[bh.o];exact aC);rw[<-J]at ab;have aq:=U6 bo au
 have ao:j.ownsRow (d+1) 52 2 (.slice A l.length B) l.length (ZG l):=by
  rw[J];refine KG ((aq.alloc _).kept K ?_) (Xp _)
  cases hb:(Value.slice A l.length B).ownBlock with
  |none=>exact Qt rfl
  |some k=>exact Qr (fun e2=>VA aq E Qb k hb e2.symm)
 have aM:M≠d:=by
  intro e;have a:=G.o;rw[e,bi.nd]at a;injection a with a
  injection a with _ a
  exact absurd a Qb
 have ah:j.heap[M]?=some (Qe #[.slice A l.length B,Qa q,Qa C] 70):=by
  rw[J,Q' aM,K.block M (by simp;have:=QI G;omega) (fun e=>XG E G Qb e.symm),ZL _ _ _ (QI G)];exact G
 have aI:Nm v j g.length ⟨.slice la l.length i,.slice m l.length n,l⟩:=by
  have:=ab.kc g.length Qh;rw[List.getElem_append_right QF]at this;simpa using this
 have aU:=O (FF (UO.of_owns aI.r.row) (UO.of_owns ao) (LU ao));have aV:Hid (∀W,Qo j W->Jg d u (N+1) W):=fun W hW=>⟨v,xv,mv,_,P,aR,aS,_,ab.below hW,bs,I,by simp;omega⟩
 have bn:=O ah;have a6:=Qj ah 0;have f5:=fun o=>QQ aj o
 have t5:w5.cell? (Ql d 2)=some (.slice pc g.length cc):=by rw[<-bh.o];exact Qj aj 2
 clear ak K aG E aC aL aj J ab aq ao ah aI av n2 aM c2;go_wp2_with (rw[<-br.o]);refine aU.mono ?_;rintro e w7 ⟨rfl,ae⟩;have ai:=Ze bn ae;have a7:=Qj ai 1;have a8:=Qj ai 2;have ac:=O (aV w7 ae);clear ae ai;by_cases ht0:q=0
 .subst ht0;by_cases hl0:l=[]
  .have L:=aT hl0;subst hl0;injection L with a h2 h3
   subst a h3;clear h2;have bb:∀W,(binOp .eql 32 Qp Qp).run prog W=.ok (.bool true) W:=fun W=>Qm
   go_wp2;go_ret;exact⟨rfl,ac⟩
  .have aZ:¬l.length=0:=fun e=>hl0 (XV e)
   have ba:=Nat.pos_of_ne_zero aZ;clear hl0;go_wp2;go_ret;refine⟨?_,ac⟩
   first|rfl|simp|(trace_state;rfl)
 .have bc:(q==0)=false:=by simpa using ht0
  have aa:=bl ht0;subst aa;clear ht0;go_wp2;go_ret;refine⟨?_,ac⟩
  first|rfl|simp|(trace_state;rfl)
def Cs(wb:Nat)(u:World)(col:Nat->Nat)(xv mv cv:Value)(ys:List UL)(vs1 vs2:List Value)(n:Nat)(w w':World):Prop:=(∃cs,WldA wb u w' col xv mv cv ys ys vs1 vs2 cs/\cs.length=n)/\w.heap.size<=w'.heap.size/\∀k,col k=1->k<w.heap.size->w'.heap[k]?=w.heap[k]?
theorem Io:∀(l:List (Int×L8)) (i:Nat) (a:Int) (s:L8),((ZG l).set (i*2) (Qa a)).set (i*2+1) (Qf s)=ZG (l.set i (a,s))
 | [],i,a,s=>rfl
 |x::r,0,a,s=>rfl
 |x::r,i+1,a,s=>by
  have b:(i+1)*2=i*2+1+1:=I
  rw[b];exact ZI (fun t=>Value.int .i64 x.1 :: Qf x.2::t) (Io r i a s)
theorem JO.wr(h:JO X w (Qs g l.length c) l)(i:Nat)(a:Int)(s:L8):JO X ((w.setCell ⟨g,i*2,none⟩ (Qa a)).setCell ⟨g,i*2+1,none⟩ (Qf s)) (Qs g l.length c) (l.set i (a,s)):=by
 obtain⟨b,_⟩:=h.row.stored (i*2) (Qa a);obtain⟨d,_⟩:=b.stored (i*2+1) (Qf s);refine⟨?_,h.xr⟩;rw[UW,<-Io];exact d
theorem MN{cs:Array Value}(h:w.heap[g]?=some (Qe cs t))(hp:∀o,P g o){x y:Value}:Fr P w ((w.setCell ⟨g,i,none⟩ x).setCell ⟨g,j,none⟩ y):=((Fr.refl P w).set h (hp _) i x).set (QM h) (hp _) j y
theorem BO{k:Nat}(c:Fr P w w')(d:k<w.heap.size)(e:∀o:Obj,¬P k o):w'.heap[k]?=w.heap[k]?:=by
 obtain⟨a,b⟩:∃a,w.heap[k]?=some a:=⟨w.heap[k],GB d⟩;rw[b];exact c.block k a b (e a)
theorem TF{A:Nat}(x:OpD){v:Nat->Nat}{ys:List UL}{ar au:List Value}{d:List Ky}(hw:WldA A u w v xv mv cv ys ys ar au d)(bn:d.length<=N)(hN:N<=1100000000000)(hx:GL x)(hs:x.s.length<=65536)(hh:∃a n c,x.hv=.slice a n c)(Z:∃a n c,x.cv=.slice a n c):Calls prog 24 #[Qc A,opV x] w fun e w'=>e=.returned (.tuple #[])/\Cs A u v xv mv cv ys ar au d.length w w':=by
 obtain⟨a1,n1,c1,aH⟩:=hh;obtain⟨a2,n2,aw,aG⟩:=Z;obtain⟨aX,aY⟩:=hx.a;obtain⟨aZ,a0⟩:=hx.b;have aQ:Hid (opV x=.agg #[Qa x.kind,Qa x.a,Qa x.b,Qf x.s,Qf x.fr,Qf x.tt,Qa x.sz,.slice a1 n1 c1,.slice a2 n2 aw]):=by show _=_;unfold opV;rw[aH,aG]
 rw[aQ.o];obtain⟨q,U⟩:=Q3 (w.alloc (Qe #[Qa x.kind,Qa x.a,Qa x.b,Qf x.s,Qf x.fr,Qf x.tt,Qa x.sz,.slice a1 n1 c1,.slice a2 n2 aw] 47));have bB:=O U;have F:Qo w q:=by rw[U];exact QH _
 have S:q.heap[w.heap.size]?=some (Qe #[Qa x.kind,Qa x.a,Qa x.b,Qf x.s,Qf x.fr,Qf x.tt,Qa x.sz,.slice a1 n1 c1,.slice a2 n2 aw] 47):=by rw[U];exact Q0
 have D:=hw.below F;have bC:=O D;obtain⟨m,aa⟩:=Qw (w.heap.size);rw[aa]at S;have bz:=O aa;have bJ:=O S;have aL:v m=1:=hw.cu m (Qt I);have bK:=O aL;obtain⟨pc,cc,aj⟩:=Zj D.o4;have e3:=XU D.nd;have e2:q.cell? (Ql A 2)=some (.slice pc d.length cc):=by rw[<-aj];exact Qj D.nd 2
 have bF:=O aj;have bg:=QI D.nd;have q0:=Zs S;have q1:=Q9 S;have q2:=Xx S;have q3:=XU S;have av:Hid (∀W,Qo q W->Cs A u v xv mv cv ys ar au d.length w W):=fun W hW=>⟨⟨d,D.below hW,rfl⟩,QE F.size hW.size,fun k _ y=>(F.trans (hW.mono F.size)).block k y⟩
 have bv:=O F;clear hw D aH aG U F S aa aL aj hx;go_enter func24,ntmps24;by_cases R:x.kind=6/\0<d.length;rotate_left
 .by_cases y:x.kind=6
  .have ah:d=[]:=XV I;subst ah;have k6:(x.kind==6)=true:=by rw[y];rfl
   have k7:(x.kind==7)=false:=by rw[y];rfl
   clear y R;go_wp2_with (first|(rw[<-bB.o,bz.o];skip))
   all_goals go_end0
   all_goals exact⟨rfl,av _ (QO _ _)⟩
  .have k6:(x.kind==6)=false:=by simpa using y
   clear y R;cases k7:(x.kind==7)
   all_goals go_wp2_with (first|(rw[<-bB.o,bz.o];skip))
   all_goals go_end0
   all_goals exact⟨rfl,av _ (QO _ _)⟩
 .obtain⟨R,ah⟩:=R;have k6:(x.kind==6)=true:=by rw[R];rfl
  have k7:(x.kind==7)=false:=by rw[R];rfl
  obtain⟨j,hj⟩:=Qw (pickL x.a d.length);have ap:j<d.length:=by rw[<-hj];exact Er ah
  have aS:Hid (∀W,Calls prog 31 #[Qa x.a,Qa d.length] W fun e w'=>e=.returned (Qa j)/\w'=W):=fun W=>by rw[<-hj];exact DD aX aY ah I
  clear R hj;obtain⟨g,c',hv,hg,bs,P,h2⟩:=bC.code ap;rw[bF.o]at hv;injection hv with hv _ hcc
  subst hv;have aq:=bC.kc j ap;obtain⟨r1,r2,hr⟩:=B4 aq.r;obtain⟨t1,t2,ht⟩:=B4 aq.t;have HR:=O hr;have HT:=O ht;rw[hr]at P;rw[ht]at h2;have aM:=aq.b;obtain⟨L,X⟩:=Qw (d[j].l.length);rw[X]at P h2 aM;have bx:=O X;clear aq hr ht hcc X;go_wp2_with (first|(rw[<-bB.o,bz.o];skip));go_quiet (first|(go_at_call 31;refine Kg (aS _)));generalize hWW:q.drewN _=V;have G:∀a:Addr,V.cell? a=q.cell? a:=fun a=>by rw[<-hWW];rfl
  have M:Hid (Qo q V):=by rw[<-hWW];exact⟨rfl,rfl,rfl,Q4 _,fun _ _=>rfl⟩
  have d2:=(G _).trans e2;have d3:=(G _).trans e3;have d0:=(G _).trans P;have d1:=(G _).trans h2;have p0:=(G _).trans q0;have p1:=(G _).trans q1;have p2:=(G _).trans q2;have p3:=(G _).trans q3;have ab:=O (bC.o.below M);have bl:=O (Ze bJ M);clear hWW G e3 P h2 q0 q1 q2 q3 e2;by_cases hnp0:0<L;rotate_left
  .have br:L=0:=I
   go_wp2;go_end0;exact⟨rfl,av _ M⟩
  .obtain⟨p,aC⟩:=Qw (pickL x.b L);have a6:p<L:=by rw[<-aC];exact Er hnp0
   have aR:Hid (∀W,Calls prog 31 #[Qa x.b,Qa L] W fun e w'=>e=.returned (Qa p)/\w'=W):=fun W=>by rw[<-aC];exact DD aZ a0 hnp0 I
   clear aC;go_wp2_with fail;refine Qv (aR _) ?_;rintro z aW;subst aW;have C:=ab.kc j ap;have bh:A<z.heap.size:=Yq bg M.size;obtain⟨f,cr,K,_,bp,az⟩:=Jo C.r.row (by rw[bx.o];exact hnp0);obtain⟨i,E,Y,_,aB,aA⟩:=Jo C.t.row (by rw[bx.o];exact hnp0);have Q:v f=2+2*j:=C.r.xr f (by rw[K];rfl);have ai:v i=3+2*j:=C.t.xr i (by rw[Y];rfl);have a7:p<d[j].l.length:=by rw[bx.o];exact a6
   obtain⟨ax,ay⟩:=V9 p a7;have y0:=az _ _ ax;have y1:=az _ _ ay;have z0:=aA _ _ ax;have z1:=aA _ _ ay;have e1:r1=some ⟨f,0,none⟩/\r2=cr:=by rw[HR.o]at K;injection K with a _ b;exact⟨a,b⟩
   have e2:t1=some ⟨i,0,none⟩/\t2=E:=by rw[HT.o]at Y;injection Y with a _ b;exact⟨a,b⟩
   obtain⟨rfl,rfl⟩:=e1;obtain⟨rfl,rfl⟩:=e2;have a3:∀o,z.frozen? ⟨f,o,none⟩=false:=World.ownsRow.frozenAt (n:=d[j].l.length) (by have q:=C.r.row;rw[K]at q;exact q);have bf:v A=1:=ab.cu A (Qr QF);have a4:v g=1:=ab.k4 g (by rw[bF.o];rfl);have a9:=bK.o;have n1:f≠A:=fun e=>by rw[e]at Q;omega
   have n2:f≠g:=fun e=>by rw[e]at Q;omega
   have n3:f≠m:=fun e=>by rw[e]at Q;omega
   have n4:f≠i:=fun e=>by rw[e]at Q;omega
   have n7:i≠m:=fun e=>by rw[e]at ai;omega
   have m1:A≠f:=n1.symm;have m2:g≠f:=n2.symm;have m3:m≠f:=n3.symm;have m4:i≠f:=n4.symm;have bw:=O C;have bA:=O K;have bG:=O Y;have bD:=O Q;have bE:=O ai;obtain⟨o0,aJ⟩:=Qw (Qa d[j].l[p].1);obtain⟨o1,aK⟩:=Qw (Value.string (sA d[j].l[p].2));rw[aJ]at y0 z0;rw[aK]at y1 z1;clear C K Y Q ai bf a4 a9 ax ay az aA aJ aK;go_wp2_with fail;go_region
   have ae:∃E ty,z.heap[f]?=some (Qe E ty):=by
    obtain⟨E,Z⟩:=Hx bw.r.row (k:=f) (by rw[bA.o];rfl);exact⟨E,_,Z⟩
   have af:∃E ty,z.heap[i]?=some (Qe E ty):=by
    obtain⟨E,Z⟩:=Hx bw.t.row (k:=i) (by rw[bG.o];rfl);exact⟨E,_,Z⟩
   obtain⟨B,ac⟩:=Q3 ((z.setCell ⟨f,p*2,none⟩ (Qa x.a)).setCell ⟨f,p*2+1,none⟩ (Qf x.s));rw[<-ac];obtain⟨bm,bt,ae⟩:=ae;obtain⟨aV,bi,af⟩:=af;have ak:Fr (fun k _=>k=f) z B:=by rw[ac];exact MN ae (fun _=>rfl)
   have aF:JO (fun k=>v k=2+2*j) B d[j].r (d[j].l.set p (x.a,x.s)):=by
    rw[ac,bA.o];have:=bw.r;rw[bA.o]at this;exact this.wr p x.a x.s
   have ag:∀k,k≠f->k<z.heap.size->B.heap[k]?=z.heap[k]?:=fun k y T=>BO ak T (fun _=>y)
   have J:∀k,k≠f->k<z.heap.size->∀o,B.cell? ⟨k,o,none⟩=z.cell? ⟨k,o,none⟩:=fun k y T o=>Xo (a:=⟨k,o,none⟩) (ag k y T)
   have w2:=(J A m1 bh _).trans d2;have a5:g<z.heap.size:=QX d1;have aD:m<z.heap.size:=QX p1;have w1:=(J g m2 a5 _).trans d1;have x0:=(J m m3 aD _).trans p0;have x1:=(J m m3 aD _).trans p1;have x3:=(J m m3 aD _).trans p3;have bj:=(J i m4 aB _).trans z0;have bk:=(J i m4 aB _).trans z1;have aE:B.heap[i]?=some (Qe aV bi):=(ag i m4 aB).trans af;have bo:∀o,B.frozen? ⟨i,o,none⟩=false:=fun o=>QQ aE o
   have bI:=O ak;have bM:=O aF;have bL:=O aE;have bH:=O ag;clear d0 d1 d2 d3 p0 p1 p2 p3 y0 y1 z0 z1 a3 ac ae af ak aF ag J aE;go_wp2_with fail;go_region;obtain⟨H,ad⟩:=Q3 ((B.setCell ⟨i,p*2,none⟩ (Qa x.a)).setCell ⟨i,p*2+1,none⟩ (Qf x.s));rw[<-ad];have ao:Fr (fun k _=>k=i) B H:=by rw[ad];exact MN bL (fun _=>rfl)
   have hf:Fr (fun k _=>v k=2+2*j\/v k=3+2*j) z H:=(bI.mono (fun k _ e=>Qt (by rw[e];exact bD))).trans (ao.mono (fun k _ e=>Qr (by rw[e];exact bE)));have aP:JO (fun k=>v k=2+2*j) H d[j].r (d[j].l.set p (x.a,x.s)):=bM.o.keep (fun k y T=>BO ao T (fun _ e=>by have a8:v k=2+2*j:=y;have e':k=i:=e;have:=bE.o;rw[<-e']at this;omega))
   have aN:JO (fun k=>v k=3+2*j) H d[j].t (d[j].l.set p (x.a,x.s)):=by
    have P:=bw.t.keep (w':=B) (fun k y T=>bH k (fun e=>by have a8:v k=3+2*j:=y;have:=bD.o;rw[<-e]at this;omega) T);rw[bG.o]at P ⊢;rw[ad];exact P.wr p x.a x.s
   have aO:=ab.wrote ap hf aP aN (by rw[UW,bx.o];exact aM);have aT:Hid (Cs A u v xv mv cv ys ar au d.length w H):=⟨⟨_,aO,by rw[UW]⟩,QE (QE bv.size M.size) hf.size,fun k bq aI=>by rw[BO hf (Yq (Yq aI bv.size) M.size) (fun _ h=>by rcases h with h|h<;>omega)];exact(bv.o.trans (M.mono bv.size)).block k aI⟩;have bu:H.cell? (Ql m 0)=some (Qa x.kind):=(Xo (a:=⟨m,0,none⟩) (BO ao (QX x0) (fun _ e=>n7 (by have e':m=i:=e;exact e'.symm)))).trans x0;clear ad ao hf aP aN aO w1 w2 x0 x1 x3 bj bk;go_wp2;go_end0;obtain⟨⟨aU,ba,bb⟩,bc,bd⟩:=aT.o;exact⟨rfl,⟨aU,ba.below ⟨rfl,rfl,rfl,Q4 _,fun _ _=>rfl⟩,bb⟩,bc,bd⟩
theorem Kk{now:Int}(a:w.cell? (Ql xb 2)=some (Qa now)):Calls prog 168 #[Qc xb,.bool false] w fun e w'=>KO (12,now) w e w'/\Qo w w':=
 (Dj (xb:=xb) now (w:=w) a).mono fun e w' h=>by
   obtain⟨rfl,rfl⟩:=h;exact⟨Dg,QH _⟩
theorem Pi{x:Bool}:∀u∈[Value.bool x],u.oneCell'=true:=by
 intro u a;simp at a;subst a;rfl
theorem NU(v:Bool){u:Nat}(h:MAt w B xb u M m n):Calls prog 199 #[Qc xb,.bool v] w (QZ (JM v m) B xb u M n w):=by
 obtain⟨Y,b⟩:=h;have Z:=O b;obtain⟨s,t,H⟩:=Zj b.stack;subst H;have D:=Q9 b.blk;have E:=Xx b.blk;have A:=QI b.blk;have X:=b.sl;have f:=b.bx;have J:=b.kz;obtain⟨R,G,N,P,Q⟩:=ZU Tryz.infoBool;clear b;by_cases hlt:m.stack.length<8
 .have K:(m.stack.length:Int)<8:=I
  have l:Hid (JM v m=.ok ⟨m.st,m.stack++[v],m.now,m.next⟩):=by show _=_;unfold JM;rw[Qi hlt]
  have i:=Z.row;have aa:=O i;clear i;go_enter func199,ntmps199;go_wp2_with (first|(go_at_call 168;refine Qv (Ua) ?_;rintro T z;rw[z];clear z)|(at_builtin;refine XM _ rfl _ _ 106 rfl (xb+7) 4 R _ 1 1 underlying106 G N P Q rfl Qb _ _ _ rfl (Z.stack.alloc _) ⟨w.heap.size,0,none⟩ 1 1 [.bool v] rfl rfl (V2 _ _ _) (Pi) (by unfold maxLen;omega) I (by simp;omega) ?_;intro c w5 q g _;obtain⟨C,S,r⟩:=Zj q;subst r;have x:=O q;have HG5:=O g;have U:w5.cell? (Ql xb 1)=some (.slice s m.stack.length t):=g.cell (a:=⟨xb,1,none⟩) ((Xo (a:=⟨xb,1,none⟩) (w:=w) (ZL _ _ _ A)).trans D) (fun e=>aa e.symm);have W:∀j,w5.frozen? ⟨xb,j,none⟩=false:=fun j=>(World.frozen?_of_block (a:=⟨xb,j,none⟩) (w:=w) ((g.block xb (by simp;omega) (fun e=>aa e.symm)).trans (ZL _ _ _ A))).trans (QQ Z.blk j);clear q g));go_end0
  have hf5:Fr (PK B xb) w w5:=((Fr.refl _ w).alloc _).grown HG5 (fun k o e ho=>by
   obtain⟨V,F,p⟩:=JS (Z.stack.alloc _) e ho;subst p
   exact ⟨I,by unfold kO;simp;omega⟩)
  have d:w5.heap[xb]?=some (Qe (VF u (.slice s m.stack.length t) m.now m.next n) 188):=by
   rw[HG5.o.block xb (by simp;omega) (fun e=>aa e.symm)];exact QJ Z.blk
  obtain⟨c,L⟩:=Q3 (Value.slice C (m.stack.length+1) S);rw[<-L]at x ⊢;have y:w5.ownsRow (xb+7) 4 1 c (m.stack++[v]).length (Ue (m.stack++[v])):=by rw[Qz,<-TC];exact x
  have r:c.ownBlock≠some xb:=fun e=>by
   obtain⟨_,F,p⟩:=JS y e d;injection p with e1 e2
   exact absurd e2 Qb
  refine QZ.ok l ((hf5.mono (fun _ _=>PMc.k)).set d (PMc.k ⟨f,rfl⟩) 1 _) ⟨c,f,?_,?_,GQ y r,by simp;omega,Z.nw,Z.nx,Z.cl,QE J ((hf5.set d ⟨f,rfl⟩ 1 c).size)⟩
  .exact QM d
  .exact Z.o.st.pk (hf5.set d ⟨f,rfl⟩ 1 _)
 .have K:¬(m.stack.length:Int)<8:=I
  have l:Hid (JM v m=.error (12,(m.now:Int))):=by show _=_;unfold JM;rw[Qg hlt]
  go_enter func199,ntmps199;go_wp2_with (first|(go_at_call 168;refine Qu (Dj _ E) ?_));exact⟨rfl,QZ.err l ((Fr.refl _ _).alloc _) (Dg)⟩
theorem I1{B xb k:Nat}(h:MAt w B xb k M m d)(f:m.stack=[]):Calls prog 200 #[Qc xb] w fun e w'=>KO (12,(m.now:Int)) w e w'/\Qo w w':=by
 obtain⟨l,a⟩:=h;obtain⟨i,j,g⟩:=Zj a.stack;subst g;have b:=Q9 a.blk;have c:=Xx a.blk;rw[f]at b;clear a;go_enter func200,ntmps200;go_wp2_with (first|(go_at_call 168;refine Qu (Dj _ c) ?_));exact⟨rfl,Dg,QH _⟩
theorem LG{p:Nat}(h:MAt w B xb p M m i)(q:m.stack≠[]):Calls prog 200 #[Qc xb] w fun e w'=>e=.returned (.bool (topL m))/\MAt w' B xb p M (KV m) i/\Fr (PMc B xb) w w':=by
 obtain⟨N,a⟩:=h;have P:=O a;have K:=Xz.2 q;obtain⟨n,f⟩:∃n,m.stack.length=n+1:=⟨m.stack.length-1,I⟩;have d:=a.stack;rw[f]at d;obtain⟨g,b,r,A,F,hcells⟩:=Jo d I;subst r;have u:=Q9 a.blk
 have ht:w.cell? ⟨g,n,none⟩=some (.bool (topL m)):=hcells n _ (by
  unfold Ue topL;rw[Ns,List.getLastD_eq_getLast?,List.getLast?_eq_getElem?,f,Nat.add_sub_cancel];rw[Zi (show n<m.stack.length by omega)]
  rfl)
 have E:=QQ a.blk;have L:=a.sl;have Q:=O d
 have C:n+1<=b:=by
  rcases d.2 with⟨c,_⟩ | ⟨y,v,x,c,_,_,z,_⟩
  .injection c with c;cases c
  .injection c with h3 h4 h5;omega
 have D:(n:Int)<=(b:Int):=I
 have G:(0:Int)<=(n:Int):=I
 have H:(n:Int)<(n:Int)+1:=I
 have J:(0:Int)<(n:Int)+1:=I
 clear a d hcells;go_enter func200,ntmps200;go_wp2_with (first|(go_at_call 168;refine Qv (Ua) ?_;rintro w' l;rw[l];clear l));go_ret
 have t:w.ownsRow (xb+7) 4 1 (Qs g n b) (KV m).stack.length (Ue (KV m).stack):=by
  have:=Qt7 Q;rw[Wh]at this;show w.ownsRow (xb+7) 4 1 _ m.stack.dropLast.length (Ue m.stack.dropLast)
  rw[List.length_dropLast,f,Nat.add_sub_cancel];exact this
 have s:(Value.slice (some ⟨g,0,none⟩) n b).ownBlock≠some xb:=P.row;have j:=P.o.set 1 (Qs g n b) (KV m) (Qs g n b) rfl rfl (GQ t s) (by show m.stack.dropLast.length<=8;rw[List.length_dropLast];omega) P.nw P.nx;exact⟨rfl,⟨_,j.1⟩,j.2.mono (fun _ _=>PMc.k)⟩
theorem Qyc{a:Nat}(h:MAt w B xb b M m a):Calls prog 200 #[Qc xb] w fun e w'=>(m.stack=[]/\KO (12,(m.now:Int)) w e w'/\Qo w w')\/(m.stack≠[]/\e=.returned (.bool (topL m))/\MAt w' B xb b M (KV m) a/\Fr (PMc B xb) w w'):=by
 by_cases h0:m.stack=[]
 .exact(I1 h h0).mono fun e w' h=>Qt ⟨h0,h⟩
 .exact(LG h h0).mono fun e w' h=>Qr ⟨h0,h⟩
theorem Bb(n:Int){f:Nat}{a:Nat}(h:MAt w B xb f M m a):Calls prog 201 #[Qc xb,Qa n] w fun e w'=>e=.returned (.bool (Un a m n))/\Qo w w':=by
 obtain⟨p,c⟩:=h;have g:=XU c.blk;have i:=YF c.blk;have l:=c.nx;have j:=c.cl;have b:Hid (Un a m n=(decide (0<=n)&&decide (n<=(a:Int)-m.next))):=rfl;have k:IntKind.i64.wrap ((a:Int)-(m.next:Int))=(a:Int)-(m.next:Int):=by rw[IntKind.wrap_i64];omega
 clear c;by_cases h0:0<=n
 .have d:decide (0<=n)=true:=QU h0;rw[d]at b;by_cases h1:n<=(a:Int)-m.next
  .rw[QU h1]at b;go_enter func201,ntmps201;go_wp2_with fail;go_quiet (fail)
   all_goals go_wp2
   all_goals go_ret
   all_goals exact⟨Zf (by rw[b.o];simp[h1]),V4 (QO _ _)⟩
  .rw[QB h1]at b;go_enter func201,ntmps201;go_wp2_with fail;go_quiet (fail)
   all_goals go_wp2
   all_goals go_ret
   all_goals exact⟨Zf (by rw[b.o];simp[h1]),V4 (QO _ _)⟩
 .have d:decide (0<=n)=false:=QB h0;rw[d]at b;go_enter func201,ntmps201;go_wp2_with fail;go_quiet (fail)
  all_goals go_wp2
  all_goals go_ret
  all_goals exact⟨Zf (by rw[b.o];rfl),V4 (QO _ _)⟩
end
end Go.Proofs.YtgnkjijocdmniaaGreatDoor
