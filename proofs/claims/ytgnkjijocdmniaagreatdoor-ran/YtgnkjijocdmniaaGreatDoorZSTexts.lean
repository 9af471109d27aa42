import Derived.Deep.AppendLies
import Derived.Test.YtgnkjijocdmniaaGreatDoorZNext
namespace Go.Proofs.YtgnkjijocdmniaaGreatDoor
set_option linter.all false
set_option maxRecDepth 100000
set_option maxHeartbeats 4000000
open Go.Proofs.Tryz
open Go.RowKit
variable{B base c i j k m mb n sb size:Nat}{M:Msg}{P:Nat->Obj->Prop}{a b:List (Nat×UInt8)}{acc x y:L8}{d:Int}{e t:TypeId}{f:L8->Option Value}{hv mv tv v:Value}{l:List (Int×L8)}{la:Option Addr}{o:Obj}{s:SS}{u w w':World}{xs:List Value}{zs:Qn}
structure Fr (P:Nat->Obj->Prop) (w w':World):Prop where
 os:w'.os=w.os
 tape:w'.tape=w.tape
 output:w'.output=w.output
 size:w.heap.size<=w'.heap.size
 block:∀k o,w.heap[k]?=some o->¬P k o->w'.heap[k]?=some o
theorem Fr.refl(P:Nat->Obj->Prop)(w:World):Fr P w w:=⟨rfl,rfl,rfl,Q4 _,fun _ _ h _=>h⟩
theorem Fr.trans{P:Nat->Obj->Prop}{u v w:World}(h:Fr P u v)(k:Fr P v w):Fr P u w:=
 ⟨k.os.trans h.os,k.tape.trans h.tape,k.output.trans h.output,QE h.size k.size,fun i o hi hn=>k.block i o (h.block i o hi hn) hn⟩
theorem Fr.mono{Q:Nat->Obj->Prop}{v:World}(h:Fr P u v)(hq:∀k o,P k o->Q k o):Fr Q u v:=
 ⟨h.os,h.tape,h.output,h.size,fun i o hi hn=>h.block i o hi (fun hp=>hn (hq _ _ hp))⟩
theorem Fr.of_below(h:Qo w w'):Fr P w w':=
 ⟨h.os,h.tape,h.output,h.size,fun k o hk _=>Ze hk h⟩
theorem GB:type_of%@Array.getElem?_eq_getElem:=@Array.getElem?_eq_getElem
theorem Fr.below(h:Fr P w w')(hB:∀k o,P k o->B<=k)(a:B<=w.heap.size):Below B w w':=
 ⟨h.os,h.tape,h.output,h.size,fun k hk=>by
  have hl:k<w.heap.size:=I
  rw[GB hl]
  exact h.block k _ (GB hl) (fun hp=>by have:=hB _ _ hp;omega)⟩
theorem Fr.set{b:Nat}(h:Fr P u w)(a:w.heap[b]?=some o)(c:P b o)(j:Nat)(v:Value):Fr P u (w.setCell ⟨b,j,none⟩ v):=
 h.trans ⟨rfl,rfl,rfl,by simp [World.setCell],fun k o' hk hn=>by
  by_cases e:k=b
  .subst e;rw[a]at hk;cases hk;exact absurd c hn
  .rw [Q' e];exact hk⟩
theorem Fr.alloc{P:Nat->Obj->Prop}{u w:World}(h:Fr P u w)(o:Obj):Fr P u (w.alloc o):=
 h.trans ⟨rfl,rfl,rfl,Qh,fun k o' hk _=>QJ hk⟩
theorem Fr.drew{P:Nat->Obj->Prop}{u w:World}(h:Fr P u w):Fr P u w.drew:=⟨h.os,h.tape,h.output,h.size,h.block⟩
theorem Fr.grown{a:Option Nat}(h:Fr P u w)(hg:w.grownBy w' a)(hp:∀k o,a=some k->w.heap[k]?=some o->P k o):Fr P u w':=
 h.trans ⟨hg.os,hg.tape,hg.output,hg.size,fun k o hk hn=>by
  rw [hg.block k (QI hk) (fun e=>hn (hp k o e.symm hk))];exact hk⟩
def stO:Obj->Bool
 | .cells _ t _=>t==274 || t==52
 | .map _ _=>true
 |_=>false
def PSt(B k:Nat)(o:Obj):Prop:=B<=k/\stO o=true
theorem PSt.not{a:Array Value}{f:Nat×Nat}(b:t≠274)(c:t≠52):¬PSt B k (.cells a t f):=fun h=>by
 have:=h.2;unfold stO at this;simp at this;rcases this with h|h
 .exact b h
 .exact c h
def No(w:World)(g:Nat)(zs:Qn):Prop:=
 ∃cs,w.heap[g]?=some (Qe cs 9)/\∀j,j<zs.length->cs[j]?=some (Qf (zs.getD j []))
theorem No.at{g:Nat}(h:No w g zs):ZQ w g zs:=by
 obtain⟨d,a,b⟩:=h;intro j c;rw[Qj a];exact b j c
def SlT(w:World)(v:Value)(zs:Qn):Prop:=
 (v=.slice none 0 0/\zs=[])\/∃g c,v=Qs g zs.length c/\No w g zs
theorem SlT.fr(h:SlT w v zs)(d:Fr P w w')(e:∀k cs,¬P k (Qe cs 9)):SlT w' v zs:=by
 rcases h with h | ⟨g,c,f,cs,a,b⟩
 .exact Qt h
 .exact Qr ⟨g,c,f,cs,d.block g _ a (e _ _),b⟩
theorem SlT.below(h:SlT w v zs)(hf:Qo w w'):SlT w' v zs:=h.fr (P:=fun _ _=>False) (Fr.of_below hf) (fun _ _ h=>h)
theorem SlT.len(h:SlT w v zs):∃a c,v=.slice a zs.length c:=by
 rcases h with⟨h,rfl⟩ | ⟨g,c,h,_⟩
 .exact⟨none,0,h⟩
 .exact⟨_,_,h⟩
theorem QuX(a:j<zs.length):(QW zs)[j]?=some (Qf (zs.getD j [])):=by
 simp[QW,Zi a,Zv]
theorem SlT.of_owns{xs:Qn}(h:w.ownsRow base 9 1 v n (QW xs))(k:n=xs.length):SlT w v xs:=by
 subst k;obtain⟨o,a⟩:=h;rcases a with⟨a,e⟩ | ⟨g,c,d,m,q,f,p,_,r,l⟩
 .exact Qt ⟨a,XV e⟩
 .refine Qr ⟨g,c,m,d,f,fun j i=>?_⟩;have b:=QuX i;rw[<-l]at b;rw[List.getElem?_take_of_lt I]at b;rw[<-b];simp
theorem No.of_owns{w:World}{base g n c:Nat}{xs:Qn}(h:w.ownsRow base 9 1 (Qs g n c) n (QW xs)):No w g xs:=by
 have d:n=xs.length:=by have:=h.1;rw[SJ]at this;omega
 rcases SlT.of_owns h d with⟨a,_⟩ | ⟨f,e,a,b⟩
 .injection a with a;cases a
 .injection a with h3 h4 h5
  injection h3 with h3
  injection h3 with h6
  subst h6;exact b
def Jj(w:World)(hv:Value)(hs:List (L8×L8)):Prop:=
 (hv=.slice none 0 0/\hs=[])\/∃g c cs,hv=Qs g hs.length c/\w.heap[g]?=some (Qe cs 50)/\
   ∀j (hj:j<hs.length),cs[j*2]?=some (.string (sA hs[j].1))/\cs[j*2+1]?=some (.string (sA hs[j].2))
theorem Jj.fr{a:List (L8×L8)}(h:Jj w v a)(e:Fr P w w')(f:∀k cs,¬P k (Qe cs 50)):Jj w' v a:=by
 rcases h with h | ⟨g,c,cs,i,b,d⟩
 .exact Qt h
 .exact Qr ⟨g,c,cs,i,e.block g _ b (f _ _),d⟩
theorem Jj.len{b:List (L8×L8)}(h:Jj w v b):∃a c,v=.slice a b.length c:=by
 rcases h with⟨h,rfl⟩ | ⟨g,c,d,h,_⟩
 .exact⟨none,0,h⟩
 .exact⟨_,_,h⟩
theorem Jj.cells{a:List (L8×L8)}(h:Jj w v a)(j:Nat)(d:j<a.length):∃g c,v=Qs g a.length c/\g<w.heap.size/\w.cell? ⟨g,j*2,none⟩=some (.string (sA a[j].1))/\w.cell? ⟨g,j*2+1,none⟩=some (.string (sA a[j].2)):=by
 rcases h with⟨_,rfl⟩ | ⟨g,c,f,h,b,e⟩
 .exact absurd d (XA _)
 .exact⟨g,c,h,QI b,by rw[Qj b];exact(e j d).1,by rw[Qj b];exact(e j d).2⟩
def ZG(l:List (Int×L8)):List Value:=l.flatMap fun a=>[Qa a.1,Qf a.2]
theorem Hg{a:Int×L8}:ZG l++[Qa a.1,Qf a.2]=ZG (l++[a]):=by simp[ZG]
theorem C0(l:List (Int×L8)):(ZG l).length=l.length*2:=by
 induction l with
 |nil=>rfl
 |cons p r ih=>simp only[ZG,YS,Qz,Q1,Zl]at ih ⊢;omega
theorem V9(j:Nat)(a:j<l.length):(ZG l)[j*2]?=some (Qa l[j].1)/\(ZG l)[j*2+1]?=some (.string (sA l[j].2)):=by
 induction l generalizing j with
 |nil=>exact absurd a (XA _)
 |cons p r ih=>
  cases j with
  |zero=>exact⟨rfl,rfl⟩
  |succ j=>
   have:=ih j (by simpa using a);have e:ZG (p::r)=Qa p.1 :: Qf p.2::ZG r:=rfl;have b:(j+1)*2=j*2+1+1:=I
   rw[e,b,Y5,Y5,Y5,Y5];exact this
theorem Zj(h:w.ownsRow base e size v n xs):∃a c,v=.slice a n c:=by
 rcases h.2 with⟨h,b⟩ | ⟨g,d,f,h,_⟩
 .exact⟨none,0,by rw[h,b]⟩
 .exact⟨_,_,h⟩
theorem Yc(h:w.ownsRow base e size v n xs)(f:Fr P w w')(l:∀k cs,¬P k (Qe cs e)):w'.ownsRow base e size v n xs:=by
 obtain⟨d,a⟩:=h;refine⟨d,?_⟩;rcases a with a | ⟨g,b,c,m,i,j,r⟩
 .exact Qt a
 .exact Qr ⟨g,b,c,m,i,f.block g _ j (l _ _),r⟩
theorem U6{b:Nat}(h:w.ownsRow base e size v n xs)(j:b<=base):w.ownsRow b e size v n xs:=by
 obtain⟨f,a⟩:=h;refine⟨f,?_⟩;rcases a with a | ⟨g,c,d,i,k,r⟩
 .exact Qt a
 .exact Qr ⟨g,c,d,i,I,r⟩
theorem JS(h:w.ownsRow base e size v n xs)(a:v.ownBlock=some k)(b:w.heap[k]?=some o):base<=k/\∃cs,o=Qe cs e:=by
 rcases h.2 with⟨rfl,_⟩ | ⟨g,f,i,rfl,c,d,_⟩
 .cases a
 .obtain rfl:g=k:=by simpa[Value.ownBlock]using a
  rw[d]at b;cases b;exact⟨c,_,rfl⟩
theorem Jo(h:w.ownsRow base e size v n xs)(m:0<n):∃g c,v=Qs g n c/\base<=g/\g<w.heap.size/\∀j u,xs[j]?=some u->w.cell? ⟨g,j,none⟩=some u:=by
 rcases h.2 with⟨_,l⟩ | ⟨g,b,k,a,d,f,_⟩
 .omega
 .refine⟨g,b,a,d,QI f,fun j u i=>?_⟩;have:=h.cells (g:=g) (by rw[a];rfl) j u i;rwa [J8]at this
def Vi(es:Array MapEntry)(f:L8->Option Value):Prop:=
 (∀e∈es.toList,∃x,e.key=Qf x/\f x=some e.val)/\(∀x v,f x=some v->∃e∈es.toList,e.key=Qf x)/\es.toList.Pairwise (fun a b=>a.key≠b.key)
theorem Vi.empty:Vi #[] (fun _=>none):=⟨fun e he=>(by simp at he),fun x v h=>(by cases h),Qh⟩
theorem Vi.keys{a:Array MapEntry}(h:Vi a f):∀e∈a.toList,MapKept.IsKey .string e.key:=fun e he=>by
 obtain⟨x,b,_⟩:=h.1 e he;rw[b];trivial
theorem H_(h:Value.string (sA x)=Qf y):x=y:=by injection h with h;exact NM h
theorem Gz:type_of%@Go.MapKept.run_getObj_map:=@Go.MapKept.run_getObj_map
theorem UV:type_of%@Go.run_underlying:=@Go.run_underlying
theorem GA:type_of%@Go.MapKept.run_checkKey:=@Go.MapKept.run_checkKey
theorem GC:type_of%@Go.MapKept.run_findKey:=@Go.MapKept.run_findKey
theorem MG{T K E:TypeId}(R:prog.underlying T=some (.map K E))(D:prog.underlying K=some .string){k:Array MapEntry}{g:L8->Option Value}(H:w.heap[m]?=some (.map k c))(q:Vi k f)(x:L8)(v:Value)(U:g x=some v)(F:∀z,z≠x->g z=f z) :
 ∃es' c',(Instr.mapUpdate T (.map (some m)) (Qf x) v).run prog w=.ok () { w with heap:=w.heap.setIfInBounds m (.map es' c') }/\Vi es' g:=by
 have G:MapKept.IsKey .string (Qf x):=trivial;rcases MapKept.findNow_spec G k.toList 0 q.keys with⟨M,l⟩ | ⟨j,e,M,l,y⟩
 .refine⟨k.push ⟨.string (sA x),v,c⟩,c+1,?_,?_,?_,?_⟩
  .simp[Instr.mapUpdate,UV R,Gz H,GA D G,GC D M,MapKept.run_setObj_map _ H,Result.andThen]
  .intro e he;simp only[Array.toList_push,Z6,List.mem_singleton]at he;rcases he with he|rfl
   .obtain⟨z,n,N⟩:=q.1 e he;refine⟨z,n,?_⟩;rw[F z (fun o=>l e he (by rw[n,o]))];exact N
   .exact⟨x,rfl,U⟩
  .intro z u n;by_cases o:z=x
   .exact⟨⟨.string (sA x),v,c⟩,Qh,by rw[o]⟩
   .rw[F z o]at n;obtain⟨e,he,X⟩:=q.2.1 z u n;exact⟨e,by simp[he],X⟩
  .rw[Array.toList_push,List.pairwise_append];refine⟨q.2.2,Qh,fun a p b A=>?_⟩;simp at A;subst A;exact l a p
 .have S:k[j]?=some e:=by simpa using l
  have r:j<k.toList.length:=by
   rcases Ki j k.toList.length with h|h
   .exact h
   .rw[GI h]at l;cases l
  have J:(k.modify j (fun e=>{ e with key:=Qf x,val:=v })).toList=k.toList.set j { e with key:=Qf x,val:=v }:=by
   apply List.ext_getElem?;intro i;rw[Array.getElem?_toList,Array.getElem?_modify,List.getElem?_set];by_cases d:j=i
   .subst d;simp[S,r];exact(by simpa using r)
   .simp[d]
  refine⟨k.modify j (fun e=>{ e with key:=Qf x,val:=v }),c,?_,?_,?_,?_⟩
  .simp[Instr.mapUpdate,UV R,Gz H,GA D G,GC D M,S,y,MapKept.run_keyThatStays G,MapKept.run_setObj_map _ H,Result.andThen]
  .intro a p;rw[J]at p;obtain⟨i,d⟩:=List.mem_iff_getElem?.1 p;rw[List.getElem?_set]at d;by_cases C:j=i
   .rw[Qi C,Xy]at d;cases d;exact⟨x,rfl,U⟩
   .rw[Qg C]at d;obtain⟨z,n,N⟩:=q.1 a (Uv d);refine⟨z,n,?_⟩;rw[F z (fun o=>?_)];exact N;have L:=List.pairwise_iff_getElem.1 q.2.2
    have P:i<k.toList.length:=by
     rcases Ki i k.toList.length with h|h
     .exact h
     .rw[GI h]at d;cases d
    have Q:k.toList[i]=a:=by rw[Zi P]at d;exact ZK d
    have t:k.toList[j]=e:=by rw[Zi r]at l;exact ZK l
    have s:a.key=e.key:=by rw[n,y,o]
    rcases Nat.lt_or_gt_of_ne C with hlt|hlt
    .exact L j i r P hlt (by rw[Q,t,s])
    .exact L i j P r hlt (by rw[Q,t,s])
  .intro z u n;by_cases o:z=x
   .refine⟨{ e with key:=Qf x,val:=v },?_,by rw[o]⟩;rw[J];exact List.mem_set r _
   .rw[F z o]at n;obtain⟨a,p,s⟩:=q.2.1 z u n;obtain⟨i,d⟩:=List.mem_iff_getElem?.1 p
    have C:j≠i:=fun V=>by
     subst V;rw[l]at d;cases d;rw[y]at s;exact o (H_ s).symm
    refine⟨a,?_,s⟩;rw[J];refine List.mem_iff_getElem?.2 ⟨i,?_⟩;rw[List.getElem?_set,Qg C];exact d
  .rw[J,List.pairwise_iff_getElem];intro a b p A W;have L:=List.pairwise_iff_getElem.1 q.2.2;rw[UW]at p A;have t:k.toList[j]=e:=by rw[Zi r]at l;exact ZK l
   rw[List.getElem_set,List.getElem_set];have B:=L a b p A W;split
   .next h=>subst h;rw[Q8];rw[t,y]at B;exact B
   .split
    .next h=>subst h;rw[t,y]at B;exact B
    .exact B
theorem Qw4{T K E:TypeId}(l:prog.underlying T=some (.map K E))(a:prog.underlying K=some .string){z:Value}(q:∀W,(zeroValue E).run prog W=.ok z W){b:Array MapEntry}(n:w.heap[m]?=some (.map b c))(i:Vi b f) :
 (Instr.lookup T (.map (some m)) (Qf x) false).run prog w=.ok ((f x).getD z) w:=by
 have k:MapKept.IsKey .string (Qf x):=trivial;rcases MapKept.findNow_spec k b.toList 0 i.keys with⟨d,g⟩ | ⟨j,e,d,g,p⟩
 .have s:f x=none:=by
   cases hfx:f x with
   |none=>rfl
   |some v=>
    obtain⟨e,he,r⟩:=i.2.1 x v hfx;exact absurd r (g e he)
  rw[s];simp[Instr.lookup,UV l,Gz n,GA a k,GC a d,q,Result.andThen]
 .obtain⟨y,o,t⟩:=i.1 e (Uv g);rw[p]at o;have:x=y:=H_ o;subst this;rw[t];simp[Instr.lookup,UV l,Gz n,GA a k,GC a d,Result.andThen]
structure SBd (M:Msg) (s:SS):Prop where
 fr:M.fr.length<=100000
 tu:M.to.length<=100000
 hl:M.hdrs.length<=100000
 hd:∀h∈M.hdrs,h.1.length<=100000∧h.2.length<=100000
 told:∀t∈s.told,t.length<=100000
 tl:s.told.length<=1000000
 vals:∀x t,s.vals x=some t->t.length<=48
 met:s.met.length<=6
def Cf(M:Msg)(hv:Value)(vs:Bool)(mb:Nat)(tv mv:Value)(disc:Bool):Array Value:=
 #[Qf M.fr,Qf M.to,Qa M.size,hv,.bool vs,.map (some mb),tv,mv,.bool disc]
def Vk(s:SS)(x:L8):Option Value:=(s.vals x).map fun t=>.agg #[Qf t]
structure SI (w:World) (B sb:Nat) (M:Msg) (s:SS) (hv:Value) (mb:Nat) (tv mv:Value):Prop where
 bs:B<=sb
 bm:B<=mb
 b1:1 < B
 m1:∃m,w.cell? (Ql 1 0)=some (Qa m)
 blk:w.heap[sb]?=some (Qe (Cf M hv s.vs mb tv mv s.disc) 274)
 hd:Jj w hv M.hdrs
 mp:∃es c,w.heap[mb]?=some (.map es c)∧Vi es (Vk s)
 told:SlT w tv s.told
 met:w.ownsRow B 52 2 mv s.met.length (ZG s.met)
 mn:s.met=[]->mv=.slice none 0 0
 bd:SBd M s
def SAt(w:World)(B sb:Nat)(M:Msg)(s:SS):Prop:=∃hv mb tv mv,SI w B sb M s hv mb tv mv
theorem SI.fr{P:Nat->Obj->Prop}{w w':World}{B j:Nat}{M:Msg}{s:SS}{f:Value}{g:Nat}{l i:Value}(h:SI w B j M s f g l i)(b:Fr P w w')(n:∀k cs,¬P k (Qe cs 274))(p:∀k cs,¬P k (Qe cs 52))(q:∀k cs,¬P k (Qe cs 9))(r:∀k cs,¬P k (Qe cs 50))(t:∀k es c,¬P k (.map es c))(u:∀o,¬P 1 o):SI w' B j M s f g l i:=by
 obtain⟨es,c,v,x⟩:=h.mp;obtain⟨m,e⟩:=h.m1;have d:∃o,w.heap[1]?=some o:=⟨_,GB (QX e)⟩;obtain⟨o,d⟩:=d;exact⟨h.bs,h.bm,h.b1,⟨m,by rw[Xo (a:=⟨1,0,none⟩) ((b.block 1 o d (u o)).trans d.symm)];exact e⟩,b.block _ _ h.blk (n _ _),h.hd.fr b r,⟨es,c,b.block _ _ v (t _ _ _),x⟩,h.told.fr b q,Yc h.met b p,h.mn,h.bd⟩
theorem SI.below(h:SI w B sb M s hv mb tv mv)(hf:Qo w w'):SI w' B sb M s hv mb tv mv:=
 h.fr (P:=fun _ _=>False) (Fr.of_below hf) (fun _ _ h=>h) (fun _ _ h=>h) (fun _ _ h=>h) (fun _ _ h=>h) (fun _ _ _ h=>h) (fun _ h=>h)
theorem SAt.below{w w':World}{B a:Nat}{M:Msg}{s:SS}(h:SAt w B a M s)(b:Qo w w'):SAt w' B a M s:=by
 obtain⟨c,d,f,e,h⟩:=h;exact⟨c,d,f,e,h.below b⟩
theorem SI.cell{w:World}{B sb:Nat}{M:Msg}{s:SS}{hv:Value}{mb:Nat}{tv mv:Value}(h:SI w B sb M s hv mb tv mv)(j:Nat):w.cell? ⟨sb,j,none⟩=(Cf M hv s.vs mb tv mv s.disc)[j]?:=Qj h.blk j
theorem SI.frozen{w:World}{B sb:Nat}{M:Msg}{s:SS}{hv:Value}{mb:Nat}{tv mv:Value}(h:SI w B sb M s hv mb tv mv)(j:Nat):w.frozen? ⟨sb,j,none⟩=false:=QQ h.blk j
theorem SI.lt(h:SI w B sb M s hv mb tv mv):sb<w.heap.size:=QI h.blk
theorem SI.ps(h:SI w B sb M s hv mb tv mv):PSt B sb (Qe (Cf M hv s.vs mb tv mv s.disc) 274):=⟨h.bs,rfl⟩
section
attribute [local go_sem ↓] Zt Zu
theorem Au(x:L8)(w:World)(h:x.length<=1000000):Calls prog 181 #[Qf x] w fun e w'=>e=.returned (Qf (zL x))/\Qo w w':=
 AF (sA x) w (by rw[Zc];omega)
theorem SC(s:ByteArray)(w:World)(i:s.size<=1000000):Calls prog 283 #[.string s] w fun e w'=>e=.returned (Qa (nmLen s.data.toList))/\w'=w:=by
 have d:s.size<=maxLen:=by unfold maxLen;omega
 by_cases h0:s.size=0
 .have c:=Aj h0;have a:nmLen s.data.toList=nameLen s.data.toList:=by rw[<-XL,c];rfl
  change Qd _ at a;go_enter func283,ntmps283;go_wp2_with (go_at_call 226;refine Qu (GO d) ?_);go_ret;exact⟨Jz (by rw[a.o]),rfl⟩
 have c:=Ah h0;have g:s.toList.isEmpty=false:=by simpa using c
 have f:0<s.size:=I
 have b:s.data.toList=s[0]::s.data.toList.drop 1:=by have:=YU f;rwa [Jm]at this
 cases hd:Q7 (s[0].toNat:Int)
 .have a:nmLen s.data.toList=nameLen s.data.toList:=by
   rw[b];exact Qg (by rw[hd];decide)
  clear b;change Qd _ at a;go_enter func283,ntmps283;go_wp2_with (first|(go_at_call 226;refine Qu (GO d) ?_)|(go_at_call 227;refine Qu (XQ) ?_));go_ret;exact⟨Jz (by rw[a.o]),rfl⟩
 .have a:nmLen s.data.toList=1:=by
   rw[b];exact Qi hd
  clear b;change Qd _ at a;go_enter func283,ntmps283;go_wp2_with (first|(go_at_call 226;refine Qu (GO d) ?_)|(go_at_call 227;refine Qu (XQ) ?_));go_ret;exact⟨Jz (by rw[a.o];rfl),rfl⟩
theorem Tryz.zeroVal:∀W,(zeroValue 354).run prog W=.ok (.agg #[.string ⟨#[]⟩]) W:=by
 intro W;have h:(prog.info? 354).map (fun i=>i.zero)=some (some (.agg #[.string ⟨#[]⟩])):=Qm
 cases hi:prog.info? 354 with
 |none=>rw[hi]at h;cases h
 |some i=>
  rw[hi]at h;simp at h;simp[zeroValue,typeInfo,hi,h]
theorem Tryz.fieldVal(x:ByteArray)(W:World):(Instr.field 354 (.agg #[.string x]) 0).run prog W=.ok (.string x) W:=by
 simp[Instr.field,UV underlying354,asAgg,Result.andThen,go_sem]
theorem QxE:(Vk s x).getD (.agg #[.string ⟨#[]⟩])=.agg #[Qf ((s.vals x).getD [])]:=by
 unfold Vk;cases s.vals x<;>rfl
theorem QuF{a:Nat}(h:SAt w B a M s)(Q:x≠[])(K:x.length<=1000000):Calls prog 284 #[Qc a,Qf x] w fun e w'=>e=.returned (Qf (Nb s x))/\Qo w w':=by
 obtain⟨hv,l,T,mv,h⟩:=h;obtain⟨c,r,rfl⟩:∃c r,x=c::r:=by cases x with|nil=>exact absurd rfl Q|cons c r=>exact⟨c,r,rfl⟩
 have R:(sA (c::r)).size=r.length+1:=rfl;have hg:(sA (c::r))[0]'(by rw[R];omega)=c:=rfl;have ad:=UInt8.toNat_lt c;have D:w.cell? (Ql a 5)=some (.map (some l)):=h.cell 5;have U:w.cell? (Ql a 6)=some T:=h.cell 6;have L:=h.lt;obtain⟨S,tc,P⟩:=h.told.len;subst P;obtain⟨X,mc,j,k⟩:=h.mp;cases hd:Q7 (c.toNat:Int)
 .have b:Nb s (c::r)=(s.vals (zL (c::r))).getD []:=Qg (by rw[hd];decide)
  have C:Hid (∀W,Qo w W->(Instr.lookup 270 (.map (some l)) (Qf (zL (c::r))) false).run prog W=.ok (.agg #[.string (sA ((s.vals (zL (c::r))).getD []))]) W):=fun W F=>by
   rw[Qw4 underlying270 Z2 Tryz.zeroVal (Ze j F) k,QxE]
  have ab:=Tryz.fieldVal;clear h j k;change Qd _ at b;go_enter func284,ntmps284;go_wp2_with (go_at_call 227;refine Qu (XQ) ?_);go_region_held3 (fun w'=>w'.cell? (Ql a 5)=some (.map (some l))) (first|go_keep|exact E) (first|(go_at_call 181;refine Qv (Au _ _ K) ?_;rintro y q;have i:=Y9 q;have A:=O i;have E:y.cell? (Ql a 5)=some (.map (some l)):=(QN i D L);have ac:=C y i;clear q i;skip))
  all_goals go_wp2
  all_goals go_ret
  all_goals exact⟨by rw[b.o];rfl,A⟩
 .have b:Nb s (c::r)=s.told.getD (c.toNat-48) []:=Qi hd;have f:=O b;have G:48<=(c.toNat:Int)/\(c.toNat:Int)<=57:=by unfold Q7 at hd;simpa using hd
  obtain⟨Y,Z⟩:=G;obtain⟨d,t⟩:∃d:Nat,c.toNat=d+48:=⟨c.toNat-48,I⟩;have aa:(c.toNat:Int)-48=(d:Int):=I
  rw[t,Nat.add_sub_cancel]at f;clear t;by_cases hlt2:d<s.told.length
  .have J:(d:Int)<(s.told.length:Int):=I
   obtain⟨g,N,H⟩:∃g,S=some ⟨g,0,none⟩/\w.cell? ⟨g,d,none⟩=some (Qf (s.told.getD d [])):=by
    rcases h.told with⟨n,m⟩ | ⟨g,V,n,m⟩
    .rw[m]at hlt2;exact absurd hlt2 (XA _)
    .injection n with h3 h4 h5
     exact⟨g,h3,m.at d hlt2⟩
   subst N;obtain⟨z,v⟩:=Qw (s.told.getD d []);rw[v]at f H;clear b h j k v;go_enter func284,ntmps284;go_wp2_with (go_at_call 227;refine Qu (XQ) ?_)
   all_goals go_ret
   all_goals exact⟨by rw[f.o];rfl,QO _ _⟩
  .have J:¬(d:Int)<(s.told.length:Int):=I
   have u:s.told.getD d []=[]:=by rw[Zv,GI I];rfl
   clear b h j k;change Qd _ at u;go_enter func284,ntmps284;go_wp2_with (go_at_call 227;refine Qu (XQ) ?_)
   all_goals go_ret
   all_goals exact⟨by rw[f.o,u.o];rfl,QO _ _⟩
theorem D2(l p:L8):Lib.hasPrefix l p=decide (l.take p.length=p):=by
 unfold Lib.hasPrefix;rw[Xb];simp only[N_,decide_eq_true_eq];rw[List.prefix_iff_eq_take];exact⟨fun h=>h.symm,fun h=>h.symm⟩
theorem NC(x:L8)(n:Nat):(sA x).extract 0 n=sA (x.take n):=by
 apply ByteArray.ext;apply Array.ext';simp[sA]
theorem Fx(x:L8)(n:Nat):(sA x).extract n x.length=sA (x.drop n):=by
 apply ByteArray.ext;apply Array.ext';simp[sA];exact Z7 Qh
theorem Qyw(l:L8):nmLen l<=l.length:=by
 cases l with
 |nil=>exact Q4 _
 |cons c r=>
  show(if Q7 c.toNat then 1 else nameLen (c::r))<=_
  split
  .simp
  .exact GT _
theorem B5{a b:L8}{c:Int}(e:a=b)(f:c=d):Ending.returned (.tuple #[Qf a,Qa c])=.returned (.tuple #[Qf b,Qa d]):=by rw[e,f]
theorem AJ(h:X2 x=0):(standL s x).1=x.take 1/\(standL s x).2=1:=by
 unfold standL;rw[Qi h];exact⟨rfl,rfl⟩
theorem DJ(h:X2 x≠0):(standL s x).1=Nb s ((x.drop 2).take (X2 x))/\(standL s x).2=3+X2 x:=by
 unfold standL;rw[Qg h];exact⟨rfl,rfl⟩
theorem ST{C:Nat}(h:SAt w B C M s)(l:x≠[])(V:x.length<=1000000):Calls prog 266 #[Qc C,Qf x] w fun e w'=>e=.returned (.tuple #[.string (sA (standL s x).1),Qa ((standL s x).2:Nat)])/\Qo w w':=by
 have hz:=Zc x;have ab:=Xz.2 l;have ac:(1:Int)<=(x.length:Int):=I
 have U:=NC x 1;have g:=D2 x [36,123];have J:=O h;by_cases hp:x.take 2=[36,123];rotate_left
 .obtain⟨b,d⟩:=AJ (s:=s) (x:=x) (by unfold X2;rw[Qg (fun h=>hp h.1)]);rw[show([36,123]:L8).length=2 from rfl,QB hp]at g;clear hp h l;change Qd _ at b d g;go_enter func266,ntmps266;go_wp2_with (go_at_call 282;refine Qu (Tryz.strings_CutPrefix _ _ _) ?_;rw[show Lib.hasPrefix (sA x).data.toList _=false from g.o]);go_ret2;exact⟨B5 b.symm (by rw[d.o];rfl),QO _ _⟩
 have E:(x.drop 2).length=x.length-2:=Qh
 have X:2<=x.length:=by have:=ZI List.length hp;simp at this;omega
 have k:Lib.trimPrefix x [36,123]=x.drop 2:=by unfold Lib.trimPrefix;rw[D2,show([36,123]:L8).length=2 from rfl,QU hp];rfl
 rw[show([36,123]:L8).length=2 from rfl,QU hp]at g;have F:=Qyw (x.drop 2)
 have c:X2 x=if((x.drop 2).drop (nmLen (x.drop 2))).take 1=[125]then nmLen (x.drop 2)else 0:=by
  unfold X2;by_cases a:((x.drop 2).drop (nmLen (x.drop 2))).take 1=[125]
  .rw[Qi ⟨hp,a⟩,Qi a]
  .rw[Qg (fun h=>a h.2),Qg a]
 obtain⟨y,m⟩:=Qw (x.drop 2);rw[m]at k E F c;have ad:y.length<=1000000:=I
 clear E;have r:=O g;have v:=O k;have ae:=Zc y;obtain⟨n,j⟩:=Qw (nmLen y);rw[j]at F c
 have p:∀W,Calls prog 283 #[Qf y] W fun e w'=>e=.returned (Qa (n:Int))/\w'=W:=fun W=>by
  have:=SC (sA y) W (by rw[Zc];omega);rw[show(sA y).data.toList=y from rfl,j]at this;exact this
 have t:=O p;have K:=NC y n;have L:=Fx y n;have a:=D2 (y.drop n) [125];rw[show([125]:L8).length=1 from rfl]at a;have Y:(0:Int)<=(n:Int):=I
 have Z:(n:Int)<=(y.length:Int):=I
 obtain⟨f,i⟩:=Qw (y.take n);have A:f.length=n:=by rw[<-i];simp;omega
 have R:=Zc f;rw[A]at R;rw[i]at K;obtain⟨u,q⟩:=Qw (y.drop n);rw[q]at L a c;have z:=O c;by_cases h0:n=0
 .subst h0;have G:X2 x=0:=by rw[c];split<;>rfl
  obtain⟨b,d⟩:=AJ (s:=s) (x:=x) G;have Q:=XV A;subst Q;clear hp g h l k m p c G j i a q z;change Qd _ at b d;go_enter func266,ntmps266;go_wp2_with (first|(go_at_call 282;refine Qu (Tryz.strings_CutPrefix _ _ _) ?_;rw[show Lib.hasPrefix (sA x).data.toList _=true from r.o,show Lib.trimPrefix (sA x).data.toList _=y from v.o,show(⟨y.toArray⟩:ByteArray)=sA y from rfl])|(go_at_call 283;refine Qu (t _) ?_));go_ret2;exact⟨B5 b.symm (by rw[d.o];rfl),QO _ _⟩
 have N:f≠[]:=fun e=>h0 (by rw[<-A,e];rfl)
 have T:¬(sA f).size=0:=I
 have S:=Ah T;have aa:(sA f).toList.isEmpty=false:=by simpa using S
 by_cases hq1:u.take 1=[125]
 .rw[Qi hq1]at c;rw[QU hq1]at a;obtain⟨b,d⟩:=DJ (s:=s) (x:=x) (by rw[c];exact h0);rw[c]at b d;rw[m,i]at b;have P:f.length<=1000000:=I
  clear hp g h l k m p c j i q z hq1;change Qd _ at b d a;go_enter func266,ntmps266;go_wp2_with (first|(go_at_call 282;refine Qu (Tryz.strings_CutPrefix _ _ _) ?_;rw[show Lib.hasPrefix (sA x).data.toList _=true from r.o,show Lib.trimPrefix (sA x).data.toList _=y from v.o,show(⟨y.toArray⟩:ByteArray)=sA y from rfl])|(go_at_call 283;refine Qu (t _) ?_)|(go_at_call 233;refine Qu (Tryz.strings_HasPrefix _ _ _) ?_;rw[show Lib.hasPrefix (sA u).data.toList _=true from a.o])|(go_at_call 284;refine Qv (QuF J N P) ?_;rintro w1 D;have H:=O D;clear D));go_ret2;exact⟨B5 b.symm (by rw[d.o];omega),H⟩
 .rw[Qg hq1]at c;rw[QB hq1]at a;obtain⟨b,d⟩:=AJ (s:=s) (x:=x) c;clear hp g h l k m p c j i q z hq1;change Qd _ at b d a;go_enter func266,ntmps266;go_wp2_with (first|(go_at_call 282;refine Qu (Tryz.strings_CutPrefix _ _ _) ?_;rw[show Lib.hasPrefix (sA x).data.toList _=true from r.o,show Lib.trimPrefix (sA x).data.toList _=y from v.o,show(⟨y.toArray⟩:ByteArray)=sA y from rfl])|(go_at_call 283;refine Qu (t _) ?_)|(go_at_call 233;refine Qu (Tryz.strings_HasPrefix _ _ _) ?_;rw[show Lib.hasPrefix (sA u).data.toList _=false from a.o]));go_ret2;exact⟨B5 b.symm (by rw[d.o];rfl),QO _ _⟩
theorem Qyz{l:L8}(h:X2 l≠0):3+X2 l<=l.length:=by
 unfold X2 at h ⊢
 split at h
 .next hc=>
  rw[Qi hc];have a:=ZI List.length hc.2;simp at a;omega
 .exact absurd rfl h
theorem Qxx(s:SS){l:L8}(h:l≠[]):1<=(standL s l).2/\(standL s l).2<=l.length:=by
 have a:=Xz.2 h;by_cases hv:X2 l=0
 .rw[(AJ hv).2];omega
 .rw[(DJ hv).2];have:=Qyz hv;omega
theorem QvG(b:SBd M s)(l:L8):(standL s l).1.length<=100000:=by
 by_cases hv:X2 l=0
 .rw[(AJ hv).1];simp;omega
 .rw[(DJ hv).1];generalize (l.drop 2).take (X2 l)=x;unfold Nb;split
  .exact QR
  .split
   .next c r _=>
    rw[Zv]
    cases hg:s.told[c.toNat-48]? with
    |none=>exact QR
    |some t=>exact b.told t (Uv hg)
   .next c r _=>
    cases hg:s.vals (zL (c::r))with
    |none=>exact QR
    |some t=>have:=b.vals _ t hg;show t.length<=_;omega
theorem Eo{l:L8}(h:¬(l≠[]/\acc.length<1024)):J0 s n l acc=acc:=by
 cases n with
 |zero=>rfl
 |succ n=>unfold J0;rw[Qg h]
theorem IZ{l:L8}(h:l≠[]/\acc.length<1024):J0 s (n+1) l acc=J0 s n (l.drop (standL s l).2) (acc++(standL s l).1.take (1024-acc.length)):=by
 rw[J0,Qi h]
theorem QtA:Ui x++Ui y=Ui (x++y):=by simp[Ui]
theorem CS{a:Option Nat}(h:Below B u w)(hg:w.grownBy w' a)(c:B<=w.heap.size)(b:∀k,a=some k->B<=k):Below B u w':=
 ⟨hg.os.trans h.os,hg.tape.trans h.tape,hg.output.trans h.output,QE h.size hg.size,fun k hk=>by
  rw[hg.block k I (fun e=>by have:=b k e.symm;omega)]
  exact h.block k hk⟩
structure TxI (w:World) (s:SS) (x:L8) (k:Nat) (acc:L8) (v:Value) (wr:World):Prop where
 kl:k<=x.length
 al:acc.length<=1024
 own:wr.ownsRow w.heap.size 5 1 v acc.length (Ui acc)
 bl:Qo w wr
 ex:∃F,x.length-k < F∧J0 s (x.length+1) x []=J0 s F (x.drop k) acc
theorem Eh(B g:Nat)(M:Msg)(s:SS)(x:L8)(w:World)(h:SAt w B g M s)(hl:x.length<=1000000):Calls prog 249 #[Qc g,Qf x] w fun e w'=>e=.returned (Qf (expL s x))/\Qo w w':=by
 have X:=O h;obtain⟨hv,mb,tv,mv,h⟩:=h;have K:w.cell? (Ql g 4)=some (.bool s.vs):=h.cell 4;have L:=h.bd;clear h;change Qd _ at L;cases hvs:s.vs
 .have he:expL s x=x:=by unfold expL;rw[hvs];rfl
  rw[hvs]at K;change Qd _ at he;go_enter func249,ntmps249;go_wp2;go_ret;exact⟨by rw[he.o];rfl,QO _ _⟩
 have he:expL s x=J0 s (x.length+1) x []:=by unfold expL;rw[Qi hvs]
 rw[hvs]at K;have hz:=Zc x;obtain⟨i0,hi,af,ag,ah⟩:=ZU Tryz.infoU8;clear hvs;change Qd _ at he;go_enter func249,ntmps249;go_wp2
 go_loopw [5,6,7,8] (fun v a _ _ wr=>∃(k:Nat) (b:L8),a=Qa (k:Int)/\TxI w s x k b v wr) (fun _ a _ _ _=>x.length-(intOf a).toNat)
 case atStart=>exact⟨0,[],rfl,QR,QR,Z5,QO _ _,x.length+1,I,rfl⟩
 case round=>
  obtain⟨k,b,rfl,c⟩:=hrel;have ao:=c.kl;have ai:=c.al;have ae:=c.bl.size;obtain⟨va,vc,ad⟩:=Zj c.own;subst ad;have A:=O c.own;change Qd _ at c;by_cases hlt:k<x.length;rotate_left
  .have G:¬(k:Int)<(x.length:Int):=I
   have C:Hid (expL s x=b):=by
    obtain⟨F,hF,f⟩:=c.ex;show _=_
    rw[he.o,f,ZE I];exact Eo (fun h=>h.1 rfl)
   have aa:=CZ A;go_wp2;go_ret;exact⟨by rw[C.o];rfl,c.bl⟩
  have G:(k:Int)<(x.length:Int):=I
  by_cases ha:b.length<1024;rotate_left
  .have Z:¬(b.length:Int)<1024:=I
   have C:Hid (expL s x=b):=by
    obtain⟨F,hF,f⟩:=c.ex;show _=_
    rw[he.o,f];exact Eo (fun h=>ha h.2)
   have aa:=CZ A;go_wp2;go_ret;exact⟨by rw[C.o];rfl,c.bl⟩
  have Z:(b.length:Int)<1024:=I
  have ab:=Fx x k;have i:(x.drop k).length=x.length-k:=Qh
  have j:x.drop k≠[]:=fun e=>by rw[e]at i;simp at i;omega
  have H:=Qxx s j;have ac:=QvG L (x.drop k);have N:(x.drop k).length<=1000000:=I
  rw[i]at H
  have D:Hid (∃F,x.length-(k+(standL s (x.drop k)).2)<F/\J0 s (x.length+1) x []=J0 s F (x.drop (k+(standL s (x.drop k)).2)) (b++(standL s (x.drop k)).1.take (1024-b.length))):=by
   obtain⟨F,hF,f⟩:=c.ex;obtain⟨r,rfl⟩:∃r,F=r+1:=⟨F-1,I⟩;refine⟨r,I,?_⟩;rw[f,IZ ⟨j,ha⟩,XN]
  have u:Hid (∀W,Qo wr W->Calls prog 266 #[Qc g,Qf (x.drop k)] W fun e w'=>e=.returned (.tuple #[.string (sA (standL s (x.drop k)).1),Qa ((standL s (x.drop k)).2:Nat)])/\Qo W w'):=fun W Y=>
   ST (X.o.below (c.bl.trans (Y.mono c.bl.size))) j N
  generalize standL s (x.drop k)=p at *;obtain⟨d,n⟩:=p;dsimp only at H ac D u;obtain⟨au,av⟩:=H;obtain⟨y,T⟩:=Qw (x.drop k);rw[T]at ab u;have aw:=Zc d;have ak:(0:Int)<=(k:Int):=I
  have aq:(k:Int)<=(x.length:Int):=I
  have ap:IntKind.i64.wrap ((k:Int)+(n:Int))=(k:Int)+(n:Int):=by rw[IntKind.wrap_i64];omega
  obtain⟨z,m⟩:=Qw (d.take (1024-b.length));have l:z.length<=1024-b.length:=by rw[<-m];simp;omega
  obtain⟨q,S⟩:∃q:Nat,q=min d.length (1024-b.length):=⟨_,rfl⟩;have hq:min (d.length:Int) (1024-(b.length:Int))=(q:Int):=I
  have ar:(q:Int)<=(d.length:Int):=I
  have aj:(sA d).extract 0 q=sA z:=by
   rw[NC,<-m,S];congr 1;rcases Nat.le_total d.length (1024-b.length)with hh|hh
   .rw[Nat.min_eq_left hh,Z7 QF,Z7 hh]
   .rw[Nat.min_eq_right hh]
  rw[m]at D;clear m i N j T S;change Qd _ at l;go_wp2_with (first|(go_at_call 266;refine Qv (u _ (QO _ _)) ?_;rintro w1 E;have t:=O (c.bl.trans (E.mono ae));have J:=O (Yc (P:=fun _ _=>False) A (Fr.of_below E) (fun _ _ h=>h));clear E)|(at_builtin;refine Lib.wpList_append_own_string w1 rfl _ _ 198 9 rfl w.heap.size 5 i0 UA Z2 hi af ag ah _ _ _ rfl J (sA z) rfl (by rw[Zc];unfold maxLen;have:=l.o;omega) (by rw[Zc];have:=l.o;omega) t.size ?_;intro v5 w5 R Q _;have U:=O (CS t Q t.size (fun k G=>(J.o.lt k G).1));have V:=O R;clear R Q));go_roundw
  case rel=>
   refine⟨k+n,b++z,by go_num,I,by rw[Qz];have:=l.o;omega,?_,U,D⟩;rw[Qz,<-QtA];exact V
  case measure=>simp[intOf];omega
end
def Yt(ps:List (Nat×UInt8)):List Value:=ps.flatMap fun p=>[Qa p.1,.int .u8 p.2.toNat]
theorem Ax(ps:List (Nat×UInt8))(p:Nat×UInt8):Yt ps++[Qa p.1,.int .u8 p.2.toNat]=Yt (ps++[p]):=by simp[Yt]
theorem Tryz.infoPiece:(prog.info? 362).map (fun i=>(i.zero,i.size,i.bytes))=some (some (.agg #[Qa 0,.int .u8 0]),2,16):=Qm
theorem RU{s:ByteArray}(h:k<s.size):pcL (s.data.toList.drop k) =
 if s[k]=42 then(2,0)::pcL (s.data.toList.drop (k+1))else if s[k]=63 then(1,0)::pcL (s.data.toList.drop (k+1))
 else if h:s[k]=92/\k+1<s.size then(0,s[k+1])::pcL (s.data.toList.drop (k+2))else(0,s[k])::pcL (s.data.toList.drop (k+1)):=by
 rw[YU h];by_cases h2:k+1<s.size
 .rw[YU h2,pcL];by_cases a1:s[k]=42
  .simp[a1]
  by_cases a2:s[k]=63
  .simp[a1,a2]
  by_cases a3:s[k]=92
  .simp[a1,a2,a3,h2]
  .simp[a1,a2,a3,h2]
 .rw[ZE (by simpa using h2)];simp only[pcL];rw[dif_neg I];split
  .rfl
  .split<;>rfl
theorem AR{x y:Value}:∀j u,[x,y][j]?=some u->(w.alloc (Qe #[x,y] t)).cell? ((⟨w.heap.size,0,none⟩:Addr).add j)=some u:=by
 intro j u a
 match j,a with
 |0,a=>simp at a;subst a;simp[Addr.add]
 |1,a=>simp at a;subst a;simp[Addr.add]
theorem AM{a b:Int}:∀u∈[Value.int .i64 a,Value.int .u8 b],u.oneCell'=true:=by
 intro u c;simp at c;rcases c with rfl|rfl<;>rfl
theorem UD{a:Option Nat}(h:Below B u w)(b:B<=w.heap.size)(hg:(w.alloc o).grownBy w' a)(c:∀k,a=some k->B<=k):Below B u w':=by
 have ha:=h.alloc b o
 exact ⟨hg.os.trans ha.os,hg.tape.trans ha.tape,hg.output.trans ha.output,QE ha.size hg.size,fun k hk=>by
  rw[hg.block k (by simp;omega) (fun e=>by have:=c k e.symm;omega)]
  exact ha.block k hk⟩
theorem B2(c d:UInt8):((c.toNat:Int)==(d.toNat:Int))=decide (c=d):=by
 by_cases h:c=d
 .subst h;simp
 .rw[QB h];simp;intro e;exact h (Xi.1 I)
theorem Wb(s:ByteArray)(w:World)(K:s.size<=4294967280):Calls prog 246 #[.string s] w fun e w'=>∃v,e=.returned v/\w'.ownsRow w.heap.size 362 2 v (pcL s.data.toList).length (Yt (pcL s.data.toList))/\Below w.heap.size w w':=by
 obtain⟨y,q,t,u,x⟩:=ZU Tryz.infoPiece;go_enter func246,ntmps246;go_wp2_with fail
 go_loopw [3,4] (fun l i wr=>∃(k:Nat) (a:List (Nat×UInt8)),k<=s.size/\i=.int .i64 k/\wr.ownsRow w.heap.size 362 2 l a.length (Yt a)/\Below w.heap.size w wr/\a.length<=k/\pcL s.data.toList=a++pcL (s.data.toList.drop k)) (fun _ i _=>s.size-(intOf i).toNat)
 case atStart=>exact⟨0,[],by omega,rfl,Z5,QO _ _,Q4 _,rfl⟩
 case round=>
  obtain⟨k,a,f,rfl,D,m,J,n⟩:=hrel;have N:=O n;have M:=O m;have r:=m.size;clear n m;by_cases hlt:k<s.size;rotate_left
  .have H:k=s.size:=by omega
   subst H;have E:Hid (pcL (s.data.toList.drop s.size)=[]):=by show _=_;rw[ZE (by simp)];rfl
   go_wp2;go_ret;refine⟨_,rfl,?_,M.o⟩;rw[N.o,E.o,J3];exact D
  have j:=O (RU (s:=s) (k:=k) hlt);have d:=O D;have C:((s[k].toNat:Int)==42)=decide (s[k]=42):=B2 s[k] 42;have B:((s[k].toNat:Int)==63)=decide (s[k]=63):=B2 s[k] 63;have p:((s[k].toNat:Int)==92)=decide (s[k]=92):=B2 s[k] 92;by_cases a1:s[k]=42
  .rw[QU a1]at C;have HP:Hid (pcL (s.data.toList.drop k)=(2,0)::pcL (s.data.toList.drop (k+1))):=by show _=_;rw[j.o,Qi a1]
   clear j a1 B p;go_wp2_with (at_builtin;refine XM _ rfl _ _ 344 rfl w.heap.size 362 y _ 2 16 underlying344 q t u x rfl (by decide) _ _ _ rfl (d.o.alloc _) ⟨wr.heap.size,0,none⟩ 1 1 [.int .i64 2,.int .u8 0] rfl rfl (AR) (AM) ?c3 ?c4 ?c5 ?_)
   case c3=>unfold maxLen;omega
   case c4=>omega
   case c5=>first|(simp;omega)|omega
   intro z A b c _;have g:=O (UD M.o r c (fun k f=>(d.o.lt k f).1));rw[show Yt a++[.int .i64 2,.int .u8 0]=Yt (a++[(2,0)])from Ax a (2,0)]at b;have L:=O b;clear b c;go_wp2;go_roundw
   case rel=>exact⟨k+1,a++[(2,0)],by omega,by go_num,by simpa using L.o,g.o,by simp;omega,by rw[N.o,HP.o];simp⟩
   case measure=>simp[intOf];omega
  rw[QB a1]at C;by_cases a2:s[k]=63
  .rw[QU a2]at B;have HP:Hid (pcL (s.data.toList.drop k)=(1,0)::pcL (s.data.toList.drop (k+1))):=by show _=_;rw[j.o,Qg a1,Qi a2]
   clear j a1 a2 p;go_wp2_with (at_builtin;refine XM _ rfl _ _ 344 rfl w.heap.size 362 y _ 2 16 underlying344 q t u x rfl (by decide) _ _ _ rfl (d.o.alloc _) ⟨wr.heap.size,0,none⟩ 1 1 [.int .i64 1,.int .u8 0] rfl rfl (AR) (AM) ?c3 ?c4 ?c5 ?_)
   case c3=>unfold maxLen;omega
   case c4=>omega
   case c5=>first|(simp;omega)|omega
   intro z A b c _;have g:=O (UD M.o r c (fun k f=>(d.o.lt k f).1));rw[show Yt a++[.int .i64 1,.int .u8 0]=Yt (a++[(1,0)])from Ax a (1,0)]at b;have L:=O b;clear b c;go_wp2;go_roundw
   case rel=>exact⟨k+1,a++[(1,0)],by omega,by go_num,by simpa using L.o,g.o,by simp;omega,by rw[N.o,HP.o];simp⟩
   case measure=>simp[intOf];omega
  rw[QB a2]at B;by_cases a3:s[k]=92/\k+1<s.size
  .rw[QU a3.1]at p;have F:=a3.2;have G:((k:Int)+1<(s.size:Int)):=by omega
   have HP:Hid (pcL (s.data.toList.drop k)=(0,s[k+1])::pcL (s.data.toList.drop (k+2))):=by show _=_;rw[j.o,Qg a1,Qg a2,dif_pos a3]
   clear j a1 a2 a3;go_wp2_with (at_builtin;refine XM _ rfl _ _ 344 rfl w.heap.size 362 y _ 2 16 underlying344 q t u x rfl (by decide) _ _ _ rfl (d.o.alloc _) ⟨wr.heap.size,0,none⟩ 1 1 [.int .i64 0,.int .u8 s[k+1].toNat] rfl rfl (AR) (AM) ?c3 ?c4 ?c5 ?_)
   case c3=>unfold maxLen;omega
   case c4=>omega
   case c5=>first|(simp;omega)|omega
   intro z A b c _;have g:=O (UD M.o r c (fun k f=>(d.o.lt k f).1));rw[show Yt a++[.int .i64 0,.int .u8 s[k+1].toNat]=Yt (a++[(0,s[k+1])])from Ax a (0,s[k+1])]at b;have L:=O b;clear b c;go_wp2;go_roundw
   case rel=>exact⟨k+2,a++[(0,s[k+1])],by omega,by go_num,by simpa using L.o,g.o,by simp;omega,by rw[N.o,HP.o];simp⟩
   case measure=>simp[intOf];omega
  have HP:Hid (pcL (s.data.toList.drop k)=(0,s[k])::pcL (s.data.toList.drop (k+1))):=by show _=_;rw[j.o,Qg a1,Qg a2,dif_neg a3]
  clear j;by_cases a4:s[k]=92
  .have F:¬k+1<s.size:=fun h=>a3 ⟨a4,h⟩
   have G:¬((k:Int)+1<(s.size:Int)):=by omega
   rw[QU a4]at p;clear a1 a2 a3 a4;go_wp2_with (at_builtin;refine XM _ rfl _ _ 344 rfl w.heap.size 362 y _ 2 16 underlying344 q t u x rfl (by decide) _ _ _ rfl (d.o.alloc _) ⟨wr.heap.size,0,none⟩ 1 1 [.int .i64 0,.int .u8 s[k].toNat] rfl rfl (AR) (AM) ?c3 ?c4 ?c5 ?_)
   case c3=>unfold maxLen;omega
   case c4=>omega
   case c5=>first|(simp;omega)|omega
   intro z A b c _;have g:=O (UD M.o r c (fun k f=>(d.o.lt k f).1));rw[show Yt a++[.int .i64 0,.int .u8 s[k].toNat]=Yt (a++[(0,s[k])])from Ax a (0,s[k])]at b;have L:=O b;clear b c;go_wp2;go_roundw
   case rel=>exact⟨k+1,a++[(0,s[k])],by omega,by go_num,by simpa using L.o,g.o,by simp;omega,by rw[N.o,HP.o];simp⟩
   case measure=>simp[intOf];omega
  .rw[QB a4]at p;clear a1 a2 a3 a4;go_wp2_with (at_builtin;refine XM _ rfl _ _ 344 rfl w.heap.size 362 y _ 2 16 underlying344 q t u x rfl (by decide) _ _ _ rfl (d.o.alloc _) ⟨wr.heap.size,0,none⟩ 1 1 [.int .i64 0,.int .u8 s[k].toNat] rfl rfl (AR) (AM) ?c3 ?c4 ?c5 ?_)
   case c3=>unfold maxLen;omega
   case c4=>omega
   case c5=>first|(simp;omega)|omega
   intro z A b c _;have g:=O (UD M.o r c (fun k f=>(d.o.lt k f).1));rw[show Yt a++[.int .i64 0,.int .u8 s[k].toNat]=Yt (a++[(0,s[k])])from Ax a (0,s[k])]at b;have L:=O b;clear b c;go_wp2;go_roundw
   case rel=>exact⟨k+1,a++[(0,s[k])],by omega,by go_num,by simpa using L.o,g.o,by simp;omega,by rw[N.o,HP.o];simp⟩
   case measure=>simp[intOf];omega
section
attribute [local go_sem ↓] Zt Zu
theorem Dy(a b:Nat):((a:Int)==(b:Int))=(a==b):=by
 by_cases h:a=b
 .subst h;simp
 .have c:¬(a:Int)=(b:Int):=I
  rw[beq_eq_false_iff_ne.2 h,beq_eq_false_iff_ne.2 c]
theorem Tryz.infoInt:(prog.info? 3).map (fun i=>(i.zero,i.size,i.bytes))=some (some (Qa 0),1,8):=Qm
def Jd(pl:List Nat):Array Value:=(pl.map fun(n:Nat)=>Value.int .i64 (n:Int)).toArray
theorem K3:type_of%@List.setIfInBounds_toArray:=@List.setIfInBounds_toArray
theorem DW{b:List Nat}{a:Nat}:(Jd b).setIfInBounds k (Qa (a:Int))=Jd (b.set k a):=by
 unfold Jd;rw[K3,List.map_set]
theorem Qsz:madeCells (Value.cells (Qa 0)) (n*1)=Jd (List.replicate n 0):=by
 apply Array.ext
 .rw[size_madeCells];simp[Jd]
 .intro i b c;have a:(Jd (List.replicate n 0))[i]=Qa 0:=by simp[Jd]
  rw[a];simp only[madeCells,Array.getElem_map,Array.getElem_range];have:i % (Value.cells (Qa 0)).size=0:=Nat.mod_one _;rw[this];rfl
def Nz(w:World)(g:Nat)(key:List (Nat×UInt8)):Prop:=
 ∀j (hj:j<key.length),w.cell? ⟨g,j*2,none⟩=some (Qa key[j].1)/\w.cell? ⟨g,j*2+1,none⟩=some (.int .u8 key[j].2.toNat)
theorem IP(j:Nat)(b:j<a.length):(Yt a)[j*2]?=some (Qa a[j].1)/\(Yt a)[j*2+1]?=some (.int .u8 a[j].2.toNat):=by
 induction a generalizing j with
 |nil=>exact absurd b (XA _)
 |cons p r ih=>
  cases j with
  |zero=>exact⟨rfl,rfl⟩
  |succ j=>
   have:=ih j (by simpa using b);have e:Yt (p::r)=Qa p.1 :: .int .u8 p.2.toNat::Yt r:=rfl;have c:(j+1)*2=j*2+1+1:=I
   rw[e,c,Y5,Y5,Y5,Y5];exact this
theorem Nz.of_owns{g:Nat}(h:w.ownsRow base 362 2 (Qs g n c) n (Yt a)):Nz w g a:=fun j hj=>by
 have b:=h.cells (g:=g) rfl (j*2) _ (IP j hj).1;have d:=h.cells (g:=g) rfl (j*2+1) _ (IP j hj).2;rw[J8]at b d;exact⟨b,d⟩
def Oz(p:Nat×UInt8):Value:=.agg #[Qa p.1,.int .u8 p.2.toNat]
theorem DT{p:Nat×UInt8}{c:UInt8}:Calls prog 265 #[Oz p,.int .u8 c.toNat] w fun e w'=>e=.returned (.bool (Vc p c))/\Qo w w':=by
 unfold Oz;have b:((p.1:Int)==1)=(p.1==1):=Dy p.1 1;have a:((p.1:Int)==0)=(p.1==0):=Dy p.1 0;have d:((p.2.toNat:Int)==(c.toNat:Int))=(p.2==c):=B2 p.2 c;have HT:Hid (Vc p c=(p.1==1 || (p.1==0&&p.2==c))):=rfl;generalize (p.1==1)=b1 at *;generalize (p.1==0)=b0 at *;generalize (p.2==c)=bc at *
 cases b1<;>cases b0<;>cases bc <;>
 (go_enter func265,ntmps265
  go_wp2;go_ret
  exact ⟨Zf (by rw [HT.o];rfl),QH _⟩)
theorem As:∀(l:L8),∀p∈pcL l,p.1=2->p=(2,0)
 | [],p,hp,_=>by cases hp
 | [c],p,hp,h=>by
  simp only[pcL,List.mem_singleton]at hp;subst hp
  split at h
  .next hc=>rw[Qi hc]
  .next hc=>
   split at h
   .exact absurd h (fun e=>by cases e)
   .exact absurd h (fun e=>by cases e)
 |c::d::r,p,hp,h=>by
  rw[pcL]at hp
  split at hp
  .rcases XW.1 hp with rfl|hp
   .rfl
   .exact As (d::r) p hp h
  .split at hp
   .rcases XW.1 hp with rfl|hp
    .exact absurd h (fun e=>by cases e)
    .exact As (d::r) p hp h
   .split at hp
    .rcases XW.1 hp with rfl|hp
     .exact absurd h (fun e=>by cases e)
     .exact As r p hp h
    .rcases XW.1 hp with rfl|hp
     .exact absurd h (fun e=>by cases e)
     .exact As (d::r) p hp h
theorem V4(h:Below B u w):Below B u (w.drewN n):=⟨h.os,h.tape,h.output,h.size,h.block⟩
theorem Vf{a b:Int}(h:a=b):Value.int .i64 a=Value.int .i64 b:=by rw[h]
theorem Bn{v:L8}{b c e f g:Int}{l:Nat}(h:Um v a i j k<Um v a l m n)(o:b=i)(p:c=j)(q:d=k)(r:e=l)(s:f=m)(t:g=n):Um v a b.toNat c.toNat d.toNat<Um v a e.toNat f.toNat g.toNat:=by
 subst o p q r s t;exact h
def QzF(key:List (Nat×UInt8))(v:L8)(B:Nat)(e:Ending)(w':World):Prop:=
 (Q6 key v=true/\∃g,B<=g/\e=.returned (.tuple #[Qs g (key.length+1) (key.length+1),.bool true])/\w'.heap[g]?=some (Qe (Jd (plL key v 0)) 3))\/
 (Q6 key v=false/\e=.returned (.tuple #[Qp,.bool false]))
theorem Pe(s:ByteArray){Y:Value}(hs:s.size<=1000000)(ax:b.length<=1000000)(K:w.ownsRow base 362 2 Y b.length (Yt b))(F:∀j (hj:j<b.length),b[j].1=2->b[j]=(2,0)):Calls prog 247 #[.string s,Y] w fun e w'=>QzF b s.data.toList w.heap.size e w'/\Qo w w':=by
 obtain⟨X,kc,aq⟩:∃X kc,Y=.slice X b.length kc:=by
  rcases K.2 with⟨h,F⟩ | ⟨g,ah,ai,h,_⟩
  .exact⟨none,0,by rw[h,F]⟩
  .exact⟨_,_,h⟩
 subst aq
 have HK:Hid (∀j,j<b.length->∃g,X=some ⟨g,0,none⟩/\g<w.heap.size/\Nz w g b):=by
  intro j hj;rcases K.2 with⟨h,F⟩ | ⟨g,ah,ai,h,hb,hg,_⟩
  .omega
  .injection h with h1 F h3
   subst h1 h3;exact⟨g,rfl,QI hg,Nz.of_owns K⟩
 obtain⟨i0,hi,ar,au,av⟩:=ZU Tryz.infoInt;have U:=run_make (P:=prog) w 24 3 i0 _ underlying24 hi ar .i64 .i64 ((b.length:Int)+1) ((b.length:Int)+1) I (Int.le_refl _) (by rw[av];omega) I;rw[au,show((b.length:Int)+1).toNat=b.length+1 by omega,Qsz]at U;obtain⟨W,G⟩:=Q3 (w.alloc (Qe (Jd (List.replicate (b.length+1) 0)) 3));have H:W.heap[w.heap.size]?=some (Qe (Jd (List.replicate (b.length+1) 0)) 3):=by rw[G];exact Q0
 have ab:Qo w W:=by rw[G];exact QH _
 rw[<-G]at U
 have aj:W.cell? ⟨w.heap.size,b.length,none⟩=some (Qa 0):=by
  rw[Qj H];simp[Jd]
 have ak:∀j,W.frozen? ⟨w.heap.size,j,none⟩=false:=QQ H;clear G K;go_enter func247,ntmps247;go_wp2_with fail
 go_loopw [4,5,6,7,8,9] (fun v4 v5 Z S N ki wr=>v4=Qs w.heap.size (b.length+1) (b.length+1)/\v5=.bool false/\∃(f e a k:Nat) (y:List Nat),Z=Qa ((f:Int)-1)/\S=Qa (e:Int)/\N=Qa (a:Int)/\ki=Qa (k:Int)/\Z' s.data.toList b f e a k y/\wr.heap[w.heap.size]?=some (Qe (Jd y) 3)/\Qo w wr) (fun _ _ Z S N ki _=>Um s.data.toList b (intOf Z+1).toNat (intOf S).toNat (intOf N).toNat)
 case atStart=>
  refine⟨rfl,rfl,0,0,0,0,(List.replicate (b.length+1) 0).set b.length s.size,rfl,rfl,rfl,rfl,QxX Qh Qh,?_,?_⟩
  .rw[<-DW];exact QM H
  .exact ab.setCell QF _
 case round=>
  obtain⟨rfl,rfl,f,e,a,k,y,rfl,rfl,rfl,rfl,d,q,l⟩:=hrel;have ay:=d.kl;have ao:=d.al;have aw:=d.ea;have az:=d.sk;have m:s.data.toList.length=s.size:=Qh
  rw[m]at ao;clear U H ab aj ak;change Qd _ at d q;replace l:=O l;have aA:=d.pll
  have r:∀j,j<b.length+1->∃x,wr.cell? ⟨w.heap.size,j,none⟩=some x:=fun j hj=>by
   rw[Qj q];exact⟨_,GB (by simp[Jd];omega)⟩
  have J:∀j,wr.frozen? ⟨w.heap.size,j,none⟩=false:=QQ q;have L:=l.size;by_cases hend:a<s.size\/k<b.length;rotate_left
  .have ha:¬(a:Int)<(s.size:Int):=I
   have ad:¬(k:Int)<(b.length:Int):=I
   obtain⟨hm,ag⟩:=d.yes (by rw[m];omega) I;rw[ag]at q;clear ag r J hend;change Qd _ at hm;go_wp2;go_ret2;exact⟨Qt ⟨hm,w.heap.size,Q4 _,rfl,q⟩,l⟩
  by_cases hkk:k<b.length;rotate_left
  .have ad:¬(k:Int)<(b.length:Int):=I
   have n:a<s.size:=I
   have ac:(a:Int)<(s.size:Int):=I
   have ap:k=b.length:=I
   by_cases h0:f=0
   .have V:¬(0:Int)<=(f:Int)-1:=I
    have C:=O (d.never (Qt (by rw[m];exact n)) (fun h=>absurd h hkk) (fun h=>absurd h hkk) (fun h=>h.1 h0));clear r J hend;go_wp2_with fail;go_quiet (fail)
    all_goals go_wp2_with fail
    go_ret2;exact⟨Qr ⟨C,rfl⟩,V4 l⟩
   .have V:(0:Int)<=(f:Int)-1:=I
    have M:=O (d.longer h0 (by rw[m];exact n) (Qt ap));have v:=O (d.muLonger (by rw[m];exact n));clear r J hend;go_wp2_with fail;go_quiet (fail)
    all_goals go_wp2_with fail
    all_goals exact⟨⟨rfl,rfl,f,e+1,e+1,f,y,rfl,Vf I,Vf I,Vf I,M,q,V4 l⟩,Bn v (by simp only[intOf];omega) (by simp only[intOf];try omega) (by simp only[intOf];try omega) (by simp only[intOf];omega) (by simp only[intOf];try omega) (by simp only[intOf];try omega)⟩
  obtain⟨g,rfl,T,aa⟩:=HK k hkk;obtain⟨ae,af⟩:=aa k hkk;have Q:=QN l ae T
  have R:=QN l af T
  have ad:(k:Int)<(b.length:Int):=I
  have ek:=Dy b[k].1 2;obtain⟨x,A⟩:=r k I;clear aa ae af;by_cases h2k:b[k].1=2
  .rw[beq_iff_eq.2 h2k]at ek;have HS:=O (d.star hkk (F k hkk h2k));have v:=O (d.muStar hkk);clear r hend;go_wp2_with fail
   all_goals exact⟨⟨rfl,rfl,k+1,a,a,k+1,y.set k a,Vf I,rfl,rfl,Vf I,HS,by rw[<-DW];exact QM q,l.setCell QF _⟩,Bn v (by simp only[intOf];omega) (by simp only[intOf];try omega) (by simp only[intOf];try omega) (by simp only[intOf];omega) (by simp only[intOf];try omega) (by simp only[intOf];try omega)⟩
  rw[beq_eq_false_iff_ne.2 h2k]at ek;by_cases n:a<s.size;rotate_left
  .have ac:¬(a:Int)<(s.size:Int):=I
   have C:=O (d.never (Qr hkk) (fun _=>h2k) (fun _ h=>absurd h (by rw[m];exact n)) (fun h=>n (by rw[<-m];exact h.2)));clear r J hend;go_wp2_with fail;go_quiet (fail)
   all_goals go_wp2_with fail
   all_goals go_ret2
   all_goals exact⟨Qr ⟨C,rfl⟩,V4 l⟩
  have ac:(a:Int)<(s.size:Int):=I
  have z:=Yq T L;cases ht:Vc b[k] s[a]
  .by_cases h0:f=0
   .have V:¬(0:Int)<=(f:Int)-1:=I
    have C:=O (d.never (Qr hkk) (fun _=>h2k) (fun _ h=>ht) (fun h=>h.1 h0));clear r hend;go_wp2_with fail;go_region_held3 (fun w'=>w'.cell? ⟨g,k*2,none⟩=some (Qa b[k].1)/\w'.cell? ⟨g,k*2+1,none⟩=some (.int .u8 b[k].2.toNat)) (first|go_keep|exact⟨D,E⟩) (first|(go_at_call 265;refine Qv (DT) ?_;rintro i t;rw[ht];have c:=Y9 t;have B:=O (l.o.trans (c.mono L));have u:=O (Ze q c);have D:i.cell? ⟨g,k*2,none⟩=some (Qa b[k].1):=(QN c Q z);have E:i.cell? ⟨g,k*2+1,none⟩=some (.int .u8 b[k].2.toNat):=(QN c R z);have dx:i.cell? ⟨w.heap.size,k,none⟩=some x:=(QN c A (QX A));have dz:∀j,i.frozen? ⟨w.heap.size,j,none⟩=false:=QQ u;clear t c;skip))
    all_goals go_wp2_with fail
    all_goals go_ret2
    all_goals exact⟨Qr ⟨C,rfl⟩,B⟩
   .have V:(0:Int)<=(f:Int)-1:=I
    have M:=O (d.longer h0 (by rw[m];exact n) (Qr ⟨hkk,h2k,ht⟩));have v:=O (d.muLonger (by rw[m];exact n));clear r hend;go_wp2_with fail;go_region_held3 (fun w'=>w'.cell? ⟨g,k*2,none⟩=some (Qa b[k].1)/\w'.cell? ⟨g,k*2+1,none⟩=some (.int .u8 b[k].2.toNat)) (first|go_keep|exact⟨D,E⟩) (first|(go_at_call 265;refine Qv (DT) ?_;rintro i t;rw[ht];have c:=Y9 t;have B:=O (l.o.trans (c.mono L));have u:=O (Ze q c);have D:i.cell? ⟨g,k*2,none⟩=some (Qa b[k].1):=(QN c Q z);have E:i.cell? ⟨g,k*2+1,none⟩=some (.int .u8 b[k].2.toNat):=(QN c R z);have dx:i.cell? ⟨w.heap.size,k,none⟩=some x:=(QN c A (QX A));have dz:∀j,i.frozen? ⟨w.heap.size,j,none⟩=false:=QQ u;clear t c;skip))
    all_goals go_wp2_with fail
    all_goals exact⟨⟨rfl,rfl,f,e+1,e+1,f,y,rfl,Vf I,Vf I,Vf I,M,u,B⟩,Bn v (by simp only[intOf];omega) (by simp only[intOf];try omega) (by simp only[intOf];try omega) (by simp only[intOf];omega) (by simp only[intOf];try omega) (by simp only[intOf];try omega)⟩
  .have HT:=O (d.take hkk (by rw[m];exact n) h2k ht);have v:=O (d.muTake (by rw[m];exact n));clear r hend;go_wp2_with fail;go_region_held3 (fun w'=>w'.cell? ⟨g,k*2,none⟩=some (Qa b[k].1)/\w'.cell? ⟨g,k*2+1,none⟩=some (.int .u8 b[k].2.toNat)) (first|go_keep|exact⟨D,E⟩) (first|(go_at_call 265;refine Qv (DT) ?_;rintro i t;rw[ht];have c:=Y9 t;have B:=O (l.o.trans (c.mono L));have u:=O (Ze q c);have D:i.cell? ⟨g,k*2,none⟩=some (Qa b[k].1):=(QN c Q z);have E:i.cell? ⟨g,k*2+1,none⟩=some (.int .u8 b[k].2.toNat):=(QN c R z);have dx:i.cell? ⟨w.heap.size,k,none⟩=some x:=(QN c A (QX A));have dz:∀j,i.frozen? ⟨w.heap.size,j,none⟩=false:=QQ u;clear t c;skip))
   all_goals go_wp2_with fail
   all_goals exact⟨⟨rfl,rfl,f,e,a+1,k+1,y.set k a,rfl,rfl,Vf I,Vf I,HT,by rw[<-DW];exact QM u,B.setCell QF _⟩,Bn v (by simp only[intOf];omega) (by simp only[intOf];try omega) (by simp only[intOf];try omega) (by simp only[intOf];omega) (by simp only[intOf];try omega) (by simp only[intOf];try omega)⟩
theorem ID(v:L8)(a:List (Nat×UInt8))(b:List Nat)(k:Nat):(toldTo v a b k).length<=k+1:=by
 induction k with
 |zero=>exact Q4 _
 |succ k ih=>rw[toldTo,Qz];split<;>simp<;>omega
theorem Tq(v:L8)(a:List Nat)(c:k<b.length)(h:b[k].1≠0):toldTo v b a (k+1)=toldTo v b a k++[(v.drop (a.getD k 0)).take (a.getD (k+1) 0-a.getD k 0)]:=by
 rw[toldTo,Qg];rw[Zv,Zi c];exact h
theorem TR(v:L8)(b:List Nat)(c:k<a.length)(h:a[k].1=0):toldTo v a b (k+1)=toldTo v a b k:=by
 rw[toldTo,Qi,J3];rw[Zv,Zi c];exact h
theorem WH(s:ByteArray)(x y:Nat):s.extract x y=sA ((s.data.toList.drop x).take (y-x)):=by
 apply ByteArray.ext;apply Array.ext';simp[sA,List.take_drop]
theorem Z9(h:Below B u w):Below B u w.drew:=⟨h.os,h.tape,h.output,h.size,h.block⟩
theorem AU{x:ByteArray}:∀u∈[Value.string x],u.oneCell'=true:=by
 intro u a;simp at a;subst a;rfl
theorem V2:type_of%@Go.cell_one_new:=@Go.cell_one_new
theorem Qv0(s:ByteArray){D:Value}(d:Nat){b:List Nat}(hs:s.size<=1000000)(aA:a.length<=1000000)(m:w.ownsRow base 362 2 D a.length (Yt a))(u:w.heap[d]?=some (Qe (Jd b) 3))(aD:b.length=a.length+1)(ai:∀i,i<a.length->b.getD i 0<=b.getD (i+1) 0/\b.getD (i+1) 0<=s.size):Calls prog 248 #[.string s,D,Qs d (a.length+1) (a.length+1)] w fun e w'=>∃v,e=.returned v/\w'.ownsRow w.heap.size 9 1 v (toldTo s.data.toList a b a.length).length (QW (toldTo s.data.toList a b a.length))/\Qo w w':=by
 obtain⟨C,S,af⟩:∃C S,D=.slice C a.length S:=by
  rcases m.2 with⟨h,t⟩ | ⟨g,Z,aa,h,_⟩
  .exact⟨none,0,by rw[h,t]⟩
  .exact⟨_,_,h⟩
 subst af
 have V:Hid (∀j,j<a.length->∃g,C=some ⟨g,0,none⟩/\g<w.heap.size/\Nz w g a):=by
  intro j hj;rcases m.2 with⟨h,t⟩ | ⟨g,Z,aa,h,hb,hg,_⟩
  .omega
  .injection h with h1 t h3
   subst h1 h3;exact⟨g,rfl,QI hg,Nz.of_owns m⟩
 have ac:=QI u;obtain⟨i0,hi,aj,ak,ao⟩:=ZU Tryz.infoStr;clear m;change Qd _ at u;go_enter func248,ntmps248;go_wp2_with fail
 go_loopw [7,14] (fun l i wr=>∃(k:Nat),k<=a.length/\i=Qa (k:Int)/\wr.ownsRow w.heap.size 9 1 l (toldTo s.data.toList a b k).length (QW (toldTo s.data.toList a b k))/\Qo w wr) (fun _ i _=>a.length-(intOf i).toNat)
 case atStart=>
  refine⟨0,QR,by go_num,?_,QH _⟩;exact World.ownsRow_lit (e:=9) (size:=1) w #[.string s] 1 QF (by unfold maxLen;omega) rfl
 case round=>
  obtain⟨k,az,rfl,n,c⟩:=hrel;have N:=c.size;have aB:=ID s.data.toList a b k;replace c:=O c;replace n:=O n;by_cases hlt:k<a.length;rotate_left
  .have ae:k=a.length:=I
   subst ae;have ad:¬(a.length:Int)<(a.length:Int):=I
   go_wp2;go_ret;exact⟨_,rfl,n,c⟩
  obtain⟨g,rfl,G,F⟩:=V k hlt;obtain⟨K,L⟩:=F k hlt;have c1:=QN c K G
  have c2:=QN c L G
  have ad:(k:Int)<(a.length:Int):=I
  clear F K L;by_cases h0:a[k].1=0
  .have ek:((a[k].1:Int) != 0)=false:=by rw[h0];rfl
   have q:=O (TR s.data.toList b hlt h0);go_wp2;go_roundw
   case rel=>exact⟨k+1,I,by go_num,by rw[q.o];exact n.o.alloc _,c.o.alloc N _⟩
   case measure=>simp[intOf];omega
  .have ek:((a[k].1:Int) != 0)=true:=by simp;omega
   have q:=O (Tq s.data.toList b hlt h0);obtain⟨ag,ah⟩:=ai k hlt;have M:wr.heap[d]?=some (Qe (Jd b) 3):=by rw[c.o.block d ac];exact u
   obtain⟨x,B⟩:=Qw (b.getD k 0);obtain⟨y,r⟩:=Qw (b.getD (k+1) 0);have P:b[k]?=some x:=by rw[Zi I,<-B,Zv,Zi (show k<b.length by omega)];rfl
   have Q:b[k+1]?=some y:=by rw[Zi I,<-r,Zv,Zi (show k+1<b.length by omega)];rfl
   rw[B,r]at q ag;rw[r]at ah;obtain⟨W,f⟩:=Q3 (wr.alloc (Qe #[Qa a[k].1,.int .u8 a[k].2.toNat] 362));have aq:W.heap.size=wr.heap.size+1:=by rw[f];simp
   have Y:Hid (Qo w W):=by rw[f];exact c.o.alloc N _
   have E:Hid (W.ownsRow w.heap.size 9 1 u7 (toldTo s.data.toList a b k).length (QW (toldTo s.data.toList a b k))):=by rw[f];exact n.o.alloc _
   have A:W.heap[d]?=some (Qe (Jd b) 3):=by rw[f];exact QJ M
   have p1:W.cell? ⟨d,k,none⟩=some (Qa (x:Int)):=by rw[Qj A];simp[Jd,P]
   have p2:W.cell? ⟨d,k+1,none⟩=some (Qa (y:Int)):=by rw[Qj A];simp[Jd,Q]
   have ab:=WH s x y;have au:(k:Int)<(a.length:Int)+1:=I
   have aE:IntKind.i64.wrap ((k:Int)+1)=(k:Int)+1:=by rw[IntKind.wrap_i64];omega
   have av:(k:Int)+1<(a.length:Int)+1:=I
   have aw:(0:Int)<=(k:Int)+1:=I
   have ax:(x:Int)<=(y:Int):=I
   have ay:(y:Int)<=(s.size:Int):=I
   obtain⟨z,R⟩:=Qw ((s.data.toList.drop x).take (y-x));rw[R]at q ab;generalize hT:toldTo s.data.toList a b k=T at *;clear M A n c B r P Q R;go_wp2_with fail;rw[<-f];clear f;go_region_law (refine step_append_lies _ rfl (.tmp 22) (.tmp 34) 61 rfl w.heap.size 9 i0 (.string ⟨#[]⟩) 1 16 underlying61 hi aj ak ao rfl Qb u7 T.length (QW T) (by simp[Act.eval,Act.put]) (E.o.alloc _) ⟨W.heap.size,0,none⟩ 1 1 [Qf z] (by simp[Act.eval,Act.put]) rfl (V2 _ _ _) (AU) Qb (by unfold maxLen;omega) I (by simp;omega) _ rfl ?_;intro g' ap w5 J H ar aC;have U:=O (UD (Z9 Y) (by show _<=W.heap.size;omega) H (fun k m=>(E.o.lt k m).1));have X:=O J;clear J H;skip)
   all_goals go_wp2
   all_goals refine⟨⟨k+1,I,by go_num,?_,U⟩,by simp[intOf];omega⟩
   all_goals rw[q.o,Qz,<-Jw]
   all_goals exact X
theorem SlT.get(h:SlT w v zs)(j:Nat)(a:j<zs.length):∃g c,v=Qs g zs.length c/\g<w.heap.size/\w.cell? ⟨g,j,none⟩=some (.string (sA zs[j])):=by
 rcases h with⟨_,rfl⟩ | ⟨g,c,e,b⟩
 .exact absurd a (XA _)
 .refine⟨g,c,e,?_,?_⟩
  .obtain⟨f,d,_⟩:=b;exact QI d
  .have:=b.at j a;rwa [Zv,Zi a]at this
theorem SlT.get'{f:Nat}(h:SlT w (.slice la n f) zs)(j:Nat)(d:j<zs.length):∃g,la=some ⟨g,0,none⟩/\g<w.heap.size/\w.cell? ⟨g,j,none⟩=some (.string (sA zs[j])):=by
 obtain⟨g,c,e,b,a⟩:=h.get j d;injection e with h1 h2 h3
 exact⟨g,h1,b,a⟩
theorem Jj.get'{a:List (L8×L8)}(h:Jj w (.slice la n i) a)(j:Nat)(e:j<a.length):∃g,la=some ⟨g,0,none⟩/\g<w.heap.size/\w.cell? ⟨g,j*2,none⟩=some (.string (sA a[j].1))/\w.cell? ⟨g,j*2+1,none⟩=some (.string (sA a[j].2)):=by
 obtain⟨g,c,f,d,b⟩:=h.cells j e;injection f with h1 h2 h3
 exact⟨g,h1,d,b⟩
theorem Sg{α β:Type}(f:α->β){zs:List α}(h:k<zs.length):(zs.take (k+1)).map f=(zs.take k).map f++[f zs[k]]:=by
 rw[Y4 h,KC];rfl
theorem AB{d:Nat}{t:Value}(h:SAt w B d M s)(b:SlT w t zs)(K:∀z∈zs,z.length<=1000000)(Z:zs.length<=1000000):Calls prog 205 #[Qc d,t] w fun e w'=>∃v,e=.returned v/\w'.ownsRow w.heap.size 9 1 v zs.length (QW (zs.map (expL s)))/\Qo w w':=by
 have C:=O h;obtain⟨la,lc,N⟩:=b.len;subst N;obtain⟨V,G,S,T,U⟩:=ZU Tryz.infoStr;clear h;replace b:=O b;go_enter func205,ntmps205;go_wp2
 go_loopw [5,7,10] (fun v _ i wr=>∃(k:Nat),k<=zs.length/\i=Qa (k:Int)/\wr.ownsRow w.heap.size 9 1 v k (QW ((zs.take k).map (expL s)))/\Qo w wr) (fun _ _ i _=>zs.length-(intOf i).toNat)
 case atStart=>exact⟨0,QR,rfl,Z5,QO _ _⟩
 case round=>
  obtain⟨k,q,rfl,c,a⟩:=hrel;have R:=a.size;obtain⟨va,vc,Q⟩:=Zj c;subst Q;change Qd _ at c;replace a:=O a;by_cases hlt:k<zs.length;rotate_left
  .have J:k=zs.length:=I
   subst J;have H:¬(zs.length:Int)<(zs.length:Int):=I
   go_wp2;go_ret;refine⟨_,rfl,?_,a⟩;have:=c.o;rw[Z7 QF]at this;exact this
  have H:(k:Int)<(zs.length:Int):=I
  obtain⟨g,L,F,m⟩:=b.o.get' k hlt;subst L;have Y:=QN a m F
  have x:Hid (∀W,Qo wr W->Calls prog 249 #[Qc d,.string (sA zs[k])] W fun e w'=>e=.returned (Qf (expL s zs[k]))/\Qo W w'):=fun W E=>
   Eh B d M s zs[k] W (C.o.below (a.o.trans (E.mono a.size))) (K _ (List.getElem_mem hlt))
  have D:=O (Sg (expL s) hlt);generalize zs[k]=z at *;generalize expL s z=y at *;clear m;go_wp2_with (first|(go_at_call 249;refine Qv (x _ (QO _ _)) ?_;rintro X j;have f:=O (a.o.trans (j.mono R));have l:=O (Yc (P:=fun _ _=>False) c (Fr.of_below j) (fun _ _ h=>h));clear j)|(at_builtin;refine XM _ rfl _ _ 61 rfl w.heap.size 9 V _ 1 16 underlying61 G S T U rfl Qb _ _ _ rfl (l.o.alloc _) ⟨X.heap.size,0,none⟩ 1 1 [Qf y] rfl rfl (V2 _ _ _) (AU) (by unfold maxLen;omega) I (by have:=f.size;simp;omega) ?_;intro v5 w5 r n _;have u:=O (UD f f.size n (fun k q=>(l.o.lt k q).1));have A:=O r;clear r n));go_roundw
  case rel=>
   refine⟨k+1,I,by go_num,?_,u⟩;rw[D.o,<-Jw];exact A
  case measure=>simp[intOf];omega
end
end Go.Proofs.YtgnkjijocdmniaaGreatDoor
