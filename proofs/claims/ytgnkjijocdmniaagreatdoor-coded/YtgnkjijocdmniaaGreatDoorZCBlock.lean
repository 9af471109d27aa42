import Derived.MapKept
import Derived.Laws.OwnMore
import Derived.Stop.Asserts
import Derived.Test.YtgnkjijocdmniaaGreatDoorZTestEnd
namespace Go.Proofs.YtgnkjijocdmniaaGreatDoor
set_option linter.unusedVariables false
set_option linter.unusedSimpArgs false
set_option maxRecDepth 100000
set_option maxHeartbeats 4000000
open Go.Proofs.Tryz
variable{α:Type}{B L base c cb d k n size:Nat}{P:Nat->Obj->Prop}{a:Array Field}{b:List Ins}{cv v:Value}{e:TypeId}{i:Ins}{sub:α->List Ins->List Ins}{u w w':World}{xs:List Value}{zs:Qa}
section
open Go.RowKit
structure Fr (P:Nat->Obj->Prop) (w w':World):Prop where
 os:w'.os=w.os
 tape:w'.tape=w.tape
 output:w'.output=w.output
 size:w.heap.size<=w'.heap.size
 block:∀ k o,w.heap[k]?=some o->¬ P k o->w'.heap[k]?=some o
theorem Fr.refl(P:Nat->Obj->Prop)(w:World):Fr P w w:=⟨rfl,rfl,rfl,Nat.le_refl _,fun _ _ h _=>h⟩
theorem Fr.trans{P:Nat->Obj->Prop}{u v w:World}(h:Fr P u v)(k:Fr P v w):Fr P u w:=
 ⟨k.os.trans h.os,k.tape.trans h.tape,k.output.trans h.output,Qm h.size k.size,fun i o hi hn=>k.block i o (h.block i o hi hn) hn⟩
theorem Fr.mono{Q:Nat->Obj->Prop}{v:World}(h:Fr P u v)(hq:∀ k o,P k o->Q k o):Fr Q u v:=
 ⟨h.os,h.tape,h.output,h.size,fun i o hi hn=>h.block i o hi (fun hp=>hn (hq _ _ hp))⟩
theorem Fr.of_below(h:Below w.heap.size w w'):Fr P w w':=
 ⟨h.os,h.tape,h.output,h.size,fun k o hk _=>Zk hk h⟩
theorem Fr.below(h:Fr P w w')(hB:∀ k o,P k o->B<=k)(a:B<=w.heap.size):Below B w w':=
 ⟨h.os,h.tape,h.output,h.size,fun k hk=>by
  have hl:k<w.heap.size:=by omega
  rw[Array.getElem?_eq_getElem hl]
  exact h.block k _ (Array.getElem?_eq_getElem hl) (fun hp=>by have:=hB _ _ hp;omega)⟩
theorem Fr.set{b:Nat}{o:Obj}(h:Fr P u w)(a:w.heap[b]?=some o)(c:P b o)(j:Nat)(v:Value):Fr P u (w.setCell ⟨b,j,none⟩ v):=
 h.trans ⟨rfl,rfl,rfl,by simp [World.setCell],fun k o' hk hn=>by
  by_cases e:k=b
  ·subst e;rw[a]at hk;cases hk;exact absurd c hn
  ·rw [Below.heap_setCell _ _ _ _ e];exact hk⟩
theorem Fr.alloc{P:Nat->Obj->Prop}{u w:World}(h:Fr P u w)(o:Obj):Fr P u (w.alloc o):=
 h.trans ⟨rfl,rfl,rfl,by simp,fun k o' hk _=>Qy hk⟩
theorem Fr.drew{P:Nat->Obj->Prop}{u w:World}(h:Fr P u w):Fr P u w.drew:=⟨h.os,h.tape,h.output,h.size,h.block⟩
theorem Fr.grown{a:Option Nat}(h:Fr P u w)(hg:w.grownBy w' a)(hp:∀ k o,a=some k->w.heap[k]?=some o->P k o):Fr P u w':=
 h.trans ⟨hg.os,hg.tape,hg.output,hg.size,fun k o hk hn=>by
  rw [hg.block k (Qh hk) (fun e=>hn (hp k o e.symm hk))];exact hk⟩
def WI(w:World)(g:Nat)(zs:Qa):Prop:=
 ∃ cs,w.heap[g]?=some (.cells cs 9)/\∀ j,j<zs.length->cs[j]?=some (.string (sA (zs.getD j [])))
def SlT(w:World)(v:Value)(zs:Qa):Prop:=
 (v=.slice none 0 0/\zs=[])\/∃ g c,v=.slice (some ⟨g,0,none⟩) zs.length c/\WI w g zs
theorem SlT.fr(h:SlT w v zs)(d:Fr P w w')(e:∀ k cs,¬ P k (.cells cs 9)):SlT w' v zs:=by
 rcases h with h | ⟨g,c,f,cs,a,b⟩
 ·exact Qd h
 ·exact Qc ⟨g,c,f,cs,d.block g _ a (e _ _),b⟩
theorem SlT.below(h:SlT w v zs)(hf:Below w.heap.size w w'):SlT w' v zs:=h.fr (P:=fun _ _=>False) (Fr.of_below hf) (fun _ _ h=>h)
theorem SlT.len(h:SlT w v zs):∃ a c,v=.slice a zs.length c:=by
 rcases h with⟨h,rfl⟩ | ⟨g,c,h,_⟩
 ·exact⟨none,0,h⟩
 ·exact⟨_,_,h⟩
theorem Hc(zs:Qa)(j:Nat)(a:j<zs.length):(Qw zs)[j]?=some (.string (sA (zs.getD j []))):=by
 simp[Qw,List.getElem?_eq_getElem a,List.getD_eq_getElem?_getD]
theorem SlT.of_owns{xs:Qa}(h:w.ownsRow base 9 1 v n (Qw xs))(k:n=xs.length):SlT w v xs:=by
 subst k;obtain⟨o,a⟩:=h;rcases a with⟨a,e⟩ | ⟨g,c,d,m,q,f,p,_,r,l⟩
 ·exact Qd ⟨a,XB e⟩
 ·refine Qc ⟨g,c,m,d,f,fun j i=>?_⟩;have b:=Hc xs j i;rw[<-l]at b;rw[List.getElem?_take_of_lt (by omega)]at b;rw[<-b];simp
def XZ(l:List (Int×L8)):List Value:=l.flatMap fun a=>[.int .i64 a.1,.string (sA a.2)]
theorem WG(l:List (Int×L8))(a:Int×L8):XZ l++[.int .i64 a.1,.string (sA a.2)]=XZ (l++[a]):=by simp[XZ]
theorem Gj(l:List (Int×L8))(j:Nat)(a:j<l.length):(XZ l)[j*2]?=some (.int .i64 l[j].1)/\(XZ l)[j*2+1]?=some (.string (sA l[j].2)):=by
 induction l generalizing j with
 |nil=>exact absurd a (Nat.not_lt_zero _)
 |cons p r ih=>
  cases j with
  |zero=>exact⟨rfl,rfl⟩
  |succ j=>
   have:=ih j (by simpa using a);have e:XZ (p::r)=.int .i64 p.1 :: .string (sA p.2)::XZ r:=rfl;have b:(j+1)*2=j*2+1+1:=by omega
   have c:(j+1)*2+1=(j*2+1)+1+1:=by omega
   rw[e,b,List.getElem?_cons_succ,List.getElem?_cons_succ,List.getElem?_cons_succ,List.getElem?_cons_succ];exact this
theorem ZC(h:w.ownsRow base e size v n xs):∃ a c,v=.slice a n c:=by
 rcases h.2 with⟨h,b⟩ | ⟨g,d,f,h,_⟩
 ·exact⟨none,0,by rw[h,b]⟩
 ·exact⟨_,_,h⟩
theorem Jh(h:w.ownsRow base e size v n xs)(f:Fr P w w')(l:∀ k cs,¬ P k (.cells cs e)):w'.ownsRow base e size v n xs:=by
 obtain⟨d,a⟩:=h;refine⟨d,?_⟩;rcases a with a | ⟨g,b,c,m,i,j,r⟩
 ·exact Qd a
 ·exact Qc ⟨g,b,c,m,i,f.block g _ j (l _ _),r⟩
theorem Bk{b:Nat}(h:w.ownsRow base e size v n xs)(j:b<=base):w.ownsRow b e size v n xs:=by
 obtain⟨f,a⟩:=h;refine⟨f,?_⟩;rcases a with a | ⟨g,c,d,i,k,r⟩
 ·exact Qd a
 ·exact Qc ⟨g,c,d,i,by omega,r⟩
theorem Ug(h:w.ownsRow base e size v n xs)(k:Nat)(o:Obj)(a:v.ownBlock=some k)(b:w.heap[k]?=some o):base<=k/\∃ cs,o=.cells cs e:=by
 rcases h.2 with⟨rfl,_⟩ | ⟨g,f,i,rfl,c,d,_⟩
 ·cases a
 ·obtain rfl:g=k:=by simpa[Value.ownBlock]using a
  rw[d]at b;cases b;exact⟨c,_,rfl⟩
theorem Y7(h:w.ownsRow base e size v n xs)(m:0<n):∃ g c,v=.slice (some ⟨g,0,none⟩) n c/\base<=g/\g<w.heap.size/\∀ j u,xs[j]?=some u->w.cell? ⟨g,j,none⟩=some u:=by
 rcases h.2 with⟨_,l⟩ | ⟨g,b,k,a,d,f,_⟩
 ·omega
 ·refine⟨g,b,a,d,Qh f,fun j u i=>?_⟩;have:=h.cells (g:=g) (by rw[a];rfl) j u i;rwa [Jx]at this
def Za(i:Ins)(av bv:Value):Value:=.agg #[.int .i64 i.op,.int .i64 i.n,.int .i64 i.tag,.bool i.oct,av,bv,.int .i64 i.at_]
def WJ(i:Ins)(av bv:Value):Array Value:=#[.int .i64 i.op,.int .i64 i.n,.int .i64 i.tag,.bool i.oct,av,bv,.int .i64 i.at_]
structure Xg (w:World) (i:Ins) (av bv:Value):Prop where
 a:SlT w av i.a
 b:SlT w bv i.b
 al:∀ z∈i.a,z.length<=100000
 bl:∀ z∈i.b,z.length<=100000
 an:i.a.length<=1000000
 bn:i.b.length<=1000000
 n1:-9223372036854775808<=i.n
 n2:i.n<=9223372036854775807
theorem Xg.fr{P:Nat->Obj->Prop}{w w':World}{i:Ins}{av bv:Value}(h:Xg w i av bv)(hf:Fr P w w')(hp:∀ k cs,¬ P k (.cells cs 9)):Xg w' i av bv:=
 ⟨h.a.fr hf hp,h.b.fr hf hp,h.al,h.bl,h.an,h.bn,h.n1,h.n2⟩
theorem Xg.below{av bv:Value}(h:Xg w i av bv)(hb:Below w.heap.size w w'):Xg w' i av bv:=h.fr (P:=fun _ _=>False) (Fr.of_below hb) (fun _ _ h=>h)
theorem U8(h:w.ownsRow base e size v n xs){b:Nat}(m:v.ownBlock≠some b)(j:Nat)(x:Value):(w.setCell ⟨b,j,none⟩ x).ownsRow base e size v n xs:=by
 obtain⟨i,a⟩:=h;refine⟨i,?_⟩;rcases a with a | ⟨g,d,f,c,k,l,r⟩
 ·exact Qd a
 ·refine Qc ⟨g,d,f,c,k,?_,r⟩;rw[Below.heap_setCell _ _ _ _ (show g≠b from fun e=>m (by rw[c,e];rfl))];exact l
end
section
open Go.RowKit
attribute [local go_sem ↓] Go.wp_at_zero Go.wp_at_succ
abbrev IV:=Ins×Value×Value
def YK(p:IV):List Value:=[.int .i64 p.1.op,.int .i64 p.1.n,.int .i64 p.1.tag,.bool p.1.oct,p.2.1,p.2.2,.int .i64 p.1.at_]
def Zj(ps:List IV):List Value:=ps.flatMap YK
theorem J0(p:IV)(ps:List IV):Zj (p::ps)=YK p++Zj ps:=by simp[Zj]
theorem K6(ps qs:List IV):Zj (ps++qs)=Zj ps++Zj qs:=by simp[Zj]
theorem VS:∀ ps:List IV,(Zj ps).length=ps.length*7
 | []=>rfl
 |p::r=>by rw[J0,Qk,VS r,QD];simp only[YK,QD,Q4];omega
theorem Ce:∀(ps:List IV) (j:Nat) (a:j<ps.length) (k:Nat),k<7->(Zj ps)[j*7+k]?=(YK ps[j])[k]?
 | [],j,a,_,_=>absurd a (Nat.not_lt_zero _)
 |p::r,0,_,k,hk=>by
  rw[J0,Nat.zero_mul,Nat.zero_add];show(YK p++Zj r)[k]?=(YK p)[k]?
  rw[List.getElem?_append_left (by simpa[YK]using hk)]
 |p::r,j+1,a,k,hk=>by
  have d:=Ce r j (by simpa using a) k hk;have b:(YK p).length=7:=rfl;have e:(YK p).length<=(j+1)*7+k:=by rw[b];omega
  have c:(j+1)*7+k - 7=j*7+k:=by omega
  rw[J0,List.getElem?_append_right e,b,c,d];rfl
theorem Hd:∀(ps:List IV) (j:Nat) (n:Int),(Zj ps).set (j*7+1) (.int .i64 n)=Zj (ps.modify j fun p=>(Yr n p.1,p.2))
 | [],j,n=>by cases j<;>rfl
 |p::r,0,n=>rfl
 |p::r,j+1,n=>by
  have c:=Hd r j n;have a:(YK p).length=7:=rfl;have e:(YK p).length<=(j+1)*7+1:=by rw[a];omega
  have b:(j+1)*7+1 - 7=j*7+1:=by omega
  show(Zj (p::r)).set ((j+1)*7+1) (.int .i64 n)=Zj (p::r.modify j _)
  rw[J0,J0,List.set_append_right _ _ e,a,b,c]
def coO:Obj->Bool
 | .cells _ t _=>t==202 || t==63
 |_=>false
def PCo(B k:Nat)(o:Obj):Prop:=B<=k/\coO o=true
theorem PCo.not{a:Array Value}{t:TypeId}{f:Nat×Nat}(b:t≠202)(c:t≠63):¬ PCo B k (.cells a t f):=fun h=>by
 have:=h.2;unfold coO at this;simp at this;rcases this with h|h
 ·exact b h
 ·exact c h
theorem PCo.str(k:Nat)(cs:Array Value):¬ PCo B k (.cells cs 9):=PCo.not (by decide) (by decide)
def Gk:Value->Prop
 | .slice _ n c=>n<=c
 |_=>True
def Xm(ps:List IV):List Nat:=(ps.map Prod.snd).flatMap fun p=>p.1.ownBlock.toList++p.2.ownBlock.toList
theorem Bl(ps qs:List IV):Xm (ps++qs)=Xm ps++Xm qs:=by unfold Xm;rw[List.map_append,List.flatMap_append]
theorem XL{ps:List IV}:k∈Xm ps↔∃ p∈ps,p.2.1.ownBlock=some k\/p.2.2.ownBlock=some k:=by
 unfold Xm;rw[List.mem_flatMap];constructor
 ·rintro⟨q,c,b⟩;obtain⟨p,a,rfl⟩:=List.mem_map.1 c;refine⟨p,a,?_⟩;rcases List.mem_append.1 b with h|h
  ·exact Qd (Option.mem_toList.1 h)
  ·exact Qc (Option.mem_toList.1 h)
 ·rintro⟨p,a,h⟩;refine⟨p.2,List.mem_map_of_mem a,List.mem_append.2 ?_⟩;rcases h with h|h
  ·exact Qd (Option.mem_toList.2 h)
  ·exact Qc (Option.mem_toList.2 h)
structure Apt (L:Nat) (ps:List IV):Prop where
 nd:(Xm ps).Nodup
 ge:∀ k∈Xm ps,L<=k
 rm:∀ p∈ps,Gk p.2.1∧Gk p.2.2
theorem Apt.nil(L:Nat):Apt L []:=⟨List.nodup_nil,(fun k hk=>nomatch hk),(fun p hp=>nomatch hp)⟩
theorem Apt.mono{L':Nat}{ps:List IV}(h:Apt L ps)(hl:L'<=L):Apt L' ps:=⟨h.nd,fun k hk=>Qm hl (h.ge k hk),h.rm⟩
theorem Apt.append{ps qs:List IV}(h:Apt B ps)(i:∀ k∈Xm ps,k<L)(c:Apt L qs)(f:B<=L):Apt B (ps++qs):=by
 refine⟨?_,fun k hk=>?_,fun p hp=>?_⟩
 ·rw[Bl];refine List.nodup_append.2 ⟨h.nd,c.nd,fun a d b g e=>?_⟩;have:=i a d;have:=c.ge b g;omega
 ·rw[Bl]at hk;rcases List.mem_append.1 hk with hk|hk
  ·exact h.ge k hk
  ·exact Qm f (c.ge k hk)
 ·rcases List.mem_append.1 hp with hp|hp
  ·exact h.rm p hp
  ·exact c.rm p hp
theorem Apt.none{L:Nat}{ps:List IV}(h:∀ p∈ps,p.2.1=.slice none 0 0/\p.2.2=.slice none 0 0):Apt L ps:=by
 have e:∀ k,¬ k∈Xm ps:=fun k hk=>by
  obtain⟨p,a,hk⟩:=XL.1 hk;rw[(h p a).1,(h p a).2]at hk;rcases hk with hk|hk<;>cases hk
 have b:Xm ps=[]:=List.eq_nil_iff_forall_not_mem.2 e;refine⟨by rw[b];exact List.nodup_nil,fun k hk=>absurd hk (e k),fun p a=>?_⟩;rw[(h p a).1,(h p a).2];exact⟨Nat.le_refl _,Nat.le_refl _⟩
theorem Apt.two{L2:Nat}{d c:Value}(f:∀ k,d.ownBlock=some k->L<=k/\k<L2)(g:∀ k,c.ownBlock=some k->L2<=k)(j:L<=L2)(l:Gk d)(m:Gk c):Apt L [(i,d,c)]:=by
 refine⟨?_,fun k hk=>?_,fun p e=>?_⟩
 ·show(d.ownBlock.toList++c.ownBlock.toList++[]).Nodup
  rw[List.append_nil]
  cases ha:d.ownBlock with
  |none=>cases c.ownBlock<;>simp
  |some a=>
   cases hb:c.ownBlock with
   |none=>simp
   |some b=>
    have:=f a ha;have:=g b hb;simp;omega
 ·obtain⟨p,e,hk⟩:=XL.1 hk;rw[QY e]at hk;rcases hk with hk|hk
  ·exact(f k hk).1
  ·exact Qm j (g k hk)
 ·rw[QY e];exact⟨l,m⟩
theorem SlT.lt(h:SlT w v zs)(a:v.ownBlock=some k):k<w.heap.size:=by
 rcases h with⟨h,_⟩ | ⟨g,c,h,d,b,_⟩
 ·rw[h]at a;cases a
 ·rw[h]at a;injection a with a
  subst a;exact Qh b
structure CI (w:World) (B cb:Nat) (cv:Value) (ps:List IV):Prop where
 bc:B<=cb
 blk:w.heap[cb]?=some (.cells #[cv] 202)
 row:w.ownsRow B 63 7 cv ps.length (Zj ps)
 ok:∀ p∈ps,Xg w p.1 p.2.1 p.2.2
 nil:ps=[]->cv=.slice none 0 0
 ap:Apt B ps
theorem CI.ltL{ps:List IV}(h:CI w B d cv ps):∀ k∈Xm ps,k<w.heap.size:=fun k hk=>by
 obtain⟨p,c,hk⟩:=XL.1 hk;rcases hk with hk|hk
 ·exact(h.ok p c).a.lt hk
 ·exact(h.ok p c).b.lt hk
def CC(w:World)(B cb:Nat)(cs:List Ins):Prop:=∃ cv ps,ps.map Prod.fst=cs/\CI w B cb cv ps
theorem CC.lt{a:Nat}(h:CC w B a b):B<=a/\a<w.heap.size:=by
 obtain⟨c,d,_,h⟩:=h;exact⟨h.bc,Qh h.blk⟩
theorem CI.fr{P:Nat->Obj->Prop}{w w':World}{B cb:Nat}{cv:Value}{ps:List IV}(h:CI w B cb cv ps)(hf:Fr P w w')(h1:∀ k cs,¬ P k (.cells cs 202))(h2:∀ k cs,¬ P k (.cells cs 63))(h3:∀ k cs,¬ P k (.cells cs 9)):CI w' B cb cv ps:=
 ⟨h.bc,hf.block _ _ h.blk (h1 _ _),Jh h.row hf h2,fun p hp=>(h.ok p hp).fr hf h3,h.nil,h.ap⟩
theorem CI.below{ps:List IV}(h:CI w B cb cv ps)(hb:Below w.heap.size w w'):CI w' B cb cv ps:=h.fr (P:=fun _ _=>False) (Fr.of_below hb) (fun _ _ h=>h) (fun _ _ h=>h) (fun _ _ h=>h)
theorem CI.drew{w:World}{B cb:Nat}{cv:Value}{ps:List IV}(h:CI w B cb cv ps):CI w.drew B cb cv ps:=h.fr (P:=fun _ _=>False) (Fr.refl _ w).drew (fun _ _ h=>h) (fun _ _ h=>h) (fun _ _ h=>h)
theorem CC.below{w w':World}{B a:Nat}{b:List Ins}(h:CC w B a b)(d:Below w.heap.size w w'):CC w' B a b:=by
 obtain⟨c,f,e,h⟩:=h;exact⟨c,f,e,h.below d⟩
def CL(w:World)(B cb:Nat)(cs:List Ins)(L:Nat):Prop:=∃ cv ps,ps.map Prod.fst=cs/\CI w B cb cv ps/\∀ k∈Xm ps,k<L
theorem CC.toL{a:Nat}(h:CC w B a b):CL w B a b w.heap.size:=by
 obtain⟨c,d,e,h⟩:=h;exact⟨c,d,e,h,h.ltL⟩
theorem CL.below{w w':World}{B a:Nat}{b:List Ins}{L:Nat}(h:CL w B a b L)(d:Below w.heap.size w w'):CL w' B a b L:=by
 obtain⟨c,g,e,h,f⟩:=h;exact⟨c,g,e,h.below d,f⟩
theorem CC.alloc{w:World}{B cb:Nat}{cs:List Ins}(h:CC w B cb cs)(o:Obj):CC (w.alloc o) B cb cs:=h.below (Qs _)
theorem Fr.co{cs:List Ins}(h:Fr (PCo B) w w')(hc:CC w B cb cs):Below B w w':=h.below (fun _ _ h=>h.1) (Nat.le_of_lt (Nat.lt_of_le_of_lt hc.lt.1 hc.lt.2))
theorem CI.regrow{c:World}{a:Nat}{ps qs:List IV}(h:CI w B a cv ps)(hf:Fr (fun k _=>cv.ownBlock=some k) w c)(v':Value)(f:c.ownsRow B 63 7 v' (ps++qs).length (Zj (ps++qs)))(n:∀ p∈qs,Xg w p.1 p.2.1 p.2.2)(l:qs≠[])(j:Apt B (ps++qs)) :
 CI (c.setCell ⟨a,0,none⟩ v') B a v' (ps++qs)/\Fr (PCo B) w (c.setCell ⟨a,0,none⟩ v'):=by
 have m:∀(k:Nat) (o:Obj),w.heap[k]?=some o->(∀ b,o≠.cells b 63)->c.heap[k]?=some o:=fun k o hk f=>by
  refine hf.block k o hk (fun e=>?_);obtain⟨_,b,d⟩:=Ug h.row k o e hk;exact f b d
 have g:=m a _ h.blk (fun b e=>by injection e with e1 e2;exact absurd e2 (by decide))
 have i:Fr (PCo B) w (c.setCell ⟨a,0,none⟩ v'):=by
  refine(Fr.mono ⟨hf.os,hf.tape,hf.output,hf.size,fun k o hk hn=>?_⟩ (fun k o h=>h)).set g ⟨h.bc,rfl⟩ 0 v'
  exact hf.block k o hk (fun e=>hn (by
   obtain⟨hb,b,d⟩:=Ug h.row k o e hk;subst d
   exact ⟨hb,rfl⟩))
 have q:v'.ownBlock≠some a:=fun e=>by
  obtain⟨_,b,d⟩:=Ug f a _ e g;injection d with e1 e2
  exact absurd e2 (by decide)
 refine⟨⟨h.bc,Qv _ _ _ _ _ _ g,U8 f q _ _,fun p hp=>?_,fun e=>absurd (List.append_eq_nil_iff.1 e).2 l,j⟩,i⟩;rcases List.mem_append.1 hp with hp|hp
 ·exact(h.ok p hp).fr i PCo.str
 ·exact(n p hp).fr i PCo.str
def Xq(B cb:Nat)(cs:List Ins)(w:World)(e:Ending)(w':World):Prop:=e=.returned (.tuple #[])/\CC w' B cb cs/\Fr (PCo B) w w'
theorem Tryz.infoIns:(prog.info? 63).map (fun i=>(i.zero,i.size,i.bytes))=some (some (.agg #[.int .i64 0,.int .i64 0,.int .i64 0,.bool false,.slice none 0 0,.slice none 0 0,.int .i64 0]),7,88):=by kernel_rfl
theorem Xg.slA{e f:Value}(h:Xg w i e f):(∃ a n c,e=.slice a n c)/\(∃ a n c,f=.slice a n c):=by
 obtain⟨a,c,g⟩:=h.a.len;obtain⟨b,d,j⟩:=h.b.len;exact⟨⟨a,_,c,g⟩,⟨b,_,d,j⟩⟩
theorem WK{qs:List IV}(h:∀ p∈qs,Xg w p.1 p.2.1 p.2.2):∀ u∈Zj qs,u.oneCell'=true:=by
 intro u e;obtain⟨p,i,e⟩:=List.mem_flatMap.1 e;obtain⟨⟨a,n,c,f⟩,⟨b,m,d,g⟩⟩:=(h p i).slA;unfold YK at e;rw[f,g]at e;simp at e;rcases e with rfl|rfl|rfl|rfl|rfl|rfl|rfl<;>rfl
theorem He(B b g c L:Nat)(f:List Ins)(qs:List IV)(w:World)(h:CL w B b f L)(E:Apt L qs)(C:B<=L)(q:w.heap[g]?=some (.cells (Zj qs).toArray 63))(t:∀ p∈qs,Xg w p.1 p.2.1 p.2.2)(G:qs≠[])(F:f.length+qs.length<=1000000) :
 Calls prog 216 #[.pointer (some ⟨b,0,none⟩),.slice (some ⟨g,0,none⟩) qs.length c] w fun e w'=>e=.returned (.int .i64 (((f.length+qs.length - 1:Nat)):Int))/\CC w' B b (f++qs.map Prod.fst)/\Fr (PCo B) w w':=by
 obtain⟨U,i,rfl,d,D⟩:=h;rw[List.length_map]at F ⊢;have l:=I d;have J:=I (d.ap.append D E C);clear E D C;have T:=Qj d.blk;obtain⟨v,x,aa⟩:=ZC d.row;subst aa;have V:=Qh d.blk;have ah:=Qh q;obtain⟨i0,Y,ad,ae,af⟩:=info_parts Tryz.infoIns;have ab:=List.length_pos_iff.2 G
 have H:(Value.slice v i.length x).ownBlock≠some b:=fun e=>by
  obtain⟨_,f,W⟩:=Ug d.row b _ e d.blk;injection W with e1 e2
  exact absurd e2 (by decide)
 have A:=I H
 have K:Hid (∀ j u,(Zj qs)[j]?=some u->w.cell? ((⟨g,0,none⟩:Addr).add j)=some u):=fun j u Z=>by
  rw[Jx,Qn q,List.getElem?_toArray];exact Z
 have R:=I (WK t);have Q:=I t;obtain⟨n,r⟩:∃ n,qs.length=n+1:=⟨qs.length - 1,by omega⟩;have z:=I (VS qs);rw[r]at z F ⊢;have N:=I r;clear d H q t r ab;go_enter func216,ntmps216;go_wp2_with (first|(at_builtin;refine wpList_append_own _ rfl _ _ 45 rfl B 63 i0 _ 7 88 underlying45 Y ad ae af rfl (by decide) _ _ _ rfl l.o.row ⟨g,0,none⟩ (n+1) c (Zj qs) rfl z.o K.o R.o (by unfold maxLen;omega) (by omega) (by have:=l.o.bc;omega) ?_;intro v5 y s m _;obtain⟨S,k5,ac⟩:=ZC s;subst ac;have P:=I s;have M:=I m;have d1:y.cell? ⟨b,0,none⟩=some (.slice v i.length x):=m.cell (a:=⟨b,0,none⟩) T (fun e=>A.o e.symm);have ag:∀ j,y.frozen? ⟨b,j,none⟩=false:=fun j=>(World.frozen?_of_block (a:=⟨b,j,none⟩) (w:=w) (m.block b V (fun e=>A.o e.symm))).trans (Qz l.o.blk j);clear s m));go_ret;have X:Fr (fun k _=>(Value.slice v i.length x).ownBlock=some k) w y:=(Fr.refl _ w).grown M.o (fun k o e ho=>e);have:=l.o.regrow (qs:=qs) X (.slice S (i.length+(n+1)) k5) (by rw[Qk,N.o,K6];exact P.o) Q.o G J.o;exact⟨Ji (by omega),⟨_,i++qs,by rw[List.map_append],this.1⟩,this.2⟩
theorem WL(ps:List IV)(j:Nat)(n:Int):(ps.modify j fun p=>(Yr n p.1,p.2)).map Prod.fst=(ps.map Prod.fst).modify j (Yr n):=by
 induction ps generalizing j with
 |nil=>cases j<;>rfl
 |cons p r ih=>
  cases j with
  |zero=>rfl
  |succ j=>show p.1::(r.modify j _).map Prod.fst=p.1::(r.map Prod.fst).modify j (Yr n);rw[ih]
theorem mem_modify_iv{ps:List IV}{j:Nat}{n:Int}{q:IV}(h:q∈ps.modify j fun p=>(Yr n p.1,p.2)):q∈ps\/∃ p∈ps,q=(Yr n p.1,p.2):=by
 induction ps generalizing j with
 |nil=>cases j<;>cases h
 |cons p r ih=>
  cases j with
  |zero=>
   rcases List.mem_cons.1 h with h|h
   ·exact Qc ⟨p,by simp,h⟩
   ·exact Qd (by simp[h])
  |succ j=>
   rcases List.mem_cons.1 h with h|h
   ·exact Qd (by simp[h])
   ·rcases ih h with h | ⟨b,a,h⟩
    ·exact Qd (by simp[h])
    ·exact Qc ⟨b,by simp[a],h⟩
theorem Hf(ps:List IV)(j:Nat)(n:Int):Xm (ps.modify j fun p=>(Yr n p.1,p.2))=Xm ps:=by
 unfold Xm;congr 1
 induction ps generalizing j with
 |nil=>cases j<;>rfl
 |cons p r ih=>
  cases j with
  |zero=>rfl
  |succ j=>show p.2::(r.modify j _).map Prod.snd=p.2::r.map Prod.snd;rw[ih]
theorem Apt.modify{L:Nat}{ps:List IV}(h:Apt L ps)(j:Nat)(n:Int):Apt L (ps.modify j fun p=>(Yr n p.1,p.2)):=by
 refine⟨by rw[Hf];exact h.nd,by rw[Hf];exact h.ge,fun q a=>?_⟩;rcases mem_modify_iv a with a | ⟨p,b,rfl⟩
 ·exact h.rm q a
 ·exact h.rm p b
theorem CI.land{g:Nat}{ps:List IV}(h:CI w B d (.slice (some ⟨g,0,none⟩) ps.length c) ps)(j:Nat)(t:j<ps.length)(n:Int)(r:-9223372036854775808<=n)(s:n<=9223372036854775807) :
 CI (w.setCell ⟨g,j*7+1,none⟩ (.int .i64 n)) B d (.slice (some ⟨g,0,none⟩) ps.length c) (ps.modify j fun p=>(Yr n p.1,p.2))/\Fr (PCo B) w (w.setCell ⟨g,j*7+1,none⟩ (.int .i64 n)):=by
 obtain⟨l,hs2⟩:=h.row.stored (j*7+1) (.int .i64 n)
 have hf:Fr (PCo B) w (w.setCell ⟨g,j*7+1,none⟩ (.int .i64 n)):=(Fr.refl _ w).grown hs2 (fun k o e ho=>by
  injection e with e
  subst e;obtain⟨hb,m,f⟩:=Ug h.row g o rfl ho;subst f
  exact ⟨hb,rfl⟩)
 have u:d≠g:=fun e=>by
  subst e;obtain⟨_,m,f⟩:=Ug h.row d _ rfl h.blk;injection f with e1 e2
  exact absurd e2 (by decide)
 refine⟨⟨h.bc,by rw[Below.heap_setCell _ _ _ _ u];exact h.blk,?_,fun q i=>?_,fun e=>?_,h.ap.modify j n⟩,hf⟩
 ·rw[Hd]at l;rw[List.length_modify];exact l
 ·rcases mem_modify_iv i with i | ⟨p,v,rfl⟩
  ·exact(h.ok q i).fr hf PCo.str
  ·have:=(h.ok p v).fr hf PCo.str;exact⟨this.a,this.b,this.al,this.bl,this.an,this.bn,r,s⟩
 ·have:=congrArg List.length e;rw[List.length_modify]at this;simp at this;subst this;exact absurd t (Nat.not_lt_zero _)
theorem WM(b:List Nat)(j:Nat)(a:List Ins):landL (b++[j]) a=(landL b a).modify j (Yr ((a.length:Int) - ((j:Int)+1))):=by
 unfold landL;rw[List.foldl_append];show(List.foldl _ a b).modify j (Yr (((List.foldl _ a b).length:Int) - _))=_
 have:=JF b a;unfold landL at this;rw[this]
theorem Cf(B d n c:Nat)(a:List Nat)(z:Array Value)(b:List Ins)(w:World)(h:CC w B d b)(x:∀ j∈a,j<b.length)(q:w.heap[n]?=some (.cells z 3))(r:∀ k,k<a.length->z[k]?=some (.int .i64 ((a.getD k 0:Nat):Int)))(Z:b.length<=1000000)(X:a.length<=1000000) :
 Calls prog 256 #[.pointer (some ⟨d,0,none⟩),.slice (some ⟨n,0,none⟩) a.length c] w (Xq B d (landL a b) w):=by
 have H:=I h;have E:=I x;have C:=I q;have F:=I r;have S:=Qh q;clear h x q r;go_enter func256,ntmps256;go_wp2_with fail
 go_loopw [5,8] (fun _ i wr=>∃(k:Nat),k<=a.length/\i=.int .i64 (k:Int)/\CC wr B d (landL (a.take k) b)/\Fr (PCo B) w wr) (fun _ i _=>a.length - (intOf i).toNat)
 case atStart=>exact⟨0,QC,by go_num,H.o,Fr.refl _ _⟩
 case round=>
  obtain⟨k,r,rfl,e,hF⟩:=hrel;by_cases hlt:k<a.length
  ·have Y:wr.cell? ⟨n,k,none⟩=some (.int .i64 ((a.getD k 0:Nat):Int)):=by
    rw[Qn (hF.block _ _ C.o (PCo.not (by decide) (by decide)))];exact F.o k hlt
   have W:a.getD k 0<b.length:=E.o _ (by rw[List.getD_eq_getElem?_getD,List.getElem?_eq_getElem hlt];exact List.getElem_mem hlt)
   have J:Hid (landL (a.take (k+1)) b=(landL (a.take k) b).modify (a.getD k 0) (Yr ((b.length:Int) - ((a.getD k 0:Nat)+1:Int)))):=by
    show landL (a.take (k+1)) b=_
    rw[List.take_add_one,List.getElem?_eq_getElem hlt];show landL (a.take k++[a[k]]) b=_
    rw[WM,List.getD_eq_getElem?_getD,List.getElem?_eq_getElem hlt];rfl
   generalize a.getD k 0=j at *;obtain⟨P,A,s,f⟩:=e
   have y:A.length=b.length:=by
    have:=congrArg List.length s;rw[List.length_map,JF]at this;exact this
   have l:=f.row;rw[y]at l;obtain⟨g,M,L,Q,T,v⟩:=Y7 l (by omega);subst L;have N:=Qj f.blk
   obtain⟨u1,aa⟩:∃ u,wr.cell? ⟨g,j*7+1,none⟩=some u:=by
    refine⟨_,v (j*7+1) _ (by rw[Ce A j (by omega) 1 (by omega)];rfl)⟩
   have R:wr.frozen? ⟨g,j*7+1,none⟩=false:=l.frozenAt _;have p:=f;rw[<-y]at p;have t:=I (p.land j (by omega) ((b.length:Int) - ((j:Int)+1)) (by omega) (by omega));have G:=I s;have m:=I hF;have U:(0:Int)<=(j:Int):=by omega
   have V:(j:Int)<(b.length:Int):=by omega
   clear f p l v s hF;go_wp2_with fail;go_region;go_wp2;go_roundw
   case rel=>
    refine⟨k+1,by omega,by go_num,⟨_,_,?_,t.o.1.drew⟩,(m.o.trans t.o.2).drew⟩;rw[WL,G.o,J.o]
   case measure=>simp[intOf];omega
  ·have K:k=a.length:=by omega
   subst K;rw[List.take_length]at e;have D:=I e;have m:=I hF;clear e hF;go_wp2;go_end0;exact⟨rfl,D.o,m.o⟩
theorem Cg(h:Bool)(w:World):Calls prog 273 #[.bool h] w fun e w'=>e=.returned (Za (pushI h) (.slice none 0 0) (.slice none 0 0))/\Below w.heap.size w w':=by
 have b:∀ o,Below w.heap.size w (w.alloc o):=fun o=>Qs o
 have a:=I b;clear b;cases h
 ·go_enter func273,ntmps273;go_wp2;refine bodyPost_ret (v:=Za (pushI false) (.slice none 0 0) (.slice none 0 0)) (by simp[results,results273,go_sem,Za,pushI]) rfl ?_;exact⟨rfl,a.o _⟩
 ·go_enter func273,ntmps273;go_wp2;refine bodyPost_ret (v:=Za (pushI true) (.slice none 0 0) (.slice none 0 0)) (by simp[results,results273,go_sem,Za,pushI]) rfl ?_;exact⟨rfl,a.o _⟩
def Vp(w:World)(i:Ins)(av bv:Value):Prop:=Xg w i av bv/\av=.slice none 0 0/\bv=.slice none 0 0
theorem Vq(B d L:Nat)(a:List Ins)(i:Ins)(b c:Value)(W:World)(h:CL W B d a L)(q:Xg W i b c)(l:Apt L [(i,b,c)])(k:B<=L)(m:a.length+1<=1000000) :
 Calls prog 216 #[.pointer (some ⟨d,0,none⟩),.slice (some ⟨W.heap.size,0,none⟩) 1 1] (W.alloc (.cells #[.int .i64 i.op,.int .i64 i.n,.int .i64 i.tag,.bool i.oct,b,c,.int .i64 i.at_] 63)) fun e w'=>e=.returned (.int .i64 (a.length:Int))/\CC w' B d (a++[i])/\Fr (PCo B) W w':=by
 have f:∀ o,Below W.heap.size W (W.alloc o):=fun o=>Qs o
 refine(He B d W.heap.size 1 L a [(i,b,c)] _ (h.below (f _)) l k (QA _ _) (fun p r=>?_) (by simp) m).mono ?_
 ·rw[QY r];exact q.below (f _)
 ·rintro e w' ⟨rfl,g,j⟩;refine⟨?_,g,((Fr.refl _ W).alloc _).trans j⟩;show Ending.returned (.int .i64 ((a.length+1 - 1:Nat):Int))=_
  rw[Nat.add_sub_cancel]
theorem UP(B b:Nat)(a:List Ins)(i:Ins)(c d:Value)(W:World)(h:CC W B b a)(f:Vp W i c d)(g:a.length+1<=1000000) :
 Calls prog 216 #[.pointer (some ⟨b,0,none⟩),.slice (some ⟨W.heap.size,0,none⟩) 1 1] (W.alloc (.cells #[.int .i64 i.op,.int .i64 i.n,.int .i64 i.tag,.bool i.oct,c,d,.int .i64 i.at_] 63)) fun e w'=>e=.returned (.int .i64 (a.length:Int))/\CC w' B b (a++[i])/\Fr (PCo B) W w':=
 Vq B b W.heap.size a i c d W h.toL f.1 (Apt.none (fun p hp=>by rw[QY hp];exact f.2)) (Nat.le_of_lt (Nat.lt_of_le_of_lt h.lt.1 h.lt.2)) g
theorem WN(B c:Nat)(a:List Ins)(i j:Ins)(f k d g:Value)(W:World)(h:CC W B c a)(m:Vp W i f k)(q:Vp W j d g)(t:a.length+2<=1000000) :
 Calls prog 216 #[.pointer (some ⟨c,0,none⟩),.slice (some ⟨W.heap.size,0,none⟩) 2 2] (W.alloc (.cells #[.int .i64 i.op,.int .i64 i.n,.int .i64 i.tag,.bool i.oct,f,k,.int .i64 i.at_,.int .i64 j.op,.int .i64 j.n,.int .i64 j.tag,.bool j.oct,d,g,.int .i64 j.at_] 63)) fun e w'=>e=.returned (.int .i64 ((a.length+1:Nat):Int))/\CC w' B c (a++[i,j])/\Fr (PCo B) W w':=by
 have l:∀ o,Below W.heap.size W (W.alloc o):=fun o=>Qs o
 refine(He B c W.heap.size 2 W.heap.size a [(i,f,k),(j,d,g)] _ (h.toL.below (l _)) (Apt.none (fun p b=>by simp at b;rcases b with rfl|rfl;exact m.2;exact q.2)) (Nat.le_of_lt (Nat.lt_of_le_of_lt h.lt.1 h.lt.2)) (QA _ _) (fun p b=>?_) (by simp) t).mono ?_
 ·simp at b;rcases b with rfl|rfl
  ·exact m.1.below (l _)
  ·exact q.1.below (l _)
 ·rintro e w' ⟨rfl,r,s⟩;exact⟨rfl,r,((Fr.refl _ W).alloc _).trans s⟩
theorem UQ(W:World)(i:Ins)(ha:i.a=[])(hb:i.b=[])(h1:-9223372036854775808<=i.n)(h2:i.n<=9223372036854775807):Vp W i (.slice none 0 0) (.slice none 0 0):=
 ⟨⟨Qd ⟨rfl,ha⟩,Qd ⟨rfl,hb⟩,by rw[ha];simp,by rw[hb];simp,by rw[ha];simp,by rw[hb];simp,h1,h2⟩,rfl,rfl⟩
theorem Hg(B b:Nat)(j:Nat)(a:List Ins)(W:World)(h:CC W B b a)(g:j<a.length)(i:a.length<=1000000) :
 Calls prog 256 #[.pointer (some ⟨b,0,none⟩),.slice (some ⟨W.heap.size,0,none⟩) 1 1] (W.alloc (.cells #[.int .i64 (j:Int)] 3)) fun e w'=>e=.returned (.tuple #[])/\CC w' B b (landL [j] a)/\Fr (PCo B) W w':=by
 refine(Cf B b W.heap.size 1 [j] #[.int .i64 (j:Int)] a _ (h.alloc _) (fun k c=>by rw[QY c];exact g) (QA _ _) (fun k c=>?_) i (by simp)).mono ?_
 ·have:k=0:=by simp at c;exact c
  subst this;rfl
 ·rintro e w' ⟨rfl,d,f⟩;exact⟨rfl,d,((Fr.refl _ W).alloc _).trans f⟩
theorem WO{a:Option Addr}(h:w.ownsRow base e size (.slice a n c) n xs):n<=c:=by
 rcases h.2 with⟨h,i⟩ | ⟨g,d,f,b,_,_,j⟩
 ·omega
 ·injection b with _ _ hc
  subst hc;omega
theorem Ch(X:Nat->Prop)(xs:Qa)(v:Value)(w:World)(h:slX X xs w v)(o:xs.length<=1000000) :
 Calls prog 276 #[v] w fun e w'=>∃ a k,e=.returned (.slice a xs.length k)/\SlT w' (.slice a xs.length k) xs/\Below w.heap.size w w'/\(∀ g,(Value.slice a xs.length k).ownBlock=some g->w.heap.size<=g)/\xs.length<=k:=by
 obtain⟨g,c,rfl,_,m,q⟩:=h;refine(Tryz.slices_Clone_string g 0 xs.length c (xs.map sA) w (by simp) (by omega) (fun j d=>?_)).mono ?_
 ·rw[List.length_map]at d;rw[Nat.zero_add,m j d,List.getD_eq_getElem?_getD,List.getD_eq_getElem?_getD,List.getElem?_map,List.getElem?_eq_getElem d];rfl
 ·rintro e w' ⟨r,rfl,b,p,i⟩
  have f:((xs.map sA).take xs.length).map Value.string=Qw xs:=by
   rw[List.take_of_length_le (by simp),List.map_map];rfl
  rw[f]at b;obtain⟨a,k,n⟩:=ZC b;subst n;exact⟨a,k,rfl,SlT.of_owns b rfl,i,fun g l=>(b.lt g l).1,WO b⟩
end
section
open Go.RowKit
def setIns(w:World)(b:Nat)(i:Ins)(av bv:Value):World:=
 ((((((w.setCell ⟨b,0,none⟩ (.int .i64 i.op)).setCell ⟨b,1,none⟩ (.int .i64 i.n)).setCell ⟨b,2,none⟩ (.int .i64 i.tag)).setCell ⟨b,3,none⟩ (.bool i.oct)).setCell ⟨b,4,none⟩ av).setCell ⟨b,5,none⟩ bv).setCell ⟨b,6,none⟩ (.int .i64 i.at_)
theorem WP(w:World)(b:Nat)(i:Ins)(a c z y m j g f d:Value)(h:w.heap[b]?=some (.cells #[z,y,m,j,g,f,d] 63)):(setIns w b i a c).heap[b]?=some (.cells (WJ i a c) 63)/\Fr (fun k o=>k=b/\coO o=true) w (setIns w b i a c):=by
 have e:∀(W:World) (l:Array Value) (k:Nat) (v:Value),W.heap[b]?=some (.cells l 63)->(W.setCell ⟨b,k,none⟩ v).heap[b]?=some (.cells (l.setIfInBounds k v) 63)/\Fr (fun k o=>k=b/\coO o=true) W (W.setCell ⟨b,k,none⟩ v):=fun W l k v h=>⟨Qv W b k v l _ h,(Fr.refl _ W).set h ⟨rfl,rfl⟩ k v⟩
 unfold setIns;obtain⟨p,A⟩:=e w _ 0 (.int .i64 i.op) h;replace p:(w.setCell ⟨b,0,none⟩ (.int .i64 i.op)).heap[b]?=some (.cells #[.int .i64 i.op,y,m,j,g,f,d] 63):=p;generalize w.setCell ⟨b,0,none⟩ (.int .i64 i.op)=w0 at *;obtain⟨q,B⟩:=e w0 _ 1 (.int .i64 i.n) p;replace q:(w0.setCell ⟨b,1,none⟩ (.int .i64 i.n)).heap[b]?=some (.cells #[.int .i64 i.op,.int .i64 i.n,m,j,g,f,d] 63):=q;generalize w0.setCell ⟨b,1,none⟩ (.int .i64 i.n)=w1 at *;obtain⟨r,C⟩:=e w1 _ 2 (.int .i64 i.tag) q;replace r:(w1.setCell ⟨b,2,none⟩ (.int .i64 i.tag)).heap[b]?=some (.cells #[.int .i64 i.op,.int .i64 i.n,.int .i64 i.tag,j,g,f,d] 63):=r;generalize w1.setCell ⟨b,2,none⟩ (.int .i64 i.tag)=w2 at *;obtain⟨s,D⟩:=e w2 _ 3 (.bool i.oct) r;replace s:(w2.setCell ⟨b,3,none⟩ (.bool i.oct)).heap[b]?=some (.cells #[.int .i64 i.op,.int .i64 i.n,.int .i64 i.tag,.bool i.oct,g,f,d] 63):=s;generalize w2.setCell ⟨b,3,none⟩ (.bool i.oct)=w3 at *;obtain⟨t,E⟩:=e w3 _ 4 (a) s;replace t:(w3.setCell ⟨b,4,none⟩ (a)).heap[b]?=some (.cells #[.int .i64 i.op,.int .i64 i.n,.int .i64 i.tag,.bool i.oct,a,f,d] 63):=t;generalize w3.setCell ⟨b,4,none⟩ (a)=w4 at *;obtain⟨u,F⟩:=e w4 _ 5 (c) t;replace u:(w4.setCell ⟨b,5,none⟩ (c)).heap[b]?=some (.cells #[.int .i64 i.op,.int .i64 i.n,.int .i64 i.tag,.bool i.oct,a,c,d] 63):=u;generalize w4.setCell ⟨b,5,none⟩ (c)=w5 at *;obtain⟨x,G⟩:=e w5 _ 6 (.int .i64 i.at_) u;replace x:(w5.setCell ⟨b,6,none⟩ (.int .i64 i.at_)).heap[b]?=some (.cells #[.int .i64 i.op,.int .i64 i.n,.int .i64 i.tag,.bool i.oct,a,c,.int .i64 i.at_] 63):=x;generalize w5.setCell ⟨b,6,none⟩ (.int .i64 i.at_)=w6 at *;exact⟨x,A.trans (B.trans (C.trans (D.trans (E.trans (F.trans G)))))⟩
theorem Ci(d:Int)(X:Nat->Prop)(hw:L8)(x:QX)(p t:Value)(w:World)(q:slX X x.fr w p)(hk:slX X x.keys w t)(hlf:x.fr.length<=1000000)(D:x.keys.length<=1000000) :
 Calls prog 275 #[.int .i64 d,.agg #[.string (sA hw),.int .i64 x.pos,.int .i64 x.tag,.bool x.octet,p,t]] w fun e w'=>∃ a1 k1 a2 k2,e=.returned (Za (ZY d x) (.slice a1 x.fr.length k1) (.slice a2 x.keys.length k2))/\SlT w' (.slice a1 x.fr.length k1) x.fr/\SlT w' (.slice a2 x.keys.length k2) x.keys/\Below w.heap.size w w'/\Apt w.heap.size [(ZY d x,.slice a1 x.fr.length k1,.slice a2 x.keys.length k2)]:=by
 have u:=I q;have y:=I hk;obtain⟨gf,cf,rfl,E⟩:=q;obtain⟨gk,ck,rfl,F⟩:=hk;clear E F;go_enter func275,ntmps275;go_wp2_with fail;obtain⟨W,i⟩:=QE ((w.alloc (.cells #[.string (sA hw),.int .i64 x.pos,.int .i64 x.tag,.bool x.octet,.slice (some ⟨gf,0,none⟩) x.fr.length cf,.slice (some ⟨gk,0,none⟩) x.keys.length ck] 227)).alloc (.cells #[.int .i64 0,.int .i64 0,.int .i64 0,.bool false,.slice none 0 0,.slice none 0 0,.int .i64 0] 63));rw[<-i];have j:Below w.heap.size w W:=by rw[i];exact(Qs _).alloc (by simp) _
 have f:W.heap[w.heap.size]?=some (.cells #[.string (sA hw),.int .i64 x.pos,.int .i64 x.tag,.bool x.octet,.slice (some ⟨gf,0,none⟩) x.fr.length cf,.slice (some ⟨gk,0,none⟩) x.keys.length ck] 227):=by rw[i];exact Qy (QA _ _)
 have m:W.heap[w.heap.size+1]?=some (.cells #[.int .i64 0,.int .i64 0,.int .i64 0,.bool false,.slice none 0 0,.slice none 0 0,.int .i64 0] 63):=by rw[i];exact Zv (by simp)
 clear i;have Z:=QG f;have c3:=QH f;have c4:=QJ f;have c5:=QM f;have HFW:=I (u.o.keep (w':=W) (fun k _ hk=>j.block k hk));have HKW:=I (y.o.keep (w':=W) (fun k _ hk=>j.block k hk));have HWB:=I j;have HWb:=I f;have HWr:=I m;have hWs:=j.size;have aa:=Qh m;clear j f m
 go_region_held3 (fun w'=>w'.cell? ⟨w.heap.size,2,none⟩=some (.int .i64 x.tag)∧w'.cell? ⟨w.heap.size,3,none⟩=some (.bool x.octet)∧w'.cell? ⟨w.heap.size,4,none⟩=some (.slice (some ⟨gf,0,none⟩) x.fr.length cf)∧w'.cell? ⟨w.heap.size,5,none⟩=some (.slice (some ⟨gk,0,none⟩) x.keys.length ck)) (first | go_keep | exact ⟨Qn HW2.o 2,Qn HW2.o 3,Qn HW2.o 4,Qn HW2.o 5⟩) (first
  |(have gg:=HB1;go_at_call 276;refine(Ch X x.keys _ _ HKW1.o D).mono ?_;rintro e a ⟨a2,k2,rfl,s,g,r⟩;have HN2:=I r;have n:=I (HB1.o.trans (g.mono h1s));have HW2:=I (Zk HW1.o g);have b:=I (Zk HR1.o g);have A:=I s;have z:=I (HS1.o.below g);have e2:=QG HW2.o;have e3:=QH HW2.o;have e4:=QJ HW2.o;have e5:=QM HW2.o;have P:=Qj b.o;have Q:=Qo b.o;have R:=QG b.o;have S:=QH b.o;have T:=QJ b.o;have V:=QM b.o;have Y:=Zg b.o;have C:=Qz b.o;clear g s r;skip)
  | (go_at_call 276;refine (Ch X x.fr _ _ (HFW.o.keep (w':=W.drew) (fun _ _ _=>rfl)) hlf).mono ?_;rintro e w1 ⟨a1,k1,rfl,hs1,hB1,hn1⟩;have HN1:=I hn1;have HB1:=I (HWB.o.drew.trans (hB1.mono hWs));have HW1:=I (Zk (w:=W.drew) HWb.o hB1);have HR1:=I (Zk (w:=W.drew) HWr.o hB1);have HS1:=I hs1;have d2:=QG HW1.o;have d3:=QH HW1.o;have d4:=QJ HW1.o;have d5:=QM HW1.o;have h1s:=HB1.o.size;have HKW1:=I (HKW.o.keep (w':=w1) (fun k _ hk=>hB1.block k hk));clear hB1 hs1 hn1;skip))
 all_goals (
  clear C P Q R S T V Y;change Exit.then _ _ Exit.normal _ (setIns a (w.heap.size+1) (ZY d x) (.slice a1 x.fr.length k1) (.slice a2 x.keys.length k2));obtain⟨c,l⟩:=WP a (w.heap.size+1) (ZY d x) (.slice a1 x.fr.length k1) (.slice a2 x.keys.length k2) _ _ _ _ _ _ _ b.o;generalize setIns a (w.heap.size+1) (ZY d x) (.slice a1 x.fr.length k1) (.slice a2 x.keys.length k2)=U at *;have HUB:Hid (Below w.heap.size w U):=n.o.trans (l.below (fun k o e=>by rw[e.1];omega) n.o.size);have HU1:=I (SlT.fr z.o l (fun k B e=>Bool.noConfusion e.2));have HU2:=I (SlT.fr A.o l (fun k B e=>Bool.noConfusion e.2));have G:=Qj c;have H:=Qo c;have J:=QG c;have K:=QH c;have L:=QJ c;have M:=QM c;have N:=Zg c;clear c l;go_wp2;refine bodyPost_ret (v:=Za (ZY d x) (.slice a1 x.fr.length k1) (.slice a2 x.keys.length k2)) (by simp[results,results275,go_sem,Za,ZY,G,H,J,K,L,M,N]) rfl ?_
  exact ⟨a1,k1,a2,k2,rfl,HU1.o,HU2.o,HUB.o,Apt.two (fun k hk=>⟨Qm hWs (HN1.o.1 k hk),HS1.o.lt hk⟩) HN2.o.1 h1s HN1.o.2 HN2.o.2⟩)
end
section
open Go.RowKit
attribute [local go_sem ↓] Go.wp_at_zero Go.wp_at_succ
theorem WQ(hw:L8)(p:Nat)(a:L8)(w:World) :
 Calls prog 217 #[.agg #[.string (sA hw),.int .i64 p,.int .i64 1,.string (sA a)]] w fun e w'=>e=.returned (Za (ZL 1 p []) (.slice none 0 0) (.slice none 0 0))/\Below w.heap.size w w':=by
 go_enter func217,ntmps217;go_wp2;refine bodyPost_ret (v:=Za (ZL 1 p []) (.slice none 0 0) (.slice none 0 0)) (by simp[results,results217,go_sem,Za,ZL]) rfl ?_;exact⟨rfl,((Qs _).alloc (by simp) _).alloc (by simp;omega) _⟩
theorem WR(hw:L8)(p:Nat)(k:Nat)(a:L8)(w:World)(c:k≠1) :
 Calls prog 217 #[.agg #[.string (sA hw),.int .i64 p,.int .i64 k,.string (sA a)]] w fun e w'=>∃ g,e=.returned (Za (ZL k p [a]) (.slice (some ⟨g,0,none⟩) 1 1) (.slice none 0 0))/\SlT w' (.slice (some ⟨g,0,none⟩) 1 1) [a]/\Below w.heap.size w w'/\w.heap.size<=g:=by
 have d:((k:Int) != 1)=true:=by simp;omega
 go_enter func217,ntmps217;go_wp2;refine bodyPost_ret (v:=Za (ZL k p [a]) (.slice (some ⟨w.heap.size+1+1+1,0,none⟩) 1 1) (.slice none 0 0)) (by simp[results,results217,go_sem,Za,ZL]) rfl ?_;refine⟨w.heap.size+1+1+1,rfl,Qc ⟨w.heap.size+1+1+1,1,rfl,#[.string (sA a)],Zv (by simp),fun j b=>?_⟩,(((Qs _).alloc (by simp) _).alloc (by simp;omega) _).alloc (by simp;omega) _,by omega⟩;have:j=0:=by simp at b;exact b
 subst this;rfl
end
section
open Go.RowKit
section
variable {P:Program} {w:World} {t xT T:TypeId} {v z:Value}
theorem J7(d:P.underlying T=some (.struct a))(e:(P.info? T).map (·.zero)=some (some z))(c:¬ t=T) :
 (Instr.typeAssert (.iface t v) xT T true).run P w=.ok (.tuple #[z,.bool false]) w:=by
 obtain⟨j,b,f⟩:=Option.map_eq_some_iff.1 e;simp[Instr.typeAssert,run_underlying d,typeInfo,c,zeroValue,b,f]
theorem Jt(b:P.underlying T=some (.struct a)) :
 (Instr.typeAssert (.iface T v) xT T true).run P w=.ok (.tuple #[v,.bool true]) w:=by
 simp[Instr.typeAssert,run_underlying b]
end
theorem Tryz.noNot(t xT:TypeId)(v:Value)(w:World)(h:¬ t=305):(Instr.typeAssert (.iface t v) xT 305 true).run prog w=.ok (.tuple #[.agg #[.string ⟨#[]⟩,.int .i64 0,.nilIface],.bool false]) w:=J7 underlying305 (by kernel_rfl) h
theorem Tryz.yesNot(xT:TypeId)(v:Value)(w:World):(Instr.typeAssert (.iface 305 v) xT 305 true).run prog w=.ok (.tuple #[v,.bool true]) w:=Jt underlying305
theorem Tryz.noAllOf(t xT:TypeId)(v:Value)(w:World)(h:¬ t=224):(Instr.typeAssert (.iface t v) xT 224 true).run prog w=.ok (.tuple #[.agg #[.string ⟨#[]⟩,.int .i64 0,.slice none 0 0],.bool false]) w:=J7 underlying224 (by kernel_rfl) h
theorem Tryz.yesAllOf(xT:TypeId)(v:Value)(w:World):(Instr.typeAssert (.iface 224 v) xT 224 true).run prog w=.ok (.tuple #[v,.bool true]) w:=Jt underlying224
theorem Tryz.noAnyOf(t xT:TypeId)(v:Value)(w:World)(h:¬ t=225):(Instr.typeAssert (.iface t v) xT 225 true).run prog w=.ok (.tuple #[.agg #[.string ⟨#[]⟩,.int .i64 0,.slice none 0 0],.bool false]) w:=J7 underlying225 (by kernel_rfl) h
theorem Tryz.yesAnyOf(xT:TypeId)(v:Value)(w:World):(Instr.typeAssert (.iface 225 v) xT 225 true).run prog w=.ok (.tuple #[v,.bool true]) w:=Jt underlying225
theorem Tryz.noHeader(t xT:TypeId)(v:Value)(w:World)(h:¬ t=231):(Instr.typeAssert (.iface t v) xT 231 true).run prog w=.ok (.tuple #[.agg #[.string ⟨#[]⟩,.int .i64 0,.int .i64 0,.bool false,.slice none 0 0,.slice none 0 0],.bool false]) w:=J7 underlying231 (by kernel_rfl) h
theorem Tryz.yesHeader(xT:TypeId)(v:Value)(w:World):(Instr.typeAssert (.iface 231 v) xT 231 true).run prog w=.ok (.tuple #[v,.bool true]) w:=Jt underlying231
theorem Tryz.noEnvelope(t xT:TypeId)(v:Value)(w:World)(h:¬ t=234):(Instr.typeAssert (.iface t v) xT 234 true).run prog w=.ok (.tuple #[.agg #[.string ⟨#[]⟩,.int .i64 0,.int .i64 0,.bool false,.slice none 0 0,.slice none 0 0],.bool false]) w:=J7 underlying234 (by kernel_rfl) h
theorem Tryz.yesEnvelope(xT:TypeId)(v:Value)(w:World):(Instr.typeAssert (.iface 234 v) xT 234 true).run prog w=.ok (.tuple #[v,.bool true]) w:=Jt underlying234
theorem Tryz.noString(t xT:TypeId)(v:Value)(w:World)(h:¬ t=235):(Instr.typeAssert (.iface t v) xT 235 true).run prog w=.ok (.tuple #[.agg #[.string ⟨#[]⟩,.int .i64 0,.int .i64 0,.bool false,.slice none 0 0,.slice none 0 0],.bool false]) w:=J7 underlying235 (by kernel_rfl) h
theorem Tryz.yesString(xT:TypeId)(v:Value)(w:World):(Instr.typeAssert (.iface 235 v) xT 235 true).run prog w=.ok (.tuple #[v,.bool true]) w:=Jt underlying235
theorem Tryz.noExists(t xT:TypeId)(v:Value)(w:World)(h:¬ t=309):(Instr.typeAssert (.iface t v) xT 309 true).run prog w=.ok (.tuple #[.agg #[.string ⟨#[]⟩,.int .i64 0,.slice none 0 0],.bool false]) w:=J7 underlying309 (by kernel_rfl) h
theorem Tryz.yesExists(xT:TypeId)(v:Value)(w:World):(Instr.typeAssert (.iface 309 v) xT 309 true).run prog w=.ok (.tuple #[v,.bool true]) w:=Jt underlying309
theorem Tryz.yesSize(xT:TypeId)(v:Value)(w:World):(Instr.typeAssert (.iface 311 v) xT 311 true).run prog w=.ok (.tuple #[v,.bool true]) w:=Jt underlying311
theorem Tryz.yesIf(xT:TypeId)(v:Value)(w:World):(Instr.typeAssert (.iface 261 v) xT 261 true).run prog w=.ok (.tuple #[v,.bool true]) w:=Jt underlying261
theorem Tryz.noSet(t xT:TypeId)(v:Value)(w:World)(h:¬ t=264):(Instr.typeAssert (.iface t v) xT 264 true).run prog w=.ok (.tuple #[.agg #[.string ⟨#[]⟩,.int .i64 0,.int .i64 0,.string ⟨#[]⟩,.string ⟨#[]⟩],.bool false]) w:=J7 underlying264 (by kernel_rfl) h
theorem Tryz.yesSet(xT:TypeId)(v:Value)(w:World):(Instr.typeAssert (.iface 264 v) xT 264 true).run prog w=.ok (.tuple #[v,.bool true]) w:=Jt underlying264
theorem Tryz.noAct(t xT:TypeId)(v:Value)(w:World)(h:¬ t=269):(Instr.typeAssert (.iface t v) xT 269 true).run prog w=.ok (.tuple #[.agg #[.string ⟨#[]⟩,.int .i64 0,.int .i64 0,.string ⟨#[]⟩],.bool false]) w:=J7 underlying269 (by kernel_rfl) h
theorem Tryz.yesAct(xT:TypeId)(v:Value)(w:World):(Instr.typeAssert (.iface 269 v) xT 269 true).run prog w=.ok (.tuple #[v,.bool true]) w:=Jt underlying269
theorem Tryz.noTruth(t xT:TypeId)(v:Value)(w:World)(h:¬ t=302):(Instr.typeAssert (.iface t v) xT 302 true).run prog w=.ok (.tuple #[.agg #[.string ⟨#[]⟩,.int .i64 0,.bool false],.bool false]) w:=J7 underlying302 (by kernel_rfl) h
theorem Tryz.yesTruth(xT:TypeId)(v:Value)(w:World):(Instr.typeAssert (.iface 302 v) xT 302 true).run prog w=.ok (.tuple #[v,.bool true]) w:=Jt underlying302
theorem Tryz.noDiscard(t xT:TypeId)(v:Value)(w:World)(h:¬ t=294):(Instr.typeAssert (.iface t v) xT 294 true).run prog w=.ok (.tuple #[.agg #[.string ⟨#[]⟩,.int .i64 0],.bool false]) w:=J7 underlying294 (by kernel_rfl) h
theorem Tryz.yesDiscard(xT:TypeId)(v:Value)(w:World):(Instr.typeAssert (.iface 294 v) xT 294 true).run prog w=.ok (.tuple #[v,.bool true]) w:=Jt underlying294
theorem Tryz.noStop(t xT:TypeId)(v:Value)(w:World)(h:¬ t=295):(Instr.typeAssert (.iface t v) xT 295 true).run prog w=.ok (.tuple #[.agg #[.string ⟨#[]⟩,.int .i64 0],.bool false]) w:=J7 underlying295 (by kernel_rfl) h
theorem Tryz.yesStop(xT:TypeId)(v:Value)(w:World):(Instr.typeAssert (.iface 295 v) xT 295 true).run prog w=.ok (.tuple #[v,.bool true]) w:=Jt underlying295
end
section
open Go.RowKit
attribute [local go_sem ↓] Go.wp_at_zero Go.wp_at_succ
def SubC(fn B cb:Nat)(w:World)(v:Value)(sub:List Ins->List Ins):Prop:=
 ∀ W cs,Below B w W->CC W B cb cs->(sub cs).length<=1000000->Calls prog fn #[.pointer (some ⟨cb,0,none⟩),v] W (Xq B cb (sub cs) W)
theorem SubC.below{fn:Nat}{sub:List Ins->List Ins}(h:SubC fn B cb w v sub)(hb:Below B w w'):SubC fn B cb w' v sub:=fun W cs hW hc hl=>h W cs (hb.trans hW) hc hl
theorem Cj(g B b:Nat)(a:List Ins)(i:Ins)(c d:Value)(W:World)(f:g=W.heap.size)(h:CC W B b a)(k:Vp W i c d)(j:a.length+1<=1000000) :
 Calls prog 216 #[.pointer (some ⟨b,0,none⟩),.slice (some ⟨g,0,none⟩) 1 1] (W.alloc (.cells #[.int .i64 i.op,.int .i64 i.n,.int .i64 i.tag,.bool i.oct,c,d,.int .i64 i.at_] 63)) fun e w'=>e=.returned (.int .i64 (a.length:Int))/\CC w' B b (a++[i])/\Fr (PCo B) W w':=by
 subst f;exact UP B b a i c d W h k j
theorem WS(g B d L:Nat)(a:List Ins)(i:Ins)(b c:Value)(W:World)(k:g=W.heap.size)(h:CL W B d a L)(m:Xg W i b c)(j:Apt L [(i,b,c)])(f:B<=L)(l:a.length+1<=1000000) :
 Calls prog 216 #[.pointer (some ⟨d,0,none⟩),.slice (some ⟨g,0,none⟩) 1 1] (W.alloc (.cells #[.int .i64 i.op,.int .i64 i.n,.int .i64 i.tag,.bool i.oct,b,c,.int .i64 i.at_] 63)) fun e w'=>e=.returned (.int .i64 (a.length:Int))/\CC w' B d (a++[i])/\Fr (PCo B) W w':=by
 subst k;exact Vq B d L a i b c W h m j f l
theorem Hh(hw:L8)(p:Nat)(b:Bool)(B a:Nat)(c:List Ins)(w:World)(h:CC w B a c)(k:c.length+1<=1000000) :
 Calls prog 255 #[.pointer (some ⟨a,0,none⟩),.iface 302 (.agg #[.string (sA hw),.int .i64 p,.bool b])] w (Xq B a (c++[pushI b]) w):=by
 have u:=Tryz.yesTruth;have H:=I h;have r:=I k;have f:∀ o,Below w.heap.size w (w.alloc o):=fun o=>Qs o
 have l:=I f;clear h k f;go_enter func255,ntmps255;go_wp2_with (first|(go_at_call 273;refine(Cg b _).mono ?_;rintro e s ⟨rfl,g⟩;have d:=I ((l.o _).trans (g.mono (by simp)));have m:=I (H.o.below d.o);clear g;unfold Za;skip)|(go_at_call 216;refine(UP B a c (pushI b) _ _ s m.o (UQ _ _ rfl rfl (by cases b<;>decide) (by cases b<;>decide)) r.o).mono ?_;rintro e t ⟨rfl,i,j⟩;have n:=I i;have q:=I ((Fr.of_below d.o).trans j);clear i j;skip));go_end0;exact⟨rfl,n.o,q.o⟩
theorem WT(X:Nat->Prop)(hw:L8)(x:QX)(u:Value)(B c:Nat)(d:List Ins)(w:World)(h:CC w B c d)(v:d.length+1<=1000000)(P:mtX X hw x w u)(i:x.fr.length<=1000000)(j:x.keys.length<=1000000)(l:∀ z∈x.fr,z.length<=100000)(m:∀ z∈x.keys,z.length<=100000) :
 Calls prog 255 #[.pointer (some ⟨c,0,none⟩),.iface 231 u] w (Xq B c (d++[ZY 6 x]) w):=by
 obtain⟨Y,kv,rfl,s,b⟩:=P;have F:=I s;have J:=I b;obtain⟨Z,V,rfl,Q⟩:=s;obtain⟨gk,W,rfl,R⟩:=b;have a:=I (And.intro i (And.intro j (And.intro l m)));clear Q R i j l m;have n0:=Tryz.noTruth;have n1:=Tryz.noNot;have n2:=Tryz.noAllOf;have n3:=Tryz.noAnyOf;have yy:=Tryz.yesHeader;have H:=I h;have N:B<=w.heap.size:=Nat.le_of_lt (Nat.lt_of_le_of_lt h.lt.1 h.lt.2);have K:=I v;have n:∀ o,Below w.heap.size w (w.alloc o):=fun o=>Qs o
 have f:=I n;clear h v n;go_enter func255,ntmps255;go_wp2_with (first|(go_at_call 275;refine(Ci 6 X hw x _ _ _ (F.o.keep (fun k _ b=>(f.o _).block k b)) (J.o.keep (fun k _ b=>(f.o _).block k b)) a.o.1 a.o.2.1).mono ?_;rintro e S ⟨T,k1,U,k2,rfl,y,A,q,p⟩;have C:=I (p.mono (L':=w.heap.size) (by simp));have g:=I ((f.o _).trans (q.mono (by simp)));have D:=I (H.o.toL.below g.o);have L:=I y;have M:=I A;clear q y A p;unfold Za;skip)|(go_at_call 216;refine(Vq B c w.heap.size d (ZY 6 x) _ _ S D.o ⟨L.o,M.o,a.o.2.2.1,a.o.2.2.2,a.o.1,a.o.2.1,(by show(-9223372036854775808:Int)<=0;decide),(by show(0:Int)<=9223372036854775807;decide)⟩ C.o N K.o).mono ?_;rintro e w2 ⟨rfl,r,t⟩;have E:=I r;have G:=I ((Fr.of_below g.o).trans t);clear r t;skip));go_end0;exact⟨rfl,E.o,G.o⟩
theorem WU(X:Nat->Prop)(hw:L8)(x:QX)(u:Value)(B c:Nat)(d:List Ins)(w:World)(h:CC w B c d)(v:d.length+1<=1000000)(P:mtX X hw x w u)(i:x.fr.length<=1000000)(j:x.keys.length<=1000000)(l:∀ z∈x.fr,z.length<=100000)(m:∀ z∈x.keys,z.length<=100000) :
 Calls prog 255 #[.pointer (some ⟨c,0,none⟩),.iface 234 u] w (Xq B c (d++[ZY 7 x]) w):=by
 obtain⟨Y,kv,rfl,s,b⟩:=P;have F:=I s;have J:=I b;obtain⟨Z,V,rfl,Q⟩:=s;obtain⟨gk,W,rfl,R⟩:=b;have a:=I (And.intro i (And.intro j (And.intro l m)));clear Q R i j l m;have n0:=Tryz.noTruth;have n1:=Tryz.noNot;have n2:=Tryz.noAllOf;have n3:=Tryz.noAnyOf;have n4:=Tryz.noHeader;have yy:=Tryz.yesEnvelope;have H:=I h;have N:B<=w.heap.size:=Nat.le_of_lt (Nat.lt_of_le_of_lt h.lt.1 h.lt.2);have K:=I v;have n:∀ o,Below w.heap.size w (w.alloc o):=fun o=>Qs o
 have f:=I n;clear h v n;go_enter func255,ntmps255;go_wp2_with (first|(go_at_call 275;refine(Ci 7 X hw x _ _ _ (F.o.keep (fun k _ b=>(f.o _).block k b)) (J.o.keep (fun k _ b=>(f.o _).block k b)) a.o.1 a.o.2.1).mono ?_;rintro e S ⟨T,k1,U,k2,rfl,y,A,q,p⟩;have C:=I (p.mono (L':=w.heap.size) (by simp));have g:=I ((f.o _).trans (q.mono (by simp)));have D:=I (H.o.toL.below g.o);have L:=I y;have M:=I A;clear q y A p;unfold Za;skip)|(go_at_call 216;refine(Vq B c w.heap.size d (ZY 7 x) _ _ S D.o ⟨L.o,M.o,a.o.2.2.1,a.o.2.2.2,a.o.1,a.o.2.1,(by show(-9223372036854775808:Int)<=0;decide),(by show(0:Int)<=9223372036854775807;decide)⟩ C.o N K.o).mono ?_;rintro e w2 ⟨rfl,r,t⟩;have E:=I r;have G:=I ((Fr.of_below g.o).trans t);clear r t;skip));go_end0;exact⟨rfl,E.o,G.o⟩
theorem WV(X:Nat->Prop)(hw:L8)(x:QX)(u:Value)(B c:Nat)(d:List Ins)(w:World)(h:CC w B c d)(v:d.length+1<=1000000)(P:mtX X hw x w u)(i:x.fr.length<=1000000)(j:x.keys.length<=1000000)(l:∀ z∈x.fr,z.length<=100000)(m:∀ z∈x.keys,z.length<=100000) :
 Calls prog 255 #[.pointer (some ⟨c,0,none⟩),.iface 235 u] w (Xq B c (d++[ZY 8 x]) w):=by
 obtain⟨Y,kv,rfl,s,b⟩:=P;have F:=I s;have J:=I b;obtain⟨Z,V,rfl,Q⟩:=s;obtain⟨gk,W,rfl,R⟩:=b;have a:=I (And.intro i (And.intro j (And.intro l m)));clear Q R i j l m;have n0:=Tryz.noTruth;have n1:=Tryz.noNot;have n2:=Tryz.noAllOf;have n3:=Tryz.noAnyOf;have n4:=Tryz.noHeader;have n5:=Tryz.noEnvelope;have yy:=Tryz.yesString;have H:=I h;have N:B<=w.heap.size:=Nat.le_of_lt (Nat.lt_of_le_of_lt h.lt.1 h.lt.2);have K:=I v;have n:∀ o,Below w.heap.size w (w.alloc o):=fun o=>Qs o
 have f:=I n;clear h v n;go_enter func255,ntmps255;go_wp2_with (first|(go_at_call 275;refine(Ci 8 X hw x _ _ _ (F.o.keep (fun k _ b=>(f.o _).block k b)) (J.o.keep (fun k _ b=>(f.o _).block k b)) a.o.1 a.o.2.1).mono ?_;rintro e S ⟨T,k1,U,k2,rfl,y,A,q,p⟩;have C:=I (p.mono (L':=w.heap.size) (by simp));have g:=I ((f.o _).trans (q.mono (by simp)));have D:=I (H.o.toL.below g.o);have L:=I y;have M:=I A;clear q y A p;unfold Za;skip)|(go_at_call 216;refine(Vq B c w.heap.size d (ZY 8 x) _ _ S D.o ⟨L.o,M.o,a.o.2.2.1,a.o.2.2.2,a.o.1,a.o.2.1,(by show(-9223372036854775808:Int)<=0;decide),(by show(0:Int)<=9223372036854775807;decide)⟩ C.o N K.o).mono ?_;rintro e w2 ⟨rfl,r,t⟩;have E:=I r;have G:=I ((Fr.of_below g.o).trans t);clear r t;skip));go_end0;exact⟨rfl,E.o,G.o⟩
theorem WW(X:Nat->Prop)(hw:L8)(p:Nat)(xs:Qa)(u:Value)(B b:Nat)(c:List Ins)(w:World)(h:CC w B b c)(s:c.length+1<=1000000)(t:slX X xs w u)(l:xs.length<=1000000)(m:∀ z∈xs,z.length<=100000) :
 Calls prog 255 #[.pointer (some ⟨b,0,none⟩),.iface 309 (.agg #[.string (sA hw),.int .i64 p,u])] w (Xq B b (c++[⟨9,0,0,false,xs,[],0⟩]) w):=by
 have E:=I t;obtain⟨R,Q,rfl,M⟩:=t;have d:=I (And.intro l m);clear M l m;have S:=Tryz.noTruth;have T:=Tryz.noNot;have U:=Tryz.noAllOf;have V:=Tryz.noAnyOf;have W:=Tryz.noHeader;have Y:=Tryz.noEnvelope;have Z:=Tryz.noString;have yy:=Tryz.yesExists;have H:=I h;have L:B<=w.heap.size:=Nat.le_of_lt (Nat.lt_of_le_of_lt h.lt.1 h.lt.2);have G:=I s;have n:∀ o,Below w.heap.size w (w.alloc o):=fun o=>Qs o
 have i:=I n;clear h s n;go_enter func255,ntmps255;go_wp2_with (first|(go_at_call 276;refine(Ch X xs _ _ (E.o.keep (fun k _ a=>(i.o _).block k a)) d.o.1).mono ?_;rintro e y ⟨K,P,rfl,g,f,v,x⟩;have A:Hid (Apt w.heap.size [((⟨9,0,0,false,xs,[],0⟩:Ins),Value.slice K xs.length P,Value.slice none 0 0)]):=Apt.two (L2:=y.heap.size) (fun k a=>⟨Qm (by simp) (v k a),g.lt a⟩) (fun k a=>nomatch a) (Qm (by simp) f.size) x Qt;have j:=I ((i.o _).trans (f.mono (by simp)));have C:=I (H.o.toL.below j.o);have J:=I g;clear f g v x;skip)|(go_at_call 216;refine(Vq B b w.heap.size c ⟨9,0,0,false,xs,[],0⟩ _ _ y C.o ⟨J.o,Qd ⟨rfl,rfl⟩,d.o.2,(fun z N=>nomatch N),d.o.1,QC,(by show(-9223372036854775808:Int)<=0;decide),(by show(0:Int)<=9223372036854775807;decide)⟩ A.o L G.o).mono ?_;rintro e w2 ⟨rfl,q,r⟩;have D:=I q;have F:=I ((Fr.of_below j.o).trans r);clear q r;skip));go_end0;exact⟨rfl,D.o,F.o⟩
theorem WX(hw:L8)(p d a:Nat)(B b:Nat)(c:List Ins)(w:World)(h:CC w B b c)(k:c.length+1<=1000000)(s:a<=2147483647) :
 Calls prog 255 #[.pointer (some ⟨b,0,none⟩),.iface 311 (.agg #[.string (sA hw),.int .i64 p,.int .i64 d,.int .i64 a])] w (Xq B b (c++[⟨10,a,d,false,[],[],0⟩]) w):=by
 have f:Hid ((-9223372036854775808:Int)<=(a:Int)/\(a:Int)<=9223372036854775807):=by show _/\_;omega
 have m:Hid (∀ o,CC (w.alloc o) B b c):=fun o=>h.alloc o
 have t:=Tryz.noTruth;have u:=Tryz.noNot;have v:=Tryz.noAllOf;have x:=Tryz.noAnyOf;have y:=Tryz.noHeader;have z:=Tryz.noEnvelope;have A:=Tryz.noString;have C:=Tryz.noExists;have E:=Tryz.yesSize;have H:=I h;have r:=I k;have g:∀ o,Below w.heap.size w (w.alloc o):=fun o=>Qs o
 have l:=I g;clear h k g;go_enter func255,ntmps255;go_wp2_with (first|(go_at_call 216;refine(Cj _ B b c ⟨10,a,d,false,[],[],0⟩ _ _ _ (by simp) (m.o _) (UQ _ _ rfl rfl f.o.1 f.o.2) r.o).mono ?_;rintro e D ⟨rfl,i,j⟩;have n:=I i;have q:=I ((Fr.of_below (l.o _)).trans j);clear i j;skip));go_end0;exact⟨rfl,n.o,q.o⟩
theorem WY(hw:L8)(p:Nat)(m:TypeId)(y:Value)(sub:List Ins->List Ins)(B a:Nat)(b:List Ins)(w:World)(h:CC w B a b)(k:(sub b).length+1<=1000000)(l:SubC 255 B a w (.iface m y) sub) :
 Calls prog 255 #[.pointer (some ⟨a,0,none⟩),.iface 305 (.agg #[.string (sA hw),.int .i64 p,.iface m y])] w (Xq B a (sub b++[insOp 2]) w):=by
 have v:=I l;have q:Hid (∀ o,Below B w (w.alloc o)):=fun o=>(Below.refl _ _).alloc (Nat.le_of_lt (Nat.lt_of_le_of_lt h.lt.1 h.lt.2)) o
 clear l;have x:=Tryz.noTruth;have C:=Tryz.yesNot;have H:=I h;have c:=I k;have d:∀ o,Below w.heap.size w (w.alloc o):=fun o=>Qs o
 have n:=I d;clear h k d;go_enter func255,ntmps255;go_wp2_with (first|(go_at_call 255;refine(v.o _ b (q.o _) (H.o.alloc _) (Nat.le_of_succ_le c.o)).mono ?_;rintro e z ⟨rfl,f,i⟩;have r:=I f;have t:=I ((Fr.of_below (n.o _)).trans i);clear f i;skip)|(go_at_call 216;refine(UP B a (sub b) (insOp 2) _ _ _ r.o (UQ _ _ rfl rfl (by decide) (by decide)) c.o).mono ?_;rintro e A ⟨rfl,g,j⟩;have s:=I g;have u:=I (t.o.trans j);clear g j;skip));go_end0;exact⟨rfl,s.o,u.o⟩
theorem WZ(hw:L8)(p:Nat)(a:Option Addr)(n c:Nat)(f:List Ins)(B b:Nat)(d:List Ins)(w:World)(h:CC w B b d)(k:B<=w.heap.size)(l:∀ W,Below B w W->CC W B b d->Calls prog 274 #[.pointer (some ⟨b,0,none⟩),.slice a n c,.int .i64 5,.bool false] W (Xq B b f W)) :
 Calls prog 255 #[.pointer (some ⟨b,0,none⟩),.iface 224 (.agg #[.string (sA hw),.int .i64 p,.slice a n c])] w (Xq B b f w):=by
 have t:=I l;have q:Hid (∀ o,Below B w (w.alloc o)):=fun o=>(Below.refl _ _).alloc (Nat.le_of_lt (Nat.lt_of_le_of_lt h.lt.1 h.lt.2)) o
 clear l;have v:=Tryz.noTruth;have x:=Tryz.noNot;have z:=Tryz.yesAllOf;have H:=I h;have u:=I k;have g:∀ o,Below w.heap.size w (w.alloc o):=fun o=>Qs o
 have m:=I g;clear h k g;go_enter func255,ntmps255;go_wp2_with (first|(go_at_call 274;refine(t.o _ (q.o _) (H.o.alloc _)).mono ?_;rintro e y ⟨rfl,i,j⟩;have r:=I i;have s:=I ((Fr.of_below (m.o _)).trans j);clear i j;skip));go_end0;exact⟨rfl,r.o,s.o⟩
theorem W4(hw:L8)(p:Nat)(a:Option Addr)(n c:Nat)(f:List Ins)(B b:Nat)(d:List Ins)(w:World)(h:CC w B b d)(k:B<=w.heap.size)(l:∀ W,Below B w W->CC W B b d->Calls prog 274 #[.pointer (some ⟨b,0,none⟩),.slice a n c,.int .i64 4,.bool true] W (Xq B b f W)) :
 Calls prog 255 #[.pointer (some ⟨b,0,none⟩),.iface 225 (.agg #[.string (sA hw),.int .i64 p,.slice a n c])] w (Xq B b f w):=by
 have t:=I l;have q:Hid (∀ o,Below B w (w.alloc o)):=fun o=>(Below.refl _ _).alloc (Nat.le_of_lt (Nat.lt_of_le_of_lt h.lt.1 h.lt.2)) o
 clear l;have v:=Tryz.noTruth;have x:=Tryz.noNot;have y:=Tryz.noAllOf;have A:=Tryz.yesAnyOf;have H:=I h;have u:=I k;have g:∀ o,Below w.heap.size w (w.alloc o):=fun o=>Qs o
 have m:=I g;clear h k g;go_enter func255,ntmps255;go_wp2_with (first|(go_at_call 274;refine(t.o _ (q.o _) (H.o.alloc _)).mono ?_;rintro e z ⟨rfl,i,j⟩;have r:=I i;have s:=I ((Fr.of_below (m.o _)).trans j);clear i j;skip));go_end0;exact⟨rfl,r.o,s.o⟩
end
section
open Go.RowKit
theorem Fr.grownNew{a:Option Nat}(h:Fr P u w)(hg:w.grownBy w' a)(b:∀ k,a=some k->u.heap.size<=k):Fr P u w':=
 ⟨hg.os.trans h.os,hg.tape.trans h.tape,hg.output.trans h.output,Qm h.size hg.size,fun k o hk hn=>by
  have hk':=h.block k o hk hn;rw[hg.block k (Qh hk') (fun e=>by have:=b k e.symm;have:=Qh hk;omega)]
  exact hk'⟩
def KS(js:List Nat):List Value:=js.map fun j=>.int .i64 ((j:Nat):Int)
theorem Hi(a:List Nat)(j:Nat):KS a++[.int .i64 (j:Int)]=KS (a++[j]):=by simp[KS]
theorem Tryz.infoIntJ:(prog.info? 3).map (fun i=>(i.zero,i.size,i.bytes))=some (some (.int .i64 0),1,8):=by kernel_rfl
theorem At(W:World)(op:Int):Vp W (insOp op) (.slice none 0 0) (.slice none 0 0):=UQ W _ rfl rfl (by show(-9223372036854775808:Int)<=0;decide) (by show(0:Int)<=9223372036854775807;decide)
theorem Hj(W:World)(b:Bool):Vp W (pushI b) (.slice none 0 0) (.slice none 0 0):=UQ W _ rfl rfl (by cases b<;>decide) (by cases b<;>decide)
theorem Hk(x:Int):∀ u∈[Value.int .i64 x],u.oneCell'=true:=by
 intro u a;simp at a;subst a;rfl
theorem CC.grownInt{b:Nat}{a:List Ins}(h:CC w B b a)(g:w.ownsRow base 3 1 v n xs)(f:w.grownBy w' v.ownBlock):CC w' B b a:=by
 obtain⟨d,j,e,h⟩:=h;refine⟨d,j,e,h.fr (P:=fun k o=>∃ a,o=.cells a 3) ((Fr.refl _ w).grown f (fun k o e i=>(Ug g k o e i).2)) ?_ ?_ ?_⟩
 ·rintro k a ⟨c,e⟩;injection e with _ e;exact absurd e (by decide)
 ·rintro k a ⟨c,e⟩;injection e with _ e;exact absurd e (by decide)
 ·rintro k a ⟨c,e⟩;injection e with _ e;exact absurd e (by decide)
theorem Hl{a:List Nat}(m:w.ownsRow base 3 1 v a.length (KS a))(l:a≠[]):∃ gj c kcs,v=.slice (some ⟨gj,0,none⟩) a.length c/\w.heap[gj]?=some (.cells kcs 3)/\∀ k,k<a.length->kcs[k]?=some (.int .i64 ((a.getD k 0:Nat):Int)):=by
 rcases m.2 with⟨_,i⟩ | ⟨g,e,f,o,q,j,p,_,r,n⟩
 ·exact absurd (XB i) l
 ·refine⟨g,e,f,o,j,fun k d=>?_⟩
  have b:(KS a)[k]?=some (.int .i64 ((a.getD k 0:Nat):Int)):=by
   unfold KS;rw[List.getElem?_map,List.getElem?_eq_getElem d,List.getD_eq_getElem?_getD,List.getElem?_eq_getElem d];rfl
  rw[<-n,List.getElem?_take_of_lt (by omega)]at b;rw[<-b];simp
def gTo{α:Type}(sub:α->List Ins->List Ins)(jump:Int)(ts:List α)(cs:List Ins)(k:Nat):List Ins×List Nat:=(ts.take k).foldl (Yc sub jump) (cs,[])
theorem Ck(sub:α->List Ins->List Ins)(b:Int)(a:List α)(c:List Ins)(k:Nat)(h:k<a.length):gTo sub b a c (k+1)=Yc sub b (gTo sub b a c k) a[k]:=by
 unfold gTo;rw[List.take_add_one,List.getElem?_eq_getElem h,List.foldl_append];rfl
theorem W5(sub:α->List Ins->List Ins)(d:Int)(a:List α)(c:List Ins)(b:Bool):Ys sub d b a c=UA b (gTo sub d a c a.length):=by
 unfold Ys gTo;rw[List.take_length]
theorem Hm{α:Type}(sub:α->List Ins->List Ins)(c:Int)(a:List α)(b:List Ins):∀ k,k<=a.length->(gTo sub c a b k).2.length=k
 |0,_=>rfl
 |k+1,h=>by
  rw[Ck sub c a b k h];have:=Hm sub c a b k (by omega);unfold Yc;simp[this]
theorem Hn{α:Type}{sub:α->List Ins->List Ins}(d:∀ t a,a.length<=(sub t a).length)(c:Int)(b:List α)(a:List Ins):∀ k,k<=b.length->∀ j∈(gTo sub c b a k).2,j<(gTo sub c b a k).1.length
 |0,_,j,hj=>by cases hj
 |k+1,h,j,hj=>by
  have e:=Hn d c b a k (by omega);rw[Ck sub c b a k h]at hj ⊢;have f:=d b[k] (gTo sub c b a k).1;unfold Yc at hj ⊢;simp only[List.mem_append,List.mem_singleton,Qk,QD,Q4]at hj ⊢;rcases hj with hj|hj
  ·have:=e j hj;omega
  ·omega
theorem W7(d:∀ t a,a.length<=(sub t a).length)(c:Int)(b:List α)(a:List Ins)(k:Nat):(gTo sub c b a k).1.length<=(gTo sub c b a b.length).1.length:=by
 unfold gTo;rw[List.take_length];have:=Br d c (b.drop k) ((b.take k).foldl (Yc sub c) (a,[]));rw[<-List.foldl_append,List.take_append_drop]at this;exact this
theorem W8(sub:α->List Ins->List Ins)(f:Int)(settled:Bool)(a:List α)(B l g c:Nat)(d:List Ins)(w:World)(h:CC w B l d)(aT:a≠[])(aQ:g<B)(aV:a.length<=1000000)
 (hm:∀ t d,d.length<=(sub t d).length) (T:(Ys sub f settled a d).length<=1000000)
 (hc:∀ j (hj:j<a.length),∃ ty y,w.cell? ⟨g,j,none⟩=some (.iface ty y)/\SubC 255 B l w (.iface ty y) (sub a[j])) :
 Calls prog 274 #[.pointer (some ⟨l,0,none⟩),.slice (some ⟨g,0,none⟩) a.length c,.int .i64 f,.bool settled] w (Xq B l (Ys sub f settled a d) w):=by
 obtain⟨i0,hi,hz0,hz1,hz2⟩:=info_parts Tryz.infoIntJ;have aX:B<=w.heap.size:=Nat.le_of_lt (Nat.lt_of_le_of_lt h.lt.1 h.lt.2);rw[W5]at T ⊢;have HE:Hid (∀ r,r=gTo sub f a d a.length->UA settled r=UA settled (gTo sub f a d a.length)):=fun r e=>by rw[e]
 rw[Bs]at T;have V:=I T;have HC:=I hc;have W:=I hm;have H:=I h;clear hc hm h T;go_enter func274,ntmps274;go_wp2_with fail
 go_loopw [8,10,14] (fun v _ i wr=>∃(k:Nat) (r:List Ins×List Nat),k<=a.length/\i=.int .i64 (k:Int)/\r=gTo sub f a d k/\wr.ownsRow w.heap.size 3 1 v r.2.length (KS r.2)/\CC wr B l r.1/\Fr (PCo B) w wr) (fun _ _ i _=>a.length - (intOf i).toNat)
 case atStart=>exact⟨0,_,QC,by go_num,rfl,World.ownsRow_nil _ _ _ _,H.o,Fr.refl _ _⟩
 case round=>
  obtain⟨k,r,S,rfl,m,D,M,hF⟩:=hrel;have U:r.2.length=k:=by rw[m];exact Hm sub f a d k S
  have L:Below B w wr:=hF.co H.o;by_cases hlt:k<a.length
  ·obtain⟨ty,y,ao,ay⟩:=HC.o k hlt
   have aY:wr.cell? ⟨g,k,none⟩=some (.iface ty y):=by
    rw[L.cell (p:=⟨g,k,none⟩) aQ];exact ao
   have z:=I (Ck sub f a d k hlt);have C:=W7 W.o f a d (k+1);rw[z.o,<-m]at C;rw[<-m]at z;unfold Yc at C;simp only[Qk,QD,Q4]at C;have X:=V.o;have ag:=I ay;obtain⟨t,ht⟩:=Qf (a[k]);rw[ht]at z ag C;obtain⟨A,K⟩:=Qf (sub t r.1);have aL:Hid ((sub t r.1).length<=1000000):=by show(sub t r.1).length<=_;omega
   have aM:Hid (A.length+1<=1000000):=by show _<=_;rw[<-K];omega
   have aP:Hid (gTo sub f a d (k+1)=(A++[insOp f],r.2++[A.length])):=by
    show _=_
    rw[z.o];unfold Yc;rw[K]
   have az:=I K;have aO:=I D;have HCC:=I M;have HF:=I hF;have aA:=I L;obtain⟨la,lc,aS⟩:=ZC D;subst aS;have aZ:r.2.length<=1000000:=by omega
   have a1:=hF.size;clear D M hF L ao ay C X K ht m z U HE
   go_wp2_with (first
    |(go_at_call 255;refine(ag.o wr r.1 aA.o HCC.o aL.o).mono ?_;rintro e w1 ⟨rfl,Z,ab⟩;rw[az.o]at Z;have HC1:=I Z;have HF1:=I (HF.o.trans ab);have aN:=I (Jh aO.o ab (fun _ _=>PCo.not (by decide) (by decide)));clear Z ab;skip)
    |(go_at_call 216;refine(UP B l A (insOp f) _ _ w1 HC1.o (At _ _) aM.o).mono ?_;rintro e w2 ⟨rfl,x,u⟩;have F:=I x;have G:=I (HF1.o.trans u);have HO2:=I (Jh aN.o u (fun _ _=>PCo.not (by decide) (by decide)));have a0:=G.o.size;clear x u;skip)
    | (at_builtin;refine wpList_append_own _ rfl _ _ 24 rfl w.heap.size 3 i0 _ 1 8 underlying24 hi hz0 hz1 hz2 rfl (by decide) _ _ _ rfl (HO2.o.alloc _) ⟨w2.heap.size,0,none⟩ 1 1 [.int .i64 (A.length:Int)] rfl rfl (cell_one_new _ _ _) (Hk _) (by unfold maxLen;omega) (by omega) (by simp;omega) ?_;intro v5 w5 ho5 hg5 _;obtain ⟨a5,k5,hv5⟩:=ZC ho5;subst hv5;have HO5:=I ho5;have HG5:=I hg5;clear ho5 hg5;skip))
   go_roundw
   case rel=>
    refine⟨k+1,(A++[insOp f],r.2++[A.length]),by omega,by go_num,aP.o.symm,?_,(F.o.alloc _).grownInt (HO2.o.alloc _) HG5.o,(G.o.alloc _).grownNew HG5.o (fun k S=>(HO2.o.lt k S).1)⟩;show w5.ownsRow w.heap.size 3 1 _ (r.2++[A.length]).length (KS (r.2++[A.length]))
    rw[Qk,<-Hi];exact HO5.o
   case measure=>simp[intOf];omega
  ·have aR:k=a.length:=by omega
   subst aR;have aU:r.2≠[]:=fun e=>aT (XB (by rw[<-U,e];rfl))
   obtain⟨gj,cj,aW,hv,au,av⟩:=Hl D aU;subst hv;have aw:∀ j∈r.2,j<r.1.length:=by rw[m];exact Hn W.o f a d a.length Qt
   have X:r.1.length+3<=1000000:=by rw[m];exact V.o
   have af:Hid (UA settled (gTo sub f a d a.length)=landL [r.1.length+1] (landL r.2 (r.1++[pushI (!settled),insOp 3])++[pushI settled])):=by
    show _=_
    rw[<-m];rfl
   obtain⟨q,P⟩:=Qf (r.1++[pushI (!settled),insOp 3]);have ah:q.length=r.1.length+2:=by rw[<-P];simp
   obtain⟨s,R⟩:=Qf (landL r.2 q);have ai:s.length=r.1.length+2:=by rw[<-R,JF,ah]
   obtain⟨E,N⟩:=Qf (r.1.length+1);rw[P,R,N]at af;have q1:r.1.length+2<=1000000:=by omega
   have q2:∀ j∈r.2,j<q.length:=fun j hj=>by have:=aw j hj;omega
   have q3:q.length<=1000000:=by omega
   have q4:r.2.length<=1000000:=by rw[U];exact aV
   have q5:s.length+1<=1000000:=by omega
   have q6:E<(s++[pushI settled]).length:=by rw[Qk,ai,<-N];simp
   have q7:(s++[pushI settled]).length<=1000000:=by rw[Qk];exact q5
   have Q:=I (And.intro q1 (And.intro q2 (And.intro q3 (And.intro q4 (And.intro q5 (And.intro q6 q7))))));have aC:=I P;have aD:=I R;have aE:=I N;have HJB:=I au;have aK:=I av;have HCC:=I M;have HF:=I hF;clear D M hF L m HE au av aw X P ah R ai N q1 q2 q3 q4 q5 q6 q7 U hlt S HC W V;have ax:∀ b:Bool,Za (pushI b) (.slice none 0 0) (.slice none 0 0)=.agg #[.int .i64 (pushI b).op,.int .i64 (pushI b).n,.int .i64 (pushI b).tag,.bool (pushI b).oct,.slice none 0 0,.slice none 0 0,.int .i64 (pushI b).at_]:=fun _=>rfl
   have HPP:=I ax;clear ax
   go_wp2_with (first
    |(have J:=ae;go_at_call 256;refine(Hg B l E _ _ ae.o Q.o.2.2.2.2.2.1 Q.o.2.2.2.2.2.2).mono ?_;rintro e w6 ⟨rfl,ak,ar⟩;have aB:=I ak;have aI:=I (aH.o.trans ar);clear ak ar;skip)
    |(have J:=ad;go_at_call 216;refine(UP B l s (pushI settled) _ _ _ ad.o (Hj _ _) Q.o.2.2.2.2.1).mono ?_;rintro e w5 ⟨rfl,aj,aq⟩;have ae:=I aj;have aH:=I (aG.o.trans aq);clear aj aq;skip)
    |(have J:=ac;go_at_call 273;refine(Cg settled _).mono ?_;rintro e w4 ⟨rfl,Y⟩;rw[HPP.o];have ad:=I (ac.o.below Y);have aG:=I (aF.o.trans (Fr.of_below Y));clear Y;skip)
    |(have J:=F;go_at_call 256;refine(Cf B l gj cj r.2 aW q _ F.o Q.o.2.1 aJ.o aK.o Q.o.2.2.1 Q.o.2.2.2.1).mono ?_;rintro e w3 ⟨rfl,aa,ap⟩;rw[aD.o]at aa;have ac:=I aa;have aF:=I (G.o.trans ap);clear aa ap;skip)
    |(have J:=HC1;go_at_call 216;refine(WN B l r.1 (pushI (!settled)) (insOp 3) _ _ _ _ _ HC1.o (Hj _ _) (At _ _) Q.o.1).mono ?_;rintro e w2 ⟨he,x,u⟩;rw[aE.o]at he;subst he;rw[aC.o]at x;have F:=I x;have G:=I (HF1.o.trans u);have aJ:=I (u.block _ _ HJ1.o (PCo.not (by decide) (by decide)));clear x u;skip)
    | (go_at_call 273;refine (Cg (!settled) _).mono ?_;rintro e w1 ⟨rfl,hb1⟩;rw [HPP.o];have HC1:=I (HCC.o.below hb1);have HF1:=I (HF.o.trans (Fr.of_below hb1));have HJ1:=I (Zk HJB.o hb1);clear hb1;skip))
   go_end0;rw[af.o];exact⟨rfl,aB.o,aI.o⟩
theorem Cl(z:L8):z.length<=(QR z).length:=by
 unfold QR;rw[QD,Qk]
 have:z.length<=(z.flatMap KT).length:=by
  induction z with
  |nil=>simp
  |cons c r ih=>
   rw[List.flatMap_cons,Qk,QD];have:1<=(KT c).length:=by unfold KT;split<;>simp
   omega
 omega
theorem Cm(xs:Qa):(∀ z∈xs,z.length<=(Z4 xs).length)/\xs.length<=(Z4 xs).length+1:=by
 match xs with
 | []=>exact⟨fun z a=>(by cases a),QC⟩
 | [x]=>exact⟨fun z a=>(by rw[QY a];exact Cl x),by simp⟩
 |x::y::r=>
  have e:(Z4 (x::y::r)).length=(YM [44,32] ((x::y::r).map QR)).length+2:=by unfold Z4;simp
  refine⟨fun z a=>?_,?_⟩
  ·have b:=Au ((x::y::r).map QR) (QR z) (List.mem_map_of_mem a);have c:=Cl z;omega
  ·have b:=Ng ((x::y::r).map QR);rw[List.length_map]at b;omega
theorem Ho{req:Qa}(B d:Nat):∀(n:Nat) (x:QQ n) (w:World) (v:Value),TestV n (fun k=>k<B) x w v->Yl (WfT req) n x->(Q3 n x).length<=100000->SubC 255 B d w v (Zn n x)
 |0,x,w,v,h,ha,_=>ha.elim
 |n+1,x,w,v,hv0,ha,hlen=>fun W cs hW hCC hl=>by
  obtain⟨hw,ab⟩:=ha;have h:Yg (fun k=>k<B) (TestV n) x W v:=(Jg (n+1)).keep _ _ _ _ _ hv0 (fun k hk _=>hW.block k hk);have hlen:(ZP x.1 (x.2.map (Q3 n))).length<=100000:=hlen;have hl:(Z3 (Zn n) x.1 x.2 cs).length<=1000000:=hl;show Calls prog 255 #[.pointer (some ⟨d,0,none⟩),v] W (Xq B d (Z3 (Zn n) x.1 x.2 cs) W)
  have N:B<=W.heap.size:=Nat.le_of_lt (Nat.lt_of_le_of_lt hCC.lt.1 hCC.lt.2)
  have U:∀ a∈x.2,∀ u,TestV n (fun k=>k<B) a W u->(Q3 n a).length<=100000->∃ s y,u=.iface s y/\SubC 255 B d W (.iface s y) (Zn n a):=fun a ha u i hl=>by
   obtain⟨s,y,rfl⟩:=(Jg n).form _ _ _ _ i;exact⟨s,y,rfl,Ho B d n a W _ i (ab a ha) hl⟩
  have L:∀ E,(YN E x.1).length<=100000->x.1.fr.length<=1000000/\x.1.keys.length<=1000000/\(∀ z∈x.1.fr,z.length<=100000)/\(∀ z∈x.1.keys,z.length<=100000):=fun E h=>by
   have t:(Z4 x.1.fr).length<=100000:=Qm (Jf (by simp)) h;have o:(Z4 x.1.keys).length<=100000:=Qm (Jf (by simp)) h;obtain⟨q,r⟩:=Cm x.1.fr;obtain⟨V,b2⟩:=Cm x.1.keys;exact⟨by omega,by omega,fun z G=>Qm (q z G) t,fun z G=>Qm (V z G) o⟩
  have R:∀(E:L8) (u:Value) (H:Int) (b:Bool),trX (fun k=>k<B) (TestV n) x.2 W u->x.2≠[]->(Yu E (x.2.map (Q3 n))).length<=100000->(Ys (Zn n) H b x.2 cs).length<=1000000->∃ a m c,u=.slice a m c/\∀ A,Below B W A->CC A B d cs->Calls prog 274 #[.pointer (some ⟨d,0,none⟩),.slice a m c,.int .i64 H,.bool b] A (Xq B d (Ys (Zn n) H b x.2 cs) A):=fun E u H b i F K aa=>by
   obtain⟨g,c,rfl,Q,hx⟩:=i;refine⟨_,_,_,rfl,fun A P X=>?_⟩
   have Z:x.2.length<=1000000:=by
    have t:=Ng (x.2.map (Q3 n));rw[List.length_map]at t;unfold Yu at K;simp only[Qk]at K;omega
   refine W8 (Zn n) H b x.2 B d g c cs A X F Q Z (NZ n) aa (fun j S=>?_);obtain⟨uj,Y,ac⟩:=hx j S;have T:x.2[j]∈x.2:=List.getElem_mem S;obtain⟨s,y,rfl,M⟩:=U _ T uj ac (Qm (Hp (hw:=E) (List.mem_map_of_mem T)) K);exact⟨s,y,by rw[P.cell (p:=⟨g,j,none⟩) Q];exact Y,M.below P⟩
  unfold Yg at h
  split at h
  ·rename_i e;obtain⟨o,rfl⟩:=h;have f:Z3 (Zn n) x.1 x.2 cs=cs++[pushI true]:=by unfold Z3;rw[e];rfl
   rw[f]at hl ⊢;exact Hh Jv _ true B d cs W hCC (by simpa using hl)
  ·rename_i e;obtain⟨o,rfl⟩:=h;have f:Z3 (Zn n) x.1 x.2 cs=cs++[pushI false]:=by unfold Z3;rw[e];rfl
   rw[f]at hl ⊢;exact Hh Jw _ false B d cs W hCC (by simpa using hl)
  ·rename_i e;obtain⟨a,u,o,rfl,i⟩:=h;have f:Z3 (Zn n) x.1 x.2 cs=Zn n a cs++[insOp 2]:=by unfold Z3;rw[e,o];rfl
   have l:ZP x.1 (x.2.map (Q3 n))=Zc [kNot,Q3 n a]:=by unfold ZP;rw[e,o];rfl
   rw[f]at hl ⊢;rw[l]at hlen;obtain⟨s,y,rfl,M⟩:=U a (by rw[o];simp) u i (Qm (Jf (ps:=[kNot,Q3 n a]) (by simp)) hlen);exact WY kNot _ s y _ B d cs W hCC (by simpa using hl) M
  ·rename_i e;obtain⟨u,rfl,i,F⟩:=h;have f:Z3 (Zn n) x.1 x.2 cs=Ys (Zn n) 5 false x.2 cs:=by unfold Z3;rw[e];rfl
   have l:ZP x.1 (x.2.map (Q3 n))=Yu YF (x.2.map (Q3 n)):=by unfold ZP;rw[e];rfl
   rw[f]at hl ⊢;rw[l]at hlen;obtain⟨a,m,c,rfl,J⟩:=R YF u 5 false i F hlen hl;exact WZ YF _ a m c _ B d cs W hCC N J
  ·rename_i e;obtain⟨u,rfl,i,F⟩:=h;have f:Z3 (Zn n) x.1 x.2 cs=Ys (Zn n) 4 true x.2 cs:=by unfold Z3;rw[e];rfl
   have l:ZP x.1 (x.2.map (Q3 n))=Yu YG (x.2.map (Q3 n)):=by unfold ZP;rw[e];rfl
   rw[f]at hl ⊢;rw[l]at hlen;obtain⟨a,m,c,rfl,J⟩:=R YG u 4 true i F hlen hl;exact W4 YG _ a m c _ B d cs W hCC N J
  ·rename_i e;obtain⟨o,u,rfl,i⟩:=h;have f:Z3 (Zn n) x.1 x.2 cs=cs++[ZY 6 x.1]:=by unfold Z3;rw[e];rfl
   have l:ZP x.1 (x.2.map (Q3 n))=YN X7 x.1:=by unfold ZP;rw[e];rfl
   rw[f]at hl ⊢;rw[l]at hlen;obtain⟨q,r,C,D⟩:=L _ hlen;exact WT _ X7 x.1 u B d cs W hCC (by simpa using hl) i q r C D
  ·rename_i e;obtain⟨o,u,rfl,i⟩:=h;have f:Z3 (Zn n) x.1 x.2 cs=cs++[ZY 7 x.1]:=by unfold Z3;rw[e];rfl
   have l:ZP x.1 (x.2.map (Q3 n))=YN QN x.1:=by unfold ZP;rw[e];rfl
   rw[f]at hl ⊢;rw[l]at hlen;obtain⟨q,r,C,D⟩:=L _ hlen;exact WU _ QN x.1 u B d cs W hCC (by simpa using hl) i q r C D
  ·rename_i e;obtain⟨o,u,rfl,i⟩:=h;have f:Z3 (Zn n) x.1 x.2 cs=cs++[ZY 8 x.1]:=by unfold Z3;rw[e];rfl
   have l:ZP x.1 (x.2.map (Q3 n))=YN ZA x.1:=by unfold ZP;rw[e];rfl
   rw[f]at hl ⊢;rw[l]at hlen;obtain⟨q,r,C,D⟩:=L _ hlen;exact WV _ ZA x.1 u B d cs W hCC (by simpa using hl) i q r C D
  ·rename_i e;obtain⟨o,u,rfl,i⟩:=h;have f:Z3 (Zn n) x.1 x.2 cs=cs++[⟨9,0,0,false,x.1.fr,[],0⟩]:=by unfold Z3;rw[e];rfl
   have l:ZP x.1 (x.2.map (Q3 n))=Zc [XO,Z4 x.1.fr]:=by unfold ZP;rw[e];rfl
   rw[f]at hl ⊢;rw[l]at hlen;have t:(Z4 x.1.fr).length<=100000:=Qm (Jf (ps:=[XO,Z4 x.1.fr]) (by simp)) hlen;obtain⟨q,r⟩:=Cm x.1.fr;exact WW _ XO _ x.1.fr u B d cs W hCC (by simpa using hl) i (by omega) (fun z G=>Qm (q z G) t)
  ·rename_i h0 t o h3 h4 h5 h6 h7 h8;obtain⟨_,rfl⟩:=h
   have e:x.1.kind=9:=by
    have a0:x.1.kind≠0:=h0;have q:x.1.kind≠1:=t;have r:x.1.kind≠2:=o;have C:x.1.kind≠3:=h3;have D:x.1.kind≠4:=h4;have a5:x.1.kind≠5:=h5;have a6:x.1.kind≠6:=h6;have a7:x.1.kind≠7:=h7;have a8:x.1.kind≠8:=h8;have:=hw.kind;omega
   have f:Z3 (Zn n) x.1 x.2 cs=cs++[⟨10,x.1.num,x.1.tag,false,[],[],0⟩]:=by unfold Z3;rw[e];rfl
   rw[f]at hl ⊢;exact WX Yh _ x.1.tag x.1.num B d cs W hCC (by simpa using hl) hw.num
end
section
open Go.RowKit
attribute [local go_sem ↓] Go.wp_at_zero Go.wp_at_succ
theorem Qwq(hw:L8)(p:Nat)(a i:Option Addr)(n c l j:Nat)(k:Bool)(g:List Ins)(B b:Nat)(d:List Ins)(w:World)(h:CC w B b d)(f:B<=w.heap.size)(s:∀ W,Below B w W->CC W B b d->Calls prog 218 #[.pointer (some ⟨b,0,none⟩),.agg #[.string (sA hw),.int .i64 p,.slice a n c,.bool k,.slice i l j]] W (Xq B b g W)) :
 Calls prog 176 #[.pointer (some ⟨b,0,none⟩),.iface 261 (.agg #[.string (sA hw),.int .i64 p,.slice a n c,.bool k,.slice i l j])] w (Xq B b g w):=by
 have z:=I s;have u:Hid (∀ o,Below B w (w.alloc o)):=fun o=>(Below.refl _ _).alloc f o
 clear s;have C:=Tryz.noAct;have D:=Tryz.noSet;have E:=Tryz.noDiscard;have F:=Tryz.noStop;have J:=Tryz.yesIf;have H:=I h;have A:=I f;have v:Hid (∀ o,CC (w.alloc o) B b d):=fun o=>h.alloc o
 have m:∀ o,Below w.heap.size w (w.alloc o):=fun o=>Qs o
 have t:=I m;clear h f m;go_enter func176,ntmps176;go_wp2_with (first|(go_at_call 218;refine(z.o _ (u.o _) (v.o _)).mono ?_;rintro e G ⟨rfl,q,r⟩;have x:=I q;have y:=I ((Fr.of_below (t.o _)).trans r);clear q r;skip));go_end0;exact⟨rfl,x.o,y.o⟩
end
section
open Go.RowKit
theorem QpU(B b:Nat)(w:World):SubC 120 B b w (.slice none 0 0) (fun cs=>cs):=fun W cs hW hCC hl=>by
 have a:=I hCC;clear hCC;go_enter func120,ntmps120;go_wp2_with fail;refine wp_loop_rounds 1 ?_;rw[rounds_succ];go_wp2;go_end0;exact⟨rfl,a.o,Fr.refl _ _⟩
theorem QpG(sub:α->List Ins->List Ins)(a:List α)(b:List Ins)(k:Nat)(h:k<a.length):blockC sub (a.take (k+1)) b=sub a[k] (blockC sub (a.take k) b):=by
 unfold blockC;rw[List.take_add_one,List.getElem?_eq_getElem h,List.foldl_append];rfl
theorem QpS(c:∀ t a,a.length<=(sub t a).length)(b:List α)(a:List Ins)(k:Nat):(blockC sub (b.take k) a).length<=(blockC sub b a).length:=by
 have:=UB c (b.drop k) (blockC sub (b.take k) a);unfold blockC at this ⊢;rw[<-List.foldl_append,List.take_append_drop]at this;exact this
theorem Qnn(sub:α->List Ins->List Ins)(a:List α)(B l g c:Nat)(w:World)(D:g<B)(K:a.length<=1000000)
 (u:∀ t cs,cs.length<=(sub t cs).length)
 (q:∀ j (G:j<a.length),∃ ty y,w.cell? ⟨g,j,none⟩=some (.iface ty y)/\SubC 176 B l w (.iface ty y) (sub a[j])) :
 SubC 120 B l w (.slice (some ⟨g,0,none⟩) a.length c) (blockC sub a):=fun W cs hW hCC hl=>by
 have z:=I hl;have x:=I q;have A:=I u;have n:=I hW;have H:=I hCC;clear q u hCC hl hW;go_enter func120,ntmps120;go_wp2_with fail
 go_loopw [5,8] (fun _ i wr=>∃(k:Nat) (r:List Ins),k<=a.length/\i=.int .i64 (k:Int)/\r=blockC sub (a.take k) cs/\CC wr B l r/\Fr (PCo B) W wr) (fun _ i _=>a.length - (intOf i).toNat)
 case atStart=>exact⟨0,_,QC,by go_num,rfl,H.o,Fr.refl _ _⟩
 case round=>
  obtain⟨k,r,J,rfl,b,hCC,hF⟩:=hrel;have d:Below B W wr:=hF.co H.o;by_cases hlt:k<a.length
  ·obtain⟨ty,y,s,v⟩:=x.o k hlt
   have F:wr.cell? ⟨g,k,none⟩=some (.iface ty y):=by
    rw[(n.o.trans d).cell (p:=⟨g,k,none⟩) D];exact s
   have f:=QpG sub a cs k hlt;have m:=QpS A.o a cs (k+1);rw[f,<-b]at m;rw[<-b]at f;have C:=I f;have HLA:=I (Qm m z.o);have HTY:=I v;have HCC:=I hCC;have HF:=I hF;have HBe:=I (n.o.trans d);clear hCC hF d s v m b f
   go_wp2_with (first
    | (go_at_call 176;refine (HTY.o wr r HBe.o HCC.o HLA.o).mono ?_;rintro e w1 ⟨rfl,hc1,hf1⟩;have HC1:=I hc1;have HF1:=I (HF.o.trans hf1);clear hc1 hf1;skip))
   go_roundw
   case rel=>exact⟨k+1,_,by omega,by go_num,rfl,by rw[C.o];exact HC1.o,HF1.o⟩
   case measure=>simp[intOf];omega
  ·have E:k=a.length:=by omega
   subst E;rw[List.take_length]at b;subst b;have HCC:=I hCC;have HF:=I hF;clear hCC hF d;go_wp2;go_end0;exact⟨rfl,HCC.o,HF.o⟩
end
end Go.Proofs.YtgnkjijocdmniaaGreatDoor
