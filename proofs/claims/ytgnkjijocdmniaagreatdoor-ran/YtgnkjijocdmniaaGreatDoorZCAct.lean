import Derived.Test.YtgnkjijocdmniaaGreatDoorVRun
namespace Go.Proofs.YtgnkjijocdmniaaGreatDoor
set_option linter.all false
set_option maxRecDepth 100000
set_option maxHeartbeats 4000000
open Go.Proofs.Tryz
open Go.RowKit
variable{α β:Type}{B L base cb d j k n size:Nat}{W w w':World}{X:Nat->Prop}{a b:List Ins}{arg hw:L8}{c f v:Value}{e:TypeId}{i:Ins}{s:SS}{xs:List Value}
def Zy(i:Ins)(av bv:Value):Value:=.agg #[Qa i.op,Qa i.n,Qa i.tag,.bool i.oct,av,bv,Qa i.at_]
def D5(i:Ins)(av bv:Value):Array Value:=#[Qa i.op,Qa i.n,Qa i.tag,.bool i.oct,av,bv,Qa i.at_]
structure Z_ (w:World) (i:Ins) (av bv:Value):Prop where
 a:SlT w av i.a
 b:SlT w bv i.b
 al:∀z∈i.a,z.length<=100000
 bl:∀z∈i.b,z.length<=100000
 an:i.a.length<=1000000
 bn:i.b.length<=1000000
 n1:-9223372036854775808<=i.n
 n2:i.n<=9223372036854775807
theorem Z_.fr{P:Nat->Obj->Prop}{w w':World}{i:Ins}{av bv:Value}(h:Z_ w i av bv)(hf:Fr P w w')(hp:∀k cs,¬P k (Qe cs 9)):Z_ w' i av bv:=
 ⟨h.a.fr hf hp,h.b.fr hf hp,h.al,h.bl,h.an,h.bn,h.n1,h.n2⟩
theorem Z_.below{av bv:Value}(h:Z_ w i av bv)(hb:Qo w w'):Z_ w' i av bv:=h.fr (P:=fun _ _=>False) (Fr.of_below hb) (fun _ _ h=>h)
theorem NL(h:w.ownsRow base e size v n xs){b:Nat}(m:v.ownBlock≠some b){x:Value}:(w.setCell ⟨b,j,none⟩ x).ownsRow base e size v n xs:=by
 obtain⟨i,a⟩:=h;refine⟨i,?_⟩;rcases a with a | ⟨g,d,f,c,k,l,r⟩
 .exact Qt a
 .refine Qr ⟨g,d,f,c,k,?_,r⟩;rw[Q' (show g≠b from fun e=>m (by rw[c,e];rfl))];exact l
section
attribute [local go_sem ↓] Zt Zu
abbrev IV:=Ins×Value×Value
def KT(p:IV):List Value:=[Qa p.1.op,Qa p.1.n,Qa p.1.tag,.bool p.1.oct,p.2.1,p.2.2,Qa p.1.at_]
def Ys(ps:List IV):List Value:=ps.flatMap KT
theorem Aw{p:IV}{ps:List IV}:Ys (p::ps)=KT p++Ys ps:=by simp[Ys]
theorem SL{ps qs:List IV}:Ys (ps++qs)=Ys ps++Ys qs:=by simp[Ys]
theorem Fp:∀ps:List IV,(Ys ps).length=ps.length*7
 | []=>rfl
 |p::r=>by rw[Aw,Qz,Fp r,Q1];simp only[KT,Q1,Zl];omega
theorem DE:∀(ps:List IV) (j:Nat) (a:j<ps.length) (k:Nat),k<7->(Ys ps)[j*7+k]?=(KT ps[j])[k]?
 | [],j,a,_,_=>absurd a (XA _)
 |p::r,0,_,k,hk=>by
  rw[Aw,Nat.zero_mul,J4];show(KT p++Ys r)[k]?=(KT p)[k]?
  rw[List.getElem?_append_left (by simpa[KT]using hk)]
 |p::r,j+1,a,k,hk=>by
  have d:=DE r j (by simpa using a) k hk;have b:(KT p).length=7:=rfl;have e:(KT p).length<=(j+1)*7+k:=by rw[b];omega
  have c:(j+1)*7+k-7=j*7+k:=I
  rw[Aw,List.getElem?_append_right e,b,c,d];rfl
theorem IH:∀(ps:List IV) (j:Nat) (n:Int),(Ys ps).set (j*7+1) (Qa n)=Ys (ps.modify j fun p=>(Jc n p.1,p.2))
 | [],j,n=>by cases j<;>rfl
 |p::r,0,n=>rfl
 |p::r,j+1,n=>by
  have c:=IH r j n;have a:(KT p).length=7:=rfl;have e:(KT p).length<=(j+1)*7+1:=by rw[a];omega
  have b:(j+1)*7+1-7=j*7+1:=I
  show(Ys (p::r)).set ((j+1)*7+1) (Qa n)=Ys (p::r.modify j _)
  rw[Aw,Aw,List.set_append_right _ _ e,a,b,c]
def coO:Obj->Bool
 | .cells _ t _=>t==202 || t==63
 |_=>false
def PCo(B k:Nat)(o:Obj):Prop:=B<=k/\coO o=true
theorem PCo.not{a:Array Value}{t:TypeId}{f:Nat×Nat}(b:t≠202)(c:t≠63):¬PCo B k (.cells a t f):=fun h=>by
 have:=h.2;unfold coO at this;simp at this;rcases this with h|h
 .exact b h
 .exact c h
theorem PCo.str(k:Nat)(cs:Array Value):¬PCo B k (Qe cs 9):=PCo.not Qb Qb
def Cq:Value->Prop
 | .slice _ n c=>n<=c
 |_=>True
def Ke(ps:List IV):List Nat:=(ps.map Prod.snd).flatMap fun p=>p.1.ownBlock.toList++p.2.ownBlock.toList
theorem H5{ps qs:List IV}:Ke (ps++qs)=Ke ps++Ke qs:=by unfold Ke;rw[KC,List.flatMap_append]
theorem Vn:type_of%@List.mem_map_of_mem:=@List.mem_map_of_mem
theorem D3{ps:List IV}:k∈Ke ps↔∃p∈ps,p.2.1.ownBlock=some k\/p.2.2.ownBlock=some k:=by
 unfold Ke;rw[Vq];constructor
 .rintro⟨q,c,b⟩;obtain⟨p,a,rfl⟩:=List.mem_map.1 c;refine⟨p,a,?_⟩;rcases Z6.1 b with h|h
  .exact Qt (Option.mem_toList.1 h)
  .exact Qr (Option.mem_toList.1 h)
 .rintro⟨p,a,h⟩;refine⟨p.2,Vn a,Z6.2 ?_⟩;rcases h with h|h
  .exact Qt (Option.mem_toList.2 h)
  .exact Qr (Option.mem_toList.2 h)
structure Apt (L:Nat) (ps:List IV):Prop where
 nd:(Ke ps).Nodup
 ge:∀k∈Ke ps,L<=k
 rm:∀p∈ps,Cq p.2.1∧Cq p.2.2
theorem Apt.nil(L:Nat):Apt L []:=⟨List.nodup_nil,(fun k hk=>nomatch hk),(fun p hp=>nomatch hp)⟩
theorem Apt.mono{L':Nat}{ps:List IV}(h:Apt L ps)(hl:L'<=L):Apt L' ps:=⟨h.nd,fun k hk=>QE hl (h.ge k hk),h.rm⟩
theorem Apt.append{ps qs:List IV}(h:Apt B ps)(i:∀k∈Ke ps,k<L)(c:Apt L qs)(f:B<=L):Apt B (ps++qs):=by
 refine⟨?_,fun k hk=>?_,fun p hp=>?_⟩
 .rw[H5];refine List.nodup_append.2 ⟨h.nd,c.nd,fun a d b g e=>?_⟩;have:=i a d;have:=c.ge b g;omega
 .rw[H5]at hk;rcases Z6.1 hk with hk|hk
  .exact h.ge k hk
  .exact QE f (c.ge k hk)
 .rcases Z6.1 hp with hp|hp
  .exact h.rm p hp
  .exact c.rm p hp
theorem Apt.none{L:Nat}{ps:List IV}(h:∀p∈ps,p.2.1=.slice none 0 0/\p.2.2=.slice none 0 0):Apt L ps:=by
 have e:∀k,¬k∈Ke ps:=fun k hk=>by
  obtain⟨p,a,hk⟩:=D3.1 hk;rw[(h p a).1,(h p a).2]at hk;rcases hk with hk|hk<;>cases hk
 have b:=List.eq_nil_iff_forall_not_mem.2 e;refine⟨by rw[b];exact List.nodup_nil,fun k hk=>absurd hk (e k),fun p a=>?_⟩;rw[(h p a).1,(h p a).2];exact⟨Q4 _,Q4 _⟩
theorem Apt.two{L2:Nat}{d:Value}(f:∀k,d.ownBlock=some k->L<=k/\k<L2)(g:∀k,c.ownBlock=some k->L2<=k)(j:L<=L2)(l:Cq d)(m:Cq c):Apt L [(i,d,c)]:=by
 refine⟨?_,fun k hk=>?_,fun p e=>?_⟩
 .show(d.ownBlock.toList++c.ownBlock.toList++[]).Nodup
  rw[J3]
  cases ha:d.ownBlock with
  |none=>cases c.ownBlock<;>simp
  |some a=>
   cases hb:c.ownBlock with
   |none=>simp
   |some b=>
    have:=f a ha;have:=g b hb;simp;omega
 .obtain⟨p,e,hk⟩:=D3.1 hk;rw[ZV e]at hk;rcases hk with hk|hk
  .exact(f k hk).1
  .exact QE j (g k hk)
 .rw[ZV e];exact⟨l,m⟩
theorem SlT.lt{zs:Qn}(h:SlT w v zs)(a:v.ownBlock=some k):k<w.heap.size:=by
 rcases h with⟨h,_⟩ | ⟨g,c,h,d,b,_⟩
 .rw[h]at a;cases a
 .rw[h]at a;injection a with a
  subst a;exact QI b
structure CI (w:World) (B cb:Nat) (cv:Value) (ps:List IV):Prop where
 bc:B<=cb
 blk:w.heap[cb]?=some (Qe #[cv] 202)
 row:w.ownsRow B 63 7 cv ps.length (Ys ps)
 ok:∀p∈ps,Z_ w p.1 p.2.1 p.2.2
 nil:ps=[]->cv=.slice none 0 0
 ap:Apt B ps
theorem CI.ltL{e:Value}{ps:List IV}(h:CI w B d e ps):∀k∈Ke ps,k<w.heap.size:=fun k hk=>by
 obtain⟨p,c,hk⟩:=D3.1 hk;rcases hk with hk|hk
 .exact(h.ok p c).a.lt hk
 .exact(h.ok p c).b.lt hk
def CC(w:World)(B cb:Nat)(cs:List Ins):Prop:=∃cv ps,ps.map Prod.fst=cs/\CI w B cb cv ps
theorem CC.lt{a:Nat}(h:CC w B a b):B<=a/\a<w.heap.size:=by
 obtain⟨c,d,_,h⟩:=h;exact⟨h.bc,QI h.blk⟩
theorem CI.fr{P:Nat->Obj->Prop}{w w':World}{B cb:Nat}{cv:Value}{ps:List IV}(h:CI w B cb cv ps)(hf:Fr P w w')(h1:∀k cs,¬P k (Qe cs 202))(h2:∀k cs,¬P k (Qe cs 63))(h3:∀k cs,¬P k (Qe cs 9)):CI w' B cb cv ps:=
 ⟨h.bc,hf.block _ _ h.blk (h1 _ _),Yc h.row hf h2,fun p hp=>(h.ok p hp).fr hf h3,h.nil,h.ap⟩
theorem CI.below{cv:Value}{ps:List IV}(h:CI w B cb cv ps)(hb:Qo w w'):CI w' B cb cv ps:=h.fr (P:=fun _ _=>False) (Fr.of_below hb) (fun _ _ h=>h) (fun _ _ h=>h) (fun _ _ h=>h)
theorem CI.drew{w:World}{B cb:Nat}{cv:Value}{ps:List IV}(h:CI w B cb cv ps):CI w.drew B cb cv ps:=h.fr (P:=fun _ _=>False) (Fr.refl _ w).drew (fun _ _ h=>h) (fun _ _ h=>h) (fun _ _ h=>h)
theorem CC.below{w w':World}{B a:Nat}{b:List Ins}(h:CC w B a b)(d:Qo w w'):CC w' B a b:=by
 obtain⟨c,f,e,h⟩:=h;exact⟨c,f,e,h.below d⟩
def CL(w:World)(B cb:Nat)(cs:List Ins)(L:Nat):Prop:=∃cv ps,ps.map Prod.fst=cs/\CI w B cb cv ps/\∀k∈Ke ps,k<L
theorem CC.toL{a:Nat}(h:CC w B a b):CL w B a b w.heap.size:=by
 obtain⟨c,d,e,h⟩:=h;exact⟨c,d,e,h,h.ltL⟩
theorem CL.below{w w':World}{B a:Nat}{b:List Ins}{L:Nat}(h:CL w B a b L)(d:Qo w w'):CL w' B a b L:=by
 obtain⟨c,g,e,h,f⟩:=h;exact⟨c,g,e,h.below d,f⟩
theorem CC.alloc{w:World}{B cb:Nat}{cs:List Ins}(h:CC w B cb cs)(o:Obj):CC (w.alloc o) B cb cs:=h.below (QH _)
theorem JR:type_of%@Nat.lt_of_le_of_lt:=@Nat.lt_of_le_of_lt
theorem Fr.co{cs:List Ins}(h:Fr (PCo B) w w')(hc:CC w B cb cs):Below B w w':=h.below (fun _ _ h=>h.1) (Xj (JR hc.lt.1 hc.lt.2))
theorem CI.regrow{c:World}{a:Nat}{j:Value}{ps qs:List IV}(h:CI w B a j ps)(hf:Fr (fun k _=>j.ownBlock=some k) w c)(v':Value)(f:c.ownsRow B 63 7 v' (ps++qs).length (Ys (ps++qs)))(q:∀p∈qs,Z_ w p.1 p.2.1 p.2.2)(m:qs≠[])(l:Apt B (ps++qs)) :
 CI (c.setCell ⟨a,0,none⟩ v') B a v' (ps++qs)/\Fr (PCo B) w (c.setCell ⟨a,0,none⟩ v'):=by
 have n:∀(k:Nat) (o:Obj),w.heap[k]?=some o->(∀b,o≠.cells b 63)->c.heap[k]?=some o:=fun k o hk f=>by
  refine hf.block k o hk (fun e=>?_);obtain⟨_,b,d⟩:=JS h.row e hk;exact f b d
 have g:=n a _ h.blk (fun b e=>by injection e with e1 e2;exact absurd e2 Qb)
 have i:Fr (PCo B) w (c.setCell ⟨a,0,none⟩ v'):=by
  refine(Fr.mono ⟨hf.os,hf.tape,hf.output,hf.size,fun k o hk hn=>?_⟩ (fun k o h=>h)).set g ⟨h.bc,rfl⟩ 0 v'
  exact hf.block k o hk (fun e=>hn (by
   obtain⟨hb,b,d⟩:=JS h.row e hk;subst d
   exact ⟨hb,rfl⟩))
 have r:v'.ownBlock≠some a:=fun e=>by
  obtain⟨_,b,d⟩:=JS f e g;injection d with e1 e2
  exact absurd e2 Qb
 refine⟨⟨h.bc,QM g,NL f r,fun p hp=>?_,fun e=>absurd (List.append_eq_nil_iff.1 e).2 m,l⟩,i⟩;rcases Z6.1 hp with hp|hp
 .exact(h.ok p hp).fr i PCo.str
 .exact(q p hp).fr i PCo.str
def X_(B cb:Nat)(cs:List Ins)(w:World)(e:Ending)(w':World):Prop:=e=.returned (.tuple #[])/\CC w' B cb cs/\Fr (PCo B) w w'
theorem Tryz.infoIns:(prog.info? 63).map (fun i=>(i.zero,i.size,i.bytes))=some (some (.agg #[Qa 0,Qa 0,Qa 0,.bool false,Qp,Qp,Qa 0]),7,88):=Qm
theorem Z_.slA{e:Value}(h:Z_ w i e f):(∃a n c,e=.slice a n c)/\(∃a n c,f=.slice a n c):=by
 obtain⟨a,c,g⟩:=h.a.len;obtain⟨b,d,j⟩:=h.b.len;exact⟨⟨a,_,c,g⟩,⟨b,_,d,j⟩⟩
theorem Qtd{qs:List IV}(h:∀p∈qs,Z_ w p.1 p.2.1 p.2.2):∀u∈Ys qs,u.oneCell'=true:=by
 intro u e;obtain⟨p,i,e⟩:=Vq.1 e;obtain⟨⟨a,n,c,f⟩,⟨b,m,d,g⟩⟩:=(h p i).slA;unfold KT at e;rw[f,g]at e;simp at e;rcases e with rfl|rfl|rfl|rfl|rfl|rfl|rfl<;>rfl
theorem Mz(g c:Nat){f:List Ins}{qs:List IV}(h:CL w B d f L)(y:Apt L qs)(v:B<=L)(z:w.heap[g]?=some (.cells (Ys qs).toArray 63))(r:∀p∈qs,Z_ w p.1 p.2.1 p.2.2)(C:qs≠[])(A:f.length+qs.length<=1000000):Calls prog 216 #[Qc d,Qs g qs.length c] w fun e w'=>e=.returned (Qa (((f.length+qs.length-1:Nat)):Int))/\CC w' B d (f++qs.map Prod.fst)/\Fr (PCo B) w w':=by
 obtain⟨cv,l,rfl,b,x⟩:=h;rw[XB]at A ⊢;have ac:=O b;have G:=O (b.ap.append x y v);clear y x v;have P:=Qj b.blk 0;obtain⟨D,E,V⟩:=Zj b.row;subst V;have Q:=QI b.blk;obtain⟨i0,T,Y,Z,aa⟩:=ZU Tryz.infoIns;have W:=Xz.2 C
 have s:(Value.slice D l.length E).ownBlock≠some d:=fun e=>by
  obtain⟨_,f,R⟩:=JS b.row e b.blk;injection R with e1 e2
  exact absurd e2 Qb
 have ad:=O s
 have H:Hid (∀j u,(Ys qs)[j]?=some u->w.cell? ((⟨g,0,none⟩:Addr).add j)=some u):=fun j u U=>by
  rw[J8,Qj z,List.getElem?_toArray];exact U
 have M:=O (Qtd r);have ae:=O r;obtain⟨n,m⟩:∃n,qs.length=n+1:=⟨qs.length-1,I⟩;have t:=O (Fp qs);rw[m]at t A ⊢;have HN:=O m;clear b s z r m W;go_enter func216,ntmps216;go_wp2_with (first|(at_builtin;refine XM _ rfl _ _ 45 rfl B 63 i0 _ 7 88 underlying45 T Y Z aa rfl Qb _ _ _ rfl ac.row ⟨g,0,none⟩ (n+1) c (Ys qs) rfl t H M (by unfold maxLen;omega) I (by have:=ac.bc;omega) ?_;intro v5 F q i _;obtain⟨N,k5,X⟩:=Zj q;subst X;have K:=O q;have J:=O i;have d1:F.cell? (Ql d 0)=some (.slice D l.length E):=i.cell (a:=⟨d,0,none⟩) P (fun e=>ad e.symm);have ab:∀j,F.frozen? ⟨d,j,none⟩=false:=fun j=>(World.frozen?_of_block (a:=⟨d,j,none⟩) (w:=w) (i.block d Q (fun e=>ad e.symm))).trans (QQ ac.blk j);clear q i));go_ret;have S:=(Fr.refl _ w).grown J (fun k o e ho=>e);have:=ac.regrow (qs:=qs) S (.slice N (l.length+(n+1)) k5) (by rw[Qz,HN.o,SL];exact K) ae C G;exact⟨Jz I,⟨_,l++qs,by rw[KC],this.1⟩,this.2⟩
theorem QsH{ps:List IV}(j:Nat){n:Int}:(ps.modify j fun p=>(Jc n p.1,p.2)).map Prod.fst=(ps.map Prod.fst).modify j (Jc n):=by
 induction ps generalizing j with
 |nil=>cases j<;>rfl
 |cons p r ih=>
  cases j with
  |zero=>rfl
  |succ j=>show p.1::(r.modify j _).map Prod.fst=p.1::(r.map Prod.fst).modify j (Jc n);rw[ih]
theorem mem_modify_iv{ps:List IV}{n:Int}{q:IV}(h:q∈ps.modify j fun p=>(Jc n p.1,p.2)):q∈ps\/∃p∈ps,q=(Jc n p.1,p.2):=by
 induction ps generalizing j with
 |nil=>cases j<;>cases h
 |cons p r ih=>
  cases j with
  |zero=>
   rcases XW.1 h with h|h
   .exact Qr ⟨p,Qh,h⟩
   .exact Qt (by simp[h])
  |succ j=>
   rcases XW.1 h with h|h
   .exact Qt (by simp[h])
   .rcases ih h with h | ⟨b,a,h⟩
    .exact Qt (by simp[h])
    .exact Qr ⟨b,by simp[a],h⟩
theorem F'{ps:List IV}(j:Nat){n:Int}:Ke (ps.modify j fun p=>(Jc n p.1,p.2))=Ke ps:=by
 unfold Ke;congr 1
 induction ps generalizing j with
 |nil=>cases j<;>rfl
 |cons p r ih=>
  cases j with
  |zero=>rfl
  |succ j=>show p.2::(r.modify j _).map Prod.snd=p.2::r.map Prod.snd;rw[ih]
theorem Apt.modify{L:Nat}{ps:List IV}(h:Apt L ps)(j:Nat)(n:Int):Apt L (ps.modify j fun p=>(Jc n p.1,p.2)):=by
 refine⟨by rw[F'];exact h.nd,by rw[F'];exact h.ge,fun q a=>?_⟩;rcases mem_modify_iv a with a | ⟨p,b,rfl⟩
 .exact h.rm q a
 .exact h.rm p b
theorem CI.land{g c:Nat}{ps:List IV}(h:CI w B d (Qs g ps.length c) ps)(j:Nat)(t:j<ps.length)(n:Int)(r:-9223372036854775808<=n)(s:n<=9223372036854775807) :
 CI (w.setCell ⟨g,j*7+1,none⟩ (Qa n)) B d (Qs g ps.length c) (ps.modify j fun p=>(Jc n p.1,p.2))/\Fr (PCo B) w (w.setCell ⟨g,j*7+1,none⟩ (Qa n)):=by
 obtain⟨l,hs2⟩:=h.row.stored (j*7+1) (Qa n)
 have hf:Fr (PCo B) w (w.setCell ⟨g,j*7+1,none⟩ (Qa n)):=(Fr.refl _ w).grown hs2 (fun k o e ho=>by
  injection e with e
  subst e;obtain⟨hb,m,f⟩:=JS h.row (k:=g) rfl ho;subst f
  exact ⟨hb,rfl⟩)
 have u:d≠g:=fun e=>by
  subst e;obtain⟨_,m,f⟩:=JS h.row (k:=d) rfl h.blk;injection f with e1 e2
  exact absurd e2 Qb
 refine⟨⟨h.bc,by rw[Q' u];exact h.blk,?_,fun q i=>?_,fun e=>?_,h.ap.modify j n⟩,hf⟩
 .rw[IH]at l;rw[List.length_modify];exact l
 .rcases mem_modify_iv i with i | ⟨p,v,rfl⟩
  .exact(h.ok q i).fr hf PCo.str
  .have:=(h.ok p v).fr hf PCo.str;exact⟨this.a,this.b,this.al,this.bl,this.an,this.bn,r,s⟩
 .have:=ZI List.length e;rw[List.length_modify]at this;simp at this;subst this;exact absurd t (XA _)
theorem GG:type_of%@List.foldl_append:=@List.foldl_append
theorem QsY{b:List Nat}:landL (b++[j]) a=(landL b a).modify j (Jc ((a.length:Int)-((j:Int)+1))):=by
 unfold landL;rw[GG];show(List.foldl _ a b).modify j (Jc (((List.foldl _ a b).length:Int)-_))=_
 have:=KF b a;unfold landL at this;rw[this]
theorem DI(m:Nat){c:Nat}{a:List Nat}(x:Array Value)(h:CC w B d b)(t:∀j∈a,j<b.length)(s:w.heap[m]?=some (Qe x 3))(p:∀k,k<a.length->x[k]?=some (Qa ((a.getD k 0:Nat):Int)))(R:b.length<=1000000)(P:a.length<=1000000):Calls prog 256 #[Qc d,Qs m a.length c] w (X_ B d (landL a b) w):=by
 have H:=O h;have W:=O t;have U:=O s;have z:=O p;clear h t s p;go_enter func256,ntmps256;go_wp2_with fail
 go_loopw [5,8] (fun _ i wr=>∃(k:Nat),k<=a.length/\i=Qa (k:Int)/\CC wr B d (landL (a.take k) b)/\Fr (PCo B) w wr) (fun _ i _=>a.length-(intOf i).toNat)
 case atStart=>exact⟨0,QR,by go_num,H,Fr.refl _ _⟩
 case round=>
  obtain⟨k,p,rfl,e,hF⟩:=hrel;by_cases hlt:k<a.length
  .have Q:wr.cell? ⟨m,k,none⟩=some (Qa ((a.getD k 0:Nat):Int)):=by
    rw[Qj (hF.block _ _ U (PCo.not Qb Qb))];exact z k hlt
   have N:a.getD k 0<b.length:=W _ (by rw[Zv,Zi hlt];exact ZT hlt)
   have A:Hid (landL (a.take (k+1)) b=(landL (a.take k) b).modify (a.getD k 0) (Jc ((b.length:Int)-((a.getD k 0:Nat)+1:Int)))):=by
    show landL (a.take (k+1)) b=_
    rw[List.take_add_one,Zi hlt];show landL (a.take k++[a[k]]) b=_
    rw[QsY,Zv,Zi hlt];rfl
   generalize a.getD k 0=j at *;obtain⟨G,y,q,f⟩:=e
   have v:y.length=b.length:=by
    have:=ZI List.length q;rw[XB,KF]at this;exact this
   have l:=f.row;rw[v]at l;obtain⟨g,E,D,Y,K,hcells⟩:=Jo l I;subst D;have F:=Zs f.blk
   obtain⟨u1,S⟩:∃u,wr.cell? ⟨g,j*7+1,none⟩=some u:=by
    refine⟨_,hcells (j*7+1) _ (by rw[DE y j I 1 I];rfl)⟩
   have J:wr.frozen? ⟨g,j*7+1,none⟩=false:=l.frozenAt _;have n:=f;rw[<-v]at n;have r:=O (n.land j I ((b.length:Int)-((j:Int)+1)) I I);have X:=O q;have T:=O hF;have L:(0:Int)<=(j:Int):=I
   have M:(j:Int)<(b.length:Int):=I
   clear f n l hcells q hF;go_wp2_with fail;go_region;go_wp2;go_roundw
   case rel=>
    refine⟨k+1,I,by go_num,⟨_,_,?_,r.1.drew⟩,(T.o.trans r.2).drew⟩;rw[QsH,X.o,A.o]
   case measure=>simp[intOf];omega
  .have C:k=a.length:=I
   subst C;rw[KA]at e;have V:=O e;have T:=O hF;clear e hF;go_wp2;go_end0;exact⟨rfl,V,T⟩
theorem D9(h:Bool):Calls prog 273 #[.bool h] w fun e w'=>e=.returned (Zy (pushI h) Qp Qp)/\Qo w w':=by
 have a:∀o,Qo w (w.alloc o):=fun o=>QH o
 have b:=O a;clear a;cases h
 .go_enter func273,ntmps273;go_wp2;refine Q_ (v:=Zy (pushI false) Qp Qp) (by simp[results,results273,go_sem,Zy,pushI]) rfl ?_;exact⟨rfl,b _⟩
 .go_enter func273,ntmps273;go_wp2;refine Q_ (v:=Zy (pushI true) Qp Qp) (by simp[results,results273,go_sem,Zy,pushI]) rfl ?_;exact⟨rfl,b _⟩
def G'(w:World)(i:Ins)(av bv:Value):Prop:=Z_ w i av bv/\av=.slice none 0 0/\bv=.slice none 0 0
theorem GR(i:Ins){b:Value}(h:CL W B d a L)(q:Z_ W i b c)(l:Apt L [(i,b,c)])(k:B<=L)(m:a.length+1<=1000000):Calls prog 216 #[Qc d,Qs W.heap.size 1 1] (W.alloc (Qe #[Qa i.op,Qa i.n,Qa i.tag,.bool i.oct,b,c,Qa i.at_] 63)) fun e w'=>e=.returned (Qa (a.length:Int))/\CC w' B d (a++[i])/\Fr (PCo B) W w':=by
 have f:∀o,Qo W (W.alloc o):=fun o=>QH o
 refine(Mz W.heap.size 1 (h.below (f _)) l k (Q0) (fun p r=>?_) Qh m).mono ?_
 .rw[ZV r];exact q.below (f _)
 .rintro e w' ⟨rfl,g,j⟩;refine⟨?_,g,((Fr.refl _ W).alloc _).trans j⟩;show Ending.returned (Qa ((a.length+1-1:Nat):Int))=_
  rw[Nat.add_sub_cancel]
theorem Ge{b:Nat}{d:Value}(h:CC W B b a)(f:G' W i c d)(g:a.length+1<=1000000):Calls prog 216 #[Qc b,Qs W.heap.size 1 1] (W.alloc (Qe #[Qa i.op,Qa i.n,Qa i.tag,.bool i.oct,c,d,Qa i.at_] 63)) fun e w'=>e=.returned (Qa (a.length:Int))/\CC w' B b (a++[i])/\Fr (PCo B) W w':=
 GR i h.toL f.1 (Apt.none (fun p hp=>by rw[ZV hp];exact f.2)) (Xj (JR h.lt.1 h.lt.2)) g
theorem Qxz{c:Nat}{j:Ins}{k d g:Value}(h:CC W B c a)(m:G' W i f k)(q:G' W j d g)(t:a.length+2<=1000000):Calls prog 216 #[.pointer (some ⟨c,0,none⟩),.slice (some ⟨W.heap.size,0,none⟩) 2 2] (W.alloc (.cells #[.int .i64 i.op,.int .i64 i.n,.int .i64 i.tag,.bool i.oct,f,k,.int .i64 i.at_,.int .i64 j.op,.int .i64 j.n,.int .i64 j.tag,.bool j.oct,d,g,.int .i64 j.at_] 63)) fun e w'=>e=.returned (.int .i64 ((a.length+1:Nat):Int))/\CC w' B c (a++[i,j])/\Fr (PCo B) W w':=by
 have l:∀o,Below W.heap.size W (W.alloc o):=fun o=>QH o
 refine(Mz (B:=B) (d:=c) W.heap.size 2 (L:=W.heap.size) (f:=a) (qs:=[(i,f,k),(j,d,g)]) (h.toL.below (l _)) (Apt.none (fun p b=>by simp at b;rcases b with rfl|rfl;exact m.2;exact q.2)) (Xj (JR h.lt.1 h.lt.2)) (Q0) (fun p b=>?_) (by simp) t).mono ?_
 .simp at b;rcases b with rfl|rfl
  .exact m.1.below (l _)
  .exact q.1.below (l _)
 .rintro e w' ⟨rfl,r,s⟩;exact⟨rfl,r,((Fr.refl _ W).alloc _).trans s⟩
theorem Ga(ha:i.a=[])(hb:i.b=[])(h1:-9223372036854775808<=i.n)(h2:i.n<=9223372036854775807):G' W i Qp Qp:=
 ⟨⟨Qt ⟨rfl,ha⟩,Qt ⟨rfl,hb⟩,by rw[ha];simp,by rw[hb];simp,by rw[ha];simp,by rw[hb];simp,h1,h2⟩,rfl,rfl⟩
theorem Lx{b:Nat}(h:CC W B b a)(g:j<a.length)(i:a.length<=1000000):Calls prog 256 #[.pointer (some ⟨b,0,none⟩),.slice (some ⟨W.heap.size,0,none⟩) 1 1] (W.alloc (.cells #[.int .i64 (j:Int)] 3)) fun e w'=>e=.returned (.tuple #[])/\CC w' B b (landL [j] a)/\Fr (PCo B) W w':=by
 refine(DI (B:=B) (d:=b) W.heap.size (c:=1) (a:=[j]) #[.int .i64 (j:Int)] (b:=a) (h.alloc _) (fun k c=>by rw[ZV c];exact g) (Q0) (fun k c=>?_) i (by simp)).mono ?_
 .have:k=0:=by simp at c;exact c
  subst this;rfl
 .rintro e w' ⟨rfl,d,f⟩;exact⟨rfl,d,((Fr.refl _ W).alloc _).trans f⟩
theorem Qxt{a:Option Addr}{c:Nat}(h:w.ownsRow base e size (.slice a n c) n xs):n<=c:=by
 rcases h.2 with⟨h,i⟩ | ⟨g,d,f,b,_,_,j⟩
 .omega
 .injection b with _ _ hc
  subst hc;omega
theorem CW{xs:Qn}(h:slX X xs w v)(o:xs.length<=1000000):Calls prog 276 #[v] w fun e w'=>∃a k,e=.returned (.slice a xs.length k)/\SlT w' (.slice a xs.length k) xs/\Qo w w'/\(∀g,(Value.slice a xs.length k).ownBlock=some g->w.heap.size<=g)/\xs.length<=k:=by
 obtain⟨g,c,rfl,_,m,q⟩:=h;refine(Tryz.slices_Clone_string g 0 xs.length c (xs.map sA) w Qh I (fun j d=>?_)).mono ?_
 .rw[XB]at d;rw[J4,m j d,Zv,Zv,Ns,Zi d];rfl
 .rintro e w' ⟨r,rfl,b,p,i⟩
  have f:((xs.map sA).take xs.length).map Value.string=QW xs:=by
   rw[Z7 Qh,List.map_map];rfl
  rw[f]at b;obtain⟨a,k,n⟩:=Zj b;subst n;exact⟨a,k,rfl,SlT.of_owns b rfl,i,fun g l=>(b.lt g l).1,Qxt b⟩
end
def setIns(w:World)(b:Nat)(i:Ins)(av bv:Value):World:=
 ((((((w.setCell ⟨b,0,none⟩ (Qa i.op)).setCell ⟨b,1,none⟩ (Qa i.n)).setCell ⟨b,2,none⟩ (Qa i.tag)).setCell ⟨b,3,none⟩ (.bool i.oct)).setCell ⟨b,4,none⟩ av).setCell ⟨b,5,none⟩ bv).setCell ⟨b,6,none⟩ (Qa i.at_)
theorem WA(b:Nat)(i:Ins)(a c:Value){z y m j g d:Value}(h:w.heap[b]?=some (Qe #[z,y,m,j,g,f,d] 63)):(setIns w b i a c).heap[b]?=some (Qe (D5 i a c) 63)/\Fr (fun k o=>k=b/\coO o=true) w (setIns w b i a c):=by
 have e:∀(W:World) (l:Array Value) (k:Nat) (v:Value),W.heap[b]?=some (Qe l 63)->(W.setCell ⟨b,k,none⟩ v).heap[b]?=some (Qe (l.setIfInBounds k v) 63)/\Fr (fun k o=>k=b/\coO o=true) W (W.setCell ⟨b,k,none⟩ v):=fun W l k v h=>⟨QM (b:=b) (o:=k) (v:=v) (a:=l) h,(Fr.refl _ W).set h ⟨rfl,rfl⟩ k v⟩
 unfold setIns;obtain⟨p,A⟩:=e w _ 0 (Qa i.op) h;replace p:(w.setCell ⟨b,0,none⟩ (Qa i.op)).heap[b]?=some (Qe #[Qa i.op,y,m,j,g,f,d] 63):=p;generalize w.setCell ⟨b,0,none⟩ (Qa i.op)=w0 at *;obtain⟨q,B⟩:=e w0 _ 1 (Qa i.n) p;replace q:(w0.setCell ⟨b,1,none⟩ (Qa i.n)).heap[b]?=some (Qe #[Qa i.op,Qa i.n,m,j,g,f,d] 63):=q;generalize w0.setCell ⟨b,1,none⟩ (Qa i.n)=w1 at *;obtain⟨r,C⟩:=e w1 _ 2 (Qa i.tag) q;replace r:(w1.setCell ⟨b,2,none⟩ (Qa i.tag)).heap[b]?=some (Qe #[Qa i.op,Qa i.n,Qa i.tag,j,g,f,d] 63):=r;generalize w1.setCell ⟨b,2,none⟩ (Qa i.tag)=w2 at *;obtain⟨s,D⟩:=e w2 _ 3 (.bool i.oct) r;replace s:(w2.setCell ⟨b,3,none⟩ (.bool i.oct)).heap[b]?=some (Qe #[Qa i.op,Qa i.n,Qa i.tag,.bool i.oct,g,f,d] 63):=s;generalize w2.setCell ⟨b,3,none⟩ (.bool i.oct)=w3 at *;obtain⟨t,E⟩:=e w3 _ 4 (a) s;replace t:(w3.setCell ⟨b,4,none⟩ (a)).heap[b]?=some (Qe #[Qa i.op,Qa i.n,Qa i.tag,.bool i.oct,a,f,d] 63):=t;generalize w3.setCell ⟨b,4,none⟩ (a)=w4 at *;obtain⟨u,F⟩:=e w4 _ 5 (c) t;replace u:(w4.setCell ⟨b,5,none⟩ (c)).heap[b]?=some (Qe #[Qa i.op,Qa i.n,Qa i.tag,.bool i.oct,a,c,d] 63):=u;generalize w4.setCell ⟨b,5,none⟩ (c)=w5 at *;obtain⟨x,G⟩:=e w5 _ 6 (Qa i.at_) u;replace x:(w5.setCell ⟨b,6,none⟩ (Qa i.at_)).heap[b]?=some (Qe #[Qa i.op,Qa i.n,Qa i.tag,.bool i.oct,a,c,Qa i.at_] 63):=x;generalize w5.setCell ⟨b,6,none⟩ (Qa i.at_)=w6 at *;exact⟨x,A.trans (B.trans (C.trans (D.trans (E.trans (F.trans G)))))⟩
theorem CN(d:Int)(x:Zk){l q:Value}(m:slX X x.fr w l)(hk:slX X x.keys w q)(hlf:x.fr.length<=1000000)(A:x.keys.length<=1000000):Calls prog 275 #[Qa d,.agg #[Qf hw,Qa x.pos,Qa x.tag,.bool x.octet,l,q]] w fun e w'=>∃a1 k1 a2 k2,e=.returned (Zy (Xu d x) (.slice a1 x.fr.length k1) (.slice a2 x.keys.length k2))/\SlT w' (.slice a1 x.fr.length k1) x.fr/\SlT w' (.slice a2 x.keys.length k2) x.keys/\Qo w w'/\Apt w.heap.size [(Xu d x,.slice a1 x.fr.length k1,.slice a2 x.keys.length k2)]:=by
 have r:=O m;have s:=O hk;obtain⟨gf,cf,rfl,B⟩:=m;obtain⟨gk,ck,rfl,C⟩:=hk;clear B C;go_enter func275,ntmps275;go_wp2_with fail;obtain⟨W,g⟩:=Q3 ((w.alloc (Qe #[Qf hw,Qa x.pos,Qa x.tag,.bool x.octet,Qs gf x.fr.length cf,Qs gk x.keys.length ck] 227)).alloc (Qe #[Qa 0,Qa 0,Qa 0,.bool false,Qp,Qp,Qa 0] 63));rw[<-g];have ab:Qo w W:=by rw[g];exact(QH _).alloc Qh _
 have aa:W.heap[w.heap.size]?=some (Qe #[Qf hw,Qa x.pos,Qa x.tag,.bool x.octet,Qs gf x.fr.length cf,Qs gk x.keys.length ck] 227):=by rw[g];exact QJ (Q0)
 have ac:W.heap[w.heap.size+1]?=some (Qe #[Qa 0,Qa 0,Qa 0,.bool false,Qp,Qp,Qa 0] 63):=by rw[g];exact ZB Qh
 clear g;have T:=Xx aa;have V:=XU aa;have Y:=YF aa;have Z:=J1 aa;have HFW:=O (r.o.keep (w':=W) (fun k _ hk=>ab.block k hk));have HKW:=O (s.o.keep (w':=W) (fun k _ hk=>ab.block k hk));have HWB:=O ab;have HWb:=O aa;have HWr:=O ac;have hWs:=ab.size;clear ab aa ac
 go_region_held3 (fun w'=>w'.cell? (Ql w.heap.size 2)=some (Qa x.tag)∧w'.cell? (Ql w.heap.size 3)=some (.bool x.octet)∧w'.cell? (Ql w.heap.size 4)=some (Qs gf x.fr.length cf)∧w'.cell? (Ql w.heap.size 5)=some (Qs gk x.keys.length ck)) (first | go_keep | exact ⟨Qj HW2 2,Qj HW2 3,Qj HW2 4,Qj HW2 5⟩) (first
  |(have gg:=HB1;go_at_call 276;refine(CW HKW1 A).mono ?_;rintro e a ⟨a2,k2,rfl,p,f,n⟩;have HN2:=O n;have j:=O (HB1.o.trans (f.mono h1s));have HW2:=O (Ze HW1 f);have b:=O (Ze HR1 f);have u:=O p;have t:=O (HS1.o.below f);have e2:=Xx HW2;have e3:=XU HW2;have e4:=YF HW2;have e5:=J1 HW2;have L:=Zs b;have M:=Q9 b;have N:=Xx b;have P:=XU b;have Q:=YF b;have R:=J1 b;have S:=VZ b;have z:=QQ b;clear f p n;skip)
  | (go_at_call 276;refine (CW (HFW.o.keep (w':=W.drew) (fun _ _ _=>rfl)) hlf).mono ?_;rintro e w1 ⟨a1,k1,rfl,hs1,hB1,hn1⟩;have HN1:=O hn1;have HB1:=O (HWB.o.drew.trans (hB1.mono hWs));have HW1:=O (Ze (w:=W.drew) HWb hB1);have HR1:=O (Ze (w:=W.drew) HWr hB1);have HS1:=O hs1;have d2:=Xx HW1;have d3:=XU HW1;have d4:=YF HW1;have d5:=J1 HW1;have h1s:=HB1.size;have HKW1:=O (HKW.o.keep (w':=w1) (fun k _ hk=>hB1.block k hk));clear hB1 hs1 hn1;skip))
 all_goals (
  clear z L M N P Q R S;change Exit.then _ _ Exit.normal _ (setIns a (w.heap.size+1) (Xu d x) (.slice a1 x.fr.length k1) (.slice a2 x.keys.length k2));obtain⟨c,i⟩:=WA (w.heap.size+1) (Xu d x) (.slice a1 x.fr.length k1) (.slice a2 x.keys.length k2) b;generalize setIns a (w.heap.size+1) (Xu d x) (.slice a1 x.fr.length k1) (.slice a2 x.keys.length k2)=U at *;have HUB:Hid (Qo w U):=j.o.trans (i.below (fun k o e=>by rw[e.1];omega) j.size);have HU1:=O (SlT.fr t i (fun k y e=>Bool.noConfusion e.2));have HU2:=O (SlT.fr u i (fun k y e=>Bool.noConfusion e.2));have D:=Zs c;have E:=Q9 c;have F:=Xx c;have G:=XU c;have H:=YF c;have J:=J1 c;have K:=VZ c;clear c i;go_wp2;refine Q_ (v:=Zy (Xu d x) (.slice a1 x.fr.length k1) (.slice a2 x.keys.length k2)) (by simp[results,results275,go_sem,Zy,Xu,D,E,F,G,H,J,K]) rfl ?_
  exact ⟨a1,k1,a2,k2,rfl,HU1,HU2,HUB,Apt.two (fun k hk=>⟨QE hWs (HN1.1 k hk),HS1.o.lt hk⟩) HN2.1 h1s HN1.2 HN2.2⟩)
section
attribute [local go_sem ↓] Zt Zu
theorem Wr(p:Nat):Calls prog 217 #[.agg #[Qf hw,Qa p,Qa 1,Qf arg]] w fun e w'=>e=.returned (Zy (Xs 1 p []) Qp Qp)/\Qo w w':=by
 go_enter func217,ntmps217;go_wp2;refine Q_ (v:=Zy (Xs 1 p []) Qp Qp) (by simp[results,results217,go_sem,Zy,Xs]) rfl ?_;exact⟨rfl,((QH _).alloc Qh _).alloc (by simp;omega) _⟩
theorem Sv(p:Nat)(b:k≠1):Calls prog 217 #[.agg #[Qf hw,Qa p,Qa k,Qf arg]] w fun e w'=>∃g,e=.returned (Zy (Xs k p [arg]) (Qs g 1 1) Qp)/\SlT w' (Qs g 1 1) [arg]/\Qo w w'/\w.heap.size<=g:=by
 have c:((k:Int) != 1)=true:=by simp;omega
 go_enter func217,ntmps217;go_wp2;refine Q_ (v:=Zy (Xs k p [arg]) (.slice (some ⟨w.heap.size+1+1+1,0,none⟩) 1 1) Qp) (by simp[results,results217,go_sem,Zy,Xs]) rfl ?_;refine⟨w.heap.size+1+1+1,rfl,Qr ⟨w.heap.size+1+1+1,1,rfl,#[Qf arg],ZB Qh,fun j a=>?_⟩,(((QH _).alloc Qh _).alloc (by simp;omega) _).alloc (by simp;omega) _,I⟩;have:j=0:=by simp at a;exact a
 subst this;rfl
end
theorem Bq(z:L8):z.length<=(Zd z).length:=by
 unfold Zd;rw[Q1,Qz]
 have:z.length<=(z.flatMap Va).length:=by
  induction z with
  |nil=>simp
  |cons c r ih=>
   rw[YS,Qz,Q1];have:1<=(Va c).length:=by unfold Va;split<;>simp
   omega
 omega
theorem H'(xs:Qn):(∀z∈xs,z.length<=(XF xs).length)/\xs.length<=(XF xs).length+1:=by
 match xs with
 | []=>exact⟨fun z a=>(by cases a),QR⟩
 | [x]=>exact⟨fun z a=>(by rw[ZV a];exact Bq x),Qh⟩
 |x::y::r=>
  have e:(XF (x::y::r)).length=(JJ [44,32] ((x::y::r).map Zd)).length+2:=by unfold XF;simp
  refine⟨fun z a=>?_,?_⟩
  .have b:=BG ((x::y::r).map Zd) (Zd z) (Vn a);have c:=Bq z;omega
  .have b:=At ((x::y::r).map Zd);rw[XB]at b;omega
theorem El{req:Qn}{P:Zk->Nat->Prop}(s:∀(x:Zk)(m:Nat),x.fr.length<=100000->(∀t∈x.fr,t.length<=100000)->x.keys.length<=100000->(∀t∈x.keys,t.length<=100000)->m<=100000->P x m):∀(n:Nat) (x:Zn n),JQ (WfT req) n x->(Zx n x).length<=90000->JQ P n x
 |0,x,h,_=>h.elim
 |n+1,x,⟨hw,hs⟩,hl=>by
  have hl:(Xl x.1 (x.2.map (Zx n))).length<=90000:=hl;have y:=hw.kind
  have o:(x.1.kind<=4\/x.1.kind=9)->x.1.fr.length<=100000/\∀t∈x.1.fr,t.length<=100000:=fun h=>by
   rw[hw.fr0 h];exact⟨QR,fun t f=>(by cases f)⟩
  have g:(x.1.kind<=4\/8<=x.1.kind)->x.1.keys.length<=100000/\∀t∈x.1.keys,t.length<=100000:=fun h=>by
   rw[hw.keys0 h];exact⟨QR,fun t f=>(by cases f)⟩
  have j:∀q:Qn,(XF q).length<=90000->q.length<=100000/\∀t∈q,t.length<=100000:=fun q h=>by
   obtain⟨r,w⟩:=H' q;exact⟨I,fun t f=>by have:=r t f;omega⟩
  have i:(x.1.kind<=1\/5<=x.1.kind)->x.2.length<=100000/\∀a∈x.2,JQ P n a:=fun h=>by
   have:=hw.leaf h;rw[XV this];exact⟨QR,fun t f=>(by cases f)⟩
  have u:∀l,(Y7 l (x.2.map (Zx n))).length<=90000->x.2.length<=100000/\∀a∈x.2,JQ P n a:=fun l h=>by
   refine⟨?_,fun a p=>El s n a (hs a p) (QE (F4 (hw:=l) (Vn p)) h)⟩;have r:=At (x.2.map (Zx n));unfold Y7 at h;simp only[Qz,XB]at h r;omega
  have k:∀l,(Jq l x.1).length<=90000->(XF x.1.fr).length<=90000/\(XF x.1.keys).length<=90000:=fun l h=>⟨QE (J9 Qh) h,QE (J9 Qh) h⟩
  have d:(x.1.fr.length<=100000/\∀t∈x.1.fr,t.length<=100000)->(x.1.keys.length<=100000/\∀t∈x.1.keys,t.length<=100000)->(x.2.length<=100000/\∀a∈x.2,JQ P n a)->JQ P (n+1) x:=fun a b c=>⟨s _ _ a.1 a.2 b.1 b.2 c.1,c.2⟩
  have v:x.1.kind=0\/x.1.kind=1\/x.1.kind=2\/x.1.kind=3\/x.1.kind=4\/x.1.kind=5\/x.1.kind=6\/x.1.kind=7\/x.1.kind=8\/x.1.kind=9:=I
  unfold Xl at hl;rcases v with e|e|e|e|e|e|e|e|e|e
  .exact d (o I) (g I) (i I)
  .exact d (o I) (g I) (i I)
  .rw[e]at hl;have hl:(ZC (kNot::x.2.map (Zx n))).length<=90000:=hl;refine d (o I) (g I) ⟨by have:=hw.one e;omega,fun a p=>El s n a (hs a p) (QE (J9 (Kz _ (Vn p))) hl)⟩
  .rw[e]at hl;exact d (o I) (g I) (u _ hl)
  .rw[e]at hl;exact d (o I) (g I) (u _ hl)
  .rw[e]at hl;exact d (j _ (k _ hl).1) (j _ (k _ hl).2) (i I)
  .rw[e]at hl;exact d (j _ (k _ hl).1) (j _ (k _ hl).2) (i I)
  .rw[e]at hl;exact d (j _ (k _ hl).1) (j _ (k _ hl).2) (i I)
  .rw[e]at hl;have hl:(ZC [YL,XF x.1.fr]).length<=90000:=hl;exact d (j _ (QE (J9 Qh) hl)) (g I) (i I)
  .exact d (o I) (g I) (i I)
theorem Qz2(a i t b:L8):t.length+b.length+1<=(Kq a i t b).length+1/\1<=(Kq a i t b).length:=by
 unfold Kq;have c:t.length<=(ZC [a,t,KS]).length:=J9 Qh;have d:KS.length<=(ZC [a,t,KS]).length:=J9 Qh;have e:KS.length=2:=rfl;simp only[Qz];omega
theorem Lo(i:L8):∀(d:List (L8×L8)) (c:L8),d.length<=(X7 i c d).length/\∀a∈d,a.1.length<=(X7 i c d).length/\a.2.length<=(X7 i c d).length
 | [],c=>⟨QR,fun a ha=>(by cases ha)⟩
 |a::r,c=>by
  obtain⟨f,e⟩:=Lo i r U7;have g:=Qz2 c i a.1 a.2;unfold X7;simp only[Qz,Q1];refine⟨I,fun b hb=>?_⟩;rcases XW.1 hb with hb|hb
  .subst hb;omega
  .have:=e b hb;omega
theorem Iv{α:Type}(txt:α->L8->L8)(i:L8):∀cs:List α,cs.length<=(ZJ txt cs i).length/\∀c∈cs,(txt c i).length<=(ZJ txt cs i).length
 | []=>⟨QR,fun a ha=>(by cases ha)⟩
 |c::r=>by
  obtain⟨f,d⟩:=Iv txt i r
  have e:(ZJ txt (c::r) i).length=i.length+(txt c i).length+1+(ZJ txt r i).length:=by
   unfold ZJ;rw[YS];simp;omega
  rw[e,Q1];refine⟨I,fun b hb=>?_⟩;rcases XW.1 hb with hb|hb
  .subst hb;omega
  .have:=d b hb;omega
theorem MC{α β:Type}(tc:β->List Ins)(cc:α->List Ins)(c:List α):∀arms:List (β×List α),(Q2 cc c).length<=(XT tc cc c arms).length/\∀a∈arms,(Q2 cc a.2).length<=(XT tc cc c arms).length
 | []=>⟨Q4 _,fun a ha=>(by cases ha)⟩
 |a::r=>by
  obtain⟨f,d⟩:=MC tc cc c r
  have e:(XT tc cc c (a::r)).length=(tc a.1).length+1+(Q2 cc a.2).length+1+(XT tc cc c r).length:=by
   rw[XT];simp;omega
  rw[e];refine⟨I,fun b hb=>?_⟩;rcases XW.1 hb with hb|hb
  .subst hb;omega
  .have:=d b hb;omega
def Tells(s t:SS):Prop:=t.met=s.met/\t.disc=s.disc
theorem Dm{tag:Int}{oct:Bool}{vals keys:Qn}:Tells s (askL s tag oct vals keys).2:=by
 unfold askL;split
 .exact⟨rfl,rfl⟩
 .split
  .exact⟨rfl,rfl⟩
  .exact⟨rfl,rfl⟩
theorem C1{α:Type}{a:α->SS->Bool×SS}{d:Bool}:∀(e:List α) (s:SS),(∀t∈e,∀s,Tells s (a t s).2)->Tells s (X3 a d e s).2
 | [],s,h=>⟨rfl,rfl⟩
 |t::r,s,h=>by
  unfold X3;have b:=h t Kh s;split
  .exact b
  .have c:=C1 (d:=d) r (a t s).2 (fun x f=>h x (Kz _ f));exact⟨c.1.trans b.1,c.2.trans b.2⟩
theorem A'(M:Msg):∀(n:Nat) (x:Zn n) (s:SS),Tells s (Ye M n x s).2
 |0,x,s=>⟨rfl,rfl⟩
 |n+1,x,s=>by
  show Tells s (evalTN M (Ye M n) x.1 x.2 s).2
  unfold evalTN;split
  .exact⟨rfl,rfl⟩
  .exact⟨rfl,rfl⟩
  .match hx:x.2 with
   | []=>exact⟨rfl,rfl⟩
   |t::r=>exact A' M n t s
  .exact C1 x.2 s (fun t _ s=>A' M n t s)
  .exact C1 x.2 s (fun t _ s=>A' M n t s)
  .exact Dm
  .exact Dm
  .exact Dm
  .exact⟨rfl,rfl⟩
  .exact⟨rfl,rfl⟩
def A8(M:Msg)(hv:Value):Value:=.agg #[Qf M.fr,Qf M.to,Qa M.size,hv]
def HdR(w:World)(M:Msg)(hv:Value):Prop:=HdB w w.heap.size M hv
theorem StI.new{M:Msg}(v:Bool)(e:Qo w W)(j:w.heap.size<=d)(f:SB W d M.fr M.to M.size c v Qp Qp Qp Qp true false 0 0)(g:HdR w M c)(i:GK M):StI W w.heap.size d M (ss0 v) ⟨c,Qp,Qp,Qp,Qp,[],[]⟩ 0 true false 0 0:=by
 refine⟨j,f,Z5,Z5,Z5,(fun _=>Qt ⟨rfl,rfl⟩),(fun _=>rfl),(fun k a=>nomatch a),(fun k a=>nomatch a),(fun k a=>nomatch a),rfl,Q4 _,(fun x=>rfl),?_,i,(fun t b=>nomatch b),(fun t b=>nomatch b),(fun t b=>nomatch b),QR⟩;exact HdB.below g e
def RBk(rb:Nat)(w:World):Prop:=w.heap[rb]?=some (Qe #[Qp,Qa 0,Qa 0] 70)
theorem RBk.below{rb:Nat}(h:RBk rb w)(hb:Qo w w'):RBk rb w':=Ze h hb
theorem Hx(h:w.ownsRow base e size v n xs)(a:v.ownBlock=some k):∃cs,w.heap[k]?=some (Qe cs e):=by
 rcases h.2 with⟨c,_⟩ | ⟨g,i,b,f,_,d,_⟩
 .rw[c]at a;cases a
 .rw[f]at a;have:g=k:=by simpa[Value.ownBlock]using a
  exact⟨b,by rw[<-this];exact d⟩
section
variable {B sb rb:Nat} {M:Msg} {n:Nat} {i:Ins} {s s':SS} {st:List Bool} {pc d:Nat} {sv nv:Value} {wr wx w5:World} {z:StV}
end
theorem Nn.more{B:Nat}{M:Msg}{d:World}{b:Value}{c c':Nat}{a:SS->CR}(h:Nn B M d b c a)(m:c<=c'):Nn B M d b c' a:=by
 intro W l s z q k g f n;refine(h W l s z q k g f I).mono ?_;rintro e o ⟨he,i,j⟩;exact⟨he,i,j.more I⟩
theorem QsC{t:SS}(h:Tells s t):keepB t=keepB s:=by
 unfold keepB;rw[h.1,h.2]
theorem QuR{x:Q5 n}(h:RCmd n X x w v):∃g,v=(Qc g):=by
 match n,x,h with
 |n+1,x,⟨g,_,_,_,h,_⟩=>exact⟨g,h⟩
theorem Qv8{a:List (Q5 n)}:Jk (fun c=>(Xg n c).length) a a.length=(Q2 (Xg n) a).length:=by
 unfold Jk Q2;rw[KA,List.length_flatMap]
theorem O7(x:Xa×List (β×List α)×List α):(YN x).length=if x.1.els then x.2.1.length+1 else x.2.1.length:=by
 unfold YN;rw[Qz,XB];cases x.1.els<;>simp
theorem mem_blocksV{x:Xa×List (β×List α)×List α}{b:List α}(h:b∈YN x):(∃a∈x.2.1,a.2=b)\/(x.1.els=true/\b=x.2.2):=by
 unfold YN at h;rcases Z6.1 h with h|h
 .obtain⟨a,c,d⟩:=List.mem_map.1 h;exact Qt ⟨a,c,d⟩
 .by_cases he:x.1.els=true
  .rw[Qi he]at h;exact Qr ⟨he,ZV h⟩
  .rw[Qg he]at h;cases h
theorem Qwn(req:Qn)(B:Nat)(M:Msg):∀(n:Nat) (q:List (Q5 n)) (w:World) (v:Value) (i:L8),trY (RCmd n) (fun k=>k<B) q w v->(∀c∈q,YE (WfT req) (WfC req) n c)->(ZJ (ZR n) q i).length<=90000->Nn B M w v (Q2 (Xg n) q).length (bEval (evalC M n) q):=by
 intro n
 induction n with
 |zero=>
  intro q w v i h ha hl;rcases h with⟨rfl,rfl⟩ | ⟨ag,g,c,hv,_,Y⟩
  .exact D_ (B:=B) (M:=M) (w0:=w) (evalC M 0) (fun c=>(Xg 0 c).length) (f:=[]) none 0 QR (fun j l=>absurd l (XA _))
  .obtain⟨u,_,hu⟩:=Y 0 (Xz.2 ag);exact hu.elim
 |succ n ih=>
  intro q w v i h ha hl;obtain⟨aL,aC⟩:=Iv (ZR (n+1)) i q
  have aK:∀c∈q,∀g,RCmd (n+1) (fun k=>k<B) c w (.pointer (some ⟨g,0,none⟩))->OF B M w g (Xg (n+1) c).length (evalC M (n+1) c):=by
   intro c hc g hg;obtain⟨K,S,ap⟩:=ha c hc;obtain⟨g',av,tv,bv,ay,W,aD,G,X,U⟩:=hg;have az:g=g':=by injection ay with h;injection h with h;injection h
   subst az;have d:(YM c.1 i (c.2.1.map fun(a:Zn n×List (Q5 n))=>(Zx n a.1,ZJ (ZR n) a.2 (i++[32,32]))) (ZJ (ZR n) c.2.2 (i++[32,32]))).length<=90000:=QE (aC c hc) hl;have r:∀s,evalC M (n+1) c s=Uh (Ye M n) (evalC M n) c.1 c.2.1 c.2.2 s:=fun s=>rfl
   have af:Xg (n+1) c=Gk (Xv n) (Xg n) c.1 c.2.1 c.2.2:=rfl;refine⟨W,_,av,tv,bv,c.1.tag,c.1.pos,aD,?_⟩;have h7:=K.kind;have aA:c.1.kind=0\/c.1.kind=1\/c.1.kind=2\/c.1.kind=3\/c.1.kind=4\/c.1.kind=5\/c.1.kind=6\/c.1.kind=7:=by omega
   have aa:∀(k:L8) (Z:Int),cNs.getD c.1.kind []=k->Gq c.1=[c.1.arg]->(ZC [k,Zd c.1.arg]++[59]).length<=90000->(∀s,evalC M (n+1) c s=UQ s Z c.1.arg c.1.pos)->A4 B w (cNs.getD c.1.kind []) av c.1.pos k Z (evalC M (n+1) c):=by
    intro k Z aE R aB aq;rw[R]at G;have hq:(Zd c.1.arg).length<=(ZC [k,Zd c.1.arg]).length:=J9 (by simp);have aF:=Bq c.1.arg;rw[Qz]at aB;rcases G with h | ⟨z,y,A,D,t,_⟩
    .cases h.1
    .exact⟨aE,z,y,c.1.arg,A,D,t 0 (by simp),by omega,aq⟩
   rcases aA with e|e|e|e|e|e|e|e
   .exact Qr (Qr (Qt ⟨by rw[e];rfl,fun s=>by rw[r];unfold Uh;rw[e];rfl⟩))
   .exact Qr (Qt ⟨by rw[e];rfl,fun s=>by rw[r];unfold Uh;rw[e];rfl⟩)
   .exact Qt ⟨by rw[e];rfl,fun s=>by rw[r];unfold Uh;rw[e];rfl⟩
   .unfold YM at d;rw[e]at d;exact Qr (Qr (Qr (Qt (aa ZN 2 (by rw[e];rfl) (by unfold Gq;rw[e];rfl) d (fun s=>by rw[r];unfold Uh;rw[e];rfl)))))
   .unfold YM at d;rw[e]at d;exact Qr (Qr (Qr (Qr (Qt (aa Jt 3 (by rw[e];rfl) (by unfold Gq;rw[e];rfl) d (fun s=>by rw[r];unfold Uh;rw[e];rfl))))))
   .unfold YM at d;rw[e]at d;exact Qr (Qr (Qr (Qr (Qr (Qt (aa ZM 4 (by rw[e];rfl) (by unfold Gq;rw[e];rfl) d (fun s=>by rw[r];unfold Uh;rw[e];rfl)))))))
   .unfold YM at d;rw[e]at d;have d:(ZC [Xw,Jp c.1.tag [Yn,Ym,Yj],Zd c.1.var,Zd c.1.arg]++[59]).length<=90000:=d;rw[Qz]at d;have hq:(Zd c.1.arg).length<=(ZC [Xw,Jp c.1.tag [Yn,Ym,Yj],Zd c.1.var,Zd c.1.arg]).length:=J9 (by simp);have aF:=Bq c.1.arg;have R:Gq c.1=[c.1.var,c.1.arg]:=by unfold Gq;rw[e];rfl
    rw[R]at G;have aM:=K.tag;refine Qr (Qr (Qr (Qr (Qr (Qr (Qt ⟨by rw[e];rfl,?_,?_⟩))))))
    .rw[af];unfold Gk;rw[e];exact Q4 _
    .rcases G with h | ⟨z,y,A,D,t,_⟩
     .cases h.1
     .exact⟨z,y,c.1.var,c.1.arg,A,D,t 0 (by simp),t 1 (by simp),by omega,by omega,fun s=>by rw[r];unfold Uh;rw[e];rfl⟩
   .unfold YM at d;rw[e]at d;have d:(X7 i kIf (c.2.1.map fun(a:Zn n×List (Q5 n))=>(Zx n a.1,ZJ (ZR n) a.2 (i++[32,32])))++(if c.1.els then Nh++ZJ (ZR n) c.2.2 (i++[32,32])++i else [])++[125]).length<=90000:=d;simp only[Qz]at d;obtain⟨ai,ab⟩:=Lo i (c.2.1.map fun(a:Zn n×List (Q5 n))=>(Zx n a.1,ZJ (ZR n) a.2 (i++[32,32]))) kIf;rw[XB]at ai;have ac:c.2.1≠[]:=Xz.1 (K.arms e);have aG:c.2.1.map Prod.fst≠[]:=by simpa using ac
    have ak:YN c≠[]:=by unfold YN;simp;exact fun e=>absurd e ac
    have ao:Xg (n+1) c=XT (Xv n) (Xg n) c.2.2 c.2.1:=by rw[af];unfold Gk;rw[e];rfl
    obtain⟨aw,ax⟩:=MC (Xv n) (Xg n) c.2.2 c.2.1;rcases X with X | ⟨_,z,y,ah,D,aI⟩
    .exact absurd X.1 aG
    rcases U with U | ⟨_,g3,c3,ae,au,aJ⟩
    .exact absurd U.1 ak
    rw[XB]at ah;have ad:(YN (α:=Q5 n) (β:=Zn n) c).length=if c.1.els then c.2.1.length+1 else c.2.1.length:=O7 (α:=Q5 n) (β:=Zn n) c
    rw[ad]at ae
    have aH:∀a∈c.2.1,(Zx n a.1).length<=90000:=fun a N=>by
     have:=(ab _ (Vn (f:=fun(a:Zn n×List (Q5 n))=>(Zx n a.1,ZJ (ZR n) a.2 (i++[32,32]))) N)).1;dsimp only at this;omega
    have aj:∀a∈c.2.1,(ZJ (ZR n) a.2 (i++[32,32])).length<=90000:=fun a N=>by
     have:=(ab _ (Vn (f:=fun(a:Zn n×List (Q5 n))=>(Zx n a.1,ZJ (ZR n) a.2 (i++[32,32]))) N)).2;dsimp only at this;omega
    refine Qr (Qr (Qr (Qr (Qr (Qr (Qr ⟨by rw[e];rfl,?_⟩))))));refine⟨c.2.1.length,fun j s=>match c.2.1[j]? with|some a=>Ye M n a.1 s|none=>(false,s),fun j s=>match (YN c)[j]? with|some b=>bEval (evalC M n) b s|none=>.ok (s,false),c.1.els,z,g3,y,c3,ah,D,ae,au,by omega,?_,?_,?_,fun k s=>VP (Ye M n) (evalC M n) c.2.2 (c.2.1.drop k) s,?_,?_,?_⟩
    .intro j l;obtain⟨u,C,o⟩:=aI j (by rw[XB];exact l);obtain⟨F,rfl⟩:=Ik o;have E:c.2.1[j]∈c.2.1:=ZT l;rw[List.getElem_map]at o;refine⟨F,C,?_⟩
     have V:(fun s=>match c.2.1[j]? with|some a=>Ye M n a.1 s|none=>(false,s))=Ye M n c.2.1[j].1:=by
      rw[Zi l]
     show Gx B M w _ (fun s=>match c.2.1[j]? with|some a=>Ye M n a.1 s|none=>(false,s))
     rw[V];exact Ig (req:=req) B M n c.2.1[j].1 w _ o (S _ E).1 (El (fun x m A t h3 h4 h5=>⟨A,t,h3,h4,h5⟩) n _ (S _ E).1 (aH _ E))
    .intro j l;rw[<-ad]at l;obtain⟨u,C,o⟩:=aJ j l
     have ar:∃p m L,u=.slice p m L:=by
      rcases o with⟨_,h⟩ | ⟨_,g5,c5,h,_⟩
      .exact⟨_,_,_,h⟩
      .exact⟨_,_,_,h⟩
     obtain⟨p,m,L,rfl⟩:=ar;refine⟨p,m,L,C,?_⟩
     have V:(fun s=>match (YN c)[j]? with|some b=>bEval (evalC M n) b s|none=>.ok (s,false))=bEval (evalC M n) (YN c)[j]:=by
      rw[Zi l]
     show Nn B M w _ _ (fun s=>match (YN c)[j]? with|some b=>bEval (evalC M n) b s|none=>.ok (s,false))
     rw[V,ao];have E:(YN c)[j]∈YN c:=ZT l;rcases mem_blocksV E with⟨a,Q,P⟩ | ⟨H,P⟩
     .rw[<-P]at o ⊢;exact(ih a.2 w _ (i++[32,32]) o (S a Q).2 (aj a Q)).more (ax a Q)
     .rw[P]at o ⊢;refine(ih c.2.2 w _ (i++[32,32]) o ap ?_).more aw;rw[Qi H]at d;simp only[Qz]at d;omega
    .intro j s;show keepB (match c.2.1[j]? with|some a=>Ye M n a.1 s|none=>(false,s)).2=keepB s
     split
     .exact QsC (A' M n _ s)
     .rfl
    .intro s;rw[r];unfold Uh;rw[e];rfl
    .intro k s J;show VP _ _ _ (c.2.1.drop k) s=_
     rw[QtT _ _ J]
     have T:(YN c)[k]?=some c.2.1[k].2:=by
      unfold YN;rw[List.getElem?_append_left (by rw[XB];exact J),Ns,Zi J];rfl
     simp only[Zi J,T]
    .intro s;show VP _ _ _ (c.2.1.drop c.2.1.length) s=_
     rw[ZE QF];show bEval (evalC M n) c.2.2 s=_
     dsimp only
     cases H:c.1.els with
     |true=>
      have T:(YN c)[c.2.1.length]?=some c.2.2:=by
       unfold YN;rw[List.getElem?_append_right (by rw[XB];exact QF),XB,H];simp
      rw[T];rfl
     |false=>
      have:=K.else0 H;rw[XV this];rfl
  rw[<-Qv8];rcases h with⟨rfl,rfl⟩ | ⟨ag,g,c,hv,W,Y⟩
  .exact D_ (B:=B) (M:=M) (w0:=w) (evalC M (n+1)) (fun c=>(Xg (n+1) c).length) (f:=[]) none 0 QR (fun j l=>absurd l (XA _))
  .rw[hv];refine D_ (B:=B) (M:=M) (w0:=w) (evalC M (n+1)) (fun c=>(Xg (n+1) c).length) (f:=q) _ c (by omega) (fun j l=>?_);obtain⟨u,C,o⟩:=Y j l;obtain⟨F,rfl⟩:=QuR o;exact⟨g,F,rfl,W,C,aK _ (ZT l) F o⟩
end Go.Proofs.YtgnkjijocdmniaaGreatDoor
