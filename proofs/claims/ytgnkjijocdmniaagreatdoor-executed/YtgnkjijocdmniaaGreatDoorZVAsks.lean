import Derived.Test.YtgnkjijocdmniaaGreatDoorZVHolds
namespace Go.Proofs.YtgnkjijocdmniaaGreatDoor
set_option linter.unusedVariables false
set_option linter.unusedSimpArgs false
set_option maxRecDepth 100000
set_option maxHeartbeats 4000000
open Go.Proofs.Tryz
open Go.RowKit
attribute [local go_sem ↓] Go.wp_at_zero Go.wp_at_succ
variable{M:Msg}{a:List Ins}{d f k pc:Nat}{s:SS}{st:List Bool}{xs:Qa}
def Jt(s:SS)(xs:Qa)(k:Nat):Qa:=(xs.take k).map (expL s)
theorem MK(s:SS)(h:k<xs.length):Jt s xs (k+1)=Jt s xs k++[expL s xs[k]]:=by
 unfold Jt;rw[List.take_succ_eq_append_getElem h,List.map_append];rfl
theorem Pf(s:SS)(h:k<=xs.length):(Jt s xs k).length=k:=by
 unfold Jt;rw[List.length_map,List.length_take];omega
theorem P8(s:SS)(xs:Qa):Jt s xs xs.length=xs.map (expL s):=by
 unfold Jt;rw[List.take_length]
def Bj(s t:SS):Prop:=t.met=s.met/\t.disc=s.disc
theorem Ae(s:SS)(tag:Int)(oct:Bool)(vals keys:Qa):Bj s (askL s tag oct vals keys).2:=by
 unfold askL;split
 ·exact⟨rfl,rfl⟩
 ·split
  ·exact⟨rfl,rfl⟩
  ·exact⟨rfl,rfl⟩
def soundB(i:Ins)(pc n k:Nat):Bool:=
 if i.op=1 then(decide (i.n=0) || decide (i.n=1))&&decide (k<8)
 else if i.op=2 then decide (0<k)
 else if i.op=3 then decide (0<=i.n)&&decide (i.n<=(n:Int) - pc - 1)
 else if i.op=4\/i.op=5 then decide (0<k)&&decide (0<=i.n)&&decide (i.n<=(n:Int) - pc - 1)
 else if i.op=6\/i.op=7\/i.op=8 then decide (1<=i.tag)&&decide (i.tag<=3)&&decide (k<8)
 else if i.op=9 then decide (k<8)
 else if i.op=10 then(decide (i.tag=1) || decide (i.tag=2))&&decide (k<8)
 else if i.op=11 then decide (i.tag=1) || (decide (2<=i.tag)&&decide (i.tag<=4)&&decide (0<i.a.length))
 else if i.op=12 then decide (0<=i.tag)&&decide (i.tag<=3)&&decide (0<i.a.length)&&decide (0<i.b.length)
 else decide (i.op=13) || decide (i.op=14)
theorem KC{α:Type}{l:List α}:0<l.length↔l≠[]:=List.length_pos_iff
theorem SW{n:Nat}{i:Ins}(h:soundB i pc n st.length=false)(q:st.length<=8):stepL M n i ⟨s,st,pc,pc+1⟩=.error (12,(pc:Int)):=by
 have f:ZI ⟨s,st,pc,pc+1⟩=.error (12,(pc:Int)):=rfl;unfold soundB at h;unfold stepL;by_cases h1:i.op=1
 ·rw[if_pos h1]at h ⊢;unfold J1 Xl;simp at h;split
  ·rename_i l;rw[if_neg (by show ¬ st.length<8;have:=h l;omega)]
  ·exact f
 rw[if_neg h1]at h ⊢;by_cases h1:i.op=2
 ·rw[if_pos h1]at h ⊢;unfold J9;simp at h;rw[if_pos (show st=[]from h)];exact f
 rw[if_neg h1]at h ⊢
 have k:¬(0<=i.n/\i.n<=(n:Int) - pc - 1)->YG n ⟨s,st,pc,pc+1⟩ i.n=false:=fun h=>by
  unfold YG;rw[Bool.and_eq_false_iff];by_cases h0:0<=i.n
  ·right;show decide (i.n<=(n:Int) - ((pc+1:Nat):Int))=false
   simp;omega
  ·left;simpa using h0
 by_cases h1:i.op=3
 ·rw[if_pos h1]at h ⊢;unfold J3;rw[k (by simp at h;omega)];exact f
 rw[if_neg h1]at h ⊢
 have j:∀ m,(decide (0<st.length)&&decide (0<=i.n)&&decide (i.n<=(n:Int) - pc - 1))=false->doCond m n i ⟨s,st,pc,pc+1⟩=.error (12,(pc:Int)):=fun m h=>by
  unfold doCond;by_cases h0:0<=i.n/\i.n<=(n:Int) - pc - 1
  ·have p:st=[]:=by
    apply Classical.byContradiction;intro l;have:=KC.2 l;simp[this,h0.1]at h;omega
   subst p;split
   ·exact f
   ·exact f
  ·rw[k h0];exact f
 by_cases h1:i.op=4
 ·rw[if_pos (Qd h1)]at h;rw[if_pos h1];exact j true h
 rw[if_neg h1];by_cases h2:i.op=5
 ·rw[if_pos (Qc h2)]at h;rw[if_pos h2];exact j false h
 rw[if_neg (by omega)]at h;rw[if_neg h2];clear j k h1 h2
 have g:∀ o,(decide (1<=i.tag)&&decide (i.tag<=3)&&decide (st.length<8))=false->doAsk o i ⟨s,st,pc,pc+1⟩=.error (12,(pc:Int)):=fun o h=>by
  unfold doAsk Nn Xl;simp at h;split
  ·rename_i ht;rw[if_neg (by show ¬ st.length<8;have:=h ht.1 ht.2;omega)];rfl
  ·exact f
 by_cases h1:i.op=6
 ·rw[if_pos (Qd h1)]at h;rw[if_pos h1];exact g _ h
 rw[if_neg h1];by_cases h2:i.op=7
 ·rw[if_pos (Qc (Qd h2))]at h;rw[if_pos h2];exact g _ h
 rw[if_neg h2];by_cases h3:i.op=8
 ·rw[if_pos (Qc (Qc h3))]at h;rw[if_pos h3];exact g _ h
 rw[if_neg (by omega)]at h;rw[if_neg h3];clear g h1 h2 h3;by_cases h1:i.op=9
 ·rw[if_pos h1]at h ⊢;unfold Xl;simp at h;rw[if_neg (by show ¬ st.length<8;omega)]
 rw[if_neg h1]at h ⊢;by_cases h1:i.op=10
 ·rw[if_pos h1]at h ⊢;unfold JY Xl;simp at h;split
  ·rename_i ht;rw[if_neg (by show ¬ st.length<8;have:=h ht;omega)]
  ·exact f
 rw[if_neg h1]at h ⊢;by_cases h1:i.op=11
 ·rw[if_pos h1]at h ⊢;unfold YI;simp at h;rw[if_neg h.1,if_neg (fun e=>e.2.2 (h.2 e.1 e.2.1))];exact f
 rw[if_neg h1]at h ⊢;by_cases h1:i.op=12
 ·rw[if_pos h1]at h ⊢;unfold Ka;rw[if_neg]
  ·exact f
  ·rintro⟨a,b,c,d⟩;have:=KC.2 c;have:=KC.2 d;simp_all
 rw[if_neg h1]at h ⊢;simp at h;rw[if_neg h.1,if_neg h.2];exact f
def askE(M:Msg)(i:Ins)(s:SS):Bool×SS:=
 if i.op=6 then askL s i.tag i.oct (fieldsL M (i.a.map (expL s))) i.b
 else if i.op=7 then askL s i.tag i.oct (envL M i.a) i.b
 else if i.op=8 then askL s i.tag i.oct (i.a.map (expL s)) i.b
 else if i.op=9 then(existsL M (i.a.map (expL s)),s)
 else(sizeB M i.tag i.n,s)
section
variable {M:Msg} {s:SS} {st:List Bool} {pc n:Nat} {i:Ins}
theorem Tv(h:i.op=1)(a:soundB i pc n st.length=true):stepL M n i ⟨s,st,pc,pc+1⟩=.ok ⟨s,st++[decide (i.n=1)],pc,pc+1⟩/\st.length<8:=by
 unfold soundB at a;rw[if_pos h]at a;simp at a;refine⟨?_,a.2⟩;unfold stepL;rw[if_pos h];unfold J1;rw[if_pos a.1];exact if_pos a.2
theorem WC(h:i.op=2)(a:soundB i pc n st.length=true)(c:st.length<=8):stepL M n i ⟨s,st,pc,pc+1⟩=.ok ⟨s,st.dropLast++[!st.getLastD false],pc,pc+1⟩/\0<st.length:=by
 unfold soundB at a;rw[if_neg (by omega),if_pos h]at a;have b:0<st.length:=of_decide_eq_true a;refine⟨?_,b⟩;unfold stepL;rw[if_neg (by omega),if_pos h];unfold J9;rw[if_neg (show ¬ st=[]from KC.1 b)];exact if_pos (show st.dropLast.length<8 by rw[List.length_dropLast];omega)
theorem Eu(a:0<=i.n)(b:i.n<=(n:Int) - pc - 1):YG n ⟨s,st,pc,pc+1⟩ i.n=true:=by
 unfold YG;rw[Bool.and_eq_true];refine⟨by simpa using a,?_⟩;show decide (i.n<=(n:Int) - ((pc+1:Nat):Int))=true
 simp;omega
theorem S6(h:i.op=3)(a:soundB i pc n st.length=true):stepL M n i ⟨s,st,pc,pc+1⟩=.ok ⟨s,st,pc,pc+1+i.n.toNat⟩/\0<=i.n/\i.n<=(n:Int) - pc - 1:=by
 unfold soundB at a;rw[if_neg (by omega),if_neg (by omega),if_pos h]at a;simp at a;refine⟨?_,a⟩;unfold stepL;rw[if_neg (by omega),if_neg (by omega),if_pos h];unfold J3;rw[if_pos (Eu a.1 a.2)];rfl
theorem EA(b:Bool)(h:i.op=if b then 4 else 5)(a:soundB i pc n st.length=true):stepL M n i ⟨s,st,pc,pc+1⟩=.ok ⟨s,st.dropLast,pc,if st.getLastD false=b then pc+1+i.n.toNat else pc+1⟩/\0<st.length/\0<=i.n/\i.n<=(n:Int) - pc - 1:=by
 have j:i.op=4\/i.op=5:=by cases b<;>simp at h<;>omega
 unfold soundB at a;rw[if_neg (by omega),if_neg (by omega),if_neg (by omega),if_pos j]at a;simp at a;obtain⟨⟨c,d⟩,e⟩:=a;refine⟨?_,c,d,e⟩
 have f:∀ t,doCond t n i ⟨s,st,pc,pc+1⟩=.ok ⟨s,st.dropLast,pc,if st.getLastD false=t then pc+1+i.n.toNat else pc+1⟩:=fun t=>by
  unfold doCond;rw[if_pos (Eu d e),if_neg (show ¬ st=[]from KC.1 c)];show Except.ok (if st.getLastD false=t then _ else _)=_
  split<;>rfl
 unfold stepL;rw[if_neg (by omega),if_neg (by omega),if_neg (by omega)]
 cases b with
 |true=>
  have g:i.op=4:=h;rw[if_pos g];exact f true
 |false=>
  have k:i.op=5:=h;rw[if_neg (by omega),if_pos k];exact f false
theorem Tz(h:i.op=6\/i.op=7\/i.op=8\/i.op=9\/i.op=10)(a:soundB i pc n st.length=true):stepL M n i ⟨s,st,pc,pc+1⟩=.ok ⟨(askE M i s).2,st++[(askE M i s).1],pc,pc+1⟩/\st.length<8/\(i.op<=8->1<=i.tag/\i.tag<=3)/\(i.op=10->i.tag=1\/i.tag=2):=by
 have b:∀(v:Bool) (c:SS),st.length<8->Xl v ⟨c,st,pc,pc+1⟩=.ok ⟨c,st++[v],pc,pc+1⟩:=fun v c h=>if_pos h
 unfold soundB at a;rw[if_neg (by omega),if_neg (by omega),if_neg (by omega),if_neg (by omega)]at a;unfold stepL askE;rw[if_neg (by omega),if_neg (by omega),if_neg (by omega),if_neg (by omega),if_neg (by omega)];rcases h with h|h|h|h|h
 ·rw[if_pos (Qd h)]at a;simp at a;refine⟨?_,a.2,fun _=>a.1,fun e=>by omega⟩;rw[if_pos h,if_pos h];unfold doAsk;rw[if_pos a.1];exact b _ _ a.2
 ·rw[if_pos (Qc (Qd h))]at a;simp at a;refine⟨?_,a.2,fun _=>a.1,fun e=>by omega⟩;rw[if_neg (by omega),if_pos h,if_neg (by omega),if_pos h];unfold doAsk;rw[if_pos a.1];exact b _ _ a.2
 ·rw[if_pos (Qc (Qc h))]at a;simp at a;refine⟨?_,a.2,fun _=>a.1,fun e=>by omega⟩;rw[if_neg (by omega),if_neg (by omega),if_pos h,if_neg (by omega),if_neg (by omega),if_pos h];unfold doAsk;rw[if_pos a.1];exact b _ _ a.2
 ·rw[if_neg (by omega),if_pos h]at a;simp at a;refine⟨?_,a,fun e=>by omega,fun e=>by omega⟩;rw[if_neg (by omega),if_neg (by omega),if_neg (by omega),if_pos h,if_neg (by omega),if_neg (by omega),if_neg (by omega),if_pos h];exact b _ _ a
 ·rw[if_neg (by omega),if_neg (by omega),if_pos h]at a;simp at a;refine⟨?_,a.2,fun e=>by omega,fun _=>a.1⟩;rw[if_neg (by omega),if_neg (by omega),if_neg (by omega),if_neg (by omega),if_pos h,if_neg (by omega),if_neg (by omega),if_neg (by omega),if_neg (by omega)];unfold JY;rw[if_pos a.1];exact b _ _ a.2
def U0(i:Ins):L8:=if i.tag=1 then []else i.a.headD []
theorem Wz(h:i.op=11)(hs:soundB i pc n st.length=true):stepL M n i ⟨s,st,pc,pc+1⟩=(if(addL s.met i.tag (expL s (U0 i))).1=0 then .ok ⟨XE s (addL s.met i.tag (expL s (U0 i))).2,st,pc,pc+1⟩else .error ((addL s.met i.tag (expL s (U0 i))).1,i.at_))/\((i.tag=1/\U0 i=[])\/(¬ i.tag=1/\(i.tag=2\/i.tag=3\/i.tag=4)/\0<i.a.length)):=by
 unfold soundB at hs;rw[if_neg (by omega),if_neg (by omega),if_neg (by omega),if_neg (by omega),if_neg (by omega),if_neg (by omega),if_neg (by omega),if_pos h]at hs;simp at hs;unfold stepL U0;rw[if_neg (by omega),if_neg (by omega),if_neg (by omega),if_neg (by omega),if_neg (by omega),if_neg (by omega),if_neg (by omega),if_neg (by omega),if_neg (by omega),if_neg (by omega),if_pos h];unfold YI;by_cases h1:i.tag=1
 ·rw[if_pos h1,if_pos h1];exact⟨rfl,Qd ⟨h1,rfl⟩⟩
 ·have b:(2<=i.tag/\i.tag<=4)/\i.a≠[]:=by
   rcases hs with hs|hs
   ·exact absurd hs h1
   ·exact⟨hs.1,KC.1 hs.2⟩
  rw[if_neg h1,if_neg h1,if_pos ⟨b.1.1,b.1.2,b.2⟩];exact⟨rfl,Qc ⟨h1,by omega,KC.2 b.2⟩⟩
theorem TL(h:i.op=12)(c:soundB i pc n st.length=true):stepL M n i ⟨s,st,pc,pc+1⟩=.ok ⟨KQ s (i.a.headD []) i.tag (i.b.headD []),st,pc,pc+1⟩/\(i.tag=0\/i.tag=1\/i.tag=2\/i.tag=3)/\0<i.a.length/\0<i.b.length:=by
 unfold soundB at c;rw[if_neg (by omega),if_neg (by omega),if_neg (by omega),if_neg (by omega),if_neg (by omega),if_neg (by omega),if_neg (by omega),if_neg (by omega),if_pos h]at c;simp at c;obtain⟨⟨⟨f,g⟩,d⟩,e⟩:=c;refine⟨?_,by omega,d,e⟩;unfold stepL;rw[if_neg (by omega),if_neg (by omega),if_neg (by omega),if_neg (by omega),if_neg (by omega),if_neg (by omega),if_neg (by omega),if_neg (by omega),if_neg (by omega),if_neg (by omega),if_neg (by omega),if_pos h];unfold Ka;rw[if_pos ⟨f,g,KC.1 d,KC.1 e⟩];rfl
theorem Tb(h:i.op=13):stepL M n i ⟨s,st,pc,pc+1⟩=.ok ⟨KJ s,st,pc,pc+1⟩:=by
 unfold stepL;rw[if_neg (by omega),if_neg (by omega),if_neg (by omega),if_neg (by omega),if_neg (by omega),if_neg (by omega),if_neg (by omega),if_neg (by omega),if_neg (by omega),if_neg (by omega),if_neg (by omega),if_neg (by omega),if_pos h];rfl
theorem TU(h:i.op=14):stepL M n i ⟨s,st,pc,pc+1⟩=.ok ⟨s,st,pc,n⟩:=by
 unfold stepL;rw[if_neg (by omega),if_neg (by omega),if_neg (by omega),if_neg (by omega),if_neg (by omega),if_neg (by omega),if_neg (by omega),if_neg (by omega),if_neg (by omega),if_neg (by omega),if_neg (by omega),if_neg (by omega),if_neg (by omega),if_pos h];rfl
theorem Si(a:soundB i pc n st.length=true):i.op=1\/i.op=2\/i.op=3\/i.op=4\/i.op=5\/(i.op=6\/i.op=7\/i.op=8\/i.op=9\/i.op=10)\/i.op=11\/i.op=12\/i.op=13\/i.op=14:=by
 apply Classical.byContradiction;intro b;unfold soundB at a;rw[if_neg (by omega),if_neg (by omega),if_neg (by omega),if_neg (by omega),if_neg (by omega),if_neg (by omega),if_neg (by omega),if_neg (by omega),if_neg (by omega)]at a;simp at a;omega
end
theorem Dk{b:Nat}(h:pc<a.length):Xh M a (f+1) ⟨s,st,b,pc⟩ d=match stepL M a.length a[pc] ⟨s,st,pc,pc+1⟩with
 | .error e=>(.error e,d+1)
 | .ok m'=>Xh M a f m' (d+1):=by
 show(if pc<a.length then _ else _)=_
 rw[if_pos h,List.getD_eq_getElem?_getD,List.getElem?_eq_getElem h];rfl
theorem D5{m:MS}(h:a.length<=m.next):Xh M a f m d=(.ok m,d):=by
 cases f with
 |zero=>rfl
 |succ f=>
  show(if m.next<a.length then _ else _)=_
  rw[if_neg (by omega)]
structure Vz (w:World) (i:Ins) (av bv:Value):Prop where
 a:TxO w av i.a
 b:TxO w bv i.b
 al:i.a.length<=100000
 bl:i.b.length<=100000
 sa:∀ z∈i.a,z.length<=100000
 sb:∀ z∈i.b,z.length<=100000
 rm:∀ p n c,av=.slice p n c->n<=c
theorem Vz.below{w w':World}{i:Ins}{av bv:Value}(h:Vz w i av bv)(hb:Below w.heap.size w w'):Vz w' i av bv:=⟨h.a.below hb,h.b.below hb,h.al,h.bl,h.sa,h.sb,h.rm⟩
def Vq(B sb:Nat)(M:Msg)(s:SS)(z:StV)(q:Nat)(kp en:Bool)(er pz:Int)(i:Ins)(av bv:Value)(w:World):Prop:=
 StI w B sb M s z q kp en er pz->q<=1000000->Vz w i av bv->Calls prog 48 #[.pointer (some ⟨sb,0,none⟩),Zh i av bv] w (HP B sb M q kp en er pz w (askE M i s))
theorem Ii(B sb:Nat)(M:Msg)(s:SS)(z:StV)(q:Nat)(V P:Bool)(Q X:Int)(i:Ins)(av bv:Value)(w:World)(v:i.op=6)(ht:1<=i.tag/\i.tag<=3):Vq B sb M s z q V P Q X i av bv w:=by
 intro h T j;obtain⟨m,k,R,ah⟩:=id j.a;obtain⟨p,l,ad,ag⟩:=id j.b;have ai:=I (j.rm _ _ _ R);have t:=I j;subst R ad;have H:=I h;have aj:=h.lt;unfold Zh;obtain⟨W,u⟩:=QF (w.alloc (.cells #[.int .i64 i.op,.int .i64 i.n,.int .i64 i.tag,.bool i.oct,.slice m i.a.length k,.slice p i.b.length l,.int .i64 i.at_] 63));have N:=I u;have r:Hid (Below w.heap.size w W):=by show Below _ _ _;rw[u];exact Qp _
 have d:W.heap[w.heap.size]?=some (.cells #[.int .i64 i.op,.int .i64 i.n,.int .i64 i.tag,.bool i.oct,.slice m i.a.length k,.slice p i.b.length l,.int .i64 i.at_] 63):=by rw[u];exact QC _ _
 have K:=I d;have ab:=I (H.o.below r.o);have C:=I (t.o.below r.o);have af:=r.o.size;rw[v]at d K N;rw[v];have c0:=Qk d;have c1:=Qr d;have c2:=QJ d;have c3:=QR d;have c4:=QV d;have c5:=Q9 d;have c6:=Zz d;have L:=I (ab.o.fields T (.slice m i.a.length k) i.a C.o.a C.o.al C.o.sa);have A:=I (Og h.mb (by rw[List.length_map];exact j.al):(fieldsL M (i.a.map (expL s))).length<=10000000000/\∀ x∈fieldsL M (i.a.map (expL s)),x.length<=100000);have HT:Hid (i.tag=1\/i.tag=2\/i.tag=3):=by show _\/_;omega
 have J:Hid (askE M i s=askL s i.tag i.oct (fieldsL M (i.a.map (expL s))) i.b):=by show _=_;unfold askE;rw[v];rfl
 rw[J.o];obtain⟨G,F⟩:=Qe (fieldsL M (i.a.map (expL s)));rw[F]at L A;rw[F];clear h j ah ag F d u v ht J;go_enter func48,ntmps48;go_wp2_with (first|(rw[<-N.o];skip));refine L.o.mono ?_;rintro e g ⟨Y,rfl,E,D⟩;have f:=QP K.o D;have d0:=Qk f;have d1:=Qr f;have d2:=QJ f;have d3:=QR f;have d4:=QV f;have d5:=Q9 f;have d6:=Zz f;have y:=I (r.o.trans (D.mono af));have aa:=I (NK B sb M s z q V P Q X Y (.slice p i.b.length l) G i.b i.tag i.oct g (H.o.below y.o) T (TxL.of_ownsV E).toO (t.o.b.below y.o) HT.o A.o.1 (by have:=t.o.bl;omega) A.o.2 t.o.sb);obtain⟨ra,rn,rc,ae⟩:∃ a n c,Y=.slice a n c:=by obtain⟨a,c,h⟩:=QQ E;exact⟨a,_,c,h⟩
 subst ae;clear E D f;go_wp2_with fail;refine aa.o.mono ?_;rintro e w2 ⟨rfl,S,U⟩;have Z:=I ((Mod.of_below y.o).trans S);have ac:=I U;clear S U;go_wp2;go_ret;exact⟨rfl,Z.o,ac.o⟩
theorem Ly(B sb:Nat)(M:Msg)(s:SS)(z:StV)(q:Nat)(V Q:Bool)(R X:Int)(i:Ins)(av bv:Value)(w:World)(v:i.op=7)(ht:1<=i.tag/\i.tag<=3):Vq B sb M s z q V Q R X i av bv w:=by
 intro h hq j;obtain⟨m,k,S,ag⟩:=id j.a;obtain⟨p,l,ac,af⟩:=id j.b;have ah:=I (j.rm _ _ _ S);have t:=I j;subst S ac;have H:=I h;have ai:=h.lt;unfold Zh;obtain⟨W,u⟩:=QF (w.alloc (.cells #[.int .i64 i.op,.int .i64 i.n,.int .i64 i.tag,.bool i.oct,.slice m i.a.length k,.slice p i.b.length l,.int .i64 i.at_] 63));have P:=I u;have r:Hid (Below w.heap.size w W):=by show Below _ _ _;rw[u];exact Qp _
 have d:W.heap[w.heap.size]?=some (.cells #[.int .i64 i.op,.int .i64 i.n,.int .i64 i.tag,.bool i.oct,.slice m i.a.length k,.slice p i.b.length l,.int .i64 i.at_] 63):=by rw[u];exact QC _ _
 have K:=I d;have N:=I (H.o.below r.o);have C:=I (t.o.below r.o);have ae:=r.o.size;rw[v]at d K P;rw[v];have c0:=Qk d;have c1:=Qr d;have c2:=QJ d;have c3:=QR d;have c4:=QV d;have c5:=Q9 d;have c6:=Zz d;have L:=I (PJ sb M (.slice m i.a.length k) i.a W (Qi N.o.blk 0) (Qi N.o.blk 1) C.o.a (by have:=C.o.al;omega) (fun x hx=>by have:=C.o.sa x hx;omega));have A:=I (S3 h.mb j.al:(envL M i.a).length<=10000000000/\∀ x∈envL M i.a,x.length<=100000);have HT:Hid (i.tag=1\/i.tag=2\/i.tag=3):=by show _\/_;omega
 have J:Hid (askE M i s=askL s i.tag i.oct (envL M i.a) i.b):=by show _=_;unfold askE;rw[v];rfl
 rw[J.o];obtain⟨G,F⟩:=Qe (envL M i.a);rw[F]at L A;rw[F];clear h j ag af F d u v ht J;go_enter func48,ntmps48;go_wp2_with (first|(rw[<-P.o];skip));refine L.o.mono ?_;rintro e g ⟨Y,rfl,E,D⟩;have f:=QP K.o D;have d0:=Qk f;have d1:=Qr f;have d2:=QJ f;have d3:=QR f;have d4:=QV f;have d5:=Q9 f;have d6:=Zz f;have y:=I (r.o.trans (D.mono ae));have aa:=I (NK B sb M s z q V Q R X Y (.slice p i.b.length l) G i.b i.tag i.oct g (H.o.below y.o) hq (TxL.of_ownsV E).toO (t.o.b.below y.o) HT.o A.o.1 (by have:=t.o.bl;omega) A.o.2 t.o.sb);obtain⟨ra,rn,rc,ad⟩:∃ a n c,Y=.slice a n c:=by obtain⟨a,c,h⟩:=QQ E;exact⟨a,_,c,h⟩
 subst ad;clear E D f;go_wp2_with fail;refine aa.o.mono ?_;rintro e w2 ⟨rfl,T,U⟩;have Z:=I ((Mod.of_below y.o).trans T);have ab:=I U;clear T U;go_wp2;go_ret;exact⟨rfl,Z.o,ab.o⟩
theorem IE(B sb:Nat)(M:Msg)(s:SS)(z:StV)(q:Nat)(U K:Bool)(L V:Int)(i:Ins)(G J:Value)(w:World)(j:i.op=9):Vq B sb M s z q U K L V i G J w:=by
 intro h Q d;obtain⟨l,k,y,T⟩:=id d.a;obtain⟨r,p,P,S⟩:=id d.b;have E:=I (d.rm _ _ _ y);have D:=I d;subst y P;have H:=I h;have aa:=h.lt;unfold Zh;obtain⟨W,g⟩:=QF (w.alloc (.cells #[.int .i64 i.op,.int .i64 i.n,.int .i64 i.tag,.bool i.oct,.slice l i.a.length k,.slice r i.b.length p,.int .i64 i.at_] 63));have v:=I g;have f:Hid (Below w.heap.size w W):=by show Below _ _ _;rw[g];exact Qp _
 have c:W.heap[w.heap.size]?=some (.cells #[.int .i64 i.op,.int .i64 i.n,.int .i64 i.tag,.bool i.oct,.slice l i.a.length k,.slice r i.b.length p,.int .i64 i.at_] 63):=by rw[g];exact QC _ _
 have A:=I c;have F:=I (H.o.below f.o);have m:=I (D.o.below f.o);have R:=f.o.size;rw[j]at c A v;rw[j];have X:=Qk c;have Y:=Qr c;have Z:=QJ c;have c3:=QR c;have c4:=QV c;have c5:=Q9 c;have c6:=Zz c;have C:=I (F.o.existsV Q l k i.a (by obtain⟨ac,ab,he,N⟩:=m.o.a;injection he with e1 e2 e3;subst e1;exact N) E.o m.o.al m.o.sa);have u:Hid (askE M i s=(existsL M (i.a.map (expL s)),s)):=by show _=_;unfold askE;rw[j];rfl
 rw[u.o];clear h d T S c g j u;go_enter func48,ntmps48;go_wp2_with (first|(rw[<-v.o];skip));refine C.o.mono ?_;rintro e w1 ⟨rfl,x⟩;have t:=I (f.o.trans (x.mono R));clear x;go_wp2;go_ret;exact⟨rfl,Mod.of_below t.o,z,H.o.below t.o⟩
theorem MN(B sb:Nat)(M:Msg)(s:SS)(z:StV)(q:Nat)(N E:Bool)(F P:Int)(i:Ins)(C D:Value)(w:World)(g:i.op=10)(J:i.tag=1\/i.tag=2):Vq B sb M s z q N E F P i C D w:=by
 intro h hq e;obtain⟨l,j,t,L⟩:=id e.a;obtain⟨m,k,G,K⟩:=id e.b;have Q:=I (e.rm _ _ _ t);have y:=I e;subst t G;have H:=I h;have ab:=h.lt;unfold Zh;obtain⟨W,f⟩:=QF (w.alloc (.cells #[.int .i64 i.op,.int .i64 i.n,.int .i64 i.tag,.bool i.oct,.slice l i.a.length j,.slice m i.b.length k,.int .i64 i.at_] 63));have r:=I f;have c:Hid (Below w.heap.size w W):=by show Below _ _ _;rw[f];exact Qp _
 have d:W.heap[w.heap.size]?=some (.cells #[.int .i64 i.op,.int .i64 i.n,.int .i64 i.tag,.bool i.oct,.slice l i.a.length j,.slice m i.b.length k,.int .i64 i.at_] 63):=by rw[f];exact QC _ _
 have v:=I d;have A:=I (H.o.below c.o);have R:=I (y.o.below c.o);have aa:=c.o.size;rw[g]at d v r;rw[g];have S:=Qk d;have T:=Qr d;have U:=QJ d;have V:=QR d;have X:=QV d;have Y:=Q9 d;have Z:=Zz d;have s2:=QJ A.o.blk;have x:=I (fun u=>MX M i.n i.tag u J);have p:Hid (askE M i s=(sizeB M i.tag i.n,s)):=by show _=_;unfold askE;rw[g];rfl
 rw[p.o];clear h e L K d f g p;go_enter func48,ntmps48;go_wp2_with (first|(rw[<-r.o];skip));go_quiet (first|(go_at_call 75;refine Calls.quiet_of_same (x.o _)));go_wp2;go_ret;exact⟨rfl,Mod.of_below ⟨c.o.os,c.o.tape,c.o.output,c.o.size,c.o.block⟩,z,H.o.below ⟨c.o.os,c.o.tape,c.o.output,c.o.size,c.o.block⟩⟩
theorem F4(B sb:Nat)(M:Msg)(s:SS)(z:StV)(q:Nat)(kp en:Bool)(er pz:Int)(i:Ins)(av bv:Value)(w:World)(K:i.op=8)(ht:1<=i.tag/\i.tag<=3):Vq B sb M s z q kp en er pz i av bv w:=by
 intro h hq m;obtain⟨R,Q,ae,ah⟩:=id m.a;obtain⟨v,t,aD,aJ⟩:=id m.b;have aP:=I (m.rm _ _ _ ae);have l:=I m;subst ae aD;have H:=I h;have aT:=h.lt;unfold Zh;obtain⟨W,F⟩:=QF (w.alloc (.cells #[.int .i64 i.op,.int .i64 i.n,.int .i64 i.tag,.bool i.oct,.slice R i.a.length Q,.slice v i.b.length t,.int .i64 i.at_] 63));have HW:=I F;have C:Hid (Below w.heap.size w W):=by show Below _ _ _;rw[F];exact Qp _
 have d:W.heap[w.heap.size]?=some (.cells #[.int .i64 i.op,.int .i64 i.n,.int .i64 i.tag,.bool i.oct,.slice R i.a.length Q,.slice v i.b.length t,.int .i64 i.at_] 63):=by rw[F];exact QC _ _
 have S:=I d;have aR:=I (H.o.below C.o);have aQ:=I (l.o.below C.o);have aS:=C.o.size;rw[K]at d S HW;rw[K];have c0:=Qk d;have c1:=Qr d;have c2:=QJ d;have c3:=QR d;have c4:=QV d;have c5:=Q9 d;have c6:=Zz d;have HT:Hid (i.tag=1\/i.tag=2\/i.tag=3):=by show _\/_;omega
 have HE:Hid (askE M i s=askL s i.tag i.oct (i.a.map (expL s)) i.b):=by show _=_;unfold askE;rw[K];rfl
 have aE:=m.al;rw[HE.o];obtain⟨i0,hi,aN,aO,P⟩:=info_parts Tryz.infoStr;have aB:=I ah;clear h m ah aJ d F K ht HE;go_enter func48,ntmps48;go_wp2_with (first|(rw[<-HW.o];skip))
 go_loopw [7,8] (fun lv Z wr=>∃(k:Nat),k<=i.a.length/\Z=.int .i64 k/\wr.ownsRow w.heap.size 9 1 lv (Jt s i.a k).length (Qv (Jt s i.a k))/\Hid (Below w.heap.size w wr)/\Hid (wr.heap[w.heap.size]?=W.heap[w.heap.size]?)) (fun _ Z _=>i.a.length - (intOf Z).toNat)
 case atStart=>exact⟨0,QE,rfl,Zj,C,rfl⟩
 case round=>
  obtain⟨k,V,rfl,f,g,ac⟩:=hrel;have aM:=g.o.size;have c:=ac.o.trans S.o;have aV:w.heap.size<wr.heap.size:=Qg c;have d0:=Qk c;have d1:=Qr c;have d2:=QJ c;have d3:=QR c;have d4:=QV c;have d5:=Q9 c;have d6:=Zz c;by_cases hkx:k<i.a.length
  ·have aG:(k:Int)<(i.a.length:Int):=by omega
   obtain⟨gg,ak,aH,T⟩:=aB.o k hkx;subst aH;have b1:wr.cell? ⟨gg,ak+k,none⟩=some (.string (sA i.a[k])):=by rw[g.o.cell (p:=⟨gg,ak+k,none⟩) (Qq T)];exact T
   have D:=I ((H.o.below g.o).expand hq i.a[k] (l.o.sa _ (List.getElem_mem hkx)));have ab:=I (MK s hkx);have X:=Pf s V;have aq:=I X;obtain⟨y,N⟩:=Qe (expL s i.a[k]);rw[N]at D ab;obtain⟨xk,aj⟩:=Qe (i.a[k]);rw[aj]at D b1;rw[X]at f;have aA:=I f;have ay:=I c;clear N aj X T f c ac;go_wp2_with fail;refine D.o.mono ?_;rintro e w2 ⟨rfl,E⟩;have L:=Xt aA.o E;have aa:=I (g.o.trans (E.mono aM));have aK:=aa.o.size;have G:=QP ay.o E;have ap:=I G;have ag:=ZF L G (by decide);have ax:=I ag;have aL:w.heap.size<w2.heap.size:=Qg G;clear E D G ag;go_wp2_with (at_builtin;refine wpList_append_own _ rfl _ _ 61 rfl w.heap.size 9 i0 (.string ⟨#[]⟩) 1 16 underlying61 hi aN aO P rfl (by decide) _ _ _ rfl (L.alloc _) ⟨w2.heap.size,0,none⟩ 1 1 [.string (sA y)] rfl rfl ?c1 ?c2 ?c3 ?c4 ?c5 ?_)
   case c1=>
    intro j u J
    match j,J with
    |0,J=>simp at J;subst J;simp[Addr.add]
   case c2=>intro u hu;simp at hu;subst hu;rfl
   case c3=>unfold maxLen;omega
   case c4=>omega
   case c5=>simp;omega
   ·intro v5 w5 Y U _;have ao:=I (JI aa.o aK U (fun k V=>(L.lt k V).1));rw[X0]at Y
    have az:Hid (w5.ownsRow w.heap.size 9 1 v5 (Jt s i.a (k+1)).length (Qv (Jt s i.a (k+1)))):=by
     show World.ownsRow _ _ _ _ _ _ _
     rw[ab.o,Ze,aq.o];exact Y
    have aw:Hid (w5.heap[w.heap.size]?=W.heap[w.heap.size]?):=by
     show _=_
     rw[S.o,U.block w.heap.size (by simp;omega) (fun e=>ax.o e.symm),Below.heap_alloc _ _ _ aL];exact ap.o
    clear Y U L;go_wp2;go_roundw
    case rel=>exact⟨k+1,by omega,by go_num,az.o,ao,aw⟩
    case measure=>simp[intOf];omega
  ·have aF:k=i.a.length:=by omega
   subst aF;have aG:¬(i.a.length:Int)<(i.a.length:Int):=by omega
   rw[P8]at f;obtain⟨A,r⟩:=Qe (i.a.map (expL s));have aU:A.length<=100000:=by rw[<-r,List.length_map];exact aE
   have ai:∀ x∈A,x.length<=100000:=fun x hx=>by
    rw[<-r]at hx;obtain⟨y,N,rfl⟩:=List.mem_map.1 hx;exact V4 s (l.o.sa y N)
   rw[r]at f;have ad:=I r;have au:=I (NK B sb M s z q kp en er pz u7 (.slice v i.b.length t) A i.b i.tag i.oct wr (H.o.below g.o) hq (TxL.of_ownsV f).toO (l.o.b.below g.o) HT.o (by omega) (by have:=l.o.bl;omega) ai l.o.sb);obtain⟨ra,rc,aI⟩:=QQ f;subst aI;clear f ai r c;go_wp2_with fail;refine au.o.mono ?_;rintro e w2 ⟨rfl,af,P⟩;have ar:=I ((Mod.of_below g.o).trans af);have aC:=I P;clear af P;go_wp2;go_ret;exact⟨QS (by rw[ad.o]),ar.o,by rw[ad.o];exact aC.o⟩
theorem P7(B sb:Nat)(M:Msg)(s:SS)(z:StV)(q:Nat)(e c:Bool)(d f:Int)(i:Ins)(a b:Value)(w:World)(j:i.op=6\/i.op=7\/i.op=8\/i.op=9\/i.op=10)(g:i.op<=8->1<=i.tag/\i.tag<=3)(k:i.op=10->i.tag=1\/i.tag=2):Vq B sb M s z q e c d f i a b w:=by
 rcases j with h|h|h|h|h
 ·exact Ii B sb M s z q e c d f i a b w h (g (by omega))
 ·exact Ly B sb M s z q e c d f i a b w h (g (by omega))
 ·exact F4 B sb M s z q e c d f i a b w h (g (by omega))
 ·exact IE B sb M s z q e c d f i a b w h
 ·exact MN B sb M s z q e c d f i a b w h (k h)
end Go.Proofs.YtgnkjijocdmniaaGreatDoor
