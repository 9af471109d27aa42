import Derived.Defers
import Derived.Recover
import Derived.Test.YthkibedbcbgajaaGreatDoorZGTight
namespace Go.Proofs.YthkibedbcbgajaaGreatDoor
set_option linter.unusedVariables false
set_option linter.unusedSimpArgs false
set_option maxRecDepth 100000
set_option maxHeartbeats 4000000
open Go.Proofs.Tryz
section
open Go.RowKit
attribute [local go_sem ↓] Go.wp_at_zero Go.wp_at_succ
theorem QiS(p:Addr)(w:World) :
 CallsD Tryz.prog 72 #[.pointer (some p)] .returning w fun e u' w'=>e=.returned (.tuple #[])/\u'=.returning/\w'=w:=by
 refine callsD_of_wpS func72 rfl fun c₀ cs hu=>?_
 apply wpS_seq;apply wpS_region;simp[wpOpsS,go_sem,recoverD,hu,ntmps72,Exit.thenS];refine wpS_cond (t:=false) (by simp[Act.eval,Array.replicate]) ?_;simp only[Bool.false_eq_true,if_false];refine wpS_of_wp (wp_skip ?_);cases c₀;simp_all [bodyPostS,results,results72]
theorem Qpj(f:Nat)(aa:Array Value)(R:World->Prop)(w:World)(hcf:∀ args W,(callFunc f args).run Tryz.prog W=.ok (.enter f args) W)
 (hw:Calls Tryz.prog f aa (w.alloc (.cells #[.nilIface] 61)) fun e w'=>e=.returned .nilIface/\w'.heap[w.heap.size]?=some (.cells #[.nilIface] 61)/\R w') :
 Calls Tryz.prog 42 #[.func (.func f) #[] aa] w fun e w'=>e=.returned .nilIface/\∃ w1,R w1/\w1.heap[w.heap.size]?=some (.cells #[.nilIface] 61)/\w'=w1.setCell ⟨w.heap.size,0,none⟩ .nilIface:=by
 have hmf:∀(fn:Fn) (first cap:Array Value) (w:World),(Instr.makeFunc fn first cap).run Tryz.prog w=.ok (.func fn first cap) w:=fun _ _ _ _=>rfl
 have HW:=Qab hw;clear hw;go_enter_defers func42,ntmps42;go_wp2_with fail;refine HW.o.mono ?_;rintro e w1 ⟨rfl,hE,hR⟩;have c0:w1.cell? ⟨w.heap.size,0,none⟩=some .nilIface:=Qaa hE 0;have z0:∀ j,w1.frozen? ⟨w.heap.size,j,none⟩=false:=Qah hE;have HE:=Qab hE;have HR:=Qab hR;clear hE hR;go_wp2;refine leaves_cons (f:=72) (args:=#[.pointer (some ⟨w.heap.size,0,none⟩)]) (by simp) (by simp[go_sem]) ?_;refine(QiS ⟨w.heap.size,0,none⟩ _).mono ?_;rintro e u' w'' ⟨rfl,rfl,rfl⟩;simp[Leaves,settle,results,results42,go_sem,c0];exact⟨w1,HR.o,HE.o,rfl⟩
abbrev wrF (fb xb:Nat):Value:=.func (.func 146) #[] #[.pointer (some ⟨fb,0,none⟩),.pointer (some ⟨xb,0,none⟩)]
abbrev rmF (xb nb:Nat):Value:=.func (.func 150) #[] #[.pointer (some ⟨xb,0,none⟩),.pointer (some ⟨nb,0,none⟩)]
abbrev syF (db:Nat):Value:=.func (.method "Sync") #[Qcr db] #[]
theorem PDk.notT{B k:Nat}{cs:Array Value}{t:TypeId}(h1:t≠59)(h2:t≠84):¬ PDk B k (.cells cs t):=by
 rintro⟨_,⟨aa,e⟩ | ⟨es,c,e⟩ | ⟨aa,e⟩⟩
 ·injection e with e1 e2;exact h1 e2
 ·cases e
 ·injection e with e1 e2;exact h2 e2
theorem QkS.fr{P:Nat->Obj->Prop}{w w':World}{v:Value}{l:List Fl}(h:QkS w v l)(hf:Fr P w w')(hp:∀ k cs,¬ P k (.cells cs 39)):QkS w' v l:=by
 obtain⟨a,c,hv,hc⟩:=h;refine⟨a,c,hv,fun hne=>?_⟩;obtain⟨g,cs,ha,hb,ab⟩:=hc hne;have aa:=hf.block _ _ hb (hp _ _);refine⟨g,cs,ha,aa,fun j hj=>?_⟩;rw[World.cell?_of_block (a:=⟨g,j*2,none⟩) (aa.trans hb.symm),World.cell?_of_block (a:=⟨g,j*2+1,none⟩) (aa.trans hb.symm)];exact ab j hj
theorem Qev{P:Program}{aa:Array Oper}{Q:Exit->Act->World->Prop}{i:Nat}{o:Oper}{K:Act->World->Prop}{a:Act}{w:World}(ho:aa[i]?=some o)(hw:Region.wanted o (yielded aa a.tmps)=true)(h:o.wp P a w K Q):wpOp P aa Q i K a w:=by
 unfold wpOp;rw[ho];dsimp only;rw[if_pos hw];exact Or.inl h
theorem Qcw(fs:List Fl)(F:Fs)(x:L8)(h:∀ f∈fs,f.1≠x):Qbo F fs x=F x:=by
 induction fs generalizing F with
 |nil=>rfl
 |cons f r ih=>
  show Qbo (Que F f) r x=_
  rw[ih _ (fun g hg=>h g (by simp[hg]))];show(if x=f.1 then some f.2 else F x)=F x
  rw[if_neg (fun e=>h f (by simp) e.symm)]
theorem QqI(fs:List Fl)(F G:Fs)(x:L8)(h:F x=G x):Qbo F fs x=Qbo G fs x:=by
 induction fs generalizing F G with
 |nil=>exact h
 |cons f r ih=>
  show Qbo (Que F f) r x=Qbo (Que G f) r x
  apply ih;show(if x=f.1 then some f.2 else F x)=if x=f.1 then some f.2 else G x
  rw[h]
theorem QfY{B:Nat}{u w:World}(h:Below B u w):Below B u w.drew:=⟨h.os,h.tape,h.output,h.size,h.block⟩
theorem QkN{P:Program}{o:Oper}{a:Act}{w:World}{K:Act->World->Prop}{Q:Exit->Act->World->Prop}(s x:Operand)(t:TypeId)
 (ho:o.op=.call { callee:=.builtin .append,args:=#[s,x],argTypes:=#[t,t] })
 (base:Nat) (e:TypeId) (i:TypeInfo) (z:Value) (size bytes:Nat) (ht:P.underlying t=some (.slice e)) (hi:P.info? e=some i) (hz:i.zero=some z)
 (af:i.size=size) (ai:i.bytes=bytes) (ak:z.cells.size=size) (aj:0<size)
 (v:Value) (n:Nat) (xs:List Value) (hs:a.eval s=v) (ag:w.ownsRow base e size v n xs)
 (ad:Addr) (m c:Nat) (aa:List Value) (hx:a.eval x=.slice (some ad) m c) (hl:aa.length=m*size) (ae:∀ j u,aa[j]?=some u->w.cell? (ad.add j)=some u) (h1:∀ u∈aa,u.oneCell'=true)
 (ah:n+m<=maxLen) (ab:(n+m)*bytes<=140737488355328) (ac:base<=w.heap.size) (d:Nat) (hd:o.dst=some d)
 (h:∀ v' w',w'.ownsRow base e size v' (n+m) (xs++aa)->w.grownBy w' v.ownBlock->K (a.put (some d) v') w'):o.wp P a w K Q:=by
 rw[<-hd]at h;obtain⟨v',w',hr,h2,h3,h4,h5⟩:=run_append_own_at (P:=P) w base t o.type e i z size bytes ht hi hz af ai ak aj v n xs ag ad m c aa hl ae h1 ah ab ac;unfold Oper.wp execOp;simp only[ho,resolve,invoke,builtin,Sem.run_bind,Sem.run_pure,Result.andThen_ok,List.map_toArray,List.map_cons,List.map_nil,hs,hx,hr];exact h v' w' h2 h3
theorem Qyl(w:World)(x y:ByteArray)(t:TypeId):∀ j u,([Value.string x,Value.string y]:List Value)[j]?=some u->(w.alloc (.cells #[.string x,.string y] t)).cell? ((⟨w.heap.size,0,none⟩:Addr).add j)=some u:=by
 intro j u h;have e:(⟨w.heap.size,0,none⟩:Addr).add j=⟨w.heap.size,j,none⟩:=by cases j<;>simp[Addr.add]
 rw[e,Qaa (Qam _ _)];rw[<-h];simp
theorem QyJ(x y:ByteArray):∀ u∈[Value.string x,Value.string y],u.oneCell'=true:=by
 intro u hu;simp at hu;rcases hu with rfl|rfl<;>rfl
def Qbn (id text:L8) (acts:List (Int×L8)):List (L8):=id :: text :: acts.flatMap fun a=>[iL a.1.toNat,a.2]
theorem Qfb(id text:L8)(aa:List (Int×L8)):(Qbn id text aa).length=2+2*aa.length:=by
 have:(aa.flatMap fun a=>[iL a.1.toNat,a.2]).length=2*aa.length:=by
  induction aa with
  |nil=>rfl
  |cons a r ih=>rw[List.flatMap_cons,List.length_append,ih];simp;omega
 simp[Qbn,this];omega
theorem Qka(id text:L8)(aa:List (Int×L8))(h1:id.length<=2000000)(h2:text.length<=2000000)(h3:∀ a∈aa,a.2.length<=2000000/\0<=a.1/\a.1<=2147483647) :
 QlV (Qbn id text aa)<=4000060+aa.length*2000100:=by
 have:QlV (aa.flatMap fun a=>[iL a.1.toNat,a.2])<=aa.length*2000100:=by
  induction aa with
  |nil=>simp[QlV]
  |cons a r ih=>
   have ab:=ih (fun b hb=>h3 b (by simp[hb]));obtain⟨ha,hb,hc⟩:=h3 a (by simp);have hi:=Qdm a.1.toNat (by omega);rw[List.flatMap_cons];unfold QlV at ab ⊢;simp only[List.map_append,List.map_cons,List.map_nil,List.sum_append,List.sum_cons,List.sum_nil,List.length_cons];omega
 unfold QlV at this ⊢;simp only[Qbn,List.map_cons,List.sum_cons];omega
theorem Qpa(id text:L8)(aa:List (Int×L8))(k:Nat)(h:k<aa.length):Qbn id text (aa.take (k+1))=Qbn id text (aa.take k)++[iL aa[k].1.toNat,aa[k].2]:=by
 unfold Qbn;rw[List.take_succ_eq_append_getElem h,List.flatMap_append];rfl
theorem QkS.of_owns{w:World}{base:Nat}{v:Value}{l:List Fl}(h:w.ownsRow base 39 2 v l.length (Qcy l)):QkS w v l:=by
 have hc:=h;rcases h.2 with⟨rfl,h0⟩ | ⟨g,cap,aa,rfl,_,hb,_⟩
 ·exact⟨none,0,by rw[h0],fun hne=>absurd (List.eq_nil_of_length_eq_zero h0) hne⟩
 ·refine⟨_,_,rfl,fun _=>⟨g,aa,rfl,hb,fun j hj=>?_⟩⟩;have e:∀ j,(⟨g,0,none⟩:Addr).add j=⟨g,j,none⟩:=fun j=>by cases j<;>simp[Addr.add]
  have h1:=hc.cells (g:=g) rfl (j*2) _ (QiG l j hj).1;have h2:=hc.cells (g:=g) rfl (j*2+1) _ (QiG l j hj).2;rw[e]at h1 h2;exact⟨h1,h2⟩
theorem Qgc{id text:L8}:∀(r:List (Int×L8)) (n:Nat) (l:List (L8×L8)),fTo id text n r=.ok l->∀ a∈r,0<=a.1/\a.1<=2147483647
 | [],n,l,h=>by intro a ha;cases ha
 |x::r,n,l,h=>by
  rw[fTo]at h
  cases hf:fileL id text n x with
  |error e=>rw[hf]at h;cases h
  |ok f=>
   rw[hf]at h;dsimp only at h
   cases hr:fTo id text (n+1) r with
   |error e=>rw[hr]at h;cases h
   |ok l'=>
    intro a ha;rcases List.mem_cons.1 ha with ha|ha
    ·subst ha;unfold fileL at hf;by_cases h1:a.1=1
     ·omega
     ·rw[if_neg h1]at hf;by_cases h2:a.1=2
      ·omega
      ·rw[if_neg h2]at hf;by_cases h3:a.1=3
       ·omega
       ·rw[if_neg h3]at hf;by_cases h4:a.1=4
        ·omega
        ·rw[if_neg h4]at hf;cases hf
    ·exact Qgc r (n+1) l' hr a ha
theorem Qkq{id:L8}{aa:List (Int×L8)}{text:L8}{l:List Fl}(M:Nat)(h:filesL id aa text=.ok l)(hM:∀ a∈aa,a.2.length<=M) :
 l.length=aa.length/\aa.length<=6/\(∀ f∈l,QjH f.1/\f.2.length<=M+text.length+8)/\∀ a∈aa,0<=a.1/\a.1<=2147483647:=by
 unfold filesL at h;by_cases hi:Qeu id=true
 ·rw[if_pos hi]at h;by_cases h6:6<aa.length
  ·rw[if_pos h6]at h;cases h
  ·rw[if_neg h6]at h;exact⟨QfB _ _ _ h,by omega,Qfw (QxH hi) M (fun n hn=>Qdm n (by omega)) _ _ _ (by omega) hM h,Qgc _ _ _ h⟩
 ·rw[if_neg hi]at h;cases h
def PEr (k:Nat) (o:Obj):Prop:=∃ cs,o=.cells cs 61
theorem PDk.notEr{B k:Nat}{cs:Array Value}:¬ PDk B k (.cells cs 61):=by
 rintro⟨_,⟨aa,e⟩ | ⟨es,c,e⟩ | ⟨aa,e⟩⟩
 ·injection e with e1 e2;exact absurd e2 (by decide)
 ·cases e
 ·injection e with e1 e2;exact absurd e2 (by decide)
theorem Fr.setNew{P:Nat->Obj->Prop}{u w:World}(h:Fr P u w)(b:Nat)(hb:u.heap.size<=b)(j:Nat)(v:Value):Fr P u (w.setCell ⟨b,j,none⟩ v):=
 ⟨h.os,h.tape,h.output,Nat.le_trans h.size (by simp),fun k o hk hp=>by rw[Below.heap_setCell _ _ _ _ (by have:=Qar hk;show k≠b;omega)];exact h.block k o hk hp⟩
def digs:ByteArray:=⟨#[48,49,50,51,52,53,54,55,56,57,97,98,99,100,101,102,103,104,105,106,107,108,109,110,111,112,113,114,115,116,117,118,119,120,121,122]⟩
def QtT (m:Nat):UInt8:=digs.data.toList.getD (bits BinOp.and IntKind.u64 (m:Int) 15).toNat 0
def Qqb:Nat→Nat→L8
 | 0,m=>[QtT m]
 | k+1,m=>if 16≤m then Qqb k (m / 16)++[QtT m] else [QtT m]
def hexL (n:Nat):L8:=Qqb 15 n
theorem Qxq(k m:Nat)(h:16<=m):Qqb (k+1) m=Qqb k (m / 16)++[QtT m]:=by rw[Qqb,if_pos h]
theorem QwN(k m:Nat)(h:m<16):Qqb k m=[QtT m]:=by
 cases k with
 |zero=>rfl
 |succ k=>rw[Qqb,if_neg (by omega)]
theorem QpT:∀(k m:Nat),(Qqb k m).length<=k+1
 |0,m=>by simp[Qqb]
 |k+1,m=>by
  rw[Qqb];split
  ·have:=QpT k (m / 16);simp;omega
  ·simp
theorem QhW(n:Nat):(hexL n).length<=16:=QpT 15 n
theorem Qqi(cs:L8)(j:Nat)(x:UInt8)(hj:j<cs.length):(cs.set j x).drop j=x::cs.drop (j+1):=by
 rw[List.drop_eq_getElem_cons (by simpa using hj),List.drop_set_of_lt (by omega)];simp
theorem Qur(m:Nat)(h:m<16):(bits BinOp.and IntKind.u64 (m:Int) 15).toNat=m:=by
 have h3:=bits_and_u64_nat m 15 (by omega) (by omega);have h5:((15:Nat):Int)=15:=rfl;rw[h5]at h3;rw[h3];have h4:m &&& 15=m % 16:=Nat.and_two_pow_sub_one_eq_mod m 4;omega
def ArC (w:World) (b:Nat) (cs:L8):Prop:=cs.length=65∧w.heap[b]?=some (.cells (cs.map (fun x=>Value.int .u8 (x.toNat:Int))).toArray 378)
theorem ArC.set{w:World}{b:Nat}{cs:L8}(h:ArC w b cs)(j:Nat)(x:UInt8)(hj:j<65):ArC (w.setCell ⟨b,j,none⟩ (.int .u8 (x.toNat:Int))) b (cs.set j x):=by
 obtain⟨hl,hb⟩:=h;refine⟨by simpa using hl,?_⟩;rw[Qag _ _ _ _ _ _ hb];simp[List.map_set]
theorem Qyv(W:World)(B k:Nat)(cs:L8)(h:ArC W B cs)(hk:k<=15):(convert 244 9 (.slice (some ⟨B,49+k,none⟩) (16 - k) (16 - k))).run Tryz.prog W=.ok (.string (sA (cs.drop (49+k)))) W:=by
 obtain⟨hl,hb⟩:=h;have hd:(cs.drop (49+k)).length=16 - k:=by simp;omega
 have:=run_convert_bytes_back (P:=Tryz.prog) W 244 9 5 ⟨B,49+k,none⟩ (16 - k) (cs.drop (49+k)) underlying244 underlying5 underlying9 (fun j hj=>by
  have e:(⟨B,49+k,none⟩:Addr).add j=⟨B,49+k+j,none⟩:=by cases j<;>simp[Addr.add]
  rw[e,Qaa hb]
  simp [List.getElem?_eq_getElem (show 49+k+j < cs.length by omega)])
 rw[hd]at this;exact this
theorem QiF(n:Nat)(hn:n<18446744073709551616)(w:World)(ht:Tz w) :
 Calls Tryz.prog 257 #[.slice none 0 0,.int .u64 n,.int .i64 16,.bool false,.bool false] w fun e w'=>e=.returned (.tuple #[.slice none 0 0,.string (sA (hexL n))])/\Below w.heap.size w w':=by
 have HT:=Qab ht;clear ht;go_enter func257,ntmps257;go_wp2_with fail;refine(QvB _).mono ?_;rintro e w1 ⟨rfl,h1⟩;rw[h1];clear h1;have ah:Hid (Tz (w.alloc (.cells Tryz.zeroCells378 378))):=HT.o.below ((Below.refl _ _).alloc (Nat.le_refl _) _);go_wp2_with fail;refine(QxM _ ah.o).mono ?_;rintro e w1 ⟨rfl,h1⟩;rw[h1];clear h1;have ai:Hid (Below w.heap.size w (w.alloc (.cells Tryz.zeroCells378 378))):=(Below.refl _ _).alloc (Nat.le_refl _) _;have aj:Hid (ArC (w.alloc (.cells Tryz.zeroCells378 378)) w.heap.size (List.replicate 65 0)):=⟨rfl,by rw[Qam];rfl⟩;generalize w.alloc (.cells Tryz.zeroCells378 378)=w1 at *;go_wp2
 go_loopw [1,13] (fun u i wr=>∃ k m:Nat,k<=15/\m<16 ^ (k+1)/\u=.int .u64 (m:Int)/\i=.int .i64 ((50+k:Nat):Int)/\(∃ cs,ArC wr w.heap.size cs/\hexL n=Qqb k m++cs.drop (50+k))/\Below w.heap.size w wr) (fun _ i _=>(intOf i).toNat)
 case atStart=>exact⟨15,n,by omega,hn,rfl,rfl,⟨_,aj.o,by simp[hexL]⟩,ai.o⟩
 case round=>
  obtain⟨k,m,hk,hm,rfl,rfl,hA,hB⟩:=hrel;obtain⟨cs,hA,hX⟩:=hA;have HA:=Qab hA;have HX:=Qab hX;have HB:=Qab hB;clear hA hB hX;obtain⟨af,ad⟩:=HA.o;have ag:=Qab af
  obtain⟨cv,c1⟩:∃ cv:Int,wr.cell? ⟨w.heap.size,49+k,none⟩=some (.int .u8 cv):=by
   rw[Qaa ad];exact⟨((cs[49+k]'(by omega)).toNat:Int),by simp[List.getElem?_eq_getElem (show 49+k<cs.length by omega)]⟩
  have f1:wr.frozen? ⟨w.heap.size,49+k,none⟩=false:=Qah ad _;clear ad af;by_cases hge:16<=m
  ·have ab:(16:Int)<=(m:Int):=by omega
   have HM:=Qab hm;obtain⟨a0,a1⟩:=Qyt k m hk hm;clear hm;go_wp2;have hm:=HM.o
   obtain⟨k',rfl⟩:∃ k',k=k'+1:=by
    cases k with
    |zero=>simp at hm;omega
    |succ k'=>exact⟨k',rfl⟩
   have hd:m / 16<16 ^ (k'+1):=by
    rw[Nat.div_lt_iff_lt_mul (by omega)];rw[Nat.pow_succ]at hm;exact hm
   refine⟨⟨k',m / 16,by omega,hd,by go_num,by go_num,⟨_,HA.o.set _ _ (by omega),?_⟩,HB.o.setCell (Nat.le_refl _) _⟩,by simp[intOf];omega⟩;rw[HX.o,Qxq k' m hge,show 50+k'=49+(k'+1) by omega,Qqi _ _ _ (by have:=ag.o;omega),show 49+(k'+1)+1=50+(k'+1) by omega,List.append_assoc];congr 1;show [QtT m]++_=_
   unfold QtT;rw[Qpb digs _ (by show _<36;omega)];rfl
  ·have ab:¬(16:Int)<=(m:Int):=by omega
   have HM:=Qab hm;clear hm
   have hf:∀ x:UInt8,(convert 244 9 (.slice (some ⟨w.heap.size,49+k,none⟩) (16 - k) (16 - k))).run Tryz.prog (wr.setCell ⟨w.heap.size,49+k,none⟩ (.int .u8 (x.toNat:Int)))=.ok (.string (sA ((cs.set (49+k) x).drop (49+k)))) (wr.setCell ⟨w.heap.size,49+k,none⟩ (.int .u8 (x.toNat:Int))):=
    fun x=>Qyv _ _ _ _ (HA.o.set (49+k) x (by omega)) hk
   have HF:=Qab hf
   have ae:Hid (∀ h,(cs.set (49+k) (digs[m]'h)).drop (49+k)=hexL n):=fun h=>by
    rw[HX.o,QwN k m (by omega),Qqi _ _ _ (by have:=ag.o;omega),show 49+k+1=50+k by omega];show _=[QtT m]++_
    unfold QtT;rw[Qur m (by omega),Qpb digs _ h];rfl
   clear hf
   go_wp2_with (first
    |rw[Qx8 _ _ _ hk]
    | rw [HF.o _])
   have ac:m<digs.size:=by show m<36;omega
   have aa:=ae.o ac;refine bodyPost_ret (v:=.tuple #[.slice none 0 0,.string (sA (hexL n))]) (by rw[<-aa];simp[results,results257,go_sem];rfl) rfl ?_;exact⟨rfl,HB.o.setCell (Nat.le_refl _) _⟩
theorem QhK(n:Nat)(hn:n<18446744073709551616)(w:World)(ht:Tz w) :
 Calls Tryz.prog 235 #[.int .u64 n,.int .i64 16] w fun e w'=>e=.returned (.string (sA (hexL n)))/\Below w.heap.size w w':=by
 have HT:=Qab ht;clear ht;have aa:Hid (∀ o,Tz (w.alloc o)):=fun o=>HT.o.below ((Below.refl _ _).alloc (Nat.le_refl _) _)
 go_enter func235,ntmps235;go_wp2_with fail;refine(QiF n hn _ (by first|exact HT.o|exact aa.o _)).mono ?_;rintro e w1 ⟨rfl,hb⟩;have HB:=Qab hb;clear hb;go_wp2;go_ret;exact⟨rfl,HB.o⟩
theorem QiV(n:Nat)(hn:n<18446744073709551616)(w:World)(ht:Tz w) :
 Calls Tryz.prog 196 #[.int .u64 n,.int .i64 16] w fun e w'=>e=.returned (.string (sA (hexL n)))/\Below w.heap.size w w':=by
 have HT:=Qab ht;clear ht;go_enter func196,ntmps196;go_wp2_with fail;refine(QhK n hn _ HT.o).mono ?_;rintro e w1 ⟨rfl,hb⟩;have HB:=Qab hb;clear hb;go_wp2;go_ret;exact⟨rfl,HB.o⟩
def QbK (name body:L8):L8:=iL body.length++[32]++hexL (fnvL [name,[10],body])++[10]++body
def QeX (id text:L8) (acts:List (Int×L8)):L8:=QbK kJ (jnL (Qbn id text acts))
theorem QfQ(ab aa:L8)(w:World)(ht:Tab w)(hz:Tz w)(hn:ab.length<=1000)(hb:aa.length<=90000000) :
 Calls Tryz.prog 148 #[.string (sA ab),.string (sA aa)] w fun e w'=>e=.returned (.string (sA (QbK ab aa)))/\Below w.heap.size w w':=by
 have HT:=Qab ht;have HZ:=Qab hz;clear ht hz;have hbz:=Qal aa;go_enter func148,ntmps148;go_wp2_with fail;refine(QgD aa.length (by omega) w HT.o).mono ?_;rintro e w1 ⟨rfl,ad⟩;have aj:=Qab ad;have ai:=Qab (HZ.o.below ad);have hil:=Qdm aa.length (by omega);have hzi:=Qal (iL aa.length);have k1:¬ 9223372036854775807<(iL aa.length).length+1:=by omega
 clear ad;have ag:Hid (SlT (w1.alloc (.cells #[.string (sA ab),.string ⟨#[10]⟩,.string (sA aa)] 9)) (.slice (some ⟨w1.heap.size,0,none⟩) 3 3) [ab,[10],aa]):=SlT.new w1 [ab,[10],aa];have ak:Hid (Tz (w1.alloc (.cells #[.string (sA ab),.string ⟨#[10]⟩,.string (sA aa)] 9))):=ai.o.below ((Below.refl _ _).alloc (Nat.le_refl _) _);have ae:Hid (Below w.heap.size w (w1.alloc (.cells #[.string (sA ab),.string ⟨#[10]⟩,.string (sA aa)] 9))):=Qop aj.o (Nat.le_refl _) _;have ap:=ae.o.size;go_wp2_with fail;refine(Qvj [ab,[10],aa] _ _ ag.o (by intro p hp;simp at hp;rcases hp with rfl|rfl|rfl<;>first|omega|simp) (by simp)).mono ?_;rintro e w2 ⟨rfl,h2⟩;rw[h2];clear h2;have ac:=QwJ [ab,[10],aa];have ah:Hid (QbK ab aa=iL aa.length++[32]++hexL (fnvL [ab,[10],aa])++[10]++aa):=rfl;generalize fnvL [ab,[10],aa]=n at *;go_wp2_with fail;refine(QiV n ac _ ak.o).mono ?_;rintro e w3 ⟨rfl,af⟩;have hs:=QhW n;generalize hexL n=s at *;have ao:=Qab (ae.o.trans (af.mono ap));have hzs:=Qal s;have k2:¬ 9223372036854775807<(iL aa.length).length+1+s.length:=by omega
 have k3:¬ 9223372036854775807<(iL aa.length).length+1+s.length+1:=by omega
 have k4:¬ 9223372036854775807<(iL aa.length).length+1+s.length+1+aa.length:=by omega
 clear af;go_wp2;go_ret
 have hJ:sA (iL aa.length)++(⟨#[32]⟩:ByteArray)++sA s++(⟨#[10]⟩:ByteArray)++sA aa=sA (iL aa.length++[32]++s++[10]++aa):=by
  rw[<-QbW,<-QbW,<-QbW,<-QbW];rfl
 refine⟨?_,ao.o⟩;show Ending.returned (.string _)=_
 rw[hJ,ah.o]
theorem Qnb(id text ad:L8)(aa:List (Int×L8))(av:Value)(w:World)(ht:Tab w)(hz:Tz w)(ha:QjB w av aa)(h1:id.length<=2000000)(h2:text.length<=2000000)(h3:∀ a∈aa,a.2.length<=2000000/\0<=a.1/\a.1<=2147483647)(h4:aa.length<=20)(h5:ad.length<=1000) :
 Calls Tryz.prog 76 #[.agg #[.string (sA id),av,.string (sA text)],.string (sA ad)] w fun e w'=>e=.returned (.string (sA (QbK ad (jnL (Qbn id text aa)))))/\Below w.heap.size w w':=by
 obtain⟨a,c,rfl,aB⟩:=ha;have aQ:=Qab aB;have HT:=Qab ht;have HZ:=Qab hz;have H3:=Qab h3;obtain⟨i0,hi,aY,aW,aS⟩:=info_parts Tryz.infoStr;clear aB ht hz h3;go_enter func76,ntmps76;go_wp2_with fail
 go_loopw [5,7,16] (fun v _ i wr=>∃ k:Nat,k<=aa.length/\i=.int .i64 k/\wr.ownsRow w.heap.size 9 1 v (2+2*k) (QaD (Qbn id text (aa.take k)))/\Below w.heap.size w wr/\w.heap.size<wr.heap.size) (fun _ _ i _=>aa.length - (intOf i).toNat)
 case atStart=>
  refine⟨0,Nat.zero_le _,rfl,⟨rfl,Or.inr ⟨w.heap.size+1,2,_,rfl,by omega,Qaq (by simp),by omega,by decide,rfl,rfl⟩⟩,((Below.refl _ _).alloc (Nat.le_refl _) _).alloc (by simp) _,by simp;omega⟩
 case round=>
  obtain⟨k,hk,rfl,ae,hB,hlw⟩:=hrel;have aw:=Qab ae;have HB:=Qab hB;obtain⟨va,vc,aN⟩:=Qat ae;subst aN;clear ae hB;have aD:Hid (Tab wr):=HT.o.below HB.o;by_cases hlt:k<aa.length;rotate_left
  ·have hz:¬(k:Int)<(aa.length:Int):=by omega
   have HE:Hid (aa.take k=aa):=List.take_of_length_le (by omega);rw[HE.o]at aw;have aX:Hid (SlT wr (.slice va (2+2*k) vc) (Qbn id text aa)):=SlT.of_owns aw.o (by rw[Qfb];omega);have hsum:=Qka id text aa h1 h2 H3.o;have hjl:=Qfb id text aa;have aL:Hid (Tz wr):=HZ.o.below HB.o;go_wp2_with fail;refine(QrW (Qbn id text aa) _ wr aD.o aX.o (by omega) (by omega)).mono ?_;rintro e w1 ⟨rfl,ac⟩;have aO:=QgQ (Qbn id text aa) (fun p hp=>by have:=Qn7 p hp;omega);have aK:=Qab (aD.o.below ac);have aM:=Qab (aL.o.below ac);have ah:=Qab (HB.o.trans (ac.mono (by omega)));clear ac;obtain⟨J0,ar⟩:∃ J,J=jnL (Qbn id text aa):=⟨_,rfl⟩;rw[<-ar]at aO ⊢;have aH:=Qab ar;clear ar;go_wp2_with fail;refine(QfQ ad J0 w1 aK.o aM.o h5 (by omega)).mono ?_;rintro e w2 ⟨rfl,aF⟩;have aI:=Qab (ah.o.trans (aF.mono ah.o.size));clear aF;go_wp2;go_ret;exact⟨by rw[<-aH.o];rfl,aI.o⟩
  have hlt':(k:Int)<(aa.length:Int):=by omega
  obtain⟨b,ak,rfl,aE⟩:=aQ.o (fun e=>by rw[e]at hlt;exact absurd hlt (Nat.not_lt_zero _));have ao:=aE k hlt;have az:=Qau ao.1;have e1:wr.cell? ⟨b,ak+k*2,none⟩=some (.int .i64 aa[k].1):=(HB.o.cell (p:=⟨b,ak+k*2,none⟩) az).trans ao.1;have e2:wr.cell? ⟨b,ak+k*2+1,none⟩=some (.string (sA aa[k].2)):=(HB.o.cell (p:=⟨b,ak+k*2+1,none⟩) az).trans ao.2;obtain⟨aT,aP,aZ⟩:=H3.o aa[k] (List.getElem_mem hlt);have ax:=Qab (Qpa id text aa k hlt);generalize aa[k]=x at *;obtain⟨aj,ab⟩:=x;dsimp only at e1 e2 aT aP aZ ax;obtain⟨kn,rfl⟩:∃ kn:Nat,aj=(kn:Int):=⟨aj.toNat,by omega⟩;rw[Int.toNat_natCast]at ax;clear ao aE;go_wp2_with fail;have HV:Hid ((wr.alloc (.cells #[.int .i64 (kn:Int),.string (sA ab)] 34)).heap[wr.heap.size]?=some (.cells #[.int .i64 (kn:Int),.string (sA ab)] 34)):=Qam _ _;have aC:Hid (Below wr.heap.size wr (wr.alloc (.cells #[.int .i64 (kn:Int),.string (sA ab)] 34))):=(Below.refl _ _).alloc (Nat.le_refl _) _;generalize wr.alloc (.cells #[.int .i64 (kn:Int),.string (sA ab)] 34)=V at *;have ag:Hid (∀ W:World,W.heap[wr.heap.size]?=some (.cells #[.int .i64 (kn:Int),.string (sA ab)] 34)->W.cell? ⟨wr.heap.size,0,none⟩=some (.int .i64 (kn:Int))/\W.cell? ⟨wr.heap.size,1,none⟩=some (.string (sA ab))):=fun W hv=>⟨Qaa hv 0,Qaa hv 1⟩
  have aJ:Hid (V.ownsRow w.heap.size 9 1 (.slice va (2+2*k) vc) (2+2*k) (QaD (Qbn id text (aa.take k)))):=QaR (P:=fun _ _=>False) aw.o (Fr.of_below aC.o) (fun _ _ h=>h);have aq:Hid (Below w.heap.size w V):=HB.o.trans (aC.o.mono (by omega));have aG:Hid (Tab V):=HT.o.below aq.o;clear e1 e2;refine wp_region_held (S:=fun w'=>w'.cell? ⟨wr.heap.size,0,none⟩=some (.int .i64 (kn:Int))/\w'.cell? ⟨wr.heap.size,1,none⟩=some (.string (sA ab))) (by kernel_rfl) ?_;have hS:=ag.o V.drew HV.o;refine Qao 0 20 (.slice va (2+2*k) vc) rfl hS (fun w' ⟨s1,s2⟩=>by go_simp) ?_;simp only[pt,sz,sc];refine Qao 1 21 (.pointer (some ⟨wr.heap.size,0,none⟩)) rfl hS (fun w' ⟨s1,s2⟩=>by go_simp) ?_;simp only[pt,sz,sc];refine Qao 2 22 (.int .i64 (kn:Int)) rfl hS (fun w' ⟨s1,s2⟩=>by go_simp) ?_;simp only[pt,sz,sc];refine Qao 4 24 (.pointer (some ⟨wr.heap.size,1,none⟩)) rfl hS (fun w' ⟨s1,s2⟩=>by go_simp) ?_;simp only[pt,sz,sc];refine Qao 5 25 (.string (sA ab)) rfl hS (fun w' ⟨s1,s2⟩=>by go_simp) ?_;simp only[pt,sz,sc];refine wpAnyH_all (rs:=[3]) (by kernel_rfl) (by decide) (fun j hj=>?_);simp only[List.mem_singleton]at hj;subst hj;refine Qev rfl (by rfl) ?_;clear hS;go_simp;refine(QgD kn (by omega) V.drew aG.o).mono ?_;rintro e w1 ⟨rfl,ai⟩;have ac:=QaT ai;have af:=Qab (Qai HV.o ac);have ah:=Qab (aq.o.trans (ac.mono aq.o.size));have au:Hid (w1.ownsRow w.heap.size 9 1 (.slice va (2+2*k) vc) (2+2*k) (QaD (Qbn id text (aa.take k)))):=QaR (P:=fun _ _=>False) aJ.o (Fr.of_below ac) (fun _ _ h=>h);clear ac ai;refine⟨ag.o w1 af.o,?_⟩
  try simp only[Act.put,List.setIfInBounds_toArray,List.set_cons_zero,List.set_cons_succ]
  have hS:=ag.o w1 af.o;refine wpAnyH_all (rs:=[6]) (by kernel_rfl) (by decide) (fun j hj=>?_);simp only[List.mem_singleton]at hj;subst hj;refine Qev rfl (by rfl) ?_;clear hS;go_simp;refine⟨ag.o _ (Qac af.o),?_⟩
  try simp only[Act.put,List.setIfInBounds_toArray,List.set_cons_zero,List.set_cons_succ]
  have hS:=ag.o (w1.alloc (.cells #[.string (sA (iL kn)),.string (sA ab)] 9)) (Qac af.o);refine wpAnyH_all (rs:=[7]) (by kernel_rfl) (by decide) (fun j hj=>?_);simp only[List.mem_singleton]at hj;subst hj;refine Qev rfl (by rfl) ?_;clear hS;refine QkN (P:=Tryz.prog) _ _ 89 rfl w.heap.size 9 i0 _ 1 16 underlying89 hi aY aW aS rfl (by decide) _ _ _ rfl (World.ownsRow.alloc au.o _) ⟨w1.heap.size,0,none⟩ 2 2 [.string (sA (iL kn)),.string (sA ab)] rfl rfl (Qyl w1 _ _ _) (QyJ _ _) (by unfold maxLen;omega) (by omega) (by have:=ah.o.size;simp;omega) 27 rfl ?_;intro v5 w5 ay aA;have HG5:Hid ((w1.alloc (.cells #[.string (sA (iL kn)),.string (sA ab)] 9)).grownBy w5 (Value.slice va (2+2*k) vc).ownBlock):=aA;have aU:=Qab ay;clear ay aA;have hw1:=Qar af.o
  have ap:Hid (w5.heap[wr.heap.size]?=some (.cells #[.int .i64 (kn:Int),.string (sA ab)] 34)):=by
   show _=_
   rw [HG5.o.block wr.heap.size (by simp;omega) (fun e=>by
    obtain⟨_,cs,aV⟩:=Qbb au.o _ _ e.symm af.o;injection aV with e1 e2
    exact absurd e2 (by decide))]
   exact Qac af.o
  have aR:Hid (Below w.heap.size w w5):=QcA ah.o ah.o.size HG5.o (fun k hk=>(World.ownsRow.lt au.o k hk).1);have hw5:=Qar ap.o;refine⟨ag.o w5 ap.o,?_⟩;simp only[pt,sz,sc];have hS:=ag.o w5 ap.o;refine Qao 8 5 v5 rfl hS (fun w' ⟨s1,s2⟩=>by go_simp) ?_;simp only[pt,sz,sc];refine wpAnyH_done (by kernel_rfl) ?_ _
  try simp only[Act.put,List.setIfInBounds_toArray,List.set_cons_zero,List.set_cons_succ]
  clear hS
  try simp only[Exit.then]
  go_wp2;refine⟨⟨k+1,by omega,by go_num,?_,aR.o,by omega⟩,by simp[intOf];omega⟩;rw[ax.o,show 2+2*(k+1)=2+2*k+2 by omega];have:=aU.o;unfold QaD at this ⊢;rw[List.map_append];exact this
theorem QcH{k:Nat}(h:k≠0):Qcx k=.iface 30 (.int .i64 (k:Int)):=by unfold Qcx;rw[if_neg h]
theorem Qnw{o:Dop}{l r:List Dop}{A:AD}(h:(Qa1 l A).1=0)(h2:(aDo o (Qa1 l A).2).1≠0):Qa1 (l++(o::r)) A=aDo o (Qa1 l A).2:=by
 rw[Qd4,if_pos h,Qxc h2]
theorem QqR(B db bd bn n fb xb:Nat)(A:AD)(fs:List Fl)(fv:Value)(w:World)(h:AbsD w B db bd bn n A)(hf:w.heap[fb]?=some (.cells #[fv] 40))(hx:w.heap[xb]?=some (.cells #[Qcr db] 75))(hl:QkS w fv fs)
 (hn:n+fs.length<=480000) (hp:A.p.length+fs.length<=100000) (hs:∀ f∈fs,f.1.length<=1000/\f.2.length<=100000000) :
 Calls Tryz.prog 146 #[.pointer (some ⟨fb,0,none⟩),.pointer (some ⟨xb,0,none⟩)] w fun e w'=>e=.returned (Qcx (Qa1 (fs.map wOp) A).1)/\AbsD w' B db bd bn (n+fs.length) (Qa1 (fs.map wOp) A).2/\Fr (PDk B) w w':=by
 obtain⟨a,c,rfl,aC⟩:=hl;have HD:=Qab h;have HF:=Qab hf;have HX:=Qab hx;have aH:=Qab aC;have HS:=Qab hs;have f0:w.cell? ⟨fb,0,none⟩=some (.slice a fs.length c):=Qaa hf 0;have x0:w.cell? ⟨xb,0,none⟩=some (Qcr db):=Qaa hx 0;clear h hf hx aC hs;go_enter func146,ntmps146;go_wp2
 go_loopw [4,5,8] (fun _ _ i wr=>∃ k:Nat,k<=fs.length/\i=.int .i64 k/\(Qa1 ((fs.take k).map wOp) A).1=0/\AbsD wr B db bd bn (n+k) (Qa1 ((fs.take k).map wOp) A).2/\Fr (PDk B) w wr) (fun _ _ i _=>fs.length - (intOf i).toNat)
 case atStart=>exact⟨0,Nat.zero_le _,rfl,rfl,HD.o,Fr.refl _ _⟩
 case round=>
  obtain⟨k,hk,rfl,h0,hD,hF⟩:=hrel;have au:=Qab h0;have ad:=Qab hF;by_cases hlt:k<fs.length;rotate_left
  ·have hz:¬(k:Int)<(fs.length:Int):=by omega
   have aB:k=fs.length:=by omega
   have aL:=Qab aB;have ax:=Qab hD;clear aB h0 hD hF;go_wp2;go_ret;have h1:=ax.o;have h2:=au.o;rw[aL.o,List.take_length]at h1 h2;exact⟨by rw[h2];rfl,h1,ad.o⟩
  obtain⟨aG,hD⟩:=hD;have ax:=Qab hD;clear h0 hD hF;have hlt':(k:Int)<(fs.length:Int):=by omega
  obtain⟨g,cs,rfl,av,aF⟩:=aH.o (fun e=>by rw[e]at hlt;exact absurd hlt (Nat.not_lt_zero _));have az:=aF k hlt;have ah:=ad.o.block _ _ av PDk.notFile;have ai:=ad.o.block _ _ HX.o PDk.notDisk;have e1:wr.cell? ⟨g,k*2,none⟩=some (.string (sA fs[k].1)):=by rw[World.cell?_of_block (a:=⟨g,k*2,none⟩) (ah.trans av.symm)];exact az.1
  have e2:wr.cell? ⟨g,k*2+1,none⟩=some (.string (sA fs[k].2)):=by rw[World.cell?_of_block (a:=⟨g,k*2+1,none⟩) (ah.trans av.symm)];exact az.2
  have x1:∀ o,(wr.alloc o).cell? ⟨xb,0,none⟩=some (Qcr db):=fun o=>Qaa (Qac ai) 0
  have aK:=HS.o fs[k] (List.getElem_mem hlt)
  have aA:Hid ((fs.take (k+1)).map wOp=(fs.take k).map wOp++[wOp fs[k]]/\fs.map wOp=(fs.take k).map wOp++(wOp fs[k]::(fs.drop (k+1)).map wOp)):=by
   show _/\_
   refine⟨by rw[List.take_succ_eq_append_getElem hlt,List.map_append];rfl,?_⟩
   conv=>lhs;rw[<-List.take_append_drop k fs,List.drop_eq_getElem_cons hlt]
   rw[List.map_append];rfl
  have aJ:Hid ((Qa1 ((fs.take k).map wOp) A).2.p.length<=100000):=by
   have:=Qlr ((fs.take k).map wOp) A;rw[List.length_map,List.length_take]at this;show _<=_
   omega
  have HPX:Hid ((fs.take k).map wOp=(fs.take k).map wOp):=rfl;generalize hA1:(Qa1 ((fs.take k).map wOp) A).2=A1 at *;have ak:=Qab hA1;clear hA1;generalize fs[k]=f at *;obtain⟨x,s⟩:=f;dsimp only at e1 e2 aK;obtain⟨V,hV⟩:∃ V,V=wr.alloc (.cells #[.string (sA x),.string (sA s)] 39):=⟨_,rfl⟩;have aD:Below wr.heap.size wr V:=by rw[hV];exact(Below.refl _ _).alloc (Nat.le_refl _) _
  have aE:V.heap.size=wr.heap.size+1:=by rw[hV];simp
  have af:=Lib.run_convert_string_bytes (P:=Tryz.prog) V 9 244 5 (sA s) (u:=.string) underlying9 underlying244 underlying5;have ay:=Lib.bytesWorld_below V 5 (sA s)
  have aa:∀ j (hj:j<s.length),(Lib.bytesWorld V 5 (sA s)).cell? ⟨V.heap.size,j,none⟩=some (.int .u8 (s[j].toNat:Int)):=fun j hj=>by
   rw[Lib.bytesWorld_cell V 5 (sA s) j (by rw[Qal];exact hj)];rw[show(sA s).data.toList=s from rfl,List.getD_eq_getElem?_getD,List.getElem?_eq_getElem hj];rfl
  have aw:∀ j,j<s.length->(Lib.bytesWorld V 5 (sA s)).frozen? ⟨V.heap.size,j,none⟩=false:=fun j hj=>by
   unfold World.frozen?;rw[Lib.bytesWorld_at_new];simp[Lib.bytesCells,Qal];omega
  have ac:=Lib.bytesWorld_at_new V 5 (sA s);have aM:=Qal s;rw[aM]at af;rw[hV]at af;generalize hbw:Lib.bytesWorld V 5 (sA s)=W1 at ay aa aw ac;rw[<-hV,hbw,aE]at af;rw[hV]at af;rw[aE]at aa aw ac;have aI:Hid (BI W1 (wr.heap.size+1) s.length):=⟨⟨_,_,ac⟩,fun j hj=>⟨_,aa j hj⟩,aw⟩;have aP:=Qab aa;have ao:=Qab (aD.trans (ay.mono (by omega)));have aO:=Qab (ax.o.below ao.o);have aN:=Qab (Qai ai ao.o);have x2:W1.cell? ⟨xb,0,none⟩=some (Qcr db):=Qaa aN.o 0;generalize grownCap (wr.alloc (.cells #[.string (sA x),.string (sA s)] 39)) s.length 0 5=cap at af;have hmt:=Qs0 db;clear az aF ah ai av f0 x0 ay aa aw ac hbw aD hV;go_wp2_with fail;refine(Qq3 B db bd bn (n+k) (wr.heap.size+1) cap A1.D A1.N A1.p A1.lf aG x s W1 aO.o (by omega) (by have:=aJ.o;omega) (by omega) aI.o aP.o (by omega)).mono ?_;rintro e w2 ⟨aj,⟨ag,rfl,ap,ae⟩ | ⟨ag,rfl,ap,ae⟩ | ⟨ag,rfl,ap,ae⟩⟩
  ·have ar:=Qab (Fr.dropNew (ad.o.trans (Fr.of_below ao.o)) aj (by have:=ad.o.size;omega));have aq:=Qab ae;have HR:=Qab (QxS x s ag);clear ae aj af x1 x2 e1 e2 ag;go_wp2
   have ab:Qa1 ((fs.take (k+1)).map wOp) A=aDo ⟨1,x,s⟩ A1:=by
    rw[aA.o.1,Qh4 _ _ _ au.o,ak.o];rfl
   exact⟨⟨k+1,by omega,by go_num,by rw[ab,HR.o],(by rw[ab,HR.o];exact⟨ap,aq.o⟩),ar.o⟩,by simp[intOf];omega⟩
  ·have ar:=Qab (Fr.dropNew (ad.o.trans (Fr.of_below ao.o)) aj (by have:=ad.o.size;omega));have aq:=Qab (ae.mono (show n+k<=n+fs.length by omega));have HR:=Qab (QwY x s ag);rw[QcH (by decide:(15:Nat)≠0)];clear ae aj af x1 x2 e1 e2 ag;go_wp2;go_ret
   have ab:Qa1 (fs.map wOp) A=aDo ⟨1,x,s⟩ A1:=by
    have h9:(aDo (wOp (x,s)) (Qa1 ((fs.take k).map wOp) A).2).1≠0:=by rw[ak.o];show(aDo ⟨1,x,s⟩ A1).1≠0;rw[HR.o];exact(by decide:(15:Nat)≠0)
    rw[aA.o.2,Qnw au.o h9,ak.o];rfl
   rw[ab,HR.o];exact⟨rfl,⟨ap,aq.o⟩,ar.o⟩
  ·have ar:=Qab (Fr.dropNew (ad.o.trans (Fr.of_below ao.o)) aj (by have:=ad.o.size;omega));have aq:=Qab (ae.mono (show n+k<=n+fs.length by omega));have HR:=Qab (Qxn x s ag);rw[QcH (by decide:(16:Nat)≠0)];clear ae aj af x1 x2 e1 e2 ag;go_wp2;go_ret
   have ab:Qa1 (fs.map wOp) A=aDo ⟨1,x,s⟩ A1:=by
    have h9:(aDo (wOp (x,s)) (Qa1 ((fs.take k).map wOp) A).2).1≠0:=by rw[ak.o];show(aDo ⟨1,x,s⟩ A1).1≠0;rw[HR.o];exact(by decide:(16:Nat)≠0)
    rw[aA.o.2,Qnw au.o h9,ak.o];rfl
   rw[ab,HR.o];exact⟨rfl,⟨ap,aq.o⟩,ar.o⟩
theorem Qj6(B db bd bn n:Nat)(A:AD)(w:World)(h:AbsD w B db bd bn n A)(hn:n<=490000)(hp:A.p.length<=100000)(aa:Qb7 A.p) :
 Calls Tryz.prog 315 #[.pointer (some ⟨db,0,none⟩)] w fun e w'=>e=.returned (Qcx (aDo sOp A).1)/\AbsD w' B db bd bn (n+A.p.length) (aDo sOp A).2/\Fr (PDk B) w w':=by
 obtain⟨pv,h⟩:=h;refine(QsL B db bd bn n A.D A.N A.p A.lf pv w h (by omega) (by omega) aa).mono ?_;rintro e w1 ⟨ac,⟨hk,rfl,ab⟩ | ⟨hk,rfl,ab⟩⟩
 ·rw[QxP hk];exact⟨rfl,⟨_,ab⟩,ac⟩
 ·rw[QvX (A:=A) (o:=sOp) (by decide) hk];exact⟨rfl,⟨_,ab.mono (Nat.le_add_right _ _)⟩,ac⟩
structure St where
 kind:Nat
 a:Nat
 b:Nat
 fs:List Fl
 fv:Value
 x:L8
def stV (db:Nat) (s:St):Value:=if s.kind=0 then syF db else if s.kind=1 then wrF s.a s.b else rmF s.a s.b
def Qek (s:St):List Dop:=if s.kind=0 then [sOp] else if s.kind=1 then s.fs.map wOp else [rOp s.x]
def Qco (ks:List St):List Dop:=ks.flatMap Qek
def StW (db:Nat) (w:World) (s:St):Prop:=
 s.kind=0∨(s.kind=1∧w.heap[s.a]?=some (.cells #[s.fv] 40)∧w.heap[s.b]?=some (.cells #[Qcr db] 75)∧QkS w s.fv s.fs∧s.fs.length≤10∧∀ f∈s.fs,f.1.length≤1000∧f.2.length≤100000000)∨
  (s.kind=2∧w.heap[s.a]?=some (.cells #[Qcr db] 75)∧w.heap[s.b]?=some (.cells #[.string (sA s.x)] 9)∧s.x.length≤1000)
theorem StW.fr{db B:Nat}{w w':World}{s:St}(h:StW db w s)(hf:Fr (PDk B) w w'):StW db w' s:=by
 rcases h with h | ⟨h,h1,h2,h3,h4⟩ | ⟨h,h1,h2,h3⟩
 ·exact Or.inl h
 ·exact Or.inr (Or.inl ⟨h,hf.block _ _ h1 (PDk.notT (by decide) (by decide)),hf.block _ _ h2 (PDk.notT (by decide) (by decide)),h3.fr hf (fun _ _=>PDk.notT (by decide) (by decide)),h4⟩)
 ·exact Or.inr (Or.inr ⟨h,hf.block _ _ h1 (PDk.notT (by decide) (by decide)),hf.block _ _ h2 (PDk.notT (by decide) (by decide)),h3⟩)
theorem Qkx(ks:List St)(k:Nat)(hk:k<ks.length):Qco (ks.take (k+1))=Qco (ks.take k)++Qek ks[k]:=by
 unfold Qco;rw[List.take_succ_eq_append_getElem hk,List.flatMap_append];simp
theorem QtN(ks:List St)(k:Nat)(hk:k<ks.length):Qco ks=(Qco (ks.take k)++Qek ks[k])++Qco (ks.drop (k+1)):=by
 rw[<-Qkx ks k hk];unfold Qco;rw[<-List.flatMap_append,List.take_append_drop]
theorem Qsw{l r:List Dop}{A:AD}(h:(Qa1 l A).1≠0):Qa1 (l++r) A=Qa1 l A:=by rw[Qd4,if_neg h]
theorem Qse{db:Nat}{w:World}{s:St}(h:StW db w s):(Qek s).length<=10:=by
 unfold Qek;rcases h with h | ⟨h,_,_,_,h4,_⟩ | ⟨h,_⟩
 ·rw[if_pos h];simp
 ·rw[if_neg (by omega),if_pos h,List.length_map];exact h4
 ·rw[if_neg (by omega),if_neg (by omega)];simp
theorem QnC{db:Nat}{w:World}:∀(ks:List St),(∀ s∈ks,StW db w s)->(Qco ks).length<=10*ks.length
 | [],_=>by simp[Qco]
 |s::r,h=>by
  have h1:=Qse (h s (by simp));have h2:=QnC r (fun s hs=>h s (by simp[hs]));unfold Qco at h2 ⊢;simp only[List.flatMap_cons,List.length_append,List.length_cons];omega
theorem Qvw{db:Nat}{w:World}{s:St}(h:StW db w s):∀ o∈Qek s,o.kind=1\/o.kind=3->Qb7 [o]:=by
 intro o ho hk;unfold Qek at ho;have aa:o.name.length<=1000000->Qb7 [o]:=fun hl x hx=>by rw[List.mem_singleton.1 hx];exact⟨hk,hl⟩
 rcases h with h | ⟨h,_,_,_,h4,h5⟩ | ⟨h,_,_,h3⟩
 ·rw[if_pos h]at ho;rw[List.mem_singleton.1 ho]at hk;exact absurd hk (by decide)
 ·rw[if_neg (by omega),if_pos h]at ho;obtain⟨f,hf,rfl⟩:=List.mem_map.1 ho;exact aa (by have:=(h5 f hf).1;show f.1.length<=_;omega)
 ·rw[if_neg (by omega),if_neg (by omega)]at ho;rw[List.mem_singleton.1 ho];exact fun x hx=>by rw[List.mem_singleton.1 hx];exact⟨Or.inr rfl,by show s.x.length<=_;omega⟩
theorem Qu9{db:Nat}{w:World}(ks:List St)(h:∀ s∈ks,StW db w s):∀ o∈Qco ks,o.kind=1\/o.kind=3->Qb7 [o]:=by
 intro o ho;unfold Qco at ho;obtain⟨s,hs,ho⟩:=List.mem_flatMap.1 ho;exact Qvw (h s hs) o ho
theorem Qio(B db bd bn n sb c:Nat)(A:AD)(ks:List St)(cs:Array Value)(w:World)(h:AbsD w B db bd bn n A)
 (hb:w.heap[sb]?=some (.cells cs 109)) (aE:∀ k (hk:k<ks.length),w.cell? ⟨sb,k,none⟩=some (stV db ks[k])) (hw:∀ s∈ks,StW db w s) (hl:ks.length<=6) (hn:n<=470000) (hp:A.p.length<=50) (aq:Qb7 A.p)
 (ab:∀ k (hk:k<ks.length),ks[k].kind=2->(Qa1 (Qco (ks.take k)) A).1=0->((Qa1 (Qco (ks.take k)) A).2.N ks[k].x).isSome=true) :
 Calls Tryz.prog 74 #[.slice (some ⟨sb,0,none⟩) ks.length c] w fun e w'=>e=.returned (Qcx (Qa1 (Qco ks) A).1)/\AbsD w' B db bd bn (n+1200) (Qa1 (Qco ks) A).2/\Fr (PDk B) w w':=by
 have HA:=Qab h;have HB:=Qab hb;have aK:=Qab aE;have HW:=Qab hw;have aH:=Qab aq;have aJ:=Qab ab;have hmt:=Qqh db;clear h hb aE hw aq ab;go_enter func74,ntmps74;go_wp2_with fail
 go_loopw [4,5,8] (fun _ _ i wr=>∃ k:Nat,k<=ks.length/\i=.int .i64 k/\(Qa1 (Qco (ks.take k)) A).1=0/\AbsD wr B db bd bn (n+200*k) (Qa1 (Qco (ks.take k)) A).2/\Fr (PDk B) w wr) (fun _ _ i _=>ks.length - (intOf i).toNat)
 case atStart=>exact⟨0,Nat.zero_le _,rfl,rfl,HA.o,Fr.refl _ _⟩
 case round=>
  obtain⟨k,hk,rfl,h0,hD,hF⟩:=hrel;have av:=Qab h0;have HF:=Qab hF;by_cases hlt:k<ks.length;rotate_left
  ·have hz:¬(k:Int)<(ks.length:Int):=by omega
   have az:k=ks.length:=by omega
   have aI:=Qab az;have ad:=Qab (hD.mono (show n+200*k<=n+1200 by omega));clear az h0 hD hF;go_wp2;go_ret;have h1:=ad.o;have h2:=av.o;rw[aI.o,List.take_length]at h1 h2;exact⟨by rw[h2];rfl,h1,HF.o⟩
  have hlt':(k:Int)<(ks.length:Int):=by omega
  have aA:=hF.block _ _ HB.o (PDk.notT (by decide) (by decide));have s0:wr.cell? ⟨sb,k,none⟩=some (stV db ks[k]):=by rw[World.cell?_of_block (a:=⟨sb,k,none⟩) (aA.trans HB.o.symm)];exact aK.o k hlt
  have aw:=Qab ((HW.o ks[k] (List.getElem_mem hlt)).fr hF);have aF:=Qab (And.intro (Qkx ks k hlt) (QtN ks k hlt));have ap:=Qab (aJ.o k hlt)
  have aj:Hid ((Qa1 (Qco (ks.take k)) A).2.p.length<=110):=by
   have h1:=Qlr (Qco (ks.take k)) A;have h2:=QnC (ks.take k) (fun s hs=>HW.o s (List.mem_of_mem_take hs));rw[List.length_take]at h2;show _<=_
   omega
  have aB:=Qab (Qqo (Qco (ks.take k)) A aH.o (Qu9 (ks.take k) (fun s hs=>HW.o s (List.mem_of_mem_take hs))));generalize ks[k]=s at *;obtain⟨A1,ay⟩:∃ A1,A1=(Qa1 (Qco (ks.take k)) A).2:=⟨_,rfl⟩;rw[<-ay]at hD ap aj aB;have aC:=Qab ay;have HD:=Qab hD
  have ak:Hid ((Qa1 (Qek s) A1).1=0->(Qa1 (Qco (ks.take (k+1))) A).1=0/\(Qa1 (Qco (ks.take (k+1))) A).2=(Qa1 (Qek s) A1).2):=fun h=>by
   rw[aF.o.1,Qd4,if_pos av.o,<-aC.o];exact⟨h,rfl⟩
  have ao:Hid ((Qa1 (Qek s) A1).1≠0->Qa1 (Qco ks) A=Qa1 (Qek s) A1):=fun h=>by
   have h9:Qa1 (Qco (ks.take k)++Qek s) A=Qa1 (Qek s) A1:=by rw[Qd4,if_pos av.o,<-aC.o]
   rw[aF.o.2,Qsw (by rw[h9];exact h),h9]
  clear h0 hD hF aA ay;rcases aw.o with h | ⟨h,au,ar,ax,aG,aD⟩ | ⟨h,au,ar,ax⟩
  ·have ae:Qek s=[sOp]:=by unfold Qek;rw[if_pos h]
   have ah:stV db s=syF db:=by unfold stV;rw[if_pos h]
   have ac:Qa1 [sOp] A1=aDo sOp A1:=by
    have:=Qh4 [] sOp A1 rfl;exact this
   rw[ae,ac]at ak ao;rw[ah]at s0;have aa:=Qab (Qj6 B db bd bn (n+200*k) A1 wr HD.o (by omega) (by have:=aj.o;omega) aB.o);clear ae ah ac h aw ap;go_wp2_with fail;refine aa.o.mono ?_;rintro e w1 ⟨rfl,af,ag⟩;have ad:=Qab af;have ai:=Qab (HF.o.trans ag);clear af ag;by_cases hz:(aDo sOp A1).1=0
   ·obtain⟨g1,g2⟩:=ak.o hz;have HG:=Qab (And.intro g1 g2);rw[hz,show Qcx 0=.nilIface from rfl];clear g1 g2 hz;go_wp2;exact⟨⟨k+1,by omega,by go_num,HG.o.1,(by rw[HG.o.2];exact ad.o.mono (by have:=aj.o;omega)),ai.o⟩,by simp[intOf];omega⟩
   ·have HG:=Qab (ao.o hz);have HZ:=Qab hz;rw[QcH hz];clear hz;go_wp2;go_ret;rw[HG.o,QcH HZ.o];exact⟨rfl,ad.o.mono (by have:=aj.o;omega),ai.o⟩
  ·have ae:Qek s=s.fs.map wOp:=by unfold Qek;rw[if_neg (by omega),if_pos h]
   have ah:stV db s=wrF s.a s.b:=by unfold stV;rw[if_neg (by omega),if_pos h]
   rw[ae]at ak ao;rw[ah]at s0;have aa:=Qab (QqR B db bd bn (n+200*k) s.a s.b A1 s.fs s.fv wr HD.o au ar ax (by omega) (by have:=aj.o;omega) aD);have hw4':s.fs.length<=10:=aG;clear ae ah h aw ap au ar ax aD;go_wp2_with fail;refine aa.o.mono ?_;rintro e w1 ⟨rfl,af,ag⟩;have ad:=Qab af;have ai:=Qab (HF.o.trans ag);clear af ag;by_cases hz:(Qa1 (s.fs.map wOp) A1).1=0
   ·obtain⟨g1,g2⟩:=ak.o hz;have HG:=Qab (And.intro g1 g2);rw[hz,show Qcx 0=.nilIface from rfl];clear g1 g2 hz;go_wp2;exact⟨⟨k+1,by omega,by go_num,HG.o.1,(by rw[HG.o.2];exact ad.o.mono (by omega)),ai.o⟩,by simp[intOf];omega⟩
   ·have HG:=Qab (ao.o hz);have HZ:=Qab hz;rw[QcH hz];clear hz;go_wp2;go_ret;rw[HG.o,QcH HZ.o];exact⟨rfl,ad.o.mono (by omega),ai.o⟩
  ·have ae:Qek s=[rOp s.x]:=by unfold Qek;rw[if_neg (by omega),if_neg (by omega)]
   have ah:stV db s=rmF s.a s.b:=by unfold stV;rw[if_neg (by omega),if_neg (by omega)]
   have ac:Qa1 [rOp s.x] A1=aDo (rOp s.x) A1:=Qh4 [] (rOp s.x) A1 rfl;rw[ae,ac]at ak ao;rw[ah]at s0;have aa:=Qab (QqX B db bd bn (n+200*k) s.b s.a A1 s.x wr HD.o ar au (by omega) (by have:=aj.o;omega) ax (ap.o h av.o));clear ae ah ac h aw ap au ar;go_wp2_with fail;refine aa.o.mono ?_;rintro e w1 ⟨rfl,af,ag⟩;have ad:=Qab af;have ai:=Qab (HF.o.trans ag);clear af ag;by_cases hz:(aDo (rOp s.x) A1).1=0
   ·obtain⟨g1,g2⟩:=ak.o hz;have HG:=Qab (And.intro g1 g2);rw[hz,show Qcx 0=.nilIface from rfl];clear g1 g2 hz;go_wp2;exact⟨⟨k+1,by omega,by go_num,HG.o.1,(by rw[HG.o.2];exact ad.o.mono (by omega)),ai.o⟩,by simp[intOf];omega⟩
   ·have HG:=Qab (ao.o hz);have HZ:=Qab hz;rw[QcH hz];clear hz;go_wp2;go_ret;rw[HG.o,QcH HZ.o];exact⟨rfl,ad.o.mono (by omega),ai.o⟩
end
end Go.Proofs.YthkibedbcbgajaaGreatDoor
