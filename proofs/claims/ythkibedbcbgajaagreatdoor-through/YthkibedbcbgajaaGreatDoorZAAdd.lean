import Derived.Lib.AppendIntMem
import Derived.Laws.Bits64b
import Derived.Laws.StructEq
import Derived.Test.YthkibedbcbgajaaGreatDoorZSTexts
namespace Go.Proofs.YthkibedbcbgajaaGreatDoor
set_option linter.unusedVariables false
set_option linter.unusedSimpArgs false
set_option maxRecDepth 100000
set_option maxHeartbeats 4000000
open Go.Proofs.Tryz
section
open Go.RowKit
attribute [local go_sem ↓] Go.wp_at_zero Go.wp_at_succ
def Tab (w:World):Prop:=Lib.TabIs Tryz.prog w "internal/strconv.uint64pow10" .u64 Lib.pow10Tab
theorem Tab.below{w w':World}(h:Tab w)(hb:Below w.heap.size w w'):Tab w':=Lib.tabBelow_of_tabIs h w' hb
theorem QgD(n:Nat)(hn:n<=2147483647)(w:World)(ht:Tab w) :
 Calls Tryz.prog 147 #[.int .i64 n] w fun e w'=>e=.returned (.string (sA (iL n)))/\Below w.heap.size w w':=by
 refine(Tryz.strconv_Itoa n (by omega) (by omega) w ht).mono ?_;rintro e w' ⟨rfl,k,os,rfl⟩;exact⟨by rw[Lib.itoa_nonneg];rfl,Lib.below_grow _ _ (Nat.le_refl _) _ _⟩
theorem QpH(g:Nat)(a1 a2:Option Addr)(n1 c1 n2 c2:Nat)(w:World)(h:w.heap[g]?=some (.cells #[.slice a1 n1 c1,.slice a2 n2 c2] 96)) :
 Calls Tryz.prog 38 #[.pointer (some ⟨g,0,none⟩)] w fun e w'=>e=.returned (.agg #[.slice a1 n1 c1,.slice a2 n2 c2])/\Below w.heap.size w w':=by
 have d0:∀ o,(w.alloc o).cell? ⟨g,0,none⟩=some (.slice a1 n1 c1):=fun o=>Qaa (Qac h) 0
 have d1:∀ o,(w.alloc o).cell? ⟨g,1,none⟩=some (.slice a2 n2 c2):=fun o=>Qaa (Qac h) 1
 clear h;go_enter func38,ntmps38;go_wp2;refine bodyPost_ret (v:=.agg #[.slice a1 n1 c1,.slice a2 n2 c2]) (by simp[results,results38,go_sem]) rfl ?_;exact⟨rfl,((Below.refl _ _).alloc (Nat.le_refl _) _)⟩
def QtH (p:L8):L8:=iL p.length++([58]++p)
def jnL (ps:List (L8)):L8:=ps.flatMap QtH
def QlV (ps:List (L8)):Nat:=(ps.map (fun p=>p.length+30)).sum
theorem Qlu{T e:TypeId}{B b:Nat}{bs:List Value}{w w':World}(h:Lib.IsBuilder T e B b bs w)(hb:Below w.heap.size w w'):Lib.IsBuilder T e B b bs w':=by
 have aa:∀ p,Lib.BuilderAt T e B b p bs w->Lib.BuilderAt T e B b p bs w':=fun p ⟨h1,v,h2,h3,h4⟩=>⟨h1,v,Qai h2 hb,QaR (P:=fun _ _=>False) h3 (Fr.of_below hb) (fun _ _ h=>h),h4⟩
 rcases h with h|h
 ·exact Or.inl (aa _ h)
 ·exact Or.inr (aa _ h)
theorem Qd9(x y:L8):Lib.byteCells x++Lib.strCells (sA y)=Lib.byteCells (x++y):=by
 show Lib.byteCells x++Lib.byteCells y=_
 simp[Lib.byteCells]
theorem QsU{w:World}{la:Option Addr}{n lc:Nat}{zs:List (L8)}(h:SlT w (.slice la n lc) zs)(j:Nat)(hj:j<zs.length):∃ g,la=some ⟨g,0,none⟩/\g<w.heap.size/\w.cell? ⟨g,j,none⟩=some (.string (sA zs[j])):=by
 rcases h with⟨_,h2⟩ | ⟨g,c,hv,ht⟩
 ·rw[h2]at hj;exact absurd hj (Nat.not_lt_zero _)
 ·injection hv with h1 h2 h3
  refine⟨g,h1,?_,?_⟩
  ·obtain⟨cs,hb,_⟩:=ht;exact Qar hb
  ·have:=ht.at j hj;rwa [List.getD_eq_getElem?_getD,List.getElem?_eq_getElem hj]at this
theorem Qn7{ps:List (L8)}(p:L8)(h:p∈ps):p.length+30<=QlV ps:=by
 induction ps with
 |nil=>cases h
 |cons a r ih=>
  have e:QlV (a::r)=a.length+30+QlV r:=rfl;rcases List.mem_cons.1 h with h|h
  ·subst h;omega
  ·have:=ih h;omega
theorem QgQ(ps:List (L8))(h:∀ p∈ps,p.length<=2147483647):(jnL ps).length<=QlV ps:=by
 induction ps with
 |nil=>exact Nat.le_refl _
 |cons a r ih=>
  have h1:=ih (fun p hp=>h p (by simp[hp]));have h2:=Qdm a.length (h a (by simp));have e:QlV (a::r)=a.length+30+QlV r:=rfl;show(QtH a++jnL r).length<=_
  rw[List.length_append];unfold QtH;simp only[List.length_append,List.length_cons,List.length_nil];omega
theorem QsY(ps:List (L8))(k:Nat):QlV (ps.take k)<=QlV ps:=by
 induction ps generalizing k with
 |nil=>simp
 |cons a r ih=>
  cases k with
  |zero=>exact Nat.zero_le _
  |succ k=>
   have e:QlV (a::r)=a.length+30+QlV r:=rfl;have e2:QlV ((a::r).take (k+1))=a.length+30+QlV (r.take k):=rfl;have:=ih k;omega
theorem QrW(ps:List (L8))(lv:Value)(w:World)(ht:Tab w)(hl:SlT w lv ps)(hs:QlV ps<=100000000)(hn:ps.length<=1000) :
 Calls Tryz.prog 149 #[lv] w fun e w'=>e=.returned (.string (sA (jnL ps)))/\Below w.heap.size w w':=by
 obtain⟨la,lc,ar⟩:=hl.len;subst ar;have HL:=Qab hl;have HT:=Qab ht;clear hl ht;go_enter func149,ntmps149;have ag:Hid (∀ p∈ps,p.length<=100000000):=fun p hp=>by have:=Qn7 p hp;omega
 have aE:Hid (∀ k,(jnL (ps.take k)).length<=100000000):=fun k=>by
  have h1:=QgQ (ps.take k) (fun p hp=>by have:=ag.o p (List.mem_of_mem_take hp);omega);have h2:=QsY ps k;omega
 go_wp2
 go_loopw [5,8] (fun _ i wr=>∃ k:Nat,k<=ps.length/\i=.int .i64 k/\Lib.IsBuilder 309 5 w.heap.size w.heap.size (Lib.byteCells (jnL (ps.take k))) wr/\Below w.heap.size w wr) (fun _ i _=>ps.length - (intOf i).toNat)
 case atStart=>exact⟨0,Nat.zero_le _,rfl,Or.inl ⟨Nat.le_refl _,_,Qam _ _,World.ownsRow_nil _ _ _ _,by simp[Value.ownBlock]⟩,(Below.refl _ _).alloc (Nat.le_refl _) _⟩
 case round=>
  obtain⟨k,hk,rfl,ap,hB⟩:=hrel;have ad:=Qab ap;have HB:=Qab hB;have ak:=hB.size;clear ap hB;by_cases hlt:k<ps.length;rotate_left
  ·have hz:¬(k:Int)<(ps.length:Int):=by omega
   have HE:Hid (ps.take k=ps):=List.take_of_length_le (by omega);rw[HE.o]at ad;go_wp2_with (go_at_call 199;refine(Tryz.Builder_String_any w.heap.size w.heap.size _ wr ad.o ak).mono ?_;rintro e w1 ⟨rfl,aa⟩;have ab:=Qab aa;clear aa);go_ret;exact⟨rfl,HB.o.trans ab.o⟩
  have hlt':(k:Int)<(ps.length:Int):=by omega
  obtain⟨g,aH,au,hc⟩:=QsU HL.o k hlt;subst aH;have c1:wr.cell? ⟨g,k,none⟩=some (.string (sA ps[k])):=by rw[HB.o.cell (p:=⟨g,k,none⟩) au];exact hc
  have hpl:=ag.o ps[k] (List.getElem_mem hlt)
  have aI:Hid (jnL (ps.take (k+1))=jnL (ps.take k)++QtH ps[k]):=by
   show _=_
   rw[List.take_succ_eq_append_getElem hlt];unfold jnL;rw[List.flatMap_append];simp
  have hjl:=aE.o k;generalize ps[k]=p at *;generalize jnL (ps.take k)=j at *;have hzp:=Qal p;have hil:=Qdm p.length (by omega);have az:(Lib.byteCells j).length=j.length:=by simp[Lib.byteCells]
  have aA:Hid (Tab wr):=HT.o.below HB.o;clear hc;go_wp2_with fail;refine(QgD p.length (by omega) wr aA.o).mono ?_;rintro e w1 ⟨rfl,aa⟩;have aw:=Qab (Qlu ad.o aa);have ab:=Qab (HB.o.trans (aa.mono ak));have ax:=ab.o.size;have aC:=Qal (iL p.length);clear aa;go_wp2_with fail;refine(Qe1 w.heap.size w.heap.size _ (sA (iL p.length)) w1 aw.o (by rw[az,aC];omega) ax).mono ?_;rintro e w2 ⟨rfl,af,ai⟩;rw[Qd9]at af;have ay:=Qab af;have ah:=Qab (ab.o.trans ai);have aB:=ah.o.size;clear af ai;go_wp2_with fail;refine(Qe1 w.heap.size w.heap.size _ (sA [58]) w2 (Or.inr ay.o) (by simp[Lib.byteCells,Qal];omega) aB).mono ?_;rintro e w3 ⟨rfl,ac,aq⟩;rw[Qd9]at ac;have aG:=Qab ac;have aj:=Qab (ah.o.trans aq);have av:=aj.o.size;clear ac aq;go_wp2_with fail;refine(Qe1 w.heap.size w.heap.size _ (sA p) w3 (Or.inr aG.o) (by simp[Lib.byteCells,Qal];omega) av).mono ?_;rintro e w4 ⟨rfl,ae,ao⟩;rw[Qd9]at ae;have aF:=Qab ae;have aD:=Qab (aj.o.trans ao);clear ae ao;go_wp2;refine⟨⟨k+1,by omega,by go_num,?_,aD.o⟩,by simp[intOf];omega⟩;rw[aI.o];have:=aF.o;rw[List.append_assoc,List.append_assoc]at this;exact Or.inr this
theorem Qwz(z:Int):∃ m:Nat,m<18446744073709551616/\IntKind.u64.wrap z=(m:Int):=by
 rw[IntKind.wrap_u64];have h0:=Int.emod_nonneg z (show(18446744073709551616:Int)≠0 by decide);have h1:=Int.emod_lt_of_pos z (show(0:Int)<18446744073709551616 by decide);exact⟨(z % 18446744073709551616).toNat,by omega,by omega⟩
def Tz (w:World):Prop:=w.cell? ⟨6,15,none⟩=some (.int .u8 4)
theorem Tz.below{w w':World}(h:Tz w)(hb:Below w.heap.size w w'):Tz w':=by
 have h1:(6:Nat)<w.heap.size:=Qau h;unfold Tz;rw[hb.cell (p:=⟨6,15,none⟩) h1];exact h
theorem Qyk:IntKind.u64.wrap (bits BinOp.and IntKind.u64 16 (IntKind.u64.wrap (-16))*285870213051353865) / 288230376151711744=15:=by decide
theorem QuZ(w:World)(ht:Tz w) :
 Calls Tryz.prog 289 #[.int .u64 16] w fun e w'=>e=.returned (.int .i64 4)/\w'=w:=by
 have c:w.cell? ⟨6,15,none⟩=some (.int .u8 4):=ht;clear ht;go_enter func289,ntmps289;go_wp2_with (simp only[Qyk]);go_ret;exact⟨rfl,rfl⟩
theorem QxM(w:World)(ht:Tz w) :
 Calls Tryz.prog 281 #[.int .u64 16] w fun e w'=>e=.returned (.int .i64 4)/\w'=w:=by
 have HT:=Qab ht;clear ht;go_enter func281,ntmps281;go_wp2_with (go_at_call 289;refine(QuZ w HT.o).mono ?_;rintro e w1 ⟨rfl,h1⟩;rw[h1];clear h1);go_ret;exact⟨rfl,rfl⟩
theorem QvB(w:World) :
 Calls Tryz.prog 280 #[.int .i64 16] w fun e w'=>e=.returned (.bool true)/\w'=w:=by
 go_enter func280,ntmps280;go_wp2;go_ret;exact⟨by rfl,rfl⟩
theorem Qyt(k m:Nat)(hk:k<=15)(hm:m<16 ^ (k+1)):0<=bits BinOp.and IntKind.u64 (m:Int) 15/\bits BinOp.and IntKind.u64 (m:Int) 15<36:=by
 have h1:(16:Nat) ^ (k+1)<=16 ^ 16:=Nat.pow_le_pow_right (by omega) (by omega);have h2:(16:Nat) ^ 16=18446744073709551616:=by decide
 have h3:=bits_and_u64_nat m 15 (by omega) (by omega);have h4:m &&& 15<=15:=Nat.and_le_right;have h5:((15:Nat):Int)=15:=rfl;rw[h5]at h3;rw[h3];omega
theorem Qx8(W:World)(B k:Nat)(hk:k<=15):(Instr.sliceAt 378 (.pointer (some ⟨B,0,none⟩)) (some (.int .i64 (50+(k:Int) - 1))) none none).run Tryz.prog W=.ok (.slice (some ⟨B,49+k,none⟩) (16 - k) (16 - k)) W:=by
 have ha:Tryz.prog.arrayLen 378=65:=by kernel_rfl
 have h2:(50+(k:Int) - 1).toNat=49+k:=by omega
 have h3:65 - (49+k)=16 - k:=by omega
 have h4:¬ 65=49+k:=by omega
 have hz:(sizeOf (Tryz.prog.elem 378)).run Tryz.prog W=.ok 1 W:=by kernel_rfl
 rw[run_sliceAt_array_l W 378 ⟨B,0,none⟩ (by kernel_rfl) .i64 _ (by omega) (by rw[ha];omega),hz];have h5:¬ 49+k=0:=by omega
 simp only[Result.andThen,slicedAt,ha,h2,h3,if_neg h4,Addr.add,Nat.mul_one,Nat.zero_add,if_neg h5]
end
section
open Go.RowKit
theorem QeU(c d:UInt8):((c.toNat:Int)==(d.toNat:Int))=decide (c=d):=by
 by_cases h:c=d
 ·subst h;simp
 ·rw[decide_eq_false h];simp;intro e;exact h (UInt8.toNat_inj.1 (by omega))
theorem Qt1(s:ByteArray)(p:UInt8->Bool)(k:Nat)(h:k<s.size):(s.data.toList.drop k).all p=(p s[k]&&(s.data.toList.drop (k+1)).all p):=by
 rw[Qbf s k h,List.all_cons]
theorem Qoz(s:ByteArray)(p:UInt8->Bool)(k:Nat)(h:s.size<=k):(s.data.toList.drop k).all p=true:=by
 rw[List.drop_of_length_le (by simpa using h)];rfl
theorem Qpn(s:ByteArray)(h:0<s.size):s.data.toList.head?=some s[0]:=by
 have:=Qbf s 0 h;rw[List.drop_zero]at this;rw[this];rfl
theorem QgN(s:ByteArray)(h:0<s.size):s.data.toList.isEmpty=false:=by
 have:=Qbf s 0 h;rw[List.drop_zero]at this;rw[this];rfl
theorem Qh2(s:ByteArray)(w:World)(hs:s.size<=1000000) :
 Calls Tryz.prog 144 #[.string s] w fun e w'=>e=.returned (.bool (Qbp s.data.toList))/\w'=w:=by
 have aa:s.data.toList.length=s.size:=by simp
 by_cases h0:s.size=0
 ·have ad:=Qc3 h0;have hr:Qbp s.data.toList=false:=by rw[<-ByteArray.toList_eq,ad];rfl
  have HR:=Qab hr;clear hr aa;go_enter func144,ntmps144;go_wp2;go_ret;exact⟨QaF HR.o.symm,rfl⟩
 have ad:=Qbq h0;have h0'':s.toList.isEmpty=false:=by simpa using ad
 have h1:0<s.size:=by omega
 have ab:=QgN s h1;by_cases h16:16<s.size
 ·have hr:Qbp s.data.toList=false:=by unfold Qbp;rw[ab,decide_eq_false (by omega)];rfl
  have HR:=Qab hr;clear hr aa ab;go_enter func144,ntmps144;go_wp2;go_ret;exact⟨QaF HR.o.symm,rfl⟩
 have ac:((s[0].toNat:Int)==46)=decide (s[0]=46):=QeU s[0] 46;by_cases hd:s[0]=46
 ·rw[decide_eq_true hd]at ac;have hr:Qbp s.data.toList=false:=by unfold Qbp;rw[ab,decide_eq_true (by omega),Qpn s h1,hd];rfl
  have HR:=Qab hr;clear hr aa ab hd;go_enter func144,ntmps144;go_wp2;go_ret;exact⟨QaF HR.o.symm,rfl⟩
 rw[decide_eq_false hd]at ac
 have hr:Qbp s.data.toList=(s.data.toList.drop 0).all Qxr:=by
  unfold Qbp;rw[ab,decide_eq_true (by omega),Qpn s h1,List.drop_zero];simp[hd]
 have HR:=Qab hr;clear hr aa ab hd;go_enter func144,ntmps144;go_wp2
 go_loop [19] (fun i=>∃ k:Nat,k<=s.size/\i=.int .i64 k/\Qbp s.data.toList=(s.data.toList.drop k).all Qxr) (fun i=>s.size - (intOf i).toNat)
 case atStart=>exact⟨0,by omega,rfl,HR.o⟩
 case round=>
  obtain⟨k,hk,rfl,hn⟩:=hrel;have HN:=Qab hn;clear hn ac;by_cases hlt:k<s.size;rotate_left
  ·have HS:=Qab (Qoz s Qxr k (by omega));go_wp2;go_ret;exact⟨QaF (by rw[HN.o,HS.o]),rfl⟩
  have HS:=Qab (Qt1 s Qxr k hlt);have HB:Hid (Qxr s[k]=(Qbt (s[k].toNat:Int) || QaL (s[k].toNat:Int) || s[k]==45 || s[k]==46)):=rfl;have e45:((s[k].toNat:Int) != 45)=!(s[k]==45):=by rw[bne,show((s[k].toNat:Int)==45)=decide (s[k]=45)from QeU s[k] 45];by_cases h:s[k]=45<;>simp[h]
  have ac:((s[k].toNat:Int) != 46)=!(s[k]==46):=by rw[bne,show((s[k].toNat:Int)==46)=decide (s[k]=46)from QeU s[k] 46];by_cases h:s[k]=46<;>simp[h]
  generalize (s[k]==45)=b45 at *;generalize (s[k]==46)=b46 at *
  cases hc:Qbt (s[k].toNat:Int)<;>cases hd:QaL (s[k].toNat:Int)<;>cases b45<;>cases b46 <;>
  (go_wp2_with (first | (go_at_call 142;refine (Qaz _ _).mono ?_;rintro e w' ⟨rfl,rfl⟩) | (go_at_call 143;refine (QaA _ _).mono ?_;rintro e w' ⟨rfl,rfl⟩))
   first
    |(go_ret;exact⟨QaF (by rw[HN.o,HS.o,HB.o,hc,hd];rfl),rfl⟩)
    | (go_round
       case rel=>exact⟨k+1,by omega,by go_num,by rw[HN.o,HS.o,HB.o,hc,hd];rfl⟩
       case measure=>simp [intOf];omega))
end
section
open Go.RowKit
attribute [local go_sem ↓] Go.wp_at_zero Go.wp_at_succ
theorem Qvr(s:ByteArray)(w:World)(hs:s.size<=140737488355328) :
 Calls Tryz.prog 70 #[.string s] w fun e w'=>e=.returned (.bool (Qeu s.data.toList))/\w'=w:=by
 have aa:s.data.toList.length=s.size:=by simp
 by_cases h0:s.size=0
 ·have ac:=Qc3 h0;have hr:Qeu s.data.toList=false:=by rw[<-ByteArray.toList_eq,ac];rfl
  have HR:=Qab hr;clear hr aa;go_enter func70,ntmps70;go_wp2;go_ret;exact⟨QaF HR.o.symm,rfl⟩
 have ac:=Qbq h0;have h0'':s.toList.isEmpty=false:=by simpa using ac
 have h1:0<s.size:=by omega
 have ab:=QgN s h1;by_cases h8:8<s.size
 ·have hr:Qeu s.data.toList=false:=by unfold Qeu;rw[ab,decide_eq_false (by omega)];rfl
  have HR:=Qab hr;clear hr aa ab;go_enter func70,ntmps70;go_wp2;go_ret;exact⟨QaF HR.o.symm,rfl⟩
 have hr:Qeu s.data.toList=(s.data.toList.drop 0).all idB:=by
  unfold Qeu;rw[ab,decide_eq_true (by omega),List.drop_zero];rfl
 have HR:=Qab hr;clear hr aa ab;go_enter func70,ntmps70;go_wp2
 go_loop [13] (fun i=>∃ k:Nat,k<=s.size/\i=.int .i64 k/\Qeu s.data.toList=(s.data.toList.drop k).all idB) (fun i=>s.size - (intOf i).toNat)
 case atStart=>exact⟨0,by omega,rfl,HR.o⟩
 case round=>
  obtain⟨k,hk,rfl,hn⟩:=hrel;have HN:=Qab hn;clear hn;by_cases hlt:k<s.size;rotate_left
  ·have HS:=Qab (Qoz s idB k (by omega));go_wp2;go_ret;exact⟨QaF (by rw[HN.o,HS.o]),rfl⟩
  have HS:=Qab (Qt1 s idB k hlt);have HB:Hid (idB s[k]=(Qbt (s[k].toNat:Int) || QaL (s[k].toNat:Int))):=rfl
  cases hc:Qbt (s[k].toNat:Int)<;>cases hd:QaL (s[k].toNat:Int) <;>
  (go_wp2_with (first | (go_at_call 142;refine (Qaz _ _).mono ?_;rintro e w' ⟨rfl,rfl⟩) | (go_at_call 143;refine (QaA _ _).mono ?_;rintro e w' ⟨rfl,rfl⟩))
   first
    |(go_ret;exact⟨QaF (by rw[HN.o,HS.o,HB.o,hc,hd];rfl),rfl⟩)
    | (go_round
       case rel=>exact⟨k+1,by omega,by go_num,by rw[HN.o,HS.o,HB.o,hc,hd];rfl⟩
       case measure=>simp [intOf];omega))
theorem Qmy(s:ByteArray)(w:World)(hs:s.size<=140737488355328) :
 Calls Tryz.prog 144 #[.string s] w fun e w'=>e=.returned (.bool (Qbp s.data.toList))/\w'=w:=by
 by_cases h16:16<s.size
 ·have h1:0<s.size:=by omega
  have ab:=Qbq (by omega:¬ s.size=0);have h0'':s.toList.isEmpty=false:=by simpa using ab
  have aa:s.data.toList.length=s.size:=by simp
  have hr:Qbp s.data.toList=false:=by unfold Qbp;rw[QgN s h1,decide_eq_false (by omega)];rfl
  have HR:=Qab hr;clear hr aa;go_enter func144,ntmps144;go_wp2;go_ret;exact⟨QaF HR.o.symm,rfl⟩
 ·exact Qh2 s w (by omega)
def Qxw (n:Nat) (c:UInt8):Int:=IntKind.u64.wrap (bits BinOp.xor IntKind.u64 (n:Int) (IntKind.u64.wrap (c.toNat:Int))*1099511628211)
def Qvi (n:Nat) (c:UInt8):Nat:=(Qxw n c).toNat
def Qpr (n:Nat) (p:L8):Nat:=p.foldl Qvi n
def fnvL (ps:List (L8)):Nat:=ps.foldl Qpr 14695981039346656037
theorem QtZ(n:Nat)(c:UInt8):0<=Qxw n c/\Qxw n c<18446744073709551616:=by
 obtain⟨k,hk,e⟩:=Qwz (bits BinOp.xor IntKind.u64 (n:Int) (IntKind.u64.wrap (c.toNat:Int))*1099511628211);unfold Qxw;rw[e];omega
theorem QuJ(n:Nat)(c:UInt8):Qxw n c=(((Qxw n c).toNat:Nat):Int):=by
 have:=QtZ n c;omega
theorem Qw8(n:Nat)(c:UInt8):Qvi n c<18446744073709551616:=by
 have:=QtZ n c;unfold Qvi;omega
theorem Qpo:∀(p:L8) (n:Nat),n<18446744073709551616->p.foldl Qvi n<18446744073709551616
 | [],n,h=>h
 |c::r,n,h=>Qpo r _ (Qw8 n c)
theorem QnV:∀(ps:List (L8)) (n:Nat),n<18446744073709551616->ps.foldl Qpr n<18446744073709551616
 | [],n,h=>h
 |p::r,n,h=>QnV r _ (Qpo p n h)
theorem QwJ(ps:List (L8)):fnvL ps<18446744073709551616:=QnV ps _ (by decide)
theorem Qvj(ps:List (L8))(lv:Value)(w:World)(hl:SlT w lv ps)(hs:∀ p∈ps,p.length<=200000000)(hn:ps.length<=1000) :
 Calls Tryz.prog 197 #[lv] w fun e w'=>e=.returned (.int .u64 ((fnvL ps:Nat):Int))/\w'=w:=by
 obtain⟨la,lc,aj⟩:=hl.len;subst aj;have HL:=Qab hl;have HS:=Qab hs;clear hl hs;obtain⟨b0,ab⟩:∃ b0:Nat,b0=14695981039346656037:=⟨_,rfl⟩;have ae:Hid ((14695981039346656037:Int)=(b0:Int)/\b0<18446744073709551616/\fnvL ps=ps.foldl Qpr b0):=⟨by rw[ab];rfl,by rw[ab];decide,by rw[ab];rfl⟩;clear ab;go_enter func197,ntmps197;go_wp2
 go_loop [3,5,6,9] (fun s _ _ i=>∃ k:Nat,k<=ps.length/\i=.int .i64 k/\s=.int .u64 (((ps.take k).foldl Qpr b0:Nat):Int)) (fun _ _ _ i=>ps.length - (intOf i).toNat)
 case atStart=>exact⟨0,by omega,rfl,by rw[List.take_zero,ae.o.1];rfl⟩
 case round=>
  obtain⟨k,hk,rfl,ai⟩:=hrel;obtain⟨n,ad⟩:∃ n,n=(ps.take k).foldl Qpr b0:=⟨_,rfl⟩;rw[<-ad]at ai;subst ai;have ag:=Qab ad;have ao:n<18446744073709551616:=by rw[ad];exact QnV _ _ ae.o.2.1
  clear ad;by_cases hlt:k<ps.length;rotate_left
  ·have hz:¬(k:Int)<(ps.length:Int):=by omega
   go_wp2;go_ret;have h:=ag.o;rw[List.take_of_length_le (by omega)]at h;exact⟨by rw[h,ae.o.2.2];rfl,rfl⟩
  have hlt':(k:Int)<(ps.length:Int):=by omega
  obtain⟨g,ap,hgl,hc⟩:=QsU HL.o k hlt;subst ap;have hpl:=HS.o ps[k] (List.getElem_mem hlt);have aq:Hid ((ps.take (k+1)).foldl Qpr b0=Qpr n ps[k]):=by show _=_;rw[List.take_succ_eq_append_getElem hlt,List.foldl_append,<-ag.o,List.foldl_cons,List.foldl_nil]
  generalize ps[k]=p at *;have hzp:=Qal p;have hn3:(n:Int)<18446744073709551616:=by omega
  go_wp2
  go_loop [3,6,15] (fun s _ i=>∃ j:Nat,j<=p.length/\i=.int .i64 j/\s=.int .u64 (((p.take j).foldl Qvi n:Nat):Int)) (fun _ _ i=>p.length - (intOf i).toNat)
  case atStart=>exact⟨0,by omega,rfl,by rw[List.take_zero];rfl⟩
  case round=>
   obtain⟨j,hj,rfl,ah⟩:=hrel;obtain⟨m,ac⟩:∃ m,m=(p.take j).foldl Qvi n:=⟨_,rfl⟩;rw[<-ac]at ah;subst ah;have af:=Qab ac;have hm2:m<18446744073709551616:=by rw[ac];exact Qpo _ _ ao
   clear ac;by_cases hjt:j<p.length;rotate_left
   ·have hz:¬(j:Int)<(p.length:Int):=by omega
    go_wp2;have h:=af.o;rw[List.take_of_length_le (by omega)]at h;exact⟨⟨k+1,by omega,by go_num,by rw[aq.o,h];rfl⟩,by simp[intOf];omega⟩
   have hjt':j<(sA p).size:=by omega
   go_wp2
   have aa:(p.take (j+1)).foldl Qvi n=Qvi m p[j]:=by
    rw[List.take_succ_eq_append_getElem hjt,List.foldl_append,<-af.o,List.foldl_cons,List.foldl_nil];exact congrArg (Qvi m) rfl
   refine⟨⟨j+1,by omega,by go_num,?_⟩,by simp[intOf];omega⟩;have ak:(sA p)[j]=p[j]:=rfl;rw[aa,ak];exact congrArg (Value.int IntKind.u64) (QuJ m p[j])
theorem Qqk(x y:L8):((sA x).toList==(sA y).toList)=decide (x=y):=by
 rw[show(sA y).toList=y by rw[ByteArray.toList_eq];rfl];exact QcV x y
theorem Ql5(h:L8×L8)(n:L8)(w:World)(h1:h.1.length<=1000000)(h2:n.length<=1000000) :
 Calls Tryz.prog 185 #[.agg #[.string (sA h.1),.string (sA h.2)],.string (sA n)] w fun e w'=>e=.returned (.bool (QbX h n))/\Below w.heap.size w w':=by
 have he:=Qqk (zL h.1) (zL n);have HN:Hid (QbX h n=decide (zL h.1=zL n)):=rfl;generalize decide (zL h.1=zL n)=b at *;have HA:=Qab (QdN h.1);have HB:=Qab (QdN n);generalize zL h.1=x at *;generalize zL n=y at *;go_enter func185,ntmps185;go_wp2_with fail;refine(HA.o _ h1).mono ?_;rintro e w1 ⟨rfl,aa⟩;have ab:=Qab (((Below.refl w.heap.size w).alloc (Nat.le_refl _) _).trans (aa.mono (by simp)));clear aa;go_wp2_with fail;refine(HB.o _ h2).mono ?_;rintro e w2 ⟨rfl,ac⟩;have ad:=Qab (ab.o.trans (ac.mono ab.o.size));clear ac;go_wp2;go_ret;exact⟨QaF (by rw[HN.o]),ad.o⟩
theorem Qmw(h:L8×L8)(n:L8)(p:Nat)(w:World)(h1:h.1.length<=1000000)(h2:n.length<=1000000)(hp:w.cell? ⟨p,0,none⟩=some (.string (sA n))) :
 Calls Tryz.prog 228 #[.agg #[.string (sA h.1),.string (sA h.2)],.pointer (some ⟨p,0,none⟩)] w fun e w'=>e=.returned (.bool (QbX h n))/\Below w.heap.size w w':=by
 have hpl:=Qau hp;go_enter func228,ntmps228;go_wp2_with fail;refine(Ql5 h n _ h1 h2).mono ?_;rintro e w1 ⟨rfl,aa⟩;have ab:=Qab (((Below.refl w.heap.size w).alloc (Nat.le_refl _) _).trans (aa.mono (by simp)));clear aa;go_wp2;go_ret;exact⟨rfl,ab.o⟩
theorem QmI(w:World)(v:Value)(t:TypeId):(w.alloc (.cells #[v] t)).cell? ⟨w.heap.size,0,none⟩=some v:=by
 rw[Qaa (Qam w _)];rfl
theorem Qvp{α:Type}(p:α->Bool)(l:List α)(k:Nat)(h:k<l.length):(l.drop k).any p=(p l[k] || (l.drop (k+1)).any p):=by
 rw[List.drop_eq_getElem_cons h,List.any_cons]
theorem QvC{α:Type}(p:α->Bool)(l:List α)(k:Nat)(h:k<l.length):(l.drop k).all p=(p l[k]&&(l.drop (k+1)).all p):=by
 rw[List.drop_eq_getElem_cons h,List.all_cons]
theorem Qd1{α:Type}(l:List α)(k:Nat)(h:¬ k<l.length):l.drop k=[]:=List.drop_of_length_le (by omega)
theorem QkX(hs:List (L8×L8))(hv:Value)(n:L8)(p:Nat)(w:World)(hh:QjG w hv hs)(hl:hs.length<=1000000)(h1:∀ h∈hs,h.1.length<=100000/\h.2.length<=100000)(h2:n.length<=1000000)(hp:w.cell? ⟨p,0,none⟩=some (.string (sA n))) :
 Calls Tryz.prog 247 #[hv,.func (.func 228) #[] #[.pointer (some ⟨p,0,none⟩)]] w fun e w'=>∃ i:Int,e=.returned (.int .i64 i)/\decide (0<=i)=hs.any (QbX · n)/\Below w.heap.size w w':=by
 obtain⟨la,lc,ah⟩:=hh.len;subst ah;have HH:=Qab hh;have ai:=Qau hp;clear hh;go_enter func247,ntmps247;go_wp2
 go_loopw [5,8] (fun _ i wr=>∃(k:Nat),k<=hs.length/\i=.int .i64 (k:Int)/\Below w.heap.size w wr/\hs.any (QbX · n)=(hs.drop k).any (QbX · n)) (fun _ i _=>hs.length - (intOf i).toNat)
 case atStart=>exact⟨0,Nat.zero_le _,rfl,Below.refl _ _,rfl⟩
 case round=>
  obtain⟨k,hk,rfl,hB,aa⟩:=hrel;have HB:=Qab hB;have HA:=Qab aa;have ag:=hB.size;clear hB aa;by_cases hlt:k<hs.length;rotate_left
  ·have aj:¬(k:Int)<(hs.length:Int):=by omega
   have HD:=Qab (Qd1 hs k hlt);go_wp2;go_ret;exact⟨-1,rfl,by rw[HA.o,HD.o];rfl,HB.o⟩
  have aj:(k:Int)<(hs.length:Int):=by omega
  obtain⟨g,ak,af,ad,ac⟩:=HH.o.get' k hlt;subst ak;have c1:wr.cell? ⟨g,k*2,none⟩=some (.string (sA hs[k].1)):=by rw[HB.o.cell (p:=⟨g,k*2,none⟩) af];exact ad
  have c2:wr.cell? ⟨g,k*2+1,none⟩=some (.string (sA hs[k].2)):=by rw[HB.o.cell (p:=⟨g,k*2+1,none⟩) af];exact ac
  have cp:wr.cell? ⟨p,0,none⟩=some (.string (sA n)):=by rw[HB.o.cell (p:=⟨p,0,none⟩) ai];exact hp
  have HD:=Qab (Qvp (QbX · n) hs k hlt);have hl1:=(h1 _ (List.getElem_mem hlt)).1;have HC:Hid (Calls Tryz.prog 228 #[.agg #[.string (sA hs[k].1),.string (sA hs[k].2)],.pointer (some ⟨p,0,none⟩)] wr fun e w'=>e=.returned (.bool (QbX hs[k] n))/\Below wr.heap.size wr w'):=Qmw hs[k] n p wr (by omega) h2 cp;cases hb:QbX hs[k] n
  ·rw[hb]at HD HC;clear ad ac;go_wp2_with (go_at_call 228;refine HC.o.mono ?_;rintro e w1 ⟨rfl,ab⟩;have ae:=Qab (HB.o.trans (ab.mono ag));clear ab);go_roundw
   case rel=>exact⟨k+1,by omega,by go_num,ae.o,by rw[HA.o,HD.o];rfl⟩
   case measure=>simp[intOf];omega
  ·rw[hb]at HD HC;clear ad ac;go_wp2_with (go_at_call 228;refine HC.o.mono ?_;rintro e w1 ⟨rfl,ab⟩;have ae:=Qab (HB.o.trans (ab.mono ag));clear ab);go_ret;exact⟨k,rfl,by rw[HA.o,HD.o];exact decide_eq_true (by omega),ae.o⟩
theorem QhL(hs:List (L8×L8))(hv:Value)(n:L8)(p:Nat)(w:World)(hh:QjG w hv hs)(hl:hs.length<=1000000)(h1:∀ h∈hs,h.1.length<=100000/\h.2.length<=100000)(h2:n.length<=1000000)(hp:w.cell? ⟨p,0,none⟩=some (.string (sA n))) :
 Calls Tryz.prog 227 #[hv,.func (.func 228) #[] #[.pointer (some ⟨p,0,none⟩)]] w fun e w'=>e=.returned (.bool (hs.any (QbX · n)))/\Below w.heap.size w w':=by
 obtain⟨la,lc,ab⟩:=hh.len;subst ab;go_enter func227,ntmps227;go_wp2_with fail;refine(QkX hs _ n p _ hh hl h1 h2 hp).mono ?_;rintro e w1 ⟨i,rfl,hi,aa⟩;have HI:=Qab hi;have ac:=Qab aa;clear hi aa;go_wp2
 all_goals go_ret
 all_goals exact⟨QaF (by rw[<-HI.o]),ac.o⟩
theorem Qp7(s:SS):∀(n:Nat) (l aa:L8),aa.length<=1024->(Qqm s n l aa).length<=1024
 |0,_,_,h=>h
 |n+1,l,aa,h=>by
  by_cases hc:l≠[]/\aa.length<1024
  ·rw[QnO hc];exact Qp7 s n _ _ (by rw[List.length_append,List.length_take];omega)
  ·rw[QkI hc];exact h
theorem Qlb(s:SS)(x:L8)(N:Nat)(h:x.length<=N)(hN:1024<=N):(expL s x).length<=N:=by
 unfold expL;split
 ·exact Nat.le_trans (Qp7 s _ _ _ (Nat.zero_le _)) hN
 ·exact h
theorem Qgd(s:SS)(zs:List (L8))(N:Nat)(h:∀ z∈zs,z.length<=N)(hN:1024<=N):∀ y∈zs.map (expL s),y.length<=N:=by
 intro y hy;obtain⟨z,hz,rfl⟩:=List.mem_map.1 hy;exact Qlb s z N (h z hz) hN
theorem Qpm(B sb:Nat)(M:Msg)(s:SS)(zs:List (L8))(lv:Value)(w:World)(h:SAt w B sb M s)(ao:SlT w lv zs)(hl:∀ z∈zs,z.length<=1000000)(hn:zs.length<=1000000) :
 Calls Tryz.prog 187 #[.pointer (some ⟨sb,0,none⟩),lv] w fun e w'=>e=.returned (.bool (existsL M (zs.map (expL s))))/\Below w.heap.size w w':=by
 obtain⟨la,lc,aC⟩:=ao.len;subst aC;have HS:=Qab h;obtain⟨hv,mb,tv,mv,ac⟩:=h;have ax:=Qab ac;have aa:=ac.lt;have aB:=ac.bd;have c3:w.cell? ⟨sb,3,none⟩=some hv:=ac.cell 3;have ay:=Qab aB;clear ac aB;go_enter func187,ntmps187;go_wp2_with fail;refine(QeH B sb M s zs _ w HS.o ao hl hn).mono ?_;rintro e w1 ⟨v1,rfl,aj,ak⟩;have HT:=Qab (SlT.of_owns aj (by simp));have au:=Qab ak;obtain⟨ta,tc,aH⟩:=Qat aj;subst aH;have aw:∀ y∈zs.map (expL s),y.length<=1000000:=Qgd s zs _ hl (by decide);have af:zs.length=(zs.map (expL s)).length:=by simp
 have HE:Hid (existsL M (zs.map (expL s))=(zs.map (expL s)).all fun n=>M.hdrs.any (QbX · n)):=rfl;have aA:=Qab aw;obtain⟨ys,ap⟩:∃ ys,zs.map (expL s)=ys:=⟨_,rfl⟩;have av:=Qab ap;rw[ap]at HT HE aA af;clear ap;rw[af]at hn;have ah:w1.cell? ⟨sb,3,none⟩=some hv:=(ak.cell (p:=⟨sb,3,none⟩) aa).trans c3;rw[af];rw[af]at HT;clear aj aw af ak ao hl c3;go_wp2_with fail
 go_loopw [6,11] (fun _ i wr=>∃(k:Nat),k<=ys.length/\i=.int .i64 (k:Int)/\Below w.heap.size w wr/\Below w1.heap.size w1 wr/\existsL M ys=(ys.drop k).all fun n=>M.hdrs.any (QbX · n)) (fun _ i _=>ys.length - (intOf i).toNat)
 case atStart=>exact⟨0,Nat.zero_le _,rfl,au.o,Below.refl _ _,HE.o⟩
 case round=>
  obtain⟨k,hk,rfl,hB,ar,ad⟩:=hrel;have HB:=Qab hB;have ae:=Qab ar;have HA:=Qab ad;have az:=hB.size;have aq:sb<w1.heap.size:=Nat.lt_of_lt_of_le aa au.o.size;have c3:wr.cell? ⟨sb,3,none⟩=some hv:=(ar.cell (p:=⟨sb,3,none⟩) aq).trans ah;have hltr:sb<wr.heap.size:=Nat.lt_of_lt_of_le aa hB.size;clear hB ar ad;by_cases hlt:k<ys.length;rotate_left
  ·have aE:¬(k:Int)<(ys.length:Int):=by omega
   have HD:=Qab (Qd1 ys k hlt);go_wp2;go_ret;exact⟨QaF (by rw[av.o,HA.o,HD.o];rfl),HB.o⟩
  have aE:(k:Int)<(ys.length:Int):=by omega
  obtain⟨g,aJ,aD,aI⟩:=HT.o.get' k hlt;subst aJ;have c1:wr.cell? ⟨g,k,none⟩=some (.string (sA ys[k])):=by rw[ae.o.cell (p:=⟨g,k,none⟩) aD];exact aI
  have HD:=Qab (QvC (fun n=>M.hdrs.any (QbX · n)) ys k hlt);have aF:=aA.o _ (List.getElem_mem hlt);obtain⟨ha,hc,aG⟩:=ax.o.hd.len;subst aG
  have HC:Hid (∀ W,Below wr.heap.size wr W->W.cell? ⟨wr.heap.size,0,none⟩=some (.string (sA ys[k]))->Calls Tryz.prog 227 #[.slice ha M.hdrs.length hc,.func (.func 228) #[] #[.pointer (some ⟨wr.heap.size,0,none⟩)]] W fun e w'=>e=.returned (.bool (M.hdrs.any (QbX · ys[k])))/\Below W.heap.size W w'):=fun W hW hcW=>
   QhL M.hdrs _ ys[k] _ W (ax.o.hd.fr (P:=fun _ _=>False) (Fr.trans (Fr.trans (Fr.of_below au.o) (Fr.of_below ae.o)) (Fr.of_below hW)) (fun _ _ h=>h)) (by have:=ay.o.hl;omega) ay.o.hd aF hcW
  generalize ys[k]=y at *;cases hb:M.hdrs.any (QbX · y)
  ·rw[hb]at HD HC;go_wp2_with (go_at_call 227;refine(HC.o _ ((Below.refl _ _).alloc (Nat.le_refl _) _) (QmI _ _ _)).mono ?_;rintro e w2 ⟨rfl,ab⟩;have ai:=Qab ((HB.o.alloc az _).trans (ab.mono (by simp;omega)));clear ab);go_ret;exact⟨QaF (by rw[av.o,HA.o,HD.o];rfl),ai.o⟩
  ·rw[hb]at HD HC;go_wp2_with (go_at_call 227;refine(HC.o _ ((Below.refl _ _).alloc (Nat.le_refl _) _) (QmI _ _ _)).mono ?_;rintro e w2 ⟨rfl,ab⟩;have ai:=Qab ((HB.o.alloc az _).trans (ab.mono (by simp;omega)));have ag:=Qab ((ae.o.alloc ae.o.size _).trans (ab.mono (by have:=ae.o.size;simp;omega)));clear ab);go_roundw
   case rel=>exact⟨k+1,by omega,by go_num,ai.o,ag.o,by rw[HA.o,HD.o];rfl⟩
   case measure=>simp[intOf];omega
def Qg5 (r:Bool×SS) (B sb:Nat) (M:Msg) (w:World) (e:Ending) (w':World):Prop:=
 e=.returned (.bool r.1)∧SAt w' B sb M r.2∧Fr (PSt B) w w'
theorem SBd.told'{M:Msg}{s:SS}(b:SBd M s)(t:List (L8))(h1:∀ x∈t,x.length<=100000)(h2:t.length<=1000000):SBd M (Qu3 s t):=⟨b.fr,b.tu,b.hl,b.hd,h1,h2,b.vals,b.met⟩
theorem SI.setTold{w:World}{B sb:Nat}{M:Msg}{s:SS}{hv:Value}{mb:Nat}{tv mv:Value}(h:SI w B sb M s hv mb tv mv)(t:List (L8))(v:Value)(ht:SlT w v t)(h1:∀ x∈t,x.length<=100000)(h2:t.length<=1000000):SI (w.setCell ⟨sb,6,none⟩ v) B sb M (Qu3 s t) hv mb v mv:=by
 have hf:Fr (fun k _=>k=sb) w (w.setCell ⟨sb,6,none⟩ v):=(Fr.refl _ w).set h.blk rfl 6 v
 have ab:∀(k:Nat) (o:Obj),w.heap[k]?=some o->(∀ cs,o≠.cells cs 227)->k≠sb:=fun k o hk ho e=>by
  subst e;rw[h.blk]at hk;cases hk;exact ho _ rfl
 obtain⟨es,c,hm,hu⟩:=h.mp;obtain⟨m,h7⟩:=h.m1;refine⟨h.bs,h.bm,h.b1,⟨m,?_⟩,?_,?_,⟨es,c,hf.block _ _ hm (ab _ _ hm (fun cs e=>by cases e)),hu⟩,?_,?_,h.mn,h.bd.told' t h1 h2⟩
 ·have:(1:Nat)≠sb:=by have:=h.b1;have:=h.bs;omega
  rw[World.cell?_of_block (a:=⟨1,0,none⟩) (Below.heap_setCell _ _ _ _ this)];exact h7
 ·exact Qag _ _ _ _ _ _ h.blk
 ·rcases h.hd with h' | ⟨g,c,cs,aa,hb,hc⟩
  ·exact Or.inl h'
  ·exact Or.inr ⟨g,c,cs,aa,hf.block _ _ hb (ab _ _ hb (fun cs e=>by injection e with e1 e2;exact absurd e2 (by decide))),hc⟩
 ·rcases ht with h' | ⟨g,c,aa,cs,hb,hc⟩
  ·exact Or.inl h'
  ·exact Or.inr ⟨g,c,aa,cs,hf.block _ _ hb (ab _ _ hb (fun cs e=>by injection e with e1 e2;exact absurd e2 (by decide))),hc⟩
 ·obtain⟨h1,h2⟩:=h.met;refine⟨h1,?_⟩;rcases h2 with h2 | ⟨g,ac,ad,aa,hg,hh,r⟩
  ·exact Or.inl h2
  ·exact Or.inr ⟨g,ac,ad,aa,hg,hf.block _ _ hh (ab _ _ hh (fun cs e=>by injection e with e1 e2;exact absurd e2 (by decide))),r⟩
theorem Qna{tag:Int}{oct:Bool}{v:L8}(ks:List (L8))(j:Nat)(hj:j<ks.length):Qtw tag oct v (ks.drop j)=if Qt7 tag oct v ks[j]then some ks[j]else Qtw tag oct v (ks.drop (j+1)):=by
 rw[List.drop_eq_getElem_cons hj];rfl
theorem Qmu{tag:Int}{oct:Bool}{ks:List (L8)}(vs:List (L8))(i:Nat)(hi:i<vs.length):QpM tag oct ks (vs.drop i)=match Qtw tag oct vs[i] ks with|some k=>some (vs[i],k)|none=>QpM tag oct ks (vs.drop (i+1)):=by
 rw[List.drop_eq_getElem_cons hi];rfl
theorem QmM{tag:Int}{oct:Bool}{ks:List (L8)}{vs:List (L8)}{i:Nat}{hi:i<vs.length}(h:Qtw tag oct vs[i] ks=none):QpM tag oct ks (vs.drop i)=QpM tag oct ks (vs.drop (i+1)):=by
 rw[Qmu vs i hi,h]
theorem Qf5{tag:Int}{oct:Bool}{ks:List (L8)}{vs:List (L8)}{i:Nat}{hi:i<vs.length}{k:L8}(h:Qtw tag oct vs[i] ks=some k):QpM tag oct ks (vs.drop i)=some (vs[i],k):=by
 rw[Qmu vs i hi,h]
theorem Qnv{s:SS}{tag:Int}{oct:Bool}{vals keys:List (L8)}(h:QpM tag oct (keys.map (expL s)) vals=none):askL s tag oct vals keys=(false,s):=by unfold askL;rw[h]
theorem QsA{s:SS}{tag:Int}{oct:Bool}{vals keys:List (L8)}{v k:L8}(h:QpM tag oct (keys.map (expL s)) vals=some (v,k))(ht:wayT tag oct v k=none):askL s tag oct vals keys=(true,s):=by unfold askL;rw[h];dsimp only;rw[ht]
theorem QnB{s:SS}{tag:Int}{oct:Bool}{vals keys:List (L8)}{v k:L8}{t:List (L8)}(h:QpM tag oct (keys.map (expL s)) vals=some (v,k))(ht:wayT tag oct v k=some t):askL s tag oct vals keys=(true,Qu3 s t):=by unfold askL;rw[h];dsimp only;rw[ht]
theorem Qom(tag:Int)(oct:Bool)(p:Nat)(B sb:Nat)(M:Msg)(s:SS)(vals keys:List (L8))(vv kv:Value)(w:World)
 (hw:∀ W v k,Below w.heap.size w W->v.length<=100000->k.length<=100000->Calls Tryz.prog 222 #[.string (sA v),.string (sA k),.pointer (some ⟨p,0,none⟩)] W (Qe7 tag oct v k W))
 (h:SAt w B sb M s) (aw:SlT w vv vals) (aK:SlT w kv keys) (aP:∀ z∈vals,z.length<=100000) (ax:∀ z∈keys,z.length<=100000) (hvn:vals.length<=1000000000000) (aI:keys.length<=1000000) :
 Calls Tryz.prog 186 #[.pointer (some ⟨sb,0,none⟩),.func (.func 222) #[] #[.pointer (some ⟨p,0,none⟩)],vv,kv] w (Qg5 (askL s tag oct vals keys) B sb M w):=by
 obtain⟨va,vc,ay⟩:=aw.len;subst ay;have a1:=Qab aw;have HS:=Qab h;have HW:=Qab hw;have aW:=Qab aP;go_enter func186,ntmps186;go_wp2_with fail;refine(QeH B sb M s keys _ w h aK (fun z hz=>Nat.le_trans (ax z hz) (by decide)) aI).mono ?_;rintro e w1 ⟨v1,rfl,aq,aG⟩;have HT:=Qab (SlT.of_owns aq (by simp));have aZ:=Qab aG;obtain⟨ta,tc,aX⟩:=Qat aq;subst aX;have aF:∀ y∈keys.map (expL s),y.length<=100000:=Qgd s keys _ ax (by decide);have ao:keys.length=(keys.map (expL s)).length:=by simp
 obtain⟨ks,av⟩:∃ ks,keys.map (expL s)=ks:=⟨_,rfl⟩;have aA:=Qab av;have aL:=Qab aF;rw[av]at HT aL ao;rw[ao]at aI HT;rw[ao];clear aq aF ao aG aK ax h aw aP hw av;go_wp2_with fail
 go_loopw [10,12,13,14,20] (fun _ _ _ _ i wr=>∃(a:Nat),a<=vals.length/\i=.int .i64 (a:Int)/\Below w.heap.size w wr/\Below w1.heap.size w1 wr/\QpM tag oct ks vals=QpM tag oct ks (vals.drop a)) (fun _ _ _ _ i _=>vals.length - (intOf i).toNat)
 case atStart=>exact⟨0,Nat.zero_le _,rfl,aZ.o,Below.refl _ _,rfl⟩
 case round=>
  obtain⟨a,ha,rfl,hB,aO,af⟩:=hrel;have HB:=Qab hB;have a0:=Qab aO;have HA:=Qab af;clear hB aO af;by_cases hlt:a<vals.length;rotate_left
  ·have aT:¬(a:Int)<(vals.length:Int):=by omega
   have HD:=Qab (Qd1 vals a hlt);go_wp2;go_ret;have hm:=Qnv (s:=s) (tag:=tag) (oct:=oct) (vals:=vals) (keys:=keys) (by rw[aA.o,HA.o,HD.o];rfl);rw[hm];exact⟨rfl,HS.o.below HB.o,Fr.of_below HB.o⟩
  have aT:(a:Int)<(vals.length:Int):=by omega
  obtain⟨g,a2,aR,aN⟩:=a1.o.get' a hlt;subst a2;have c1:wr.cell? ⟨g,a,none⟩=some (.string (sA vals[a])):=by rw[HB.o.cell (p:=⟨g,a,none⟩) aR];exact aN
  have az:=aW.o _ (List.getElem_mem hlt);obtain⟨v,hv⟩:∃ v,vals[a]=v:=⟨_,rfl⟩;have HV:=Qab hv;rw[hv]at c1 az;clear hv aN;go_wp2_with fail
  go_loopw [12,13,14,26] (fun _ _ _ i wr=>∃(j:Nat),j<=ks.length/\i=.int .i64 (j:Int)/\Below w.heap.size w wr/\Below w1.heap.size w1 wr/\Qtw tag oct v ks=Qtw tag oct v (ks.drop j)) (fun _ _ _ i _=>ks.length - (intOf i).toNat)
  case atStart=>exact⟨0,Nat.zero_le _,rfl,HB.o,a0.o,rfl⟩
  case round=>
   obtain⟨j,hj,rfl,aJ,ae,ag⟩:=hrel;have aj:=Qab aJ;have aa:=Qab ae;have HK:=Qab ag;clear aJ ae ag;by_cases hjl:j<ks.length;rotate_left
   ·have aS:¬(j:Int)<(ks.length:Int):=by omega
    have HD:=Qab (Qd1 ks j hjl);go_wp2;refine⟨⟨a+1,by omega,by go_num,aj.o,aa.o,?_⟩,by simp[intOf];omega⟩;rw[HA.o];exact QmM (hi:=hlt) (by rw[HV.o,HK.o,HD.o];rfl)
   have aS:(j:Int)<(ks.length:Int):=by omega
   obtain⟨g2,aD,aB,aM⟩:=HT.o.get' j hjl;subst aD;have c2:wr.cell? ⟨g2,j,none⟩=some (.string (sA ks[j])):=by rw[aa.o.cell (p:=⟨g2,j,none⟩) aB];exact aM
   have aY:=aL.o _ (List.getElem_mem hjl);have ac:=Qab (Qna (tag:=tag) (oct:=oct) (v:=v) ks j hjl);generalize ks[j]=k at *;clear aM;go_wp2_with fail;refine(HW.o _ v k aj.o az aY).mono ?_;rintro e w3 ⟨aE,ai⟩;have ah:=Qab (aj.o.trans (aE.mono aj.o.size));have au:=Qab (aa.o.trans (aE.mono aa.o.size));clear aE;rcases ai with⟨ab,rfl⟩ | ⟨ab,ad,rfl⟩ | ⟨ab,t,g3,c3,ad,rfl,hg3,aH⟩
   ·rw[ab]at ac;clear ab;go_wp2;refine⟨⟨j+1,by omega,by go_num,ah.o,au.o,?_⟩,by simp[intOf];omega⟩;rw[HK.o,ac.o];rfl
   ·rw[ab]at ac;have ap:=Qab ad;clear ab ad;go_wp2;go_ret;have hm:=QsA (s:=s) (tag:=tag) (oct:=oct) (vals:=vals) (keys:=keys) (v:=v) (k:=k) (by rw[aA.o,HA.o,Qf5 (hi:=hlt) (k:=k) (by rw[HV.o,HK.o,ac.o];rfl),HV.o]) ap.o;rw[hm];exact⟨rfl,HS.o.below ah.o,Fr.of_below ah.o⟩
   ·rw[ab]at ac;have ap:=Qab ad;have aC:=QsN ad;obtain⟨aV,mb,tv,mv,ak⟩:=HS.o.below ah.o;have ar:=Qab ak;have cc6:w3.cell? ⟨sb,6,none⟩=some tv:=ak.cell 6;have ff6:=ak.frozen 6;have aQ:=Qab aH;have htl:=aC.2;have aU:=Qab aC.1;clear ab ad ak aH aC;go_wp2;go_ret;have hm:=QnB (s:=s) (tag:=tag) (oct:=oct) (vals:=vals) (keys:=keys) (v:=v) (k:=k) (t:=t) (by rw[aA.o,HA.o,Qf5 (hi:=hlt) (k:=k) (by rw[HV.o,HK.o,ac.o];rfl),HV.o]) ap.o;rw[hm];refine⟨rfl,⟨aV,mb,_,mv,ar.o.setTold t _ (Or.inr ⟨g3,c3,rfl,aQ.o⟩) (fun x hx=>Nat.le_trans (aU.o x hx) az) (by omega)⟩,?_⟩;exact(Fr.of_below ah.o).set ar.o.blk ar.o.ps _ _
theorem QqJ(tag:Int)(oct:Bool)(p q:Nat)(B sb:Nat)(M:Msg)(s:SS)(vals keys:List (L8))(vv kv:Value)(w:World)
 (hw:∀ W v k,Below w.heap.size w W->v.length<=100000->k.length<=100000->Calls Tryz.prog 244 #[.string (sA v),.string (sA k),.pointer (some ⟨p,0,none⟩),.pointer (some ⟨q,0,none⟩)] W (Qe7 tag oct v k W))
 (h:SAt w B sb M s) (aw:SlT w vv vals) (aK:SlT w kv keys) (aP:∀ z∈vals,z.length<=100000) (ax:∀ z∈keys,z.length<=100000) (hvn:vals.length<=1000000000000) (aI:keys.length<=1000000) :
 Calls Tryz.prog 186 #[.pointer (some ⟨sb,0,none⟩),.func (.func 244) #[] #[.pointer (some ⟨p,0,none⟩),.pointer (some ⟨q,0,none⟩)],vv,kv] w (Qg5 (askL s tag oct vals keys) B sb M w):=by
 obtain⟨va,vc,ay⟩:=aw.len;subst ay;have a1:=Qab aw;have HS:=Qab h;have HW:=Qab hw;have aW:=Qab aP;go_enter func186,ntmps186;go_wp2_with fail;refine(QeH B sb M s keys _ w h aK (fun z hz=>Nat.le_trans (ax z hz) (by decide)) aI).mono ?_;rintro e w1 ⟨v1,rfl,aq,aG⟩;have HT:=Qab (SlT.of_owns aq (by simp));have aZ:=Qab aG;obtain⟨ta,tc,aX⟩:=Qat aq;subst aX;have aF:∀ y∈keys.map (expL s),y.length<=100000:=Qgd s keys _ ax (by decide);have ao:keys.length=(keys.map (expL s)).length:=by simp
 obtain⟨ks,av⟩:∃ ks,keys.map (expL s)=ks:=⟨_,rfl⟩;have aA:=Qab av;have aL:=Qab aF;rw[av]at HT aL ao;rw[ao]at aI HT;rw[ao];clear aq aF ao aG aK ax h aw aP hw av;go_wp2_with fail
 go_loopw [10,12,13,14,20] (fun _ _ _ _ i wr=>∃(a:Nat),a<=vals.length/\i=.int .i64 (a:Int)/\Below w.heap.size w wr/\Below w1.heap.size w1 wr/\QpM tag oct ks vals=QpM tag oct ks (vals.drop a)) (fun _ _ _ _ i _=>vals.length - (intOf i).toNat)
 case atStart=>exact⟨0,Nat.zero_le _,rfl,aZ.o,Below.refl _ _,rfl⟩
 case round=>
  obtain⟨a,ha,rfl,hB,aO,af⟩:=hrel;have HB:=Qab hB;have a0:=Qab aO;have HA:=Qab af;clear hB aO af;by_cases hlt:a<vals.length;rotate_left
  ·have aT:¬(a:Int)<(vals.length:Int):=by omega
   have HD:=Qab (Qd1 vals a hlt);go_wp2;go_ret;have hm:=Qnv (s:=s) (tag:=tag) (oct:=oct) (vals:=vals) (keys:=keys) (by rw[aA.o,HA.o,HD.o];rfl);rw[hm];exact⟨rfl,HS.o.below HB.o,Fr.of_below HB.o⟩
  have aT:(a:Int)<(vals.length:Int):=by omega
  obtain⟨g,a2,aR,aN⟩:=a1.o.get' a hlt;subst a2;have c1:wr.cell? ⟨g,a,none⟩=some (.string (sA vals[a])):=by rw[HB.o.cell (p:=⟨g,a,none⟩) aR];exact aN
  have az:=aW.o _ (List.getElem_mem hlt);obtain⟨v,hv⟩:∃ v,vals[a]=v:=⟨_,rfl⟩;have HV:=Qab hv;rw[hv]at c1 az;clear hv aN;go_wp2_with fail
  go_loopw [12,13,14,26] (fun _ _ _ i wr=>∃(j:Nat),j<=ks.length/\i=.int .i64 (j:Int)/\Below w.heap.size w wr/\Below w1.heap.size w1 wr/\Qtw tag oct v ks=Qtw tag oct v (ks.drop j)) (fun _ _ _ i _=>ks.length - (intOf i).toNat)
  case atStart=>exact⟨0,Nat.zero_le _,rfl,HB.o,a0.o,rfl⟩
  case round=>
   obtain⟨j,hj,rfl,aJ,ae,ag⟩:=hrel;have aj:=Qab aJ;have aa:=Qab ae;have HK:=Qab ag;clear aJ ae ag;by_cases hjl:j<ks.length;rotate_left
   ·have aS:¬(j:Int)<(ks.length:Int):=by omega
    have HD:=Qab (Qd1 ks j hjl);go_wp2;refine⟨⟨a+1,by omega,by go_num,aj.o,aa.o,?_⟩,by simp[intOf];omega⟩;rw[HA.o];exact QmM (hi:=hlt) (by rw[HV.o,HK.o,HD.o];rfl)
   have aS:(j:Int)<(ks.length:Int):=by omega
   obtain⟨g2,aD,aB,aM⟩:=HT.o.get' j hjl;subst aD;have c2:wr.cell? ⟨g2,j,none⟩=some (.string (sA ks[j])):=by rw[aa.o.cell (p:=⟨g2,j,none⟩) aB];exact aM
   have aY:=aL.o _ (List.getElem_mem hjl);have ac:=Qab (Qna (tag:=tag) (oct:=oct) (v:=v) ks j hjl);generalize ks[j]=k at *;clear aM;go_wp2_with fail;refine(HW.o _ v k aj.o az aY).mono ?_;rintro e w3 ⟨aE,ai⟩;have ah:=Qab (aj.o.trans (aE.mono aj.o.size));have au:=Qab (aa.o.trans (aE.mono aa.o.size));clear aE;rcases ai with⟨ab,rfl⟩ | ⟨ab,ad,rfl⟩ | ⟨ab,t,g3,c3,ad,rfl,hg3,aH⟩
   ·rw[ab]at ac;clear ab;go_wp2;refine⟨⟨j+1,by omega,by go_num,ah.o,au.o,?_⟩,by simp[intOf];omega⟩;rw[HK.o,ac.o];rfl
   ·rw[ab]at ac;have ap:=Qab ad;clear ab ad;go_wp2;go_ret;have hm:=QsA (s:=s) (tag:=tag) (oct:=oct) (vals:=vals) (keys:=keys) (v:=v) (k:=k) (by rw[aA.o,HA.o,Qf5 (hi:=hlt) (k:=k) (by rw[HV.o,HK.o,ac.o];rfl),HV.o]) ap.o;rw[hm];exact⟨rfl,HS.o.below ah.o,Fr.of_below ah.o⟩
   ·rw[ab]at ac;have ap:=Qab ad;have aC:=QsN ad;obtain⟨aV,mb,tv,mv,ak⟩:=HS.o.below ah.o;have ar:=Qab ak;have cc6:w3.cell? ⟨sb,6,none⟩=some tv:=ak.cell 6;have ff6:=ak.frozen 6;have aQ:=Qab aH;have htl:=aC.2;have aU:=Qab aC.1;clear ab ad ak aH aC;go_wp2;go_ret;have hm:=QnB (s:=s) (tag:=tag) (oct:=oct) (vals:=vals) (keys:=keys) (v:=v) (k:=k) (t:=t) (by rw[aA.o,HA.o,Qf5 (hi:=hlt) (k:=k) (by rw[HV.o,HK.o,ac.o];rfl),HV.o]) ap.o;rw[hm];refine⟨rfl,⟨aV,mb,_,mv,ar.o.setTold t _ (Or.inr ⟨g3,c3,rfl,aQ.o⟩) (fun x hx=>Nat.le_trans (aU.o x hx) az) (by omega)⟩,?_⟩;exact(Fr.of_below ah.o).set ar.o.blk ar.o.ps _ _
theorem QfG(tag:Int)(oct:Bool)(B sb:Nat)(M:Msg)(s:SS)(vals keys:List (L8))(wv vv kv:Value)(w:World)(hw:WayV w tag oct wv)
 (h:SAt w B sb M s) (ag:SlT w vv vals) (af:SlT w kv keys) (ae:∀ z∈vals,z.length<=100000) (ad:∀ z∈keys,z.length<=100000) (ab:vals.length<=1000000000000) (ac:keys.length<=1000000) :
 Calls Tryz.prog 186 #[.pointer (some ⟨sb,0,none⟩),wv,vv,kv] w (Qg5 (askL s tag oct vals keys) B sb M w):=by
 rcases hw with⟨rfl,p,rfl,hp⟩ | ⟨p,q,rfl,hq,hh⟩
 ·refine Qom 3 oct p B sb M s vals keys vv kv w (fun W v k hW h1 h2=>?_) h ag af ae ad ab ac;exact Qxh oct p v k W (by omega) (by omega) ((hW.cell (p:=⟨p,0,none⟩) (Qau hp)).trans hp)
 ·refine QqJ tag oct p q B sb M s vals keys vv kv w (fun W v k hW h1 h2=>?_) h ag af ae ad ab ac;have aa:=(hW.cell (p:=⟨q,0,none⟩) (Qau hq)).trans hq;rcases hh with⟨rfl,hp⟩ | ⟨rfl,hp⟩
  ·exact Qk2 oct p q v k W (by omega) (by omega) aa ((hW.cell (p:=⟨p,0,none⟩) (Qau hp)).trans hp)
  ·obtain⟨hv,mb,tv,mv,hS⟩:=h;obtain⟨m,hm⟩:=hS.m1;exact Qjm oct p q v k W (by omega) (by omega) aa ((hW.cell (p:=⟨p,0,none⟩) (Qau hp)).trans hp) m ((hW.cell (p:=⟨1,0,none⟩) (Qau hm)).trans hm)
theorem WayV.below{w w':World}{tag:Int}{oct:Bool}{wv:Value}(h:WayV w tag oct wv)(hb:Below w.heap.size w w'):WayV w' tag oct wv:=by
 have k:∀(p:Nat) (v:Value),w.cell? ⟨p,0,none⟩=some v->w'.cell? ⟨p,0,none⟩=some v:=fun p v hp=>(hb.cell (p:=⟨p,0,none⟩) (Qau hp)).trans hp
 rcases h with⟨h1,p,h2,h3⟩ | ⟨p,q,h1,h2,⟨h3,h4⟩ | ⟨h3,h4⟩⟩
 ·exact Or.inl ⟨h1,p,h2,k _ _ h3⟩
 ·exact Or.inr ⟨p,q,h1,k _ _ h2,Or.inl ⟨h3,k _ _ h4⟩⟩
 ·exact Or.inr ⟨p,q,h1,k _ _ h2,Or.inr ⟨h3,k _ _ h4⟩⟩
theorem WayV.fn{w:World}{tag:Int}{oct:Bool}{wv:Value}(h:WayV w tag oct wv):∃ F b,wv=.func (.func F) #[] b:=by
 rcases h with⟨h1,p,h2,h3⟩ | ⟨p,q,h1,_⟩
 ·exact⟨_,_,h2⟩
 ·exact⟨_,_,h1⟩
theorem Qoq(tag:Int)(oct:Bool)(B sb:Nat)(M:Msg)(s:SS)(xs keys:List (L8))(wv xv kv:Value)(w:World)(hw:WayV w tag oct wv)
 (h:SAt w B sb M s) (ah:SlT w xv xs) (ag:SlT w kv keys) (ac:∀ z∈xs,z.length<=100000) (ai:∀ z∈keys,z.length<=100000) (ao:xs.length<=1000000) (ak:keys.length<=1000000) :
 Calls Tryz.prog 131 #[.pointer (some ⟨sb,0,none⟩),wv,xv,kv] w (Qg5 (askL s tag oct (xs.map (expL s)) keys) B sb M w):=by
 have HS:=Qab h;have HW:=Qab hw;have ap:=Qab ag;clear hw ag;go_enter func131,ntmps131;go_wp2_with fail;refine(QeH B sb M s xs _ w h ah (fun z hz=>Nat.le_trans (ac z hz) (by decide)) ao).mono ?_;rintro e w1 ⟨v1,rfl,ad,af⟩;have HT:=Qab (SlT.of_owns ad (by simp));have aa:=Qab af;clear ad af h;go_wp2_with fail;refine(QfG tag oct B sb M s (xs.map (expL s)) keys wv v1 kv w1 (HW.o.below aa.o) (HS.o.below aa.o) HT.o (ap.o.below aa.o) (Qgd s xs _ ac (by decide)) ai (by simp;omega) ak).mono ?_;rintro e w2 ⟨rfl,ae,ab⟩;have H2:=Qab ae;have aj:=Qab ab;clear ae ab;go_wp2;go_ret;exact⟨rfl,H2.o,(Fr.of_below aa.o).trans aj.o⟩
theorem Qhg{α β:Type}(f:α->List β)(l:List α)(k:Nat)(h:k<l.length):(l.take (k+1)).flatMap f=(l.take k).flatMap f++f l[k]:=by
 rw[List.take_succ_eq_append_getElem h,List.flatMap_append];simp
theorem QiI{α β:Type}(f:α->List β)(l:List α)(n:Nat)(h:∀ a∈l,(f a).length<=n):(l.flatMap f).length<=l.length*n:=by
 induction l with
 |nil=>simp
 |cons a r ih=>
  rw[List.flatMap_cons,List.length_append,List.length_cons,Nat.succ_mul];have h1:=h a (by simp);have h2:=ih (fun b hb=>h b (by simp[hb]));omega
theorem Qvm(M:Msg)(ps:List (L8)):(QiQ M ps).length<=ps.length:=by
 have:=QiI (fun p=>if zL p=[102,114,111,109]then [M.fr]else if zL p=[116,111]then [M.to]else []) ps 1 (fun a _=>by split<;>(try split)<;>simp);unfold QiQ;omega
theorem QuM{M:Msg}{s:SS}(b:SBd M s)(ps:List (L8)):∀ z∈QiQ M ps,z.length<=100000:=by
 intro z hz;unfold QiQ at hz;obtain⟨p,_,hp⟩:=List.mem_flatMap.1 hz
 split at hp
 ·simp at hp;rw[hp];exact b.fr
 ·split at hp
  ·simp at hp;rw[hp];exact b.tu
  ·cases hp
theorem Qnu(tag:Int)(oct:Bool)(B sb:Nat)(M:Msg)(s:SS)(ps keys:List (L8))(wv xv kv:Value)(w:World)(hw:WayV w tag oct wv)
 (h:SAt w B sb M s) (aj:SlT w xv ps) (ax:SlT w kv keys) (aI:∀ z∈ps,z.length<=100000) (aJ:∀ z∈keys,z.length<=100000) (hxn:ps.length<=1000000) (aH:keys.length<=1000000) :
 Calls Tryz.prog 130 #[.pointer (some ⟨sb,0,none⟩),wv,xv,kv] w (Qg5 (askL s tag oct (QiQ M ps) keys) B sb M w):=by
 obtain⟨va,vc,ap⟩:=aj.len;subst ap;have aL:=Qab aj;have HS:=Qab h;have HW:=Qab hw;have aK:=Qab ax;obtain⟨hv,mb,tv,mv,af⟩:=h;have au:=af.lt;have c0:w.cell? ⟨sb,0,none⟩=some (.string (sA M.fr)):=af.cell 0;have c1:w.cell? ⟨sb,1,none⟩=some (.string (sA M.to)):=af.cell 1;have aG:=Qab af.bd;obtain⟨i0,hi,aB,aA,av⟩:=info_parts Tryz.infoStr;clear hw ax aj af;go_enter func130,ntmps130;go_wp2_with fail
 go_loopw [9,11,14] (fun v _ i wr=>∃(k:Nat),k<=ps.length/\i=.int .i64 (k:Int)/\wr.ownsRow w.heap.size 9 1 v (QiQ M (ps.take k)).length (QaD (QiQ M (ps.take k)))/\Below w.heap.size w wr) (fun _ _ i _=>ps.length - (intOf i).toNat)
 case atStart=>exact⟨0,Nat.zero_le _,rfl,World.ownsRow_nil _ _ _ _,Below.refl _ _⟩
 case round=>
  obtain⟨k,hk,rfl,ac,hB⟩:=hrel;have ao:w.heap.size<=wr.heap.size:=hB.size;have aD:=Qvm M (ps.take k);have hel2:(QiQ M (ps.take k)).length<=1000000:=by have:(ps.take k).length<=k:=List.length_take_le _ _;omega
  obtain⟨va2,vc2,aq⟩:=Qat ac;subst aq;have HB:=Qab hB;have ai:=Qab ac;clear hB ac aD;have d0:wr.cell? ⟨sb,0,none⟩=some (.string (sA M.fr)):=(HB.o.cell (p:=⟨sb,0,none⟩) au).trans c0;have d1:wr.cell? ⟨sb,1,none⟩=some (.string (sA M.to)):=(HB.o.cell (p:=⟨sb,1,none⟩) au).trans c1;by_cases hlt:k<ps.length;rotate_left
  ·have aC:k=ps.length:=by omega
   subst aC;have aF:¬(ps.length:Int)<(ps.length:Int):=by omega
   have HE:Hid (QiQ M (ps.take ps.length)=QiQ M ps):=by show _=_;rw[List.take_of_length_le (Nat.le_refl _)]
   go_wp2_with fail;refine(QfG tag oct B sb M s (QiQ M ps) keys wv _ kv wr (HW.o.below HB.o) (HS.o.below HB.o) (SlT.of_owns (by have:=ai.o;rw[HE.o]at this;exact this) rfl) (aK.o.below HB.o) (QuM aG.o ps) aJ (by rw[<-HE.o];omega) aH).mono ?_;rintro e w2 ⟨rfl,aw,ay⟩;have H2:=Qab aw;have aM:=Qab ay;clear aw ay;go_wp2;go_ret;exact⟨rfl,H2.o,(Fr.of_below HB.o).trans aM.o⟩
  have aF:(k:Int)<(ps.length:Int):=by omega
  obtain⟨g,aN,aE,az⟩:=aL.o.get' k hlt;subst aN;have e1:wr.cell? ⟨g,k,none⟩=some (.string (sA ps[k])):=by rw[HB.o.cell (p:=⟨g,k,none⟩) aE];exact az
  have hpl:=aI _ (List.getElem_mem hlt);have HN:Hid (QiQ M (ps.take (k+1))=QiQ M (ps.take k)++(if zL ps[k]=[102,114,111,109]then [M.fr]else if zL ps[k]=[116,111]then [M.to]else [])):=Qhg _ ps k hlt;have ef:=QcV (zL ps[k]) [102,114,111,109];have et:=QcV (zL ps[k]) [116,111];have HC:=Qab (QdN ps[k] wr (by omega));generalize ps[k]=p at *;generalize zL p=q at *;have sw:sb<wr.heap.size:=by omega
  clear az;by_cases hf:q=[102,114,111,109]
  ·rw[decide_eq_true hf]at ef;have ah:Hid (QiQ M (ps.take (k+1))=QiQ M (ps.take k)++[M.fr]):=by show _=_;rw[HN.o,if_pos hf]
   clear hf et;go_wp2_with (first|(go_at_call 163;refine HC.o.mono ?_;rintro e w1 ⟨rfl,aa⟩;have ab:=Qab (HB.o.trans (aa.mono ao));have ad:=Qab (QaR (P:=fun _ _=>False) ai.o (Fr.of_below aa) (fun _ _ h=>h));have f0:w1.cell? ⟨sb,0,none⟩=some (.string (sA M.fr)):=(aa.cell (p:=⟨sb,0,none⟩) sw).trans d0;clear aa)|(at_builtin;refine wpList_append_own _ rfl _ _ 89 rfl w.heap.size 9 i0 _ 1 16 underlying89 hi aB aA av rfl (by decide) _ _ _ rfl (ad.o.alloc _) ⟨w1.heap.size,0,none⟩ 1 1 [.string (sA M.fr)] rfl rfl (cell_one_new _ _ _) (QnM _) (by unfold maxLen;omega) (by omega) (by have:=ab.o.size;simp;omega) ?_;intro v5 w5 ae ag _;have ak:=Qab (Qbs ab.o ab.o.size ag (fun k hk=>(ad.o.lt k hk).1));have ar:=Qab ae;clear ae ag));go_roundw
   case rel=>
    refine⟨k+1,by omega,by go_num,?_,ak.o⟩;rw[ah.o,<-Qb4,List.length_append];exact ar.o
   case measure=>simp[intOf];omega
  rw[decide_eq_false hf]at ef;by_cases ht:q=[116,111]
  ·rw[decide_eq_true ht]at et;have ah:Hid (QiQ M (ps.take (k+1))=QiQ M (ps.take k)++[M.to]):=by show _=_;rw[HN.o,if_neg hf,if_pos ht]
   clear hf ht;go_wp2_with (first|(go_at_call 163;refine HC.o.mono ?_;rintro e w1 ⟨rfl,aa⟩;have ab:=Qab (HB.o.trans (aa.mono ao));have ad:=Qab (QaR (P:=fun _ _=>False) ai.o (Fr.of_below aa) (fun _ _ h=>h));have f1:w1.cell? ⟨sb,1,none⟩=some (.string (sA M.to)):=(aa.cell (p:=⟨sb,1,none⟩) sw).trans d1;clear aa)|(at_builtin;refine wpList_append_own _ rfl _ _ 89 rfl w.heap.size 9 i0 _ 1 16 underlying89 hi aB aA av rfl (by decide) _ _ _ rfl (ad.o.alloc _) ⟨w1.heap.size,0,none⟩ 1 1 [.string (sA M.to)] rfl rfl (cell_one_new _ _ _) (QnM _) (by unfold maxLen;omega) (by omega) (by have:=ab.o.size;simp;omega) ?_;intro v5 w5 ae ag _;have ak:=Qab (Qbs ab.o ab.o.size ag (fun k hk=>(ad.o.lt k hk).1));have ar:=Qab ae;clear ae ag));go_roundw
   case rel=>
    refine⟨k+1,by omega,by go_num,?_,ak.o⟩;rw[ah.o,<-Qb4,List.length_append];exact ar.o
   case measure=>simp[intOf];omega
  ·rw[decide_eq_false ht]at et;have ah:Hid (QiQ M (ps.take (k+1))=QiQ M (ps.take k)):=by show _=_;rw[HN.o,if_neg hf,if_neg ht,List.append_nil]
   clear hf ht;go_wp2_with (first|(go_at_call 163;refine HC.o.mono ?_;rintro e w1 ⟨rfl,aa⟩;have ab:=Qab (HB.o.trans (aa.mono ao));have ad:=Qab (QaR (P:=fun _ _=>False) ai.o (Fr.of_below aa) (fun _ _ h=>h));clear aa));go_roundw
   case rel=>
    refine⟨k+1,by omega,by go_num,?_,ab.o⟩;rw[ah.o];exact ad.o
   case measure=>simp[intOf];omega
theorem Qn0(p:L8×L8->Bool)(hs:List (L8×L8))(b:Nat)(h:b<hs.length):((hs.take (b+1)).filter p).map (·.2)=((hs.take b).filter p).map (·.2)++(if p hs[b]then [hs[b].2]else []):=by
 rw[List.take_succ_eq_append_getElem h,List.filter_append,List.map_append];by_cases hp:p hs[b]=true<;>simp[hp]
theorem Qo8(M:Msg)(ns:List (L8)):(fieldsL M ns).length<=ns.length*M.hdrs.length:=by
 unfold fieldsL;exact QiI _ ns _ (fun a _=>by rw[List.length_map];exact List.length_filter_le _ _)
theorem QnW{M:Msg}{s:SS}(b:SBd M s)(ns:List (L8)):∀ z∈fieldsL M ns,z.length<=100000:=by
 intro z hz;unfold fieldsL at hz;obtain⟨n,_,hn⟩:=List.mem_flatMap.1 hz;obtain⟨h,hh,rfl⟩:=List.mem_map.1 hn;exact(b.hd h (List.mem_filter.1 hh).1).2
theorem Qi5(w:World)(a b:Value)(t:TypeId):(w.alloc (.cells #[a,b] t)).cell? ⟨w.heap.size,0,none⟩=some a/\(w.alloc (.cells #[a,b] t)).cell? ⟨w.heap.size,1,none⟩=some b:=by
 constructor<;>rw[Qaa (Qam w _)]<;>rfl
theorem QrS(tag:Int)(oct:Bool)(B sb:Nat)(M:Msg)(s:SS)(xs keys:List (L8))(wv xv kv:Value)(w:World)(hw:WayV w tag oct wv)
 (h:SAt w B sb M s) (aX:SlT w xv xs) (aS:SlT w kv keys) (ay:∀ z∈xs,z.length<=100000) (bj:∀ z∈keys,z.length<=100000) (aY:xs.length<=1000000) (a3:keys.length<=1000000) :
 Calls Tryz.prog 129 #[.pointer (some ⟨sb,0,none⟩),wv,xv,kv] w (Qg5 (askL s tag oct (fieldsL M (xs.map (expL s))) keys) B sb M w):=by
 have HS:=Qab h;have HW:=Qab hw;have a7:=Qab aS;obtain⟨hv,mb,tv,mv,af⟩:=h;have aQ:=af.lt;obtain⟨ha,hc,a6⟩:=af.hd.len;subst a6;have a4:=Qab af.hd;have c3:w.cell? ⟨sb,3,none⟩=some (.slice ha M.hdrs.length hc):=af.cell 3;have aW:=Qab af.bd;have bb:=af.bd.hl;obtain⟨i0,hi,bo,bm,bk⟩:=info_parts Tryz.infoStr;clear hw aS af;go_enter func129,ntmps129;go_wp2_with fail;refine(QeH B sb M s xs _ w HS.o aX (fun z hz=>Nat.le_trans (ay z hz) (by decide)) aY).mono ?_;rintro e w1 ⟨v1,rfl,aJ,ao⟩;have HT:=Qab (SlT.of_owns aJ (by simp));have a2:=Qab ao;obtain⟨ta,tc,bl⟩:=Qat aJ;subst bl;have aO:∀ y∈xs.map (expL s),y.length<=100000:=Qgd s xs _ ay (by decide);have au:xs.length=(xs.map (expL s)).length:=by simp
 obtain⟨ns,aw⟩:∃ ns,xs.map (expL s)=ns:=⟨_,rfl⟩;have a9:=Qab aw;have aZ:=Qab aO;rw[aw]at HT aZ au;rw[au]at aY HT;rw[au];have ba:w1.cell? ⟨sb,3,none⟩=some (.slice ha M.hdrs.length hc):=(ao.cell (p:=⟨sb,3,none⟩) aQ).trans c3;have ax:sb<w1.heap.size:=Nat.lt_of_lt_of_le aQ ao.size;clear aJ aO au ao aX ay aw c3;go_wp2_with fail
 go_loopw [9,11,13,18] (fun v _ _ i wr=>∃(a:Nat),a<=ns.length/\i=.int .i64 (a:Int)/\wr.ownsRow w1.heap.size 9 1 v (fieldsL M (ns.take a)).length (QaD (fieldsL M (ns.take a)))/\Below w.heap.size w wr/\Below w1.heap.size w1 wr) (fun _ _ _ i _=>ns.length - (intOf i).toNat)
 case atStart=>exact⟨0,Nat.zero_le _,rfl,World.ownsRow_nil _ _ _ _,a2.o,Below.refl _ _⟩
 case round=>
  obtain⟨a,hale,rfl,ae,hB,aM⟩:=hrel;have hwr:w.heap.size<=wr.heap.size:=hB.size;have aP:=Qo8 M (ns.take a)
  have aL:(fieldsL M (ns.take a)).length<=a*100000:=by
   have h1:(ns.take a).length<=a:=List.length_take_le _ _;exact Nat.le_trans aP (Nat.mul_le_mul h1 bb)
  obtain⟨va2,vc2,aC⟩:=Qat ae;subst aC;have HB:=Qab hB;have aU:=Qab aM;have aE:=Qab ae;have d3:wr.cell? ⟨sb,3,none⟩=some (.slice ha M.hdrs.length hc):=(aM.cell (p:=⟨sb,3,none⟩) ax).trans ba;clear hB aM ae aP;by_cases hlt:a<ns.length;rotate_left
  ·have aH:a=ns.length:=by omega
   subst aH;have bh:¬(ns.length:Int)<(ns.length:Int):=by omega
   have HE:Hid (fieldsL M (ns.take ns.length)=fieldsL M ns):=by show _=_;rw[List.take_of_length_le (Nat.le_refl _)]
   have aG:(fieldsL M (ns.take ns.length)).length<=1000000000000:=by omega
   go_wp2_with fail;refine(QfG tag oct B sb M s (fieldsL M ns) keys wv _ kv wr (HW.o.below HB.o) (HS.o.below HB.o) (SlT.of_owns (by have:=aE.o;rw[HE.o]at this;exact this) rfl) (a7.o.below HB.o) (QnW aW.o ns) bj (by rw[<-HE.o];exact aG) a3).mono ?_;rintro e w2 ⟨rfl,aR,aT⟩;have H2:=Qab aR;have bn:=Qab aT;clear aR aT;go_wp2;go_ret;rw[a9.o];exact⟨rfl,H2.o,(Fr.of_below HB.o).trans bn.o⟩
  have bh:(a:Int)<(ns.length:Int):=by omega
  obtain⟨g,bp,bf,a1⟩:=HT.o.get' a hlt;subst bp;have e1:wr.cell? ⟨g,a,none⟩=some (.string (sA ns[a])):=by rw[aU.o.cell (p:=⟨g,a,none⟩) bf];exact a1
  have bc:=aZ.o _ (List.getElem_mem hlt);have HN:Hid (fieldsL M (ns.take (a+1))=fieldsL M (ns.take a)++(M.hdrs.filter (QbX · ns[a])).map (·.2)):=Qhg _ ns a hlt;obtain⟨n,hn⟩:∃ n,ns[a]=n:=⟨_,rfl⟩;rw[hn]at e1 bc HN;obtain⟨T,hT⟩:∃ T,fieldsL M (ns.take a)=T:=⟨_,rfl⟩;rw[hT]at HN aE aL;clear a1 hn;rw[hT];clear hT;go_wp2_with fail
  go_loopw [9,13,28] (fun v _ i wr=>∃(b:Nat),b<=M.hdrs.length/\i=.int .i64 (b:Int)/\wr.ownsRow w1.heap.size 9 1 v (T++((M.hdrs.take b).filter (QbX · n)).map (·.2)).length (QaD (T++((M.hdrs.take b).filter (QbX · n)).map (·.2)))/\Below w.heap.size w wr/\Below w1.heap.size w1 wr) (fun _ _ i _=>M.hdrs.length - (intOf i).toNat)
  case atStart=>exact⟨0,Nat.zero_le _,rfl,by simpa using aE.o,HB.o,aU.o⟩
  case round=>
   obtain⟨b,hb,rfl,ab,az,ak⟩:=hrel;have ai:w.heap.size<=wr.heap.size:=az.size
   have aB:(T++((M.hdrs.take b).filter (QbX · n)).map (·.2)).length<=a*100000+100000:=by
    rw[List.length_append,List.length_map];have h1:=List.length_filter_le (QbX · n) (M.hdrs.take b);have h2:(M.hdrs.take b).length<=b:=List.length_take_le _ _;omega
   obtain⟨Q,hQ⟩:∃ Q,T++((M.hdrs.take b).filter (QbX · n)).map (·.2)=Q:=⟨_,rfl⟩;have aI:=Qab hQ;rw[hQ]at ab aB;clear hQ;obtain⟨va3,vc3,aD⟩:=Qat ab;subst aD;have ag:=Qab az;have aa:=Qab ak;have aA:=Qab ab;clear az ak ab;by_cases hbl:b<M.hdrs.length;rotate_left
   ·have aH:b=M.hdrs.length:=by omega
    subst aH;have bg:¬(M.hdrs.length:Int)<(M.hdrs.length:Int):=by omega
    go_wp2;refine⟨⟨a+1,by omega,by go_num,?_,ag.o,aa.o⟩,by simp[intOf];omega⟩;have:=aI.o;rw[List.take_of_length_le (Nat.le_refl _)]at this;rw[HN.o,this];exact aA.o
   have bg:(b:Int)<(M.hdrs.length:Int):=by omega
   obtain⟨g2,aF,ah,a0,aV⟩:=a4.o.get' b hbl;subst aF;have f1:wr.cell? ⟨g2,b*2,none⟩=some (.string (sA M.hdrs[b].1)):=by rw[ag.o.cell (p:=⟨g2,b*2,none⟩) ah];exact a0
   have f2:wr.cell? ⟨g2,b*2+1,none⟩=some (.string (sA M.hdrs[b].2)):=by rw[ag.o.cell (p:=⟨g2,b*2+1,none⟩) ah];exact aV
   have bi:=(aW.o.hd _ (List.getElem_mem hbl)).1;have HF:=Qab (Qn0 (QbX · n) M.hdrs b hbl);generalize M.hdrs[b]=hd at *;obtain⟨ar,aq⟩:=hd;dsimp only at f1 f2 bi HF;have HC:=Qab (Ql5 (ar,aq) n);clear a0 aV;cases hnm:QbX (ar,aq) n
   ·rw[hnm]at HF HC;go_wp2_with (first|(go_at_call 185;refine(HC.o _ (by show ar.length<=_;omega) (by omega)).mono ?_;rintro e w3 ⟨rfl,ad⟩;have ap:=Qab ((ag.o.alloc ai _).trans (ad.mono (by simp;omega)));have ac:=Qab ((aa.o.alloc aa.o.size _).trans (ad.mono (by have:=aa.o.size;simp;omega)));have aj:=Qab (QaR (P:=fun _ _=>False) (aA.o.alloc _) (Fr.of_below ad) (fun _ _ h=>h));clear ad));refine⟨⟨b+1,by omega,by go_num,?_,ap.o,ac.o⟩,by simp[intOf];omega⟩;rw[HF.o,if_neg (by decide),List.append_nil,aI.o];exact aj.o
   ·rw[hnm]at HF HC;have HQ:Hid (∀ l:List (L8),l.length<=a*100000+100000->l.length+1<=maxLen/\(l.length+1)*16<=140737488355328):=fun l hl=>by unfold maxLen;omega
    go_wp2_with (first|(go_at_call 185;refine(HC.o _ (by show ar.length<=_;omega) (by omega)).mono ?_;rintro e w3 ⟨rfl,ad⟩;have ap:=Qab ((ag.o.alloc ai _).trans (ad.mono (by simp;omega)));have ac:=Qab ((aa.o.alloc aa.o.size _).trans (ad.mono (by have:=aa.o.size;simp;omega)));have aj:=Qab (QaR (P:=fun _ _=>False) (aA.o.alloc _) (Fr.of_below ad) (fun _ _ h=>h));have q1:w3.cell? ⟨wr.heap.size,1,none⟩=some (.string (sA aq)):=(ad.cell (p:=⟨wr.heap.size,1,none⟩) (by simp)).trans (Qi5 _ _ _ _).2;clear ad)|(at_builtin;refine wpList_append_own _ rfl _ _ 89 rfl w1.heap.size 9 i0 _ 1 16 underlying89 hi bo bm bk rfl (by decide) _ _ _ rfl (aj.o.alloc _) ⟨w3.heap.size,0,none⟩ 1 1 [.string (sA aq)] rfl rfl (cell_one_new _ _ _) (QnM _) (HQ.o _ aB).1 (HQ.o _ aB).2 (by have:=ac.o.size;simp;omega) ?_;intro v5 w5 aN aK _;have a5:=Qab (Qbs ap.o ap.o.size aK (fun k hk=>Nat.le_trans a2.o.size (aj.o.lt k hk).1));have av:=Qab (Qbs ac.o ac.o.size aK (fun k hk=>(aj.o.lt k hk).1));have a8:=Qab aN;clear aN aK));refine⟨⟨b+1,by omega,by go_num,?_,a5.o,av.o⟩,by simp[intOf];omega⟩;rw[HF.o,if_pos trivial,<-List.append_assoc,aI.o,<-Qb4,List.length_append];exact a8.o
end
section
open Go.RowKit
theorem QwV(s:ByteArray)(h:0<s.size):s.data.toList.getLast?=some (s[s.size - 1]'(by omega)):=by
 rw[List.getLast?_eq_getElem?];have:s.data.toList.length=s.size:=by simp
 rw[this,List.getElem?_eq_getElem (by omega)];rfl
theorem Qgh(s:ByteArray)(w:World)(hs:s.size<=1000000) :
 Calls Tryz.prog 248 #[.string s] w fun e w'=>e=.returned (.bool (QbN s.data.toList))/\w'=w:=by
 have aa:s.data.toList.length=s.size:=by simp
 by_cases h3:s.size<3
 ·have hr:QbN s.data.toList=false:=by unfold QbN;rw[decide_eq_false (by omega)];rfl
  have HR:=Qab hr;have ad:(s.size:Int)<3:=by omega
  clear hr aa;go_enter func248,ntmps248;go_wp2;go_ret;exact⟨QaF HR.o.symm,rfl⟩
 have ad:¬(s.size:Int)<3:=by omega
 by_cases h32:32<s.size
 ·have hr:QbN s.data.toList=false:=by unfold QbN;rw[decide_eq_true (by omega),decide_eq_false (by omega)];rfl
  have HR:=Qab hr;have ac:(32:Int)<(s.size:Int):=by omega
  clear hr aa;go_enter func248,ntmps248;go_wp2;go_ret;exact⟨QaF HR.o.symm,rfl⟩
 have ac:¬(32:Int)<(s.size:Int):=by omega
 have HC:Hid (∀ W,Calls Tryz.prog 271 #[.string s,.string ⟨#[64]⟩] W fun e w'=>e=.returned (.int .i64 (Lib.countByte s.data.toList 64))/\w'=W):=fun W=>Tryz.strings_Count_one s 64 W
 obtain⟨n,hn⟩:∃ n,s.data.toList.count 64=n:=⟨_,rfl⟩;rw[show Lib.countByte s.data.toList 64=n from hn]at HC;by_cases h1:n=1;rotate_left
 ·have hr:QbN s.data.toList=false:=by unfold QbN;rw[decide_eq_true (by omega),decide_eq_true (by omega),hn,decide_eq_false h1];rfl
  have HR:=Qab hr;have h1':((n:Int) != 1)=true:=by simp;omega
  clear hr aa hn;go_enter func248,ntmps248;go_wp2_with (go_at_call 271;refine(HC.o _).mono ?_;rintro e w' ⟨rfl,rfl⟩);go_ret;exact⟨QaF HR.o.symm,rfl⟩
 subst h1;have ab:0<s.size:=by omega
 have hr:QbN s.data.toList=((s.data.toList.drop 0).all (fun c=>!QbH c.toNat)&&(!(s[0]==64) && !(s[s.size - 1]==64))):=by
  unfold QbN;rw[decide_eq_true (by omega),decide_eq_true (by omega),hn,Qpn s ab,QwV s ab];rfl
 have HR:=Qab hr;clear hr hn;go_enter func248,ntmps248;go_wp2_with (go_at_call 271;refine(HC.o _).mono ?_;rintro e w' ⟨rfl,rfl⟩)
 go_loop [19] (fun i=>∃ k:Nat,k<=s.size/\i=.int .i64 k/\(s.data.toList.drop 0).all (fun c=>!QbH c.toNat)=(s.data.toList.drop k).all (fun c=>!QbH c.toNat)) (fun i=>s.size - (intOf i).toNat)
 case atStart=>exact⟨0,by omega,rfl,rfl⟩
 case round=>
  obtain⟨k,hk,rfl,hn⟩:=hrel;have HN:=Qab hn;clear hn;by_cases hlt:k<s.size;rotate_left
  ·have HS:=Qab (Qoz s (fun c=>!QbH c.toNat) k (by omega));have e0:((s[0].toNat:Int) != 64)=!(s[0]==64):=by rw[bne,show((s[0].toNat:Int)==64)=decide (s[0]=64)from QeU s[0] 64];by_cases h:s[0]=64<;>simp[h]
   have e1:((s[s.size - 1].toNat:Int) != 64)=!(s[s.size - 1]==64):=by rw[bne,show((s[s.size - 1].toNat:Int)==64)=decide (s[s.size - 1]=64)from QeU _ 64];by_cases h:s[s.size - 1]=64<;>simp[h]
   have hk':¬(k:Int)<(s.size:Int):=by omega
   generalize (s[0]==64)=b0 at *;generalize (s[s.size - 1]==64)=b1 at *;have hm1:(s.size:Int) - 1=((s.size - 1:Nat):Int):=by omega
   have hm2:((s.size - 1:Nat):Int)<(s.size:Int):=by omega
   cases b0<;>cases b1 <;>
   (go_wp2
    go_ret
    exact ⟨QaF (by rw [HR.o,HN.o,HS.o];rfl),rfl⟩)
  have HS:=Qab (Qt1 s (fun c=>!QbH c.toNat) k hlt);cases hc:QbH (s[k].toNat:Int)
  ·go_wp2_with (go_at_call 214;refine(Qcv _ _).mono ?_;rintro e w' ⟨rfl,rfl⟩);go_round
   case rel=>exact⟨k+1,by omega,by go_num,by rw[HN.o,HS.o,hc];rfl⟩
   case measure=>simp[intOf];omega
  ·go_wp2_with (go_at_call 214;refine(Qcv _ _).mono ?_;rintro e w' ⟨rfl,rfl⟩);go_ret;exact⟨QaF (by rw[HR.o,HN.o,HS.o,hc];rfl),rfl⟩
end
section
open Go.RowKit
attribute [local go_sem ↓] Go.wp_at_zero Go.wp_at_succ
theorem Tryz.infoAction:(Tryz.prog.info? 34).map (fun i=>(i.zero,i.size,i.bytes))=some (some (.agg #[.int .i64 0,.string ⟨#[]⟩]),2,24):=by kernel_rfl
theorem Qwp(a b:Int×L8)(W:World):(binOp .eql 34 (.agg #[.int .i64 a.1,.string (sA a.2)]) (.agg #[.int .i64 b.1,.string (sA b.2)])).run Tryz.prog W=.ok (.bool (decide (a=b))) W:=by
 have e1:((sA a.2).toList==(sA b.2).toList)=decide (a.2=b.2):=Qqk a.2 b.2;have hf:Tryz.prog.underlying 34=some (.struct (Tryz.prog.fieldsOf 34)):=by kernel_rfl
 have hs:Tryz.prog.stoodInHeld 34=false:=by kernel_rfl
 have hl:(Tryz.prog.fieldsOf 34).toList=[⟨ "Kind",3,0,false, "", "",0⟩,⟨ "Arg",9,1,false, "", "",8⟩]:=by kernel_rfl
 rw[run_eql_struct,run_equalIn_struct W _ _ _ _ hf hs,hl];simp[Op.eqFields,go_sem,Result.andThen,e1];obtain⟨x,y⟩:=a;obtain⟨z,u⟩:=b;by_cases h1:x=z<;>by_cases h2:y=u<;>simp[h1,h2]
def Qud (a:Int×L8) (l:List (Int×L8)):Bool:=l.any fun x=>decide (a=x)
theorem Qp8(a:Int×L8)(l:List (Int×L8)):Qud a l=true↔a∈l:=by
 unfold Qud;simp
theorem Qlv(a:Int×L8)(l:List (Int×L8))(k:Nat)(h:k<l.length):Qud a (l.drop k)=(decide (a=l[k]) || Qud a (l.drop (k+1))):=by
 rw[List.drop_eq_getElem_cons h];rfl
def geB (i:Int):Bool:=decide (0≤i)
theorem QmD(base:Nat)(met:List (Int×L8))(mv:Value)(a:Int×L8)(w:World)(ho:w.ownsRow base 34 2 mv met.length (Qbj met))(hl:met.length<=1000000) :
 Calls Tryz.prog 272 #[mv,.agg #[.int .i64 a.1,.string (sA a.2)]] w fun e w'=>∃ i:Int,e=.returned (.int .i64 i)/\geB i=Qud a met/\Below w.heap.size w w':=by
 obtain⟨la,lc,ae⟩:=Qat ho;subst ae;have HO:=Qab ho;have HE:=Qab Qwp;clear ho;go_enter func272,ntmps272;go_wp2
 go_loopw [5,8] (fun _ i wr=>∃(k:Nat),k<=met.length/\i=.int .i64 (k:Int)/\Below w.heap.size w wr/\wr.cell? ⟨w.heap.size,0,none⟩=some (.int .i64 a.1)/\wr.cell? ⟨w.heap.size,1,none⟩=some (.string (sA a.2))/\Qud a met=Qud a (met.drop k)) (fun _ i _=>met.length - (intOf i).toNat)
 case atStart=>exact⟨0,Nat.zero_le _,rfl,(Below.refl _ _).alloc (Nat.le_refl _) _,(Qi5 _ _ _ _).1,(Qi5 _ _ _ _).2,rfl⟩
 case round=>
  obtain⟨k,hk,rfl,hB,p0,p1,aa⟩:=hrel;have HB:=Qab hB;have HA:=Qab aa;have hwr:=hB.size;clear hB aa;by_cases hlt:k<met.length;rotate_left
  ·have af:¬(k:Int)<(met.length:Int):=by omega
   have HD:=Qab (Qd1 met k hlt);go_wp2;go_ret;exact⟨-1,rfl,by rw[HA.o,HD.o];rfl,HB.o⟩
  have af:(k:Int)<(met.length:Int):=by omega
  obtain⟨g,c,ag,hbg,ac,hcells⟩:=Qcq HO.o (by omega);injection ag with hla1 hla2 hla3
  subst hla1;have ab:=Qgv met k hlt;have c1:wr.cell? ⟨g,k*2,none⟩=some (.int .i64 met[k].1):=by rw[HB.o.cell (p:=⟨g,k*2,none⟩) ac];exact hcells _ _ ab.1
  have c2:wr.cell? ⟨g,k*2+1,none⟩=some (.string (sA met[k].2)):=by rw[HB.o.cell (p:=⟨g,k*2+1,none⟩) ac];exact hcells _ _ ab.2
  have HD:=Qab (Qlv a met k hlt);have ad:∀ W,(binOp .eql 34 (.agg #[.int .i64 a.1,.string (sA a.2)]) (.agg #[.int .i64 met[k].1,.string (sA met[k].2)])).run Tryz.prog W=.ok (.bool (decide (a=met[k]))) W:=Qwp a met[k];clear hcells ab hla3;cases hb:decide (a=met[k])
  ·rw[hb]at HD;simp only[hb]at ad;go_wp2_with fail;go_quiet (fail)
   all_goals go_wp2
   go_roundw
   case rel=>exact⟨k+1,by omega,by go_num,QbF HB.o,p0,p1,by rw[HA.o,HD.o];rfl⟩
   case measure=>simp[intOf];omega
  ·rw[hb]at HD;simp only[hb]at ad;go_wp2_with fail;go_quiet (fail)
   all_goals go_wp2
   go_ret;exact⟨k,rfl,by rw[HA.o,HD.o];exact(decide_eq_true (by omega):geB (k:Int)=true),QbF HB.o⟩
theorem QeL(base:Nat)(met:List (Int×L8))(mv:Value)(a:Int×L8)(w:World)(ho:w.ownsRow base 34 2 mv met.length (Qbj met))(hl:met.length<=1000000) :
 Calls Tryz.prog 249 #[mv,.agg #[.int .i64 a.1,.string (sA a.2)]] w fun e w'=>e=.returned (.bool (Qud a met))/\Below w.heap.size w w':=by
 obtain⟨la,lc,ab⟩:=Qat ho;subst ab;go_enter func249,ntmps249;go_wp2_with fail;refine(QmD base met _ a _ (ho.alloc _) hl).mono ?_;rintro e w1 ⟨i,rfl,hi,aa⟩;have HI:=Qab hi;have ac:=Qab (((Below.refl w.heap.size w).alloc (Nat.le_refl _) _).trans (aa.mono (by simp)));clear hi aa;go_wp2
 all_goals go_ret
 all_goals exact⟨QaF (by rw[<-HI.o];rfl),ac.o⟩
theorem Qr0(s:ByteArray)(w:World)(h:s.size<=1000000):Calls Tryz.prog 251 #[.string s] w fun e w'=>e=.returned (.string s)/\Below w.heap.size w w':=by
 go_enter func251,ntmps251;go_wp2_with fail;refine(Tryz.stringslite_Clone s w (by omega)).mono ?_;rintro e w1 ⟨rfl,aa⟩;have ab:=Qab aa;clear aa;go_wp2;go_ret;exact⟨rfl,ab.o⟩
def Qxu (met:List (Int×L8)) (kind:Int):Bool:=!met.isEmpty && (decide (kind=4) || decide ((met.headD (0,[])).1=4))
theorem QeT(a b:Int):(a==b)=decide (a=b):=rfl
theorem Qk0(base sb:Nat)(met:List (Int×L8))(mv:Value)(a:Int×L8)(w:World)(hc:w.cell? ⟨sb,7,none⟩=some mv)(ho:w.ownsRow base 34 2 mv met.length (Qbj met))(hl:met.length<=1000000) :
 Calls Tryz.prog 250 #[.pointer (some ⟨sb,7,none⟩),.agg #[.int .i64 a.1,.string (sA a.2)]] w fun e w'=>e=.returned (.bool (Qxu met a.1))/\Below w.heap.size w w':=by
 obtain⟨la,lc,ab⟩:=Qat ho;subst ab;have ad:=Qau hc;have hsl':sb<w.heap.size:=ad;by_cases h0:met.length=0
 ·have hm:met=[]:=List.eq_nil_of_length_eq_zero h0;subst hm;go_enter func250,ntmps250;go_wp2;go_ret;exact⟨rfl,(Below.refl _ _).alloc (Nat.le_refl _) _⟩
 obtain⟨x,r,rfl⟩:∃ x r,met=x::r:=by cases met with|nil=>exact absurd rfl h0|cons x r=>exact⟨x,r,rfl⟩
 have aa:(0:Int)<((x::r).length:Int):=by simp
 obtain⟨g,c,ac,hbg,hgl,hcells⟩:=Qcq ho (by simp);injection ac with hla1 hla2 hla3
 subst hla1;have c1:w.cell? ⟨g,0,none⟩=some (.int .i64 x.1):=hcells 0 _ rfl;have HR:Hid (Qxu (x::r) a.1=(decide (a.1=4) || decide (x.1=4))):=rfl;have e1:=QeT a.1 4;have e2:=QeT x.1 4;obtain⟨n,hn⟩:∃ n,(x::r).length=n:=⟨_,rfl⟩;rw[hn]at hc aa hl;generalize decide (a.1=4)=b1 at *;generalize decide (x.1=4)=b2 at *;clear hcells ho hla3 hn h0
 cases b1<;>cases b2 <;>
 (go_enter func250,ntmps250
  go_wp2;go_ret
  exact ⟨QaF (by rw [HR.o];rfl),(Below.refl _ _).alloc (Nat.le_refl _) _⟩)
theorem SBd.met'{M:Msg}{s:SS}(b:SBd M s)(l:List (Int×L8))(h:l.length<=6):SBd M (Qxt s l):=⟨b.fr,b.tu,b.hl,b.hd,b.told,b.tl,b.vals,h⟩
theorem SI.regrow{w w5:World}{B sb:Nat}{M:Msg}{s:SS}{hv:Value}{mb:Nat}{tv mv:Value}(h:SI w B sb M s hv mb tv mv)(hf:Fr (fun k _=>mv.ownBlock=some k) w w5)(v':Value)(aa:List (Int×L8))(ho:w5.ownsRow B 34 2 v' aa.length (Qbj aa))(hm:aa.length<=6)(ai:aa≠[]):SI (w5.setCell ⟨sb,7,none⟩ v') B sb M (Qxt s aa) hv mb tv v'/\Fr (PSt B) w (w5.setCell ⟨sb,7,none⟩ v'):=by
 have ae:∀(k:Nat) (o:Obj),w.heap[k]?=some o->(∀ cs,o≠.cells cs 34)->w5.heap[k]?=some o:=fun k o hk ho=>by
  refine hf.block k o hk (fun e=>?_);obtain⟨_,cs,af⟩:=Qbb h.met k o e hk;exact ho cs af
 have ac:=ae sb _ h.blk (fun cs e=>by injection e with e1 e2;exact absurd e2 (by decide));have ag:Fr (fun k _=>k=sb) w5 (w5.setCell ⟨sb,7,none⟩ v'):=(Fr.refl _ w5).set ac rfl 7 v';have ad:∀(k:Nat) (o:Obj),w5.heap[k]?=some o->(∀ cs,o≠.cells cs 227)->(w5.setCell ⟨sb,7,none⟩ v').heap[k]?=some o:=fun k o hk ho=>ag.block k o hk (fun e=>by subst e;rw[ac]at hk;cases hk;exact ho _ rfl)
 obtain⟨es,c,ak,hu⟩:=h.mp;obtain⟨m,h7⟩:=h.m1;have hl1:∃ o,w.heap[1]?=some o:=⟨_,Array.getElem?_eq_getElem (Qau h7)⟩;obtain⟨o1,hl1⟩:=hl1;refine⟨⟨h.bs,h.bm,h.b1,⟨m,?_⟩,?_,?_,⟨es,c,ad _ _ (ae _ _ ak (fun cs e=>by cases e)) (fun cs e=>by cases e),hu⟩,?_,?_,fun e=>absurd e ai,h.bd.met' aa hm⟩,?_⟩
 ·have n1:(1:Nat)≠sb:=by have:=h.b1;have:=h.bs;omega
  have n2:w5.heap[1]?=some o1:=hf.block 1 o1 hl1 (fun e=>by
   obtain⟨hb,_⟩:=Qbb h.met 1 o1 e hl1
   have:=h.b1;omega)
  rw[World.cell?_of_block (a:=⟨1,0,none⟩) (w:=w) ((Below.heap_setCell _ _ _ _ n1).trans (n2.trans hl1.symm))];exact h7
 ·exact Qag _ _ _ _ _ _ ac
 ·rcases h.hd with h' | ⟨g,c,cs,ab,hb,hc⟩
  ·exact Or.inl h'
  ·exact Or.inr ⟨g,c,cs,ab,ad _ _ (ae _ _ hb (fun cs e=>by injection e with e1 e2;exact absurd e2 (by decide))) (fun cs e=>by injection e with e1 e2;exact absurd e2 (by decide)),hc⟩
 ·rcases h.told with h' | ⟨g,c,ab,cs,hb,hc⟩
  ·exact Or.inl h'
  ·exact Or.inr ⟨g,c,ab,cs,ad _ _ (ae _ _ hb (fun cs e=>by injection e with e1 e2;exact absurd e2 (by decide))) (fun cs e=>by injection e with e1 e2;exact absurd e2 (by decide)),hc⟩
 ·obtain⟨h1,h2⟩:=ho;refine⟨h1,?_⟩;rcases h2 with h2 | ⟨g,ah,aj,ab,hg,hh,r⟩
  ·exact Or.inl h2
  ·exact Or.inr ⟨g,ah,aj,ab,hg,ad _ _ hh (fun cs e=>by injection e with e1 e2;exact absurd e2 (by decide)),r⟩
 ·refine(Fr.mono ⟨hf.os,hf.tape,hf.output,hf.size,fun k o hk hn=>?_⟩ (fun k o h=>h)).set ac ⟨h.bs,rfl⟩ 7 v'
  exact hf.block k o hk (fun e=>hn (by
   obtain⟨hb,cs,af⟩:=Qbb h.met k o e hk;subst af
   exact ⟨hb,rfl⟩))
theorem QbU{w:World}{base:Nat}{e:TypeId}{size:Nat}{v:Value}{n:Nat}{xs:List Value}(h:w.ownsRow base e size v n xs){b:Nat}(ab:v.ownBlock≠some b)(j:Nat)(x:Value):(w.setCell ⟨b,j,none⟩ x).ownsRow base e size v n xs:=by
 obtain⟨h1,h2⟩:=h;refine⟨h1,?_⟩;rcases h2 with h2 | ⟨g,aa,ac,hv,hg,hh,r⟩
 ·exact Or.inl h2
 ·refine Or.inr ⟨g,aa,ac,hv,hg,?_,r⟩;rw[Below.heap_setCell _ _ _ _ (show g≠b from fun e=>ab (by rw[hv,e];rfl))];exact hh
def Qe4 (s:SS) (kind:Int) (arg:L8) (B sb:Nat) (M:Msg) (w:World) (e:Ending) (w':World):Prop:=
 e=.returned (.int .i64 (addL s.met kind arg).1)∧SAt w' B sb M (Qxt s (addL s.met kind arg).2)∧Fr (PSt B) w w'
theorem Qtl{met:List (Int×L8)}{kind:Int}{arg:L8}(h2:¬(kind=2/\Qbp arg=false))(h3:¬(kind=3/\QbN arg=false)):addL met kind arg =
 (if Qud (kind,cutArg kind arg) met=true then(0,met)else if Qxu met kind=true then(10,met)else if met.length=6 then(11,met)else(0,met++[(kind,cutArg kind arg)])):=by
 unfold addL;rw[if_neg h2,if_neg h3];by_cases hm:(kind,cutArg kind arg)∈met
 ·rw[if_pos hm,if_pos ((Qp8 _ _).2 hm)]
 rw[if_neg hm,if_neg (fun h=>hm ((Qp8 _ _).1 h))]
 have hc:Qxu met kind=true↔(met≠[]/\(kind=4\/(met.headD (0,[])).1=4)):=by
  unfold Qxu;cases met<;>simp
 by_cases hcc:met≠[]/\(kind=4\/(met.headD (0,[])).1=4)
 ·rw[if_pos hcc,if_pos (hc.2 hcc)]
 ·rw[if_neg hcc,if_neg (fun h=>hcc (hc.1 h))]
theorem Qxa(w:World)(x:Int×L8)(t:TypeId):∀ j u,[Value.int .i64 x.1,.string (sA x.2)][j]?=some u->(w.alloc (.cells #[.int .i64 x.1,.string (sA x.2)] t)).cell? ((⟨w.heap.size,0,none⟩:Addr).add j)=some u:=by
 intro j u hj
 match j,hj with
 |0,hj=>simp at hj;subst hj;simp[Addr.add]
 |1,hj=>simp at hj;subst hj;simp[Addr.add]
theorem Qw5(x:Int×L8):∀ u∈[Value.int .i64 x.1,Value.string (sA x.2)],u.oneCell'=true:=by
 intro u hu;simp at hu;rcases hu with rfl|rfl<;>rfl
theorem Qwr(B sb:Nat)(M:Msg)(s:SS)(kind:Int)(arg:L8)(w:World)(h:SAt w B sb M s)(hl:arg.length<=1000000) :
 Calls Tryz.prog 229 #[.pointer (some ⟨sb,7,none⟩),.agg #[.int .i64 kind,.string (sA arg)]] w (Qe4 s kind arg B sb M w):=by
 have HS:=Qab h;obtain⟨hv,mb,tv,mv,ag⟩:=h;have aD:=Qab ag;have aV:=ag.lt;have c7:w.cell? ⟨sb,7,none⟩=some mv:=ag.cell 7;obtain⟨la,lc,aS⟩:=Qat ag.met;subst aS;have hm6:=ag.bd.met;have hz:=Qal arg;have aB:=QeT kind 2;have az:=QeT kind 3;have ay:=QeT kind 4;obtain⟨i0,hi,a4,a3,aY⟩:=info_parts Tryz.infoAction;clear ag;by_cases h2:kind=2/\Qbp arg=false
 ·obtain⟨rfl,hb⟩:=h2;have hr:addL s.met 2 arg=(8,s.met):=by unfold addL;rw[if_pos ⟨rfl,hb⟩]
  have HR:=Qab hr;clear hr;go_enter func229,ntmps229;go_wp2_with (go_at_call 144;refine(Qh2 _ _ (by rw[Qal];omega)).mono ?_;rintro e w' ⟨rfl,rfl⟩;rw[show Qbp (sA arg).data.toList=false from hb]);go_ret;unfold Qe4;rw[HR.o];exact⟨rfl,HS.o.below ((Below.refl _ _).alloc (Nat.le_refl _) _),(Fr.refl _ _).alloc _⟩
 by_cases h3:kind=3/\QbN arg=false
 ·obtain⟨rfl,hb⟩:=h3;have hr:addL s.met 3 arg=(9,s.met):=by unfold addL;rw[if_neg h2,if_pos ⟨rfl,hb⟩]
  have HR:=Qab hr;clear hr;go_enter func229,ntmps229;go_wp2_with (go_at_call 248;refine(Qgh _ _ (by rw[Qal];omega)).mono ?_;rintro e w' ⟨rfl,rfl⟩;rw[show QbN (sA arg).data.toList=false from hb]);go_ret;unfold Qe4;rw[HR.o];exact⟨rfl,HS.o.below ((Below.refl _ _).alloc (Nat.le_refl _) _),(Fr.refl _ _).alloc _⟩
 have ad:=Qtl (met:=s.met) (kind:=kind) (arg:=arg) h2 h3;obtain⟨z,ax⟩:∃ z,cutArg kind arg=z:=⟨_,rfl⟩;rw[ax]at ad;have HZ:=Qab ax
 have hzl:z.length<=1000000:=by
  rw[<-ax];unfold cutArg;split
  ·rw[List.length_take];omega
  ·exact hl
 have aa:=Qab ad;clear ad;have aR:kind=2->Qbp arg=true:=fun e=>by cases hb:Qbp arg with|true=>rfl|false=>exact absurd ⟨e,hb⟩ h2
 have aO:kind=3->QbN arg=true:=fun e=>by cases hb:QbN arg with|true=>rfl|false=>exact absurd ⟨e,hb⟩ h3
 have a5:=Qab aR;have aW:=Qab aO;clear h2 h3 aR aO ax;rcases(by omega:kind=2\/kind=3\/kind=4\/(kind≠2/\kind≠3/\kind≠4))with k2|k3|k4|k0
 case' neg.inl=>
  have hb:Qbp arg=true:=a5.o k2;have aj:z=arg:=by have:=HZ.o;unfold cutArg at this;rw[if_neg (by omega)]at this;exact this.symm
  subst aj;rw[decide_eq_true k2]at aB;rw[decide_eq_false (by omega)]at az ay;clear k2;go_enter func229,ntmps229;go_wp2_with (go_at_call 144;refine(Qh2 _ _ (by rw[Qal];omega)).mono ?_;rintro e w' ⟨rfl,aG⟩;rw[aG];rw[show Qbp (sA z).data.toList=true from hb])
 case' neg.inr.inl=>
  have hb:QbN arg=true:=aW.o k3;have aj:z=arg:=by have:=HZ.o;unfold cutArg at this;rw[if_neg (by omega)]at this;exact this.symm
  subst aj;rw[decide_eq_true k3]at az;rw[decide_eq_false (by omega)]at aB ay;clear k3;go_enter func229,ntmps229;go_wp2_with (go_at_call 248;refine(Qgh _ _ (by rw[Qal];omega)).mono ?_;rintro e w' ⟨rfl,aG⟩;rw[aG];rw[show QbN (sA z).data.toList=true from hb])
 case' neg.inr.inr.inl=>
  obtain⟨q,aN⟩:∃ q:Nat,q=min arg.length 48:=⟨_,rfl⟩;have hq:min (arg.length:Int) 48=(q:Int):=by omega
  have hq1:(q:Int)<=(arg.length:Int):=by omega
  have hex:(sA arg).extract 0 q=sA z:=by
   rw[QbA,<-HZ.o,aN];unfold cutArg;rw[if_pos k4];rcases Nat.le_total arg.length 48 with hh|hh
   ·rw[Nat.min_eq_left hh,List.take_of_length_le (Nat.le_refl _),List.take_of_length_le hh]
   ·rw[Nat.min_eq_right hh]
  rw[decide_eq_true k4]at ay;rw[decide_eq_false (by omega)]at aB az;clear aN k4;go_enter func229,ntmps229;go_wp2_with fail
 case' neg.inr.inr.inr=>
  have aj:z=arg:=by have:=HZ.o;unfold cutArg at this;rw[if_neg k0.2.2]at this;exact this.symm
  subst aj;rw[decide_eq_false k0.1]at aB;rw[decide_eq_false k0.2.1]at az;rw[decide_eq_false k0.2.2]at ay;clear k0;go_enter func229,ntmps229;go_wp2_with fail
 all_goals
  obtain⟨W,hW⟩:∃ W,W=w.alloc (.cells #[.int .i64 kind,.string (sA z)] 34):=⟨_,rfl⟩;have ah:Hid (Below w.heap.size w W):=by rw[hW];exact(Below.refl _ _).alloc (Nat.le_refl _) _
  have ao:W.heap[w.heap.size]?=some (.cells #[.int .i64 kind,.string (sA z)] 34):=by rw[hW];exact Qam _ _
  have a7:=Qab ao;rw[<-hW];clear hW;have d7:W.cell? ⟨sb,7,none⟩=some (.slice la s.met.length lc):=(ah.o.cell (p:=⟨sb,7,none⟩) aV).trans c7;have b0:W.cell? ⟨w.heap.size,0,none⟩=some (.int .i64 kind):=Qaa ao 0;have b1:W.cell? ⟨w.heap.size,1,none⟩=some (.string (sA z)):=Qaa ao 1;have aC:=Qar ao;have aQ:sb<W.heap.size:=by omega
  have aE:Hid (W.ownsRow B 34 2 (.slice la s.met.length lc) s.met.length (Qbj s.met)):=QaR (P:=fun _ _=>False) aD.o.met (Fr.of_below ah.o) (fun _ _ h=>h);clear ao;cases hmem:Qud (kind,z) s.met;rotate_left
  ·rw[hmem]at aa;go_region_held3 (fun w'=>w'.cell? ⟨sb,7,none⟩=some (.slice la s.met.length lc)/\w'.cell? ⟨w.heap.size,0,none⟩=some (.int .i64 kind)/\w'.cell? ⟨w.heap.size,1,none⟩=some (.string (sA z))) (first|go_keep|exact⟨q7,q0,q1⟩) (first|(go_at_call 249;refine(QeL B s.met _ (kind,z) W.drew aE.o (by omega)).mono ?_;rintro e w1 ⟨rfl,ak⟩;rw[hmem];have ab:=QaT ak;have q7:w1.cell? ⟨sb,7,none⟩=some (.slice la s.met.length lc):=(ab.cell (p:=⟨sb,7,none⟩) aQ).trans d7;have q0:w1.cell? ⟨w.heap.size,0,none⟩=some (.int .i64 kind):=(ab.cell (p:=⟨w.heap.size,0,none⟩) aC).trans b0;have q1:w1.cell? ⟨w.heap.size,1,none⟩=some (.string (sA z)):=(ab.cell (p:=⟨w.heap.size,1,none⟩) aC).trans b1;have au:=Qab (ah.o.trans (ab.mono ah.o.size));clear ak ab;skip))
   all_goals go_wp2
   all_goals go_ret
   all_goals unfold Qe4
   all_goals rw[aa.o]
   all_goals exact⟨rfl,HS.o.below au.o,Fr.of_below au.o⟩
  rw[hmem]at aa;go_region_held3 (fun w'=>w'.cell? ⟨sb,7,none⟩=some (.slice la s.met.length lc)/\w'.cell? ⟨w.heap.size,0,none⟩=some (.int .i64 kind)/\w'.cell? ⟨w.heap.size,1,none⟩=some (.string (sA z))) (first|go_keep|exact⟨q7,q0,q1⟩) (first|(go_at_call 249;refine(QeL B s.met _ (kind,z) W.drew aE.o (by omega)).mono ?_;rintro e w1 ⟨rfl,ak⟩;rw[hmem];have ab:=QaT ak;have q7:w1.cell? ⟨sb,7,none⟩=some (.slice la s.met.length lc):=(ab.cell (p:=⟨sb,7,none⟩) aQ).trans d7;have q0:w1.cell? ⟨w.heap.size,0,none⟩=some (.int .i64 kind):=(ab.cell (p:=⟨w.heap.size,0,none⟩) aC).trans b0;have q1:w1.cell? ⟨w.heap.size,1,none⟩=some (.string (sA z)):=(ab.cell (p:=⟨w.heap.size,1,none⟩) aC).trans b1;have au:=Qab (ah.o.trans (ab.mono ah.o.size));have aP:=Qab (QaR (P:=fun _ _=>False) aE.o (Fr.of_below ab) (fun _ _ h=>h));have aU:=Qab (Qai a7.o ab);clear ak ab;skip))
  all_goals go_wp2_with fail
  all_goals refine(Qk0 B sb s.met _ (kind,z) w1 q7 aP.o (by omega)).mono ?_
  all_goals rintro e w2 ⟨rfl,ab⟩
  all_goals have af:=Qab (au.o.trans (ab.mono au.o.size))
  all_goals have aX:=Qab (QaR (P:=fun _ _=>False) aP.o (Fr.of_below ab) (fun _ _ h=>h))
  all_goals have aI:=Qab (Qai aU.o ab)
  all_goals have r7:w2.cell? ⟨sb,7,none⟩=some (.slice la s.met.length lc):=(ab.cell (p:=⟨sb,7,none⟩) (Qau q7)).trans q7
  all_goals have r1:w2.cell? ⟨w.heap.size,1,none⟩=some (.string (sA z)):=Qaa aI.o 1
  all_goals clear ab q7 q0 q1
  all_goals dsimp only
  all_goals cases hcon:Qxu s.met kind
  rotate_left
  ·rw[hcon]at aa;go_wp2;go_ret;unfold Qe4;rw[aa.o];exact⟨rfl,HS.o.below af.o,Fr.of_below af.o⟩
  rw[hcon]at aa;by_cases h6:s.met.length=6
  ·rw[if_pos h6]at aa;have aT:((s.met.length:Int)==6)=true:=by rw[h6];rfl
   go_wp2;go_ret;unfold Qe4;rw[aa.o];exact⟨rfl,HS.o.below af.o,Fr.of_below af.o⟩
  rw[if_neg h6]at aa;have aT:((s.met.length:Int)==6)=false:=by simp;omega
  go_wp2_with fail;refine(Qr0 (sA z) w2 (by rw[Qal];omega)).mono ?_;rintro e w3 ⟨rfl,ap⟩;have aK:=Qab (af.o.trans (ap.mono af.o.size));have aH:=Qab (QaR (P:=fun _ _=>False) aX.o (Fr.of_below ap) (fun _ _ h=>h));have aq:=Qai aI.o ap;have s0:w3.cell? ⟨w.heap.size,0,none⟩=some (.int .i64 kind):=Qaa aq 0;have s1:w3.cell? ⟨w.heap.size,1,none⟩=some (.string (sA z)):=Qaa aq 1;have sf:=Qah aq;have s7:w3.cell? ⟨sb,7,none⟩=some (.slice la s.met.length lc):=(ap.cell (p:=⟨sb,7,none⟩) (Qau r7)).trans r7;have aJ:=Qab aq;have a6:¬ sb=w.heap.size:=by omega
  have hne':¬ w.heap.size=sb:=by omega
  clear ap aq r7 r1;go_wp2_with fail;obtain⟨V,hV⟩:∃ V,V=w3.setCell ⟨w.heap.size,1,none⟩ (.string (sA z)):=⟨_,rfl⟩;have aL:Hid (Below w.heap.size w V):=by rw[hV];exact aK.o.setCell (Nat.le_refl _) _
  have aA:V.heap[w.heap.size]?=some (.cells #[.int .i64 kind,.string (sA z)] 34):=by rw[hV];exact Qag _ _ _ _ _ _ aJ.o
  have a0:Hid (V.ownsRow B 34 2 (.slice la s.met.length lc) s.met.length (Qbj s.met)):=by
   rw[hV];exact QbU aH.o (fun e=>by have:=(aD.o.met.lt _ e).2;omega) _ _
  have v7:V.cell? ⟨sb,7,none⟩=some (.slice la s.met.length lc):=by rw[hV,World.cell?_of_block (a:=⟨sb,7,none⟩) (Below.heap_setCell _ _ _ _ a6)];exact s7
  have v0:V.cell? ⟨w.heap.size,0,none⟩=some (.int .i64 kind):=Qaa aA 0;have v1:V.cell? ⟨w.heap.size,1,none⟩=some (.string (sA z)):=Qaa aA 1;have aw:=Qab (aD.o.below aL.o);have hVl:=Qar aA;have aM:sb<V.heap.size:=by omega
  rw[<-hV];have HBs:=aw.o.bs
  have ai:¬(Value.slice la s.met.length lc).ownBlock=some sb:=fun e=>by
   obtain⟨_,cs,a2⟩:=Qbb aw.o.met sb _ e aw.o.blk;injection a2 with e1 e2
   exact absurd e2 (by decide)
  have av:=Qab ai;clear hV aA s7 s0 s1 sf ai aK aH aJ;have hBV:B<=V.heap.size:=by omega
  go_region_law (refine step_append_lies _ rfl (.tmp 52) (.tmp 54) 29 rfl B 34 i0 (.agg #[.int .i64 0,.string ⟨#[]⟩]) 2 24 underlying29 hi a4 a3 aY rfl (by decide) (.slice la s.met.length lc) s.met.length (Qbj s.met) (by simp[Act.eval,Act.put]) (a0.o.alloc _) ⟨V.heap.size,0,none⟩ 1 1 [.int .i64 kind,.string (sA z)] (by simp[Act.eval,Act.put]) rfl (Qxa _ (kind,z) _) (Qw5 (kind,z)) (by decide) (by unfold maxLen;omega) (by omega) (by simp;omega) _ rfl ?_;intro g' aF w5 ae ac hat hlt5;have a1:=Qab ae;have aZ:=Qab ac;have t7:w5.cell? ⟨sb,7,none⟩=some (.slice la s.met.length lc):=ac.cell (a:=⟨sb,7,none⟩) ((World.cell?_of_block (a:=⟨sb,7,none⟩) (w:=V) (Below.heap_alloc _ _ _ aM)).trans v7) (fun e=>av.o e.symm);have hft:∀ j,w5.frozen? ⟨sb,j,none⟩=false:=fun j=>(World.frozen?_of_block (a:=⟨sb,j,none⟩) (w:=V) ((ac.block sb (by simp;omega) (fun e=>av.o e.symm)).trans (Below.heap_alloc _ _ _ aM))).trans (aw.o.frozen j);clear ae ac;skip)
  all_goals go_wp2
  all_goals go_ret
  all_goals unfold Qe4
  all_goals rw[aa.o]
  all_goals have ar:=aw.o.regrow ((((Fr.refl _ V).alloc _).drew).grown aZ.o (fun k o e _=>e)) (.slice (some ⟨g',0,none⟩) (s.met.length+1) aF) (s.met++[(kind,z)]) (by rw[List.length_append,<-Qib];exact a1.o) (by rw[List.length_append];simp;omega) (by simp)
  all_goals exact⟨rfl,⟨_,_,_,_,ar.1⟩,(Fr.of_below aL.o).trans ar.2⟩
end
end Go.Proofs.YthkibedbcbgajaaGreatDoor
