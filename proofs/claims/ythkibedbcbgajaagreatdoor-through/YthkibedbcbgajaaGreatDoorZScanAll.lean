import Derived.WalkKit
import Derived.WalkSpells
import Derived.WalkLawsBesides
import Derived.BigQuiet
import Derived.Deep.QuietTactic
import Derived.OrdersHeld
import Derived.Lib.ConvBytes
import Derived.Lib.AtoiErrMem
import Derived.Test.YthkibedbcbgajaaGreatDoorZPlainMu
import Derived.Test.YthkibedbcbgajaaGreatDoorShelf
namespace Go.Proofs.YthkibedbcbgajaaGreatDoor
set_option linter.unusedVariables false
set_option linter.unusedSimpArgs false
set_option maxRecDepth 100000
set_option maxHeartbeats 4000000
open Go.Proofs.Tryz
section
open Go.RowKit
theorem Qab{p:Prop}(h:p):Hid p:=h
theorem _root_.Go.RowKit.Hid.o{p:Prop}(h:Go.RowKit.Hid p):p:=h
theorem Qbu(b j:Nat):(⟨b,0,none⟩:Addr).add j=⟨b,j,none⟩:=by
 unfold Addr.add;split
 ·subst_vars;rfl
 ·simp
theorem QaF{a b:Bool}(h:a=b):Ending.returned (.bool a)=.returned (.bool b):=by rw[h]
theorem Qb5{k:IntKind}{a b:Int}(h:a=b):Ending.returned (.int k a)=.returned (.int k b):=by rw[h]
theorem Qcv(c:Int)(w:World) :
 Calls Tryz.prog 214 #[.int .u8 c] w fun e w'=>e=.returned (.bool (QbH c))/\w'=w:=by
 go_enter func214,ntmps214;go_wp2
 all_goals (go_ret;exact⟨QaF (by simp[QbH, *]),rfl⟩)
theorem QaA(c:Int)(w:World) :
 Calls Tryz.prog 143 #[.int .u8 c] w fun e w'=>e=.returned (.bool (QaL c))/\w'=w:=by
 go_enter func143,ntmps143;go_wp2
 all_goals (go_ret;exact⟨QaF (by simp[QaL, *];try omega),rfl⟩)
theorem Qd6(c:Int)(w:World) :
 Calls Tryz.prog 194 #[.int .u8 c] w fun e w'=>e=.returned (.bool (Qet c))/\w'=w:=by
 go_enter func194,ntmps194;go_wp2
 all_goals (go_ret;exact⟨QaF (by simp[Qet, *];try omega),rfl⟩)
theorem QfC(c:Int)(w:World) :
 Calls Tryz.prog 193 #[.int .u8 c] w fun e w'=>e=.returned (.bool (Qia c))/\w'=w:=by
 go_enter func193,ntmps193;go_wp2
 all_goals (go_ret;exact⟨QaF (by simp[Qia, *];try omega),rfl⟩)
theorem Qaz(c:Int)(w:World) :
 Calls Tryz.prog 142 #[.int .u8 c] w fun e w'=>e=.returned (.bool (Qbt c))/\w'=w:=by
 go_enter func142,ntmps142
 cases hsm:Qia c<;>cases hca:Qet c <;>
 (go_wp2_with (first | (go_at_call 194;refine (Qd6 _ _).mono ?_;rintro e w' ⟨rfl,rfl⟩) | (go_at_call 193;refine (QfC _ _).mono ?_;rintro e w' ⟨rfl,rfl⟩))
  all_goals (go_ret;exact ⟨QaF (by rw [Qsx];simp [*]),rfl⟩))
theorem Qpb(s:ByteArray)(k:Nat)(h:k<s.size):s.data.toList.getD k 0=s[k]:=by
 rw[List.getD_eq_getElem?_getD,List.getElem?_eq_getElem (by simpa using h)];rfl
theorem Qts(s:ByteArray)(n:Int)(w:World)(hs:s.size<=maxLen)(h0:0<=n)(h:n<s.size) :
 Calls Tryz.prog 240 #[.string s,.int .i64 n] w fun e w'=>e=.returned (.int .u8 (s.data.toList.getD n.toNat 0).toNat)/\w'=w:=by
 unfold maxLen at hs;go_enter func240,ntmps240;go_wp2
 all_goals (go_ret;exact⟨Qb5 (by rw[Qpb s _ (by omega)]),rfl⟩)
theorem QqD(s:ByteArray)(n:Int)(w:World)(hs:s.size<=maxLen)(h:s.size<=n) :
 Calls Tryz.prog 240 #[.string s,.int .i64 n] w fun e w'=>e=.returned (.int .u8 (s.data.toList.getD n.toNat 0).toNat)/\w'=w:=by
 unfold maxLen at hs;go_enter func240,ntmps240;go_wp2
 all_goals (go_ret;exact⟨Qb5 (by rw[List.getD_eq_getElem?_getD,List.getElem?_eq_none (by simp;omega)];rfl),rfl⟩)
theorem QqZ(s:ByteArray)(n:Int)(w:World)(hs:s.size<=maxLen)(h0:0<=n) :
 Calls Tryz.prog 240 #[.string s,.int .i64 n] w fun e w'=>e=.returned (.int .u8 (s.data.toList.getD n.toNat 0).toNat)/\w'=w:=by
 by_cases h:n<s.size
 ·exact Qts s n w hs h0 h
 ·exact QqD s n w hs (by omega)
def byteOf (s:ByteArray) (n:Int):UInt8:=s.data.toList.getD n.toNat 0
theorem QgB(s:ByteArray)(n:Int)(w:World)(hs:s.size<=maxLen)(h0:0<=n) :
 Calls Tryz.prog 240 #[.string s,.int .i64 n] w fun e w'=>e=.returned (.int .u8 (byteOf s n).toNat)/\w'=w:=QqZ s n w hs h0
theorem Qbf(s:ByteArray)(k:Nat)(h:k<s.size):s.data.toList.drop k=s[k]::s.data.toList.drop (k+1):=by
 rw[List.drop_eq_getElem_cons (by simpa using h)];rfl
theorem Qc3{s:ByteArray}(h:s.size=0):s.toList=[]:=by
 rw[ByteArray.toList_eq];apply List.eq_nil_of_length_eq_zero;simpa using h
theorem Qbq{s:ByteArray}(h:¬ s.size=0):¬ s.toList=[]:=by
 rw[ByteArray.toList_eq];intro e;apply h;have:=congrArg List.length e;simpa using this
theorem QqS(s:ByteArray)(h:0<s.size)(hl:Qbt (s[0].toNat:Int)=true):Qa0 s.data.toList=1+QbJ (s.data.toList.drop 1):=by
 have e:=Qbf s 0 h;rw[List.drop_zero]at e;rw[e];simp only[Qa0];rw[if_pos hl];rfl
theorem Qph(s:ByteArray)(h:0<s.size)(hl:Qbt (s[0].toNat:Int)=false):Qa0 s.data.toList=0:=by
 have e:=Qbf s 0 h;rw[List.drop_zero]at e;rw[e];simp only[Qa0];rw[if_neg (by rw[hl];decide)]
theorem QlS(s:ByteArray)(k:Nat)(h:k<s.size):QbJ (s.data.toList.drop k)=if QbO s[k]then 1+QbJ (s.data.toList.drop (k+1))else 0:=by
 rw[Qbf s k h,Qf6]
theorem QnG(s:ByteArray)(k:Nat)(h:s.size<=k):QbJ (s.data.toList.drop k)=0:=by
 rw[List.drop_of_length_le (by simpa using h)];rfl
theorem QbE(s:ByteArray)(w:World)(hs:s.size<=maxLen) :
 Calls Tryz.prog 210 #[.string s] w fun e w'=>e=.returned (.int .i64 (Qa0 s.data.toList))/\w'=w:=by
 unfold maxLen at hs;by_cases h0:s.size=0
 ·have aa:=Qc3 h0;go_enter func210,ntmps210;go_wp2;go_ret;exact⟨Qb5 (by rw[<-ByteArray.toList_eq,aa];rfl),rfl⟩
 have aa:=Qbq h0;have h0'':s.toList.isEmpty=false:=by simpa using aa
 have h1:0<s.size:=by omega
 cases hl:Qbt (s[0].toNat:Int)
 ·have H:Hid (Qa0 s.data.toList=0):=Qph s h1 hl;go_enter func210,ntmps210;go_wp2_with (go_at_call 142;refine(Qaz _ _).mono ?_;rintro e w' ⟨rfl,rfl⟩);go_ret;exact⟨Qb5 (by rw[H.o];rfl),rfl⟩
 ·have H:Hid (Qa0 s.data.toList=1+QbJ (s.data.toList.drop 1)):=QqS s h1 hl;go_enter func210,ntmps210;go_wp2_with (go_at_call 142;refine(Qaz _ _).mono ?_;rintro e w' ⟨rfl,rfl⟩)
  go_loop [3] (fun i=>∃ k:Nat,k<=s.size/\i=.int .i64 k/\Qa0 s.data.toList=k+QbJ (s.data.toList.drop k)) (fun i=>s.size - (intOf i).toNat)
  case atStart=>exact⟨1,by omega,rfl,H.o⟩
  case round=>
   obtain⟨k,hk,rfl,hn⟩:=hrel;have HN:Hid (Qa0 s.data.toList=k+QbJ (s.data.toList.drop k)):=hn;clear hn hl;by_cases hlt:k<s.size
   ·have HS:Hid (QbJ (s.data.toList.drop k)=if QbO s[k]then 1+QbJ (s.data.toList.drop (k+1))else 0):=QlS s k hlt;cases hc:Qbt (s[k].toNat:Int)
    ·cases hd:QaL (s[k].toNat:Int)
     ·have HD:Hid (QbO s[k]=false):=by show QbO s[k]=false;simp[QbO,hc,hd]
      go_wp2_with (first|(go_at_call 142;refine(Qaz _ _).mono ?_;rintro e w' ⟨rfl,rfl⟩)|(go_at_call 143;refine(QaA _ _).mono ?_;rintro e w' ⟨rfl,rfl⟩));go_ret;exact⟨Qb5 (by rw[HN.o,HS.o,HD.o];simp),rfl⟩
     ·have HD:Hid (QbO s[k]=true):=by show QbO s[k]=true;simp[QbO,hd]
      go_wp2_with (first|(go_at_call 142;refine(Qaz _ _).mono ?_;rintro e w' ⟨rfl,rfl⟩)|(go_at_call 143;refine(QaA _ _).mono ?_;rintro e w' ⟨rfl,rfl⟩));go_round
      case rel=>exact⟨k+1,by omega,by go_num,by rw[HN.o,HS.o,HD.o];simp;omega⟩
      case measure=>simp[intOf];omega
    ·have HD:Hid (QbO s[k]=true):=by show QbO s[k]=true;simp[QbO,hc]
     go_wp2_with (first|(go_at_call 142;refine(Qaz _ _).mono ?_;rintro e w' ⟨rfl,rfl⟩)|(go_at_call 143;refine(QaA _ _).mono ?_;rintro e w' ⟨rfl,rfl⟩));go_round
     case rel=>exact⟨k+1,by omega,by go_num,by rw[HN.o,HS.o,HD.o];simp;omega⟩
     case measure=>simp[intOf];omega
   ·have HS:Hid (QbJ (s.data.toList.drop k)=0):=QnG s k (by omega);go_wp2;go_ret;exact⟨Qb5 (by rw[HN.o,HS.o];simp),rfl⟩
theorem pt(l:List Value)(ds:_)(d:Nat)(v:Value):Act.put ⟨l.toArray,ds⟩ (some d) v=⟨(l.set d v).toArray,ds⟩:=by simp[Act.put]
theorem sz(x y:Value)(l:List Value):(x::l).set 0 y=y::l:=rfl
theorem sc(x y:Value)(l:List Value)(n:Nat):(x::l).set (n+1) y=x::l.set n y:=rfl
theorem Qao{P:Program}{ab:Array Oper}{Q:Exit->Act->World->Prop}{md:Region.Mode}{S:World->Prop}(i d:Nat)(v:Value){oi:Oper}{fuel:Nat}{aa:Array Bool}{a:Act}{w:World}(hi:ab[i]?=some oi)(hS:S w)(hv:∀ w',S w'->(execOp a.eval oi).run P w'=.ok (.value v) w')(h:wpAnyH P md ab Q S fuel (aa.setIfInBounds i true) (a.put (some d) v) w)
 (hd:oi.dst=some d:=by rfl) (hs:Region.noSelect ab=true:=by kernel_rfl) (hf:Region.free md ab aa i=true:=by kernel_rfl) (hr:(Region.ready md ab aa).contains i=true:=by kernel_rfl) (hQ:∀ c a w,Q (.panic c) (a.put (some d) v) w->Q (.panic c) a w:=by exact fun _ _ _ h=>h) (hw:Region.wanted oi (yielded ab a.tmps)=true:=by rfl):wpAnyH P md ab Q S (fuel+1) aa a w:=
 wpAnyH_take hi hs hf hr (by rw[hd];exact hQ) (Or.inl ⟨hw,hv⟩) hS (by rw[hd];exact h)
def QcJ (s:ByteArray) (k j:Nat):UInt8:=if j < k then Qgj (s.data.toList.getD j 0) else s.data.toList.getD j 0
theorem QrJ(c:UInt8)(h:Qet (c.toNat:Int)=true):((Qgj c).toNat:Int)=(c.toNat:Int) - 65+97:=by
 have hc:=h;unfold Qet at hc;simp at hc;have e:Qgj c=c - 65+97:=by unfold Qgj;rw[if_pos h]
 rw[e,UInt8.toNat_add,UInt8.toNat_sub];simp;omega
theorem Qro(c:UInt8)(h:Qet (c.toNat:Int)=false):Qgj c=c:=by
 unfold Qgj;rw[if_neg (by rw[h];decide)]
theorem QmP(s:ByteArray)(k j:Nat)(h:Qet ((s.data.toList.getD k 0).toNat:Int)=false):QcJ s k j=QcJ s (k+1) j:=by
 unfold QcJ;by_cases e:j=k
 ·subst e;rw[if_neg (by omega),if_pos (by omega),Qro _ h]
 ·by_cases l:j<k
  ·rw[if_pos l,if_pos (by omega)]
  ·rw[if_neg l,if_neg (by omega)]
theorem QlA(s:ByteArray)(k j:Nat)(e:¬ j=k):QcJ s k j=QcJ s (k+1) j:=by
 unfold QcJ;by_cases l:j<k
 ·rw[if_pos l,if_pos (by omega)]
 ·rw[if_neg l,if_neg (by omega)]
theorem QmU(s:ByteArray)(k:Nat):QcJ s (k+1) k=Qgj (s.data.toList.getD k 0):=by
 unfold QcJ;rw[if_pos (by omega)]
theorem QeQ(s:ByteArray)(w:World)(hs:s.size<=140737488355328) :
 Calls Tryz.prog 163 #[.string s] w fun e w'=>e=.returned (.string ⟨(zL s.data.toList).toArray⟩)/\Below w.heap.size w w':=by
 have ao:=Lib.run_convert_string_bytes (P:=Tryz.prog) w 9 244 5 s (u:=.string) underlying9 underlying244 underlying5;have hB:=Lib.bytesWorld_below w 5 s
 have ab:∀ j,j<s.size->(Lib.bytesWorld w 5 s).cell? ⟨w.heap.size,j,none⟩=some (.int .u8 (QcJ s 0 j).toNat):=fun j hj=>by
  rw[Lib.bytesWorld_cell w 5 s j hj];simp[QcJ]
 have ag:∀ j,j<s.size->(Lib.bytesWorld w 5 s).frozen? ⟨w.heap.size,j,none⟩=false:=fun j hj=>by
  unfold World.frozen?;rw[Lib.bytesWorld_at_new];simp[Lib.bytesCells];omega
 have ah:=Lib.bytesWorld_size w 5 s;generalize Lib.bytesWorld w 5 s=W1 at ao hB ab ag ah
 have ac:∀(wr:World),(∀ j,j<s.size->wr.cell? ⟨w.heap.size,j,none⟩=some (.int .u8 (QcJ s s.size j).toNat))->
  ∀ C,(convert 244 9 (.slice (some ⟨w.heap.size,0,none⟩) s.size C)).run Tryz.prog wr=.ok (.string ⟨(zL s.data.toList).toArray⟩) wr:=fun wr hw C=>by
  have hl:(zL s.data.toList).length=s.size:=by simp[zL]
  have:=run_convert_bytes_back (P:=Tryz.prog) wr 244 9 5 ⟨w.heap.size,0,none⟩ C (zL s.data.toList) underlying244 underlying5 underlying9 (fun j hj=>by
   rw[Qbu,hw j (by omega)];have hj':j<s.data.toList.length:=by simp[zL]at hj;simpa using hj
   simp only[QcJ,zL,List.getElem_map]
   rw [if_pos (by omega),List.getD_eq_getElem?_getD,List.getElem?_eq_getElem hj'];rfl)
  rw[hl]at this;exact this
 have HL:=Qab ac;clear ac;go_enter func163,ntmps163;go_wp2_with fail;generalize grownCap w s.size 0 5=C at *
 go_loopw [4,5,10] (fun _ _ i wr=>∃ k:Nat,k<=s.size/\i=.int .i64 k/\Below w.heap.size w wr/\(∀ j,j<s.size->wr.cell? ⟨w.heap.size,j,none⟩=some (.int .u8 (QcJ s k j).toNat))/\(∀ j,j<s.size->wr.frozen? ⟨w.heap.size,j,none⟩=false)/\wr.heap.size=w.heap.size+1) (fun _ _ i _=>s.size - (intOf i).toNat)
 case atStart=>exact⟨0,by omega,rfl,hB,ab,ag,ah⟩
 case round=>
  obtain⟨k,hk,rfl,ai,aa,ad,ae⟩:=hrel;clear hB ab ag ah ao;by_cases hlt:k<s.size
  ·have af:=aa k hlt;have hfk:=ad k hlt;simp only[QcJ]at af;rw[if_neg (by omega)]at af;generalize hcd:s.data.toList.getD k 0=c at af;have ak:=Qab hcd;clear hcd;have hb:=UInt8.toNat_lt c;have HC:=Qab aa;have HF:=Qab ad;clear aa ad;cases hc:Qet (c.toNat:Int)
   ·go_wp2_with (go_at_call 194;refine(Qd6 _ _).mono ?_;rintro e w' ⟨rfl,rfl⟩);refine⟨⟨k+1,by omega,by go_num,ai,fun j hj=>?_,HF.o,ae⟩,by simp[intOf];omega⟩;rw[HC.o j hj,QmP s k j (by rw[ak.o];exact hc)]
   ·have hv:=Qab (QrJ c hc);have aj:65<=(c.toNat:Int)/\(c.toNat:Int)<=90:=by unfold Qet at hc;simpa using hc
    obtain⟨aj,hc2⟩:=aj;go_wp2_with (go_at_call 194;refine(Qd6 _ _).mono ?_;rintro e w' ⟨rfl,rfl⟩);refine⟨⟨k+1,by omega,by go_num,?_,fun j hj=>?_,fun j hj=>?_,?_⟩,by simp[intOf];omega⟩
    ·exact ai.setCell (Nat.le_refl _) _
    ·by_cases e:j=k
     ·subst e;rw[World.cell?_setCell_same _ _ _ af,QmU,ak.o];rw[hv.o]
     ·rw[World.cell?_setCell_other _ _ _ _ (by simp[e]),HC.o j hj,QlA s k j e]
    ·rw[World.frozen?_setCell];exact HF.o j hj
    ·simpa using ae
  ·have ap:k=s.size:=by omega
   subst ap;have hr:=HL.o wr aa C;go_wp2;go_ret;exact⟨rfl,ai⟩
def QcN (f:Flt) (w:World) (e:Ending) (w':World):Prop:=
 ∃ b,w.heap.size≤b∧e=.panicked [{ v:=.iface 76 (.pointer (some ⟨b,0,none⟩)),recovered:=false }]∧
  w'.heap[b]?=some (.cells #[.int .i64 f.err,.int .i64 f.pos] 81)
theorem Qa4(er aa:Int)(w:World) :
 Calls Tryz.prog 64 #[.int .i64 er,.int .i64 aa] w fun e w'=>e=.returned (.pointer (some ⟨w.heap.size,0,none⟩))/\w'=w.alloc (.cells #[.int .i64 er,.int .i64 aa] 81):=by
 go_enter func64,ntmps64;go_wp2;go_ret;exact⟨rfl,rfl⟩
theorem Qrn(l:L8)(h:Lib.indexByte l 10<0):(lineLen l:Int)=l.length:=by unfold lineLen;rw[if_pos h]
theorem Qqs(l:L8)(h:¬ Lib.indexByte l 10<0):(lineLen l:Int)=Lib.indexByte l 10+1:=by unfold lineLen;rw[if_neg h];omega
theorem Qjp(s:ByteArray)(w:World)(hs:s.size<=140737488355328) :
 Calls Tryz.prog 215 #[.string s] w fun e w'=>e=.returned (.int .i64 (lineLen s.data.toList))/\w'=w:=by
 have aa:=Qhm s.data.toList 10;have hge:=Lib.indexByte_ge s.data.toList 10;have h1:=Qab (Qrn s.data.toList);have h2:=Qab (Qqs s.data.toList);have hl:(s.data.toList.length:Int)=s.size:=by simp
 rw[hl]at aa;have e10:(Int.toNat 10).toUInt8=(10:UInt8):=rfl;by_cases hn:Lib.indexByte s.data.toList 10<0
 ·go_enter func215,ntmps215;go_wp2_with (go_at_call 213;refine(Tryz.strings_IndexByte _ _ _).mono ?_;rintro e w' ⟨rfl,rfl⟩);go_ret;exact⟨Qb5 (by rw[h1.o hn,hl]),rfl⟩
 ·go_enter func215,ntmps215;go_wp2_with (go_at_call 213;refine(Tryz.strings_IndexByte _ _ _).mono ?_;rintro e w' ⟨rfl,rfl⟩);go_ret;exact⟨Qb5 (by rw[h2.o (by omega)]),rfl⟩
theorem Qc6(s:ByteArray)(a:Nat):(s.extract a s.size).data.toList=s.data.toList.drop a:=by
 rw[ByteArray.data_extract,Array.toList_extract,List.extract_eq_take_drop];rw[List.take_of_length_le];simp
theorem QdA(s:ByteArray)(a:Nat):(s.extract a s.size).size=s.size - a:=by
 rw[Lib.size_eq,Qc6];simp
theorem Qs2(f p:Nat):Qcg f [] p=.ok p:=by cases f<;>rfl
theorem Qpx(f p:Nat)(c:UInt8)(r:L8)(h:QbH c.toNat=true):Qcg (f+1) (c::r) p=Qcg f r (p+1):=by
 simp only[Qcg];rw[if_pos h]
theorem Qrj(f p:Nat)(c:UInt8)(r:L8)(h:QbH c.toNat=false)(h1:c.toNat=35):Qcg (f+1) (c::r) p=Qcg f ((c::r).drop (lineLen (c::r))) (p+lineLen (c::r)):=by
 simp only[Qcg];rw[if_neg (by rw[h];decide),if_pos h1]
theorem Qrs(f p:Nat)(c:UInt8)(r:L8)(h:QbH c.toNat=false)(h1:¬ c.toNat=35)(h2:Lib.hasPrefix (c::r) [47,42]=true)(h3:Lib.index (r.drop 1) [42,47]<0):Qcg (f+1) (c::r) p=.error ⟨2,p⟩:=by
 simp only[Qcg];rw[if_neg (by rw[h];decide),if_neg h1,if_pos h2,if_pos h3]
theorem QrH(f p:Nat)(c:UInt8)(r:L8)(h:QbH c.toNat=false)(h1:¬ c.toNat=35)(h2:Lib.hasPrefix (c::r) [47,42]=true)(h3:¬ Lib.index (r.drop 1) [42,47]<0):Qcg (f+1) (c::r) p=Qcg f ((c::r).drop (4+(Lib.index (r.drop 1) [42,47]).toNat)) (p+(4+(Lib.index (r.drop 1) [42,47]).toNat)):=by
 simp only[Qcg];rw[if_neg (by rw[h];decide),if_neg h1,if_pos h2,if_neg h3]
theorem QqG(f p:Nat)(c:UInt8)(r:L8)(h:QbH c.toNat=false)(h1:¬ c.toNat=35)(h2:Lib.hasPrefix (c::r) [47,42]=false):Qcg (f+1) (c::r) p=.ok p:=by
 simp only[Qcg];rw[if_neg (by rw[h];decide),if_neg h1,if_neg (by rw[h2];decide)]
theorem QkT(l:L8)(a b:UInt8)(h:Lib.hasPrefix l [a,b]=true):2<=l.length:=by
 have:=(List.isPrefixOf_iff_prefix.1 h).length_le;simpa using this
def QcW (r:Except Flt Nat) (w:World) (e:Ending) (w':World):Prop:=
 match r with
 | .ok n=>e=.returned (.int .i64 n)∧w'=w
 | .error f=>QcN f w e w'∧Below w.heap.size w w'
theorem QcW.ok{r:Except Flt Nat}{n:Nat}{w:World}{x:Int}(h:r=.ok n)(hx:x=n):QcW r w (.returned (.int .i64 x)) w:=by
 subst h;subst hx;exact⟨rfl,rfl⟩
theorem QlZ(er p:Nat)(w:World):QcN ⟨er,p⟩ w (.panicked [{ v:=.iface 76 (.pointer (some ⟨w.heap.size,0,none⟩)),recovered:=false }]) (w.alloc (.cells #[.int .i64 er,.int .i64 p] 81)):=by
 refine⟨w.heap.size,Nat.le_refl _,rfl,?_⟩;show(w.heap.push _)[w.heap.size]?=_
 simp
theorem QcW.err{r:Except Flt Nat}{er p:Nat}{w:World}(h:r=.error ⟨er,p⟩) :
 QcW r w (.panicked [{ v:=.iface 76 (.pointer (some ⟨w.heap.size,0,none⟩)),recovered:=false }]) (w.alloc (.cells #[.int .i64 er,.int .i64 p] 81)):=by
 subst h;exact⟨QlZ er p w,(Below.refl _ _).alloc (Nat.le_refl _) _⟩
theorem Qvx(s:ByteArray)(ab f0:Nat)(m:Int)(w:World)(hs:s.size<=4294967280)(ha:ab<=s.size)(hf:s.size - ab<f0)(hm:w.cell? ⟨1,0,none⟩=some (.int .i64 m)) :
 Calls Tryz.prog 176 #[.string s,.int .i64 ab] w (QcW (Qcg f0 (s.data.toList.drop ab) ab) w):=by
 go_enter func176,ntmps176;go_wp2_with fail
 go_loop [1,5,6] (fun a _ _=>∃ k f:Nat,k<=s.size/\s.size - k<f/\a=.int .i64 k/\Qcg f0 (s.data.toList.drop ab) ab=Qcg f (s.data.toList.drop k) k) (fun a _ _=>s.size - (intOf a).toNat)
 case atStart=>exact⟨ab,f0,ha,hf,rfl,rfl⟩
 case round=>
  obtain⟨k,f,hk,hkf,rfl,hR⟩:=hrel;obtain⟨f,rfl⟩:∃ g,f=g+1:=⟨f - 1,by omega⟩;have HR:=Qab hR;clear hR;by_cases hlt:k<s.size
  ·have hd:=Qbf s k hlt;obtain⟨rs,hx⟩:∃ rs,s.extract k s.size=rs:=⟨_,rfl⟩;have HL:Hid (rs.data.toList=s.data.toList.drop k):=by rw[<-hx];exact Qc6 s k
   have hz:rs.size=s.size - k:=by rw[<-hx];exact QdA s k
   have ak:0<rs.size:=by omega
   have hz1:rs.size<=s.size - k:=by omega
   have HZ:=Qab hz;clear hz
   have h0:rs[0]=s[k]:=by
    have e:=HL.o;rw[hd]at e;have e2:=Qbf rs 0 ak;rw[List.drop_zero,e]at e2;exact(List.cons.inj e2).1.symm
   generalize hcd:s[k]=c at h0 hd;clear hcd;rw[hd]at HR;have HD:=Qab hd;clear hd;cases hb:QbH (c.toNat:Int)
   ·by_cases h35:(c.toNat:Int)=35
    ·have HS:=Qab (Qrj f k c (s.data.toList.drop (k+1)) hb (by omega));have ah:=QjQ rs.data.toList;have hlp:1<=lineLen rs.data.toList:=by rw[HL.o,HD.o];exact Qpl _ _
     have ac:rs.data.toList.length=rs.size:=by simp
     rw[ac]at ah;have ad:((c.toNat:Int)==35)=true:=by simpa using h35
     clear h35;have aj:Hid (lineLen (c::s.data.toList.drop (k+1))=lineLen rs.data.toList):=by show _=_;rw[HL.o,HD.o]
     go_wp2_with (first|(go_at_call 214;refine(Qcv _ _).mono ?_;rintro e w' ⟨rfl,rfl⟩)|(go_at_call 215;refine(Qjp _ _ (by omega)).mono ?_;rintro e w' ⟨rfl,rfl⟩));refine⟨⟨k+lineLen rs.data.toList,f,by omega,by omega,by go_num,?_⟩,by simp[intOf];omega⟩;rw[HR.o,HS.o,aj.o,<-HD.o,List.drop_drop]
    ·have ad:((c.toNat:Int)==35)=false:=by simpa using h35
     cases hp:Lib.hasPrefix rs.data.toList [47,42]
     ·have HS:=Qab (QqG f k c (s.data.toList.drop (k+1)) hb (by omega) (by rw[<-HD.o,<-HL.o];exact hp));clear h35;go_wp2_with (first|(go_at_call 214;refine(Qcv _ _).mono ?_;rintro e w' ⟨rfl,rfl⟩)|(go_at_call 156;refine(Tryz.strings_HasPrefix _ _ _).mono ?_;rintro e w' ⟨rfl,rfl⟩));go_ret;exact QcW.ok (by rw[HR.o,HS.o]) rfl
     ·have h2:=QkT _ _ _ hp;have ac:rs.data.toList.length=rs.size:=by simp
      rw[ac]at h2;obtain⟨rt,ag⟩:∃ rt,rs.extract 2 rs.size=rt:=⟨_,rfl⟩
      have ae:Hid (rt.data.toList=(s.data.toList.drop (k+1)).drop 1):=by
       show _=_
       rw[<-ag,Qc6,HL.o,HD.o];rfl
      have ai:rt.size=rs.size - 2:=by rw[<-ag];exact QdA rs 2
      have hz3:rt.size<=rs.size - 2:=by omega
      have af:(rt.data.toList.length:Int)=rt.size:=by simp
      have aa:=Qkr rt.data.toList [42,47];rw[af]at aa;have hge:=Lib.index_ge rt.data.toList [42,47];clear ai ac af;by_cases hi:Lib.index rt.data.toList [42,47]<0
      ·have HS:=Qab (Qrs f k c (s.data.toList.drop (k+1)) hb (by omega) (by rw[<-HD.o,<-HL.o];exact hp) (by rw[<-ae.o];exact hi));clear h35 aa;go_wp2_with (first|(go_at_call 214;refine(Qcv _ _).mono ?_;rintro e w' ⟨rfl,rfl⟩)|(go_at_call 156;refine(Tryz.strings_HasPrefix _ _ _).mono ?_;rintro e w' ⟨rfl,rfl⟩)|(go_at_call 216;refine(Tryz.strings_Index _ _ m _ (by omega) hm).mono ?_;rintro e w' ⟨rfl,rfl⟩)|(go_at_call 64;refine(Qa4 _ _ _).mono ?_;rintro e w' ⟨rfl,rfl⟩));exact⟨rfl,QcW.err (by rw[HR.o,HS.o])⟩
      ·have hroom':Lib.index rt.data.toList [42,47]+2<=rt.size:=by
        rcases aa with h|h
        ·exact absurd h hi
        ·simpa using h
       have HS:=Qab (QrH f k c (s.data.toList.drop (k+1)) hb (by omega) (by rw[<-HD.o,<-HL.o];exact hp) (by rw[<-ae.o];exact hi));clear h35 aa;go_wp2_with (first|(go_at_call 214;refine(Qcv _ _).mono ?_;rintro e w' ⟨rfl,rfl⟩)|(go_at_call 156;refine(Tryz.strings_HasPrefix _ _ _).mono ?_;rintro e w' ⟨rfl,rfl⟩)|(go_at_call 216;refine(Tryz.strings_Index _ _ m _ (by omega) hm).mono ?_;rintro e w' ⟨rfl,rfl⟩)|(go_at_call 64;refine(Qa4 _ _ _).mono ?_;rintro e w' ⟨rfl,rfl⟩));refine⟨⟨k+(4+(Lib.index rt.data.toList [42,47]).toNat),f,by omega,by omega,congrArg _ (by omega),?_⟩,by simp[intOf];omega⟩;rw[HR.o,HS.o,<-ae.o,<-HD.o,List.drop_drop]
   ·have HS:=Qab (Qpx f k c (s.data.toList.drop (k+1)) hb);go_wp2_with (first|(go_at_call 214;refine(Qcv _ _).mono ?_;rintro e w' ⟨rfl,rfl⟩));go_round
    case rel=>exact⟨k+1,f,by omega,by omega,by go_num,by rw[HR.o,HS.o]⟩
    case measure=>simp[intOf];omega
  ·go_wp2;go_ret;exact QcW.ok (by rw[HR.o,List.drop_of_length_le (by simp;omega),Qs2]) rfl
theorem Qnf(s:ByteArray)(a n:Nat):(s.extract a (a+n)).data.toList=(s.data.toList.drop a).take n:=by
 rw[ByteArray.data_extract,Array.toList_extract,List.extract_eq_take_drop];rw[show a+n - a=n from by omega]
theorem QqC{W w1:World}(hb:Below W.heap.size W w1):(∀ b o,b<W.heap.size->w1.cell? ⟨b,o,none⟩=W.cell? ⟨b,o,none⟩)/\(∀ b o,b<W.heap.size->w1.frozen? ⟨b,o,none⟩=W.frozen? ⟨b,o,none⟩):=
 ⟨fun b o h=>hb.cell (p:=⟨b,o,none⟩) h,fun b o h=>hb.frozen (p:=⟨b,o,none⟩) h⟩
def wdV (x:Wd):Value:=.agg #[.int .i64 x.kind,.int .i64 x.pos,.string ⟨x.spelt.toArray⟩,.string ⟨x.said.toArray⟩,.int .i64 x.num]
def QaK (r:Except Flt (Wd×Nat)) (w:World) (e:Ending) (w':World):Prop:=
 Below w.heap.size w w'∧
 match r with
 | .ok x=>e=.returned (.tuple #[wdV x.1,.int .i64 x.2])
 | .error f=>QcN f w e w'
theorem QaK.ok{r:Except Flt (Wd×Nat)}{x:Wd×Nat}{w w':World}{v:Value}{n:Int}(h:r=.ok x)(hb:Below w.heap.size w w')(hv:v=wdV x.1)(hn:n=x.2):QaK r w (.returned (.tuple #[v,.int .i64 n])) w':=by
 subst h;subst hv;subst hn;exact⟨hb,rfl⟩
theorem QaK.err{r:Except Flt (Wd×Nat)}{f:Flt}{w w':World}{e:Ending}(h:r=.error f)(hb:Below w.heap.size w w')(ht:QcN f w e w'):QaK r w e w':=by
 subst h;exact⟨hb,ht⟩
theorem QcN.up{f:Flt}{w w1 w':World}{e:Ending}(h:QcN f w1 e w')(hz:w.heap.size<=w1.heap.size):QcN f w e w':=by
 obtain⟨b,hb,h⟩:=h;exact⟨b,Nat.le_trans hz hb,h⟩
theorem Qb8(er p:Nat){w w1:World}{b:Nat}(hz:w.heap.size<=w1.heap.size)(hb:b=w1.heap.size) :
 QcN ⟨er,p⟩ w (.panicked [{ v:=.iface 76 (.pointer (some ⟨b,0,none⟩)),recovered:=false }]) (w1.alloc (.cells #[.int .i64 er,.int .i64 p] 81)):=by
 subst hb;exact(QlZ er p w1).up hz
theorem QkV(k:Int)(s:ByteArray)(aa n:Nat)(w:World)(hs:s.size<=4294967280)(ha:aa+n<=s.size) :
 Calls Tryz.prog 209 #[.int .i64 k,.string s,.int .i64 aa,.int .i64 n] w fun e w'=>
  e=.returned (.tuple #[.agg #[.int .i64 k,.int .i64 aa,.string ⟨(zL ((s.data.toList.drop aa).take n)).toArray⟩,.string ⟨#[]⟩,.int .i64 0],.int .i64 (aa+n:Nat)])/\Below w.heap.size w w':=by
 obtain⟨rs,hx⟩:∃ rs,s.extract aa (aa+n)=rs:=⟨_,rfl⟩;have HL:Hid (rs.data.toList=(s.data.toList.drop aa).take n):=by rw[<-hx];exact Qnf s aa n
 have hz:rs.size<=s.size:=by
  rw[Lib.size_eq,HL.o];simp;omega
 go_enter func209,ntmps209;go_wp2_with fail;refine(QeQ rs _ (by omega)).mono ?_;rintro e w1 ⟨rfl,hb⟩;rw[HL.o];obtain⟨hc,hf⟩:=QqC hb;have ab:w.heap.size<w1.heap.size:=by have:=hb.size;simp at this;omega
 have HB:=Qab hb;clear hb;go_wp2;have ac:Below w.heap.size w w1:=((Below.refl _ w).alloc (Nat.le_refl _) _).trans (HB.o.mono (by simp));refine bodyPost_ret (v:=.tuple #[.agg #[.int .i64 k,.int .i64 aa,.string ⟨(zL ((s.data.toList.drop aa).take n)).toArray⟩,.string ⟨#[]⟩,.int .i64 0],.int .i64 (aa+n:Nat)]) (by simp[results,results209,go_sem,hc,ab]) rfl ⟨rfl,?_⟩;exact((((ac.setCell (Nat.le_refl _) _).setCell (Nat.le_refl _) _).setCell (Nat.le_refl _) _).setCell (Nat.le_refl _) _).setCell (Nat.le_refl _) _
def QeC (v:Nat) (l:L8):Nat:=(l.takeWhile fun c=>QaL c.toNat).foldl QfM v
theorem Qpv(l:L8):QmL l=QeC 0 l:=rfl
theorem Qo0(v:Nat):QeC v []=v:=rfl
theorem QmF(v:Nat)(c:UInt8)(r:L8)(h:QaL c.toNat=true):QeC v (c::r)=QeC (QfM v c) r:=by
 simp[QeC,List.takeWhile_cons,h]
theorem Ql4(v:Nat)(c:UInt8)(r:L8)(h:QaL c.toNat=false):QeC v (c::r)=v:=by
 simp[QeC,List.takeWhile_cons,h]
theorem Qob(c:UInt8)(r:L8)(h:QaL c.toNat=true):Qcd (c::r)=1+Qcd r:=by
 simp[Qcd,List.takeWhile_cons,h];omega
theorem QoX(c:UInt8)(r:L8)(h:QaL c.toNat=false):Qcd (c::r)=0:=by
 simp[Qcd,List.takeWhile_cons,h]
theorem Qri:Qcd []=0:=rfl
theorem Qrm(v:Nat)(c:UInt8):QfM v c<=2147483648:=by unfold QfM;omega
theorem QfO(aa:L8)(p v j v' n':Nat)(c1 c2:UInt8)(hv:QmL aa=v)(hj:Qcd aa=j)(h1:aa.getD j 0=c1)
 (ab:v'=if isM c1 then v*1048576 else if isK c1 then v*1024 else v) (ac:n'=if isM c1 || isK c1 then j+1 else j) (h2:aa.getD n' 0=c2) :
 sNL aa p=if QbO c2 then .error ⟨2,p⟩else if 2147483647<v' then .error ⟨3,p⟩else .ok (⟨4,p,[],[],v'⟩,p+n'):=by
 subst hv;subst hj;subst h1;subst ab;subst ac;subst h2;rfl
theorem Qee(s:ByteArray)(a j:Nat)(x:Int)(h:x=(a+j:Nat)):(s.data.toList.drop a).getD j 0=byteOf s x:=by
 subst h;unfold byteOf;rw[List.getD_eq_getElem?_getD,List.getElem?_drop,Int.toNat_natCast,List.getD_eq_getElem?_getD]
theorem QcT{c:UInt8}(h:Qbt (c.toNat:Int)=true\/QaL (c.toNat:Int)=true):QbO c=true:=by
 unfold QbO;rcases h with h|h<;>simp[h]
theorem QeS{c:UInt8}(h:Qbt (c.toNat:Int)=false)(h':QaL (c.toNat:Int)=false):QbO c=false:=by
 unfold QbO;simp[h,h']
theorem five_ways(c:UInt8):((c.toNat:Int)==77)=true\/(((c.toNat:Int)==77)=false/\((c.toNat:Int)==109)=true)\/
 (((c.toNat:Int)==77)=false/\((c.toNat:Int)==109)=false/\((c.toNat:Int)==75)=true)\/
 (((c.toNat:Int)==77)=false/\((c.toNat:Int)==109)=false/\((c.toNat:Int)==75)=false/\((c.toNat:Int)==107)=true)\/
 (((c.toNat:Int)==77)=false/\((c.toNat:Int)==109)=false/\((c.toNat:Int)==75)=false/\((c.toNat:Int)==107)=false):=by
 cases((c.toNat:Int)==77)<;>cases((c.toNat:Int)==109)<;>cases((c.toNat:Int)==75)<;>cases((c.toNat:Int)==107)<;>simp
theorem QpJ{c:UInt8}(h:((c.toNat:Int)==77)=true\/((c.toNat:Int)==109)=true):isM c=true:=by
 unfold isM;simp at h ⊢;omega
theorem QlF{c:UInt8}(h:((c.toNat:Int)==77)=false)(h':((c.toNat:Int)==109)=false):isM c=false:=by
 unfold isM;simp at h h' ⊢;omega
theorem QpZ{c:UInt8}(h:((c.toNat:Int)==75)=true\/((c.toNat:Int)==107)=true):isK c=true:=by
 unfold isK;simp at h ⊢;omega
theorem Qsf{c:UInt8}(h:((c.toNat:Int)==75)=false)(h':((c.toNat:Int)==107)=false):isK c=false:=by
 unfold isK;simp at h h' ⊢;omega
theorem Qjs(s:ByteArray)(aa:Nat)(w:World)(hs:s.size<=4294967280)(ha:aa<=s.size) :
 Calls Tryz.prog 211 #[.string s,.int .i64 aa] w (QaK (sNL (s.data.toList.drop aa) aa) w):=by
 go_enter func211,ntmps211;go_wp2_with fail
 go_loop [6,7] (fun a b=>∃ j v:Nat,aa+j<=s.size/\v<=2147483648/\a=.int .i64 v/\b=.int .i64 (aa+j:Nat)/\QmL (s.data.toList.drop aa)=QeC v (s.data.toList.drop (aa+j))/\Qcd (s.data.toList.drop aa)=j+Qcd (s.data.toList.drop (aa+j))) (fun _ b=>s.size - (intOf b).toNat)
 case atStart=>exact⟨0,0,by omega,by omega,rfl,by simp,by rw[Qpv];rfl,by simp⟩
 case round=>
  obtain⟨j,v,hj,hv,rfl,rfl,hN,hD⟩:=hrel;have HN:=Qab hN;have HD:=Qab hD;clear hN hD;by_cases hgo:∃ h:aa+j<s.size,QaL (s[aa+j].toNat:Int)=true
  ·obtain⟨af,ag⟩:=hgo;have hd:=Qab (Qbf s (aa+j) af);obtain⟨c,hc⟩:∃ c,s[aa+j]=c:=⟨_,rfl⟩;rw[hc]at ag hd;have ao:48<=(c.toNat:Int)/\(c.toNat:Int)<=57:=by unfold QaL at ag;simpa using ag
   obtain⟨hd1,hd2⟩:=ao;go_wp2_with (go_at_call 143;refine(QaA _ _).mono ?_;rintro e w' ⟨rfl,rfl⟩);refine⟨⟨j+1,QfM v c,by omega,Qrm v c,?_,congrArg _ (by omega),?_,?_⟩,by simp[intOf];omega⟩
   ·refine congrArg _ ?_;unfold QfM;omega
   ·rw[HN.o,hd.o,QmF _ _ _ ag];rfl
   ·rw[HD.o,hd.o,Qob _ _ ag,show aa+j+1=aa+(j+1)from rfl];omega
  ·have ap:Hid (QmL (s.data.toList.drop aa)=v):=by
    show _=_
    rw[HN.o];by_cases af:aa+j<s.size
    ·rw[Qbf s _ af,Ql4];cases h:QaL (s[aa+j].toNat:Int)
     ·rfl
     ·exact absurd ⟨af,h⟩ hgo
    ·rw[List.drop_of_length_le (by simp;omega),Qo0]
   have ak:Hid (Qcd (s.data.toList.drop aa)=j):=by
    show _=_
    rw[HD.o];by_cases af:aa+j<s.size
    ·rw[Qbf s _ af,QoX]
     ·rfl
     ·cases h:QaL (s[aa+j].toNat:Int)
      ·rfl
      ·exact absurd ⟨af,h⟩ hgo
    ·rw[List.drop_of_length_le (by simp;omega),Qri];rfl
   clear HN HD;have HG:=Qab hgo;clear hgo;by_cases af:aa+j<s.size
   have ag:QaL (s[aa+j].toNat:Int)=false:=by
    cases h:QaL (s[aa+j].toNat:Int)
    ·rfl
    ·exact absurd ⟨af,h⟩ HG.o
   obtain⟨c,hc⟩:∃ c,s[aa+j]=c:=⟨_,rfl⟩;rw[hc]at ag;clear HG;go_wp2_with (go_at_call 143;refine(QaA _ _).mono ?_;rintro e w' ⟨rfl,rfl⟩);clear hc ag;rotate_left;clear HG;go_wp2_with (go_at_call 143;refine(QaA _ _).mono ?_;rintro e w' ⟨rfl,rfl⟩)
   all_goals
    refine(QgB s _ _ (by unfold maxLen;omega) (by omega)).mono ?_;rintro e w1 ⟨rfl,rfl⟩;have ai:=Qab (Qee s aa j (↑aa+↑j) (by omega));generalize byteOf s (↑aa+↑j)=c1 at ai;rcases five_ways c1 with ae | ⟨ae,ac⟩ | ⟨ae,ac,aj⟩ | ⟨ae,ac,aj,ad⟩ | ⟨ae,ac,aj,ad⟩
    iterate 2
     ·have HE:Hid (∀ c2,byteOf s (↑aa+↑j+1)=c2->sNL (s.data.toList.drop aa) aa=if QbO c2 then .error ⟨2,aa⟩else if 2147483647<v*1048576 then .error ⟨3,aa⟩else .ok (⟨4,aa,[],[],v*1048576⟩,aa+(j+1))):=fun c2 h2=>
       QfO _ aa v j (v*1048576) (j+1) c1 c2 ap.o ak.o ai.o (by first|(rw[QpJ (Or.inl ae)];rfl)|(rw[QpJ (Or.inr ac)];rfl)) (by first|(rw[QpJ (Or.inl ae)];rfl)|(rw[QpJ (Or.inr ac)];rfl)) (by rw[Qee s aa (j+1) (↑aa+↑j+1) (by omega)];exact h2)
      clear ai;go_wp2_with fail;refine(QgB s _ _ (by unfold maxLen;omega) (by omega)).mono ?_;rintro e w1 ⟨rfl,rfl⟩;have ab:=Qab (HE.o _ rfl);clear HE;generalize byteOf s (↑aa+↑j+1)=c2 at ab;cases hl:Qbt (c2.toNat:Int)
      ·cases hdd:QaL (c2.toNat:Int)
       ·rw[QeS hl hdd]at ab;by_cases hbig:2147483647<v*1048576
        ·rw[if_neg (by decide),if_pos hbig]at ab;have ah:(2147483647:Int)<(v:Int)*1024*1024:=by omega
         go_wp2_with (first|(go_at_call 142;refine(Qaz _ _).mono ?_;rintro e w' ⟨rfl,rfl⟩)|(go_at_call 143;refine(QaA _ _).mono ?_;rintro e w' ⟨rfl,rfl⟩)|(go_at_call 64;refine(Qa4 _ _ _).mono ?_;rintro e w' ⟨rfl,rfl⟩));exact⟨rfl,QaK.err ab.o (((Below.refl _ w).alloc (Nat.le_refl _) _).alloc (by simp) _) (Qb8 3 aa (by simp) (by simp))⟩
        ·rw[if_neg (by decide),if_neg hbig]at ab;go_wp2_with (first|(go_at_call 142;refine(Qaz _ _).mono ?_;rintro e w' ⟨rfl,rfl⟩)|(go_at_call 143;refine(QaA _ _).mono ?_;rintro e w' ⟨rfl,rfl⟩)|(go_at_call 64;refine(Qa4 _ _ _).mono ?_;rintro e w' ⟨rfl,rfl⟩));refine bodyPost_ret (v:=.tuple #[.agg #[.int .i64 4,.int .i64 aa,.string ⟨#[]⟩,.string ⟨#[]⟩,.int .i64 ((v:Int)*1024*1024)],.int .i64 (↑aa+↑j+1)]) (by simp[results,results211,go_sem]) rfl (QaK.ok ab.o ((Below.refl _ w).alloc (Nat.le_refl _) _) ?_ ?_)
         ·simp[wdV];try omega
         ·simp;try omega
       ·rw[QcT (Or.inr hdd)]at ab;rw[if_pos rfl]at ab;go_wp2_with (first|(go_at_call 142;refine(Qaz _ _).mono ?_;rintro e w' ⟨rfl,rfl⟩)|(go_at_call 143;refine(QaA _ _).mono ?_;rintro e w' ⟨rfl,rfl⟩)|(go_at_call 64;refine(Qa4 _ _ _).mono ?_;rintro e w' ⟨rfl,rfl⟩));exact⟨rfl,QaK.err ab.o (((Below.refl _ w).alloc (Nat.le_refl _) _).alloc (by simp) _) (Qb8 2 aa (by simp) (by simp))⟩
      ·rw[QcT (Or.inl hl)]at ab;rw[if_pos rfl]at ab;go_wp2_with (first|(go_at_call 142;refine(Qaz _ _).mono ?_;rintro e w' ⟨rfl,rfl⟩)|(go_at_call 143;refine(QaA _ _).mono ?_;rintro e w' ⟨rfl,rfl⟩)|(go_at_call 64;refine(Qa4 _ _ _).mono ?_;rintro e w' ⟨rfl,rfl⟩));exact⟨rfl,QaK.err ab.o (((Below.refl _ w).alloc (Nat.le_refl _) _).alloc (by simp) _) (Qb8 2 aa (by simp) (by simp))⟩
    iterate 2
     ·have HE:Hid (∀ c2,byteOf s (↑aa+↑j+1)=c2->sNL (s.data.toList.drop aa) aa=if QbO c2 then .error ⟨2,aa⟩else if 2147483647<v*1024 then .error ⟨3,aa⟩else .ok (⟨4,aa,[],[],v*1024⟩,aa+(j+1))):=fun c2 h2=>
       QfO _ aa v j (v*1024) (j+1) c1 c2 ap.o ak.o ai.o (by rw[QlF ae ac];first|(rw[QpZ (Or.inl aj)];rfl)|(rw[QpZ (Or.inr ad)];rfl)) (by rw[QlF ae ac];first|(rw[QpZ (Or.inl aj)];rfl)|(rw[QpZ (Or.inr ad)];rfl)) (by rw[Qee s aa (j+1) (↑aa+↑j+1) (by omega)];exact h2)
      clear ai;go_wp2_with fail;refine(QgB s _ _ (by unfold maxLen;omega) (by omega)).mono ?_;rintro e w1 ⟨rfl,rfl⟩;have ab:=Qab (HE.o _ rfl);clear HE;generalize byteOf s (↑aa+↑j+1)=c2 at ab;cases hl:Qbt (c2.toNat:Int)
      ·cases hdd:QaL (c2.toNat:Int)
       ·rw[QeS hl hdd]at ab;by_cases hbig:2147483647<v*1024
        ·rw[if_neg (by decide),if_pos hbig]at ab;have ah:(2147483647:Int)<(v:Int)*1024:=by omega
         go_wp2_with (first|(go_at_call 142;refine(Qaz _ _).mono ?_;rintro e w' ⟨rfl,rfl⟩)|(go_at_call 143;refine(QaA _ _).mono ?_;rintro e w' ⟨rfl,rfl⟩)|(go_at_call 64;refine(Qa4 _ _ _).mono ?_;rintro e w' ⟨rfl,rfl⟩));exact⟨rfl,QaK.err ab.o (((Below.refl _ w).alloc (Nat.le_refl _) _).alloc (by simp) _) (Qb8 3 aa (by simp) (by simp))⟩
        ·rw[if_neg (by decide),if_neg hbig]at ab;go_wp2_with (first|(go_at_call 142;refine(Qaz _ _).mono ?_;rintro e w' ⟨rfl,rfl⟩)|(go_at_call 143;refine(QaA _ _).mono ?_;rintro e w' ⟨rfl,rfl⟩)|(go_at_call 64;refine(Qa4 _ _ _).mono ?_;rintro e w' ⟨rfl,rfl⟩));refine bodyPost_ret (v:=.tuple #[.agg #[.int .i64 4,.int .i64 aa,.string ⟨#[]⟩,.string ⟨#[]⟩,.int .i64 ((v:Int)*1024)],.int .i64 (↑aa+↑j+1)]) (by simp[results,results211,go_sem]) rfl (QaK.ok ab.o ((Below.refl _ w).alloc (Nat.le_refl _) _) ?_ ?_)
         ·simp[wdV];try omega
         ·simp;try omega
       ·rw[QcT (Or.inr hdd)]at ab;rw[if_pos rfl]at ab;go_wp2_with (first|(go_at_call 142;refine(Qaz _ _).mono ?_;rintro e w' ⟨rfl,rfl⟩)|(go_at_call 143;refine(QaA _ _).mono ?_;rintro e w' ⟨rfl,rfl⟩)|(go_at_call 64;refine(Qa4 _ _ _).mono ?_;rintro e w' ⟨rfl,rfl⟩));exact⟨rfl,QaK.err ab.o (((Below.refl _ w).alloc (Nat.le_refl _) _).alloc (by simp) _) (Qb8 2 aa (by simp) (by simp))⟩
      ·rw[QcT (Or.inl hl)]at ab;rw[if_pos rfl]at ab;go_wp2_with (first|(go_at_call 142;refine(Qaz _ _).mono ?_;rintro e w' ⟨rfl,rfl⟩)|(go_at_call 143;refine(QaA _ _).mono ?_;rintro e w' ⟨rfl,rfl⟩)|(go_at_call 64;refine(Qa4 _ _ _).mono ?_;rintro e w' ⟨rfl,rfl⟩));exact⟨rfl,QaK.err ab.o (((Below.refl _ w).alloc (Nat.le_refl _) _).alloc (by simp) _) (Qb8 2 aa (by simp) (by simp))⟩
    ·have HE:Hid (∀ c2,byteOf s (↑aa+↑j)=c2->sNL (s.data.toList.drop aa) aa=if QbO c2 then .error ⟨2,aa⟩else if 2147483647<v then .error ⟨3,aa⟩else .ok (⟨4,aa,[],[],v⟩,aa+(j))):=fun c2 h2=>
      QfO _ aa v j (v) (j) c1 c2 ap.o ak.o ai.o (by rw[QlF ae ac,Qsf aj ad];rfl) (by rw[QlF ae ac,Qsf aj ad];rfl) (by rw[Qee s aa (j) (↑aa+↑j) (by omega)];exact h2)
     clear ai;go_wp2_with fail;refine(QgB s _ _ (by unfold maxLen;omega) (by omega)).mono ?_;rintro e w1 ⟨rfl,rfl⟩;have ab:=Qab (HE.o _ rfl);clear HE;generalize byteOf s (↑aa+↑j)=c2 at ab;cases hl:Qbt (c2.toNat:Int)
     ·cases hdd:QaL (c2.toNat:Int)
      ·rw[QeS hl hdd]at ab;by_cases hbig:2147483647<v
       ·rw[if_neg (by decide),if_pos hbig]at ab;have ah:(2147483647:Int)<(v:Int):=by omega
        go_wp2_with (first|(go_at_call 142;refine(Qaz _ _).mono ?_;rintro e w' ⟨rfl,rfl⟩)|(go_at_call 143;refine(QaA _ _).mono ?_;rintro e w' ⟨rfl,rfl⟩)|(go_at_call 64;refine(Qa4 _ _ _).mono ?_;rintro e w' ⟨rfl,rfl⟩));exact⟨rfl,QaK.err ab.o (((Below.refl _ w).alloc (Nat.le_refl _) _).alloc (by simp) _) (Qb8 3 aa (by simp) (by simp))⟩
       ·rw[if_neg (by decide),if_neg hbig]at ab;go_wp2_with (first|(go_at_call 142;refine(Qaz _ _).mono ?_;rintro e w' ⟨rfl,rfl⟩)|(go_at_call 143;refine(QaA _ _).mono ?_;rintro e w' ⟨rfl,rfl⟩)|(go_at_call 64;refine(Qa4 _ _ _).mono ?_;rintro e w' ⟨rfl,rfl⟩));refine bodyPost_ret (v:=.tuple #[.agg #[.int .i64 4,.int .i64 aa,.string ⟨#[]⟩,.string ⟨#[]⟩,.int .i64 ((v:Int))],.int .i64 (↑aa+↑j)]) (by simp[results,results211,go_sem]) rfl (QaK.ok ab.o ((Below.refl _ w).alloc (Nat.le_refl _) _) ?_ ?_)
        ·simp[wdV];try omega
        ·simp;try omega
      ·rw[QcT (Or.inr hdd)]at ab;rw[if_pos rfl]at ab;go_wp2_with (first|(go_at_call 142;refine(Qaz _ _).mono ?_;rintro e w' ⟨rfl,rfl⟩)|(go_at_call 143;refine(QaA _ _).mono ?_;rintro e w' ⟨rfl,rfl⟩)|(go_at_call 64;refine(Qa4 _ _ _).mono ?_;rintro e w' ⟨rfl,rfl⟩));exact⟨rfl,QaK.err ab.o (((Below.refl _ w).alloc (Nat.le_refl _) _).alloc (by simp) _) (Qb8 2 aa (by simp) (by simp))⟩
     ·rw[QcT (Or.inl hl)]at ab;rw[if_pos rfl]at ab;go_wp2_with (first|(go_at_call 142;refine(Qaz _ _).mono ?_;rintro e w' ⟨rfl,rfl⟩)|(go_at_call 143;refine(QaA _ _).mono ?_;rintro e w' ⟨rfl,rfl⟩)|(go_at_call 64;refine(Qa4 _ _ _).mono ?_;rintro e w' ⟨rfl,rfl⟩));exact⟨rfl,QaK.err ab.o (((Below.refl _ w).alloc (Nat.le_refl _) _).alloc (by simp) _) (Qb8 2 aa (by simp) (by simp))⟩
def Qep (l:L8):List Value:=l.map fun c=>Value.int .u8 c.toNat
theorem QdX(l:L8)(c:UInt8):Qep l++[.int .u8 c.toNat]=Qep (l++[c]):=by simp[Qep]
theorem Tryz.infoU8:(Tryz.prog.info? 5).map (fun i=>(i.zero,i.size,i.bytes))=some (some (.int .u8 0),1,1):=by kernel_rfl
theorem Qei(wr:World)(base:Nat)(v:Value)(l:L8)(h:wr.ownsRow base 5 1 v l.length (Qep l)) :
 (convert 244 9 v).run Tryz.prog wr=.ok (.string ⟨l.toArray⟩) wr:=by
 obtain⟨h1,h2 | ⟨g,aa,ab,hv,hg,hb,r⟩⟩:=h
 ·obtain⟨rfl,h3⟩:=h2;have:l=[]:=List.eq_nil_of_length_eq_zero h3;subst this;rw[run_convert_bytes_string wr 244 9 5 none 0 0 underlying244 underlying5 underlying9];rfl
 ·have hc:=World.ownsRow.cells (w:=wr) (base:=base) (e:=5) (size:=1) (v:=v) (n:=l.length) (xs:=Qep l) ⟨h1,Or.inr ⟨g,aa,ab,hv,hg,hb,r⟩⟩ (g:=g) (by rw[hv];rfl);rw[hv];exact run_convert_bytes_back wr 244 9 5 ⟨g,0,none⟩ aa l underlying244 underlying5 underlying9 (fun j hj=>hc j _ (by simp[Qep,List.getElem?_eq_getElem hj]))
theorem Qks(c:UInt8)(r:L8)(h:(c.toNat:Int)=34):qL (c::r)=some ([],1):=by
 unfold qL;rw[if_pos (by omega)]
theorem QqQ(c d:UInt8)(r:L8)(h:(c.toNat:Int)=92):qL (c::d::r)=(qL r).map fun x=>(d::x.1,x.2+2):=by
 rw[qL,if_neg (by omega),if_pos (by omega)]
theorem Qos(c:UInt8)(h:(c.toNat:Int)=92):qL [c]=none:=by
 unfold qL;rw[if_neg (by omega),if_pos (by omega)]
theorem Qru(c:UInt8)(r:L8)(h:¬(c.toNat:Int)=34)(h':¬(c.toNat:Int)=92):qL (c::r)=(qL r).map fun x=>(c::x.1,x.2+1):=by
 rw[qL.eq_def];dsimp only;rw[if_neg (by omega),if_neg (by omega)]
def QjW (s:ByteArray) (at_ k:Nat) (acc:L8):Prop:=
 qL (s.data.toList.drop (at_+1))=(qL (s.data.toList.drop k)).map fun x=>(acc++x.1,x.2+(k - (at_+1)))
theorem QjW.fin{s:ByteArray}{aa k:Nat}{ab:L8}(h:QjW s aa k ab){c:UInt8}{r:L8}(hd:s.data.toList.drop k=c::r)(hc:(c.toNat:Int)=34) :
 qL (s.data.toList.drop (aa+1))=some (ab,1+(k - (aa+1))):=by
 unfold QjW at h;rw[h,hd,Qks c r hc];simp
theorem QjW.one{s:ByteArray}{aa k:Nat}{ab:L8}(h:QjW s aa k ab){c:UInt8}(hd:s.data.toList.drop k=c::s.data.toList.drop (k+1))(hc:¬(c.toNat:Int)=34)(ac:¬(c.toNat:Int)=92)(hk:aa+1<=k) :
 QjW s aa (k+1) (ab++[c]):=by
 unfold QjW at h ⊢;rw[h,hd,Qru c _ hc ac]
 cases qL (s.data.toList.drop (k+1))with
 |none=>rfl
 |some x=>simp;omega
theorem QjW.esc{s:ByteArray}{aa k:Nat}{ab:L8}(h:QjW s aa k ab){c d:UInt8}(hd:s.data.toList.drop k=c::s.data.toList.drop (k+1))(ac:s.data.toList.drop (k+1)=d::s.data.toList.drop (k+1+1))(hc:(c.toNat:Int)=92)(hk:aa+1<=k) :
 QjW s aa (k+1+1) (ab++[d]):=by
 unfold QjW at h ⊢;rw[h,hd,ac,QqQ c d _ hc]
 cases qL (s.data.toList.drop (k+1+1))with
 |none=>rfl
 |some x=>simp;omega
theorem QjW.esc0{s:ByteArray}{ab k:Nat}{ad:L8}(h:QjW s ab k ad){c:UInt8}(hd:s.data.toList.drop k=c::s.data.toList.drop (k+1))(ac:s.data.toList.drop (k+1)=[])(hc:(c.toNat:Int)=92)(aa:L8) :
 QjW s ab (k+1) aa:=by
 unfold QjW at h ⊢;rw[h,hd,ac,Qos c hc];rfl
theorem QjW.past{s:ByteArray}{aa k:Nat}{ab:L8}(h:QjW s aa k ab)(hk:s.size<=k):qL (s.data.toList.drop (aa+1))=none:=by
 unfold QjW at h;rw[h,List.drop_of_length_le (by simpa using hk)];rfl
theorem QlR(s:ByteArray)(ad:Nat)(w:World)(hs:s.size<=4294967280)(ha:ad<s.size) :
 Calls Tryz.prog 212 #[.string s,.int .i64 ad] w (QaK (quoteR (s.data.toList.drop (ad+1)) ad) w):=by
 obtain⟨i0,hi,ar,aq,ap⟩:=info_parts Tryz.infoU8;obtain⟨R,hR⟩:∃ R,R=quoteR (s.data.toList.drop (ad+1)) ad:=⟨_,rfl⟩;rw[<-hR];have HR:=Qab hR;clear hR;go_enter func212,ntmps212;go_wp2_with fail
 go_loopw [6,7] (fun v i wr=>∃(k:Nat) (ae:L8),ad+1<=k/\k<=s.size/\i=.int .i64 k/\ae.length<=k/\wr.ownsRow (w.heap.size+1) 5 1 v ae.length (Qep ae)/\Below (w.heap.size+1) (w.alloc (.cells #[.int .i64 0,.int .i64 0,.string ⟨#[]⟩,.string ⟨#[]⟩,.int .i64 0] 190)) wr/\QjW s ad k ae) (fun _ i _=>s.size - (intOf i).toNat)
 case atStart=>
  refine⟨ad+1,[],by omega,by omega,by go_num,by simp,World.ownsRow_nil _ _ _ _,Below.refl _ _,?_⟩;unfold QjW;cases qL (s.data.toList.drop (ad+1))<;>simp
 case round=>
  obtain⟨k,ae,av,hk,rfl,hal,aa,hB,hQ⟩:=hrel;have HQ:=Qab hQ;clear hQ;by_cases hlt:k<s.size
  ·have hd:=Qab (Qbf s k hlt);obtain⟨c,hc⟩:∃ c,s[k]=c:=⟨_,rfl⟩;rw[hc]at hd;by_cases h34:(c.toNat:Int)=34
   ·have ag:((c.toNat:Int)==34)=true:=by simpa using h34
    have hrun:=Qei wr _ _ ae aa;have ah:∀ o,wr.cell? ⟨w.heap.size,o,none⟩=(w.alloc (.cells #[.int .i64 0,.int .i64 0,.string ⟨#[]⟩,.string ⟨#[]⟩,.int .i64 0] 190)).cell? ⟨w.heap.size,o,none⟩:=fun o=>hB.cell (p:=⟨w.heap.size,o,none⟩) (by show w.heap.size<_;omega)
    have hfz:∀ o,wr.frozen? ⟨w.heap.size,o,none⟩=(w.alloc (.cells #[.int .i64 0,.int .i64 0,.string ⟨#[]⟩,.string ⟨#[]⟩,.int .i64 0] 190)).frozen? ⟨w.heap.size,o,none⟩:=fun o=>hB.frozen (p:=⟨w.heap.size,o,none⟩) (by show w.heap.size<_;omega)
    have HB:=Qab hB;have HO:=Qab aa;have HE:=Qab (Qks c (s.data.toList.drop (k+1)) h34);clear hB aa h34;go_wp2;have ao:Below w.heap.size w wr:=((Below.refl _ w).alloc (Nat.le_refl _) _).trans (HB.o.mono (by omega));refine bodyPost_ret (v:=.tuple #[.agg #[.int .i64 5,.int .i64 ad,.string ⟨#[]⟩,.string ⟨ae.toArray⟩,.int .i64 0],.int .i64 (↑k+1)]) (by simp[results,results212,go_sem,ah]) rfl (QaK.ok (x:=(⟨5,ad,[],ae,0⟩,ad+(1+(1+(k - (ad+1)))))) ?_ ?_ rfl ?_)
    ·rw[HR.o,quoteR,HQ.o.fin hd.o (by simpa using ag)]
    ·exact((((ao.setCell (Nat.le_refl _) _).setCell (Nat.le_refl _) _).setCell (Nat.le_refl _) _).setCell (Nat.le_refl _) _).setCell (Nat.le_refl _) _
    ·simp;omega
   ·have ag:((c.toNat:Int)==34)=false:=by simpa using h34
    by_cases h92:(c.toNat:Int)=92
    ·have ak:((c.toNat:Int)==92)=true:=by simpa using h92
     by_cases hl2:k+1<s.size
     ·have aj:=Qab (Qbf s (k+1) hl2);obtain⟨d,aw⟩:∃ d,s[k+1]=d:=⟨_,rfl⟩;rw[aw]at aj;have au:=Qab h34;have af:=Qab h92;clear h34 h92;go_wp2_with (at_builtin;refine wpList_append_own _ rfl _ _ 244 rfl (w.heap.size+1) 5 i0 (.int .u8 0) 1 1 underlying244 hi ar aq ap rfl (by decide) _ _ _ rfl (aa.alloc _) ⟨wr.heap.size,0,none⟩ 1 1 [.int .u8 d.toNat] rfl rfl ?c1 ?c2 ?c3 ?c4 ?c5 ?_)
      case c1=>
       intro j u hj
       match j,hj with
       |0,hj=>simp at hj;subst hj;simp[Addr.add]
      case c2=>intro u hu;simp at hu;subst hu;rfl
      case c3=>unfold maxLen;omega
      case c4=>omega
      case c5=>have:=hB.size;simp at this ⊢;omega
      ·intro v' w1 ab ac _;have ai:=Below.grown (hB.alloc (by have:=hB.size;simp at this;omega) (Obj.cells #[.int .u8 d.toNat] 5)) ac (by have:=hB.size;simp at this ⊢;omega) (fun k' hk'=>(aa.lt k' hk').1);rw[QdX]at ab;clear hB aa ac;go_wp2;go_roundw
       case rel=>exact⟨k+1+1,ae++[d],by omega,by omega,by go_num,by simp;omega,by simpa using ab,ai,HQ.o.esc hd.o aj.o af.o av⟩
       case measure=>simp[intOf];omega
     ·have aj:Hid (s.data.toList.drop (k+1)=[]):=List.drop_of_length_le (by simp;omega);have au:=Qab h34;have af:=Qab h92;clear h34 h92;go_wp2_with (at_builtin;refine wpList_append_own _ rfl _ _ 244 rfl (w.heap.size+1) 5 i0 (.int .u8 0) 1 1 underlying244 hi ar aq ap rfl (by decide) _ _ _ rfl (aa.alloc _) ⟨wr.heap.size,0,none⟩ 1 1 [.int .u8 c.toNat] rfl rfl ?c1 ?c2 ?c3 ?c4 ?c5 ?_)
      case c1=>
       intro j u hj
       match j,hj with
       |0,hj=>simp at hj;subst hj;simp[Addr.add]
      case c2=>intro u hu;simp at hu;subst hu;rfl
      case c3=>unfold maxLen;omega
      case c4=>omega
      case c5=>have:=hB.size;simp at this ⊢;omega
      ·intro v' w1 ab ac _;have ai:=Below.grown (hB.alloc (by have:=hB.size;simp at this;omega) (Obj.cells #[.int .u8 c.toNat] 5)) ac (by have:=hB.size;simp at this ⊢;omega) (fun k' hk'=>(aa.lt k' hk').1);rw[QdX]at ab;clear hB aa ac;go_wp2;go_roundw
       case rel=>exact⟨k+1,ae++[c],by omega,by omega,by go_num,by simp;omega,by simpa using ab,ai,HQ.o.esc0 hd.o aj.o af.o _⟩
       case measure=>simp[intOf];omega
    ·have ak:((c.toNat:Int)==92)=false:=by simpa using h92
     have au:=Qab h34;have af:=Qab h92;clear h34 h92;go_wp2_with (at_builtin;refine wpList_append_own _ rfl _ _ 244 rfl (w.heap.size+1) 5 i0 (.int .u8 0) 1 1 underlying244 hi ar aq ap rfl (by decide) _ _ _ rfl (aa.alloc _) ⟨wr.heap.size,0,none⟩ 1 1 [.int .u8 c.toNat] rfl rfl ?c1 ?c2 ?c3 ?c4 ?c5 ?_)
     case c1=>
      intro j u hj
      match j,hj with
      |0,hj=>simp at hj;subst hj;simp[Addr.add]
     case c2=>intro u hu;simp at hu;subst hu;rfl
     case c3=>unfold maxLen;omega
     case c4=>omega
     case c5=>have:=hB.size;simp at this ⊢;omega
     ·intro v' w1 ab ac _;have ai:=Below.grown (hB.alloc (by have:=hB.size;simp at this;omega) (Obj.cells #[.int .u8 c.toNat] 5)) ac (by have:=hB.size;simp at this ⊢;omega) (fun k' hk'=>(aa.lt k' hk').1);rw[QdX]at ab;clear hB aa ac;go_wp2;go_roundw
      case rel=>exact⟨k+1,ae++[c],by omega,by omega,by go_num,by simp;omega,by simpa using ab,ai,HQ.o.one hd.o au.o af.o av⟩
      case measure=>simp[intOf];omega
  ·have HE:Hid (R=.error ⟨2,ad⟩):=by show R=_;rw[HR.o,quoteR,HQ.o.past (by omega)]
   have hz:w.heap.size<=wr.heap.size:=by have:=hB.size;simp at this;omega
   have ao:Below w.heap.size w wr:=((Below.refl _ w).alloc (Nat.le_refl _) _).trans (hB.mono (by omega));clear aa hB HR;go_wp2_with (go_at_call 64;refine(Qa4 _ _ _).mono ?_;rintro e w' ⟨rfl,rfl⟩);exact⟨rfl,QaK.err HE.o (ao.alloc hz _) (Qb8 2 ad hz rfl)⟩
theorem QeR(k:Int)(s:ByteArray)(aa n:Nat)(x:Int)(w:World)(hx:x=n)(hs:s.size<=4294967280)(ha:aa+n<=s.size) :
 Calls Tryz.prog 209 #[.int .i64 k,.string s,.int .i64 aa,.int .i64 x] w fun e w'=>
  e=.returned (.tuple #[.agg #[.int .i64 k,.int .i64 aa,.string ⟨(zL ((s.data.toList.drop aa).take n)).toArray⟩,.string ⟨#[]⟩,.int .i64 0],.int .i64 (aa+n:Nat)])/\Below w.heap.size w w':=by
 subst hx;exact QkV k s aa n w hs ha
def QpC:Obj:=.cells #[.int .i64 0,.int .i64 0,.string ⟨#[]⟩,.string ⟨#[]⟩,.int .i64 0] 190
theorem QdR{w w1:World}(h:Below (w.alloc QpC).heap.size (w.alloc QpC) w1)(a b c d e:Value) :
 Below w.heap.size w (((((w1.setCell ⟨w.heap.size,0,none⟩ a).setCell ⟨w.heap.size,1,none⟩ b).setCell ⟨w.heap.size,2,none⟩ c).setCell ⟨w.heap.size,3,none⟩ d).setCell ⟨w.heap.size,4,none⟩ e):=by
 have aa:Below w.heap.size w w1:=((Below.refl _ w).alloc (Nat.le_refl _) _).trans (h.mono (by simp));exact((((aa.setCell (Nat.le_refl _) _).setCell (Nat.le_refl _) _).setCell (Nat.le_refl _) _).setCell (Nat.le_refl _) _).setCell (Nat.le_refl _) _
theorem QcR(c:UInt8)(r:L8)(p:Nat):Qct (c::r) p =
 if Qbt c.toNat then .ok (QcX 1 (c::r) p (Qa0 (c::r)))
 else if c.toNat=58 then
  if Qa0 r=0 then .error ⟨2,p⟩else .ok (QcX 2 (c::r) p (1+Qa0 r))
 else if QaL c.toNat then sNL (c::r) p
 else if c.toNat=34 then quoteR r p
 else if Qkk c then .ok (QcX 3 (c::r) p 1)
 else .error ⟨2,p⟩:=rfl
theorem Qup(s:ByteArray)(aa:Nat)(w:World)(ha:aa=s.size) :
 Calls Tryz.prog 175 #[.string s,.int .i64 aa] w (QaK (Qct (s.data.toList.drop aa) aa) w):=by
 have HE:Hid (Qct (s.data.toList.drop aa) aa=.ok (⟨0,aa,[],[],0⟩,aa)):=by
  show _=_
  rw[List.drop_of_length_le (by simp;omega)];rfl
 have ht:((aa:Int)==(s.size:Int))=true:=by simp;omega
 clear ha;go_enter func175,ntmps175;go_wp2;refine bodyPost_ret (v:=.tuple #[.agg #[.int .i64 0,.int .i64 aa,.string ⟨#[]⟩,.string ⟨#[]⟩,.int .i64 0],.int .i64 aa]) (by simp[results,results175,go_sem]) rfl (QaK.ok HE.o ?_ rfl rfl);exact(Below.refl _ _).alloc (Nat.le_refl _) _
theorem Qod(s:ByteArray)(aa:Nat)(c:UInt8)(r:L8)(w:World)(hs:s.size<=4294967280)(hd:s.data.toList.drop aa=c::r)(hlt:aa<s.size)(hc:s[aa]=c)(hl:Qbt (c.toNat:Int)=true) :
 Calls Tryz.prog 175 #[.string s,.int .i64 aa] w (QaK (Qct (s.data.toList.drop aa) aa) w):=by
 have HE:Hid (Qct (s.data.toList.drop aa) aa=.ok (QcX 1 (s.data.toList.drop aa) aa (Qa0 (s.data.toList.drop aa)))):=by
  show _=_
  rw[hd,QcR,if_pos hl]
 obtain⟨rs,hx⟩:∃ rs,s.extract aa s.size=rs:=⟨_,rfl⟩;have HL:Hid (rs.data.toList=s.data.toList.drop aa):=by rw[<-hx];exact Qc6 s aa
 have hz:rs.size<=s.size - aa:=by rw[<-hx,QdA];omega
 have hn:=Qdj rs.data.toList;rw[<-Lib.size_eq]at hn;have ht:((aa:Int)==(s.size:Int))=false:=by simp;omega
 have HD:=Qab hd;clear hd;go_enter func175,ntmps175;go_wp2_with (first|(go_at_call 142;refine(Qaz _ _).mono ?_;rintro e w' ⟨rfl,rfl⟩)|(go_at_call 210;refine(QbE _ _ (by unfold maxLen;omega)).mono ?_;rintro e w' ⟨rfl,rfl⟩));refine(QeR 1 s aa (Qa0 rs.data.toList) _ _ rfl hs (by omega)).mono ?_;rintro e w1 ⟨rfl,hb⟩;obtain⟨ac,hf⟩:=QqC hb;have ab:w.heap.size<w1.heap.size:=by have:=hb.size;simp at this;omega
 have HB:=Qab hb;rw[HL.o];clear hb;go_wp2;refine bodyPost_ret (v:=.tuple #[.agg #[.int .i64 1,.int .i64 aa,.string ⟨(zL ((s.data.toList.drop aa).take (Qa0 (s.data.toList.drop aa)))).toArray⟩,.string ⟨#[]⟩,.int .i64 0],.int .i64 (aa+Qa0 (s.data.toList.drop aa):Nat)]) (by simp[results,results175,go_sem,ac,ab]) rfl (QaK.ok HE.o (QdR HB.o _ _ _ _ _) rfl rfl)
theorem Qvz(s:ByteArray)(aa:Nat)(c:UInt8)(r:L8)(w:World)(hs:s.size<=4294967280)(hd:s.data.toList.drop aa=c::r)(ad:aa<s.size)(hc:s[aa]=c)(hl:Qbt (c.toNat:Int)=false)(ab:(c.toNat:Int)=58) :
 Calls Tryz.prog 175 #[.string s,.int .i64 aa] w (QaK (Qct (s.data.toList.drop aa) aa) w):=by
 have HD:Hid (s.data.toList.drop (aa+1)=r):=by
  show _=_
  have:=Qbf s aa ad;rw[hd]at this;exact(List.cons.inj this).2.symm
 obtain⟨rs,hx⟩:∃ rs,s.extract (aa+1) s.size=rs:=⟨_,rfl⟩;have HL:Hid (rs.data.toList=r):=by show _=_;rw[<-hx,Qc6];exact HD.o
 have hz:rs.size<=s.size - (aa+1):=by rw[<-hx,QdA];omega
 have hn:=Qdj rs.data.toList;rw[<-Lib.size_eq]at hn;have ht:((aa:Int)==(s.size:Int))=false:=by simp;omega
 have h58':((c.toNat:Int)==58)=true:=by simpa using ab
 by_cases h0:Qa0 rs.data.toList=0
 ·have HE:Hid (Qct (s.data.toList.drop aa) aa=.error ⟨2,aa⟩):=by
   show _=_
   rw[hd,QcR,if_neg (by rw[hl];decide),if_pos (by omega),if_pos (by rw[<-HL.o];exact h0)]
  have ac:((Qa0 rs.data.toList:Int)==0)=true:=by simpa using h0
  clear hd ab h0;go_enter func175,ntmps175;go_wp2_with (first|(go_at_call 142;refine(Qaz _ _).mono ?_;rintro e w' ⟨rfl,rfl⟩)|(go_at_call 210;refine(QbE _ _ (by unfold maxLen;omega)).mono ?_;rintro e w' ⟨rfl,rfl⟩)|(go_at_call 64;refine(Qa4 _ _ _).mono ?_;rintro e w' ⟨rfl,rfl⟩));exact⟨rfl,QaK.err HE.o (((Below.refl _ w).alloc (Nat.le_refl _) _).alloc (by simp) _) (Qb8 2 aa (by simp) (by simp))⟩
 ·have HE:Hid (Qct (s.data.toList.drop aa) aa=.ok (QcX 2 (s.data.toList.drop aa) aa (1+Qa0 rs.data.toList))):=by
   show _=_
   rw[hd,QcR,if_neg (by rw[hl];decide),if_pos (by omega),if_neg (by rw[<-HL.o];exact h0),HL.o]
  have ac:((Qa0 rs.data.toList:Int)==0)=false:=by simpa using h0
  clear hd ab h0;go_enter func175,ntmps175;go_wp2_with (first|(go_at_call 142;refine(Qaz _ _).mono ?_;rintro e w' ⟨rfl,rfl⟩)|(go_at_call 210;refine(QbE _ _ (by unfold maxLen;omega)).mono ?_;rintro e w' ⟨rfl,rfl⟩)|(go_at_call 64;refine(Qa4 _ _ _).mono ?_;rintro e w' ⟨rfl,rfl⟩));refine(QeR 2 s aa (1+Qa0 rs.data.toList) _ _ (by omega) hs (by omega)).mono ?_;rintro e w1 ⟨rfl,hb⟩;obtain⟨af,hf⟩:=QqC hb;have ae:w.heap.size<w1.heap.size:=by have:=hb.size;simp at this;omega
  have HB:=Qab hb;generalize 1+Qa0 rs.data.toList=n at HE;clear hb;go_wp2;exact bodyPost_ret (v:=.tuple #[.agg #[.int .i64 2,.int .i64 aa,.string ⟨(zL ((s.data.toList.drop aa).take n)).toArray⟩,.string ⟨#[]⟩,.int .i64 0],.int .i64 (aa+n:Nat)]) (by simp[results,results175,go_sem,af,ae]) rfl (QaK.ok HE.o (QdR HB.o _ _ _ _ _) rfl rfl)
theorem QoA(s:ByteArray)(aa:Nat)(c:UInt8)(r:L8)(w:World)(hs:s.size<=4294967280)(hd:s.data.toList.drop aa=c::r)(hlt:aa<s.size)(hc:s[aa]=c)(hl:Qbt (c.toNat:Int)=false)(ab:¬(c.toNat:Int)=58)(hg:QaL (c.toNat:Int)=true) :
 Calls Tryz.prog 175 #[.string s,.int .i64 aa] w (QaK (Qct (s.data.toList.drop aa) aa) w):=by
 have HE:Hid (Qct (s.data.toList.drop aa) aa=sNL (s.data.toList.drop aa) aa):=by
  show _=_
  rw[hd,QcR,if_neg (by rw[hl];decide),if_neg (by omega),if_pos hg]
 have ht:((aa:Int)==(s.size:Int))=false:=by simp;omega
 have h58':((c.toNat:Int)==58)=false:=by simpa using ab
 have ac:=Qab (fun W=>(Qjs s aa W hs (by omega)));rw[HE.o];rw[HE.o]at HE;generalize sNL (s.data.toList.drop aa) aa=R at ac HE ⊢;clear hd ab HE;go_enter func175,ntmps175;go_wp2_with (first|(go_at_call 142;refine(Qaz _ _).mono ?_;rintro e w' ⟨rfl,rfl⟩)|(go_at_call 143;refine(QaA _ _).mono ?_;rintro e w' ⟨rfl,rfl⟩));refine(ac.o _).mono ?_;rintro e w1 ⟨hb,h⟩;have ad:w.heap.size<w1.heap.size:=by have:=hb.size;simp at this;omega
 obtain⟨ae,hf⟩:=QqC hb;have HB:=Qab hb;clear hb
 cases R with
 |error f=>
  have h':QcN f (w.alloc QpC) e w1:=h;obtain⟨b,h1,rfl,h2⟩:=h';exact⟨rfl,QaK.err rfl (((Below.refl _ w).alloc (Nat.le_refl _) _).trans (HB.o.mono (by simp))) ⟨b,by simp at h1;omega,rfl,h2⟩⟩
 |ok x=>
  have h':e=.returned (.tuple #[wdV x.1,.int .i64 x.2]):=h;subst h';unfold wdV;go_wp2;exact bodyPost_ret (v:=.tuple #[.agg #[.int .i64 x.1.kind,.int .i64 x.1.pos,.string ⟨x.1.spelt.toArray⟩,.string ⟨x.1.said.toArray⟩,.int .i64 x.1.num],.int .i64 x.2]) (by simp[results,results175,go_sem,ae,ad]) rfl (QaK.ok rfl (QdR HB.o _ _ _ _ _) rfl rfl)
theorem QrN(s:ByteArray)(aa:Nat)(c:UInt8)(r:L8)(w:World)(hs:s.size<=4294967280)(hd:s.data.toList.drop aa=c::r)(ad:aa<s.size)(hc:s[aa]=c)(hl:Qbt (c.toNat:Int)=false)(ab:¬(c.toNat:Int)=58)(hg:QaL (c.toNat:Int)=false)(ae:(c.toNat:Int)=34) :
 Calls Tryz.prog 175 #[.string s,.int .i64 aa] w (QaK (Qct (s.data.toList.drop aa) aa) w):=by
 have HD:Hid (s.data.toList.drop (aa+1)=r):=by
  show _=_
  have:=Qbf s aa ad;rw[hd]at this;exact(List.cons.inj this).2.symm
 have HE:Hid (Qct (s.data.toList.drop aa) aa=quoteR (s.data.toList.drop (aa+1)) aa):=by
  show _=_
  rw[hd,QcR,if_neg (by rw[hl];decide),if_neg (by omega),if_neg (by rw[hg];decide),if_pos (by omega),HD.o]
 have ht:((aa:Int)==(s.size:Int))=false:=by simp;omega
 have h58':((c.toNat:Int)==58)=false:=by simpa using ab
 have h34':((c.toNat:Int)==34)=true:=by simpa using ae
 have ac:=Qab (fun W=>(QlR s aa W hs ad));rw[HE.o];rw[HE.o]at HE;generalize quoteR (s.data.toList.drop (aa+1)) aa=R at ac HE ⊢;clear hd ab HE ae;go_enter func175,ntmps175;go_wp2_with (first|(go_at_call 142;refine(Qaz _ _).mono ?_;rintro e w' ⟨rfl,rfl⟩)|(go_at_call 143;refine(QaA _ _).mono ?_;rintro e w' ⟨rfl,rfl⟩));refine(ac.o _).mono ?_;rintro e w1 ⟨hb,h⟩;have af:w.heap.size<w1.heap.size:=by have:=hb.size;simp at this;omega
 obtain⟨ag,hf⟩:=QqC hb;have HB:=Qab hb;clear hb
 cases R with
 |error f=>
  have h':QcN f (w.alloc QpC) e w1:=h;obtain⟨b,h1,rfl,h2⟩:=h';exact⟨rfl,QaK.err rfl (((Below.refl _ w).alloc (Nat.le_refl _) _).trans (HB.o.mono (by simp))) ⟨b,by simp at h1;omega,rfl,h2⟩⟩
 |ok x=>
  have h':e=.returned (.tuple #[wdV x.1,.int .i64 x.2]):=h;subst h';unfold wdV;go_wp2;exact bodyPost_ret (v:=.tuple #[.agg #[.int .i64 x.1.kind,.int .i64 x.1.pos,.string ⟨x.1.spelt.toArray⟩,.string ⟨x.1.said.toArray⟩,.int .i64 x.1.num],.int .i64 x.2]) (by simp[results,results175,go_sem,ag,af]) rfl (QaK.ok rfl (QdR HB.o _ _ _ _ _) rfl rfl)
def Qxe (c:UInt8):Int:=Lib.indexByte [59,44,40,41,123,125,91,93] c
theorem QmC(c:UInt8)(w:World) :
 Calls Tryz.prog 213 #[.string ⟨#[59,44,40,41,123,125,91,93]⟩,.int .u8 c.toNat] w fun e w'=>e=.returned (.int .i64 (Qxe c))/\w'=w:=by
 have h:=Tryz.strings_IndexByte ⟨#[59,44,40,41,123,125,91,93]⟩ c.toNat w;have e:((c.toNat:Int).toNat).toUInt8=c:=by simp
 rw[e]at h;exact h
theorem Quc(s:ByteArray)(aa:Nat)(c:UInt8)(r:L8)(w:World)(hs:s.size<=4294967280)(hd:s.data.toList.drop aa=c::r)(hlt:aa<s.size)(hc:s[aa]=c)(hl:Qbt (c.toNat:Int)=false)(ac:¬(c.toNat:Int)=58)(hg:QaL (c.toNat:Int)=false)(ad:¬(c.toNat:Int)=34)(ab:Qkk c=true) :
 Calls Tryz.prog 175 #[.string s,.int .i64 aa] w (QaK (Qct (s.data.toList.drop aa) aa) w):=by
 have HE:Hid (Qct (s.data.toList.drop aa) aa=.ok (QcX 3 (s.data.toList.drop aa) aa 1)):=by
  show _=_
  rw[hd,QcR,if_neg (by rw[hl];decide),if_neg (by omega),if_neg (by rw[hg];decide),if_neg (by omega),if_pos ab]
 have hsg':0<=Qxe c:=of_decide_eq_true ab;have ht:((aa:Int)==(s.size:Int))=false:=by simp;omega
 have h58':((c.toNat:Int)==58)=false:=by simpa using ac
 have h34':((c.toNat:Int)==34)=false:=by simpa using ad
 clear hd ac ad ab;go_enter func175,ntmps175;go_wp2_with (first|(go_at_call 142;refine(Qaz _ _).mono ?_;rintro e w' ⟨rfl,rfl⟩)|(go_at_call 143;refine(QaA _ _).mono ?_;rintro e w' ⟨rfl,rfl⟩)|(go_at_call 213;refine(QmC c _).mono ?_;rintro e w' ⟨rfl,rfl⟩));refine(QeR 3 s aa 1 _ _ rfl hs (by omega)).mono ?_;rintro e w1 ⟨rfl,hb⟩;obtain⟨af,hf⟩:=QqC hb;have ae:w.heap.size<w1.heap.size:=by have:=hb.size;simp at this;omega
 have HB:=Qab hb;clear hb;go_wp2;exact bodyPost_ret (v:=.tuple #[.agg #[.int .i64 3,.int .i64 aa,.string ⟨(zL ((s.data.toList.drop aa).take 1)).toArray⟩,.string ⟨#[]⟩,.int .i64 0],.int .i64 (aa+1:Nat)]) (by simp[results,results175,go_sem,af,ae]) rfl (QaK.ok HE.o (QdR HB.o _ _ _ _ _) rfl rfl)
theorem QuI(s:ByteArray)(aa:Nat)(c:UInt8)(r:L8)(w:World)(hs:s.size<=4294967280)(hd:s.data.toList.drop aa=c::r)(hlt:aa<s.size)(hc:s[aa]=c)(hl:Qbt (c.toNat:Int)=false)(ac:¬(c.toNat:Int)=58)(hg:QaL (c.toNat:Int)=false)(ad:¬(c.toNat:Int)=34)(ab:Qkk c=false) :
 Calls Tryz.prog 175 #[.string s,.int .i64 aa] w (QaK (Qct (s.data.toList.drop aa) aa) w):=by
 have HE:Hid (Qct (s.data.toList.drop aa) aa=.error ⟨2,aa⟩):=by
  show _=_
  rw[hd,QcR,if_neg (by rw[hl];decide),if_neg (by omega),if_neg (by rw[hg];decide),if_neg (by omega),if_neg (by rw[ab];decide)]
 have hsg':¬ 0<=Qxe c:=of_decide_eq_false ab;have ht:((aa:Int)==(s.size:Int))=false:=by simp;omega
 have h58':((c.toNat:Int)==58)=false:=by simpa using ac
 have h34':((c.toNat:Int)==34)=false:=by simpa using ad
 clear hd ac ad ab;go_enter func175,ntmps175;go_wp2_with (first|(go_at_call 142;refine(Qaz _ _).mono ?_;rintro e w' ⟨rfl,rfl⟩)|(go_at_call 143;refine(QaA _ _).mono ?_;rintro e w' ⟨rfl,rfl⟩)|(go_at_call 213;refine(QmC c _).mono ?_;rintro e w' ⟨rfl,rfl⟩)|(go_at_call 64;refine(Qa4 _ _ _).mono ?_;rintro e w' ⟨rfl,rfl⟩));exact⟨rfl,QaK.err HE.o (((Below.refl _ w).alloc (Nat.le_refl _) _).alloc (by simp) _) (Qb8 2 aa (by simp) (by simp))⟩
theorem Qut(s:ByteArray)(aa:Nat)(w:World)(hs:s.size<=4294967280)(ha:aa<=s.size) :
 Calls Tryz.prog 175 #[.string s,.int .i64 aa] w (QaK (Qct (s.data.toList.drop aa) aa) w):=by
 by_cases h:aa=s.size
 ·exact Qup s aa w h
 have ab:aa<s.size:=by omega
 have hd:=Qbf s aa ab;cases hl:Qbt (s[aa].toNat:Int)
 ·by_cases h58:(s[aa].toNat:Int)=58
  ·exact Qvz s aa _ _ w hs hd ab rfl hl h58
  cases hg:QaL (s[aa].toNat:Int)
  ·by_cases h34:(s[aa].toNat:Int)=34
   ·exact QrN s aa _ _ w hs hd ab rfl hl h58 hg h34
   cases hsg:Qkk s[aa]
   ·exact QuI s aa _ _ w hs hd ab rfl hl h58 hg h34 hsg
   ·exact Quc s aa _ _ w hs hd ab rfl hl h58 hg h34 hsg
  ·exact QoA s aa _ _ w hs hd ab rfl hl h58 hg
 ·exact Qod s aa _ _ w hs hd ab rfl hl
end
end Go.Proofs.YthkibedbcbgajaaGreatDoor
