import Derived.WalkSpells
import Derived.WalkLawsBesides
import Derived.BigQuiet
import Derived.Lib.AtoiErrMem
import Derived.Deep.RegionHeld3
import Derived.Deep.DrawnRows
import Derived.Test.YtgnkjijocdmniaaGreatDoorZPlainSem3
import Derived.Test.YtgnkjijocdmniaaGreatDoorShelf
namespace Go.Proofs.YtgnkjijocdmniaaGreatDoor
set_option linter.unusedVariables false
set_option linter.unusedSimpArgs false
set_option maxRecDepth 100000
set_option maxHeartbeats 4000000
open Go.Proofs.Tryz
open Go.RowKit
attribute [local go_sem ↓] Go.wp_at_zero Go.wp_at_succ
variable{B L b base g i k m mb n p sb size:Nat}{M:Msg}{P:Nat->Obj->Prop}{W u w w' w1:World}{a:Array Value}{acc l:L8}{c:UInt8}{d hv mv tv v:Value}{e t:TypeId}{f:L8->Option Value}{r xs:List Value}{s:ByteArray}{x:Wd}{zs:Qa}
theorem Qp(o:Obj):Go.RowKit.Below w.heap.size w (w.alloc o):=(Go.RowKit.Below.refl _ _).alloc (Nat.le_refl _) o
theorem I{p:Prop}(h:p):Hid p:=h
theorem _root_.Go.RowKit.Hid.o{p:Prop}(h:Go.RowKit.Hid p):p:=h
theorem Ys(b j:Nat):(⟨b,0,none⟩:Addr).add j=⟨b,j,none⟩:=by
 unfold Addr.add;split
 ·subst_vars;rfl
 ·simp
theorem QS{a b:Bool}(h:a=b):Ending.returned (.bool a)=.returned (.bool b):=by rw[h]
theorem Yg{k:IntKind}{a b:Int}(h:a=b):Ending.returned (.int k a)=.returned (.int k b):=by rw[h]
theorem Uw(c:Int)(w:World) :
 Calls prog 231 #[.int .u8 c] w fun e w'=>e=.returned (.bool (Zn c))/\w'=w:=by
 go_enter func231,ntmps231;go_wp2
 all_goals (go_ret;exact⟨QS (by simp[Zn, *]),rfl⟩)
theorem ZO(c:Int)(w:World) :
 Calls prog 227 #[.int .u8 c] w fun e w'=>e=.returned (.bool (QI c))/\w'=w:=by
 go_enter func227,ntmps227;go_wp2
 all_goals (go_ret;exact⟨QS (by simp[QI, *];try omega),rfl⟩)
theorem NG(c:Int)(w:World) :
 Calls prog 220 #[.int .u8 c] w fun e w'=>e=.returned (.bool (XT c))/\w'=w:=by
 go_enter func220,ntmps220;go_wp2
 all_goals (go_ret;exact⟨QS (by simp[XT, *];try omega),rfl⟩)
theorem N1(c:Int)(w:World) :
 Calls prog 257 #[.int .u8 c] w fun e w'=>e=.returned (.bool (YJ c))/\w'=w:=by
 go_enter func257,ntmps257;go_wp2
 all_goals (go_ret;exact⟨QS (by simp[YJ, *];try omega),rfl⟩)
theorem Z8(c:Int)(w:World) :
 Calls prog 224 #[.int .u8 c] w fun e w'=>e=.returned (.bool (QL c))/\w'=w:=by
 go_enter func224,ntmps224
 cases hsm:YJ c<;>cases hca:XT c <;>
 (go_wp2_with (first | (go_at_call 220;refine (NG _ _).mono ?_;rintro e w' ⟨rfl,rfl⟩) | (go_at_call 257;refine (N1 _ _).mono ?_;rintro e w' ⟨rfl,rfl⟩))
  all_goals (go_ret;exact ⟨QS (by rw [PW];simp [*]),rfl⟩))
theorem SY(s:ByteArray)(k:Nat)(h:k<s.size):s.data.toList.getD k 0=s[k]:=by
 rw[List.getD_eq_getElem?_getD,List.getElem?_eq_getElem (by simpa using h)];rfl
theorem P3(s:ByteArray)(n:Int)(w:World)(a:s.size<=maxLen)(b:0<=n)(h:n<s.size) :
 Calls prog 258 #[.string s,.int .i64 n] w fun e w'=>e=.returned (.int .u8 (s.data.toList.getD n.toNat 0).toNat)/\w'=w:=by
 unfold maxLen at a;go_enter func258,ntmps258;go_wp2
 all_goals (go_ret;exact⟨Yg (by rw[SY s _ (by omega)]),rfl⟩)
theorem MQ(s:ByteArray)(n:Int)(w:World)(a:s.size<=maxLen)(h:s.size<=n) :
 Calls prog 258 #[.string s,.int .i64 n] w fun e w'=>e=.returned (.int .u8 (s.data.toList.getD n.toNat 0).toNat)/\w'=w:=by
 unfold maxLen at a;go_enter func258,ntmps258;go_wp2
 all_goals (go_ret;exact⟨Yg (by rw[List.getD_eq_getElem?_getD,List.getElem?_eq_none (by simp;omega)];rfl),rfl⟩)
theorem MC(s:ByteArray)(n:Int)(w:World)(a:s.size<=maxLen)(b:0<=n) :
 Calls prog 258 #[.string s,.int .i64 n] w fun e w'=>e=.returned (.int .u8 (s.data.toList.getD n.toNat 0).toNat)/\w'=w:=by
 by_cases h:n<s.size
 ·exact P3 s n w a b h
 ·exact MQ s n w a (by omega)
def byteOf(s:ByteArray)(n:Int):UInt8:=s.data.toList.getD n.toNat 0
theorem GS(s:ByteArray)(n:Int)(w:World)(hs:s.size<=maxLen)(h0:0<=n) :
 Calls prog 258 #[.string s,.int .i64 n] w fun e w'=>e=.returned (.int .u8 (byteOf s n).toNat)/\w'=w:=MC s n w hs h0
theorem XJ(s:ByteArray)(k:Nat)(h:k<s.size):s.data.toList.drop k=s[k]::s.data.toList.drop (k+1):=by
 rw[List.drop_eq_getElem_cons (by simpa using h)];rfl
theorem VF(h:s.size=0):s.toList=[]:=by
 rw[ByteArray.toList_eq];apply Xz;simpa using h
theorem VI(h:¬ s.size=0):¬ s.toList=[]:=by
 rw[ByteArray.toList_eq];intro e;apply h;have:=congrArg List.length e;simpa using this
theorem Ol(s:ByteArray)(h:0<s.size)(a:QL (s[0].toNat:Int)=true):nameLen s.data.toList=1+Za (s.data.toList.drop 1):=by
 have e:=XJ s 0 h;rw[List.drop_zero]at e;rw[e];simp only[nameLen];rw[if_pos a];rfl
theorem Ix(s:ByteArray)(h:0<s.size)(a:QL (s[0].toNat:Int)=false):nameLen s.data.toList=0:=by
 have e:=XJ s 0 h;rw[List.drop_zero]at e;rw[e];simp only[nameLen];rw[if_neg (by rw[a];decide)]
theorem Hz(s:ByteArray)(k:Nat)(h:k<s.size):Za (s.data.toList.drop k)=if Q0 s[k]then 1+Za (s.data.toList.drop (k+1))else 0:=by
 rw[XJ s k h,VJ]
theorem Iq(s:ByteArray)(k:Nat)(h:s.size<=k):Za (s.data.toList.drop k)=0:=by
 rw[Zb (by simpa using h)];rfl
theorem Uq(s:ByteArray)(w:World)(j:s.size<=maxLen) :
 Calls prog 226 #[.string s] w fun e w'=>e=.returned (.int .i64 (nameLen s.data.toList))/\w'=w:=by
 unfold maxLen at j;by_cases h0:s.size=0
 ·have d:=VF h0;go_enter func226,ntmps226;go_wp2;go_ret;exact⟨Yg (by rw[<-ByteArray.toList_eq,d];rfl),rfl⟩
 have d:=VI h0;have l:s.toList.isEmpty=false:=by simpa using d
 have f:0<s.size:=by omega
 cases hl:QL (s[0].toNat:Int)
 ·have H:Hid (nameLen s.data.toList=0):=Ix s f hl;go_enter func226,ntmps226;go_wp2_with (go_at_call 224;refine(Z8 _ _).mono ?_;rintro e w' ⟨rfl,rfl⟩);go_ret;exact⟨Yg (by rw[H.o];rfl),rfl⟩
 ·have H:Hid (nameLen s.data.toList=1+Za (s.data.toList.drop 1)):=Ol s f hl;go_enter func226,ntmps226;go_wp2_with (go_at_call 224;refine(Z8 _ _).mono ?_;rintro e w' ⟨rfl,rfl⟩)
  go_loop [3] (fun i=>∃ k:Nat,k<=s.size/\i=.int .i64 k/\nameLen s.data.toList=k+Za (s.data.toList.drop k)) (fun i=>s.size - (intOf i).toNat)
  case atStart=>exact⟨1,by omega,rfl,H.o⟩
  case round=>
   obtain⟨k,m,rfl,g⟩:=hrel;have c:Hid (nameLen s.data.toList=k+Za (s.data.toList.drop k)):=g;clear g hl;by_cases hlt:k<s.size
   ·have b:Hid (Za (s.data.toList.drop k)=if Q0 s[k]then 1+Za (s.data.toList.drop (k+1))else 0):=Hz s k hlt;cases hc:QL (s[k].toNat:Int)
    ·cases hd:QI (s[k].toNat:Int)
     ·have a:Hid (Q0 s[k]=false):=by show Q0 s[k]=false;simp[Q0,hc,hd]
      go_wp2_with (first|(go_at_call 224;refine(Z8 _ _).mono ?_;rintro e w' ⟨rfl,rfl⟩)|(go_at_call 227;refine(ZO _ _).mono ?_;rintro e w' ⟨rfl,rfl⟩));go_ret;exact⟨Yg (by rw[c.o,b.o,a.o];simp),rfl⟩
     ·have a:Hid (Q0 s[k]=true):=by show Q0 s[k]=true;simp[Q0,hd]
      go_wp2_with (first|(go_at_call 224;refine(Z8 _ _).mono ?_;rintro e w' ⟨rfl,rfl⟩)|(go_at_call 227;refine(ZO _ _).mono ?_;rintro e w' ⟨rfl,rfl⟩));go_round
      case rel=>exact⟨k+1,by omega,by go_num,by rw[c.o,b.o,a.o];simp;omega⟩
      case measure=>simp[intOf];omega
    ·have a:Hid (Q0 s[k]=true):=by show Q0 s[k]=true;simp[Q0,hc]
     go_wp2_with (first|(go_at_call 224;refine(Z8 _ _).mono ?_;rintro e w' ⟨rfl,rfl⟩)|(go_at_call 227;refine(ZO _ _).mono ?_;rintro e w' ⟨rfl,rfl⟩));go_round
     case rel=>exact⟨k+1,by omega,by go_num,by rw[c.o,b.o,a.o];simp;omega⟩
     case measure=>simp[intOf];omega
   ·have b:Hid (Za (s.data.toList.drop k)=0):=Iq s k (by omega);go_wp2;go_ret;exact⟨Yg (by rw[c.o,b.o];simp),rfl⟩
theorem pt(l:List Value)(a:_)(d:Nat)(v:Value):Act.put ⟨l.toArray,a⟩ (some d) v=⟨(l.set d v).toArray,a⟩:=by simp[Act.put]
theorem sz(x y:Value)(l:List Value):(x::l).set 0 y=y::l:=rfl
theorem sc(x y:Value)(l:List Value)(n:Nat):(x::l).set (n+1) y=x::l.set n y:=rfl
theorem Qx{P:Program}{b:Array Oper}{Q:Exit->Act->World->Prop}{f:Region.Mode}{S:World->Prop}(i d:Nat)(v:Value){g:Oper}{fuel:Nat}{e:Array Bool}{a:Act}(hi:b[i]?=some g)(k:S w)(l:∀ w',S w'->(execOp a.eval g).run P w'=.ok (.value v) w')(h:wpAnyH P f b Q S fuel (e.setIfInBounds i true) (a.put (some d) v) w)
 (j:g.dst=some d:=by rfl) (hs:Region.noSelect b=true:=by kernel_rfl) (hf:Region.free f b e i=true:=by kernel_rfl) (hr:(Region.ready f b e).contains i=true:=by kernel_rfl) (hQ:∀ c a w,Q (.panic c) (a.put (some d) v) w->Q (.panic c) a w:=by exact fun _ _ _ h=>h) (hw:Region.wanted g (yielded b a.tmps)=true:=by rfl):wpAnyH P f b Q S (fuel+1) e a w:=
 wpAnyH_take hi hs hf hr (by rw[j];exact hQ) (Qd ⟨hw,l⟩) k (by rw[j];exact h)
def YF(s:ByteArray)(k j:Nat):UInt8:=if j<k then XK (s.data.toList.getD j 0)else s.data.toList.getD j 0
theorem Ci(c:UInt8)(h:XT (c.toNat:Int)=true):((XK c).toNat:Int)=(c.toNat:Int) - 65+97:=by
 have a:=h;unfold XT at a;simp at a;have e:XK c=c - 65+97:=by unfold XK;rw[if_pos h]
 rw[e,UInt8.toNat_add,UInt8.toNat_sub];simp;omega
theorem N7(c:UInt8)(h:XT (c.toNat:Int)=false):XK c=c:=by
 unfold XK;rw[if_neg (by rw[h];decide)]
theorem I0(s:ByteArray)(k j:Nat)(h:XT ((s.data.toList.getD k 0).toNat:Int)=false):YF s k j=YF s (k+1) j:=by
 unfold YF;by_cases e:j=k
 ·subst e;rw[if_neg (by omega),if_pos (by omega),N7 _ h]
 ·by_cases l:j<k
  ·rw[if_pos l,if_pos (by omega)]
  ·rw[if_neg l,if_neg (by omega)]
theorem F3(s:ByteArray)(k j:Nat)(e:¬ j=k):YF s k j=YF s (k+1) j:=by
 unfold YF;by_cases l:j<k
 ·rw[if_pos l,if_pos (by omega)]
 ·rw[if_neg l,if_neg (by omega)]
theorem IX(s:ByteArray)(k:Nat):YF s (k+1) k=XK (s.data.toList.getD k 0):=by
 unfold YF;rw[if_pos (by omega)]
theorem VT(s:ByteArray)(w:World)(L:s.size<=140737488355328) :
 Calls prog 181 #[.string s] w fun e w'=>e=.returned (.string ⟨(zL s.data.toList).toArray⟩)/\Below w.heap.size w w':=by
 have v:=Lib.run_convert_string_bytes (P:=prog) w 9 198 5 s (u:=.string) underlying9 underlying198 underlying5;have d:=Lib.bytesWorld_below w 5 s
 have g:∀ j,j<s.size->(Lib.bytesWorld w 5 s).cell? ⟨w.heap.size,j,none⟩=some (.int .u8 (YF s 0 j).toNat):=fun j hj=>by
  rw[Lib.bytesWorld_cell w 5 s j hj];simp[YF]
 have l:∀ j,j<s.size->(Lib.bytesWorld w 5 s).frozen? ⟨w.heap.size,j,none⟩=false:=fun j hj=>by
  unfold World.frozen?;rw[Lib.bytesWorld_at_new];simp[Lib.bytesCells];omega
 have n:=Lib.bytesWorld_size w 5 s;generalize Lib.bytesWorld w 5 s=W1 at v d g l n
 have x:∀(wr:World),(∀ j,j<s.size->wr.cell? ⟨w.heap.size,j,none⟩=some (.int .u8 (YF s s.size j).toNat))->
  ∀ C,(convert 198 9 (.slice (some ⟨w.heap.size,0,none⟩) s.size C)).run prog wr=.ok (.string ⟨(zL s.data.toList).toArray⟩) wr:=fun wr E C=>by
  have B:(zL s.data.toList).length=s.size:=by simp[zL]
  have:=run_convert_bytes_back (P:=prog) wr 198 9 5 ⟨w.heap.size,0,none⟩ C (zL s.data.toList) underlying198 underlying5 underlying9 (fun j hj=>by
   rw[Ys,E j (by omega)];have hj':j<s.data.toList.length:=by simp[zL]at hj;simpa using hj
   simp only[YF,zL,List.getElem_map]
   rw [if_pos (by omega),List.getD_eq_getElem?_getD,List.getElem?_eq_getElem hj'];rfl)
  rw[B]at this;exact this
 have z:=I x;clear x;go_enter func181,ntmps181;go_wp2_with fail;generalize grownCap w s.size 0 5=C at *
 go_loopw [4,5,10] (fun _ _ i wr=>∃ k:Nat,k<=s.size/\i=.int .i64 k/\Below w.heap.size w wr/\(∀ j,j<s.size->wr.cell? ⟨w.heap.size,j,none⟩=some (.int .u8 (YF s k j).toNat))/\(∀ j,j<s.size->wr.frozen? ⟨w.heap.size,j,none⟩=false)/\wr.heap.size=w.heap.size+1) (fun _ _ i _=>s.size - (intOf i).toNat)
 case atStart=>exact⟨0,by omega,rfl,d,g,l,n⟩
 case round=>
  obtain⟨k,J,rfl,f,a,m,y⟩:=hrel;clear d g l n v;by_cases hlt:k<s.size
  ·have b:=a k hlt;have H:=m k hlt;simp only[YF]at b;rw[if_neg (by omega)]at b;generalize hcd:s.data.toList.getD k 0=c at b;have q:=I hcd;clear hcd;have F:=UInt8.toNat_lt c;have p:=I a;have r:=I m;clear a m;cases hc:XT (c.toNat:Int)
   ·go_wp2_with (go_at_call 220;refine(NG _ _).mono ?_;rintro e w' ⟨rfl,rfl⟩);refine⟨⟨k+1,by omega,by go_num,f,fun j hj=>?_,r.o,y⟩,by simp[intOf];omega⟩;rw[p.o j hj,I0 s k j (by rw[q.o];exact hc)]
   ·have D:=I (Ci c hc);have t:65<=(c.toNat:Int)/\(c.toNat:Int)<=90:=by unfold XT at hc;simpa using hc
    obtain⟨t,G⟩:=t;go_wp2_with (go_at_call 220;refine(NG _ _).mono ?_;rintro e w' ⟨rfl,rfl⟩);refine⟨⟨k+1,by omega,by go_num,?_,fun j hj=>?_,fun j hj=>?_,?_⟩,by simp[intOf];omega⟩
    ·exact f.setCell Ql _
    ·by_cases e:j=k
     ·subst e;rw[World.cell?_setCell_same _ _ _ b,IX,q.o];rw[D.o]
     ·rw[World.cell?_setCell_other _ _ _ _ (by simp[e]),p.o j hj,F3 s k j e]
    ·rw[World.frozen?_setCell];exact r.o j hj
    ·simpa using y
  ·have A:k=s.size:=by omega
   subst A;have K:=z.o wr a C;go_wp2;go_ret;exact⟨rfl,f⟩
def ZS(f:Flt)(w:World)(e:Ending)(w':World):Prop:=
 ∃ b,w.heap.size<=b/\e=.panicked [{ v:=.iface 125 (.pointer (some ⟨b,0,none⟩)),recovered:=false }]/\
  w'.heap[b]?=some (.cells #[.int .i64 f.err,.int .i64 f.pos] 130)
theorem Xn(b a:Int)(w:World) :
 Calls prog 103 #[.int .i64 b,.int .i64 a] w fun e w'=>e=.returned (.pointer (some ⟨w.heap.size,0,none⟩))/\w'=w.alloc (.cells #[.int .i64 b,.int .i64 a] 130):=by
 go_enter func103,ntmps103;go_wp2;go_ret;exact⟨rfl,rfl⟩
theorem Ow(l:L8)(h:Lib.indexByte l 10<0):(lineLen l:Int)=l.length:=by unfold lineLen;rw[if_pos h]
theorem MG(l:L8)(h:¬ Lib.indexByte l 10<0):(lineLen l:Int)=Lib.indexByte l 10+1:=by unfold lineLen;rw[if_neg h];omega
theorem FH(s:ByteArray)(w:World)(i:s.size<=140737488355328) :
 Calls prog 232 #[.string s] w fun e w'=>e=.returned (.int .i64 (lineLen s.data.toList))/\w'=w:=by
 have d:=NT s.data.toList 10;have g:=Lib.indexByte_ge s.data.toList 10;have b:=I (Ow s.data.toList);have c:=I (MG s.data.toList);have a:(s.data.toList.length:Int)=s.size:=by simp
 rw[a]at d;have f:(Int.toNat 10).toUInt8=(10:UInt8):=rfl;by_cases hn:Lib.indexByte s.data.toList 10<0
 ·go_enter func232,ntmps232;go_wp2_with (go_at_call 230;refine(Tryz.strings_IndexByte _ _ _).mono ?_;rintro e w' ⟨rfl,rfl⟩);go_ret;exact⟨Yg (by rw[b.o hn,a]),rfl⟩
 ·go_enter func232,ntmps232;go_wp2_with (go_at_call 230;refine(Tryz.strings_IndexByte _ _ _).mono ?_;rintro e w' ⟨rfl,rfl⟩);go_ret;exact⟨Yg (by rw[c.o (by omega)]),rfl⟩
theorem VE(s:ByteArray)(a:Nat):(s.extract a s.size).data.toList=s.data.toList.drop a:=by
 rw[ByteArray.data_extract,Array.toList_extract,List.extract_eq_take_drop];rw[List.take_of_length_le];simp
theorem GB(s:ByteArray)(a:Nat):(s.extract a s.size).size=s.size - a:=by
 rw[Lib.size_eq,VE];simp
theorem PX(f p:Nat):Q7 f [] p=.ok p:=by cases f<;>rfl
theorem Lm(f p:Nat)(c:UInt8)(r:L8)(h:Zn c.toNat=true):Q7 (f+1) (c::r) p=Q7 f r (p+1):=by
 simp only[Q7];rw[if_pos h]
theorem OG(f p:Nat)(c:UInt8)(r:L8)(h:Zn c.toNat=false)(a:c.toNat=35):Q7 (f+1) (c::r) p=Q7 f ((c::r).drop (lineLen (c::r))) (p+lineLen (c::r)):=by
 simp only[Q7];rw[if_neg (by rw[h];decide),if_pos a]
theorem M5(f p:Nat)(c:UInt8)(r:L8)(h:Zn c.toNat=false)(a:¬ c.toNat=35)(b:Lib.hasPrefix (c::r) [47,42]=true)(d:Lib.index (r.drop 1) [42,47]<0):Q7 (f+1) (c::r) p=.error ⟨2,p⟩:=by
 simp only[Q7];rw[if_neg (by rw[h];decide),if_neg a,if_pos b,if_pos d]
theorem Om(f p:Nat)(c:UInt8)(r:L8)(h:Zn c.toNat=false)(a:¬ c.toNat=35)(b:Lib.hasPrefix (c::r) [47,42]=true)(d:¬ Lib.index (r.drop 1) [42,47]<0):Q7 (f+1) (c::r) p=Q7 f ((c::r).drop (4+(Lib.index (r.drop 1) [42,47]).toNat)) (p+(4+(Lib.index (r.drop 1) [42,47]).toNat)):=by
 simp only[Q7];rw[if_neg (by rw[h];decide),if_neg a,if_pos b,if_neg d]
theorem OR(f p:Nat)(c:UInt8)(r:L8)(h:Zn c.toNat=false)(a:¬ c.toNat=35)(b:Lib.hasPrefix (c::r) [47,42]=false):Q7 (f+1) (c::r) p=.ok p:=by
 simp only[Q7];rw[if_neg (by rw[h];decide),if_neg a,if_neg (by rw[b];decide)]
theorem Hv(l:L8)(a b:UInt8)(h:Lib.hasPrefix l [a,b]=true):2<=l.length:=by
 have:=(List.isPrefixOf_iff_prefix.1 h).length_le;simpa using this
def JM(r:Qb Nat)(w:World)(e:Ending)(w':World):Prop:=
 match r with
 | .ok n=>e=.returned (.int .i64 n)/\w'=w
 | .error f=>ZS f w e w'/\Below w.heap.size w w'
theorem JM.ok{r:Qb Nat}{n:Nat}{w:World}{x:Int}(h:r=.ok n)(a:x=n):JM r w (.returned (.int .i64 x)) w:=by
 subst h;subst a;exact⟨rfl,rfl⟩
theorem C8(a p:Nat)(w:World):ZS ⟨a,p⟩ w (.panicked [{ v:=.iface 125 (.pointer (some ⟨w.heap.size,0,none⟩)),recovered:=false }]) (w.alloc (.cells #[.int .i64 a,.int .i64 p] 130)):=by
 refine⟨w.heap.size,Nat.le_refl _,rfl,?_⟩;show(w.heap.push _)[w.heap.size]?=_
 simp
theorem JM.err{r:Qb Nat}{a:Nat}(h:r=.error ⟨a,p⟩) :
 JM r w (.panicked [{ v:=.iface 125 (.pointer (some ⟨w.heap.size,0,none⟩)),recovered:=false }]) (w.alloc (.cells #[.int .i64 a,.int .i64 p] 130)):=by
 subst h;exact⟨C8 a p w,Qp _⟩
theorem SH(s:ByteArray)(n t:Nat)(m:Int)(w:World)(W:s.size<=4294967280)(K:n<=s.size)(L:s.size - n<t)(A:w.cell? ⟨1,0,none⟩=some (.int .i64 m)) :
 Calls prog 194 #[.string s,.int .i64 n] w (JM (Q7 t (s.data.toList.drop n) n) w):=by
 go_enter func194,ntmps194;go_wp2_with fail
 go_loop [1,5,6] (fun a _ _=>∃ k f:Nat,k<=s.size/\s.size - k<f/\a=.int .i64 k/\Q7 t (s.data.toList.drop n) n=Q7 f (s.data.toList.drop k) k) (fun a _ _=>s.size - (intOf a).toNat)
 case atStart=>exact⟨n,t,K,L,rfl,rfl⟩
 case round=>
  obtain⟨k,f,S,T,rfl,z⟩:=hrel;obtain⟨f,rfl⟩:∃ g,f=g+1:=⟨f - 1,by omega⟩;have q:=I z;clear z;by_cases hlt:k<s.size
  ·have r:=XJ s k hlt;obtain⟨b,B⟩:=Qe (s.extract k s.size);have p:Hid (b.data.toList=s.data.toList.drop k):=by rw[<-B];exact VE s k
   have D:b.size=s.size - k:=by rw[<-B];exact GB s k
   have N:0<b.size:=by omega
   have X:b.size<=s.size - k:=by omega
   have Q:=I D;clear D
   have G:b[0]=s[k]:=by
    have e:=p.o;rw[r]at e;have y:=XJ b 0 N;rw[List.drop_zero,e]at y;exact(List.cons.inj y).1.symm
   generalize hcd:s[k]=c at G r;clear hcd;rw[r]at q;have l:=I r;clear r;cases hb:Zn (c.toNat:Int)
   ·by_cases h35:(c.toNat:Int)=35
    ·have j:=I (OG f k c (s.data.toList.drop (k+1)) hb (by omega));have M:=CO b.data.toList;have U:1<=lineLen b.data.toList:=by rw[p.o,l.o];exact NX _ _
     have u:b.data.toList.length=b.size:=by simp
     rw[u]at M;have J:((c.toNat:Int)==35)=true:=by simpa using h35
     clear h35;have F:Hid (lineLen (c::s.data.toList.drop (k+1))=lineLen b.data.toList):=by show _=_;rw[p.o,l.o]
     go_wp2_with (first|(go_at_call 231;refine(Uw _ _).mono ?_;rintro e i ⟨rfl,rfl⟩)|(go_at_call 232;refine(FH _ _ (by omega)).mono ?_;rintro e i ⟨rfl,rfl⟩));refine⟨⟨k+lineLen b.data.toList,f,by omega,by omega,by go_num,?_⟩,by simp[intOf];omega⟩;rw[q.o,j.o,F.o,<-l.o,List.drop_drop]
    ·have J:((c.toNat:Int)==35)=false:=by simpa using h35
     cases hp:Lib.hasPrefix b.data.toList [47,42]
     ·have j:=I (OR f k c (s.data.toList.drop (k+1)) hb (by omega) (by rw[<-l.o,<-p.o];exact hp));clear h35;go_wp2_with (first|(go_at_call 231;refine(Uw _ _).mono ?_;rintro e i ⟨rfl,rfl⟩)|(go_at_call 233;refine(Tryz.strings_HasPrefix _ _ _).mono ?_;rintro e i ⟨rfl,rfl⟩));go_ret;exact JM.ok (by rw[q.o,j.o]) rfl
     ·have H:=Hv _ _ _ hp;have u:b.data.toList.length=b.size:=by simp
      rw[u]at H;obtain⟨d,C⟩:=Qe (b.extract 2 b.size)
      have x:Hid (d.data.toList=(s.data.toList.drop (k+1)).drop 1):=by
       show _=_
       rw[<-C,VE,p.o,l.o];rfl
      have P:d.size=b.size - 2:=by rw[<-C];exact GB b 2
      have Y:d.size<=b.size - 2:=by omega
      have E:(d.data.toList.length:Int)=d.size:=by simp
      have v:=Cw d.data.toList [42,47];rw[E]at v;have R:=Lib.index_ge d.data.toList [42,47];clear P u E;by_cases hi:Lib.index d.data.toList [42,47]<0
      ·have j:=I (M5 f k c (s.data.toList.drop (k+1)) hb (by omega) (by rw[<-l.o,<-p.o];exact hp) (by rw[<-x.o];exact hi));clear h35 v;go_wp2_with (first|(go_at_call 231;refine(Uw _ _).mono ?_;rintro e i ⟨rfl,rfl⟩)|(go_at_call 233;refine(Tryz.strings_HasPrefix _ _ _).mono ?_;rintro e i ⟨rfl,rfl⟩)|(go_at_call 234;refine(Tryz.strings_Index _ _ m _ (by omega) A).mono ?_;rintro e i ⟨rfl,rfl⟩)|(go_at_call 103;refine(Xn _ _ _).mono ?_;rintro e i ⟨rfl,rfl⟩));exact⟨rfl,JM.err (by rw[q.o,j.o])⟩
      ·have V:Lib.index d.data.toList [42,47]+2<=d.size:=by
        rcases v with h|h
        ·exact absurd h hi
        ·simpa using h
       have j:=I (Om f k c (s.data.toList.drop (k+1)) hb (by omega) (by rw[<-l.o,<-p.o];exact hp) (by rw[<-x.o];exact hi));clear h35 v;go_wp2_with (first|(go_at_call 231;refine(Uw _ _).mono ?_;rintro e i ⟨rfl,rfl⟩)|(go_at_call 233;refine(Tryz.strings_HasPrefix _ _ _).mono ?_;rintro e i ⟨rfl,rfl⟩)|(go_at_call 234;refine(Tryz.strings_Index _ _ m _ (by omega) A).mono ?_;rintro e i ⟨rfl,rfl⟩)|(go_at_call 103;refine(Xn _ _ _).mono ?_;rintro e i ⟨rfl,rfl⟩));refine⟨⟨k+(4+(Lib.index d.data.toList [42,47]).toNat),f,by omega,by omega,congrArg _ (by omega),?_⟩,by simp[intOf];omega⟩;rw[q.o,j.o,<-x.o,<-l.o,List.drop_drop]
   ·have j:=I (Lm f k c (s.data.toList.drop (k+1)) hb);go_wp2_with (first|(go_at_call 231;refine(Uw _ _).mono ?_;rintro e i ⟨rfl,rfl⟩));go_round
    case rel=>exact⟨k+1,f,by omega,by omega,by go_num,by rw[q.o,j.o]⟩
    case measure=>simp[intOf];omega
  ·go_wp2;go_ret;exact JM.ok (by rw[q.o,Zb (by simp;omega),PX]) rfl
theorem IW(s:ByteArray)(a n:Nat):(s.extract a (a+n)).data.toList=(s.data.toList.drop a).take n:=by
 rw[ByteArray.data_extract,Array.toList_extract,List.extract_eq_take_drop];rw[show a+n - a=n from by omega]
theorem Vp(hb:Below W.heap.size W w1):(∀ b o,b<W.heap.size->w1.cell? ⟨b,o,none⟩=W.cell? ⟨b,o,none⟩)/\(∀ b o,b<W.heap.size->w1.frozen? ⟨b,o,none⟩=W.frozen? ⟨b,o,none⟩):=
 ⟨fun b o h=>hb.cell (p:=⟨b,o,none⟩) h,fun b o h=>hb.frozen (p:=⟨b,o,none⟩) h⟩
def wdV(x:Wd):Value:=.agg #[.int .i64 x.kind,.int .i64 x.pos,.string ⟨x.spelt.toArray⟩,.string ⟨x.said.toArray⟩,.int .i64 x.num]
def Zf(r:Qb (Wd×Nat))(w:World)(e:Ending)(w':World):Prop:=
 Below w.heap.size w w'/\
 match r with
 | .ok x=>e=.returned (.tuple #[wdV x.1,.int .i64 x.2])
 | .error f=>ZS f w e w'
theorem Zf.ok{r:Qb (Wd×Nat)}{x:Wd×Nat}{w w':World}{v:Value}{n:Int}(h:r=.ok x)(a:Below w.heap.size w w')(c:v=wdV x.1)(b:n=x.2):Zf r w (.returned (.tuple #[v,.int .i64 n])) w':=by
 subst h;subst c;subst b;exact⟨a,rfl⟩
theorem Zf.err{r:Qb (Wd×Nat)}{f:Flt}{e:Ending}(h:r=.error f)(a:Below w.heap.size w w')(b:ZS f w e w'):Zf r w e w':=by
 subst h;exact⟨a,b⟩
theorem ZS.up{f:Flt}{e:Ending}(h:ZS f w1 e w')(c:w.heap.size<=w1.heap.size):ZS f w e w':=by
 obtain⟨b,a,h⟩:=h;exact⟨b,Qs c a,h⟩
theorem YT(a p:Nat)(d:w.heap.size<=w1.heap.size)(c:b=w1.heap.size) :
 ZS ⟨a,p⟩ w (.panicked [{ v:=.iface 125 (.pointer (some ⟨b,0,none⟩)),recovered:=false }]) (w1.alloc (.cells #[.int .i64 a,.int .i64 p] 130)):=by
 subst c;exact(C8 a p w1).up d
theorem Hx(k:Int)(s:ByteArray)(a n:Nat)(w:World)(r:s.size<=4294967280)(p:a+n<=s.size) :
 Calls prog 225 #[.int .i64 k,.string s,.int .i64 a,.int .i64 n] w fun e w'=>
  e=.returned (.tuple #[.agg #[.int .i64 k,.int .i64 a,.string ⟨(zL ((s.data.toList.drop a).take n)).toArray⟩,.string ⟨#[]⟩,.int .i64 0],.int .i64 (a+n:Nat)])/\Below w.heap.size w w':=by
 obtain⟨b,l⟩:=Qe (s.extract a (a+n));have d:Hid (b.data.toList=(s.data.toList.drop a).take n):=by rw[<-l];exact IW s a n
 have t:b.size<=s.size:=by
  rw[Lib.size_eq,d.o];simp;omega
 go_enter func225,ntmps225;go_wp2_with fail;refine(VT b _ (by omega)).mono ?_;rintro e f ⟨rfl,c⟩;rw[d.o];obtain⟨j,q⟩:=Vp c;have m:w.heap.size<f.heap.size:=by have:=c.size;simp at this;omega
 have g:=I c;clear c;go_wp2;have i:Below w.heap.size w f:=(Qp _).trans (g.o.mono (by simp));refine bodyPost_ret (v:=.tuple #[.agg #[.int .i64 k,.int .i64 a,.string ⟨(zL ((s.data.toList.drop a).take n)).toArray⟩,.string ⟨#[]⟩,.int .i64 0],.int .i64 (a+n:Nat)]) (by simp[results,results225,go_sem,j,m]) rfl ⟨rfl,?_⟩;exact((((i.setCell Ql _).setCell Ql _).setCell Ql _).setCell Ql _).setCell Ql _
def K6(v:Nat)(l:L8):Nat:=(l.takeWhile fun c=>QI c.toNat).foldl X3 v
theorem Lb(l:L8):Yx l=K6 0 l:=rfl
theorem LP(v:Nat):K6 v []=v:=rfl
theorem H8(v:Nat)(c:UInt8)(r:L8)(h:QI c.toNat=true):K6 v (c::r)=K6 (X3 v c) r:=by
 simp[K6,List.takeWhile_cons,h]
theorem H9(v:Nat)(c:UInt8)(r:L8)(h:QI c.toNat=false):K6 v (c::r)=v:=by
 simp[K6,List.takeWhile_cons,h]
theorem Lz(c:UInt8)(r:L8)(h:QI c.toNat=true):Zd (c::r)=1+Zd r:=by
 simp[Zd,List.takeWhile_cons,h];omega
theorem LM(c:UInt8)(r:L8)(h:QI c.toNat=false):Zd (c::r)=0:=by
 simp[Zd,List.takeWhile_cons,h]
theorem Mr:Zd []=0:=rfl
theorem OA(v:Nat)(c:UInt8):X3 v c<=2147483648:=by unfold X3;omega
theorem N3(b:L8)(p v j v' c:Nat)(a d:UInt8)(k:Yx b=v)(g:Zd b=j)(e:b.getD j 0=a)
 (l:v'=if isM a then v*1048576 else if isK a then v*1024 else v) (i:c=if isM a || isK a then j+1 else j) (f:b.getD c 0=d) :
 sNL b p=if Q0 d then .error ⟨2,p⟩else if 2147483647<v' then .error ⟨3,p⟩else .ok (⟨4,p,[],[],v'⟩,p+c):=by
 subst k;subst g;subst e;subst l;subst i;subst f;rfl
theorem GO(s:ByteArray)(a j:Nat)(x:Int)(h:x=(a+j:Nat)):(s.data.toList.drop a).getD j 0=byteOf s x:=by
 subst h;unfold byteOf;rw[List.getD_eq_getElem?_getD,List.getElem?_drop,Int.toNat_natCast,List.getD_eq_getElem?_getD]
theorem U3(h:QL (c.toNat:Int)=true\/QI (c.toNat:Int)=true):Q0 c=true:=by
 unfold Q0;rcases h with h|h<;>simp[h]
theorem NS(h:QL (c.toNat:Int)=false)(a:QI (c.toNat:Int)=false):Q0 c=false:=by
 unfold Q0;simp[h,a]
theorem five_ways(c:UInt8):((c.toNat:Int)==77)=true\/(((c.toNat:Int)==77)=false/\((c.toNat:Int)==109)=true)\/
 (((c.toNat:Int)==77)=false/\((c.toNat:Int)==109)=false/\((c.toNat:Int)==75)=true)\/
 (((c.toNat:Int)==77)=false/\((c.toNat:Int)==109)=false/\((c.toNat:Int)==75)=false/\((c.toNat:Int)==107)=true)\/
 (((c.toNat:Int)==77)=false/\((c.toNat:Int)==109)=false/\((c.toNat:Int)==75)=false/\((c.toNat:Int)==107)=false):=by
 cases((c.toNat:Int)==77)<;>cases((c.toNat:Int)==109)<;>cases((c.toNat:Int)==75)<;>cases((c.toNat:Int)==107)<;>simp
theorem Nq(h:((c.toNat:Int)==77)=true\/((c.toNat:Int)==109)=true):isM c=true:=by
 unfold isM;simp at h ⊢;omega
theorem Ni(h:((c.toNat:Int)==77)=false)(a:((c.toNat:Int)==109)=false):isM c=false:=by
 unfold isM;simp at h a ⊢;omega
theorem No(h:((c.toNat:Int)==75)=true\/((c.toNat:Int)==107)=true):isK c=true:=by
 unfold isK;simp at h ⊢;omega
theorem EK(h:((c.toNat:Int)==75)=false)(a:((c.toNat:Int)==107)=false):isK c=false:=by
 unfold isK;simp at h a ⊢;omega
theorem FJ(s:ByteArray)(d:Nat)(w:World)(P:s.size<=4294967280)(K:d<=s.size) :
 Calls prog 228 #[.string s,.int .i64 d] w (Zf (sNL (s.data.toList.drop d) d) w):=by
 go_enter func228,ntmps228;go_wp2_with fail
 go_loop [6,7] (fun a b=>∃ j v:Nat,d+j<=s.size/\v<=2147483648/\a=.int .i64 v/\b=.int .i64 (d+j:Nat)/\Yx (s.data.toList.drop d)=K6 v (s.data.toList.drop (d+j))/\Zd (s.data.toList.drop d)=j+Zd (s.data.toList.drop (d+j))) (fun _ b=>s.size - (intOf b).toNat)
 case atStart=>exact⟨0,0,by omega,by omega,rfl,by simp,by rw[Lb];rfl,by simp⟩
 case round=>
  obtain⟨j,v,N,Q,rfl,rfl,G,F⟩:=hrel;have B:=I G;have y:=I F;clear G F;by_cases hgo:∃ h:d+j<s.size,QI (s[d+j].toNat:Int)=true
  ·obtain⟨m,p⟩:=hgo;have D:=I (XJ s (d+j) m);obtain⟨c,x⟩:=Qe (s[d+j]);rw[x]at p D;have J:48<=(c.toNat:Int)/\(c.toNat:Int)<=57:=by unfold QI at p;simpa using p
   obtain⟨L,M⟩:=J;go_wp2_with (go_at_call 227;refine(ZO _ _).mono ?_;rintro e g ⟨rfl,rfl⟩);refine⟨⟨j+1,X3 v c,by omega,OA v c,?_,congrArg _ (by omega),?_,?_⟩,by simp[intOf];omega⟩
   ·refine congrArg _ ?_;unfold X3;omega
   ·rw[B.o,D.o,H8 _ _ _ p];rfl
   ·rw[y.o,D.o,Lz _ _ p,show d+j+1=d+(j+1)from rfl];omega
  ·have C:Hid (Yx (s.data.toList.drop d)=v):=by
    show _=_
    rw[B.o];by_cases m:d+j<s.size
    ·rw[XJ s _ m,H9];cases h:QI (s[d+j].toNat:Int)
     ·rfl
     ·exact absurd ⟨m,h⟩ hgo
    ·rw[Zb (by simp;omega),LP]
   have z:Hid (Zd (s.data.toList.drop d)=j):=by
    show _=_
    rw[y.o];by_cases m:d+j<s.size
    ·rw[XJ s _ m,LM]
     ·rfl
     ·cases h:QI (s[d+j].toNat:Int)
      ·rfl
      ·exact absurd ⟨m,h⟩ hgo
    ·rw[Zb (by simp;omega),Mr];rfl
   clear B y;have A:=I hgo;clear hgo;by_cases m:d+j<s.size
   have p:QI (s[d+j].toNat:Int)=false:=by
    cases h:QI (s[d+j].toNat:Int)
    ·rfl
    ·exact absurd ⟨m,h⟩ A.o
   obtain⟨c,x⟩:=Qe (s[d+j]);rw[x]at p;clear A;go_wp2_with (go_at_call 227;refine(ZO _ _).mono ?_;rintro e g ⟨rfl,rfl⟩);clear x p;rotate_left;clear A;go_wp2_with (go_at_call 227;refine(ZO _ _).mono ?_;rintro e g ⟨rfl,rfl⟩)
   all_goals
    refine(GS s _ _ (by unfold maxLen;omega) (by omega)).mono ?_;rintro e E ⟨rfl,rfl⟩;have q:=I (GO s d j (↑d+↑j) (by omega));generalize byteOf s (↑d+↑j)=c1 at q;rcases five_ways c1 with k | ⟨k,l⟩ | ⟨k,l,r⟩ | ⟨k,l,r,t⟩ | ⟨k,l,r,t⟩
    iterate 2
     ·have n:Hid (∀ i,byteOf s (↑d+↑j+1)=i->sNL (s.data.toList.drop d) d=if Q0 i then .error ⟨2,d⟩else if 2147483647<v*1048576 then .error ⟨3,d⟩else .ok (⟨4,d,[],[],v*1048576⟩,d+(j+1))):=fun i u=>
       N3 _ d v j (v*1048576) (j+1) c1 i C.o z.o q.o (by first|(rw[Nq (Qd k)];rfl)|(rw[Nq (Qc l)];rfl)) (by first|(rw[Nq (Qd k)];rfl)|(rw[Nq (Qc l)];rfl)) (by rw[GO s d (j+1) (↑d+↑j+1) (by omega)];exact u)
      clear q;go_wp2_with fail;refine(GS s _ _ (by unfold maxLen;omega) (by omega)).mono ?_;rintro e E ⟨rfl,rfl⟩;have f:=I (n.o _ rfl);clear n;generalize byteOf s (↑d+↑j+1)=i at f;cases hl:QL (i.toNat:Int)
      ·cases hdd:QI (i.toNat:Int)
       ·rw[NS hl hdd]at f;by_cases hbig:2147483647<v*1048576
        ·rw[if_neg (by decide),if_pos hbig]at f;have H:(2147483647:Int)<(v:Int)*1024*1024:=by omega
         go_wp2_with (first|(go_at_call 224;refine(Z8 _ _).mono ?_;rintro e g ⟨rfl,rfl⟩)|(go_at_call 227;refine(ZO _ _).mono ?_;rintro e g ⟨rfl,rfl⟩)|(go_at_call 103;refine(Xn _ _ _).mono ?_;rintro e g ⟨rfl,rfl⟩));exact⟨rfl,Zf.err f.o ((Qp _).alloc (by simp) _) (YT 3 d (by simp) (by simp))⟩
        ·rw[if_neg (by decide),if_neg hbig]at f;go_wp2_with (first|(go_at_call 224;refine(Z8 _ _).mono ?_;rintro e g ⟨rfl,rfl⟩)|(go_at_call 227;refine(ZO _ _).mono ?_;rintro e g ⟨rfl,rfl⟩)|(go_at_call 103;refine(Xn _ _ _).mono ?_;rintro e g ⟨rfl,rfl⟩));refine bodyPost_ret (v:=.tuple #[.agg #[.int .i64 4,.int .i64 d,.string ⟨#[]⟩,.string ⟨#[]⟩,.int .i64 ((v:Int)*1024*1024)],.int .i64 (↑d+↑j+1)]) (by simp[results,results228,go_sem]) rfl (Zf.ok f.o (Qp _) ?_ ?_)
         ·simp[wdV];try omega
         ·simp;try omega
       ·rw[U3 (Qc hdd)]at f;rw[if_pos rfl]at f;go_wp2_with (first|(go_at_call 224;refine(Z8 _ _).mono ?_;rintro e g ⟨rfl,rfl⟩)|(go_at_call 227;refine(ZO _ _).mono ?_;rintro e g ⟨rfl,rfl⟩)|(go_at_call 103;refine(Xn _ _ _).mono ?_;rintro e g ⟨rfl,rfl⟩));exact⟨rfl,Zf.err f.o ((Qp _).alloc (by simp) _) (YT 2 d (by simp) (by simp))⟩
      ·rw[U3 (Qd hl)]at f;rw[if_pos rfl]at f;go_wp2_with (first|(go_at_call 224;refine(Z8 _ _).mono ?_;rintro e g ⟨rfl,rfl⟩)|(go_at_call 227;refine(ZO _ _).mono ?_;rintro e g ⟨rfl,rfl⟩)|(go_at_call 103;refine(Xn _ _ _).mono ?_;rintro e g ⟨rfl,rfl⟩));exact⟨rfl,Zf.err f.o ((Qp _).alloc (by simp) _) (YT 2 d (by simp) (by simp))⟩
    iterate 2
     ·have n:Hid (∀ i,byteOf s (↑d+↑j+1)=i->sNL (s.data.toList.drop d) d=if Q0 i then .error ⟨2,d⟩else if 2147483647<v*1024 then .error ⟨3,d⟩else .ok (⟨4,d,[],[],v*1024⟩,d+(j+1))):=fun i u=>
       N3 _ d v j (v*1024) (j+1) c1 i C.o z.o q.o (by rw[Ni k l];first|(rw[No (Qd r)];rfl)|(rw[No (Qc t)];rfl)) (by rw[Ni k l];first|(rw[No (Qd r)];rfl)|(rw[No (Qc t)];rfl)) (by rw[GO s d (j+1) (↑d+↑j+1) (by omega)];exact u)
      clear q;go_wp2_with fail;refine(GS s _ _ (by unfold maxLen;omega) (by omega)).mono ?_;rintro e E ⟨rfl,rfl⟩;have f:=I (n.o _ rfl);clear n;generalize byteOf s (↑d+↑j+1)=i at f;cases hl:QL (i.toNat:Int)
      ·cases hdd:QI (i.toNat:Int)
       ·rw[NS hl hdd]at f;by_cases hbig:2147483647<v*1024
        ·rw[if_neg (by decide),if_pos hbig]at f;have H:(2147483647:Int)<(v:Int)*1024:=by omega
         go_wp2_with (first|(go_at_call 224;refine(Z8 _ _).mono ?_;rintro e g ⟨rfl,rfl⟩)|(go_at_call 227;refine(ZO _ _).mono ?_;rintro e g ⟨rfl,rfl⟩)|(go_at_call 103;refine(Xn _ _ _).mono ?_;rintro e g ⟨rfl,rfl⟩));exact⟨rfl,Zf.err f.o ((Qp _).alloc (by simp) _) (YT 3 d (by simp) (by simp))⟩
        ·rw[if_neg (by decide),if_neg hbig]at f;go_wp2_with (first|(go_at_call 224;refine(Z8 _ _).mono ?_;rintro e g ⟨rfl,rfl⟩)|(go_at_call 227;refine(ZO _ _).mono ?_;rintro e g ⟨rfl,rfl⟩)|(go_at_call 103;refine(Xn _ _ _).mono ?_;rintro e g ⟨rfl,rfl⟩));refine bodyPost_ret (v:=.tuple #[.agg #[.int .i64 4,.int .i64 d,.string ⟨#[]⟩,.string ⟨#[]⟩,.int .i64 ((v:Int)*1024)],.int .i64 (↑d+↑j+1)]) (by simp[results,results228,go_sem]) rfl (Zf.ok f.o (Qp _) ?_ ?_)
         ·simp[wdV];try omega
         ·simp;try omega
       ·rw[U3 (Qc hdd)]at f;rw[if_pos rfl]at f;go_wp2_with (first|(go_at_call 224;refine(Z8 _ _).mono ?_;rintro e g ⟨rfl,rfl⟩)|(go_at_call 227;refine(ZO _ _).mono ?_;rintro e g ⟨rfl,rfl⟩)|(go_at_call 103;refine(Xn _ _ _).mono ?_;rintro e g ⟨rfl,rfl⟩));exact⟨rfl,Zf.err f.o ((Qp _).alloc (by simp) _) (YT 2 d (by simp) (by simp))⟩
      ·rw[U3 (Qd hl)]at f;rw[if_pos rfl]at f;go_wp2_with (first|(go_at_call 224;refine(Z8 _ _).mono ?_;rintro e g ⟨rfl,rfl⟩)|(go_at_call 227;refine(ZO _ _).mono ?_;rintro e g ⟨rfl,rfl⟩)|(go_at_call 103;refine(Xn _ _ _).mono ?_;rintro e g ⟨rfl,rfl⟩));exact⟨rfl,Zf.err f.o ((Qp _).alloc (by simp) _) (YT 2 d (by simp) (by simp))⟩
    ·have n:Hid (∀ i,byteOf s (↑d+↑j)=i->sNL (s.data.toList.drop d) d=if Q0 i then .error ⟨2,d⟩else if 2147483647<v then .error ⟨3,d⟩else .ok (⟨4,d,[],[],v⟩,d+(j))):=fun i u=>
      N3 _ d v j (v) (j) c1 i C.o z.o q.o (by rw[Ni k l,EK r t];rfl) (by rw[Ni k l,EK r t];rfl) (by rw[GO s d (j) (↑d+↑j) (by omega)];exact u)
     clear q;go_wp2_with fail;refine(GS s _ _ (by unfold maxLen;omega) (by omega)).mono ?_;rintro e E ⟨rfl,rfl⟩;have f:=I (n.o _ rfl);clear n;generalize byteOf s (↑d+↑j)=i at f;cases hl:QL (i.toNat:Int)
     ·cases hdd:QI (i.toNat:Int)
      ·rw[NS hl hdd]at f;by_cases hbig:2147483647<v
       ·rw[if_neg (by decide),if_pos hbig]at f;have H:(2147483647:Int)<(v:Int):=by omega
        go_wp2_with (first|(go_at_call 224;refine(Z8 _ _).mono ?_;rintro e g ⟨rfl,rfl⟩)|(go_at_call 227;refine(ZO _ _).mono ?_;rintro e g ⟨rfl,rfl⟩)|(go_at_call 103;refine(Xn _ _ _).mono ?_;rintro e g ⟨rfl,rfl⟩));exact⟨rfl,Zf.err f.o ((Qp _).alloc (by simp) _) (YT 3 d (by simp) (by simp))⟩
       ·rw[if_neg (by decide),if_neg hbig]at f;go_wp2_with (first|(go_at_call 224;refine(Z8 _ _).mono ?_;rintro e g ⟨rfl,rfl⟩)|(go_at_call 227;refine(ZO _ _).mono ?_;rintro e g ⟨rfl,rfl⟩)|(go_at_call 103;refine(Xn _ _ _).mono ?_;rintro e g ⟨rfl,rfl⟩));refine bodyPost_ret (v:=.tuple #[.agg #[.int .i64 4,.int .i64 d,.string ⟨#[]⟩,.string ⟨#[]⟩,.int .i64 ((v:Int))],.int .i64 (↑d+↑j)]) (by simp[results,results228,go_sem]) rfl (Zf.ok f.o (Qp _) ?_ ?_)
        ·simp[wdV];try omega
        ·simp;try omega
      ·rw[U3 (Qc hdd)]at f;rw[if_pos rfl]at f;go_wp2_with (first|(go_at_call 224;refine(Z8 _ _).mono ?_;rintro e g ⟨rfl,rfl⟩)|(go_at_call 227;refine(ZO _ _).mono ?_;rintro e g ⟨rfl,rfl⟩)|(go_at_call 103;refine(Xn _ _ _).mono ?_;rintro e g ⟨rfl,rfl⟩));exact⟨rfl,Zf.err f.o ((Qp _).alloc (by simp) _) (YT 2 d (by simp) (by simp))⟩
     ·rw[U3 (Qd hl)]at f;rw[if_pos rfl]at f;go_wp2_with (first|(go_at_call 224;refine(Z8 _ _).mono ?_;rintro e g ⟨rfl,rfl⟩)|(go_at_call 227;refine(ZO _ _).mono ?_;rintro e g ⟨rfl,rfl⟩)|(go_at_call 103;refine(Xn _ _ _).mono ?_;rintro e g ⟨rfl,rfl⟩));exact⟨rfl,Zf.err f.o ((Qp _).alloc (by simp) _) (YT 2 d (by simp) (by simp))⟩
def Jc(l:L8):List Value:=l.map fun c=>Value.int .u8 c.toNat
theorem ND(l:L8)(c:UInt8):Jc l++[.int .u8 c.toNat]=Jc (l++[c]):=by simp[Jc]
theorem Tryz.infoU8:(prog.info? 5).map (fun i=>(i.zero,i.size,i.bytes))=some (some (.int .u8 0),1,1):=by kernel_rfl
theorem NF(wr:World)(base:Nat)(v:Value)(l:L8)(h:wr.ownsRow base 5 1 v l.length (Jc l)) :
 (convert 198 9 v).run prog wr=.ok (.string ⟨l.toArray⟩) wr:=by
 obtain⟨d,f | ⟨g,b,c,a,o,k,r⟩⟩:=h
 ·obtain⟨rfl,i⟩:=f;have:l=[]:=Xz i;subst this;rw[run_convert_bytes_string wr 198 9 5 none 0 0 underlying198 underlying5 underlying9];rfl
 ·have m:=World.ownsRow.cells (w:=wr) (base:=base) (e:=5) (size:=1) (v:=v) (n:=l.length) (xs:=Jc l) ⟨d,Qc ⟨g,b,c,a,o,k,r⟩⟩ (g:=g) (by rw[a];rfl);rw[a];exact run_convert_bytes_back wr 198 9 5 ⟨g,0,none⟩ b l underlying198 underlying5 underlying9 (fun j p=>m j _ (by simp[Jc,List.getElem?_eq_getElem p]))
theorem CS(c:UInt8)(r:L8)(h:(c.toNat:Int)=34):qL (c::r)=some ([],1):=by
 unfold qL;rw[if_pos (by omega)]
theorem MU(c d:UInt8)(r:L8)(h:(c.toNat:Int)=92):qL (c::d::r)=(qL r).map fun x=>(d::x.1,x.2+2):=by
 rw[qL,if_neg (by omega),if_pos (by omega)]
theorem LJ(c:UInt8)(h:(c.toNat:Int)=92):qL [c]=none:=by
 unfold qL;rw[if_neg (by omega),if_pos (by omega)]
theorem Of(c:UInt8)(r:L8)(h:¬(c.toNat:Int)=34)(a:¬(c.toNat:Int)=92):qL (c::r)=(qL r).map fun x=>(c::x.1,x.2+1):=by
 rw[qL.eq_def];dsimp only;rw[if_neg (by omega),if_neg (by omega)]
def XF(s:ByteArray)(at_ k:Nat)(acc:L8):Prop:=
 qL (s.data.toList.drop (at_+1))=(qL (s.data.toList.drop k)).map fun x=>(acc++x.1,x.2+(k - (at_+1)))
theorem XF.fin{a:Nat}(h:XF s a k acc){r:L8}(d:s.data.toList.drop k=c::r)(b:(c.toNat:Int)=34) :
 qL (s.data.toList.drop (a+1))=some (acc,1+(k - (a+1))):=by
 unfold XF at h;rw[h,d,CS c r b];simp
theorem XF.one{a:Nat}(h:XF s a k acc)(e:s.data.toList.drop k=c::s.data.toList.drop (k+1))(b:¬(c.toNat:Int)=34)(d:¬(c.toNat:Int)=92)(f:a+1<=k) :
 XF s a (k+1) (acc++[c]):=by
 unfold XF at h ⊢;rw[h,e,Of c _ b d]
 cases qL (s.data.toList.drop (k+1))with
 |none=>rfl
 |some x=>simp;omega
theorem XF.esc{a:Nat}(h:XF s a k acc){d:UInt8}(e:s.data.toList.drop k=c::s.data.toList.drop (k+1))(f:s.data.toList.drop (k+1)=d::s.data.toList.drop (k+1+1))(b:(c.toNat:Int)=92)(g:a+1<=k) :
 XF s a (k+1+1) (acc++[d]):=by
 unfold XF at h ⊢;rw[h,e,f,MU c d _ b]
 cases qL (s.data.toList.drop (k+1+1))with
 |none=>rfl
 |some x=>simp;omega
theorem XF.esc0{a:Nat}(h:XF s a k acc)(e:s.data.toList.drop k=c::s.data.toList.drop (k+1))(f:s.data.toList.drop (k+1)=[])(d:(c.toNat:Int)=92)(b:L8) :
 XF s a (k+1) b:=by
 unfold XF at h ⊢;rw[h,e,f,LJ c d];rfl
theorem XF.past{a:Nat}(h:XF s a k acc)(b:s.size<=k):qL (s.data.toList.drop (a+1))=none:=by
 unfold XF at h;rw[h,Zb (by simpa using b)];rfl
theorem FX(s:ByteArray)(b:Nat)(w:World)(hs:s.size<=4294967280)(ha:b<s.size) :
 Calls prog 229 #[.string s,.int .i64 b] w (Zf (quoteR (s.data.toList.drop (b+1)) b) w):=by
 obtain⟨M,H,J,K,L⟩:=info_parts Tryz.infoU8;obtain⟨R,F⟩:=QF (quoteR (s.data.toList.drop (b+1)) b);rw[<-F];have E:=I F;clear F;go_enter func229,ntmps229;go_wp2_with fail
 go_loopw [6,7] (fun v i wr=>∃(k:Nat) (l:L8),b+1<=k/\k<=s.size/\i=.int .i64 k/\l.length<=k/\wr.ownsRow (w.heap.size+1) 5 1 v l.length (Jc l)/\Below (w.heap.size+1) (w.alloc (.cells #[.int .i64 0,.int .i64 0,.string ⟨#[]⟩,.string ⟨#[]⟩,.int .i64 0] 206)) wr/\XF s b k l) (fun _ i _=>s.size - (intOf i).toNat)
 case atStart=>
  refine⟨b+1,[],by omega,by omega,by go_num,by simp,World.ownsRow_nil _ _ _ _,Below.refl _ _,?_⟩;unfold XF;cases qL (s.data.toList.drop (b+1))<;>simp
 case round=>
  obtain⟨k,l,S,hk,rfl,ab,g,a,Q⟩:=hrel;have t:=I Q;clear Q;by_cases hlt:k<s.size
  ·have z:=I (XJ s k hlt);obtain⟨c,Y⟩:=Qe (s[k]);rw[Y]at z;by_cases h34:(c.toNat:Int)=34
   ·have P:((c.toNat:Int)==34)=true:=by simpa using h34
    have ad:=NF wr _ _ l g;have Z:∀ o,wr.cell? ⟨w.heap.size,o,none⟩=(w.alloc (.cells #[.int .i64 0,.int .i64 0,.string ⟨#[]⟩,.string ⟨#[]⟩,.int .i64 0] 206)).cell? ⟨w.heap.size,o,none⟩:=fun o=>a.cell (p:=⟨w.heap.size,o,none⟩) (by show w.heap.size<_;omega)
    have ac:∀ o,wr.frozen? ⟨w.heap.size,o,none⟩=(w.alloc (.cells #[.int .i64 0,.int .i64 0,.string ⟨#[]⟩,.string ⟨#[]⟩,.int .i64 0] 206)).frozen? ⟨w.heap.size,o,none⟩:=fun o=>a.frozen (p:=⟨w.heap.size,o,none⟩) (by show w.heap.size<_;omega)
    have W:=I a;have HO:=I g;have N:=I (CS c (s.data.toList.drop (k+1)) h34);clear a g h34;go_wp2;have G:Below w.heap.size w wr:=(Qp _).trans (W.o.mono (by omega));refine bodyPost_ret (v:=.tuple #[.agg #[.int .i64 5,.int .i64 b,.string ⟨#[]⟩,.string ⟨l.toArray⟩,.int .i64 0],.int .i64 (↑k+1)]) (by simp[results,results229,go_sem,Z]) rfl (Zf.ok (x:=(⟨5,b,[],l,0⟩,b+(1+(1+(k - (b+1)))))) ?_ ?_ rfl ?_)
    ·rw[E.o,quoteR,t.o.fin z.o (by simpa using P)]
    ·exact((((G.setCell Ql _).setCell Ql _).setCell Ql _).setCell Ql _).setCell Ql _
    ·simp;omega
   ·have P:((c.toNat:Int)==34)=false:=by simpa using h34
    by_cases h92:(c.toNat:Int)=92
    ·have X:((c.toNat:Int)==92)=true:=by simpa using h92
     by_cases hl2:k+1<s.size
     ·have C:=I (XJ s (k+1) hl2);obtain⟨d,aa⟩:=Qe (s[k+1]);rw[aa]at C;have D:=I h34;have r:=I h92;clear h34 h92;go_wp2_with (at_builtin;refine wpList_append_own _ rfl _ _ 198 rfl (w.heap.size+1) 5 M (.int .u8 0) 1 1 underlying198 H J K L rfl (by decide) _ _ _ rfl (g.alloc _) ⟨wr.heap.size,0,none⟩ 1 1 [.int .u8 d.toNat] rfl rfl ?c1 ?c2 ?c3 ?c4 ?c5 ?_)
      case c1=>
       intro j u f
       match j,f with
       |0,f=>simp at f;subst f;simp[Addr.add]
      case c2=>intro u q;simp at q;subst q;rfl
      case c3=>unfold maxLen;omega
      case c4=>omega
      case c5=>have:=a.size;simp at this ⊢;omega
      ·intro U V n m _;have y:=Below.grown (a.alloc (by have:=a.size;simp at this;omega) (Obj.cells #[.int .u8 d.toNat] 5)) m (by have:=a.size;simp at this ⊢;omega) (fun B A=>(g.lt B A).1);rw[ND]at n;clear a g m;go_wp2;go_roundw
       case rel=>exact⟨k+1+1,l++[d],by omega,by omega,by go_num,by simp;omega,by simpa using n,y,t.o.esc z.o C.o r.o S⟩
       case measure=>simp[intOf];omega
     ·have C:Hid (s.data.toList.drop (k+1)=[]):=Zb (by simp;omega);have D:=I h34;have r:=I h92;clear h34 h92;go_wp2_with (at_builtin;refine wpList_append_own _ rfl _ _ 198 rfl (w.heap.size+1) 5 M (.int .u8 0) 1 1 underlying198 H J K L rfl (by decide) _ _ _ rfl (g.alloc _) ⟨wr.heap.size,0,none⟩ 1 1 [.int .u8 c.toNat] rfl rfl ?c1 ?c2 ?c3 ?c4 ?c5 ?_)
      case c1=>
       intro j u f
       match j,f with
       |0,f=>simp at f;subst f;simp[Addr.add]
      case c2=>intro u q;simp at q;subst q;rfl
      case c3=>unfold maxLen;omega
      case c4=>omega
      case c5=>have:=a.size;simp at this ⊢;omega
      ·intro U V n m _;have y:=Below.grown (a.alloc (by have:=a.size;simp at this;omega) (Obj.cells #[.int .u8 c.toNat] 5)) m (by have:=a.size;simp at this ⊢;omega) (fun B A=>(g.lt B A).1);rw[ND]at n;clear a g m;go_wp2;go_roundw
       case rel=>exact⟨k+1,l++[c],by omega,by omega,by go_num,by simp;omega,by simpa using n,y,t.o.esc0 z.o C.o r.o _⟩
       case measure=>simp[intOf];omega
    ·have X:((c.toNat:Int)==92)=false:=by simpa using h92
     have D:=I h34;have r:=I h92;clear h34 h92;go_wp2_with (at_builtin;refine wpList_append_own _ rfl _ _ 198 rfl (w.heap.size+1) 5 M (.int .u8 0) 1 1 underlying198 H J K L rfl (by decide) _ _ _ rfl (g.alloc _) ⟨wr.heap.size,0,none⟩ 1 1 [.int .u8 c.toNat] rfl rfl ?c1 ?c2 ?c3 ?c4 ?c5 ?_)
     case c1=>
      intro j u f
      match j,f with
      |0,f=>simp at f;subst f;simp[Addr.add]
     case c2=>intro u q;simp at q;subst q;rfl
     case c3=>unfold maxLen;omega
     case c4=>omega
     case c5=>have:=a.size;simp at this ⊢;omega
     ·intro U V n m _;have y:=Below.grown (a.alloc (by have:=a.size;simp at this;omega) (Obj.cells #[.int .u8 c.toNat] 5)) m (by have:=a.size;simp at this ⊢;omega) (fun B A=>(g.lt B A).1);rw[ND]at n;clear a g m;go_wp2;go_roundw
      case rel=>exact⟨k+1,l++[c],by omega,by omega,by go_num,by simp;omega,by simpa using n,y,t.o.one z.o D.o r.o S⟩
      case measure=>simp[intOf];omega
  ·have N:Hid (R=.error ⟨2,b⟩):=by show R=_;rw[E.o,quoteR,t.o.past (by omega)]
   have T:w.heap.size<=wr.heap.size:=by have:=a.size;simp at this;omega
   have G:Below w.heap.size w wr:=(Qp _).trans (a.mono (by omega));clear g a E;go_wp2_with (go_at_call 103;refine(Xn _ _ _).mono ?_;rintro e w' ⟨rfl,rfl⟩);exact⟨rfl,Zf.err N.o (G.alloc T _) (YT 2 b T rfl)⟩
theorem NM(k:Int)(s:ByteArray)(a n:Nat)(x:Int)(w:World)(d:x=n)(c:s.size<=4294967280)(b:a+n<=s.size) :
 Calls prog 225 #[.int .i64 k,.string s,.int .i64 a,.int .i64 x] w fun e w'=>
  e=.returned (.tuple #[.agg #[.int .i64 k,.int .i64 a,.string ⟨(zL ((s.data.toList.drop a).take n)).toArray⟩,.string ⟨#[]⟩,.int .i64 0],.int .i64 (a+n:Nat)])/\Below w.heap.size w w':=by
 subst d;exact Hx k s a n w c b
def Np:Obj:=.cells #[.int .i64 0,.int .i64 0,.string ⟨#[]⟩,.string ⟨#[]⟩,.int .i64 0] 206
theorem VL(h:Below (w.alloc Np).heap.size (w.alloc Np) w1)(a b c d e:Value) :
 Below w.heap.size w (((((w1.setCell ⟨w.heap.size,0,none⟩ a).setCell ⟨w.heap.size,1,none⟩ b).setCell ⟨w.heap.size,2,none⟩ c).setCell ⟨w.heap.size,3,none⟩ d).setCell ⟨w.heap.size,4,none⟩ e):=by
 have f:Below w.heap.size w w1:=(Qp _).trans (h.mono (by simp));exact((((f.setCell Ql _).setCell Ql _).setCell Ql _).setCell Ql _).setCell Ql _
theorem Us(c:UInt8)(r:L8)(p:Nat):Q1 (c::r) p =
 if QL c.toNat then .ok (XM 1 (c::r) p (nameLen (c::r)))
 else if c.toNat=58 then
  if nameLen r=0 then .error ⟨2,p⟩else .ok (XM 2 (c::r) p (1+nameLen r))
 else if QI c.toNat then sNL (c::r) p
 else if c.toNat=34 then quoteR r p
 else if XS c then .ok (XM 3 (c::r) p 1)
 else .error ⟨2,p⟩:=rfl
theorem Rt(s:ByteArray)(a:Nat)(w:World)(c:a=s.size) :
 Calls prog 193 #[.string s,.int .i64 a] w (Zf (Q1 (s.data.toList.drop a) a) w):=by
 have b:Hid (Q1 (s.data.toList.drop a) a=.ok (⟨0,a,[],[],0⟩,a)):=by
  show _=_
  rw[Zb (by simp;omega)];rfl
 have d:((a:Int)==(s.size:Int))=true:=by simp;omega
 clear c;go_enter func193,ntmps193;go_wp2;refine bodyPost_ret (v:=.tuple #[.agg #[.int .i64 0,.int .i64 a,.string ⟨#[]⟩,.string ⟨#[]⟩,.int .i64 0],.int .i64 a]) (by simp[results,results193,go_sem]) rfl (Zf.ok b.o ?_ rfl rfl);exact Qp _
theorem Ll(s:ByteArray)(a:Nat)(c:UInt8)(r:L8)(w:World)(p:s.size<=4294967280)(f:s.data.toList.drop a=c::r)(A:a<s.size)(y:s[a]=c)(m:QL (c.toNat:Int)=true) :
 Calls prog 193 #[.string s,.int .i64 a] w (Zf (Q1 (s.data.toList.drop a) a) w):=by
 have j:Hid (Q1 (s.data.toList.drop a) a=.ok (XM 1 (s.data.toList.drop a) a (nameLen (s.data.toList.drop a)))):=by
  show _=_
  rw[f,Us,if_pos m]
 obtain⟨b,g⟩:=Qe (s.extract a s.size);have k:Hid (b.data.toList=s.data.toList.drop a):=by rw[<-g];exact VE s a
 have C:b.size<=s.size - a:=by rw[<-g,GB];omega
 have n:=Uu b.data.toList;rw[<-Lib.size_eq]at n;have B:((a:Int)==(s.size:Int))=false:=by simp;omega
 have x:=I f;clear f;go_enter func193,ntmps193;go_wp2_with (first|(go_at_call 224;refine(Z8 _ _).mono ?_;rintro e t ⟨rfl,rfl⟩)|(go_at_call 226;refine(Uq _ _ (by unfold maxLen;omega)).mono ?_;rintro e t ⟨rfl,rfl⟩));refine(NM 1 s a (nameLen b.data.toList) _ _ rfl p (by omega)).mono ?_;rintro e u ⟨rfl,d⟩;obtain⟨l,z⟩:=Vp d;have q:w.heap.size<u.heap.size:=by have:=d.size;simp at this;omega
 have i:=I d;rw[k.o];clear d;go_wp2;refine bodyPost_ret (v:=.tuple #[.agg #[.int .i64 1,.int .i64 a,.string ⟨(zL ((s.data.toList.drop a).take (nameLen (s.data.toList.drop a)))).toArray⟩,.string ⟨#[]⟩,.int .i64 0],.int .i64 (a+nameLen (s.data.toList.drop a):Nat)]) (by simp[results,results193,go_sem,l,q]) rfl (Zf.ok j.o (VL i.o _ _ _ _ _) rfl rfl)
theorem Sv(s:ByteArray)(a:Nat)(c:UInt8)(r:L8)(w:World)(z:s.size<=4294967280)(d:s.data.toList.drop a=c::r)(x:a<s.size)(D:s[a]=c)(l:QL (c.toNat:Int)=false)(k:(c.toNat:Int)=58) :
 Calls prog 193 #[.string s,.int .i64 a] w (Zf (Q1 (s.data.toList.drop a) a) w):=by
 have q:Hid (s.data.toList.drop (a+1)=r):=by
  show _=_
  have:=XJ s a x;rw[d]at this;exact(List.cons.inj this).2.symm
 obtain⟨b,m⟩:=Qe (s.extract (a+1) s.size);have j:Hid (b.data.toList=r):=by show _=_;rw[<-m,VE];exact q.o
 have G:b.size<=s.size - (a+1):=by rw[<-m,GB];omega
 have y:=Uu b.data.toList;rw[<-Lib.size_eq]at y;have F:((a:Int)==(s.size:Int))=false:=by simp;omega
 have C:((c.toNat:Int)==58)=true:=by simpa using k
 by_cases h0:nameLen b.data.toList=0
 ·have g:Hid (Q1 (s.data.toList.drop a) a=.error ⟨2,a⟩):=by
   show _=_
   rw[d,Us,if_neg (by rw[l];decide),if_pos (by omega),if_pos (by rw[<-j.o];exact h0)]
  have t:((nameLen b.data.toList:Int)==0)=true:=by simpa using h0
  clear d k h0;go_enter func193,ntmps193;go_wp2_with (first|(go_at_call 224;refine(Z8 _ _).mono ?_;rintro e f ⟨rfl,rfl⟩)|(go_at_call 226;refine(Uq _ _ (by unfold maxLen;omega)).mono ?_;rintro e f ⟨rfl,rfl⟩)|(go_at_call 103;refine(Xn _ _ _).mono ?_;rintro e f ⟨rfl,rfl⟩));exact⟨rfl,Zf.err g.o ((Qp _).alloc (by simp) _) (YT 2 a (by simp) (by simp))⟩
 ·have g:Hid (Q1 (s.data.toList.drop a) a=.ok (XM 2 (s.data.toList.drop a) a (1+nameLen b.data.toList))):=by
   show _=_
   rw[d,Us,if_neg (by rw[l];decide),if_pos (by omega),if_neg (by rw[<-j.o];exact h0),j.o]
  have t:((nameLen b.data.toList:Int)==0)=false:=by simpa using h0
  clear d k h0;go_enter func193,ntmps193;go_wp2_with (first|(go_at_call 224;refine(Z8 _ _).mono ?_;rintro e f ⟨rfl,rfl⟩)|(go_at_call 226;refine(Uq _ _ (by unfold maxLen;omega)).mono ?_;rintro e f ⟨rfl,rfl⟩)|(go_at_call 103;refine(Xn _ _ _).mono ?_;rintro e f ⟨rfl,rfl⟩));refine(NM 2 s a (1+nameLen b.data.toList) _ _ (by omega) z (by omega)).mono ?_;rintro e B ⟨rfl,i⟩;obtain⟨u,E⟩:=Vp i;have A:w.heap.size<B.heap.size:=by have:=i.size;simp at this;omega
  have p:=I i;generalize 1+nameLen b.data.toList=n at g;clear i;go_wp2;exact bodyPost_ret (v:=.tuple #[.agg #[.int .i64 2,.int .i64 a,.string ⟨(zL ((s.data.toList.drop a).take n)).toArray⟩,.string ⟨#[]⟩,.int .i64 0],.int .i64 (a+n:Nat)]) (by simp[results,results193,go_sem,u,A]) rfl (Zf.ok g.o (VL p.o _ _ _ _ _) rfl rfl)
theorem LZ(s:ByteArray)(a:Nat)(c:UInt8)(r:L8)(w:World)(z:s.size<=4294967280)(m:s.data.toList.drop a=c::r)(F:a<s.size)(D:s[a]=c)(y:QL (c.toNat:Int)=false)(k:¬(c.toNat:Int)=58)(u:QI (c.toNat:Int)=true) :
 Calls prog 193 #[.string s,.int .i64 a] w (Zf (Q1 (s.data.toList.drop a) a) w):=by
 have d:Hid (Q1 (s.data.toList.drop a) a=sNL (s.data.toList.drop a) a):=by
  show _=_
  rw[m,Us,if_neg (by rw[y];decide),if_neg (by omega),if_pos u]
 have G:((a:Int)==(s.size:Int))=false:=by simp;omega
 have C:((c.toNat:Int)==58)=false:=by simpa using k
 have l:=I (fun W=>(FJ s a W z (by omega)));rw[d.o];rw[d.o]at d;generalize sNL (s.data.toList.drop a) a=R at l d ⊢;clear m k d;go_enter func193,ntmps193;go_wp2_with (first|(go_at_call 224;refine(Z8 _ _).mono ?_;rintro e B ⟨rfl,rfl⟩)|(go_at_call 227;refine(ZO _ _).mono ?_;rintro e B ⟨rfl,rfl⟩));refine(l.o _).mono ?_;rintro e n ⟨g,h⟩;have A:w.heap.size<n.heap.size:=by have:=g.size;simp at this;omega
 obtain⟨t,E⟩:=Vp g;have j:=I g;clear g
 cases R with
 |error f=>
  have i:ZS f (w.alloc Np) e n:=h;obtain⟨b,p,rfl,q⟩:=i;exact⟨rfl,Zf.err rfl ((Qp _).trans (j.o.mono (by simp))) ⟨b,by simp at p;omega,rfl,q⟩⟩
 |ok x=>
  have i:e=.returned (.tuple #[wdV x.1,.int .i64 x.2]):=h;subst i;unfold wdV;go_wp2;exact bodyPost_ret (v:=.tuple #[.agg #[.int .i64 x.1.kind,.int .i64 x.1.pos,.string ⟨x.1.spelt.toArray⟩,.string ⟨x.1.said.toArray⟩,.int .i64 x.1.num],.int .i64 x.2]) (by simp[results,results193,go_sem,t,A]) rfl (Zf.ok rfl (VL j.o _ _ _ _ _) rfl rfl)
theorem Mi(s:ByteArray)(a:Nat)(c:UInt8)(r:L8)(w:World)(C:s.size<=4294967280)(j:s.data.toList.drop a=c::r)(p:a<s.size)(H:s[a]=c)(B:QL (c.toNat:Int)=false)(m:¬(c.toNat:Int)=58)(A:QI (c.toNat:Int)=false)(l:(c.toNat:Int)=34) :
 Calls prog 193 #[.string s,.int .i64 a] w (Zf (Q1 (s.data.toList.drop a) a) w):=by
 have t:Hid (s.data.toList.drop (a+1)=r):=by
  show _=_
  have:=XJ s a p;rw[j]at this;exact(List.cons.inj this).2.symm
 have d:Hid (Q1 (s.data.toList.drop a) a=quoteR (s.data.toList.drop (a+1)) a):=by
  show _=_
  rw[j,Us,if_neg (by rw[B];decide),if_neg (by omega),if_neg (by rw[A];decide),if_pos (by omega),t.o]
 have K:((a:Int)==(s.size:Int))=false:=by simp;omega
 have G:((c.toNat:Int)==58)=false:=by simpa using m
 have F:((c.toNat:Int)==34)=true:=by simpa using l
 have n:=I (fun W=>(FX s a W C p));rw[d.o];rw[d.o]at d;generalize quoteR (s.data.toList.drop (a+1)) a=R at n d ⊢;clear j m d l;go_enter func193,ntmps193;go_wp2_with (first|(go_at_call 224;refine(Z8 _ _).mono ?_;rintro e E ⟨rfl,rfl⟩)|(go_at_call 227;refine(ZO _ _).mono ?_;rintro e E ⟨rfl,rfl⟩));refine(n.o _).mono ?_;rintro e q ⟨g,h⟩;have D:w.heap.size<q.heap.size:=by have:=g.size;simp at this;omega
 obtain⟨z,J⟩:=Vp g;have k:=I g;clear g
 cases R with
 |error f=>
  have i:ZS f (w.alloc Np) e q:=h;obtain⟨b,u,rfl,y⟩:=i;exact⟨rfl,Zf.err rfl ((Qp _).trans (k.o.mono (by simp))) ⟨b,by simp at u;omega,rfl,y⟩⟩
 |ok x=>
  have i:e=.returned (.tuple #[wdV x.1,.int .i64 x.2]):=h;subst i;unfold wdV;go_wp2;exact bodyPost_ret (v:=.tuple #[.agg #[.int .i64 x.1.kind,.int .i64 x.1.pos,.string ⟨x.1.spelt.toArray⟩,.string ⟨x.1.said.toArray⟩,.int .i64 x.1.num],.int .i64 x.2]) (by simp[results,results193,go_sem,z,D]) rfl (Zf.ok rfl (VL k.o _ _ _ _ _) rfl rfl)
def Bk(c:UInt8):Int:=Lib.indexByte [59,44,40,41,123,125,91,93] c
theorem C5(c:UInt8)(w:World) :
 Calls prog 230 #[.string ⟨#[59,44,40,41,123,125,91,93]⟩,.int .u8 c.toNat] w fun e w'=>e=.returned (.int .i64 (Bk c))/\w'=w:=by
 have h:=Tryz.strings_IndexByte ⟨#[59,44,40,41,123,125,91,93]⟩ c.toNat w;have e:((c.toNat:Int).toNat).toUInt8=c:=by simp
 rw[e]at h;exact h
theorem Pi(s:ByteArray)(a:Nat)(c:UInt8)(r:L8)(w:World)(q:s.size<=4294967280)(i:s.data.toList.drop a=c::r)(B:a<s.size)(z:s[a]=c)(p:QL (c.toNat:Int)=false)(g:¬(c.toNat:Int)=58)(n:QI (c.toNat:Int)=false)(f:¬(c.toNat:Int)=34)(d:XS c=true) :
 Calls prog 193 #[.string s,.int .i64 a] w (Zf (Q1 (s.data.toList.drop a) a) w):=by
 have l:Hid (Q1 (s.data.toList.drop a) a=.ok (XM 3 (s.data.toList.drop a) a 1)):=by
  show _=_
  rw[i,Us,if_neg (by rw[p];decide),if_neg (by omega),if_neg (by rw[n];decide),if_neg (by omega),if_pos d]
 have C:0<=Bk c:=of_decide_eq_true d;have D:((a:Int)==(s.size:Int))=false:=by simp;omega
 have y:((c.toNat:Int)==58)=false:=by simpa using g
 have x:((c.toNat:Int)==34)=false:=by simpa using f
 clear i g f d;go_enter func193,ntmps193;go_wp2_with (first|(go_at_call 224;refine(Z8 _ _).mono ?_;rintro e j ⟨rfl,rfl⟩)|(go_at_call 227;refine(ZO _ _).mono ?_;rintro e j ⟨rfl,rfl⟩)|(go_at_call 230;refine(C5 c _).mono ?_;rintro e j ⟨rfl,rfl⟩));refine(NM 3 s a 1 _ _ rfl q (by omega)).mono ?_;rintro e u ⟨rfl,b⟩;obtain⟨m,A⟩:=Vp b;have t:w.heap.size<u.heap.size:=by have:=b.size;simp at this;omega
 have k:=I b;clear b;go_wp2;exact bodyPost_ret (v:=.tuple #[.agg #[.int .i64 3,.int .i64 a,.string ⟨(zL ((s.data.toList.drop a).take 1)).toArray⟩,.string ⟨#[]⟩,.int .i64 0],.int .i64 (a+1:Nat)]) (by simp[results,results193,go_sem,m,t]) rfl (Zf.ok l.o (VL k.o _ _ _ _ _) rfl rfl)
theorem RJ(s:ByteArray)(a:Nat)(c:UInt8)(r:L8)(w:World)(t:s.size<=4294967280)(i:s.data.toList.drop a=c::r)(q:a<s.size)(p:s[a]=c)(l:QL (c.toNat:Int)=false)(g:¬(c.toNat:Int)=58)(k:QI (c.toNat:Int)=false)(f:¬(c.toNat:Int)=34)(b:XS c=false) :
 Calls prog 193 #[.string s,.int .i64 a] w (Zf (Q1 (s.data.toList.drop a) a) w):=by
 have j:Hid (Q1 (s.data.toList.drop a) a=.error ⟨2,a⟩):=by
  show _=_
  rw[i,Us,if_neg (by rw[l];decide),if_neg (by omega),if_neg (by rw[k];decide),if_neg (by omega),if_neg (by rw[b];decide)]
 have u:¬ 0<=Bk c:=of_decide_eq_false b;have v:((a:Int)==(s.size:Int))=false:=by simp;omega
 have n:((c.toNat:Int)==58)=false:=by simpa using g
 have m:((c.toNat:Int)==34)=false:=by simpa using f
 clear i g f b;go_enter func193,ntmps193;go_wp2_with (first|(go_at_call 224;refine(Z8 _ _).mono ?_;rintro e d ⟨rfl,rfl⟩)|(go_at_call 227;refine(ZO _ _).mono ?_;rintro e d ⟨rfl,rfl⟩)|(go_at_call 230;refine(C5 c _).mono ?_;rintro e d ⟨rfl,rfl⟩)|(go_at_call 103;refine(Xn _ _ _).mono ?_;rintro e d ⟨rfl,rfl⟩));exact⟨rfl,Zf.err j.o ((Qp _).alloc (by simp) _) (YT 2 a (by simp) (by simp))⟩
theorem Rv(s:ByteArray)(a:Nat)(w:World)(d:s.size<=4294967280)(e:a<=s.size) :
 Calls prog 193 #[.string s,.int .i64 a] w (Zf (Q1 (s.data.toList.drop a) a) w):=by
 by_cases h:a=s.size
 ·exact Rt s a w h
 have b:a<s.size:=by omega
 have c:=XJ s a b;cases hl:QL (s[a].toNat:Int)
 ·by_cases h58:(s[a].toNat:Int)=58
  ·exact Sv s a _ _ w d c b rfl hl h58
  cases hg:QI (s[a].toNat:Int)
  ·by_cases h34:(s[a].toNat:Int)=34
   ·exact Mi s a _ _ w d c b rfl hl h58 hg h34
   cases hsg:XS s[a]
   ·exact RJ s a _ _ w d c b rfl hl h58 hg h34 hsg
   ·exact Pi s a _ _ w d c b rfl hl h58 hg h34 hsg
  ·exact LZ s a _ _ w d c b rfl hl h58 hg
 ·exact Ll s a _ _ w d c b rfl hl
theorem QN(x:L8):(sA x).size=x.length:=rfl
theorem K4(x y:L8):sA x++sA y=sA (x++y):=by
 unfold sA;apply ByteArray.ext;simp
theorem Y6(x y:L8):((sA x).toList==y)=decide (x=y):=by
 rw[ByteArray.toList_eq,show(sA x).data.toList=x from rfl,Zo];simp
theorem QO{a k:L8}(c:L8)(f:a=k)(q:decide (k=c)=false):((sA a).toList==c)=false:=by rw[Y6,f];exact q
theorem Jl{a k:L8}(c:L8)(f:a=k)(q:decide (k=c)=true):((sA a).toList==c)=true:=by rw[Y6,f];exact q
theorem Qq{a:Addr}(h:w.cell? a=some v):a.block<w.heap.size:=by
 rcases Nat.lt_or_ge a.block w.heap.size with h'|h'
 ·exact h'
 ·unfold World.cell? at h;rw[Array.getElem?_eq_none h']at h;cases h
def Zx(w:World)(g:Nat)(zs:Qa):Prop:=
 ∀ j,j<zs.length->w.cell? ⟨g,j,none⟩=some (.string (sA (zs.getD j [])))
theorem XQ(h:Below w.drew.heap.size w.drew w'):Below w.heap.size w w':=⟨h.os,h.tape,h.output,h.size,h.block⟩
theorem Qt(w:World)(b o:Nat)(v:Value)(a:Array Value)(c:TypeId)(h:w.heap[b]?=some (.cells a c)):(w.setCell ⟨b,o,none⟩ v).heap[b]?=some (.cells (a.setIfInBounds o v) c):=by
 simp only[World.setCell,Array.getElem?_modify];rw[if_pos trivial,h];rfl
theorem Qi{b:TypeId}(h:w.heap[g]?=some (.cells a b))(o:Nat):w.cell? ⟨g,o,none⟩=a[o]?:=by
 unfold World.cell?;rw[h];rfl
theorem Qk{x:Value}(q:w.heap[i]?=some (.cells (List.toArray (x::r)) t)):w.cell? ⟨i,0,none⟩=some x:=by rw[Qi q 0];rfl
theorem Qr{x y:Value}(q:w.heap[i]?=some (.cells (List.toArray (x::y::r)) t)):w.cell? ⟨i,1,none⟩=some y:=by rw[Qi q 1];rfl
theorem QJ{x y z:Value}(q:w.heap[i]?=some (.cells (List.toArray (x::y::z::r)) t)):w.cell? ⟨i,2,none⟩=some z:=by rw[Qi q 2];rfl
theorem QR{x y z u:Value}(q:w.heap[i]?=some (.cells (List.toArray (x::y::z::u::r)) t)):w.cell? ⟨i,3,none⟩=some u:=by rw[Qi q 3];rfl
theorem QV{x y z u v:Value}(q:w.heap[i]?=some (.cells (List.toArray (x::y::z::u::v::r)) t)):w.cell? ⟨i,4,none⟩=some v:=by rw[Qi q 4];rfl
theorem Q9{x y z u v a:Value}(q:w.heap[i]?=some (.cells (List.toArray (x::y::z::u::v::a::r)) t)):w.cell? ⟨i,5,none⟩=some a:=by rw[Qi q 5];rfl
theorem Zz{x y z u v a b:Value}(q:w.heap[i]?=some (.cells (List.toArray (x::y::z::u::v::a::b::r)) t)):w.cell? ⟨i,6,none⟩=some b:=by rw[Qi q 6];rfl
theorem Yf{x y z u v a b c:Value}(q:w.heap[i]?=some (.cells (List.toArray (x::y::z::u::v::a::b::c::r)) t)):w.cell? ⟨i,7,none⟩=some c:=by rw[Qi q 7];rfl
theorem JG{x y z u v a b c d:Value}(q:w.heap[i]?=some (.cells (List.toArray (x::y::z::u::v::a::b::c::d::r)) t)):w.cell? ⟨i,8,none⟩=some d:=by rw[Qi q 8];rfl
theorem Jk{x y z u v a b c d e:Value}(q:w.heap[i]?=some (.cells (List.toArray (x::y::z::u::v::a::b::c::d::e::r)) t)):w.cell? ⟨i,9,none⟩=some e:=by rw[Qi q 9];rfl
theorem Gt{x y z u v a b c d e f:Value}(q:w.heap[i]?=some (.cells (List.toArray (x::y::z::u::v::a::b::c::d::e::f::r)) t)):w.cell? ⟨i,10,none⟩=some f:=by rw[Qi q 10];rfl
theorem Gu{x y z u v a b c d e f g:Value}(q:w.heap[i]?=some (.cells (List.toArray (x::y::z::u::v::a::b::c::d::e::f::g::r)) t)):w.cell? ⟨i,11,none⟩=some g:=by rw[Qi q 11];rfl
theorem NA{x y z u v a b c d e f g h:Value}(q:w.heap[i]?=some (.cells (List.toArray (x::y::z::u::v::a::b::c::d::e::f::g::h::r)) t)):w.cell? ⟨i,12,none⟩=some h:=by rw[Qi q 12];rfl
theorem Qu{b:TypeId}(h:w.heap[g]?=some (.cells a b))(o:Nat):w.frozen? ⟨g,o,none⟩=false:=by
 unfold World.frozen?;rw[h];simp
theorem Qg{o:Obj}(h:w.heap[g]?=some o):g<w.heap.size:=by
 rcases Nat.lt_or_ge g w.heap.size with h'|h'
 ·exact h'
 ·rw[Array.getElem?_eq_none h']at h;cases h
theorem Qn{o o':Obj}(h:w.heap[g]?=some o):(w.alloc o').heap[g]?=some o:=by
 rw[Below.heap_alloc _ _ _ (Qg h)];exact h
theorem QC(w:World)(o:Obj):(w.alloc o).heap[w.heap.size]?=some o:=by
 show(w.heap.push o)[w.heap.size]?=_
 simp
theorem Q5{o:Obj}(h:g=w.heap.size):(w.alloc o).heap[g]?=some o:=by subst h;exact QC w o
theorem QP{o:Obj}(h:w.heap[g]?=some o)(a:Below w.heap.size w w'):w'.heap[g]?=some o:=by
 rw[a.block g (Qg h)];exact h
theorem II(h:Below B w W)(hB:B<=w.heap.size)(o:Obj):Below B w (W.alloc o):=h.alloc (Qs hB h.size) o
def Qv(zs:Qa):List Value:=zs.map fun z=>Value.string (sA z)
theorem X0(zs:Qa)(z:L8):Qv zs++[.string (sA z)]=Qv (zs++[z]):=by simp[Qv]
theorem NB(zs:Qa):(Qv zs).length=zs.length:=by simp[Qv]
theorem Tryz.infoStr:(prog.info? 9).map (fun i=>(i.zero,i.size,i.bytes))=some (some (.string ⟨#[]⟩),1,16):=by kernel_rfl
theorem Zx.of_owns{c:Nat}{xs:Qa}(h:w.ownsRow base 9 1 (.slice (some ⟨g,0,none⟩) n c) n (Qv xs)):Zx w g xs:=fun j hj=>by
 have:=h.cells (g:=g) rfl j (.string (sA (xs.getD j []))) (by simp[Qv,List.getElem?_eq_getElem hj,List.getD_eq_getElem?_getD]);rw[Ys]at this;exact this
theorem X8(w:World)(zs:Qa)(b:Array Value)(a:TypeId)(h:b=(Qv zs).toArray):Zx (w.alloc (.cells b a)) w.heap.size zs:=fun j hj=>by
 subst h
 have:(w.alloc (.cells (Qv zs).toArray a)).heap[w.heap.size]?=some (.cells (Qv zs).toArray a):=by
  show(w.heap.push _)[w.heap.size]?=_
  simp
 unfold World.cell?;rw[this];simp[Qv,List.getD_eq_getElem?_getD,hj]
theorem Y2(zs:Qa)(a:TypeId)(h:g=w.heap.size):Zx (w.alloc (.cells (Qv zs).toArray a)) g zs:=by subst h;exact X8 w zs _ a rfl
def Nc(t:ByteArray)(x:Wd)(p:Nat)(rv:Value)(mc mt:Nat):Array Value:=
 #[.string t,.int .i64 x.kind,.int .i64 x.pos,.string ⟨x.spelt.toArray⟩,.string ⟨x.said.toArray⟩,.int .i64 x.num,.int .i64 p,rv,.map (some mc),.map (some mt)]
def RAt(w:World)(b:Nat)(t:ByteArray)(x:Wd)(p:Nat)(rv:Value)(mc mt:Nat):Prop:=
 w.heap[b]?=some (.cells (Nc t x p rv mc mt) 210)
structure Mod (b:Nat) (w w':World):Prop where
 os:w'.os=w.os
 tape:w'.tape=w.tape
 output:w'.output=w.output
 size:w.heap.size<=w'.heap.size
 block:∀ k,k < w.heap.size->k≠b->w'.heap[k]?=w.heap[k]?
theorem Mod.refl(b:Nat)(w:World):Mod b w w:=⟨rfl,rfl,rfl,Nat.le_refl _,fun _ _ _=>rfl⟩
theorem Mod.trans{b:Nat}{u v w:World}(h:Mod b u v)(k:Mod b v w):Mod b u w:=
 ⟨k.os.trans h.os,k.tape.trans h.tape,k.output.trans h.output,Qs h.size k.size,fun i hi hn=>(k.block i (Zs hi h.size) hn).trans (h.block i hi hn)⟩
theorem Mod.of_below(h:Below w.heap.size w w'):Mod b w w':=
 ⟨h.os,h.tape,h.output,h.size,fun k hk _=>h.block k hk⟩
theorem Mod.below(h:Mod b w w')(hB:B<=b)(hb:b<w.heap.size):Below B w w':=
 ⟨h.os,h.tape,h.output,h.size,fun k hk=>h.block k (by omega) (by omega)⟩
theorem Mod.drew{b:Nat}{u w:World}(h:Mod b u w):Mod b u w.drew:=⟨h.os,h.tape,h.output,h.size,h.block⟩
theorem Mod.setCell{b:Nat}{u w:World}(h:Mod b u w)(o:Nat)(v:Value):Mod b u (w.setCell ⟨b,o,none⟩ v):=
 h.trans ⟨rfl,rfl,rfl,by simp[World.setCell],fun k hk hn=>Below.heap_setCell _ _ _ _ hn⟩
theorem Mod.alloc{b:Nat}{u w:World}(h:Mod b u w)(o:Obj):Mod b u (w.alloc o):=
 h.trans ⟨rfl,rfl,rfl,by simp,fun k hk _=>Below.heap_alloc _ _ _ hk⟩
theorem Mod.cell{b:Nat}{w w':World}(h:Mod b w w'){p:Addr}(hp:p.block<w.heap.size)(hn:p.block≠b):w'.cell? p=w.cell? p:=
 World.cell?_of_block (w:=w) (h.block p.block hp hn)
theorem RAt.lt{t:ByteArray}{a c:Nat}(h:RAt w b t x p d a c):b<w.heap.size:=by
 rcases Nat.lt_or_ge b w.heap.size with h'|h'
 ·exact h'
 ·unfold RAt at h;rw[Array.getElem?_eq_none h']at h;cases h
theorem RAt.cell{w:World}{b:Nat}{t:ByteArray}{x:Wd}{p:Nat}{d:Value}{a c:Nat}(h:RAt w b t x p d a c)(o:Nat):w.cell? ⟨b,o,none⟩=(Nc t x p d a c)[o]?:=by
 unfold World.cell?;rw[h];rfl
theorem RAt.frozen{w:World}{b:Nat}{t:ByteArray}{x:Wd}{p:Nat}{d:Value}{a c:Nat}(h:RAt w b t x p d a c)(o:Nat):w.frozen? ⟨b,o,none⟩=false:=by
 unfold World.frozen?;rw[h];simp
theorem RAt.mod{t:ByteArray}{a c:Nat}(h:RAt w b t x p d a c)(e:Below w.heap.size w w'):RAt w' b t x p d a c:=by
 unfold RAt;rw[e.block b h.lt];exact h
def Jp(r:Qb (Wd×Nat))(b:Nat)(t:ByteArray)(rv:Value)(mc mt:Nat)(w:World)(e:Ending)(w':World):Prop:=
 Mod b w w'/\
 match r with
 | .ok y=>e=.returned (.tuple #[])/\RAt w' b t y.1 y.2 rv mc mt
 | .error f=>ZS f w e w'
theorem Jp.err{r:Qb (Wd×Nat)}{t:ByteArray}{i:Value}{d:Nat}{f:Flt}{e:Ending}(h:r=.error f)(a:Mod b w w')(c:ZS f w e w'):Jp r b t i d g w e w':=by
 subst h;exact⟨a,c⟩
theorem Jp.ok{r:Qb (Wd×Nat)}{b:Nat}{t:ByteArray}{d:Value}{a c:Nat}{y:Wd×Nat}{w w':World}(h:r=.ok y)(e:Mod b w w')(f:RAt w' b t y.1 y.2 d a c):Jp r b t d a c w (.returned (.tuple #[])) w':=by
 subst h;exact⟨e,rfl,f⟩
theorem JM.cases{r:Qb Nat}{w w':World}{e:Ending}(h:JM r w e w') :
 (∃ n,r=.ok n/\e=.returned (.int .i64 n)/\w'=w)\/(∃ f,r=.error f/\ZS f w e w'/\Below w.heap.size w w'):=by
 cases r with
 |ok n=>exact Qd ⟨n,rfl,h⟩
 |error f=>exact Qc ⟨f,rfl,h⟩
theorem Zf.cases{r:Qb (Wd×Nat)}{w w':World}{e:Ending}(h:Zf r w e w') :
 (∃ y,r=.ok y/\e=.returned (.tuple #[wdV y.1,.int .i64 y.2])/\Below w.heap.size w w')\/(∃ f,r=.error f/\ZS f w e w'/\Below w.heap.size w w'):=by
 cases r with
 |ok n=>exact Qd ⟨n,rfl,h.2,h.1⟩
 |error f=>exact Qc ⟨f,rfl,h.2,h.1⟩
theorem Hj{f:Flt}(h:Q7 (l.length+1) (l.drop p) p=.error f):nL l p=.error f:=by
 unfold nL;rw[h]
theorem N4(h:Q7 (l.length+1) (l.drop p) p=.ok n):nL l p=Q1 (l.drop n) n:=by
 unfold nL;rw[h]
theorem RAt.put{t:ByteArray}{rv:Value}{mc mt:Nat}(h:RAt w b t x p rv mc mt)(y:Wd)(q:Nat) :
 RAt ((((((w.setCell ⟨b,1,none⟩ (.int .i64 y.kind)).setCell ⟨b,2,none⟩ (.int .i64 y.pos)).setCell ⟨b,3,none⟩ (.string ⟨y.spelt.toArray⟩)).setCell ⟨b,4,none⟩ (.string ⟨y.said.toArray⟩)).setCell ⟨b,5,none⟩ (.int .i64 y.num)).setCell ⟨b,6,none⟩ (.int .i64 q)) b t y q rv mc mt:=
 Qt _ _ _ _ _ _ (Qt _ _ _ _ _ _ (Qt _ _ _ _ _ _ (Qt _ _ _ _ _ _ (Qt _ _ _ _ _ _ (Qt _ _ _ _ _ _ h)))))
theorem Mod.six(h:Mod b u w)(o1 o2 o3 o4 o5 o6:Nat)(v1 v2 v3 v4 v5 v6:Value) :
 Mod b u ((((((w.setCell ⟨b,o1,none⟩ v1).setCell ⟨b,o2,none⟩ v2).setCell ⟨b,o3,none⟩ v3).setCell ⟨b,o4,none⟩ v4).setCell ⟨b,o5,none⟩ v5).setCell ⟨b,o6,none⟩ v6):=
 (((((h.setCell _ _).setCell _ _).setCell _ _).setCell _ _).setCell _ _).setCell _ _
theorem RL(b:Nat)(t:ByteArray)(x:Wd)(p:Nat)(A:Value)(v z:Nat)(m:Int)(w:World)(u:t.size<=4294967280)(s:p<=t.size)(g:RAt w b t x p A v z)(L:w.cell? ⟨1,0,none⟩=some (.int .i64 m)) :
 Calls prog 141 #[.pointer (some ⟨b,0,none⟩)] w (Jp (nL t.data.toList p) b t A v z w):=by
 have k:=g.cell;have R:=g.frozen;have P:w.cell? ⟨b,0,none⟩=some (.string t):=k 0;have Q:w.cell? ⟨b,6,none⟩=some (.int .i64 p):=k 6;have B:=I g;clear k g;go_enter func141,ntmps141;go_wp2_with fail;go_region_with (first|(go_at_call 194;refine(SH t p (t.data.toList.length+1) m _ u s (by simp;omega) (by simpa using L)).mono ?_;intro e M J;rcases J.cases with⟨n,d,rfl,rfl⟩ | ⟨f,d,⟨j,q,rfl,l⟩,c⟩;rotate_left;exact⟨rfl,Jp.err (Hj d) (Mod.of_below (XQ c)) ⟨j,q,rfl,l⟩⟩;skip)|(go_at_call 193;refine(Rv t _ _ u (by have:=(VY _ _ _ _ (by simpa using s) d).2;simpa using this)).mono ?_;intro e M K;rcases K.cases with⟨y,i,rfl,c⟩ | ⟨f,i,⟨j,q,rfl,l⟩,c⟩;rotate_left;exact⟨rfl,Jp.err ((N4 d).trans i) (Mod.of_below (XQ c)) ⟨j,q,rfl,l⟩⟩;have a:=B.o.mod (XQ c);have C:=a.cell 1;have D:=a.cell 2;have E:=a.cell 3;have F:=a.cell 4;have G:=a.cell 5;have H:=a.cell 6;simp only[Nc]at C D E F G H;have N:=a.frozen;have r:=I a;clear a;unfold wdV;skip))
 all_goals
  go_end0
  first
   |exact Jp.ok ((N4 d).trans i) ((Mod.of_below (XQ c)).six _ _ _ _ _ _ _ _ _ _ _ _) (r.o.put _ _)
   |exact Jp.ok ((N4 d).trans i) ((Mod.of_below (XQ c)).six _ _ _ _ _ _ _ _ _ _ _ _) (r.o.put' _ _)
structure Fr (P:Nat->Obj->Prop) (w w':World):Prop where
 os:w'.os=w.os
 tape:w'.tape=w.tape
 output:w'.output=w.output
 size:w.heap.size<=w'.heap.size
 block:∀ k o,w.heap[k]?=some o->¬ P k o->w'.heap[k]?=some o
theorem Fr.refl(P:Nat->Obj->Prop)(w:World):Fr P w w:=⟨rfl,rfl,rfl,Nat.le_refl _,fun _ _ h _=>h⟩
theorem Fr.trans{P:Nat->Obj->Prop}{u v w:World}(h:Fr P u v)(k:Fr P v w):Fr P u w:=
 ⟨k.os.trans h.os,k.tape.trans h.tape,k.output.trans h.output,Qs h.size k.size,fun i o hi hn=>k.block i o (h.block i o hi hn) hn⟩
theorem Fr.mono{Q:Nat->Obj->Prop}{v:World}(h:Fr P u v)(hq:∀ k o,P k o->Q k o):Fr Q u v:=
 ⟨h.os,h.tape,h.output,h.size,fun i o hi hn=>h.block i o hi (fun hp=>hn (hq _ _ hp))⟩
theorem Fr.of_below(h:Below w.heap.size w w'):Fr P w w':=
 ⟨h.os,h.tape,h.output,h.size,fun k o hk _=>QP hk h⟩
theorem Fr.below(h:Fr P w w')(hB:∀ k o,P k o->B<=k)(a:B<=w.heap.size):Below B w w':=
 ⟨h.os,h.tape,h.output,h.size,fun k hk=>by
  have hl:k<w.heap.size:=by omega
  rw[Array.getElem?_eq_getElem hl]
  exact h.block k _ (Array.getElem?_eq_getElem hl) (fun hp=>by have:=hB _ _ hp;omega)⟩
theorem Fr.set{o:Obj}(h:Fr P u w)(a:w.heap[b]?=some o)(c:P b o)(j:Nat)(v:Value):Fr P u (w.setCell ⟨b,j,none⟩ v):=
 h.trans ⟨rfl,rfl,rfl,by simp [World.setCell],fun k o' hk hn=>by
  by_cases e:k=b
  ·subst e;rw[a]at hk;cases hk;exact absurd c hn
  ·rw [Below.heap_setCell _ _ _ _ e];exact hk⟩
theorem Fr.alloc{P:Nat->Obj->Prop}{u w:World}(h:Fr P u w)(o:Obj):Fr P u (w.alloc o):=
 h.trans ⟨rfl,rfl,rfl,by simp,fun k o' hk _=>Qn hk⟩
theorem Fr.drew{P:Nat->Obj->Prop}{u w:World}(h:Fr P u w):Fr P u w.drew:=⟨h.os,h.tape,h.output,h.size,h.block⟩
theorem Fr.grown{a:Option Nat}(h:Fr P u w)(hg:w.grownBy w' a)(hp:∀ k o,a=some k->w.heap[k]?=some o->P k o):Fr P u w':=
 h.trans ⟨hg.os,hg.tape,hg.output,hg.size,fun k o hk hn=>by
  rw [hg.block k (Qg hk) (fun e=>hn (hp k o e.symm hk))];exact hk⟩
def stO:Obj->Bool
 | .cells _ t _=>t==274 || t==52
 | .map _ _=>true
 |_=>false
def PSt(B k:Nat)(o:Obj):Prop:=B<=k/\stO o=true
theorem PSt.not{f:Nat×Nat}(b:t≠274)(c:t≠52):¬ PSt B k (.cells a t f):=fun h=>by
 have:=h.2;unfold stO at this;simp at this;rcases this with h|h
 ·exact b h
 ·exact c h
def UT(w:World)(g:Nat)(zs:Qa):Prop:=
 ∃ cs,w.heap[g]?=some (.cells cs 9)/\∀ j,j<zs.length->cs[j]?=some (.string (sA (zs.getD j [])))
theorem UT.at(h:UT w g zs):Zx w g zs:=by
 obtain⟨d,a,b⟩:=h;intro j c;rw[Qi a];exact b j c
def SlT(w:World)(v:Value)(zs:Qa):Prop:=
 (v=.slice none 0 0/\zs=[])\/∃ g c,v=.slice (some ⟨g,0,none⟩) zs.length c/\UT w g zs
theorem SlT.fr(h:SlT w v zs)(d:Fr P w w')(e:∀ k cs,¬ P k (.cells cs 9)):SlT w' v zs:=by
 rcases h with h | ⟨g,c,f,cs,a,b⟩
 ·exact Qd h
 ·exact Qc ⟨g,c,f,cs,d.block g _ a (e _ _),b⟩
theorem SlT.below(h:SlT w v zs)(hf:Below w.heap.size w w'):SlT w' v zs:=h.fr (P:=fun _ _=>False) (Fr.of_below hf) (fun _ _ h=>h)
theorem SlT.len(h:SlT w v zs):∃ a c,v=.slice a zs.length c:=by
 rcases h with⟨h,rfl⟩ | ⟨g,c,h,_⟩
 ·exact⟨none,0,h⟩
 ·exact⟨_,_,h⟩
theorem Dx(zs:Qa)(j:Nat)(a:j<zs.length):(Qv zs)[j]?=some (.string (sA (zs.getD j []))):=by
 simp[Qv,List.getElem?_eq_getElem a,List.getD_eq_getElem?_getD]
theorem SlT.of_owns{xs:Qa}(h:w.ownsRow base 9 1 v n (Qv xs))(k:n=xs.length):SlT w v xs:=by
 subst k;obtain⟨o,a⟩:=h;rcases a with⟨a,e⟩ | ⟨g,c,d,m,q,f,p,_,r,l⟩
 ·exact Qd ⟨a,Xz e⟩
 ·refine Qc ⟨g,c,m,d,f,fun j i=>?_⟩;have b:=Dx xs j i;rw[<-l]at b;rw[List.getElem?_take_of_lt (by omega)]at b;rw[<-b];simp
theorem UT.of_owns{w:World}{base g n c:Nat}{xs:Qa}(h:w.ownsRow base 9 1 (.slice (some ⟨g,0,none⟩) n c) n (Qv xs)):UT w g xs:=by
 have d:n=xs.length:=by have:=h.1;rw[NB]at this;omega
 rcases SlT.of_owns h d with⟨a,_⟩ | ⟨f,e,a,b⟩
 ·injection a with a;cases a
 ·injection a with h3 h4 h5
  injection h3 with h3
  injection h3 with h6
  subst h6;exact b
def XY(w:World)(hv:Value)(hs:List (L8×L8)):Prop:=
 (hv=.slice none 0 0/\hs=[])\/∃ g c cs,hv=.slice (some ⟨g,0,none⟩) hs.length c/\w.heap[g]?=some (.cells cs 50)/\
   ∀ j (hj:j<hs.length),cs[j*2]?=some (.string (sA hs[j].1))/\cs[j*2+1]?=some (.string (sA hs[j].2))
theorem XY.fr{a:List (L8×L8)}(h:XY w v a)(e:Fr P w w')(f:∀ k cs,¬ P k (.cells cs 50)):XY w' v a:=by
 rcases h with h | ⟨g,c,cs,i,b,d⟩
 ·exact Qd h
 ·exact Qc ⟨g,c,cs,i,e.block g _ b (f _ _),d⟩
theorem XY.len{b:List (L8×L8)}(h:XY w v b):∃ a c,v=.slice a b.length c:=by
 rcases h with⟨h,rfl⟩ | ⟨g,c,d,h,_⟩
 ·exact⟨none,0,h⟩
 ·exact⟨_,_,h⟩
theorem XY.cells{a:List (L8×L8)}(h:XY w v a)(j:Nat)(d:j<a.length):∃ g c,v=.slice (some ⟨g,0,none⟩) a.length c/\g<w.heap.size/\w.cell? ⟨g,j*2,none⟩=some (.string (sA a[j].1))/\w.cell? ⟨g,j*2+1,none⟩=some (.string (sA a[j].2)):=by
 rcases h with⟨_,rfl⟩ | ⟨g,c,f,h,b,e⟩
 ·exact absurd d (Nat.not_lt_zero _)
 ·exact⟨g,c,h,Qg b,by rw[Qi b];exact(e j d).1,by rw[Qi b];exact(e j d).2⟩
def QZ(l:List (Int×L8)):List Value:=l.flatMap fun a=>[.int .i64 a.1,.string (sA a.2)]
theorem B0(l:List (Int×L8))(a:Int×L8):QZ l++[.int .i64 a.1,.string (sA a.2)]=QZ (l++[a]):=by simp[QZ]
theorem NP(l:List (Int×L8)):(QZ l).length=l.length*2:=by
 induction l with
 |nil=>rfl
 |cons p r ih=>simp only[QZ,List.flatMap_cons,Ze,ZN,Up]at ih ⊢;omega
theorem K0(l:List (Int×L8))(j:Nat)(a:j<l.length):(QZ l)[j*2]?=some (.int .i64 l[j].1)/\(QZ l)[j*2+1]?=some (.string (sA l[j].2)):=by
 induction l generalizing j with
 |nil=>exact absurd a (Nat.not_lt_zero _)
 |cons p r ih=>
  cases j with
  |zero=>exact⟨rfl,rfl⟩
  |succ j=>
   have:=ih j (by simpa using a);have e:QZ (p::r)=.int .i64 p.1 :: .string (sA p.2)::QZ r:=rfl;have b:(j+1)*2=j*2+1+1:=by omega
   have c:(j+1)*2+1=(j*2+1)+1+1:=by omega
   rw[e,b,List.getElem?_cons_succ,List.getElem?_cons_succ,List.getElem?_cons_succ,List.getElem?_cons_succ];exact this
theorem QQ(h:w.ownsRow base e size v n xs):∃ a c,v=.slice a n c:=by
 rcases h.2 with⟨h,b⟩ | ⟨g,d,f,h,_⟩
 ·exact⟨none,0,by rw[h,b]⟩
 ·exact⟨_,_,h⟩
theorem Xe(h:w.ownsRow base e size v n xs)(f:Fr P w w')(l:∀ k cs,¬ P k (.cells cs e)):w'.ownsRow base e size v n xs:=by
 obtain⟨d,a⟩:=h;refine⟨d,?_⟩;rcases a with a | ⟨g,b,c,m,i,j,r⟩
 ·exact Qd a
 ·exact Qc ⟨g,b,c,m,i,f.block g _ j (l _ _),r⟩
theorem K5(h:w.ownsRow base e size v n xs)(j:b<=base):w.ownsRow b e size v n xs:=by
 obtain⟨f,a⟩:=h;refine⟨f,?_⟩;rcases a with a | ⟨g,c,d,i,k,r⟩
 ·exact Qd a
 ·exact Qc ⟨g,c,d,i,by omega,r⟩
theorem Y7(h:w.ownsRow base e size v n xs)(k:Nat)(o:Obj)(a:v.ownBlock=some k)(b:w.heap[k]?=some o):base<=k/\∃ cs,o=.cells cs e:=by
 rcases h.2 with⟨rfl,_⟩ | ⟨g,f,i,rfl,c,d,_⟩
 ·cases a
 ·obtain rfl:g=k:=by simpa[Value.ownBlock]using a
  rw[d]at b;cases b;exact⟨c,_,rfl⟩
theorem Xo(h:w.ownsRow base e size v n xs)(m:0<n):∃ g c,v=.slice (some ⟨g,0,none⟩) n c/\base<=g/\g<w.heap.size/\∀ j u,xs[j]?=some u->w.cell? ⟨g,j,none⟩=some u:=by
 rcases h.2 with⟨_,l⟩ | ⟨g,b,k,a,d,f,_⟩
 ·omega
 ·refine⟨g,b,a,d,Qg f,fun j u i=>?_⟩;have:=h.cells (g:=g) (by rw[a];rfl) j u i;rwa [Ys]at this
def Kg(es:Array MapEntry)(f:L8->Option Value):Prop:=
 (∀ e∈es.toList,∃ x,e.key=.string (sA x)/\f x=some e.val)/\(∀ x v,f x=some v->∃ e∈es.toList,e.key=.string (sA x))/\es.toList.Pairwise (fun a b=>a.key≠b.key)
theorem Kg.empty:Kg #[] (fun _=>none):=⟨fun e he=>(by simp at he),fun x v h=>(by cases h),by simp⟩
theorem Kg.keys{a:Array MapEntry}(h:Kg a f):∀ e∈a.toList,MapKept.IsKey .string e.key:=fun e he=>by
 obtain⟨x,b,_⟩:=h.1 e he;rw[b];trivial
theorem CG{x y:L8}(h:Value.string (sA x)=.string (sA y)):x=y:=by injection h with h;exact U9 h
theorem Ek{T K E:TypeId}(R:prog.underlying T=some (.map K E))(D:prog.underlying K=some .string){k:Array MapEntry}{c:Nat}{g:L8->Option Value}(H:w.heap[m]?=some (.map k c))(q:Kg k f)(x:L8)(v:Value)(U:g x=some v)(F:∀ z,z≠x->g z=f z) :
 ∃ es' c',(Instr.mapUpdate T (.map (some m)) (.string (sA x)) v).run prog w=.ok () { w with heap:=w.heap.setIfInBounds m (.map es' c') }/\Kg es' g:=by
 have G:MapKept.IsKey .string (.string (sA x)):=trivial;rcases MapKept.findNow_spec G k.toList 0 q.keys with⟨M,l⟩ | ⟨j,e,M,l,y⟩
 ·refine⟨k.push ⟨.string (sA x),v,c⟩,c+1,?_,?_,?_,?_⟩
  ·simp[Instr.mapUpdate,run_underlying R,MapKept.run_getObj_map H,MapKept.run_checkKey D G,MapKept.run_findKey D M,MapKept.run_setObj_map _ H,Result.andThen]
  ·intro e he;simp only[Array.toList_push,List.mem_append,List.mem_singleton]at he;rcases he with he|rfl
   ·obtain⟨z,n,N⟩:=q.1 e he;refine⟨z,n,?_⟩;rw[F z (fun o=>l e he (by rw[n,o]))];exact N
   ·exact⟨x,rfl,U⟩
  ·intro z u n;by_cases o:z=x
   ·exact⟨⟨.string (sA x),v,c⟩,by simp,by rw[o]⟩
   ·rw[F z o]at n;obtain⟨e,he,X⟩:=q.2.1 z u n;exact⟨e,by simp[he],X⟩
  ·rw[Array.toList_push,List.pairwise_append];refine⟨q.2.2,by simp,fun a p b A=>?_⟩;simp at A;subst A;exact l a p
 ·have S:k[j]?=some e:=by simpa using l
  have r:j<k.toList.length:=by
   rcases Nat.lt_or_ge j k.toList.length with h|h
   ·exact h
   ·rw[List.getElem?_eq_none h]at l;cases l
  have J:(k.modify j (fun e=>{ e with key:=.string (sA x),val:=v })).toList=k.toList.set j { e with key:=.string (sA x),val:=v }:=by
   apply List.ext_getElem?;intro i;rw[Array.getElem?_toList,Array.getElem?_modify,List.getElem?_set];by_cases d:j=i
   ·subst d;simp[S,r];exact(by simpa using r)
   ·simp[d]
  refine⟨k.modify j (fun e=>{ e with key:=.string (sA x),val:=v }),c,?_,?_,?_,?_⟩
  ·simp[Instr.mapUpdate,run_underlying R,MapKept.run_getObj_map H,MapKept.run_checkKey D G,MapKept.run_findKey D M,S,y,MapKept.run_keyThatStays G,MapKept.run_setObj_map _ H,Result.andThen]
  ·intro a p;rw[J]at p;obtain⟨i,d⟩:=List.mem_iff_getElem?.1 p;rw[List.getElem?_set]at d;by_cases C:j=i
   ·rw[if_pos C,if_pos (by omega)]at d;cases d;exact⟨x,rfl,U⟩
   ·rw[if_neg C]at d;obtain⟨z,n,N⟩:=q.1 a (List.mem_of_getElem? d);refine⟨z,n,?_⟩;rw[F z (fun o=>?_)];exact N;have L:=List.pairwise_iff_getElem.1 q.2.2
    have P:i<k.toList.length:=by
     rcases Nat.lt_or_ge i k.toList.length with h|h
     ·exact h
     ·rw[List.getElem?_eq_none h]at d;cases d
    have Q:k.toList[i]=a:=by rw[List.getElem?_eq_getElem P]at d;exact Option.some.inj d
    have t:k.toList[j]=e:=by rw[List.getElem?_eq_getElem r]at l;exact Option.some.inj l
    have s:a.key=e.key:=by rw[n,y,o]
    rcases Nat.lt_or_gt_of_ne C with hlt|hlt
    ·exact L j i r P hlt (by rw[Q,t,s])
    ·exact L i j P r hlt (by rw[Q,t,s])
  ·intro z u n;by_cases o:z=x
   ·refine⟨{ e with key:=.string (sA x),val:=v },?_,by rw[o]⟩;rw[J];exact List.mem_set r _
   ·rw[F z o]at n;obtain⟨a,p,s⟩:=q.2.1 z u n;obtain⟨i,d⟩:=List.mem_iff_getElem?.1 p
    have C:j≠i:=fun V=>by
     subst V;rw[l]at d;cases d;rw[y]at s;exact o (CG s).symm
    refine⟨a,?_,s⟩;rw[J];refine List.mem_iff_getElem?.2 ⟨i,?_⟩;rw[List.getElem?_set,if_neg C];exact d
  ·rw[J,List.pairwise_iff_getElem];intro a b p A W;have L:=List.pairwise_iff_getElem.1 q.2.2;rw[List.length_set]at p A;have t:k.toList[j]=e:=by rw[List.getElem?_eq_getElem r]at l;exact Option.some.inj l
   rw[List.getElem_set,List.getElem_set];have B:=L a b p A W;split
   ·next h=>subst h;rw[if_neg (by omega)];rw[t,y]at B;exact B
   ·split
    ·next h=>subst h;rw[t,y]at B;exact B
    ·exact B
theorem RR{T K E:TypeId}(l:prog.underlying T=some (.map K E))(a:prog.underlying K=some .string){z:Value}(q:∀ W,(zeroValue E).run prog W=.ok z W){b:Array MapEntry}{c:Nat}(n:w.heap[m]?=some (.map b c))(i:Kg b f)(x:L8) :
 (Instr.lookup T (.map (some m)) (.string (sA x)) false).run prog w=.ok ((f x).getD z) w:=by
 have k:MapKept.IsKey .string (.string (sA x)):=trivial;rcases MapKept.findNow_spec k b.toList 0 i.keys with⟨d,g⟩ | ⟨j,e,d,g,p⟩
 ·have s:f x=none:=by
   cases hfx:f x with
   |none=>rfl
   |some v=>
    obtain⟨e,he,r⟩:=i.2.1 x v hfx;exact absurd r (g e he)
  rw[s];simp[Instr.lookup,run_underlying l,MapKept.run_getObj_map n,MapKept.run_checkKey a k,MapKept.run_findKey a d,q,Result.andThen]
 ·obtain⟨y,o,t⟩:=i.1 e (List.mem_of_getElem? g);rw[p]at o;have:x=y:=CG o;subst this;rw[t];simp[Instr.lookup,run_underlying l,MapKept.run_getObj_map n,MapKept.run_checkKey a k,MapKept.run_findKey a d,Result.andThen]
structure SBd (M:Msg) (s:SS):Prop where
 fr:M.fr.length<=100000
 tu:M.to.length<=100000
 hl:M.hdrs.length<=100000
 hd:∀ h∈M.hdrs,h.1.length<=100000∧h.2.length<=100000
 told:∀ t∈s.told,t.length<=100000
 tl:s.told.length<=1000000
 vals:∀ x t,s.vals x=some t->t.length<=48
 met:s.met.length<=6
def Nd(M:Msg)(hv:Value)(vs:Bool)(mb:Nat)(tv mv:Value)(disc:Bool):Array Value:=
 #[.string (sA M.fr),.string (sA M.to),.int .i64 M.size,hv,.bool vs,.map (some mb),tv,mv,.bool disc]
def Kh(s:SS)(x:L8):Option Value:=(s.vals x).map fun t=>.agg #[.string (sA t)]
structure SI (w:World) (B sb:Nat) (M:Msg) (s:SS) (hv:Value) (mb:Nat) (tv mv:Value):Prop where
 bs:B<=sb
 bm:B<=mb
 b1:1 < B
 m1:∃ m,w.cell? ⟨1,0,none⟩=some (.int .i64 m)
 blk:w.heap[sb]?=some (.cells (Nd M hv s.vs mb tv mv s.disc) 274)
 hd:XY w hv M.hdrs
 mp:∃ es c,w.heap[mb]?=some (.map es c)∧Kg es (Kh s)
 told:SlT w tv s.told
 met:w.ownsRow B 52 2 mv s.met.length (QZ s.met)
 mn:s.met=[]->mv=.slice none 0 0
 bd:SBd M s
def SAt(w:World)(B sb:Nat)(M:Msg)(s:SS):Prop:=∃ hv mb tv mv,SI w B sb M s hv mb tv mv
theorem SI.fr{P:Nat->Obj->Prop}{w w':World}{B sb:Nat}{M:Msg}{s:SS}{f:Value}{g:Nat}{j i:Value}(h:SI w B sb M s f g j i)(b:Fr P w w')(l:∀ k cs,¬ P k (.cells cs 274))(n:∀ k cs,¬ P k (.cells cs 52))(p:∀ k cs,¬ P k (.cells cs 9))(q:∀ k cs,¬ P k (.cells cs 50))(r:∀ k es c,¬ P k (.map es c))(t:∀ o,¬ P 1 o):SI w' B sb M s f g j i:=by
 obtain⟨es,c,u,v⟩:=h.mp;obtain⟨m,e⟩:=h.m1;have d:∃ o,w.heap[1]?=some o:=⟨_,Array.getElem?_eq_getElem (Qq e)⟩;obtain⟨o,d⟩:=d;exact⟨h.bs,h.bm,h.b1,⟨m,by rw[World.cell?_of_block (a:=⟨1,0,none⟩) ((b.block 1 o d (t o)).trans d.symm)];exact e⟩,b.block _ _ h.blk (l _ _),h.hd.fr b q,⟨es,c,b.block _ _ u (r _ _ _),v⟩,h.told.fr b p,Xe h.met b n,h.mn,h.bd⟩
theorem SI.below{s:SS}(h:SI w B sb M s hv mb tv mv)(hf:Below w.heap.size w w'):SI w' B sb M s hv mb tv mv:=
 h.fr (P:=fun _ _=>False) (Fr.of_below hf) (fun _ _ h=>h) (fun _ _ h=>h) (fun _ _ h=>h) (fun _ _ h=>h) (fun _ _ _ h=>h) (fun _ h=>h)
theorem SAt.below{w w':World}{B sb:Nat}{M:Msg}{s:SS}(h:SAt w B sb M s)(a:Below w.heap.size w w'):SAt w' B sb M s:=by
 obtain⟨b,c,e,d,h⟩:=h;exact⟨b,c,e,d,h.below a⟩
theorem SI.cell{w:World}{B sb:Nat}{M:Msg}{s:SS}{hv:Value}{mb:Nat}{tv mv:Value}(h:SI w B sb M s hv mb tv mv)(j:Nat):w.cell? ⟨sb,j,none⟩=(Nd M hv s.vs mb tv mv s.disc)[j]?:=Qi h.blk j
theorem SI.frozen{w:World}{B sb:Nat}{M:Msg}{s:SS}{hv:Value}{mb:Nat}{tv mv:Value}(h:SI w B sb M s hv mb tv mv)(j:Nat):w.frozen? ⟨sb,j,none⟩=false:=Qu h.blk j
theorem SI.lt{s:SS}(h:SI w B sb M s hv mb tv mv):sb<w.heap.size:=Qg h.blk
theorem SI.ps{s:SS}(h:SI w B sb M s hv mb tv mv):PSt B sb (.cells (Nd M hv s.vs mb tv mv s.disc) 274):=⟨h.bs,rfl⟩
def Zh(i:Ins)(av bv:Value):Value:=.agg #[.int .i64 i.op,.int .i64 i.n,.int .i64 i.tag,.bool i.oct,av,bv,.int .i64 i.at_]
def Ei(i:Ins)(av bv:Value):Array Value:=#[.int .i64 i.op,.int .i64 i.n,.int .i64 i.tag,.bool i.oct,av,bv,.int .i64 i.at_]
structure ZT (w:World) (i:Ins) (av bv:Value):Prop where
 a:SlT w av i.a
 b:SlT w bv i.b
 al:∀ z∈i.a,z.length<=100000
 bl:∀ z∈i.b,z.length<=100000
 an:i.a.length<=1000000
 bn:i.b.length<=1000000
 n1:-9223372036854775808<=i.n
 n2:i.n<=9223372036854775807
theorem ZT.fr{P:Nat->Obj->Prop}{w w':World}{i:Ins}{av bv:Value}(h:ZT w i av bv)(hf:Fr P w w')(hp:∀ k cs,¬ P k (.cells cs 9)):ZT w' i av bv:=
 ⟨h.a.fr hf hp,h.b.fr hf hp,h.al,h.bl,h.an,h.bn,h.n1,h.n2⟩
theorem ZT.below{i:Ins}{av bv:Value}(h:ZT w i av bv)(hb:Below w.heap.size w w'):ZT w' i av bv:=h.fr (P:=fun _ _=>False) (Fr.of_below hb) (fun _ _ h=>h)
theorem JJ(h:w.ownsRow base e size v n xs)(m:v.ownBlock≠some b)(j:Nat)(x:Value):(w.setCell ⟨b,j,none⟩ x).ownsRow base e size v n xs:=by
 obtain⟨i,a⟩:=h;refine⟨i,?_⟩;rcases a with a | ⟨g,d,f,c,k,l,r⟩
 ·exact Qd a
 ·refine Qc ⟨g,d,f,c,k,?_,r⟩;rw[Below.heap_setCell _ _ _ _ (show g≠b from fun e=>m (by rw[c,e];rfl))];exact l
abbrev IV:=Ins×Value×Value
def Js(p:IV):List Value:=[.int .i64 p.1.op,.int .i64 p.1.n,.int .i64 p.1.tag,.bool p.1.oct,p.2.1,p.2.2,.int .i64 p.1.at_]
def ZH(ps:List IV):List Value:=ps.flatMap Js
theorem Cb(p:IV)(a:List IV):ZH (p::a)=Js p++ZH a:=by simp[ZH]
theorem H4(a b:List IV):ZH (a++b)=ZH a++ZH b:=by simp[ZH]
theorem GU:∀(b:List IV) (j:Nat) (a:j<b.length) (k:Nat),k<7->(ZH b)[j*7+k]?=(Js b[j])[k]?
 | [],j,a,_,_=>absurd a (Nat.not_lt_zero _)
 |p::r,0,_,k,hk=>by
  rw[Cb,Nat.zero_mul,Nat.zero_add];show(Js p++ZH r)[k]?=(Js p)[k]?
  rw[List.getElem?_append_left (by simpa[Js]using hk)]
 |p::r,j+1,a,k,hk=>by
  have f:=GU r j (by simpa using a) k hk;have c:(Js p).length=7:=rfl;have e:(Js p).length<=(j+1)*7+k:=by rw[c];omega
  have d:(j+1)*7+k - 7=j*7+k:=by omega
  rw[Cb,List.getElem?_append_right e,c,d,f];rfl
def Vo:Value->Prop
 | .slice _ n c=>n<=c
 |_=>True
def Kf(ps:List IV):List Nat:=(ps.map Prod.snd).flatMap fun p=>p.1.ownBlock.toList++p.2.ownBlock.toList
theorem B1(a b:List IV):Kf (a++b)=Kf a++Kf b:=by unfold Kf;rw[List.map_append,List.flatMap_append]
theorem AT{b:List IV}:k∈Kf b↔∃ p∈b,p.2.1.ownBlock=some k\/p.2.2.ownBlock=some k:=by
 unfold Kf;rw[List.mem_flatMap];constructor
 ·rintro⟨q,d,c⟩;obtain⟨p,a,rfl⟩:=List.mem_map.1 d;refine⟨p,a,?_⟩;rcases List.mem_append.1 c with h|h
  ·exact Qd (Option.mem_toList.1 h)
  ·exact Qc (Option.mem_toList.1 h)
 ·rintro⟨p,a,h⟩;refine⟨p.2,List.mem_map_of_mem a,List.mem_append.2 ?_⟩;rcases h with h|h
  ·exact Qd (Option.mem_toList.2 h)
  ·exact Qc (Option.mem_toList.2 h)
structure Apt (L:Nat) (ps:List IV):Prop where
 nd:(Kf ps).Nodup
 ge:∀ k∈Kf ps,L<=k
 rm:∀ p∈ps,Vo p.2.1∧Vo p.2.2
theorem Apt.nil(L:Nat):Apt L []:=⟨List.nodup_nil,(fun k hk=>nomatch hk),(fun p hp=>nomatch hp)⟩
theorem Apt.append{d f:List IV}(h:Apt B d)(l:∀ k∈Kf d,k<L)(c:Apt L f)(i:B<=L):Apt B (d++f):=by
 refine⟨?_,fun k hk=>?_,fun p hp=>?_⟩
 ·rw[B1];refine List.nodup_append.2 ⟨h.nd,c.nd,fun a g b j e=>?_⟩;have:=l a g;have:=c.ge b j;omega
 ·rw[B1]at hk;rcases List.mem_append.1 hk with hk|hk
  ·exact h.ge k hk
  ·exact Qs i (c.ge k hk)
 ·rcases List.mem_append.1 hp with hp|hp
  ·exact h.rm p hp
  ·exact c.rm p hp
theorem Apt.two{L2:Nat}{i:Ins}{c:Value}(f:∀ k,d.ownBlock=some k->L<=k/\k<L2)(g:∀ k,c.ownBlock=some k->L2<=k)(j:L<=L2)(l:Vo d)(m:Vo c):Apt L [(i,d,c)]:=by
 refine⟨?_,fun k hk=>?_,fun p e=>?_⟩
 ·show(d.ownBlock.toList++c.ownBlock.toList++[]).Nodup
  rw[List.append_nil]
  cases ha:d.ownBlock with
  |none=>cases c.ownBlock<;>simp
  |some a=>
   cases hb:c.ownBlock with
   |none=>simp
   |some b=>
    have:=f a ha;have:=g b hb;simp;omega
 ·obtain⟨p,e,hk⟩:=AT.1 hk;rw[XH e]at hk;rcases hk with hk|hk
  ·exact(f k hk).1
  ·exact Qs j (g k hk)
 ·rw[XH e];exact⟨l,m⟩
theorem SlT.lt(h:SlT w v zs)(a:v.ownBlock=some k):k<w.heap.size:=by
 rcases h with⟨h,_⟩ | ⟨g,c,h,d,b,_⟩
 ·rw[h]at a;cases a
 ·rw[h]at a;injection a with a
  subst a;exact Qg b
theorem Tryz.infoIns:(prog.info? 63).map (fun i=>(i.zero,i.size,i.bytes))=some (some (.agg #[.int .i64 0,.int .i64 0,.int .i64 0,.bool false,.slice none 0 0,.slice none 0 0,.int .i64 0]),7,88):=by kernel_rfl
theorem Km(c d:UInt8):((c.toNat:Int)==(d.toNat:Int))=decide (c=d):=by
 by_cases h:c=d
 ·subst h;simp
 ·rw[Qh h];simp;intro e;exact h (UInt8.toNat_inj.1 (by omega))
theorem Be(s:ByteArray)(p:UInt8->Bool)(k:Nat)(h:k<s.size):(s.data.toList.drop k).all p=(p s[k]&&(s.data.toList.drop (k+1)).all p):=by
 rw[XJ s k h,List.all_cons]
theorem AZ(s:ByteArray)(p:UInt8->Bool)(k:Nat)(h:s.size<=k):(s.data.toList.drop k).all p=true:=by
 rw[Zb (by simpa using h)];rfl
theorem Nj(s:ByteArray)(h:0<s.size):s.data.toList.head?=some s[0]:=by
 have:=XJ s 0 h;rw[List.drop_zero]at this;rw[this];rfl
theorem CW(s:ByteArray)(h:0<s.size):s.data.toList.isEmpty=false:=by
 have:=XJ s 0 h;rw[List.drop_zero]at this;rw[this];rfl
theorem DR(s:ByteArray)(w:World)(u:s.size<=1000000) :
 Calls prog 268 #[.string s] w fun e w'=>e=.returned (.bool (isBoxL s.data.toList))/\w'=w:=by
 have g:s.data.toList.length=s.size:=by simp
 by_cases h0:s.size=0
 ·have l:=VF h0;have a:isBoxL s.data.toList=false:=by rw[<-ByteArray.toList_eq,l];rfl
  have b:=I a;clear a g;go_enter func268,ntmps268;go_wp2;go_ret;exact⟨QS b.o.symm,rfl⟩
 have l:=VI h0;have r:s.toList.isEmpty=false:=by simpa using l
 have m:0<s.size:=by omega
 have c:=CW s m;by_cases h16:16<s.size
 ·have a:isBoxL s.data.toList=false:=by unfold isBoxL;rw[c,Qh (by omega)];rfl
  have b:=I a;clear a g c;go_enter func268,ntmps268;go_wp2;go_ret;exact⟨QS b.o.symm,rfl⟩
 have f:((s[0].toNat:Int)==46)=decide (s[0]=46):=Km s[0] 46;by_cases hd:s[0]=46
 ·rw[Qw hd]at f;have a:isBoxL s.data.toList=false:=by unfold isBoxL;rw[c,Qw (by omega),Nj s m,hd];rfl
  have b:=I a;clear a g c hd;go_enter func268,ntmps268;go_wp2;go_ret;exact⟨QS b.o.symm,rfl⟩
 rw[Qh hd]at f
 have a:isBoxL s.data.toList=(s.data.toList.drop 0).all JE:=by
  unfold isBoxL;rw[c,Qw (by omega),Nj s m,List.drop_zero];simp[hd]
 have b:=I a;clear a g c hd;go_enter func268,ntmps268;go_wp2
 go_loop [19] (fun i=>∃ k:Nat,k<=s.size/\i=.int .i64 k/\isBoxL s.data.toList=(s.data.toList.drop k).all JE) (fun i=>s.size - (intOf i).toNat)
 case atStart=>exact⟨0,by omega,rfl,b.o⟩
 case round=>
  obtain⟨k,t,rfl,p⟩:=hrel;have j:=I p;clear p f;by_cases hlt:k<s.size;rotate_left
  ·have d:=I (AZ s JE k (by omega));go_wp2;go_ret;exact⟨QS (by rw[j.o,d.o]),rfl⟩
  have d:=I (Be s JE k hlt);have n:Hid (JE s[k]=(QL (s[k].toNat:Int) || QI (s[k].toNat:Int) || s[k]==45 || s[k]==46)):=rfl;have q:((s[k].toNat:Int) != 45)=!(s[k]==45):=by rw[bne,show((s[k].toNat:Int)==45)=decide (s[k]=45)from Km s[k] 45];by_cases h:s[k]=45<;>simp[h]
  have f:((s[k].toNat:Int) != 46)=!(s[k]==46):=by rw[bne,show((s[k].toNat:Int)==46)=decide (s[k]=46)from Km s[k] 46];by_cases h:s[k]=46<;>simp[h]
  generalize (s[k]==45)=b45 at *;generalize (s[k]==46)=b46 at *
  cases hc:QL (s[k].toNat:Int)<;>cases hd:QI (s[k].toNat:Int)<;>cases b45<;>cases b46 <;>
  (go_wp2_with (first | (go_at_call 224;refine (Z8 _ _).mono ?_;rintro e w' ⟨rfl,rfl⟩) | (go_at_call 227;refine (ZO _ _).mono ?_;rintro e w' ⟨rfl,rfl⟩))
   first
    |(go_ret;exact⟨QS (by rw[j.o,d.o,n.o,hc,hd];rfl),rfl⟩)
    | (go_round
       case rel=>exact⟨k+1,by omega,by go_num,by rw[j.o,d.o,n.o,hc,hd];rfl⟩
       case measure=>simp [intOf];omega))
def Xq(ps:List (Nat×UInt8)):List Value:=ps.flatMap fun p=>[.int .i64 p.1,.int .u8 p.2.toNat]
theorem VO(a:List (Nat×UInt8))(p:Nat×UInt8):Xq a++[.int .i64 p.1,.int .u8 p.2.toNat]=Xq (a++[p]):=by simp[Xq]
theorem Tryz.infoPiece:(prog.info? 362).map (fun i=>(i.zero,i.size,i.bytes))=some (some (.agg #[.int .i64 0,.int .u8 0]),2,16):=by kernel_rfl
theorem Fp(s:ByteArray)(k:Nat)(h:k<s.size):pcL (s.data.toList.drop k) =
 if s[k]=42 then(2,0)::pcL (s.data.toList.drop (k+1))else if s[k]=63 then(1,0)::pcL (s.data.toList.drop (k+1))
 else if h:s[k]=92/\k+1<s.size then(0,s[k+1])::pcL (s.data.toList.drop (k+2))else(0,s[k])::pcL (s.data.toList.drop (k+1)):=by
 rw[XJ s k h];by_cases h2:k+1<s.size
 ·rw[XJ s (k+1) h2,pcL];by_cases a1:s[k]=42
  ·simp[a1]
  by_cases a2:s[k]=63
  ·simp[a1,a2]
  by_cases a3:s[k]=92
  ·simp[a1,a2,a3,h2]
  ·simp[a1,a2,a3,h2]
 ·rw[Zb (by simpa using h2)];simp only[pcL];rw[dif_neg (by omega)];split
  ·rfl
  ·split<;>rfl
theorem V9(w:World)(x y:Value)(t:TypeId):∀ j u,[x,y][j]?=some u->(w.alloc (.cells #[x,y] t)).cell? ((⟨w.heap.size,0,none⟩:Addr).add j)=some u:=by
 intro j u a
 match j,a with
 |0,a=>simp at a;subst a;simp[Addr.add]
 |1,a=>simp at a;subst a;simp[Addr.add]
theorem V3(a b:Int):∀ u∈[Value.int .i64 a,Value.int .u8 b],u.oneCell'=true:=by
 intro u c;simp at c;rcases c with rfl|rfl<;>rfl
theorem Jm{o:Obj}{a:Option Nat}(h:Below B u w)(b:B<=w.heap.size)(hg:(w.alloc o).grownBy w' a)(c:∀ k,a=some k->B<=k):Below B u w':=by
 have ha:=h.alloc b o
 exact ⟨hg.os.trans ha.os,hg.tape.trans ha.tape,hg.output.trans ha.output,Qs ha.size hg.size,fun k hk=>by
  rw[hg.block k (by simp;omega) (fun e=>by have:=c k e.symm;omega)]
  exact ha.block k hk⟩
theorem Nb(c d:UInt8):((c.toNat:Int)==(d.toNat:Int))=decide (c=d):=by
 by_cases h:c=d
 ·subst h;simp
 ·rw[Qh h];simp;intro e;exact h (UInt8.toNat_inj.1 (by omega))
theorem IB(s:ByteArray)(w:World)(N:s.size<=4294967280) :
 Calls prog 246 #[.string s] w fun e w'=>∃ v,e=.returned v/\w'.ownsRow w.heap.size 362 2 v (pcL s.data.toList).length (Xq (pcL s.data.toList))/\Below w.heap.size w w':=by
 obtain⟨z,r,u,x,y⟩:=info_parts Tryz.infoPiece;go_enter func246,ntmps246;go_wp2_with fail
 go_loopw [3,4] (fun l i wr=>∃(k:Nat) (a:List (Nat×UInt8)),k<=s.size/\i=.int .i64 k/\wr.ownsRow w.heap.size 362 2 l a.length (Xq a)/\Below w.heap.size w wr/\a.length<=k/\pcL s.data.toList=a++pcL (s.data.toList.drop k)) (fun _ i _=>s.size - (intOf i).toNat)
 case atStart=>exact⟨0,[],by omega,rfl,World.ownsRow_nil _ _ _ _,Below.refl _ _,Nat.le_refl _,rfl⟩
 case round=>
  obtain⟨k,a,f,rfl,F,D,M,G⟩:=hrel;have p:=I G;have n:=I D;have t:w.heap.size<=wr.heap.size:=D.size;clear G D;by_cases hlt:k<s.size;rotate_left
  ·have L:k=s.size:=by omega
   subst L;have H:Hid (pcL (s.data.toList.drop s.size)=[]):=by show _=_;rw[Zb (by simp)];rfl
   go_wp2;go_ret;refine⟨_,rfl,?_,n.o⟩;rw[p.o,H.o,List.append_nil];exact F
  have m:=I (Fp s k hlt);have d:=I F;have P:=UInt8.toNat_lt s[k];have E:((s[k].toNat:Int)==42)=decide (s[k]=42):=Nb s[k] 42;have C:((s[k].toNat:Int)==63)=decide (s[k]=63):=Nb s[k] 63;have q:((s[k].toNat:Int)==92)=decide (s[k]=92):=Nb s[k] 92;by_cases a1:s[k]=42
  ·rw[Qw a1]at E;have HP:Hid (pcL (s.data.toList.drop k)=(2,0)::pcL (s.data.toList.drop (k+1))):=by show _=_;rw[m.o,if_pos a1]
   clear m a1 C q;go_wp2_with (at_builtin;refine wpList_append_own _ rfl _ _ 344 rfl w.heap.size 362 z _ 2 16 underlying344 r u x y rfl (by decide) _ _ _ rfl (d.o.alloc _) ⟨wr.heap.size,0,none⟩ 1 1 [.int .i64 2,.int .u8 0] rfl rfl (V9 _ _ _ _) (V3 _ _) ?c3 ?c4 ?c5 ?_)
   case c3=>unfold maxLen;omega
   case c4=>omega
   case c5=>first|(simp;omega)|omega
   intro A B b c _;have g:=I (Jm n.o t c (fun k f=>(d.o.lt k f).1));rw[show Xq a++[.int .i64 2,.int .u8 0]=Xq (a++[(2,0)])from VO a (2,0)]at b;have j:=I b;clear b c;go_wp2;go_roundw
   case rel=>exact⟨k+1,a++[(2,0)],by omega,by go_num,by simpa using j.o,g.o,by simp;omega,by rw[p.o,HP.o];simp⟩
   case measure=>simp[intOf];omega
  rw[Qh a1]at E;by_cases a2:s[k]=63
  ·rw[Qw a2]at C;have HP:Hid (pcL (s.data.toList.drop k)=(1,0)::pcL (s.data.toList.drop (k+1))):=by show _=_;rw[m.o,if_neg a1,if_pos a2]
   clear m a1 a2 q;go_wp2_with (at_builtin;refine wpList_append_own _ rfl _ _ 344 rfl w.heap.size 362 z _ 2 16 underlying344 r u x y rfl (by decide) _ _ _ rfl (d.o.alloc _) ⟨wr.heap.size,0,none⟩ 1 1 [.int .i64 1,.int .u8 0] rfl rfl (V9 _ _ _ _) (V3 _ _) ?c3 ?c4 ?c5 ?_)
   case c3=>unfold maxLen;omega
   case c4=>omega
   case c5=>first|(simp;omega)|omega
   intro A B b c _;have g:=I (Jm n.o t c (fun k f=>(d.o.lt k f).1));rw[show Xq a++[.int .i64 1,.int .u8 0]=Xq (a++[(1,0)])from VO a (1,0)]at b;have j:=I b;clear b c;go_wp2;go_roundw
   case rel=>exact⟨k+1,a++[(1,0)],by omega,by go_num,by simpa using j.o,g.o,by simp;omega,by rw[p.o,HP.o];simp⟩
   case measure=>simp[intOf];omega
  rw[Qh a2]at C;by_cases a3:s[k]=92/\k+1<s.size
  ·rw[Qw a3.1]at q;have J:=a3.2;have K:((k:Int)+1<(s.size:Int)):=by omega
   have HP:Hid (pcL (s.data.toList.drop k)=(0,s[k+1])::pcL (s.data.toList.drop (k+2))):=by show _=_;rw[m.o,if_neg a1,if_neg a2,dif_pos a3]
   clear m a1 a2 a3;go_wp2_with (at_builtin;refine wpList_append_own _ rfl _ _ 344 rfl w.heap.size 362 z _ 2 16 underlying344 r u x y rfl (by decide) _ _ _ rfl (d.o.alloc _) ⟨wr.heap.size,0,none⟩ 1 1 [.int .i64 0,.int .u8 s[k+1].toNat] rfl rfl (V9 _ _ _ _) (V3 _ _) ?c3 ?c4 ?c5 ?_)
   case c3=>unfold maxLen;omega
   case c4=>omega
   case c5=>first|(simp;omega)|omega
   intro A B b c _;have g:=I (Jm n.o t c (fun k f=>(d.o.lt k f).1));rw[show Xq a++[.int .i64 0,.int .u8 s[k+1].toNat]=Xq (a++[(0,s[k+1])])from VO a (0,s[k+1])]at b;have j:=I b;clear b c;go_wp2;go_roundw
   case rel=>exact⟨k+2,a++[(0,s[k+1])],by omega,by go_num,by simpa using j.o,g.o,by simp;omega,by rw[p.o,HP.o];simp⟩
   case measure=>simp[intOf];omega
  have HP:Hid (pcL (s.data.toList.drop k)=(0,s[k])::pcL (s.data.toList.drop (k+1))):=by show _=_;rw[m.o,if_neg a1,if_neg a2,dif_neg a3]
  clear m;by_cases a4:s[k]=92
  ·have J:¬ k+1<s.size:=fun h=>a3 ⟨a4,h⟩
   have K:¬((k:Int)+1<(s.size:Int)):=by omega
   rw[Qw a4]at q;clear a1 a2 a3 a4;go_wp2_with (at_builtin;refine wpList_append_own _ rfl _ _ 344 rfl w.heap.size 362 z _ 2 16 underlying344 r u x y rfl (by decide) _ _ _ rfl (d.o.alloc _) ⟨wr.heap.size,0,none⟩ 1 1 [.int .i64 0,.int .u8 s[k].toNat] rfl rfl (V9 _ _ _ _) (V3 _ _) ?c3 ?c4 ?c5 ?_)
   case c3=>unfold maxLen;omega
   case c4=>omega
   case c5=>first|(simp;omega)|omega
   intro A B b c _;have g:=I (Jm n.o t c (fun k f=>(d.o.lt k f).1));rw[show Xq a++[.int .i64 0,.int .u8 s[k].toNat]=Xq (a++[(0,s[k])])from VO a (0,s[k])]at b;have j:=I b;clear b c;go_wp2;go_roundw
   case rel=>exact⟨k+1,a++[(0,s[k])],by omega,by go_num,by simpa using j.o,g.o,by simp;omega,by rw[p.o,HP.o];simp⟩
   case measure=>simp[intOf];omega
  ·rw[Qh a4]at q;clear a1 a2 a3 a4;go_wp2_with (at_builtin;refine wpList_append_own _ rfl _ _ 344 rfl w.heap.size 362 z _ 2 16 underlying344 r u x y rfl (by decide) _ _ _ rfl (d.o.alloc _) ⟨wr.heap.size,0,none⟩ 1 1 [.int .i64 0,.int .u8 s[k].toNat] rfl rfl (V9 _ _ _ _) (V3 _ _) ?c3 ?c4 ?c5 ?_)
   case c3=>unfold maxLen;omega
   case c4=>omega
   case c5=>first|(simp;omega)|omega
   intro A B b c _;have g:=I (Jm n.o t c (fun k f=>(d.o.lt k f).1));rw[show Xq a++[.int .i64 0,.int .u8 s[k].toNat]=Xq (a++[(0,s[k])])from VO a (0,s[k])]at b;have j:=I b;clear b c;go_wp2;go_roundw
   case rel=>exact⟨k+1,a++[(0,s[k])],by omega,by go_num,by simpa using j.o,g.o,by simp;omega,by rw[p.o,HP.o];simp⟩
   case measure=>simp[intOf];omega
theorem Zj{s:Nat}:w.ownsRow b e s (.slice none 0 0) 0 []:=World.ownsRow_nil _ _ _ _
theorem QK{a:Addr}{u:Value}(h:k≠a.block):(w.setCell a u).heap[k]?=w.heap[k]?:=Go.RowKit.Below.heap_setCell _ _ _ _ h
theorem ZA{a:Addr}(h:w'.heap[a.block]?=w.heap[a.block]?):w'.cell? a=w.cell? a:=World.cell?_of_block h
end Go.Proofs.YtgnkjijocdmniaaGreatDoor
