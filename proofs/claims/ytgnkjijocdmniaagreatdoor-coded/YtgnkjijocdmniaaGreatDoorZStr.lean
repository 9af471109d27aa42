import Derived.WalkKit
import Derived.WalkSpells
import Derived.WalkLawsBesides
import Derived.BigQuiet
import Derived.Deep.QuietTactic
import Derived.OrdersHeld
import Derived.Lib.ConvBytes
import Derived.Lib.AtoiErrMem
import Derived.Laws.AppendOwn
import Derived.Maps.AppendAt
import Derived.Deep.RegionWith
import Derived.Deep.RegionHeld3
import Derived.Deep.DrawnRows
import Derived.Lib.AppendIntMem
import Derived.Test.YtgnkjijocdmniaaGreatDoorZPlainSem3
import Derived.Test.YtgnkjijocdmniaaGreatDoorShelf
namespace Go.Proofs.YtgnkjijocdmniaaGreatDoor
set_option linter.unusedVariables false
set_option linter.unusedSimpArgs false
set_option maxRecDepth 100000
set_option maxHeartbeats 4000000
open Go.Proofs.Tryz
variable{B a b g i k mc mt n p:Nat}{W w w' w1:World}{acc l:L8}{c:UInt8}{chk:L8->Nat}{d rv:Value}{e:Ending}{f:Flt}{r:List Value}{s:ByteArray}{t:TypeId}{x:Wd}{y:PS}{zs:Qa}
theorem Qs(o:Obj):Go.RowKit.Below w.heap.size w (w.alloc o):=(Go.RowKit.Below.refl _ _).alloc (Nat.le_refl _) o
section
open Go.RowKit
theorem I{p:Prop}(h:p):Hid p:=h
theorem _root_.Go.RowKit.Hid.o{p:Prop}(h:Go.RowKit.Hid p):p:=h
theorem Jx(b j:Nat):(⟨b,0,none⟩:Addr).add j=⟨b,j,none⟩:=by
 unfold Addr.add;split
 ·subst_vars;rfl
 ·simp
theorem Zs{a b:Bool}(h:a=b):Ending.returned (.bool a)=.returned (.bool b):=by rw[h]
theorem Ji{k:IntKind}{a b:Int}(h:a=b):Ending.returned (.int k a)=.returned (.int k b):=by rw[h]
theorem Gu(c:Int)(w:World) :
 Calls prog 231 #[.int .u8 c] w fun e w'=>e=.returned (.bool (ZN c))/\w'=w:=by
 go_enter func231,ntmps231;go_wp2
 all_goals (go_ret;exact⟨Zs (by simp[ZN, *]),rfl⟩)
theorem XG(c:Int)(w:World) :
 Calls prog 227 #[.int .u8 c] w fun e w'=>e=.returned (.bool (QK c))/\w'=w:=by
 go_enter func227,ntmps227;go_wp2
 all_goals (go_ret;exact⟨Zs (by simp[QK, *];try omega),rfl⟩)
theorem AL(c:Int)(w:World) :
 Calls prog 220 #[.int .u8 c] w fun e w'=>e=.returned (.bool (Yj c))/\w'=w:=by
 go_enter func220,ntmps220;go_wp2
 all_goals (go_ret;exact⟨Zs (by simp[Yj, *];try omega),rfl⟩)
theorem Lq(c:Int)(w:World) :
 Calls prog 257 #[.int .u8 c] w fun e w'=>e=.returned (.bool (J9 c))/\w'=w:=by
 go_enter func257,ntmps257;go_wp2
 all_goals (go_ret;exact⟨Zs (by simp[J9, *];try omega),rfl⟩)
theorem Xr(c:Int)(w:World) :
 Calls prog 224 #[.int .u8 c] w fun e w'=>e=.returned (.bool (QP c))/\w'=w:=by
 go_enter func224,ntmps224
 cases hsm:J9 c<;>cases hca:Yj c <;>
 (go_wp2_with (first | (go_at_call 220;refine (AL _ _).mono ?_;rintro e w' ⟨rfl,rfl⟩) | (go_at_call 257;refine (Lq _ _).mono ?_;rintro e w' ⟨rfl,rfl⟩))
  all_goals (go_ret;exact ⟨Zs (by rw [Lr];simp [*]),rfl⟩))
theorem Ls(s:ByteArray)(k:Nat)(h:k<s.size):s.data.toList.getD k 0=s[k]:=by
 rw[List.getD_eq_getElem?_getD,List.getElem?_eq_getElem (by simpa using h)];rfl
theorem Lt(s:ByteArray)(n:Int)(w:World)(a:s.size<=maxLen)(b:0<=n)(h:n<s.size) :
 Calls prog 258 #[.string s,.int .i64 n] w fun e w'=>e=.returned (.int .u8 (s.data.toList.getD n.toNat 0).toNat)/\w'=w:=by
 unfold maxLen at a;go_enter func258,ntmps258;go_wp2
 all_goals (go_ret;exact⟨Ji (by rw[Ls s _ (by omega)]),rfl⟩)
theorem Lu(s:ByteArray)(n:Int)(w:World)(a:s.size<=maxLen)(h:s.size<=n) :
 Calls prog 258 #[.string s,.int .i64 n] w fun e w'=>e=.returned (.int .u8 (s.data.toList.getD n.toNat 0).toNat)/\w'=w:=by
 unfold maxLen at a;go_enter func258,ntmps258;go_wp2
 all_goals (go_ret;exact⟨Ji (by rw[List.getD_eq_getElem?_getD,List.getElem?_eq_none (by simp;omega)];rfl),rfl⟩)
theorem Lv(s:ByteArray)(n:Int)(w:World)(a:s.size<=maxLen)(b:0<=n) :
 Calls prog 258 #[.string s,.int .i64 n] w fun e w'=>e=.returned (.int .u8 (s.data.toList.getD n.toNat 0).toNat)/\w'=w:=by
 by_cases h:n<s.size
 ·exact Lt s n w a b h
 ·exact Lu s n w a (by omega)
def byteOf(s:ByteArray)(n:Int):UInt8:=s.data.toList.getD n.toNat 0
theorem Nn(s:ByteArray)(n:Int)(w:World)(hs:s.size<=maxLen)(h0:0<=n) :
 Calls prog 258 #[.string s,.int .i64 n] w fun e w'=>e=.returned (.int .u8 (byteOf s n).toNat)/\w'=w:=Lv s n w hs h0
theorem YS(s:ByteArray)(k:Nat)(h:k<s.size):s.data.toList.drop k=s[k]::s.data.toList.drop (k+1):=by
 rw[List.drop_eq_getElem_cons (by simpa using h)];rfl
theorem AM(h:s.size=0):s.toList=[]:=by
 rw[ByteArray.toList_eq];apply XB;simpa using h
theorem CV(h:¬ s.size=0):¬ s.toList=[]:=by
 rw[ByteArray.toList_eq];intro e;apply h;have:=congrArg List.length e;simpa using this
theorem Lw(s:ByteArray)(h:0<s.size)(a:QP (s[0].toNat:Int)=true):nameLen s.data.toList=1+Zd (s.data.toList.drop 1):=by
 have e:=YS s 0 h;rw[List.drop_zero]at e;rw[e];simp only[nameLen];rw[if_pos a];rfl
theorem Lx(s:ByteArray)(h:0<s.size)(a:QP (s[0].toNat:Int)=false):nameLen s.data.toList=0:=by
 have e:=YS s 0 h;rw[List.drop_zero]at e;rw[e];simp only[nameLen];rw[if_neg (by rw[a];decide)]
theorem Ly(s:ByteArray)(k:Nat)(h:k<s.size):Zd (s.data.toList.drop k)=if Q1 s[k]then 1+Zd (s.data.toList.drop (k+1))else 0:=by
 rw[YS s k h,Gv]
theorem Lz(s:ByteArray)(k:Nat)(h:s.size<=k):Zd (s.data.toList.drop k)=0:=by
 rw[Zi (by simpa using h)];rfl
theorem No(s:ByteArray)(w:World)(j:s.size<=maxLen) :
 Calls prog 226 #[.string s] w fun e w'=>e=.returned (.int .i64 (nameLen s.data.toList))/\w'=w:=by
 unfold maxLen at j;by_cases h0:s.size=0
 ·have d:=AM h0;go_enter func226,ntmps226;go_wp2;go_ret;exact⟨Ji (by rw[<-ByteArray.toList_eq,d];rfl),rfl⟩
 have d:=CV h0;have l:s.toList.isEmpty=false:=by simpa using d
 have f:0<s.size:=by omega
 cases hl:QP (s[0].toNat:Int)
 ·have H:Hid (nameLen s.data.toList=0):=Lx s f hl;go_enter func226,ntmps226;go_wp2_with (go_at_call 224;refine(Xr _ _).mono ?_;rintro e w' ⟨rfl,rfl⟩);go_ret;exact⟨Ji (by rw[H.o];rfl),rfl⟩
 ·have H:Hid (nameLen s.data.toList=1+Zd (s.data.toList.drop 1)):=Lw s f hl;go_enter func226,ntmps226;go_wp2_with (go_at_call 224;refine(Xr _ _).mono ?_;rintro e w' ⟨rfl,rfl⟩)
  go_loop [3] (fun i=>∃ k:Nat,k<=s.size/\i=.int .i64 k/\nameLen s.data.toList=k+Zd (s.data.toList.drop k)) (fun i=>s.size - (intOf i).toNat)
  case atStart=>exact⟨1,by omega,rfl,H.o⟩
  case round=>
   obtain⟨k,m,rfl,g⟩:=hrel;have c:Hid (nameLen s.data.toList=k+Zd (s.data.toList.drop k)):=g;clear g hl;by_cases hlt:k<s.size
   ·have b:Hid (Zd (s.data.toList.drop k)=if Q1 s[k]then 1+Zd (s.data.toList.drop (k+1))else 0):=Ly s k hlt;cases hc:QP (s[k].toNat:Int)
    ·cases hd:QK (s[k].toNat:Int)
     ·have a:Hid (Q1 s[k]=false):=by show Q1 s[k]=false;simp[Q1,hc,hd]
      go_wp2_with (first|(go_at_call 224;refine(Xr _ _).mono ?_;rintro e w' ⟨rfl,rfl⟩)|(go_at_call 227;refine(XG _ _).mono ?_;rintro e w' ⟨rfl,rfl⟩));go_ret;exact⟨Ji (by rw[c.o,b.o,a.o];simp),rfl⟩
     ·have a:Hid (Q1 s[k]=true):=by show Q1 s[k]=true;simp[Q1,hd]
      go_wp2_with (first|(go_at_call 224;refine(Xr _ _).mono ?_;rintro e w' ⟨rfl,rfl⟩)|(go_at_call 227;refine(XG _ _).mono ?_;rintro e w' ⟨rfl,rfl⟩));go_round
      case rel=>exact⟨k+1,by omega,by go_num,by rw[c.o,b.o,a.o];simp;omega⟩
      case measure=>simp[intOf];omega
    ·have a:Hid (Q1 s[k]=true):=by show Q1 s[k]=true;simp[Q1,hc]
     go_wp2_with (first|(go_at_call 224;refine(Xr _ _).mono ?_;rintro e w' ⟨rfl,rfl⟩)|(go_at_call 227;refine(XG _ _).mono ?_;rintro e w' ⟨rfl,rfl⟩));go_round
     case rel=>exact⟨k+1,by omega,by go_num,by rw[c.o,b.o,a.o];simp;omega⟩
     case measure=>simp[intOf];omega
   ·have b:Hid (Zd (s.data.toList.drop k)=0):=Lz s k (by omega);go_wp2;go_ret;exact⟨Ji (by rw[c.o,b.o];simp),rfl⟩
theorem pt(l:List Value)(a:_)(d:Nat)(v:Value):Act.put ⟨l.toArray,a⟩ (some d) v=⟨(l.set d v).toArray,a⟩:=by simp[Act.put]
theorem sz(x y:Value)(l:List Value):(x::l).set 0 y=y::l:=rfl
theorem sc(x y:Value)(l:List Value)(n:Nat):(x::l).set (n+1) y=x::l.set n y:=rfl
theorem Xa{P:Program}{b:Array Oper}{Q:Exit->Act->World->Prop}{f:Region.Mode}{S:World->Prop}(i d:Nat)(v:Value){g:Oper}{fuel:Nat}{e:Array Bool}{a:Act}(l:b[i]?=some g)(k:S w)(m:∀ w',S w'->(execOp a.eval g).run P w'=.ok (.value v) w')(h:wpAnyH P f b Q S fuel (e.setIfInBounds i true) (a.put (some d) v) w)
 (j:g.dst=some d:=by rfl) (hs:Region.noSelect b=true:=by kernel_rfl) (hf:Region.free f b e i=true:=by kernel_rfl) (hr:(Region.ready f b e).contains i=true:=by kernel_rfl) (hQ:∀ c a w,Q (.panic c) (a.put (some d) v) w->Q (.panic c) a w:=by exact fun _ _ _ h=>h) (hw:Region.wanted g (yielded b a.tmps)=true:=by rfl):wpAnyH P f b Q S (fuel+1) e a w:=
 wpAnyH_take l hs hf hr (by rw[j];exact hQ) (Qd ⟨hw,m⟩) k (by rw[j];exact h)
def Jj(s:ByteArray)(k j:Nat):UInt8:=if j<k then X8 (s.data.toList.getD j 0)else s.data.toList.getD j 0
theorem CW(c:UInt8)(h:Yj (c.toNat:Int)=true):((X8 c).toNat:Int)=(c.toNat:Int) - 65+97:=by
 have a:=h;unfold Yj at a;simp at a;have e:X8 c=c - 65+97:=by unfold X8;rw[if_pos h]
 rw[e,UInt8.toNat_add,UInt8.toNat_sub];simp;omega
theorem AN(c:UInt8)(h:Yj (c.toNat:Int)=false):X8 c=c:=by
 unfold X8;rw[if_neg (by rw[h];decide)]
theorem LA(s:ByteArray)(k j:Nat)(h:Yj ((s.data.toList.getD k 0).toNat:Int)=false):Jj s k j=Jj s (k+1) j:=by
 unfold Jj;by_cases e:j=k
 ·subst e;rw[if_neg (by omega),if_pos (by omega),AN _ h]
 ·by_cases l:j<k
  ·rw[if_pos l,if_pos (by omega)]
  ·rw[if_neg l,if_neg (by omega)]
theorem LB(s:ByteArray)(k j:Nat)(e:¬ j=k):Jj s k j=Jj s (k+1) j:=by
 unfold Jj;by_cases l:j<k
 ·rw[if_pos l,if_pos (by omega)]
 ·rw[if_neg l,if_neg (by omega)]
theorem LC(s:ByteArray)(k:Nat):Jj s (k+1) k=X8 (s.data.toList.getD k 0):=by
 unfold Jj;rw[if_pos (by omega)]
theorem AO(s:ByteArray)(w:World)(L:s.size<=140737488355328) :
 Calls prog 181 #[.string s] w fun e w'=>e=.returned (.string ⟨(zL s.data.toList).toArray⟩)/\Below w.heap.size w w':=by
 have v:=Lib.run_convert_string_bytes (P:=prog) w 9 198 5 s (u:=.string) underlying9 underlying198 underlying5;have d:=Lib.bytesWorld_below w 5 s
 have g:∀ j,j<s.size->(Lib.bytesWorld w 5 s).cell? ⟨w.heap.size,j,none⟩=some (.int .u8 (Jj s 0 j).toNat):=fun j hj=>by
  rw[Lib.bytesWorld_cell w 5 s j hj];simp[Jj]
 have l:∀ j,j<s.size->(Lib.bytesWorld w 5 s).frozen? ⟨w.heap.size,j,none⟩=false:=fun j hj=>by
  unfold World.frozen?;rw[Lib.bytesWorld_at_new];simp[Lib.bytesCells];omega
 have n:=Lib.bytesWorld_size w 5 s;generalize Lib.bytesWorld w 5 s=W1 at v d g l n
 have x:∀(wr:World),(∀ j,j<s.size->wr.cell? ⟨w.heap.size,j,none⟩=some (.int .u8 (Jj s s.size j).toNat))->
  ∀ C,(convert 198 9 (.slice (some ⟨w.heap.size,0,none⟩) s.size C)).run prog wr=.ok (.string ⟨(zL s.data.toList).toArray⟩) wr:=fun wr E C=>by
  have B:(zL s.data.toList).length=s.size:=by simp[zL]
  have:=run_convert_bytes_back (P:=prog) wr 198 9 5 ⟨w.heap.size,0,none⟩ C (zL s.data.toList) underlying198 underlying5 underlying9 (fun j hj=>by
   rw[Jx,E j (by omega)];have hj':j<s.data.toList.length:=by simp[zL]at hj;simpa using hj
   simp only[Jj,zL,List.getElem_map]
   rw [if_pos (by omega),List.getD_eq_getElem?_getD,List.getElem?_eq_getElem hj'];rfl)
  rw[B]at this;exact this
 have z:=I x;clear x;go_enter func181,ntmps181;go_wp2_with fail;generalize grownCap w s.size 0 5=C at *
 go_loopw [4,5,10] (fun _ _ i wr=>∃ k:Nat,k<=s.size/\i=.int .i64 k/\Below w.heap.size w wr/\(∀ j,j<s.size->wr.cell? ⟨w.heap.size,j,none⟩=some (.int .u8 (Jj s k j).toNat))/\(∀ j,j<s.size->wr.frozen? ⟨w.heap.size,j,none⟩=false)/\wr.heap.size=w.heap.size+1) (fun _ _ i _=>s.size - (intOf i).toNat)
 case atStart=>exact⟨0,by omega,rfl,d,g,l,n⟩
 case round=>
  obtain⟨k,J,rfl,f,a,m,y⟩:=hrel;clear d g l n v;by_cases hlt:k<s.size
  ·have b:=a k hlt;have H:=m k hlt;simp only[Jj]at b;rw[if_neg (by omega)]at b;generalize hcd:s.data.toList.getD k 0=c at b;have q:=I hcd;clear hcd;have F:=UInt8.toNat_lt c;have p:=I a;have r:=I m;clear a m;cases hc:Yj (c.toNat:Int)
   ·go_wp2_with (go_at_call 220;refine(AL _ _).mono ?_;rintro e w' ⟨rfl,rfl⟩);refine⟨⟨k+1,by omega,by go_num,f,fun j hj=>?_,r.o,y⟩,by simp[intOf];omega⟩;rw[p.o j hj,LA s k j (by rw[q.o];exact hc)]
   ·have D:=I (CW c hc);have t:65<=(c.toNat:Int)/\(c.toNat:Int)<=90:=by unfold Yj at hc;simpa using hc
    obtain⟨t,G⟩:=t;go_wp2_with (go_at_call 220;refine(AL _ _).mono ?_;rintro e w' ⟨rfl,rfl⟩);refine⟨⟨k+1,by omega,by go_num,?_,fun j hj=>?_,fun j hj=>?_,?_⟩,by simp[intOf];omega⟩
    ·exact f.setCell Qt _
    ·by_cases e:j=k
     ·subst e;rw[World.cell?_setCell_same _ _ _ b,LC,q.o];rw[D.o]
     ·rw[World.cell?_setCell_other _ _ _ _ (by simp[e]),p.o j hj,LB s k j e]
    ·rw[World.frozen?_setCell];exact r.o j hj
    ·simpa using y
  ·have A:k=s.size:=by omega
   subst A;have K:=z.o wr a C;go_wp2;go_ret;exact⟨rfl,f⟩
def Z5(f:Flt)(w:World)(e:Ending)(w':World):Prop:=
 ∃ b,w.heap.size<=b/\e=.panicked [{ v:=.iface 125 (.pointer (some ⟨b,0,none⟩)),recovered:=false }]/\
  w'.heap[b]?=some (.cells #[.int .i64 f.err,.int .i64 f.pos] 130)
theorem X9(b a:Int)(w:World) :
 Calls prog 103 #[.int .i64 b,.int .i64 a] w fun e w'=>e=.returned (.pointer (some ⟨w.heap.size,0,none⟩))/\w'=w.alloc (.cells #[.int .i64 b,.int .i64 a] 130):=by
 go_enter func103,ntmps103;go_wp2;go_ret;exact⟨rfl,rfl⟩
theorem LD(l:L8)(h:Lib.indexByte l 10<0):(lineLen l:Int)=l.length:=by unfold lineLen;rw[if_pos h]
theorem LE(l:L8)(h:¬ Lib.indexByte l 10<0):(lineLen l:Int)=Lib.indexByte l 10+1:=by unfold lineLen;rw[if_neg h];omega
theorem LF(s:ByteArray)(w:World)(i:s.size<=140737488355328) :
 Calls prog 232 #[.string s] w fun e w'=>e=.returned (.int .i64 (lineLen s.data.toList))/\w'=w:=by
 have d:=AP s.data.toList 10;have g:=Lib.indexByte_ge s.data.toList 10;have b:=I (LD s.data.toList);have c:=I (LE s.data.toList);have a:(s.data.toList.length:Int)=s.size:=by simp
 rw[a]at d;have f:(Int.toNat 10).toUInt8=(10:UInt8):=rfl;by_cases hn:Lib.indexByte s.data.toList 10<0
 ·go_enter func232,ntmps232;go_wp2_with (go_at_call 230;refine(Tryz.strings_IndexByte _ _ _).mono ?_;rintro e w' ⟨rfl,rfl⟩);go_ret;exact⟨Ji (by rw[b.o hn,a]),rfl⟩
 ·go_enter func232,ntmps232;go_wp2_with (go_at_call 230;refine(Tryz.strings_IndexByte _ _ _).mono ?_;rintro e w' ⟨rfl,rfl⟩);go_ret;exact⟨Ji (by rw[c.o (by omega)]),rfl⟩
theorem Gw(s:ByteArray)(a:Nat):(s.extract a s.size).data.toList=s.data.toList.drop a:=by
 rw[ByteArray.data_extract,Array.toList_extract,List.extract_eq_take_drop];rw[List.take_of_length_le];simp
theorem Np(s:ByteArray)(a:Nat):(s.extract a s.size).size=s.size - a:=by
 rw[Lib.size_eq,Gw];simp
theorem LG(f p:Nat):QW f [] p=.ok p:=by cases f<;>rfl
theorem LH(f p:Nat)(c:UInt8)(r:L8)(h:ZN c.toNat=true):QW (f+1) (c::r) p=QW f r (p+1):=by
 simp only[QW];rw[if_pos h]
theorem LI(f p:Nat)(c:UInt8)(r:L8)(h:ZN c.toNat=false)(a:c.toNat=35):QW (f+1) (c::r) p=QW f ((c::r).drop (lineLen (c::r))) (p+lineLen (c::r)):=by
 simp only[QW];rw[if_neg (by rw[h];decide),if_pos a]
theorem LJ(f p:Nat)(c:UInt8)(r:L8)(h:ZN c.toNat=false)(a:¬ c.toNat=35)(b:Lib.hasPrefix (c::r) [47,42]=true)(d:Lib.index (r.drop 1) [42,47]<0):QW (f+1) (c::r) p=.error ⟨2,p⟩:=by
 simp only[QW];rw[if_neg (by rw[h];decide),if_neg a,if_pos b,if_pos d]
theorem LK(f p:Nat)(c:UInt8)(r:L8)(h:ZN c.toNat=false)(a:¬ c.toNat=35)(b:Lib.hasPrefix (c::r) [47,42]=true)(d:¬ Lib.index (r.drop 1) [42,47]<0):QW (f+1) (c::r) p=QW f ((c::r).drop (4+(Lib.index (r.drop 1) [42,47]).toNat)) (p+(4+(Lib.index (r.drop 1) [42,47]).toNat)):=by
 simp only[QW];rw[if_neg (by rw[h];decide),if_neg a,if_pos b,if_neg d]
theorem LL(f p:Nat)(c:UInt8)(r:L8)(h:ZN c.toNat=false)(a:¬ c.toNat=35)(b:Lib.hasPrefix (c::r) [47,42]=false):QW (f+1) (c::r) p=.ok p:=by
 simp only[QW];rw[if_neg (by rw[h];decide),if_neg a,if_neg (by rw[b];decide)]
theorem LM(l:L8)(a b:UInt8)(h:Lib.hasPrefix l [a,b]=true):2<=l.length:=by
 have:=(List.isPrefixOf_iff_prefix.1 h).length_le;simpa using this
def Ku(r:Qb Nat)(w:World)(e:Ending)(w':World):Prop:=
 match r with
 | .ok n=>e=.returned (.int .i64 n)/\w'=w
 | .error f=>Z5 f w e w'/\Below w.heap.size w w'
theorem Ku.ok{r:Qb Nat}{n:Nat}{w:World}{x:Int}(h:r=.ok n)(a:x=n):Ku r w (.returned (.int .i64 x)) w:=by
 subst h;subst a;exact⟨rfl,rfl⟩
theorem CX(a p:Nat)(w:World):Z5 ⟨a,p⟩ w (.panicked [{ v:=.iface 125 (.pointer (some ⟨w.heap.size,0,none⟩)),recovered:=false }]) (w.alloc (.cells #[.int .i64 a,.int .i64 p] 130)):=by
 refine⟨w.heap.size,Nat.le_refl _,rfl,?_⟩;show(w.heap.push _)[w.heap.size]?=_
 simp
theorem Ku.err{r:Qb Nat}(h:r=.error ⟨a,p⟩) :
 Ku r w (.panicked [{ v:=.iface 125 (.pointer (some ⟨w.heap.size,0,none⟩)),recovered:=false }]) (w.alloc (.cells #[.int .i64 a,.int .i64 p] 130)):=by
 subst h;exact⟨CX a p w,Qs _⟩
theorem LN(s:ByteArray)(n t:Nat)(m:Int)(w:World)(W:s.size<=4294967280)(K:n<=s.size)(L:s.size - n<t)(A:w.cell? ⟨1,0,none⟩=some (.int .i64 m)) :
 Calls prog 194 #[.string s,.int .i64 n] w (Ku (QW t (s.data.toList.drop n) n) w):=by
 go_enter func194,ntmps194;go_wp2_with fail
 go_loop [1,5,6] (fun a _ _=>∃ k f:Nat,k<=s.size/\s.size - k<f/\a=.int .i64 k/\QW t (s.data.toList.drop n) n=QW f (s.data.toList.drop k) k) (fun a _ _=>s.size - (intOf a).toNat)
 case atStart=>exact⟨n,t,K,L,rfl,rfl⟩
 case round=>
  obtain⟨k,f,S,T,rfl,z⟩:=hrel;obtain⟨f,rfl⟩:∃ g,f=g+1:=⟨f - 1,by omega⟩;have q:=I z;clear z;by_cases hlt:k<s.size
  ·have r:=YS s k hlt;obtain⟨b,B⟩:=Qf (s.extract k s.size);have p:Hid (b.data.toList=s.data.toList.drop k):=by rw[<-B];exact Gw s k
   have D:b.size=s.size - k:=by rw[<-B];exact Np s k
   have N:0<b.size:=by omega
   have X:b.size<=s.size - k:=by omega
   have Q:=I D;clear D
   have G:b[0]=s[k]:=by
    have e:=p.o;rw[r]at e;have y:=YS b 0 N;rw[List.drop_zero,e]at y;exact(List.cons.inj y).1.symm
   generalize hcd:s[k]=c at G r;clear hcd;rw[r]at q;have l:=I r;clear r;cases hb:ZN (c.toNat:Int)
   ·by_cases h35:(c.toNat:Int)=35
    ·have j:=I (LI f k c (s.data.toList.drop (k+1)) hb (by omega));have M:=AQ b.data.toList;have U:1<=lineLen b.data.toList:=by rw[p.o,l.o];exact AR _ _
     have u:b.data.toList.length=b.size:=by simp
     rw[u]at M;have J:((c.toNat:Int)==35)=true:=by simpa using h35
     clear h35;have F:Hid (lineLen (c::s.data.toList.drop (k+1))=lineLen b.data.toList):=by show _=_;rw[p.o,l.o]
     go_wp2_with (first|(go_at_call 231;refine(Gu _ _).mono ?_;rintro e i ⟨rfl,rfl⟩)|(go_at_call 232;refine(LF _ _ (by omega)).mono ?_;rintro e i ⟨rfl,rfl⟩));refine⟨⟨k+lineLen b.data.toList,f,by omega,by omega,by go_num,?_⟩,by simp[intOf];omega⟩;rw[q.o,j.o,F.o,<-l.o,List.drop_drop]
    ·have J:((c.toNat:Int)==35)=false:=by simpa using h35
     cases hp:Lib.hasPrefix b.data.toList [47,42]
     ·have j:=I (LL f k c (s.data.toList.drop (k+1)) hb (by omega) (by rw[<-l.o,<-p.o];exact hp));clear h35;go_wp2_with (first|(go_at_call 231;refine(Gu _ _).mono ?_;rintro e i ⟨rfl,rfl⟩)|(go_at_call 233;refine(Tryz.strings_HasPrefix _ _ _).mono ?_;rintro e i ⟨rfl,rfl⟩));go_ret;exact Ku.ok (by rw[q.o,j.o]) rfl
     ·have H:=LM _ _ _ hp;have u:b.data.toList.length=b.size:=by simp
      rw[u]at H;obtain⟨d,C⟩:=Qf (b.extract 2 b.size)
      have x:Hid (d.data.toList=(s.data.toList.drop (k+1)).drop 1):=by
       show _=_
       rw[<-C,Gw,p.o,l.o];rfl
      have P:d.size=b.size - 2:=by rw[<-C];exact Np b 2
      have Y:d.size<=b.size - 2:=by omega
      have E:(d.data.toList.length:Int)=d.size:=by simp
      have v:=AS d.data.toList [42,47];rw[E]at v;have R:=Lib.index_ge d.data.toList [42,47];clear P u E;by_cases hi:Lib.index d.data.toList [42,47]<0
      ·have j:=I (LJ f k c (s.data.toList.drop (k+1)) hb (by omega) (by rw[<-l.o,<-p.o];exact hp) (by rw[<-x.o];exact hi));clear h35 v;go_wp2_with (first|(go_at_call 231;refine(Gu _ _).mono ?_;rintro e i ⟨rfl,rfl⟩)|(go_at_call 233;refine(Tryz.strings_HasPrefix _ _ _).mono ?_;rintro e i ⟨rfl,rfl⟩)|(go_at_call 234;refine(Tryz.strings_Index _ _ m _ (by omega) A).mono ?_;rintro e i ⟨rfl,rfl⟩)|(go_at_call 103;refine(X9 _ _ _).mono ?_;rintro e i ⟨rfl,rfl⟩));exact⟨rfl,Ku.err (by rw[q.o,j.o])⟩
      ·have V:Lib.index d.data.toList [42,47]+2<=d.size:=by
        rcases v with h|h
        ·exact absurd h hi
        ·simpa using h
       have j:=I (LK f k c (s.data.toList.drop (k+1)) hb (by omega) (by rw[<-l.o,<-p.o];exact hp) (by rw[<-x.o];exact hi));clear h35 v;go_wp2_with (first|(go_at_call 231;refine(Gu _ _).mono ?_;rintro e i ⟨rfl,rfl⟩)|(go_at_call 233;refine(Tryz.strings_HasPrefix _ _ _).mono ?_;rintro e i ⟨rfl,rfl⟩)|(go_at_call 234;refine(Tryz.strings_Index _ _ m _ (by omega) A).mono ?_;rintro e i ⟨rfl,rfl⟩)|(go_at_call 103;refine(X9 _ _ _).mono ?_;rintro e i ⟨rfl,rfl⟩));refine⟨⟨k+(4+(Lib.index d.data.toList [42,47]).toNat),f,by omega,by omega,congrArg _ (by omega),?_⟩,by simp[intOf];omega⟩;rw[q.o,j.o,<-x.o,<-l.o,List.drop_drop]
   ·have j:=I (LH f k c (s.data.toList.drop (k+1)) hb);go_wp2_with (first|(go_at_call 231;refine(Gu _ _).mono ?_;rintro e i ⟨rfl,rfl⟩));go_round
    case rel=>exact⟨k+1,f,by omega,by omega,by go_num,by rw[q.o,j.o]⟩
    case measure=>simp[intOf];omega
  ·go_wp2;go_ret;exact Ku.ok (by rw[q.o,Zi (by simp;omega),LG]) rfl
theorem LO(s:ByteArray)(a n:Nat):(s.extract a (a+n)).data.toList=(s.data.toList.drop a).take n:=by
 rw[ByteArray.data_extract,Array.toList_extract,List.extract_eq_take_drop];rw[show a+n - a=n from by omega]
theorem VC(hb:Below W.heap.size W w1):(∀ b o,b<W.heap.size->w1.cell? ⟨b,o,none⟩=W.cell? ⟨b,o,none⟩)/\(∀ b o,b<W.heap.size->w1.frozen? ⟨b,o,none⟩=W.frozen? ⟨b,o,none⟩):=
 ⟨fun b o h=>hb.cell (p:=⟨b,o,none⟩) h,fun b o h=>hb.frozen (p:=⟨b,o,none⟩) h⟩
def wdV(x:Wd):Value:=.agg #[.int .i64 x.kind,.int .i64 x.pos,.string ⟨x.spelt.toArray⟩,.string ⟨x.said.toArray⟩,.int .i64 x.num]
def Zq(r:Qb (Wd×Nat))(w:World)(e:Ending)(w':World):Prop:=
 Below w.heap.size w w'/\
 match r with
 | .ok x=>e=.returned (.tuple #[wdV x.1,.int .i64 x.2])
 | .error f=>Z5 f w e w'
theorem Zq.ok{r:Qb (Wd×Nat)}{x:Wd×Nat}{w w':World}{v:Value}{n:Int}(h:r=.ok x)(a:Below w.heap.size w w')(c:v=wdV x.1)(b:n=x.2):Zq r w (.returned (.tuple #[v,.int .i64 n])) w':=by
 subst h;subst c;subst b;exact⟨a,rfl⟩
theorem Zq.err{r:Qb (Wd×Nat)}(h:r=.error f)(a:Below w.heap.size w w')(b:Z5 f w e w'):Zq r w e w':=by
 subst h;exact⟨a,b⟩
theorem Z5.up(h:Z5 f w1 e w')(c:w.heap.size<=w1.heap.size):Z5 f w e w':=by
 obtain⟨b,a,h⟩:=h;exact⟨b,Qm c a,h⟩
theorem Jy(a p:Nat)(d:w.heap.size<=w1.heap.size)(c:b=w1.heap.size) :
 Z5 ⟨a,p⟩ w (.panicked [{ v:=.iface 125 (.pointer (some ⟨b,0,none⟩)),recovered:=false }]) (w1.alloc (.cells #[.int .i64 a,.int .i64 p] 130)):=by
 subst c;exact(CX a p w1).up d
theorem LP(k:Int)(s:ByteArray)(a n:Nat)(w:World)(r:s.size<=4294967280)(p:a+n<=s.size) :
 Calls prog 225 #[.int .i64 k,.string s,.int .i64 a,.int .i64 n] w fun e w'=>
  e=.returned (.tuple #[.agg #[.int .i64 k,.int .i64 a,.string ⟨(zL ((s.data.toList.drop a).take n)).toArray⟩,.string ⟨#[]⟩,.int .i64 0],.int .i64 (a+n:Nat)])/\Below w.heap.size w w':=by
 obtain⟨b,l⟩:=Qf (s.extract a (a+n));have d:Hid (b.data.toList=(s.data.toList.drop a).take n):=by rw[<-l];exact LO s a n
 have t:b.size<=s.size:=by
  rw[Lib.size_eq,d.o];simp;omega
 go_enter func225,ntmps225;go_wp2_with fail;refine(AO b _ (by omega)).mono ?_;rintro e f ⟨rfl,c⟩;rw[d.o];obtain⟨j,q⟩:=VC c;have m:w.heap.size<f.heap.size:=by have:=c.size;simp at this;omega
 have g:=I c;clear c;go_wp2;have i:Below w.heap.size w f:=(Qs _).trans (g.o.mono (by simp));refine bodyPost_ret (v:=.tuple #[.agg #[.int .i64 k,.int .i64 a,.string ⟨(zL ((s.data.toList.drop a).take n)).toArray⟩,.string ⟨#[]⟩,.int .i64 0],.int .i64 (a+n:Nat)]) (by simp[results,results225,go_sem,j,m]) rfl ⟨rfl,?_⟩;exact((((i.setCell Qt _).setCell Qt _).setCell Qt _).setCell Qt _).setCell Qt _
def Uk(v:Nat)(l:L8):Nat:=(l.takeWhile fun c=>QK c.toNat).foldl YD v
theorem LQ(l:L8):Y4 l=Uk 0 l:=rfl
theorem LR(v:Nat):Uk v []=v:=rfl
theorem LS(v:Nat)(c:UInt8)(r:L8)(h:QK c.toNat=true):Uk v (c::r)=Uk (YD v c) r:=by
 simp[Uk,List.takeWhile_cons,h]
theorem LT(v:Nat)(c:UInt8)(r:L8)(h:QK c.toNat=false):Uk v (c::r)=v:=by
 simp[Uk,List.takeWhile_cons,h]
theorem LU(c:UInt8)(r:L8)(h:QK c.toNat=true):Zl (c::r)=1+Zl r:=by
 simp[Zl,List.takeWhile_cons,h];omega
theorem LV(c:UInt8)(r:L8)(h:QK c.toNat=false):Zl (c::r)=0:=by
 simp[Zl,List.takeWhile_cons,h]
theorem LW:Zl []=0:=rfl
theorem LX(v:Nat)(c:UInt8):YD v c<=2147483648:=by unfold YD;omega
theorem AT(b:L8)(p v j v' c:Nat)(a d:UInt8)(k:Y4 b=v)(g:Zl b=j)(e:b.getD j 0=a)
 (l:v'=if isM a then v*1048576 else if isK a then v*1024 else v) (i:c=if isM a || isK a then j+1 else j) (f:b.getD c 0=d) :
 sNL b p=if Q1 d then .error ⟨2,p⟩else if 2147483647<v' then .error ⟨3,p⟩else .ok (⟨4,p,[],[],v'⟩,p+c):=by
 subst k;subst g;subst e;subst l;subst i;subst f;rfl
theorem Nq(s:ByteArray)(a j:Nat)(x:Int)(h:x=(a+j:Nat)):(s.data.toList.drop a).getD j 0=byteOf s x:=by
 subst h;unfold byteOf;rw[List.getD_eq_getElem?_getD,List.getElem?_drop,Int.toNat_natCast,List.getD_eq_getElem?_getD]
theorem VD(h:QP (c.toNat:Int)=true\/QK (c.toNat:Int)=true):Q1 c=true:=by
 unfold Q1;rcases h with h|h<;>simp[h]
theorem AU(h:QP (c.toNat:Int)=false)(a:QK (c.toNat:Int)=false):Q1 c=false:=by
 unfold Q1;simp[h,a]
theorem five_ways(c:UInt8):((c.toNat:Int)==77)=true\/(((c.toNat:Int)==77)=false/\((c.toNat:Int)==109)=true)\/
 (((c.toNat:Int)==77)=false/\((c.toNat:Int)==109)=false/\((c.toNat:Int)==75)=true)\/
 (((c.toNat:Int)==77)=false/\((c.toNat:Int)==109)=false/\((c.toNat:Int)==75)=false/\((c.toNat:Int)==107)=true)\/
 (((c.toNat:Int)==77)=false/\((c.toNat:Int)==109)=false/\((c.toNat:Int)==75)=false/\((c.toNat:Int)==107)=false):=by
 cases((c.toNat:Int)==77)<;>cases((c.toNat:Int)==109)<;>cases((c.toNat:Int)==75)<;>cases((c.toNat:Int)==107)<;>simp
theorem Nr(h:((c.toNat:Int)==77)=true\/((c.toNat:Int)==109)=true):isM c=true:=by
 unfold isM;simp at h ⊢;omega
theorem Ns(h:((c.toNat:Int)==77)=false)(a:((c.toNat:Int)==109)=false):isM c=false:=by
 unfold isM;simp at h a ⊢;omega
theorem Nt(h:((c.toNat:Int)==75)=true\/((c.toNat:Int)==107)=true):isK c=true:=by
 unfold isK;simp at h ⊢;omega
theorem CY(h:((c.toNat:Int)==75)=false)(a:((c.toNat:Int)==107)=false):isK c=false:=by
 unfold isK;simp at h a ⊢;omega
theorem LY(s:ByteArray)(d:Nat)(w:World)(P:s.size<=4294967280)(K:d<=s.size) :
 Calls prog 228 #[.string s,.int .i64 d] w (Zq (sNL (s.data.toList.drop d) d) w):=by
 go_enter func228,ntmps228;go_wp2_with fail
 go_loop [6,7] (fun a b=>∃ j v:Nat,d+j<=s.size/\v<=2147483648/\a=.int .i64 v/\b=.int .i64 (d+j:Nat)/\Y4 (s.data.toList.drop d)=Uk v (s.data.toList.drop (d+j))/\Zl (s.data.toList.drop d)=j+Zl (s.data.toList.drop (d+j))) (fun _ b=>s.size - (intOf b).toNat)
 case atStart=>exact⟨0,0,by omega,by omega,rfl,by simp,by rw[LQ];rfl,by simp⟩
 case round=>
  obtain⟨j,v,N,Q,rfl,rfl,G,F⟩:=hrel;have B:=I G;have y:=I F;clear G F;by_cases hgo:∃ h:d+j<s.size,QK (s[d+j].toNat:Int)=true
  ·obtain⟨m,p⟩:=hgo;have D:=I (YS s (d+j) m);obtain⟨c,x⟩:=Qf (s[d+j]);rw[x]at p D;have J:48<=(c.toNat:Int)/\(c.toNat:Int)<=57:=by unfold QK at p;simpa using p
   obtain⟨L,M⟩:=J;go_wp2_with (go_at_call 227;refine(XG _ _).mono ?_;rintro e g ⟨rfl,rfl⟩);refine⟨⟨j+1,YD v c,by omega,LX v c,?_,congrArg _ (by omega),?_,?_⟩,by simp[intOf];omega⟩
   ·refine congrArg _ ?_;unfold YD;omega
   ·rw[B.o,D.o,LS _ _ _ p];rfl
   ·rw[y.o,D.o,LU _ _ p,show d+j+1=d+(j+1)from rfl];omega
  ·have C:Hid (Y4 (s.data.toList.drop d)=v):=by
    show _=_
    rw[B.o];by_cases m:d+j<s.size
    ·rw[YS s _ m,LT];cases h:QK (s[d+j].toNat:Int)
     ·rfl
     ·exact absurd ⟨m,h⟩ hgo
    ·rw[Zi (by simp;omega),LR]
   have z:Hid (Zl (s.data.toList.drop d)=j):=by
    show _=_
    rw[y.o];by_cases m:d+j<s.size
    ·rw[YS s _ m,LV]
     ·rfl
     ·cases h:QK (s[d+j].toNat:Int)
      ·rfl
      ·exact absurd ⟨m,h⟩ hgo
    ·rw[Zi (by simp;omega),LW];rfl
   clear B y;have A:=I hgo;clear hgo;by_cases m:d+j<s.size
   have p:QK (s[d+j].toNat:Int)=false:=by
    cases h:QK (s[d+j].toNat:Int)
    ·rfl
    ·exact absurd ⟨m,h⟩ A.o
   obtain⟨c,x⟩:=Qf (s[d+j]);rw[x]at p;clear A;go_wp2_with (go_at_call 227;refine(XG _ _).mono ?_;rintro e g ⟨rfl,rfl⟩);clear x p;rotate_left;clear A;go_wp2_with (go_at_call 227;refine(XG _ _).mono ?_;rintro e g ⟨rfl,rfl⟩)
   all_goals
    refine(Nn s _ _ (by unfold maxLen;omega) (by omega)).mono ?_;rintro e E ⟨rfl,rfl⟩;have q:=I (Nq s d j (↑d+↑j) (by omega));generalize byteOf s (↑d+↑j)=c1 at q;rcases five_ways c1 with k | ⟨k,l⟩ | ⟨k,l,r⟩ | ⟨k,l,r,t⟩ | ⟨k,l,r,t⟩
    iterate 2
     ·have n:Hid (∀ i,byteOf s (↑d+↑j+1)=i->sNL (s.data.toList.drop d) d=if Q1 i then .error ⟨2,d⟩else if 2147483647<v*1048576 then .error ⟨3,d⟩else .ok (⟨4,d,[],[],v*1048576⟩,d+(j+1))):=fun i u=>
       AT _ d v j (v*1048576) (j+1) c1 i C.o z.o q.o (by first|(rw[Nr (Qd k)];rfl)|(rw[Nr (Qc l)];rfl)) (by first|(rw[Nr (Qd k)];rfl)|(rw[Nr (Qc l)];rfl)) (by rw[Nq s d (j+1) (↑d+↑j+1) (by omega)];exact u)
      clear q;go_wp2_with fail;refine(Nn s _ _ (by unfold maxLen;omega) (by omega)).mono ?_;rintro e E ⟨rfl,rfl⟩;have f:=I (n.o _ rfl);clear n;generalize byteOf s (↑d+↑j+1)=i at f;cases hl:QP (i.toNat:Int)
      ·cases hdd:QK (i.toNat:Int)
       ·rw[AU hl hdd]at f;by_cases hbig:2147483647<v*1048576
        ·rw[if_neg (by decide),if_pos hbig]at f;have H:(2147483647:Int)<(v:Int)*1024*1024:=by omega
         go_wp2_with (first|(go_at_call 224;refine(Xr _ _).mono ?_;rintro e g ⟨rfl,rfl⟩)|(go_at_call 227;refine(XG _ _).mono ?_;rintro e g ⟨rfl,rfl⟩)|(go_at_call 103;refine(X9 _ _ _).mono ?_;rintro e g ⟨rfl,rfl⟩));exact⟨rfl,Zq.err f.o ((Qs _).alloc (by simp) _) (Jy 3 d (by simp) (by simp))⟩
        ·rw[if_neg (by decide),if_neg hbig]at f;go_wp2_with (first|(go_at_call 224;refine(Xr _ _).mono ?_;rintro e g ⟨rfl,rfl⟩)|(go_at_call 227;refine(XG _ _).mono ?_;rintro e g ⟨rfl,rfl⟩)|(go_at_call 103;refine(X9 _ _ _).mono ?_;rintro e g ⟨rfl,rfl⟩));refine bodyPost_ret (v:=.tuple #[.agg #[.int .i64 4,.int .i64 d,.string ⟨#[]⟩,.string ⟨#[]⟩,.int .i64 ((v:Int)*1024*1024)],.int .i64 (↑d+↑j+1)]) (by simp[results,results228,go_sem]) rfl (Zq.ok f.o (Qs _) ?_ ?_)
         ·simp[wdV];try omega
         ·simp;try omega
       ·rw[VD (Qc hdd)]at f;rw[if_pos rfl]at f;go_wp2_with (first|(go_at_call 224;refine(Xr _ _).mono ?_;rintro e g ⟨rfl,rfl⟩)|(go_at_call 227;refine(XG _ _).mono ?_;rintro e g ⟨rfl,rfl⟩)|(go_at_call 103;refine(X9 _ _ _).mono ?_;rintro e g ⟨rfl,rfl⟩));exact⟨rfl,Zq.err f.o ((Qs _).alloc (by simp) _) (Jy 2 d (by simp) (by simp))⟩
      ·rw[VD (Qd hl)]at f;rw[if_pos rfl]at f;go_wp2_with (first|(go_at_call 224;refine(Xr _ _).mono ?_;rintro e g ⟨rfl,rfl⟩)|(go_at_call 227;refine(XG _ _).mono ?_;rintro e g ⟨rfl,rfl⟩)|(go_at_call 103;refine(X9 _ _ _).mono ?_;rintro e g ⟨rfl,rfl⟩));exact⟨rfl,Zq.err f.o ((Qs _).alloc (by simp) _) (Jy 2 d (by simp) (by simp))⟩
    iterate 2
     ·have n:Hid (∀ i,byteOf s (↑d+↑j+1)=i->sNL (s.data.toList.drop d) d=if Q1 i then .error ⟨2,d⟩else if 2147483647<v*1024 then .error ⟨3,d⟩else .ok (⟨4,d,[],[],v*1024⟩,d+(j+1))):=fun i u=>
       AT _ d v j (v*1024) (j+1) c1 i C.o z.o q.o (by rw[Ns k l];first|(rw[Nt (Qd r)];rfl)|(rw[Nt (Qc t)];rfl)) (by rw[Ns k l];first|(rw[Nt (Qd r)];rfl)|(rw[Nt (Qc t)];rfl)) (by rw[Nq s d (j+1) (↑d+↑j+1) (by omega)];exact u)
      clear q;go_wp2_with fail;refine(Nn s _ _ (by unfold maxLen;omega) (by omega)).mono ?_;rintro e E ⟨rfl,rfl⟩;have f:=I (n.o _ rfl);clear n;generalize byteOf s (↑d+↑j+1)=i at f;cases hl:QP (i.toNat:Int)
      ·cases hdd:QK (i.toNat:Int)
       ·rw[AU hl hdd]at f;by_cases hbig:2147483647<v*1024
        ·rw[if_neg (by decide),if_pos hbig]at f;have H:(2147483647:Int)<(v:Int)*1024:=by omega
         go_wp2_with (first|(go_at_call 224;refine(Xr _ _).mono ?_;rintro e g ⟨rfl,rfl⟩)|(go_at_call 227;refine(XG _ _).mono ?_;rintro e g ⟨rfl,rfl⟩)|(go_at_call 103;refine(X9 _ _ _).mono ?_;rintro e g ⟨rfl,rfl⟩));exact⟨rfl,Zq.err f.o ((Qs _).alloc (by simp) _) (Jy 3 d (by simp) (by simp))⟩
        ·rw[if_neg (by decide),if_neg hbig]at f;go_wp2_with (first|(go_at_call 224;refine(Xr _ _).mono ?_;rintro e g ⟨rfl,rfl⟩)|(go_at_call 227;refine(XG _ _).mono ?_;rintro e g ⟨rfl,rfl⟩)|(go_at_call 103;refine(X9 _ _ _).mono ?_;rintro e g ⟨rfl,rfl⟩));refine bodyPost_ret (v:=.tuple #[.agg #[.int .i64 4,.int .i64 d,.string ⟨#[]⟩,.string ⟨#[]⟩,.int .i64 ((v:Int)*1024)],.int .i64 (↑d+↑j+1)]) (by simp[results,results228,go_sem]) rfl (Zq.ok f.o (Qs _) ?_ ?_)
         ·simp[wdV];try omega
         ·simp;try omega
       ·rw[VD (Qc hdd)]at f;rw[if_pos rfl]at f;go_wp2_with (first|(go_at_call 224;refine(Xr _ _).mono ?_;rintro e g ⟨rfl,rfl⟩)|(go_at_call 227;refine(XG _ _).mono ?_;rintro e g ⟨rfl,rfl⟩)|(go_at_call 103;refine(X9 _ _ _).mono ?_;rintro e g ⟨rfl,rfl⟩));exact⟨rfl,Zq.err f.o ((Qs _).alloc (by simp) _) (Jy 2 d (by simp) (by simp))⟩
      ·rw[VD (Qd hl)]at f;rw[if_pos rfl]at f;go_wp2_with (first|(go_at_call 224;refine(Xr _ _).mono ?_;rintro e g ⟨rfl,rfl⟩)|(go_at_call 227;refine(XG _ _).mono ?_;rintro e g ⟨rfl,rfl⟩)|(go_at_call 103;refine(X9 _ _ _).mono ?_;rintro e g ⟨rfl,rfl⟩));exact⟨rfl,Zq.err f.o ((Qs _).alloc (by simp) _) (Jy 2 d (by simp) (by simp))⟩
    ·have n:Hid (∀ i,byteOf s (↑d+↑j)=i->sNL (s.data.toList.drop d) d=if Q1 i then .error ⟨2,d⟩else if 2147483647<v then .error ⟨3,d⟩else .ok (⟨4,d,[],[],v⟩,d+(j))):=fun i u=>
      AT _ d v j (v) (j) c1 i C.o z.o q.o (by rw[Ns k l,CY r t];rfl) (by rw[Ns k l,CY r t];rfl) (by rw[Nq s d (j) (↑d+↑j) (by omega)];exact u)
     clear q;go_wp2_with fail;refine(Nn s _ _ (by unfold maxLen;omega) (by omega)).mono ?_;rintro e E ⟨rfl,rfl⟩;have f:=I (n.o _ rfl);clear n;generalize byteOf s (↑d+↑j)=i at f;cases hl:QP (i.toNat:Int)
     ·cases hdd:QK (i.toNat:Int)
      ·rw[AU hl hdd]at f;by_cases hbig:2147483647<v
       ·rw[if_neg (by decide),if_pos hbig]at f;have H:(2147483647:Int)<(v:Int):=by omega
        go_wp2_with (first|(go_at_call 224;refine(Xr _ _).mono ?_;rintro e g ⟨rfl,rfl⟩)|(go_at_call 227;refine(XG _ _).mono ?_;rintro e g ⟨rfl,rfl⟩)|(go_at_call 103;refine(X9 _ _ _).mono ?_;rintro e g ⟨rfl,rfl⟩));exact⟨rfl,Zq.err f.o ((Qs _).alloc (by simp) _) (Jy 3 d (by simp) (by simp))⟩
       ·rw[if_neg (by decide),if_neg hbig]at f;go_wp2_with (first|(go_at_call 224;refine(Xr _ _).mono ?_;rintro e g ⟨rfl,rfl⟩)|(go_at_call 227;refine(XG _ _).mono ?_;rintro e g ⟨rfl,rfl⟩)|(go_at_call 103;refine(X9 _ _ _).mono ?_;rintro e g ⟨rfl,rfl⟩));refine bodyPost_ret (v:=.tuple #[.agg #[.int .i64 4,.int .i64 d,.string ⟨#[]⟩,.string ⟨#[]⟩,.int .i64 ((v:Int))],.int .i64 (↑d+↑j)]) (by simp[results,results228,go_sem]) rfl (Zq.ok f.o (Qs _) ?_ ?_)
        ·simp[wdV];try omega
        ·simp;try omega
      ·rw[VD (Qc hdd)]at f;rw[if_pos rfl]at f;go_wp2_with (first|(go_at_call 224;refine(Xr _ _).mono ?_;rintro e g ⟨rfl,rfl⟩)|(go_at_call 227;refine(XG _ _).mono ?_;rintro e g ⟨rfl,rfl⟩)|(go_at_call 103;refine(X9 _ _ _).mono ?_;rintro e g ⟨rfl,rfl⟩));exact⟨rfl,Zq.err f.o ((Qs _).alloc (by simp) _) (Jy 2 d (by simp) (by simp))⟩
     ·rw[VD (Qd hl)]at f;rw[if_pos rfl]at f;go_wp2_with (first|(go_at_call 224;refine(Xr _ _).mono ?_;rintro e g ⟨rfl,rfl⟩)|(go_at_call 227;refine(XG _ _).mono ?_;rintro e g ⟨rfl,rfl⟩)|(go_at_call 103;refine(X9 _ _ _).mono ?_;rintro e g ⟨rfl,rfl⟩));exact⟨rfl,Zq.err f.o ((Qs _).alloc (by simp) _) (Jy 2 d (by simp) (by simp))⟩
def UX(l:L8):List Value:=l.map fun c=>Value.int .u8 c.toNat
theorem AV(l:L8)(c:UInt8):UX l++[.int .u8 c.toNat]=UX (l++[c]):=by simp[UX]
theorem Tryz.infoU8:(prog.info? 5).map (fun i=>(i.zero,i.size,i.bytes))=some (some (.int .u8 0),1,1):=by kernel_rfl
theorem LZ(wr:World)(base:Nat)(v:Value)(l:L8)(h:wr.ownsRow base 5 1 v l.length (UX l)) :
 (convert 198 9 v).run prog wr=.ok (.string ⟨l.toArray⟩) wr:=by
 obtain⟨d,f | ⟨g,b,c,a,o,k,r⟩⟩:=h
 ·obtain⟨rfl,i⟩:=f;have:l=[]:=XB i;subst this;rw[run_convert_bytes_string wr 198 9 5 none 0 0 underlying198 underlying5 underlying9];rfl
 ·have m:=World.ownsRow.cells (w:=wr) (base:=base) (e:=5) (size:=1) (v:=v) (n:=l.length) (xs:=UX l) ⟨d,Qc ⟨g,b,c,a,o,k,r⟩⟩ (g:=g) (by rw[a];rfl);rw[a];exact run_convert_bytes_back wr 198 9 5 ⟨g,0,none⟩ b l underlying198 underlying5 underlying9 (fun j p=>m j _ (by simp[UX,List.getElem?_eq_getElem p]))
theorem CZ(c:UInt8)(r:L8)(h:(c.toNat:Int)=34):qL (c::r)=some ([],1):=by
 unfold qL;rw[if_pos (by omega)]
theorem L0(c d:UInt8)(r:L8)(h:(c.toNat:Int)=92):qL (c::d::r)=(qL r).map fun x=>(d::x.1,x.2+2):=by
 rw[qL,if_neg (by omega),if_pos (by omega)]
theorem L1(c:UInt8)(h:(c.toNat:Int)=92):qL [c]=none:=by
 unfold qL;rw[if_neg (by omega),if_pos (by omega)]
theorem L3(c:UInt8)(r:L8)(h:¬(c.toNat:Int)=34)(a:¬(c.toNat:Int)=92):qL (c::r)=(qL r).map fun x=>(c::x.1,x.2+1):=by
 rw[qL.eq_def];dsimp only;rw[if_neg (by omega),if_neg (by omega)]
def XX(s:ByteArray)(at_ k:Nat)(acc:L8):Prop:=
 qL (s.data.toList.drop (at_+1))=(qL (s.data.toList.drop k)).map fun x=>(acc++x.1,x.2+(k - (at_+1)))
theorem XX.fin(h:XX s a k acc){r:L8}(d:s.data.toList.drop k=c::r)(b:(c.toNat:Int)=34) :
 qL (s.data.toList.drop (a+1))=some (acc,1+(k - (a+1))):=by
 unfold XX at h;rw[h,d,CZ c r b];simp
theorem XX.one(h:XX s a k acc)(e:s.data.toList.drop k=c::s.data.toList.drop (k+1))(b:¬(c.toNat:Int)=34)(d:¬(c.toNat:Int)=92)(f:a+1<=k) :
 XX s a (k+1) (acc++[c]):=by
 unfold XX at h ⊢;rw[h,e,L3 c _ b d]
 cases qL (s.data.toList.drop (k+1))with
 |none=>rfl
 |some x=>simp;omega
theorem XX.esc(h:XX s a k acc){d:UInt8}(e:s.data.toList.drop k=c::s.data.toList.drop (k+1))(f:s.data.toList.drop (k+1)=d::s.data.toList.drop (k+1+1))(b:(c.toNat:Int)=92)(g:a+1<=k) :
 XX s a (k+1+1) (acc++[d]):=by
 unfold XX at h ⊢;rw[h,e,f,L0 c d _ b]
 cases qL (s.data.toList.drop (k+1+1))with
 |none=>rfl
 |some x=>simp;omega
theorem XX.esc0(h:XX s a k acc)(e:s.data.toList.drop k=c::s.data.toList.drop (k+1))(f:s.data.toList.drop (k+1)=[])(d:(c.toNat:Int)=92)(b:L8) :
 XX s a (k+1) b:=by
 unfold XX at h ⊢;rw[h,e,f,L1 c d];rfl
theorem XX.past(h:XX s a k acc)(b:s.size<=k):qL (s.data.toList.drop (a+1))=none:=by
 unfold XX at h;rw[h,Zi (by simpa using b)];rfl
theorem L4(s:ByteArray)(b:Nat)(w:World)(hs:s.size<=4294967280)(ha:b<s.size) :
 Calls prog 229 #[.string s,.int .i64 b] w (Zq (quoteR (s.data.toList.drop (b+1)) b) w):=by
 obtain⟨M,H,J,K,L⟩:=info_parts Tryz.infoU8;obtain⟨R,F⟩:=QE (quoteR (s.data.toList.drop (b+1)) b);rw[<-F];have E:=I F;clear F;go_enter func229,ntmps229;go_wp2_with fail
 go_loopw [6,7] (fun v i wr=>∃(k:Nat) (l:L8),b+1<=k/\k<=s.size/\i=.int .i64 k/\l.length<=k/\wr.ownsRow (w.heap.size+1) 5 1 v l.length (UX l)/\Below (w.heap.size+1) (w.alloc (.cells #[.int .i64 0,.int .i64 0,.string ⟨#[]⟩,.string ⟨#[]⟩,.int .i64 0] 206)) wr/\XX s b k l) (fun _ i _=>s.size - (intOf i).toNat)
 case atStart=>
  refine⟨b+1,[],by omega,by omega,by go_num,by simp,World.ownsRow_nil _ _ _ _,Below.refl _ _,?_⟩;unfold XX;cases qL (s.data.toList.drop (b+1))<;>simp
 case round=>
  obtain⟨k,l,S,hk,rfl,ab,g,a,Q⟩:=hrel;have t:=I Q;clear Q;by_cases hlt:k<s.size
  ·have z:=I (YS s k hlt);obtain⟨c,Y⟩:=Qf (s[k]);rw[Y]at z;by_cases h34:(c.toNat:Int)=34
   ·have P:((c.toNat:Int)==34)=true:=by simpa using h34
    have ad:=LZ wr _ _ l g;have Z:∀ o,wr.cell? ⟨w.heap.size,o,none⟩=(w.alloc (.cells #[.int .i64 0,.int .i64 0,.string ⟨#[]⟩,.string ⟨#[]⟩,.int .i64 0] 206)).cell? ⟨w.heap.size,o,none⟩:=fun o=>a.cell (p:=⟨w.heap.size,o,none⟩) (by show w.heap.size<_;omega)
    have ac:∀ o,wr.frozen? ⟨w.heap.size,o,none⟩=(w.alloc (.cells #[.int .i64 0,.int .i64 0,.string ⟨#[]⟩,.string ⟨#[]⟩,.int .i64 0] 206)).frozen? ⟨w.heap.size,o,none⟩:=fun o=>a.frozen (p:=⟨w.heap.size,o,none⟩) (by show w.heap.size<_;omega)
    have W:=I a;have HO:=I g;have N:=I (CZ c (s.data.toList.drop (k+1)) h34);clear a g h34;go_wp2;have G:Below w.heap.size w wr:=(Qs _).trans (W.o.mono (by omega));refine bodyPost_ret (v:=.tuple #[.agg #[.int .i64 5,.int .i64 b,.string ⟨#[]⟩,.string ⟨l.toArray⟩,.int .i64 0],.int .i64 (↑k+1)]) (by simp[results,results229,go_sem,Z]) rfl (Zq.ok (x:=(⟨5,b,[],l,0⟩,b+(1+(1+(k - (b+1)))))) ?_ ?_ rfl ?_)
    ·rw[E.o,quoteR,t.o.fin z.o (by simpa using P)]
    ·exact((((G.setCell Qt _).setCell Qt _).setCell Qt _).setCell Qt _).setCell Qt _
    ·simp;omega
   ·have P:((c.toNat:Int)==34)=false:=by simpa using h34
    by_cases h92:(c.toNat:Int)=92
    ·have X:((c.toNat:Int)==92)=true:=by simpa using h92
     by_cases hl2:k+1<s.size
     ·have C:=I (YS s (k+1) hl2);obtain⟨d,aa⟩:=Qf (s[k+1]);rw[aa]at C;have D:=I h34;have r:=I h92;clear h34 h92;go_wp2_with (at_builtin;refine wpList_append_own _ rfl _ _ 198 rfl (w.heap.size+1) 5 M (.int .u8 0) 1 1 underlying198 H J K L rfl (by decide) _ _ _ rfl (g.alloc _) ⟨wr.heap.size,0,none⟩ 1 1 [.int .u8 d.toNat] rfl rfl ?c1 ?c2 ?c3 ?c4 ?c5 ?_)
      case c1=>
       intro j u f
       match j,f with
       |0,f=>simp at f;subst f;simp[Addr.add]
      case c2=>intro u q;simp at q;subst q;rfl
      case c3=>unfold maxLen;omega
      case c4=>omega
      case c5=>have:=a.size;simp at this ⊢;omega
      ·intro U V n m _;have y:=Below.grown (a.alloc (by have:=a.size;simp at this;omega) (Obj.cells #[.int .u8 d.toNat] 5)) m (by have:=a.size;simp at this ⊢;omega) (fun B A=>(g.lt B A).1);rw[AV]at n;clear a g m;go_wp2;go_roundw
       case rel=>exact⟨k+1+1,l++[d],by omega,by omega,by go_num,by simp;omega,by simpa using n,y,t.o.esc z.o C.o r.o S⟩
       case measure=>simp[intOf];omega
     ·have C:Hid (s.data.toList.drop (k+1)=[]):=Zi (by simp;omega);have D:=I h34;have r:=I h92;clear h34 h92;go_wp2_with (at_builtin;refine wpList_append_own _ rfl _ _ 198 rfl (w.heap.size+1) 5 M (.int .u8 0) 1 1 underlying198 H J K L rfl (by decide) _ _ _ rfl (g.alloc _) ⟨wr.heap.size,0,none⟩ 1 1 [.int .u8 c.toNat] rfl rfl ?c1 ?c2 ?c3 ?c4 ?c5 ?_)
      case c1=>
       intro j u f
       match j,f with
       |0,f=>simp at f;subst f;simp[Addr.add]
      case c2=>intro u q;simp at q;subst q;rfl
      case c3=>unfold maxLen;omega
      case c4=>omega
      case c5=>have:=a.size;simp at this ⊢;omega
      ·intro U V n m _;have y:=Below.grown (a.alloc (by have:=a.size;simp at this;omega) (Obj.cells #[.int .u8 c.toNat] 5)) m (by have:=a.size;simp at this ⊢;omega) (fun B A=>(g.lt B A).1);rw[AV]at n;clear a g m;go_wp2;go_roundw
       case rel=>exact⟨k+1,l++[c],by omega,by omega,by go_num,by simp;omega,by simpa using n,y,t.o.esc0 z.o C.o r.o _⟩
       case measure=>simp[intOf];omega
    ·have X:((c.toNat:Int)==92)=false:=by simpa using h92
     have D:=I h34;have r:=I h92;clear h34 h92;go_wp2_with (at_builtin;refine wpList_append_own _ rfl _ _ 198 rfl (w.heap.size+1) 5 M (.int .u8 0) 1 1 underlying198 H J K L rfl (by decide) _ _ _ rfl (g.alloc _) ⟨wr.heap.size,0,none⟩ 1 1 [.int .u8 c.toNat] rfl rfl ?c1 ?c2 ?c3 ?c4 ?c5 ?_)
     case c1=>
      intro j u f
      match j,f with
      |0,f=>simp at f;subst f;simp[Addr.add]
     case c2=>intro u q;simp at q;subst q;rfl
     case c3=>unfold maxLen;omega
     case c4=>omega
     case c5=>have:=a.size;simp at this ⊢;omega
     ·intro U V n m _;have y:=Below.grown (a.alloc (by have:=a.size;simp at this;omega) (Obj.cells #[.int .u8 c.toNat] 5)) m (by have:=a.size;simp at this ⊢;omega) (fun B A=>(g.lt B A).1);rw[AV]at n;clear a g m;go_wp2;go_roundw
      case rel=>exact⟨k+1,l++[c],by omega,by omega,by go_num,by simp;omega,by simpa using n,y,t.o.one z.o D.o r.o S⟩
      case measure=>simp[intOf];omega
  ·have N:Hid (R=.error ⟨2,b⟩):=by show R=_;rw[E.o,quoteR,t.o.past (by omega)]
   have T:w.heap.size<=wr.heap.size:=by have:=a.size;simp at this;omega
   have G:Below w.heap.size w wr:=(Qs _).trans (a.mono (by omega));clear g a E;go_wp2_with (go_at_call 103;refine(X9 _ _ _).mono ?_;rintro e w' ⟨rfl,rfl⟩);exact⟨rfl,Zq.err N.o (G.alloc T _) (Jy 2 b T rfl)⟩
theorem AW(k:Int)(s:ByteArray)(a n:Nat)(x:Int)(w:World)(d:x=n)(c:s.size<=4294967280)(b:a+n<=s.size) :
 Calls prog 225 #[.int .i64 k,.string s,.int .i64 a,.int .i64 x] w fun e w'=>
  e=.returned (.tuple #[.agg #[.int .i64 k,.int .i64 a,.string ⟨(zL ((s.data.toList.drop a).take n)).toArray⟩,.string ⟨#[]⟩,.int .i64 0],.int .i64 (a+n:Nat)])/\Below w.heap.size w w':=by
 subst d;exact LP k s a n w c b
def Nu:Obj:=.cells #[.int .i64 0,.int .i64 0,.string ⟨#[]⟩,.string ⟨#[]⟩,.int .i64 0] 206
theorem Gx(h:Below (w.alloc Nu).heap.size (w.alloc Nu) w1)(a b c d e:Value) :
 Below w.heap.size w (((((w1.setCell ⟨w.heap.size,0,none⟩ a).setCell ⟨w.heap.size,1,none⟩ b).setCell ⟨w.heap.size,2,none⟩ c).setCell ⟨w.heap.size,3,none⟩ d).setCell ⟨w.heap.size,4,none⟩ e):=by
 have f:Below w.heap.size w w1:=(Qs _).trans (h.mono (by simp));exact((((f.setCell Qt _).setCell Qt _).setCell Qt _).setCell Qt _).setCell Qt _
theorem UY(c:UInt8)(r:L8)(p:Nat):QV (c::r) p =
 if QP c.toNat then .ok (XC 1 (c::r) p (nameLen (c::r)))
 else if c.toNat=58 then
  if nameLen r=0 then .error ⟨2,p⟩else .ok (XC 2 (c::r) p (1+nameLen r))
 else if QK c.toNat then sNL (c::r) p
 else if c.toNat=34 then quoteR r p
 else if Yk c then .ok (XC 3 (c::r) p 1)
 else .error ⟨2,p⟩:=rfl
theorem L5(s:ByteArray)(a:Nat)(w:World)(c:a=s.size) :
 Calls prog 193 #[.string s,.int .i64 a] w (Zq (QV (s.data.toList.drop a) a) w):=by
 have b:Hid (QV (s.data.toList.drop a) a=.ok (⟨0,a,[],[],0⟩,a)):=by
  show _=_
  rw[Zi (by simp;omega)];rfl
 have d:((a:Int)==(s.size:Int))=true:=by simp;omega
 clear c;go_enter func193,ntmps193;go_wp2;refine bodyPost_ret (v:=.tuple #[.agg #[.int .i64 0,.int .i64 a,.string ⟨#[]⟩,.string ⟨#[]⟩,.int .i64 0],.int .i64 a]) (by simp[results,results193,go_sem]) rfl (Zq.ok b.o ?_ rfl rfl);exact Qs _
theorem L6(s:ByteArray)(a:Nat)(c:UInt8)(r:L8)(w:World)(p:s.size<=4294967280)(f:s.data.toList.drop a=c::r)(A:a<s.size)(y:s[a]=c)(m:QP (c.toNat:Int)=true) :
 Calls prog 193 #[.string s,.int .i64 a] w (Zq (QV (s.data.toList.drop a) a) w):=by
 have j:Hid (QV (s.data.toList.drop a) a=.ok (XC 1 (s.data.toList.drop a) a (nameLen (s.data.toList.drop a)))):=by
  show _=_
  rw[f,UY,if_pos m]
 obtain⟨b,g⟩:=Qf (s.extract a s.size);have k:Hid (b.data.toList=s.data.toList.drop a):=by rw[<-g];exact Gw s a
 have C:b.size<=s.size - a:=by rw[<-g,Np];omega
 have n:=VE b.data.toList;rw[<-Lib.size_eq]at n;have B:((a:Int)==(s.size:Int))=false:=by simp;omega
 have x:=I f;clear f;go_enter func193,ntmps193;go_wp2_with (first|(go_at_call 224;refine(Xr _ _).mono ?_;rintro e t ⟨rfl,rfl⟩)|(go_at_call 226;refine(No _ _ (by unfold maxLen;omega)).mono ?_;rintro e t ⟨rfl,rfl⟩));refine(AW 1 s a (nameLen b.data.toList) _ _ rfl p (by omega)).mono ?_;rintro e u ⟨rfl,d⟩;obtain⟨l,z⟩:=VC d;have q:w.heap.size<u.heap.size:=by have:=d.size;simp at this;omega
 have i:=I d;rw[k.o];clear d;go_wp2;refine bodyPost_ret (v:=.tuple #[.agg #[.int .i64 1,.int .i64 a,.string ⟨(zL ((s.data.toList.drop a).take (nameLen (s.data.toList.drop a)))).toArray⟩,.string ⟨#[]⟩,.int .i64 0],.int .i64 (a+nameLen (s.data.toList.drop a):Nat)]) (by simp[results,results193,go_sem,l,q]) rfl (Zq.ok j.o (Gx i.o _ _ _ _ _) rfl rfl)
theorem L7(s:ByteArray)(a:Nat)(c:UInt8)(r:L8)(w:World)(z:s.size<=4294967280)(d:s.data.toList.drop a=c::r)(x:a<s.size)(D:s[a]=c)(l:QP (c.toNat:Int)=false)(k:(c.toNat:Int)=58) :
 Calls prog 193 #[.string s,.int .i64 a] w (Zq (QV (s.data.toList.drop a) a) w):=by
 have q:Hid (s.data.toList.drop (a+1)=r):=by
  show _=_
  have:=YS s a x;rw[d]at this;exact(List.cons.inj this).2.symm
 obtain⟨b,m⟩:=Qf (s.extract (a+1) s.size);have j:Hid (b.data.toList=r):=by show _=_;rw[<-m,Gw];exact q.o
 have G:b.size<=s.size - (a+1):=by rw[<-m,Np];omega
 have y:=VE b.data.toList;rw[<-Lib.size_eq]at y;have F:((a:Int)==(s.size:Int))=false:=by simp;omega
 have C:((c.toNat:Int)==58)=true:=by simpa using k
 by_cases h0:nameLen b.data.toList=0
 ·have g:Hid (QV (s.data.toList.drop a) a=.error ⟨2,a⟩):=by
   show _=_
   rw[d,UY,if_neg (by rw[l];decide),if_pos (by omega),if_pos (by rw[<-j.o];exact h0)]
  have t:((nameLen b.data.toList:Int)==0)=true:=by simpa using h0
  clear d k h0;go_enter func193,ntmps193;go_wp2_with (first|(go_at_call 224;refine(Xr _ _).mono ?_;rintro e f ⟨rfl,rfl⟩)|(go_at_call 226;refine(No _ _ (by unfold maxLen;omega)).mono ?_;rintro e f ⟨rfl,rfl⟩)|(go_at_call 103;refine(X9 _ _ _).mono ?_;rintro e f ⟨rfl,rfl⟩));exact⟨rfl,Zq.err g.o ((Qs _).alloc (by simp) _) (Jy 2 a (by simp) (by simp))⟩
 ·have g:Hid (QV (s.data.toList.drop a) a=.ok (XC 2 (s.data.toList.drop a) a (1+nameLen b.data.toList))):=by
   show _=_
   rw[d,UY,if_neg (by rw[l];decide),if_pos (by omega),if_neg (by rw[<-j.o];exact h0),j.o]
  have t:((nameLen b.data.toList:Int)==0)=false:=by simpa using h0
  clear d k h0;go_enter func193,ntmps193;go_wp2_with (first|(go_at_call 224;refine(Xr _ _).mono ?_;rintro e f ⟨rfl,rfl⟩)|(go_at_call 226;refine(No _ _ (by unfold maxLen;omega)).mono ?_;rintro e f ⟨rfl,rfl⟩)|(go_at_call 103;refine(X9 _ _ _).mono ?_;rintro e f ⟨rfl,rfl⟩));refine(AW 2 s a (1+nameLen b.data.toList) _ _ (by omega) z (by omega)).mono ?_;rintro e B ⟨rfl,i⟩;obtain⟨u,E⟩:=VC i;have A:w.heap.size<B.heap.size:=by have:=i.size;simp at this;omega
  have p:=I i;generalize 1+nameLen b.data.toList=n at g;clear i;go_wp2;exact bodyPost_ret (v:=.tuple #[.agg #[.int .i64 2,.int .i64 a,.string ⟨(zL ((s.data.toList.drop a).take n)).toArray⟩,.string ⟨#[]⟩,.int .i64 0],.int .i64 (a+n:Nat)]) (by simp[results,results193,go_sem,u,A]) rfl (Zq.ok g.o (Gx p.o _ _ _ _ _) rfl rfl)
theorem L9(s:ByteArray)(a:Nat)(c:UInt8)(r:L8)(w:World)(z:s.size<=4294967280)(m:s.data.toList.drop a=c::r)(F:a<s.size)(D:s[a]=c)(y:QP (c.toNat:Int)=false)(k:¬(c.toNat:Int)=58)(u:QK (c.toNat:Int)=true) :
 Calls prog 193 #[.string s,.int .i64 a] w (Zq (QV (s.data.toList.drop a) a) w):=by
 have d:Hid (QV (s.data.toList.drop a) a=sNL (s.data.toList.drop a) a):=by
  show _=_
  rw[m,UY,if_neg (by rw[y];decide),if_neg (by omega),if_pos u]
 have G:((a:Int)==(s.size:Int))=false:=by simp;omega
 have C:((c.toNat:Int)==58)=false:=by simpa using k
 have l:=I (fun W=>(LY s a W z (by omega)));rw[d.o];rw[d.o]at d;generalize sNL (s.data.toList.drop a) a=R at l d ⊢;clear m k d;go_enter func193,ntmps193;go_wp2_with (first|(go_at_call 224;refine(Xr _ _).mono ?_;rintro e B ⟨rfl,rfl⟩)|(go_at_call 227;refine(XG _ _).mono ?_;rintro e B ⟨rfl,rfl⟩));refine(l.o _).mono ?_;rintro e n ⟨g,h⟩;have A:w.heap.size<n.heap.size:=by have:=g.size;simp at this;omega
 obtain⟨t,E⟩:=VC g;have j:=I g;clear g
 cases R with
 |error f=>
  have i:Z5 f (w.alloc Nu) e n:=h;obtain⟨b,p,rfl,q⟩:=i;exact⟨rfl,Zq.err rfl ((Qs _).trans (j.o.mono (by simp))) ⟨b,by simp at p;omega,rfl,q⟩⟩
 |ok x=>
  have i:e=.returned (.tuple #[wdV x.1,.int .i64 x.2]):=h;subst i;unfold wdV;go_wp2;exact bodyPost_ret (v:=.tuple #[.agg #[.int .i64 x.1.kind,.int .i64 x.1.pos,.string ⟨x.1.spelt.toArray⟩,.string ⟨x.1.said.toArray⟩,.int .i64 x.1.num],.int .i64 x.2]) (by simp[results,results193,go_sem,t,A]) rfl (Zq.ok rfl (Gx j.o _ _ _ _ _) rfl rfl)
theorem Ma(s:ByteArray)(a:Nat)(c:UInt8)(r:L8)(w:World)(C:s.size<=4294967280)(j:s.data.toList.drop a=c::r)(p:a<s.size)(H:s[a]=c)(B:QP (c.toNat:Int)=false)(m:¬(c.toNat:Int)=58)(A:QK (c.toNat:Int)=false)(l:(c.toNat:Int)=34) :
 Calls prog 193 #[.string s,.int .i64 a] w (Zq (QV (s.data.toList.drop a) a) w):=by
 have t:Hid (s.data.toList.drop (a+1)=r):=by
  show _=_
  have:=YS s a p;rw[j]at this;exact(List.cons.inj this).2.symm
 have d:Hid (QV (s.data.toList.drop a) a=quoteR (s.data.toList.drop (a+1)) a):=by
  show _=_
  rw[j,UY,if_neg (by rw[B];decide),if_neg (by omega),if_neg (by rw[A];decide),if_pos (by omega),t.o]
 have K:((a:Int)==(s.size:Int))=false:=by simp;omega
 have G:((c.toNat:Int)==58)=false:=by simpa using m
 have F:((c.toNat:Int)==34)=true:=by simpa using l
 have n:=I (fun W=>(L4 s a W C p));rw[d.o];rw[d.o]at d;generalize quoteR (s.data.toList.drop (a+1)) a=R at n d ⊢;clear j m d l;go_enter func193,ntmps193;go_wp2_with (first|(go_at_call 224;refine(Xr _ _).mono ?_;rintro e E ⟨rfl,rfl⟩)|(go_at_call 227;refine(XG _ _).mono ?_;rintro e E ⟨rfl,rfl⟩));refine(n.o _).mono ?_;rintro e q ⟨g,h⟩;have D:w.heap.size<q.heap.size:=by have:=g.size;simp at this;omega
 obtain⟨z,J⟩:=VC g;have k:=I g;clear g
 cases R with
 |error f=>
  have i:Z5 f (w.alloc Nu) e q:=h;obtain⟨b,u,rfl,y⟩:=i;exact⟨rfl,Zq.err rfl ((Qs _).trans (k.o.mono (by simp))) ⟨b,by simp at u;omega,rfl,y⟩⟩
 |ok x=>
  have i:e=.returned (.tuple #[wdV x.1,.int .i64 x.2]):=h;subst i;unfold wdV;go_wp2;exact bodyPost_ret (v:=.tuple #[.agg #[.int .i64 x.1.kind,.int .i64 x.1.pos,.string ⟨x.1.spelt.toArray⟩,.string ⟨x.1.said.toArray⟩,.int .i64 x.1.num],.int .i64 x.2]) (by simp[results,results193,go_sem,z,D]) rfl (Zq.ok rfl (Gx k.o _ _ _ _ _) rfl rfl)
def AX(c:UInt8):Int:=Lib.indexByte [59,44,40,41,123,125,91,93] c
theorem C0(c:UInt8)(w:World) :
 Calls prog 230 #[.string ⟨#[59,44,40,41,123,125,91,93]⟩,.int .u8 c.toNat] w fun e w'=>e=.returned (.int .i64 (AX c))/\w'=w:=by
 have h:=Tryz.strings_IndexByte ⟨#[59,44,40,41,123,125,91,93]⟩ c.toNat w;have e:((c.toNat:Int).toNat).toUInt8=c:=by simp
 rw[e]at h;exact h
theorem Mb(s:ByteArray)(a:Nat)(c:UInt8)(r:L8)(w:World)(q:s.size<=4294967280)(i:s.data.toList.drop a=c::r)(B:a<s.size)(z:s[a]=c)(p:QP (c.toNat:Int)=false)(g:¬(c.toNat:Int)=58)(n:QK (c.toNat:Int)=false)(f:¬(c.toNat:Int)=34)(d:Yk c=true) :
 Calls prog 193 #[.string s,.int .i64 a] w (Zq (QV (s.data.toList.drop a) a) w):=by
 have l:Hid (QV (s.data.toList.drop a) a=.ok (XC 3 (s.data.toList.drop a) a 1)):=by
  show _=_
  rw[i,UY,if_neg (by rw[p];decide),if_neg (by omega),if_neg (by rw[n];decide),if_neg (by omega),if_pos d]
 have C:0<=AX c:=of_decide_eq_true d;have D:((a:Int)==(s.size:Int))=false:=by simp;omega
 have y:((c.toNat:Int)==58)=false:=by simpa using g
 have x:((c.toNat:Int)==34)=false:=by simpa using f
 clear i g f d;go_enter func193,ntmps193;go_wp2_with (first|(go_at_call 224;refine(Xr _ _).mono ?_;rintro e j ⟨rfl,rfl⟩)|(go_at_call 227;refine(XG _ _).mono ?_;rintro e j ⟨rfl,rfl⟩)|(go_at_call 230;refine(C0 c _).mono ?_;rintro e j ⟨rfl,rfl⟩));refine(AW 3 s a 1 _ _ rfl q (by omega)).mono ?_;rintro e u ⟨rfl,b⟩;obtain⟨m,A⟩:=VC b;have t:w.heap.size<u.heap.size:=by have:=b.size;simp at this;omega
 have k:=I b;clear b;go_wp2;exact bodyPost_ret (v:=.tuple #[.agg #[.int .i64 3,.int .i64 a,.string ⟨(zL ((s.data.toList.drop a).take 1)).toArray⟩,.string ⟨#[]⟩,.int .i64 0],.int .i64 (a+1:Nat)]) (by simp[results,results193,go_sem,m,t]) rfl (Zq.ok l.o (Gx k.o _ _ _ _ _) rfl rfl)
theorem Mc(s:ByteArray)(a:Nat)(c:UInt8)(r:L8)(w:World)(t:s.size<=4294967280)(i:s.data.toList.drop a=c::r)(q:a<s.size)(p:s[a]=c)(l:QP (c.toNat:Int)=false)(g:¬(c.toNat:Int)=58)(k:QK (c.toNat:Int)=false)(f:¬(c.toNat:Int)=34)(b:Yk c=false) :
 Calls prog 193 #[.string s,.int .i64 a] w (Zq (QV (s.data.toList.drop a) a) w):=by
 have j:Hid (QV (s.data.toList.drop a) a=.error ⟨2,a⟩):=by
  show _=_
  rw[i,UY,if_neg (by rw[l];decide),if_neg (by omega),if_neg (by rw[k];decide),if_neg (by omega),if_neg (by rw[b];decide)]
 have u:¬ 0<=AX c:=of_decide_eq_false b;have v:((a:Int)==(s.size:Int))=false:=by simp;omega
 have n:((c.toNat:Int)==58)=false:=by simpa using g
 have m:((c.toNat:Int)==34)=false:=by simpa using f
 clear i g f b;go_enter func193,ntmps193;go_wp2_with (first|(go_at_call 224;refine(Xr _ _).mono ?_;rintro e d ⟨rfl,rfl⟩)|(go_at_call 227;refine(XG _ _).mono ?_;rintro e d ⟨rfl,rfl⟩)|(go_at_call 230;refine(C0 c _).mono ?_;rintro e d ⟨rfl,rfl⟩)|(go_at_call 103;refine(X9 _ _ _).mono ?_;rintro e d ⟨rfl,rfl⟩));exact⟨rfl,Zq.err j.o ((Qs _).alloc (by simp) _) (Jy 2 a (by simp) (by simp))⟩
theorem Md(s:ByteArray)(a:Nat)(w:World)(d:s.size<=4294967280)(e:a<=s.size) :
 Calls prog 193 #[.string s,.int .i64 a] w (Zq (QV (s.data.toList.drop a) a) w):=by
 by_cases h:a=s.size
 ·exact L5 s a w h
 have b:a<s.size:=by omega
 have c:=YS s a b;cases hl:QP (s[a].toNat:Int)
 ·by_cases h58:(s[a].toNat:Int)=58
  ·exact L7 s a _ _ w d c b rfl hl h58
  cases hg:QK (s[a].toNat:Int)
  ·by_cases h34:(s[a].toNat:Int)=34
   ·exact Ma s a _ _ w d c b rfl hl h58 hg h34
   cases hsg:Yk s[a]
   ·exact Mc s a _ _ w d c b rfl hl h58 hg h34 hsg
   ·exact Mb s a _ _ w d c b rfl hl h58 hg h34 hsg
  ·exact L9 s a _ _ w d c b rfl hl h58 hg
 ·exact L6 s a _ _ w d c b rfl hl
theorem Zr(x:L8):(sA x).size=x.length:=rfl
theorem Ul(x y:L8):sA x++sA y=sA (x++y):=by
 unfold sA;apply ByteArray.ext;simp
theorem Um(x y:L8):((sA x).toList==y)=decide (x=y):=by
 rw[ByteArray.toList_eq,show(sA x).data.toList=x from rfl,Zh];simp
theorem Ql{a k:L8}(c:L8)(f:a=k)(q:decide (k=c)=false):((sA a).toList==c)=false:=by rw[Um,f];exact q
theorem Zz{a k:L8}(c:L8)(f:a=k)(q:decide (k=c)=true):((sA a).toList==c)=true:=by rw[Um,f];exact q
theorem QI{a:Addr}{v:Value}(h:w.cell? a=some v):a.block<w.heap.size:=by
 rcases Nat.lt_or_ge a.block w.heap.size with h'|h'
 ·exact h'
 ·unfold World.cell? at h;rw[Array.getElem?_eq_none h']at h;cases h
def Zm(w:World)(g:Nat)(zs:Qa):Prop:=
 ∀ j,j<zs.length->w.cell? ⟨g,j,none⟩=some (.string (sA (zs.getD j [])))
theorem UZ(h:Below w.drew.heap.size w.drew w'):Below w.heap.size w w':=⟨h.os,h.tape,h.output,h.size,h.block⟩
theorem Qv(w:World)(b o:Nat)(v:Value)(a:Array Value)(c:TypeId)(h:w.heap[b]?=some (.cells a c)):(w.setCell ⟨b,o,none⟩ v).heap[b]?=some (.cells (a.setIfInBounds o v) c):=by
 simp only[World.setCell,Array.getElem?_modify];rw[if_pos trivial,h];rfl
theorem Qn{a:Array Value}{b:TypeId}(h:w.heap[g]?=some (.cells a b))(o:Nat):w.cell? ⟨g,o,none⟩=a[o]?:=by
 unfold World.cell?;rw[h];rfl
theorem Qj{x:Value}(q:w.heap[i]?=some (.cells (List.toArray (x::r)) t)):w.cell? ⟨i,0,none⟩=some x:=by rw[Qn q 0];rfl
theorem Qo{x y:Value}(q:w.heap[i]?=some (.cells (List.toArray (x::y::r)) t)):w.cell? ⟨i,1,none⟩=some y:=by rw[Qn q 1];rfl
theorem QG{x y z:Value}(q:w.heap[i]?=some (.cells (List.toArray (x::y::z::r)) t)):w.cell? ⟨i,2,none⟩=some z:=by rw[Qn q 2];rfl
theorem QH{x y z u:Value}(q:w.heap[i]?=some (.cells (List.toArray (x::y::z::u::r)) t)):w.cell? ⟨i,3,none⟩=some u:=by rw[Qn q 3];rfl
theorem QJ{x y z u v:Value}(q:w.heap[i]?=some (.cells (List.toArray (x::y::z::u::v::r)) t)):w.cell? ⟨i,4,none⟩=some v:=by rw[Qn q 4];rfl
theorem QM{x y z u v a:Value}(q:w.heap[i]?=some (.cells (List.toArray (x::y::z::u::v::a::r)) t)):w.cell? ⟨i,5,none⟩=some a:=by rw[Qn q 5];rfl
theorem Zg{x y z u v a b:Value}(q:w.heap[i]?=some (.cells (List.toArray (x::y::z::u::v::a::b::r)) t)):w.cell? ⟨i,6,none⟩=some b:=by rw[Qn q 6];rfl
theorem YT{x y z u v a b c:Value}(q:w.heap[i]?=some (.cells (List.toArray (x::y::z::u::v::a::b::c::r)) t)):w.cell? ⟨i,7,none⟩=some c:=by rw[Qn q 7];rfl
theorem KV{x y z u v a b c d:Value}(q:w.heap[i]?=some (.cells (List.toArray (x::y::z::u::v::a::b::c::d::r)) t)):w.cell? ⟨i,8,none⟩=some d:=by rw[Qn q 8];rfl
theorem JU{x y z u v a b c d e:Value}(q:w.heap[i]?=some (.cells (List.toArray (x::y::z::u::v::a::b::c::d::e::r)) t)):w.cell? ⟨i,9,none⟩=some e:=by rw[Qn q 9];rfl
theorem Nv{x y z u v a b c d e f:Value}(q:w.heap[i]?=some (.cells (List.toArray (x::y::z::u::v::a::b::c::d::e::f::r)) t)):w.cell? ⟨i,10,none⟩=some f:=by rw[Qn q 10];rfl
theorem Nw{x y z u v a b c d e f g:Value}(q:w.heap[i]?=some (.cells (List.toArray (x::y::z::u::v::a::b::c::d::e::f::g::r)) t)):w.cell? ⟨i,11,none⟩=some g:=by rw[Qn q 11];rfl
theorem AY{x y z u v a b c d e f g h:Value}(q:w.heap[i]?=some (.cells (List.toArray (x::y::z::u::v::a::b::c::d::e::f::g::h::r)) t)):w.cell? ⟨i,12,none⟩=some h:=by rw[Qn q 12];rfl
theorem Qz{a:Array Value}{b:TypeId}(h:w.heap[g]?=some (.cells a b))(o:Nat):w.frozen? ⟨g,o,none⟩=false:=by
 unfold World.frozen?;rw[h];simp
theorem Qh{o:Obj}(h:w.heap[g]?=some o):g<w.heap.size:=by
 rcases Nat.lt_or_ge g w.heap.size with h'|h'
 ·exact h'
 ·rw[Array.getElem?_eq_none h']at h;cases h
theorem Qy{o o':Obj}(h:w.heap[g]?=some o):(w.alloc o').heap[g]?=some o:=by
 rw[Below.heap_alloc _ _ _ (Qh h)];exact h
theorem QA(w:World)(o:Obj):(w.alloc o).heap[w.heap.size]?=some o:=by
 show(w.heap.push o)[w.heap.size]?=_
 simp
theorem Zv{o:Obj}(h:g=w.heap.size):(w.alloc o).heap[g]?=some o:=by subst h;exact QA w o
theorem Zk{o:Obj}(h:w.heap[g]?=some o)(a:Below w.heap.size w w'):w'.heap[g]?=some o:=by
 rw[a.block g (Qh h)];exact h
theorem Me(h:Below B w W)(hB:B<=w.heap.size)(o:Obj):Below B w (W.alloc o):=h.alloc (Qm hB h.size) o
def Qw(zs:Qa):List Value:=zs.map fun z=>Value.string (sA z)
theorem Jz(zs:Qa)(z:L8):Qw zs++[.string (sA z)]=Qw (zs++[z]):=by simp[Qw]
theorem C1(zs:Qa):(Qw zs).length=zs.length:=by simp[Qw]
theorem Tryz.infoStr:(prog.info? 9).map (fun i=>(i.zero,i.size,i.bytes))=some (some (.string ⟨#[]⟩),1,16):=by kernel_rfl
theorem Zm.of_owns{base c:Nat}{xs:Qa}(h:w.ownsRow base 9 1 (.slice (some ⟨g,0,none⟩) n c) n (Qw xs)):Zm w g xs:=fun j hj=>by
 have:=h.cells (g:=g) rfl j (.string (sA (xs.getD j []))) (by simp[Qw,List.getElem?_eq_getElem hj,List.getD_eq_getElem?_getD]);rw[Jx]at this;exact this
theorem YE(w:World)(zs:Qa)(b:Array Value)(a:TypeId)(h:b=(Qw zs).toArray):Zm (w.alloc (.cells b a)) w.heap.size zs:=fun j hj=>by
 subst h
 have:(w.alloc (.cells (Qw zs).toArray a)).heap[w.heap.size]?=some (.cells (Qw zs).toArray a):=by
  show(w.heap.push _)[w.heap.size]?=_
  simp
 unfold World.cell?;rw[this];simp[Qw,List.getD_eq_getElem?_getD,hj]
theorem JV(zs:Qa)(a:TypeId)(h:g=w.heap.size):Zm (w.alloc (.cells (Qw zs).toArray a)) g zs:=by subst h;exact YE w zs _ a rfl
end
section
open Go.RowKit
attribute [local go_sem ↓] Go.wp_at_zero Go.wp_at_succ
def Nx(t:ByteArray)(x:Wd)(p:Nat)(rv:Value)(mc mt:Nat):Array Value:=
 #[.string t,.int .i64 x.kind,.int .i64 x.pos,.string ⟨x.spelt.toArray⟩,.string ⟨x.said.toArray⟩,.int .i64 x.num,.int .i64 p,rv,.map (some mc),.map (some mt)]
def RAt(w:World)(b:Nat)(t:ByteArray)(x:Wd)(p:Nat)(rv:Value)(mc mt:Nat):Prop:=
 w.heap[b]?=some (.cells (Nx t x p rv mc mt) 210)
structure Mod (b:Nat) (w w':World):Prop where
 os:w'.os=w.os
 tape:w'.tape=w.tape
 output:w'.output=w.output
 size:w.heap.size<=w'.heap.size
 block:∀ k,k < w.heap.size->k≠b->w'.heap[k]?=w.heap[k]?
theorem Mod.refl(b:Nat)(w:World):Mod b w w:=⟨rfl,rfl,rfl,Nat.le_refl _,fun _ _ _=>rfl⟩
theorem Mod.trans{b:Nat}{u v w:World}(h:Mod b u v)(k:Mod b v w):Mod b u w:=
 ⟨k.os.trans h.os,k.tape.trans h.tape,k.output.trans h.output,Qm h.size k.size,fun i hi hn=>(k.block i (Nat.lt_of_lt_of_le hi h.size) hn).trans (h.block i hi hn)⟩
theorem Mod.of_below(h:Below w.heap.size w w'):Mod b w w':=
 ⟨h.os,h.tape,h.output,h.size,fun k hk _=>h.block k hk⟩
theorem Mod.below(h:Mod b w w')(hB:B<=b)(hb:b<w.heap.size):Below B w w':=
 ⟨h.os,h.tape,h.output,h.size,fun k hk=>h.block k (by omega) (by omega)⟩
theorem Mod.drew{b:Nat}{u w:World}(h:Mod b u w):Mod b u w.drew:=⟨h.os,h.tape,h.output,h.size,h.block⟩
theorem Mod.setCell{b:Nat}{u w:World}(h:Mod b u w)(o:Nat)(v:Value):Mod b u (w.setCell ⟨b,o,none⟩ v):=
 h.trans ⟨rfl,rfl,rfl,by simp[World.setCell],fun k hk hn=>Below.heap_setCell _ _ _ _ hn⟩
theorem Mod.alloc{b:Nat}{u w:World}(h:Mod b u w)(o:Obj):Mod b u (w.alloc o):=
 h.trans ⟨rfl,rfl,rfl,by simp,fun k hk _=>Below.heap_alloc _ _ _ hk⟩
theorem Mod.cell{b:Nat}{w w':World}(h:Mod b w w'){p:Addr}(hp:p.block<w.heap.size)(hn:p.block≠b):w'.cell? p=w.cell? p:=
 World.cell?_of_block (w:=w) (h.block p.block hp hn)
theorem RAt.lt{t:ByteArray}{c:Nat}(h:RAt w b t x p d a c):b<w.heap.size:=by
 rcases Nat.lt_or_ge b w.heap.size with h'|h'
 ·exact h'
 ·unfold RAt at h;rw[Array.getElem?_eq_none h']at h;cases h
theorem RAt.cell{w:World}{b:Nat}{t:ByteArray}{x:Wd}{p:Nat}{d:Value}{a c:Nat}(h:RAt w b t x p d a c)(o:Nat):w.cell? ⟨b,o,none⟩=(Nx t x p d a c)[o]?:=by
 unfold World.cell?;rw[h];rfl
theorem RAt.frozen{w:World}{b:Nat}{t:ByteArray}{x:Wd}{p:Nat}{d:Value}{a c:Nat}(h:RAt w b t x p d a c)(o:Nat):w.frozen? ⟨b,o,none⟩=false:=by
 unfold World.frozen?;rw[h];simp
theorem RAt.mod{t:ByteArray}{c:Nat}(h:RAt w b t x p d a c)(e:Below w.heap.size w w'):RAt w' b t x p d a c:=by
 unfold RAt;rw[e.block b h.lt];exact h
def Ka(r:Qb (Wd×Nat))(b:Nat)(t:ByteArray)(rv:Value)(mc mt:Nat)(w:World)(e:Ending)(w':World):Prop:=
 Mod b w w'/\
 match r with
 | .ok y=>e=.returned (.tuple #[])/\RAt w' b t y.1 y.2 rv mc mt
 | .error f=>Z5 f w e w'
theorem Ka.err{r:Qb (Wd×Nat)}{t:ByteArray}{i:Value}{d:Nat}(h:r=.error f)(a:Mod b w w')(c:Z5 f w e w'):Ka r b t i d g w e w':=by
 subst h;exact⟨a,c⟩
theorem Ka.ok{r:Qb (Wd×Nat)}{b:Nat}{t:ByteArray}{d:Value}{a c:Nat}{y:Wd×Nat}{w w':World}(h:r=.ok y)(e:Mod b w w')(f:RAt w' b t y.1 y.2 d a c):Ka r b t d a c w (.returned (.tuple #[])) w':=by
 subst h;exact⟨e,rfl,f⟩
theorem Ku.cases{r:Qb Nat}{w w':World}{e:Ending}(h:Ku r w e w') :
 (∃ n,r=.ok n/\e=.returned (.int .i64 n)/\w'=w)\/(∃ f,r=.error f/\Z5 f w e w'/\Below w.heap.size w w'):=by
 cases r with
 |ok n=>exact Qd ⟨n,rfl,h⟩
 |error f=>exact Qc ⟨f,rfl,h⟩
theorem Zq.cases{r:Qb (Wd×Nat)}{w w':World}{e:Ending}(h:Zq r w e w') :
 (∃ y,r=.ok y/\e=.returned (.tuple #[wdV y.1,.int .i64 y.2])/\Below w.heap.size w w')\/(∃ f,r=.error f/\Z5 f w e w'/\Below w.heap.size w w'):=by
 cases r with
 |ok n=>exact Qd ⟨n,rfl,h.2,h.1⟩
 |error f=>exact Qc ⟨f,rfl,h.2,h.1⟩
theorem Mf(h:QW (l.length+1) (l.drop p) p=.error f):nL l p=.error f:=by
 unfold nL;rw[h]
theorem AZ(h:QW (l.length+1) (l.drop p) p=.ok n):nL l p=QV (l.drop n) n:=by
 unfold nL;rw[h]
theorem RAt.put{t:ByteArray}(h:RAt w b t x p rv mc mt)(y:Wd)(q:Nat) :
 RAt ((((((w.setCell ⟨b,1,none⟩ (.int .i64 y.kind)).setCell ⟨b,2,none⟩ (.int .i64 y.pos)).setCell ⟨b,3,none⟩ (.string ⟨y.spelt.toArray⟩)).setCell ⟨b,4,none⟩ (.string ⟨y.said.toArray⟩)).setCell ⟨b,5,none⟩ (.int .i64 y.num)).setCell ⟨b,6,none⟩ (.int .i64 q)) b t y q rv mc mt:=
 Qv _ _ _ _ _ _ (Qv _ _ _ _ _ _ (Qv _ _ _ _ _ _ (Qv _ _ _ _ _ _ (Qv _ _ _ _ _ _ (Qv _ _ _ _ _ _ h)))))
theorem Mod.six{u:World}(h:Mod b u w)(o1 o2 o3 o4 o5 o6:Nat)(v1 v2 v3 v4 v5 v6:Value) :
 Mod b u ((((((w.setCell ⟨b,o1,none⟩ v1).setCell ⟨b,o2,none⟩ v2).setCell ⟨b,o3,none⟩ v3).setCell ⟨b,o4,none⟩ v4).setCell ⟨b,o5,none⟩ v5).setCell ⟨b,o6,none⟩ v6):=
 (((((h.setCell _ _).setCell _ _).setCell _ _).setCell _ _).setCell _ _).setCell _ _
theorem Mg(b:Nat)(t:ByteArray)(x:Wd)(p:Nat)(A:Value)(v z:Nat)(m:Int)(w:World)(u:t.size<=4294967280)(s:p<=t.size)(g:RAt w b t x p A v z)(L:w.cell? ⟨1,0,none⟩=some (.int .i64 m)) :
 Calls prog 141 #[.pointer (some ⟨b,0,none⟩)] w (Ka (nL t.data.toList p) b t A v z w):=by
 have k:=g.cell;have R:=g.frozen;have P:w.cell? ⟨b,0,none⟩=some (.string t):=k 0;have Q:w.cell? ⟨b,6,none⟩=some (.int .i64 p):=k 6;have B:=I g;clear k g;go_enter func141,ntmps141;go_wp2_with fail;go_region_with (first|(go_at_call 194;refine(LN t p (t.data.toList.length+1) m _ u s (by simp;omega) (by simpa using L)).mono ?_;intro e M J;rcases J.cases with⟨n,d,rfl,rfl⟩ | ⟨f,d,⟨j,q,rfl,l⟩,c⟩;rotate_left;exact⟨rfl,Ka.err (Mf d) (Mod.of_below (UZ c)) ⟨j,q,rfl,l⟩⟩;skip)|(go_at_call 193;refine(Md t _ _ u (by have:=(Kb _ _ _ _ (by simpa using s) d).2;simpa using this)).mono ?_;intro e M K;rcases K.cases with⟨y,i,rfl,c⟩ | ⟨f,i,⟨j,q,rfl,l⟩,c⟩;rotate_left;exact⟨rfl,Ka.err ((AZ d).trans i) (Mod.of_below (UZ c)) ⟨j,q,rfl,l⟩⟩;have a:=B.o.mod (UZ c);have C:=a.cell 1;have D:=a.cell 2;have E:=a.cell 3;have F:=a.cell 4;have G:=a.cell 5;have H:=a.cell 6;simp only[Nx]at C D E F G H;have N:=a.frozen;have r:=I a;clear a;unfold wdV;skip))
 all_goals
  go_end0
  first
   |exact Ka.ok ((AZ d).trans i) ((Mod.of_below (UZ c)).six _ _ _ _ _ _ _ _ _ _ _ _) (r.o.put _ _)
   |exact Ka.ok ((AZ d).trans i) ((Mod.of_below (UZ c)).six _ _ _ _ _ _ _ _ _ _ _ _) (r.o.put' _ _)
end
section
open Go.RowKit
theorem C2(zs:Qa)(j:Nat)(h:j<zs.length):(zs.map sA).getD j ByteArray.empty=sA (zs.getD j []):=by
 simp[List.getD_eq_getElem?_getD,h]
theorem Ny(b g n c:Nat)(zs:Qa)(t:ByteArray)(x:Wd)(p:Nat)(l:Value)(i k:Nat)(w:World)(f:RAt w b t x p l i k)(hz:Zm w g zs)(hn:n=zs.length)(q:zs.length<=1000) :
 Calls prog 219 #[.pointer (some ⟨b,0,none⟩),.slice (some ⟨g,0,none⟩) n c] w fun e w'=>e=.returned (.int .i64 (wL zs x.spelt))/\w'=w:=by
 have m:w.cell? ⟨b,3,none⟩=some (.string (sA x.spelt)):=f.cell 3;have r:=YU zs x.spelt
 have hi:=Tryz.slices_Index_string g 0 n c (zs.map sA) (sA x.spelt) w (by simp [hn]) (by omega) (fun j hj=>by
  have hj':j<zs.length:=by simpa using hj
  rw [Nat.zero_add,C2 _ _ hj'];exact hz j hj')
 rw[hn,List.take_of_length_le (by simp)]at hi;have e:=C3 zs x.spelt;have a:Lib.idxOfS (zs.map sA) (sA x.spelt)=(wL zs x.spelt:Int) - 1:=by omega
 rw[a]at hi;clear e a;have d:=I hi;clear hi;subst hn;go_enter func219,ntmps219;go_wp2_with (go_at_call 100;refine d.o.mono ?_;rintro e w' ⟨rfl,rfl⟩);go_ret;exact⟨Ji (by omega),rfl⟩
theorem ZE(b:Nat)(B:Bool)(a:Int)(w:World)(c:B=true) :
 Calls prog 192 #[.pointer (some ⟨b,0,none⟩),.bool B,.int .i64 a] w fun e w'=>e=.returned (.tuple #[])/\w'=w:=by
 subst c;go_enter func192,ntmps192;go_wp2;go_end0;exact⟨rfl,rfl⟩
theorem XP(b a:Nat)(B:Bool)(E:Int)(t:ByteArray)(x:Wd)(p:Nat)(j:Value)(g i:Nat)(w:World)(c:RAt w b t x p j g i)(d:B=false)(f:E=a) :
 Calls prog 192 #[.pointer (some ⟨b,0,none⟩),.bool B,.int .i64 E] w fun e w'=>Z5 ⟨a,x.pos⟩ w e w'/\Below w.heap.size w w':=by
 subst d;subst f;have k:w.cell? ⟨b,2,none⟩=some (.int .i64 x.pos):=c.cell 2;clear c;go_enter func192,ntmps192;go_wp2_with (go_at_call 103;refine(X9 _ _ _).mono ?_;rintro e w' ⟨rfl,rfl⟩);exact⟨rfl,Jy a x.pos Qt rfl,Qs _⟩
structure RC (w:World) (b:Nat) (t:ByteArray) (s:PS) (rv:Value) (mc mt:Nat):Prop where
 at_:RAt w b t s.1 s.2 rv mc mt
 le:s.2<=t.size
 m:∃ m,w.cell? ⟨1,0,none⟩=some (.int .i64 m)
 b1:1 < b
 hs:t.size<=600
 sz:s.1.said.length<=600∧s.1.num<=2147483647
 e0:s.1.kind=0->s.1.spelt=[]
 nm:¬ s.1.kind=1->VF s.1.spelt
theorem RC.step{t:ByteArray}{s s':PS}{l:Value}{c:Nat}(h:RC w b t s l a c)(g:Mod b w w')(e:RAt w' b t s'.1 s'.2 d a c)(f:s'.2<=t.size)(k:s'.1.said.length<=600/\s'.1.num<=2147483647)(he:s'.1.kind=0->s'.1.spelt=[])(j:¬ s'.1.kind=1->VF s'.1.spelt):RC w' b t s' d a c:=by
 refine⟨e,f,?_,h.b1,h.hs,k,he,j⟩;obtain⟨m,i⟩:=h.m;have:=h.at_.lt;exact⟨m,by rw[g.cell (p:=⟨1,0,none⟩) (by show 1<_;have:=h.b1;omega) (by show 1≠b;have:=h.b1;omega)];exact i⟩
theorem RC.below{t:ByteArray}{s:PS}(h:RC w b t s rv mc mt)(hb:Below w.heap.size w w'):RC w' b t s rv mc mt:=
 h.step (Mod.of_below hb) (h.at_.mod hb) h.le h.sz h.e0 h.nm
theorem RC.alloc{w:World}{b:Nat}{t:ByteArray}{s:PS}{rv:Value}{mc mt:Nat}(h:RC w b t s rv mc mt)(o:Obj):RC (w.alloc o) b t s rv mc mt:=
 h.below (Qs _)
theorem RC.drew{w:World}{b:Nat}{t:ByteArray}{s:PS}{rv:Value}{mc mt:Nat}(h:RC w b t s rv mc mt):RC w.drew b t s rv mc mt:=
 ⟨h.at_,h.le,h.m,h.b1,h.hs,h.sz,h.e0,h.nm⟩
def Qg{α:Type}(r:Qb (α×PS))(b:Nat)(t:ByteArray)(rv:Value)(mc mt:Nat)(w:World)(val:α->World->Value->Prop)(e:Ending)(w':World):Prop:=
 Mod b w w'/\
 match r with
 | .ok y=>(∃ v,e=.returned v/\val y.1 w' v)/\RC w' b t y.2 rv mc mt
 | .error f=>Z5 f w e w'
theorem Qg.cases{α:Type}{r:Qb (α×PS)}{b:Nat}{t:ByteArray}{g:Value}{c d:Nat}{w w':World}{i:α->World->Value->Prop}{e:Ending}(h:Qg r b t g c d w i e w') :
 (∃ y v,r=.ok y/\e=.returned v/\i y.1 w' v/\RC w' b t y.2 g c d/\Mod b w w')\/(∃ f,r=.error f/\Z5 f w e w'/\Mod b w w'):=by
 obtain⟨a,h⟩:=h
 cases r with
 |ok y=>obtain⟨⟨v,he,k⟩,j⟩:=h;exact Qd ⟨y,v,rfl,he,k,j,a⟩
 |error f=>exact Qc ⟨f,rfl,h,a⟩
theorem Qg.ok{α:Type}{r:Qb (α×PS)}{b:Nat}{t:ByteArray}{d:Value}{a c:Nat}{w w':World}{e:α->World->Value->Prop}{v:Value}{y:α×PS}(h:r=.ok y)(g:Mod b w w')(i:e y.1 w' v)(f:RC w' b t y.2 d a c):Qg r b t d a c w e (.returned v) w':=by
 subst h;exact⟨g,⟨v,rfl,i⟩,f⟩
theorem Qg.err{α:Type}{r:Qb (α×PS)}{t:ByteArray}{i:Value}{d:Nat}{j:α->World->Value->Prop}(h:r=.error f)(a:Mod b w w')(c:Z5 f w e w'):Qg r b t i d g w j e w':=by
 subst h;exact⟨a,c⟩
theorem Ka.cases{r:Qb PS}{b:Nat}{t:ByteArray}{g:Value}{c d:Nat}{w w':World}{e:Ending}(h:Ka r b t g c d w e w') :
 (∃ y,r=.ok y/\e=.returned (.tuple #[])/\RAt w' b t y.1 y.2 g c d/\Mod b w w')\/(∃ f,r=.error f/\Z5 f w e w'/\Mod b w w'):=by
 obtain⟨a,h⟩:=h
 cases r with
 |ok y=>exact Qd ⟨y,rfl,h.1,h.2,a⟩
 |error f=>exact Qc ⟨f,rfl,h,a⟩
theorem Jk(b:Nat)(t:ByteArray)(s:PS)(g:Value)(c d:Nat)(w:World)(h:RC w b t s g c d) :
 Calls prog 141 #[.pointer (some ⟨b,0,none⟩)] w fun e w'=>
  (∃ y,nL t.data.toList s.2=.ok y/\e=.returned (.tuple #[])/\RC w' b t y g c d/\Mod b w w')\/(∃ f,nL t.data.toList s.2=.error f/\Z5 f w e w'/\Mod b w w'):=by
 obtain⟨m,l⟩:=h.m;refine(Mg b t s.1 s.2 g c d m w (by have:=h.hs;omega) h.le h.at_ l).mono ?_;intro e w' n;rcases n.cases with⟨y,a,he,k,i⟩|hf
 ·refine Qd ⟨y,a,he,h.step i k ?_ ?_ (U0 t.data.toList s.2 (by simpa using h.le) y a).2.2.2.1 (Mh t.data.toList s.2 y a),i⟩
  ·have:=(U0 t.data.toList s.2 (by simpa using h.le) y a).2.1;simpa using this
  ·have j:=C4 t.data.toList s.2 y a;have o:=h.hs;have p:t.data.toList.length=t.size:=by simp
   exact⟨by omega,j.2⟩
 ·exact Qc hf
theorem Mi{s:PS}(h:wL zs s.1.spelt=0):mayL l zs s=.ok (0,s):=by unfold mayL;rw[if_pos h]
theorem Mj{s:PS}(h:¬ wL zs s.1.spelt=0)(a:nL l s.2=.ok y):mayL l zs s=.ok (wL zs s.1.spelt,y):=by unfold mayL;rw[if_neg h,a]
theorem Mk{s:PS}(h:¬ wL zs s.1.spelt=0)(a:nL l s.2=.error f):mayL l zs s=.error f:=by unfold mayL;rw[if_neg h,a]
theorem Ml{s:PS}(h:wL zs s.1.spelt=0):paL l zs s=.error ⟨4,s.1.pos⟩:=by unfold paL;rw[if_pos h]
theorem Mm{s:PS}(h:¬ wL zs s.1.spelt=0)(a:nL l s.2=.ok y):paL l zs s=.ok (wL zs s.1.spelt,y):=by unfold paL;rw[if_neg h,a]
theorem Mn{s:PS}(h:¬ wL zs s.1.spelt=0)(a:nL l s.2=.error f):paL l zs s=.error f:=by unfold paL;rw[if_neg h,a]
def XY(i:Nat)(_:World)(v:Value):Prop:=v=.int .i64 i
theorem VG(b g n c:Nat)(zs:Qa)(t:ByteArray)(s:PS)(k:Value)(i j:Nat)(w:World)(h:RC w b t s k i j)(d:Zm w g zs)(m:n=zs.length)(u:zs.length<=1000) :
 Calls prog 180 #[.pointer (some ⟨b,0,none⟩),.slice (some ⟨g,0,none⟩) n c] w (Qg (mayL t.data.toList zs s) b t k i j w XY):=by
 have p:=I (Ny b g n c zs t s.1 s.2 k i j w h.at_ d m u);have x:=YU zs s.1.spelt;have H:=I h;clear d m;by_cases h0:wL zs s.1.spelt=0
 ·have r:¬(0:Int)<(wL zs s.1.spelt:Int):=by omega
  have q:=I (Mi (l:=t.data.toList) h0);have a:=I h0;clear h0 h;go_enter func180,ntmps180;go_wp2_with (go_at_call 219;refine p.o.mono ?_;rintro e v ⟨rfl,rfl⟩);go_ret;exact Qg.ok q.o (Mod.refl _ _) (by unfold XY;rw[a.o];rfl) H.o
 ·have r:(0:Int)<(wL zs s.1.spelt:Int):=by omega
  have a:=I h0;clear h0 h;go_enter func180,ntmps180;go_wp2_with (go_at_call 219;refine p.o.mono ?_;rintro e v ⟨rfl,rfl⟩);refine(Jk b t s k i j _ H.o).mono ?_;rintro e z (⟨y,hy,rfl,hc,hm⟩ | ⟨f,hf,⟨bb,d,rfl,hcc⟩,hm⟩)
  ·go_wp2;go_ret;exact Qg.ok (Mj a.o hy) hm rfl hc
  ·exact⟨rfl,Qg.err (Mk a.o hf) hm ⟨bb,d,rfl,hcc⟩⟩
theorem Kc(b g n c:Nat)(zs:Qa)(t:ByteArray)(s:PS)(k:Value)(i j:Nat)(w:World)(h:RC w b t s k i j)(a:Zm w g zs)(r:n=zs.length)(A:zs.length<=1000) :
 Calls prog 177 #[.pointer (some ⟨b,0,none⟩),.slice (some ⟨g,0,none⟩) n c] w (Qg (paL t.data.toList zs s) b t k i j w XY):=by
 have u:=I (Ny b g n c zs t s.1 s.2 k i j w h.at_ a r A);have C:=YU zs s.1.spelt;have H:=I h;clear a r;by_cases h0:wL zs s.1.spelt=0
 ·have z:¬(0:Int)<(wL zs s.1.spelt:Int):=by omega
  have x:=I (Ml (l:=t.data.toList) h0);have m:=I h0;clear h0 h;go_enter func177,ntmps177;go_wp2_with (go_at_call 219;refine u.o.mono ?_;rintro e v ⟨rfl,rfl⟩);refine(XP b 4 _ _ t s.1 s.2 k i j _ H.o.at_ (by simp;omega) rfl).mono ?_;rintro e B ⟨⟨p,a,rfl,q⟩,d⟩;exact⟨rfl,Qg.err x.o (Mod.of_below d) ⟨p,a,rfl,q⟩⟩
 ·have z:(0:Int)<(wL zs s.1.spelt:Int):=by omega
  have m:=I h0;clear h0 h;go_enter func177,ntmps177;go_wp2_with (go_at_call 219;refine u.o.mono ?_;rintro e v ⟨rfl,rfl⟩);refine(ZE b _ _ _ (by simp;omega)).mono ?_;rintro e v ⟨rfl,rfl⟩;go_wp2_with fail;refine(Jk b t s k i j _ H.o).mono ?_;rintro e B (⟨y,hy,rfl,hc,d⟩ | ⟨f,hf,⟨p,a,rfl,q⟩,d⟩)
  ·go_wp2;go_ret;exact Qg.ok (Mm m.o hy) d rfl hc
  ·exact⟨rfl,Qg.err (Mn m.o hf) d ⟨p,a,rfl,q⟩⟩
def C5(_:L8):Nat:=0
def KW(x:L8):Nat:=if isNameL x then 0 else 7
def XQ(er:Nat)(zs:Qa)(x:L8):Nat:=if 0<wL zs x then 0 else er
def KX(c:L8->Nat)(x:L8):Nat:=c (zL x)
theorem Mo(x:L8):(sA x).data.toList=x:=rfl
theorem Mp(s:ByteArray)(w:World):Calls prog 134 #[.string s] w fun e w'=>e=.returned (.int .i64 0)/\w'=w:=by
 go_enter func134,ntmps134;go_wp2;go_ret;exact⟨rfl,rfl⟩
theorem Mq(x:L8)(w:World)(j:x.length<=1000) :
 Calls prog 221 #[.string (sA x)] w fun e w'=>e=.returned (.bool (isNameL x))/\w'=w:=by
 have i:=VE x;have c:(sA x).size=x.length:=rfl;have f:=I (No (sA x) w (by rw[c];unfold maxLen;omega));by_cases h0:x.length=0
 ·have g:x=[]:=XB h0;subst g;have b:(sA []).toList=[]:=AM rfl;have d:(sA []).toList.isEmpty=true:=by rw[b];rfl
  go_enter func221,ntmps221;go_wp2;go_ret;exact⟨rfl,rfl⟩
 ·have b:¬(sA x).toList=[]:=CV (by rw[c];exact h0);have d:(sA x).toList.isEmpty=false:=by simpa using b
  go_enter func221,ntmps221;go_wp2_with (go_at_call 226;refine f.o.mono ?_;rintro e w' ⟨rfl,rfl⟩);go_ret;refine⟨Zs ?_,rfl⟩;rw[Mo];unfold isNameL
  have:x.isEmpty=false:=by
   cases x with
   |nil=>exact absurd rfl h0
   |cons a r=>rfl
  rw[this,Zh];simp;omega
theorem Mr(x:L8)(w:World)(c:x.length<=1000) :
 Calls prog 182 #[.string (sA x)] w fun e w'=>e=.returned (.int .i64 (KW x))/\w'=w:=by
 have b:=I (Mq x w c);cases h:isNameL x
 ·have a:Hid (KW x=7):=by show _=_;unfold KW;rw[h];rfl
  go_enter func182,ntmps182;go_wp2_with (go_at_call 221;refine b.o.mono ?_;rintro e w' ⟨rfl,rfl⟩);go_ret;exact⟨Ji (by rw[a.o];rfl),rfl⟩
 ·have a:Hid (KW x=0):=by show _=_;unfold KW;rw[h];rfl
  go_enter func182,ntmps182;go_wp2_with (go_at_call 221;refine b.o.mono ?_;rintro e w' ⟨rfl,rfl⟩);go_ret;exact⟨Ji (by rw[a.o];rfl),rfl⟩
theorem C6(g n c:Nat)(zs:Qa)(x:L8)(w:World)(hz:Zm w g zs)(hn:n=zs.length)(a:zs.length<=1000) :
 Calls prog 64 #[.slice (some ⟨g,0,none⟩) n c,.string (sA x)] w fun e w'=>e=.returned (.bool (decide (0<wL zs x)))/\w'=w:=by
 have hi:=Tryz.slices_Contains_string g 0 n c (zs.map sA) (sA x) w (by simp [hn]) (by omega) (fun j hj=>by
  have hj':j<zs.length:=by simpa using hj
  rw [Nat.zero_add,C2 _ _ hj'];exact hz j hj')
 rw[hn,List.take_of_length_le (by simp),Ms]at hi;rw[hn];exact hi
def Kd(w:World)(p1 p2 g n c er:Nat)(zs:Qa):Prop:=
 w.cell? ⟨p1,0,none⟩=some (.slice (some ⟨g,0,none⟩) n c)/\w.cell? ⟨p2,0,none⟩=some (.int .i64 er)/\Zm w g zs/\n=zs.length/\zs.length<=1000
theorem C7(p1 p2 g n c a:Nat)(zs:Qa)(x:L8)(w:World)(h:Kd w p1 p2 g n c a zs) :
 Calls prog 190 #[.string (sA x),.pointer (some ⟨p1,0,none⟩),.pointer (some ⟨p2,0,none⟩)] w fun e w'=>e=.returned (.int .i64 (XQ a zs x))/\w'=w:=by
 obtain⟨l,m,j,i,k⟩:=h;have b:=I (C6 g n c zs x w j i k);clear j i;by_cases h:0<wL zs x
 ·have d:Hid (XQ a zs x=0):=by show _=_;unfold XQ;rw[if_pos h]
  have f:decide (0<wL zs x)=true:=by simpa using h
  rw[f]at b;go_enter func190,ntmps190;go_wp2_with (go_at_call 64;refine b.o.mono ?_;rintro e w' ⟨rfl,rfl⟩);go_ret;exact⟨Ji (by rw[d.o];rfl),rfl⟩
 ·have d:Hid (XQ a zs x=a):=by show _=_;unfold XQ;rw[if_neg h]
  have f:decide (0<wL zs x)=false:=by simpa using h
  rw[f]at b;go_enter func190,ntmps190;go_wp2_with (go_at_call 64;refine b.o.mono ?_;rintro e w' ⟨rfl,rfl⟩);go_ret;exact⟨Ji (by rw[d.o]),rfl⟩
theorem A0(a:Int)(g n c:Nat)(w:World) :
 Calls prog 137 #[.int .i64 a,.slice (some ⟨g,0,none⟩) n c] w fun e w'=>e=.returned (.func (.func 190) #[] #[.pointer (some ⟨w.heap.size+1,0,none⟩),.pointer (some ⟨w.heap.size,0,none⟩)])/\w'=(w.alloc (.cells #[.int .i64 a] 33)).alloc (.cells #[.slice (some ⟨g,0,none⟩) n c] 61):=by
 have b:∀(fn:Fn) (first cap:Array Value) (w:World),(Instr.makeFunc fn first cap).run prog w=.ok (.func fn first cap) w:=fun _ _ _ _=>rfl
 go_enter func137,ntmps137;go_wp2;go_ret;exact⟨rfl,rfl⟩
theorem Mt(f:Nat)(a b:Value)(w:World) :
 Calls prog 136 #[.func (.func f) #[] #[a,b]] w fun e w'=>e=.returned (.func (.func 189) #[] #[.pointer (some ⟨w.heap.size,0,none⟩)])/\w'=w.alloc (.cells #[.func (.func f) #[] #[a,b]] 229):=by
 have c:∀(fn:Fn) (first cap:Array Value) (w:World),(Instr.makeFunc fn first cap).run prog w=.ok (.func fn first cap) w:=fun _ _ _ _=>rfl
 go_enter func136,ntmps136;go_wp2;go_ret;exact⟨rfl,rfl⟩
def VH(w:World)(q p1 p2 g n c er:Nat)(zs:Qa):Prop:=
 w.cell? ⟨q,0,none⟩=some (.func (.func 190) #[] #[.pointer (some ⟨p1,0,none⟩),.pointer (some ⟨p2,0,none⟩)])/\Kd w p1 p2 g n c er zs
theorem Zm.below(h:Zm w g zs)(a:Below w.heap.size w w'):Zm w' g zs:=fun j hj=>by
 have:=h j hj;rw[a.cell (p:=⟨g,j,none⟩) (QI this)];exact this
theorem Kd.below{w w':World}{p1 p2 g n c b:Nat}{zs:Qa}(h:Kd w p1 p2 g n c b zs)(a:Below w.heap.size w w'):Kd w' p1 p2 g n c b zs:=by
 obtain⟨d,e,f,i,j⟩:=h;exact⟨by rw[a.cell (p:=⟨p1,0,none⟩) (QI d)];exact d,by rw[a.cell (p:=⟨p2,0,none⟩) (QI e)];exact e,f.below a,i,j⟩
theorem Mu(q p1 p2 g n c a:Nat)(zs:Qa)(x:L8)(w:World)(h:VH w q p1 p2 g n c a zs)(m:x.length<=1000) :
 Calls prog 189 #[.string (sA x),.pointer (some ⟨q,0,none⟩)] w fun e w'=>e=.returned (.int .i64 (KX (XQ a zs) x))/\Below w.heap.size w w':=by
 obtain⟨j,f⟩:=h;have i:=I f;have d:=I j;clear f;have k:=I (fun W=>AO (sA x) W (by rw[Zr];omega));go_enter func189,ntmps189;go_wp2_with fail;go_region_with (first|(go_at_call 181;refine(k.o _).mono ?_;rintro e r ⟨rfl,b⟩;have l:=(b.cell (p:=⟨q,0,none⟩) (QI d.o)).trans d.o;skip)|(go_at_call 190;refine(C7 p1 p2 g n c a zs (zL x) _ (i.o.below (UZ b))).mono ?_;rintro e s ⟨rfl,rfl⟩;skip))
 all_goals go_wp2
 all_goals go_ret
 all_goals exact⟨rfl,UZ b⟩
def JW(x:L8)(_:World)(v:Value):Prop:=v=.string (sA x)
theorem Nz{s:PS}(h:¬ s.1.kind=5):sL l chk s=.error ⟨4,s.1.pos⟩:=by unfold sL;rw[if_neg h]
theorem A1{s:PS}(h:s.1.kind=5)(a:¬ chk s.1.said=0):sL l chk s=.error ⟨chk s.1.said,s.1.pos⟩:=by unfold sL;rw[if_pos h,if_neg a]
theorem NA{s:PS}(h:s.1.kind=5)(a:chk s.1.said=0)(b:nL l s.2=.ok y):sL l chk s=.ok (s.1.said,y):=by unfold sL;rw[if_pos h,if_pos a,b]
theorem NB{s:PS}(h:s.1.kind=5)(a:chk s.1.said=0)(b:nL l s.2=.error f):sL l chk s=.error f:=by unfold sL;rw[if_pos h,if_pos a,b]
theorem A2(b:Nat)(t:ByteArray)(s:PS)(g:Value)(c d:Nat)(w:World)(h:RC w b t s g c d) :
 Calls prog 179 #[.pointer (some ⟨b,0,none⟩),.func (.func 134) #[] #[]] w (Qg (sL t.data.toList C5 s) b t g c d w JW):=by
 have u:=Qo h.at_;have v:=QJ h.at_;have H:=I h;clear h;by_cases hk:s.1.kind=5;rotate_left
 ·have n:=I (Nz (l:=t.data.toList) (chk:=C5) hk);have p:((s.1.kind:Int)==5)=false:=by simp;omega
  clear hk;go_enter func179,ntmps179;go_wp2_with fail;refine(XP b 4 _ _ t s.1 s.2 g c d _ H.o.at_ rfl rfl).mono ?_;rintro e r ⟨⟨i,k,rfl,j⟩,a⟩;exact⟨rfl,Qg.err n.o (Mod.of_below a) ⟨i,k,rfl,j⟩⟩
 have p:((s.1.kind:Int)==5)=true:=by simp;omega
 have m:=I hk;clear hk;go_enter func179,ntmps179;go_wp2_with fail;refine(ZE b _ _ _ rfl).mono ?_;rintro e q ⟨rfl,rfl⟩;go_wp2_with fail;refine(Mp _ _).mono ?_;rintro e r ⟨rfl,rfl⟩;go_wp2_with fail;refine(ZE b _ _ _ (by rfl)).mono ?_;rintro e q ⟨rfl,rfl⟩;go_wp2_with fail;refine(Jk b t s g c d _ H.o).mono ?_;rintro e x (⟨y,hy,rfl,hc,a⟩ | ⟨f,hf,⟨i,k,rfl,j⟩,a⟩)
 ·go_wp2;go_ret;exact Qg.ok (NA m.o rfl hy) a rfl hc
 ·exact⟨rfl,Qg.err (NB m.o rfl hf) a ⟨i,k,rfl,j⟩⟩
theorem Mv(b:Nat)(t:ByteArray)(s:PS)(k:Value)(i j:Nat)(w:World)(h:RC w b t s k i j) :
 Calls prog 179 #[.pointer (some ⟨b,0,none⟩),.func (.func 182) #[] #[]] w (Qg (sL t.data.toList KW s) b t k i j w JW):=by
 have x:=Qo h.at_;have z:=QJ h.at_;have H:=I h;clear h;by_cases hk:s.1.kind=5;rotate_left
 ·have n:=I (Nz (l:=t.data.toList) (chk:=KW) hk);have q:((s.1.kind:Int)==5)=false:=by simp;omega
  clear hk;go_enter func179,ntmps179;go_wp2_with fail;refine(XP b 4 _ _ t s.1 s.2 k i j _ H.o.at_ rfl rfl).mono ?_;rintro e u ⟨⟨c,g,rfl,d⟩,a⟩;exact⟨rfl,Qg.err n.o (Mod.of_below a) ⟨c,g,rfl,d⟩⟩
 have q:((s.1.kind:Int)==5)=true:=by simp;omega
 have p:=I hk;clear hk;go_enter func179,ntmps179;go_wp2_with fail;refine(ZE b _ _ _ rfl).mono ?_;rintro e r ⟨rfl,rfl⟩;go_wp2_with fail;refine(Mr _ _ (by have:=H.o.sz.1;omega)).mono ?_;rintro e u ⟨rfl,rfl⟩;generalize hC:KW s.1.said=C;have m:=I hC;clear hC;by_cases hc:C=0;rotate_left
 ·have n:=I (A1 (l:=t.data.toList) (chk:=KW) p.o (by rw[m.o];exact hc));rw[m.o]at n;have A:((C:Int)==0)=false:=by simp;omega
  clear hc;go_wp2_with fail;refine(XP b C _ _ t s.1 s.2 k i j _ H.o.at_ rfl rfl).mono ?_;rintro e v ⟨⟨c,g,rfl,d⟩,a⟩;exact⟨rfl,Qg.err n.o (Mod.of_below a) ⟨c,g,rfl,d⟩⟩
 subst hc;go_wp2_with fail;refine(ZE b _ _ _ (by rfl)).mono ?_;rintro e r ⟨rfl,rfl⟩;go_wp2_with fail;refine(Jk b t s k i j _ H.o).mono ?_;rintro e v (⟨y,hy,rfl,hc,a⟩ | ⟨f,hf,⟨c,g,rfl,d⟩,a⟩)
 ·go_wp2;go_ret;exact Qg.ok (NA p.o m.o hy) a rfl hc
 ·exact⟨rfl,Qg.err (NB p.o m.o hf) a ⟨c,g,rfl,d⟩⟩
theorem C8(p1 p2 g n c d:Nat)(zs:Qa)(b:Nat)(t:ByteArray)(s:PS)(q:Value)(m p:Nat)(w:World)(h:RC w b t s q m p)(x:Kd w p1 p2 g n c d zs) :
 Calls prog 179 #[.pointer (some ⟨b,0,none⟩),.func (.func 190) #[] #[.pointer (some ⟨p1,0,none⟩),.pointer (some ⟨p2,0,none⟩)]] w (Qg (sL t.data.toList (XQ d zs) s) b t q m p w JW):=by
 have F:=Qo h.at_;have G:=QJ h.at_;have H:=I h;clear h;have z:=I x;clear x;by_cases hk:s.1.kind=5;rotate_left
 ·have u:=I (Nz (l:=t.data.toList) (chk:=(XQ d zs)) hk);have A:((s.1.kind:Int)==5)=false:=by simp;omega
  clear hk;go_enter func179,ntmps179;go_wp2_with fail;refine(XP b 4 _ _ t s.1 s.2 q m p _ H.o.at_ rfl rfl).mono ?_;rintro e D ⟨⟨i,k,rfl,j⟩,a⟩;exact⟨rfl,Qg.err u.o (Mod.of_below a) ⟨i,k,rfl,j⟩⟩
 have A:((s.1.kind:Int)==5)=true:=by simp;omega
 have v:=I hk;clear hk;go_enter func179,ntmps179;go_wp2_with fail;refine(ZE b _ _ _ rfl).mono ?_;rintro e B ⟨rfl,rfl⟩;go_wp2_with fail;refine(C7 p1 p2 g n c d zs _ _ z.o).mono ?_;rintro e D ⟨rfl,rfl⟩;generalize hC:(XQ d zs) s.1.said=C;have r:=I hC;clear hC;by_cases hc:C=0;rotate_left
 ·have u:=I (A1 (l:=t.data.toList) (chk:=(XQ d zs)) v.o (by rw[r.o];exact hc));rw[r.o]at u;have J:((C:Int)==0)=false:=by simp;omega
  clear hc;go_wp2_with fail;refine(XP b C _ _ t s.1 s.2 q m p _ H.o.at_ rfl rfl).mono ?_;rintro e E ⟨⟨i,k,rfl,j⟩,a⟩;exact⟨rfl,Qg.err u.o (Mod.of_below a) ⟨i,k,rfl,j⟩⟩
 subst hc;go_wp2_with fail;refine(ZE b _ _ _ (by rfl)).mono ?_;rintro e B ⟨rfl,rfl⟩;go_wp2_with fail;refine(Jk b t s q m p _ H.o).mono ?_;rintro e E (⟨y,hy,rfl,hc,a⟩ | ⟨f,hf,⟨i,k,rfl,j⟩,a⟩)
 ·go_wp2;go_ret;exact Qg.ok (NA v.o r.o hy) a rfl hc
 ·exact⟨rfl,Qg.err (NB v.o r.o hf) a ⟨i,k,rfl,j⟩⟩
theorem Mw(q p1 p2 g n c d:Nat)(zs:Qa)(b:Nat)(t:ByteArray)(s:PS)(u:Value)(p r:Nat)(w:World)(h:RC w b t s u p r)(D:VH w q p1 p2 g n c d zs) :
 Calls prog 179 #[.pointer (some ⟨b,0,none⟩),.func (.func 189) #[] #[.pointer (some ⟨q,0,none⟩)]] w (Qg (sL t.data.toList (KX (XQ d zs)) s) b t u p r w JW):=by
 have M:=Qo h.at_;have G:=QJ h.at_;have H:=I h;clear h;have F:=I D;clear D;by_cases hk:s.1.kind=5;rotate_left
 ·have x:=I (Nz (l:=t.data.toList) (chk:=(KX (XQ d zs))) hk);have J:((s.1.kind:Int)==5)=false:=by simp;omega
  clear hk;go_enter func179,ntmps179;go_wp2_with fail;refine(XP b 4 _ _ t s.1 s.2 u p r _ H.o.at_ rfl rfl).mono ?_;rintro e E ⟨⟨j,m,rfl,k⟩,a⟩;exact⟨rfl,Qg.err x.o (Mod.of_below a) ⟨j,m,rfl,k⟩⟩
 have J:((s.1.kind:Int)==5)=true:=by simp;omega
 have A:=I hk;clear hk;go_enter func179,ntmps179;go_wp2_with fail;refine(ZE b _ _ _ rfl).mono ?_;rintro e K ⟨rfl,rfl⟩;go_wp2_with fail;refine(Mu q p1 p2 g n c d zs _ _ F.o (by have:=H.o.sz.1;omega)).mono ?_;rintro e E ⟨rfl,B⟩;have z:=I (H.o.below B);have i:=I (Mod.of_below (b:=b) B);have G:=QJ z.o.at_;clear B;generalize hC:(KX (XQ d zs)) s.1.said=C;have v:=I hC;clear hC;by_cases hc:C=0;rotate_left
 ·have x:=I (A1 (l:=t.data.toList) (chk:=(KX (XQ d zs))) A.o (by rw[v.o];exact hc));rw[v.o]at x;have N:((C:Int)==0)=false:=by simp;omega
  clear hc;go_wp2_with fail;refine(XP b C _ _ t s.1 s.2 u p r _ z.o.at_ rfl rfl).mono ?_;rintro e L ⟨⟨j,m,rfl,k⟩,a⟩;exact⟨rfl,Qg.err x.o (i.o.trans (Mod.of_below a)) ⟨j,Qm i.o.size m,rfl,k⟩⟩
 subst hc;go_wp2_with fail;refine(ZE b _ _ _ (by rfl)).mono ?_;rintro e K ⟨rfl,rfl⟩;go_wp2_with fail;refine(Jk b t s u p r _ z.o).mono ?_;rintro e L (⟨y,hy,rfl,hc,a⟩ | ⟨f,hf,⟨j,m,rfl,k⟩,a⟩)
 ·go_wp2;go_ret;exact Qg.ok (NA A.o v.o hy) (i.o.trans a) rfl hc
 ·exact⟨rfl,Qg.err (NB A.o v.o hf) (i.o.trans a) ⟨j,Qm i.o.size m,rfl,k⟩⟩
end
section
open Go.RowKit
attribute [local go_sem ↓] Go.wp_at_zero Go.wp_at_succ
def Tab(w:World):Prop:=Lib.TabIs prog w "internal/strconv.uint64pow10" .u64 Lib.pow10Tab
theorem Tab.below(h:Tab w)(hb:Below w.heap.size w w'):Tab w':=Lib.tabBelow_of_tabIs h w' hb
theorem Mx(g:Nat)(a b:Option Addr)(f c i d:Nat)(w:World)(h:w.heap[g]?=some (.cells #[.slice a f c,.slice b i d] 124)) :
 Calls prog 38 #[.pointer (some ⟨g,0,none⟩)] w fun e w'=>e=.returned (.agg #[.slice a f c,.slice b i d])/\Below w.heap.size w w':=by
 have j:∀ o,(w.alloc o).cell? ⟨g,0,none⟩=some (.slice a f c):=fun o=>Qn (Qy h) 0
 have k:∀ o,(w.alloc o).cell? ⟨g,1,none⟩=some (.slice b i d):=fun o=>Qn (Qy h) 1
 clear h;go_enter func38,ntmps38;go_wp2;refine bodyPost_ret (v:=.agg #[.slice a f c,.slice b i d]) (by simp[results,results38,go_sem]) rfl ?_;exact⟨rfl,(Qs _)⟩
end
section
open Go.RowKit
theorem My(c:UInt8)(h:J9 (c.toNat:Int)=true):((Kv c).toNat:Int)=(c.toNat:Int) - 97+65:=by
 have a:=h;unfold J9 at a;simp at a;have e:Kv c=c - 97+65:=by unfold Kv;rw[if_pos h]
 rw[e,UInt8.toNat_add,UInt8.toNat_sub];simp;omega
theorem C9(c:UInt8)(h:J9 (c.toNat:Int)=false):Kv c=c:=by
 unfold Kv;rw[if_neg (by rw[h];decide)]
end
end Go.Proofs.YtgnkjijocdmniaaGreatDoor
