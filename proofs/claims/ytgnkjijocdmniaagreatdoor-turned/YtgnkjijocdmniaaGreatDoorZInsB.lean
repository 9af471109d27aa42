import Derived.WalkKit
import Derived.WalkSpells
import Derived.WalkLawsBesides
import Derived.BigQuiet
import Derived.Deep.QuietTactic
import Derived.OrdersHeld
import Derived.Laws.AppendOwn
import Derived.Maps.AppendAt
import Derived.Deep.DrawnRows
import Derived.Lib.AppendIntMem
import Derived.MapKept
import Derived.Test.YtgnkjijocdmniaaGreatDoorZPlainCode
import Derived.Test.YtgnkjijocdmniaaGreatDoorShelf
namespace Go.Proofs.YtgnkjijocdmniaaGreatDoor
set_option linter.unusedVariables false
set_option linter.unusedSimpArgs false
set_option maxRecDepth 100000
set_option maxHeartbeats 4000000
open Go.Proofs.Tryz
section
open Go.RowKit
theorem Qab{p:Prop}(h:p):Hid p:=h
theorem _root_.Go.RowKit.Hid.o{p:Prop}(h:Go.RowKit.Hid p):p:=h
theorem Qcs(b j:Nat):(⟨b,0,none⟩:Addr).add j=⟨b,j,none⟩:=by
 unfold Addr.add;split
 ·subst_vars;rfl
 ·simp
theorem QaZ{a b:Bool}(h:a=b):Ending.returned (.bool a)=.returned (.bool b):=by rw[h]
theorem Qct{k:IntKind}{a b:Int}(h:a=b):Ending.returned (.int k a)=.returned (.int k b):=by rw[h]
theorem QcO(c:Int)(w:World) :
 Calls Tryz.prog 231 #[.int .u8 c] w fun e w'=>e=.returned (.bool (Qa8 c))/\w'=w:=by
 go_enter func231,ntmps231;go_wp2
 all_goals (go_ret;exact⟨QaZ (by simp[Qa8, *]),rfl⟩)
theorem QaM(c:Int)(w:World) :
 Calls Tryz.prog 227 #[.int .u8 c] w fun e w'=>e=.returned (.bool (QaS c))/\w'=w:=by
 go_enter func227,ntmps227;go_wp2
 all_goals (go_ret;exact⟨QaZ (by simp[QaS, *];try omega),rfl⟩)
theorem QeS(c:Int)(w:World) :
 Calls Tryz.prog 220 #[.int .u8 c] w fun e w'=>e=.returned (.bool (QeB c))/\w'=w:=by
 go_enter func220,ntmps220;go_wp2
 all_goals (go_ret;exact⟨QaZ (by simp[QeB, *];try omega),rfl⟩)
theorem QgQ(c:Int)(w:World) :
 Calls Tryz.prog 257 #[.int .u8 c] w fun e w'=>e=.returned (.bool (QjS c))/\w'=w:=by
 go_enter func257,ntmps257;go_wp2
 all_goals (go_ret;exact⟨QaZ (by simp[QjS, *];try omega),rfl⟩)
theorem QaK(c:Int)(w:World) :
 Calls Tryz.prog 224 #[.int .u8 c] w fun e w'=>e=.returned (.bool (Qbs c))/\w'=w:=by
 go_enter func224,ntmps224
 cases hsm:QjS c<;>cases hca:QeB c <;>
 (go_wp2_with (first | (go_at_call 220;refine (QeS _ _).mono ?_;rintro e w' ⟨rfl,rfl⟩) | (go_at_call 257;refine (QgQ _ _).mono ?_;rintro e w' ⟨rfl,rfl⟩))
  all_goals (go_ret;exact ⟨QaZ (by rw [Quy];simp [*]),rfl⟩))
theorem Qxb(s:ByteArray)(k:Nat)(h:k<s.size):s.data.toList.getD k 0=s[k]:=by
 rw[List.getD_eq_getElem?_getD,List.getElem?_eq_getElem (by simpa using h)];rfl
theorem Qtu(s:ByteArray)(n:Int)(w:World)(hs:s.size<=maxLen)(h0:0<=n)(h:n<s.size) :
 Calls Tryz.prog 258 #[.string s,.int .i64 n] w fun e w'=>e=.returned (.int .u8 (s.data.toList.getD n.toNat 0).toNat)/\w'=w:=by
 unfold maxLen at hs;go_enter func258,ntmps258;go_wp2
 all_goals (go_ret;exact⟨Qct (by rw[Qxb s _ (by omega)]),rfl⟩)
theorem Qsn(s:ByteArray)(n:Int)(w:World)(hs:s.size<=maxLen)(h:s.size<=n) :
 Calls Tryz.prog 258 #[.string s,.int .i64 n] w fun e w'=>e=.returned (.int .u8 (s.data.toList.getD n.toNat 0).toNat)/\w'=w:=by
 unfold maxLen at hs;go_enter func258,ntmps258;go_wp2
 all_goals (go_ret;exact⟨Qct (by rw[List.getD_eq_getElem?_getD,List.getElem?_eq_none (by simp;omega)];rfl),rfl⟩)
theorem QsX(s:ByteArray)(n:Int)(w:World)(hs:s.size<=maxLen)(h0:0<=n) :
 Calls Tryz.prog 258 #[.string s,.int .i64 n] w fun e w'=>e=.returned (.int .u8 (s.data.toList.getD n.toNat 0).toNat)/\w'=w:=by
 by_cases h:n<s.size
 ·exact Qtu s n w hs h0 h
 ·exact Qsn s n w hs (by omega)
def byteOf (s:ByteArray) (n:Int):UInt8:=s.data.toList.getD n.toNat 0
theorem Qhx(s:ByteArray)(n:Int)(w:World)(hs:s.size<=maxLen)(h0:0<=n) :
 Calls Tryz.prog 258 #[.string s,.int .i64 n] w fun e w'=>e=.returned (.int .u8 (byteOf s n).toNat)/\w'=w:=QsX s n w hs h0
theorem Qbv(s:ByteArray)(k:Nat)(h:k<s.size):s.data.toList.drop k=s[k]::s.data.toList.drop (k+1):=by
 rw[List.drop_eq_getElem_cons (by simpa using h)];rfl
theorem Qea{s:ByteArray}(h:s.size=0):s.toList=[]:=by
 rw[ByteArray.toList_eq];apply List.eq_nil_of_length_eq_zero;simpa using h
theorem QcJ{s:ByteArray}(h:¬ s.size=0):¬ s.toList=[]:=by
 rw[ByteArray.toList_eq];intro e;apply h;have:=congrArg List.length e;simpa using this
theorem Qsm(s:ByteArray)(h:0<s.size)(hl:Qbs (s[0].toNat:Int)=true):Qa5 s.data.toList=1+Qbe (s.data.toList.drop 1):=by
 have e:=Qbv s 0 h;rw[List.drop_zero]at e;rw[e];simp only[Qa5];rw[if_pos hl];rfl
theorem Qpx(s:ByteArray)(h:0<s.size)(hl:Qbs (s[0].toNat:Int)=false):Qa5 s.data.toList=0:=by
 have e:=Qbv s 0 h;rw[List.drop_zero]at e;rw[e];simp only[Qa5];rw[if_neg (by rw[hl];decide)]
theorem QlX(s:ByteArray)(k:Nat)(h:k<s.size):Qbe (s.data.toList.drop k)=if letdig s[k]then 1+Qbe (s.data.toList.drop (k+1))else 0:=by
 rw[Qbv s k h,Qc0]
theorem Qod(s:ByteArray)(k:Nat)(h:s.size<=k):Qbe (s.data.toList.drop k)=0:=by
 rw[List.drop_of_length_le (by simpa using h)];rfl
theorem Qb4(s:ByteArray)(w:World)(hs:s.size<=maxLen) :
 Calls Tryz.prog 226 #[.string s] w fun e w'=>e=.returned (.int .i64 (Qa5 s.data.toList))/\w'=w:=by
 unfold maxLen at hs;by_cases h0:s.size=0
 ·have aa:=Qea h0;go_enter func226,ntmps226;go_wp2;go_ret;exact⟨Qct (by rw[<-ByteArray.toList_eq,aa];rfl),rfl⟩
 have aa:=QcJ h0;have h0'':s.toList.isEmpty=false:=by simpa using aa
 have h1:0<s.size:=by omega
 cases hl:Qbs (s[0].toNat:Int)
 ·have H:Hid (Qa5 s.data.toList=0):=Qpx s h1 hl;go_enter func226,ntmps226;go_wp2_with (go_at_call 224;refine(QaK _ _).mono ?_;rintro e w' ⟨rfl,rfl⟩);go_ret;exact⟨Qct (by rw[H.o];rfl),rfl⟩
 ·have H:Hid (Qa5 s.data.toList=1+Qbe (s.data.toList.drop 1)):=Qsm s h1 hl;go_enter func226,ntmps226;go_wp2_with (go_at_call 224;refine(QaK _ _).mono ?_;rintro e w' ⟨rfl,rfl⟩)
  go_loop [3] (fun i=>∃ k:Nat,k<=s.size/\i=.int .i64 k/\Qa5 s.data.toList=k+Qbe (s.data.toList.drop k)) (fun i=>s.size - (intOf i).toNat)
  case atStart=>exact⟨1,by omega,rfl,H.o⟩
  case round=>
   obtain⟨k,hk,rfl,hn⟩:=hrel;have HN:Hid (Qa5 s.data.toList=k+Qbe (s.data.toList.drop k)):=hn;clear hn hl;by_cases hlt:k<s.size
   ·have HS:Hid (Qbe (s.data.toList.drop k)=if letdig s[k]then 1+Qbe (s.data.toList.drop (k+1))else 0):=QlX s k hlt;cases hc:Qbs (s[k].toNat:Int)
    ·cases hd:QaS (s[k].toNat:Int)
     ·have HD:Hid (letdig s[k]=false):=by show letdig s[k]=false;simp[letdig,hc,hd]
      go_wp2_with (first|(go_at_call 224;refine(QaK _ _).mono ?_;rintro e w' ⟨rfl,rfl⟩)|(go_at_call 227;refine(QaM _ _).mono ?_;rintro e w' ⟨rfl,rfl⟩));go_ret;exact⟨Qct (by rw[HN.o,HS.o,HD.o];simp),rfl⟩
     ·have HD:Hid (letdig s[k]=true):=by show letdig s[k]=true;simp[letdig,hd]
      go_wp2_with (first|(go_at_call 224;refine(QaK _ _).mono ?_;rintro e w' ⟨rfl,rfl⟩)|(go_at_call 227;refine(QaM _ _).mono ?_;rintro e w' ⟨rfl,rfl⟩));go_round
      case rel=>exact⟨k+1,by omega,by go_num,by rw[HN.o,HS.o,HD.o];simp;omega⟩
      case measure=>simp[intOf];omega
    ·have HD:Hid (letdig s[k]=true):=by show letdig s[k]=true;simp[letdig,hc]
     go_wp2_with (first|(go_at_call 224;refine(QaK _ _).mono ?_;rintro e w' ⟨rfl,rfl⟩)|(go_at_call 227;refine(QaM _ _).mono ?_;rintro e w' ⟨rfl,rfl⟩));go_round
     case rel=>exact⟨k+1,by omega,by go_num,by rw[HN.o,HS.o,HD.o];simp;omega⟩
     case measure=>simp[intOf];omega
   ·have HS:Hid (Qbe (s.data.toList.drop k)=0):=Qod s k (by omega);go_wp2;go_ret;exact⟨Qct (by rw[HN.o,HS.o];simp),rfl⟩
theorem pt(l:List Value)(ds:_)(d:Nat)(v:Value):Act.put ⟨l.toArray,ds⟩ (some d) v=⟨(l.set d v).toArray,ds⟩:=by simp[Act.put]
theorem sz(x y:Value)(l:List Value):(x::l).set 0 y=y::l:=rfl
theorem sc(x y:Value)(l:List Value)(n:Nat):(x::l).set (n+1) y=x::l.set n y:=rfl
theorem Qax{P:Program}{ab:Array Oper}{Q:Exit->Act->World->Prop}{md:Region.Mode}{S:World->Prop}(i d:Nat)(v:Value){oi:Oper}{fuel:Nat}{aa:Array Bool}{a:Act}{w:World}(hi:ab[i]?=some oi)(hS:S w)(hv:∀ w',S w'->(execOp a.eval oi).run P w'=.ok (.value v) w')(h:wpAnyH P md ab Q S fuel (aa.setIfInBounds i true) (a.put (some d) v) w)
 (hd:oi.dst=some d:=by rfl) (hs:Region.noSelect ab=true:=by kernel_rfl) (hf:Region.free md ab aa i=true:=by kernel_rfl) (hr:(Region.ready md ab aa).contains i=true:=by kernel_rfl) (hQ:∀ c a w,Q (.panic c) (a.put (some d) v) w->Q (.panic c) a w:=by exact fun _ _ _ h=>h) (hw:Region.wanted oi (yielded ab a.tmps)=true:=by rfl):wpAnyH P md ab Q S (fuel+1) aa a w:=
 wpAnyH_take hi hs hf hr (by rw[hd];exact hQ) (Or.inl ⟨hw,hv⟩) hS (by rw[hd];exact h)
theorem Qaj(x:L8):(Qaf x).size=x.length:=rfl
theorem QaJ(x y:L8):Qaf x++Qaf y=Qaf (x++y):=by
 unfold Qaf;apply ByteArray.ext;simp
theorem Qdl(x y:L8):((Qaf x).toList==y)=decide (x=y):=by
 rw[ByteArray.toList_eq,show(Qaf x).data.toList=x from rfl,Bool.eq_iff_iff];simp
theorem Qau{w:World}{a:Addr}{v:Value}(h:w.cell? a=some v):a.block<w.heap.size:=by
 rcases Nat.lt_or_ge a.block w.heap.size with h'|h'
 ·exact h'
 ·unfold World.cell? at h;rw[Array.getElem?_eq_none h']at h;cases h
def TxtAt (w:World) (g:Nat) (zs:List (L8)):Prop:=
 ∀ j,j < zs.length→w.cell? ⟨g,j,none⟩=some (.string (Qaf (zs.getD j [])))
theorem Qbk{w w':World}(h:Below w.drew.heap.size w.drew w'):Below w.heap.size w w':=⟨h.os,h.tape,h.output,h.size,h.block⟩
theorem Qah(w:World)(b o:Nat)(v:Value)(cs:Array Value)(ty:TypeId)(h:w.heap[b]?=some (.cells cs ty)):(w.setCell ⟨b,o,none⟩ v).heap[b]?=some (.cells (cs.setIfInBounds o v) ty):=by
 simp only[World.setCell,Array.getElem?_modify];rw[if_pos trivial,h];rfl
theorem Qaa{w:World}{g:Nat}{cs:Array Value}{ty:TypeId}(h:w.heap[g]?=some (.cells cs ty))(o:Nat):w.cell? ⟨g,o,none⟩=cs[o]?:=by
 unfold World.cell?;rw[h];rfl
theorem Qao{w:World}{g:Nat}{cs:Array Value}{ty:TypeId}(h:w.heap[g]?=some (.cells cs ty))(o:Nat):w.frozen? ⟨g,o,none⟩=false:=by
 unfold World.frozen?;rw[h];simp
theorem QaI{w:World}{g:Nat}{o:Obj}(h:w.heap[g]?=some o):g<w.heap.size:=by
 rcases Nat.lt_or_ge g w.heap.size with h'|h'
 ·exact h'
 ·rw[Array.getElem?_eq_none h']at h;cases h
theorem Qae{w:World}{g:Nat}{o o':Obj}(h:w.heap[g]?=some o):(w.alloc o').heap[g]?=some o:=by
 rw[Below.heap_alloc _ _ _ (QaI h)];exact h
theorem Qat(w:World)(o:Obj):(w.alloc o).heap[w.heap.size]?=some o:=by
 show(w.heap.push o)[w.heap.size]?=_
 simp
theorem Qaw{w:World}{g:Nat}{o:Obj}(h:g=w.heap.size):(w.alloc o).heap[g]?=some o:=by subst h;exact Qat w o
theorem Qal{w w':World}{g:Nat}{o:Obj}(h:w.heap[g]?=some o)(hb:Below w.heap.size w w'):w'.heap[g]?=some o:=by
 rw[hb.block g (QaI h)];exact h
theorem Qb8{P:World->Prop}{w W:World}{B:Nat}{o:Obj}(h1:Below B w W)(h2:W.heap[B]?=some o)(h3:∀ W',Below B w W'->W'.heap[B]?=some o->P W'):P W:=h3 W h1 h2
theorem Qbb{w W:World}{B:Nat}(h:Below B w W)(hB:B<=w.heap.size)(o:Obj):Below B w (W.alloc o):=h.alloc (Nat.le_trans hB h.size) o
def QaN (zs:List (L8)):List Value:=zs.map fun z=>Value.string (Qaf z)
theorem Qci(zs:List (L8))(z:L8):QaN zs++[.string (Qaf z)]=QaN (zs++[z]):=by simp[QaN]
theorem QmL(zs:List (L8)):(QaN zs).length=zs.length:=by simp[QaN]
theorem Tryz.infoStr:(Tryz.prog.info? 9).map (fun i=>(i.zero,i.size,i.bytes))=some (some (.string ⟨#[]⟩),1,16):=by kernel_rfl
theorem TxtAt.of_owns{w:World}{base g n c:Nat}{xs:List (L8)}(h:w.ownsRow base 9 1 (.slice (some ⟨g,0,none⟩) n c) n (QaN xs)):TxtAt w g xs:=fun j hj=>by
 have:=h.cells (g:=g) rfl j (.string (Qaf (xs.getD j []))) (by simp[QaN,List.getElem?_eq_getElem hj,List.getD_eq_getElem?_getD]);rw[Qcs]at this;exact this
theorem Qba(w:World)(zs:List (L8))(cs:Array Value)(ty:TypeId)(h:cs=(QaN zs).toArray):TxtAt (w.alloc (.cells cs ty)) w.heap.size zs:=fun j hj=>by
 subst h
 have:(w.alloc (.cells (QaN zs).toArray ty)).heap[w.heap.size]?=some (.cells (QaN zs).toArray ty):=by
  show(w.heap.push _)[w.heap.size]?=_
  simp
 unfold World.cell?;rw[this];simp[QaN,List.getD_eq_getElem?_getD,hj]
theorem QbI{w:World}{g:Nat}(zs:List (L8))(ty:TypeId)(h:g=w.heap.size):TxtAt (w.alloc (.cells (QaN zs).toArray ty)) g zs:=by subst h;exact Qba w zs _ ty rfl
end
section
open Go.RowKit
attribute [local go_sem ↓] Go.wp_at_zero Go.wp_at_succ
def Tab (w:World):Prop:=Lib.TabIs Tryz.prog w "internal/strconv.uint64pow10" .u64 Lib.pow10Tab
theorem Tab.below{w w':World}(h:Tab w)(hb:Below w.heap.size w w'):Tab w':=Lib.tabBelow_of_tabIs h w' hb
theorem QqP(n:Nat)(hn:n<=2147483647)(w:World)(ht:Tab w) :
 Calls Tryz.prog 240 #[.int .i64 n] w fun e w'=>e=.returned (.string (Qaf (iL n)))/\Below w.heap.size w w':=by
 refine(Tryz.strconv_Itoa n (by omega) (by omega) w ht).mono ?_;rintro e w' ⟨rfl,k,os,rfl⟩;exact⟨by rw[Lib.itoa_nonneg];rfl,Lib.below_grow _ _ (Nat.le_refl _) _ _⟩
theorem QlQ(g:Nat)(a1 a2:Option Addr)(n1 c1 n2 c2:Nat)(w:World)(h:w.heap[g]?=some (.cells #[.slice a1 n1 c1,.slice a2 n2 c2] 124)) :
 Calls Tryz.prog 38 #[.pointer (some ⟨g,0,none⟩)] w fun e w'=>e=.returned (.agg #[.slice a1 n1 c1,.slice a2 n2 c2])/\Below w.heap.size w w':=by
 have d0:∀ o,(w.alloc o).cell? ⟨g,0,none⟩=some (.slice a1 n1 c1):=fun o=>Qaa (Qae h) 0
 have d1:∀ o,(w.alloc o).cell? ⟨g,1,none⟩=some (.slice a2 n2 c2):=fun o=>Qaa (Qae h) 1
 clear h;go_enter func38,ntmps38;go_wp2;refine bodyPost_ret (v:=.agg #[.slice a1 n1 c1,.slice a2 n2 c2]) (by simp[results,results38,go_sem]) rfl ?_;exact⟨rfl,((Below.refl _ _).alloc (Nat.le_refl _) _)⟩
end
section
open Go.RowKit
structure Fr (P:Nat→Obj→Prop) (w w':World):Prop where
 os:w'.os=w.os
 tape:w'.tape=w.tape
 output:w'.output=w.output
 size:w.heap.size≤w'.heap.size
 block:∀ k o,w.heap[k]?=some o→¬ P k o→w'.heap[k]?=some o
theorem Fr.refl(P:Nat->Obj->Prop)(w:World):Fr P w w:=⟨rfl,rfl,rfl,Nat.le_refl _,fun _ _ h _=>h⟩
theorem Fr.trans{P:Nat->Obj->Prop}{u v w:World}(h:Fr P u v)(k:Fr P v w):Fr P u w:=
 ⟨k.os.trans h.os,k.tape.trans h.tape,k.output.trans h.output,Nat.le_trans h.size k.size,fun i o hi hn=>k.block i o (h.block i o hi hn) hn⟩
theorem Fr.mono{P Q:Nat->Obj->Prop}{u v:World}(h:Fr P u v)(hq:∀ k o,P k o->Q k o):Fr Q u v:=
 ⟨h.os,h.tape,h.output,h.size,fun i o hi hn=>h.block i o hi (fun hp=>hn (hq _ _ hp))⟩
theorem Fr.of_below{P:Nat->Obj->Prop}{w w':World}(h:Below w.heap.size w w'):Fr P w w':=
 ⟨h.os,h.tape,h.output,h.size,fun k o hk _=>Qal hk h⟩
theorem Fr.below{P:Nat->Obj->Prop}{w w':World}{B:Nat}(h:Fr P w w')(hB:∀ k o,P k o->B<=k)(hz:B<=w.heap.size):Below B w w':=
 ⟨h.os,h.tape,h.output,h.size,fun k hk=>by
  have hl:k<w.heap.size:=by omega
  rw[Array.getElem?_eq_getElem hl]
  exact h.block k _ (Array.getElem?_eq_getElem hl) (fun hp=>by have:=hB _ _ hp;omega)⟩
theorem Fr.set{P:Nat->Obj->Prop}{u w:World}{b:Nat}{o:Obj}(h:Fr P u w)(hb:w.heap[b]?=some o)(hp:P b o)(j:Nat)(v:Value):Fr P u (w.setCell ⟨b,j,none⟩ v):=
 h.trans ⟨rfl,rfl,rfl,by simp [World.setCell],fun k o' hk hn=>by
  by_cases e:k=b
  ·subst e;rw[hb]at hk;cases hk;exact absurd hp hn
  ·rw [Below.heap_setCell _ _ _ _ e];exact hk⟩
theorem Fr.alloc{P:Nat->Obj->Prop}{u w:World}(h:Fr P u w)(o:Obj):Fr P u (w.alloc o):=
 h.trans ⟨rfl,rfl,rfl,by simp,fun k o' hk _=>Qae hk⟩
theorem Fr.drew{P:Nat->Obj->Prop}{u w:World}(h:Fr P u w):Fr P u w.drew:=⟨h.os,h.tape,h.output,h.size,h.block⟩
theorem Fr.grown{P:Nat->Obj->Prop}{u w w':World}{aa:Option Nat}(h:Fr P u w)(hg:w.grownBy w' aa)(hp:∀ k o,aa=some k->w.heap[k]?=some o->P k o):Fr P u w':=
 h.trans ⟨hg.os,hg.tape,hg.output,hg.size,fun k o hk hn=>by
  rw [hg.block k (QaI hk) (fun e=>hn (hp k o e.symm hk))];exact hk⟩
def stO:Obj→Bool
 | .cells _ t _=>t == 274 || t == 52
 | .map _ _=>true
 | _=>false
def PSt (B k:Nat) (o:Obj):Prop:=B≤k∧stO o=true
theorem PSt.not{B k:Nat}{cs:Array Value}{t:TypeId}{f:Nat×Nat}(h1:t≠274)(h2:t≠52):¬ PSt B k (.cells cs t f):=fun h=>by
 have:=h.2;unfold stO at this;simp at this;rcases this with h|h
 ·exact h1 h
 ·exact h2 h
def Qww (w:World) (g:Nat) (zs:List (L8)):Prop:=
 ∃ cs,w.heap[g]?=some (.cells cs 9)∧∀ j,j < zs.length→cs[j]?=some (.string (Qaf (zs.getD j [])))
theorem Qww.at{w:World}{g:Nat}{zs:List (L8)}(h:Qww w g zs):TxtAt w g zs:=by
 obtain⟨cs,hb,hc⟩:=h;intro j hj;rw[Qaa hb];exact hc j hj
def SlT (w:World) (v:Value) (zs:List (L8)):Prop:=
 (v=.slice none 0 0∧zs=[])∨∃ g c,v=.slice (some ⟨g,0,none⟩) zs.length c∧Qww w g zs
theorem SlT.fr{P:Nat->Obj->Prop}{w w':World}{v:Value}{zs:List (L8)}(h:SlT w v zs)(hf:Fr P w w')(hp:∀ k cs,¬ P k (.cells cs 9)):SlT w' v zs:=by
 rcases h with h | ⟨g,c,hv,cs,hb,hc⟩
 ·exact Or.inl h
 ·exact Or.inr ⟨g,c,hv,cs,hf.block g _ hb (hp _ _),hc⟩
theorem SlT.below{w w':World}{v:Value}{zs:List (L8)}(h:SlT w v zs)(hf:Below w.heap.size w w'):SlT w' v zs:=h.fr (P:=fun _ _=>False) (Fr.of_below hf) (fun _ _ h=>h)
theorem SlT.len{w:World}{v:Value}{zs:List (L8)}(h:SlT w v zs):∃ a c,v=.slice a zs.length c:=by
 rcases h with⟨h,rfl⟩ | ⟨g,c,h,_⟩
 ·exact⟨none,0,h⟩
 ·exact⟨_,_,h⟩
theorem QuF(zs:List (L8))(j:Nat)(hj:j<zs.length):(QaN zs)[j]?=some (.string (Qaf (zs.getD j []))):=by
 simp[QaN,List.getElem?_eq_getElem hj,List.getD_eq_getElem?_getD]
theorem SlT.of_owns{w:World}{base n:Nat}{v:Value}{xs:List (L8)}(h:w.ownsRow base 9 1 v n (QaN xs))(hn:n=xs.length):SlT w v xs:=by
 subst hn;obtain⟨h1,h2⟩:=h;rcases h2 with⟨h2,h3⟩ | ⟨g,aa,ab,hv,hg,hb,hc,_,hs,ht⟩
 ·exact Or.inl ⟨h2,List.eq_nil_of_length_eq_zero h3⟩
 ·refine Or.inr ⟨g,aa,hv,ab,hb,fun j hj=>?_⟩;have h4:=QuF xs j hj;rw[<-ht]at h4;rw[List.getElem?_take_of_lt (by omega)]at h4;rw[<-h4];simp
theorem Qww.of_owns{w:World}{base g n c:Nat}{xs:List (L8)}(h:w.ownsRow base 9 1 (.slice (some ⟨g,0,none⟩) n c) n (QaN xs)):Qww w g xs:=by
 have hn:n=xs.length:=by have:=h.1;rw[QmL]at this;omega
 rcases SlT.of_owns h hn with⟨h1,_⟩ | ⟨g',c',h1,h2⟩
 ·injection h1 with h1;cases h1
 ·injection h1 with h3 h4 h5
  injection h3 with h3
  injection h3 with h6
  subst h6;exact h2
def QkG (w:World) (hv:Value) (hs:List (L8×L8)):Prop:=
 (hv=.slice none 0 0∧hs=[])∨∃ g c cs,hv=.slice (some ⟨g,0,none⟩) hs.length c∧w.heap[g]?=some (.cells cs 50)∧
   ∀ j (hj:j < hs.length),cs[j*2]?=some (.string (Qaf hs[j].1))∧cs[j*2+1]?=some (.string (Qaf hs[j].2))
theorem QkG.fr{P:Nat->Obj->Prop}{w w':World}{v:Value}{hs:List (L8×L8)}(h:QkG w v hs)(hf:Fr P w w')(hp:∀ k cs,¬ P k (.cells cs 50)):QkG w' v hs:=by
 rcases h with h | ⟨g,c,cs,hv,hb,hc⟩
 ·exact Or.inl h
 ·exact Or.inr ⟨g,c,cs,hv,hf.block g _ hb (hp _ _),hc⟩
theorem QkG.len{w:World}{v:Value}{hs:List (L8×L8)}(h:QkG w v hs):∃ a c,v=.slice a hs.length c:=by
 rcases h with⟨h,rfl⟩ | ⟨g,c,cs,h,_⟩
 ·exact⟨none,0,h⟩
 ·exact⟨_,_,h⟩
theorem QkG.cells{w:World}{v:Value}{hs:List (L8×L8)}(h:QkG w v hs)(j:Nat)(hj:j<hs.length):∃ g c,v=.slice (some ⟨g,0,none⟩) hs.length c/\g<w.heap.size/\w.cell? ⟨g,j*2,none⟩=some (.string (Qaf hs[j].1))/\w.cell? ⟨g,j*2+1,none⟩=some (.string (Qaf hs[j].2)):=by
 rcases h with⟨_,rfl⟩ | ⟨g,c,cs,h,hb,hc⟩
 ·exact absurd hj (Nat.not_lt_zero _)
 ·exact⟨g,c,h,QaI hb,by rw[Qaa hb];exact(hc j hj).1,by rw[Qaa hb];exact(hc j hj).2⟩
def Qcp (l:List (Int×L8)):List Value:=l.flatMap fun a=>[.int .i64 a.1,.string (Qaf a.2)]
theorem QqG(l:List (Int×L8))(a:Int×L8):Qcp l++[.int .i64 a.1,.string (Qaf a.2)]=Qcp (l++[a]):=by simp[Qcp]
theorem QmP(l:List (Int×L8)):(Qcp l).length=l.length*2:=by
 induction l with
 |nil=>rfl
 |cons p r ih=>simp only[Qcp,List.flatMap_cons,List.length_append,List.length_cons,List.length_nil]at ih ⊢;omega
theorem Qhk(l:List (Int×L8))(j:Nat)(hj:j<l.length):(Qcp l)[j*2]?=some (.int .i64 l[j].1)/\(Qcp l)[j*2+1]?=some (.string (Qaf l[j].2)):=by
 induction l generalizing j with
 |nil=>exact absurd hj (Nat.not_lt_zero _)
 |cons p r ih=>
  cases j with
  |zero=>exact⟨rfl,rfl⟩
  |succ j=>
   have:=ih j (by simpa using hj);have e:Qcp (p::r)=.int .i64 p.1 :: .string (Qaf p.2)::Qcp r:=rfl;have e1:(j+1)*2=j*2+1+1:=by omega
   have e2:(j+1)*2+1=(j*2+1)+1+1:=by omega
   rw[e,e1,List.getElem?_cons_succ,List.getElem?_cons_succ,List.getElem?_cons_succ,List.getElem?_cons_succ];exact this
theorem QaD{w:World}{base:Nat}{e:TypeId}{size:Nat}{v:Value}{n:Nat}{xs:List Value}(h:w.ownsRow base e size v n xs):∃ a c,v=.slice a n c:=by
 rcases h.2 with⟨h,h2⟩ | ⟨g,cap,cur,h,_⟩
 ·exact⟨none,0,by rw[h,h2]⟩
 ·exact⟨_,_,h⟩
theorem QbL{P:Nat->Obj->Prop}{w w':World}{base:Nat}{e:TypeId}{size:Nat}{v:Value}{n:Nat}{xs:List Value}(h:w.ownsRow base e size v n xs)(hf:Fr P w w')(hp:∀ k cs,¬ P k (.cells cs e)):w'.ownsRow base e size v n xs:=by
 obtain⟨h1,h2⟩:=h;refine⟨h1,?_⟩;rcases h2 with h2 | ⟨g,aa,ab,hv,hg,hh,r⟩
 ·exact Or.inl h2
 ·exact Or.inr ⟨g,aa,ab,hv,hg,hf.block g _ hh (hp _ _),r⟩
theorem Qkz{w:World}{base aa:Nat}{e:TypeId}{size:Nat}{v:Value}{n:Nat}{xs:List Value}(h:w.ownsRow base e size v n xs)(hb:aa<=base):w.ownsRow aa e size v n xs:=by
 obtain⟨h1,h2⟩:=h;refine⟨h1,?_⟩;rcases h2 with h2 | ⟨g,ab,ac,hv,hg,r⟩
 ·exact Or.inl h2
 ·exact Or.inr ⟨g,ab,ac,hv,by omega,r⟩
theorem Qcg{w:World}{base:Nat}{e:TypeId}{size:Nat}{v:Value}{n:Nat}{xs:List Value}(h:w.ownsRow base e size v n xs)(k:Nat)(o:Obj)(hk:v.ownBlock=some k)(ho:w.heap[k]?=some o):base<=k/\∃ cs,o=.cells cs e:=by
 rcases h.2 with⟨rfl,_⟩ | ⟨g,cap,cur,rfl,hg,hh,_⟩
 ·cases hk
 ·obtain rfl:g=k:=by simpa[Value.ownBlock]using hk
  rw[hh]at ho;cases ho;exact⟨hg,_,rfl⟩
theorem Qc6{w:World}{base:Nat}{e:TypeId}{size:Nat}{v:Value}{n:Nat}{xs:List Value}(h:w.ownsRow base e size v n xs)(hn:0<n):∃ g c,v=.slice (some ⟨g,0,none⟩) n c/\base<=g/\g<w.heap.size/\∀ j u,xs[j]?=some u->w.cell? ⟨g,j,none⟩=some u:=by
 rcases h.2 with⟨_,h2⟩ | ⟨g,aa,cur,hv,hg,hh,_⟩
 ·omega
 ·refine⟨g,aa,hv,hg,QaI hh,fun j u hj=>?_⟩;have:=h.cells (g:=g) (by rw[hv];rfl) j u hj;rwa [Qcs]at this
def Qu4 (es:Array MapEntry) (f:L8→Option Value):Prop:=
 (∀ e∈es.toList,∃ x,e.key=.string (Qaf x)∧f x=some e.val)∧(∀ x v,f x=some v→∃ e∈es.toList,e.key=.string (Qaf x))∧es.toList.Pairwise (fun a b=>a.key≠b.key)
theorem Qu4.empty:Qu4 #[] (fun _=>none):=⟨fun e he=>(by simp at he),fun x v h=>(by cases h),by simp⟩
theorem Qu4.keys{es:Array MapEntry}{f:L8->Option Value}(h:Qu4 es f):∀ e∈es.toList,MapKept.IsKey .string e.key:=fun e he=>by
 obtain⟨x,hx,_⟩:=h.1 e he;rw[hx];trivial
theorem Qlr{x y:L8}(h:Value.string (Qaf x)=.string (Qaf y)):x=y:=by injection h with h;exact QiV h
theorem Qi4{T K E:TypeId}(hT:Tryz.prog.underlying T=some (.map K E))(hK:Tryz.prog.underlying K=some .string){w:World}{m:Nat}{es:Array MapEntry}{c:Nat}{f g:L8->Option Value}(hm:w.heap[m]?=some (.map es c))(hf:Qu4 es f)(x:L8)(v:Value)(hx:g x=some v)(hg:∀ z,z≠x->g z=f z) :
 ∃ es' c',(Instr.mapUpdate T (.map (some m)) (.string (Qaf x)) v).run Tryz.prog w=.ok () { w with heap:=w.heap.setIfInBounds m (.map es' c') }/\Qu4 es' g:=by
 have hk:MapKept.IsKey .string (.string (Qaf x)):=trivial;rcases MapKept.findNow_spec hk es.toList 0 hf.keys with⟨h1,h2⟩ | ⟨j,e,h1,h2,h3⟩
 ·refine⟨es.push ⟨.string (Qaf x),v,c⟩,c+1,?_,?_,?_,?_⟩
  ·simp[Instr.mapUpdate,run_underlying hT,MapKept.run_getObj_map hm,MapKept.run_checkKey hK hk,MapKept.run_findKey hK h1,MapKept.run_setObj_map _ hm,Result.andThen]
  ·intro e he;simp only[Array.toList_push,List.mem_append,List.mem_singleton]at he;rcases he with he|rfl
   ·obtain⟨z,hz,ae⟩:=hf.1 e he;refine⟨z,hz,?_⟩;rw[hg z (fun ez=>h2 e he (by rw[hz,ez]))];exact ae
   ·exact⟨x,rfl,hx⟩
  ·intro z u hz;by_cases ez:z=x
   ·exact⟨⟨.string (Qaf x),v,c⟩,by simp,by rw[ez]⟩
   ·rw[hg z ez]at hz;obtain⟨e,he,ah⟩:=hf.2.1 z u hz;exact⟨e,by simp[he],ah⟩
  ·rw[Array.toList_push,List.pairwise_append];refine⟨hf.2.2,by simp,fun a ha b hb=>?_⟩;simp at hb;subst hb;exact h2 a ha
 ·have hj:es[j]?=some e:=by simpa using h2
  have aa:j<es.toList.length:=by
   rcases Nat.lt_or_ge j es.toList.length with h|h
   ·exact h
   ·rw[List.getElem?_eq_none h]at h2;cases h2
  have ad:(es.modify j (fun e=>{ e with key:=.string (Qaf x),val:=v })).toList=es.toList.set j { e with key:=.string (Qaf x),val:=v }:=by
   apply List.ext_getElem?;intro i;rw[Array.getElem?_toList,Array.getElem?_modify,List.getElem?_set];by_cases hi:j=i
   ·subst hi;simp[hj,aa];exact(by simpa using aa)
   ·simp[hi]
  refine⟨es.modify j (fun e=>{ e with key:=.string (Qaf x),val:=v }),c,?_,?_,?_,?_⟩
  ·simp[Instr.mapUpdate,run_underlying hT,MapKept.run_getObj_map hm,MapKept.run_checkKey hK hk,MapKept.run_findKey hK h1,hj,h3,MapKept.run_keyThatStays hk,MapKept.run_setObj_map _ hm,Result.andThen]
  ·intro a ha;rw[ad]at ha;obtain⟨i,hi⟩:=List.mem_iff_getElem?.1 ha;rw[List.getElem?_set]at hi;by_cases ac:j=i
   ·rw[if_pos ac,if_pos (by omega)]at hi;cases hi;exact⟨x,rfl,hx⟩
   ·rw[if_neg ac]at hi;obtain⟨z,hz,ae⟩:=hf.1 a (List.mem_of_getElem? hi);refine⟨z,hz,?_⟩;rw[hg z (fun ez=>?_)];exact ae;have hp:=List.pairwise_iff_getElem.1 hf.2.2
    have af:i<es.toList.length:=by
     rcases Nat.lt_or_ge i es.toList.length with h|h
     ·exact h
     ·rw[List.getElem?_eq_none h]at hi;cases hi
    have e1:es.toList[i]=a:=by rw[List.getElem?_eq_getElem af]at hi;exact Option.some.inj hi
    have e2:es.toList[j]=e:=by rw[List.getElem?_eq_getElem aa]at h2;exact Option.some.inj h2
    have ab:a.key=e.key:=by rw[hz,h3,ez]
    rcases Nat.lt_or_gt_of_ne ac with hlt|hlt
    ·exact hp j i aa af hlt (by rw[e1,e2,ab])
    ·exact hp i j af aa hlt (by rw[e1,e2,ab])
  ·intro z u hz;by_cases ez:z=x
   ·refine⟨{ e with key:=.string (Qaf x),val:=v },?_,by rw[ez]⟩;rw[ad];exact List.mem_set aa _
   ·rw[hg z ez]at hz;obtain⟨a,ha,ab⟩:=hf.2.1 z u hz;obtain⟨i,hi⟩:=List.mem_iff_getElem?.1 ha
    have ac:j≠i:=fun e'=>by
     subst e';rw[h2]at hi;cases hi;rw[h3]at ab;exact ez (Qlr ab).symm
    refine⟨a,?_,ab⟩;rw[ad];refine List.mem_iff_getElem?.2 ⟨i,?_⟩;rw[List.getElem?_set,if_neg ac];exact hi
  ·rw[ad,List.pairwise_iff_getElem];intro a b ha hb ag;have hp:=List.pairwise_iff_getElem.1 hf.2.2;rw[List.length_set]at ha hb;have e2:es.toList[j]=e:=by rw[List.getElem?_eq_getElem aa]at h2;exact Option.some.inj h2
   rw[List.getElem_set,List.getElem_set];have hh:=hp a b ha hb ag;split
   ·next h=>subst h;rw[if_neg (by omega)];rw[e2,h3]at hh;exact hh
   ·split
    ·next h=>subst h;rw[e2,h3]at hh;exact hh
    ·exact hh
theorem QvW{T K E:TypeId}(hT:Tryz.prog.underlying T=some (.map K E))(hK:Tryz.prog.underlying K=some .string){z:Value}(hE:∀ W,(zeroValue E).run Tryz.prog W=.ok z W){w:World}{m:Nat}{es:Array MapEntry}{c:Nat}{f:L8->Option Value}(hm:w.heap[m]?=some (.map es c))(hf:Qu4 es f)(x:L8) :
 (Instr.lookup T (.map (some m)) (.string (Qaf x)) false).run Tryz.prog w=.ok ((f x).getD z) w:=by
 have hk:MapKept.IsKey .string (.string (Qaf x)):=trivial;rcases MapKept.findNow_spec hk es.toList 0 hf.keys with⟨h1,h2⟩ | ⟨j,e,h1,h2,h3⟩
 ·have hn:f x=none:=by
   cases hfx:f x with
   |none=>rfl
   |some v=>
    obtain⟨e,he,aa⟩:=hf.2.1 x v hfx;exact absurd aa (h2 e he)
  rw[hn];simp[Instr.lookup,run_underlying hT,MapKept.run_getObj_map hm,MapKept.run_checkKey hK hk,MapKept.run_findKey hK h1,hE,Result.andThen]
 ·obtain⟨y,hy,ab⟩:=hf.1 e (List.mem_of_getElem? h2);rw[h3]at hy;have:x=y:=Qlr hy;subst this;rw[ab];simp[Instr.lookup,run_underlying hT,MapKept.run_getObj_map hm,MapKept.run_checkKey hK hk,MapKept.run_findKey hK h1,Result.andThen]
structure SBd (M:Msg) (s:SS):Prop where
 fr:M.fr.length≤100000
 tu:M.to.length≤100000
 hl:M.hdrs.length≤100000
 hd:∀ h∈M.hdrs,h.1.length≤100000∧h.2.length≤100000
 told:∀ t∈s.told,t.length≤100000
 tl:s.told.length≤1000000
 vals:∀ x t,s.vals x=some t→t.length≤48
 met:s.met.length≤6
def QlR (M:Msg) (hv:Value) (vs:Bool) (mb:Nat) (tv mv:Value) (disc:Bool):Array Value:=
 #[.string (Qaf M.fr),.string (Qaf M.to),.int .i64 M.size,hv,.bool vs,.map (some mb),tv,mv,.bool disc]
def QoV (s:SS) (x:L8):Option Value:=(s.vals x).map fun t=>.agg #[.string (Qaf t)]
structure SI (w:World) (B sb:Nat) (M:Msg) (s:SS) (hv:Value) (mb:Nat) (tv mv:Value):Prop where
 bs:B≤sb
 bm:B≤mb
 b1:1 < B
 m1:∃ m,w.cell? ⟨1,0,none⟩=some (.int .i64 m)
 blk:w.heap[sb]?=some (.cells (QlR M hv s.vs mb tv mv s.disc) 274)
 hd:QkG w hv M.hdrs
 mp:∃ es c,w.heap[mb]?=some (.map es c)∧Qu4 es (QoV s)
 told:SlT w tv s.told
 met:w.ownsRow B 52 2 mv s.met.length (Qcp s.met)
 mn:s.met=[]→mv=.slice none 0 0
 bd:SBd M s
def SAt (w:World) (B sb:Nat) (M:Msg) (s:SS):Prop:=∃ hv mb tv mv,SI w B sb M s hv mb tv mv
theorem SI.fr{P:Nat->Obj->Prop}{w w':World}{B sb:Nat}{M:Msg}{s:SS}{hv:Value}{mb:Nat}{tv mv:Value}(h:SI w B sb M s hv mb tv mv)(hf:Fr P w w')(h1:∀ k cs,¬ P k (.cells cs 274))(h2:∀ k cs,¬ P k (.cells cs 52))(h3:∀ k cs,¬ P k (.cells cs 9))(h4:∀ k cs,¬ P k (.cells cs 50))(h5:∀ k es c,¬ P k (.map es c))(h6:∀ o,¬ P 1 o):SI w' B sb M s hv mb tv mv:=by
 obtain⟨es,c,hm,hu⟩:=h.mp;obtain⟨m,h7⟩:=h.m1;have h8:∃ o,w.heap[1]?=some o:=⟨_,Array.getElem?_eq_getElem (Qau h7)⟩;obtain⟨o,h8⟩:=h8;exact⟨h.bs,h.bm,h.b1,⟨m,by rw[World.cell?_of_block (a:=⟨1,0,none⟩) ((hf.block 1 o h8 (h6 o)).trans h8.symm)];exact h7⟩,hf.block _ _ h.blk (h1 _ _),h.hd.fr hf h4,⟨es,c,hf.block _ _ hm (h5 _ _ _),hu⟩,h.told.fr hf h3,QbL h.met hf h2,h.mn,h.bd⟩
theorem SI.below{w w':World}{B sb:Nat}{M:Msg}{s:SS}{hv:Value}{mb:Nat}{tv mv:Value}(h:SI w B sb M s hv mb tv mv)(hf:Below w.heap.size w w'):SI w' B sb M s hv mb tv mv:=
 h.fr (P:=fun _ _=>False) (Fr.of_below hf) (fun _ _ h=>h) (fun _ _ h=>h) (fun _ _ h=>h) (fun _ _ h=>h) (fun _ _ _ h=>h) (fun _ h=>h)
theorem SAt.below{w w':World}{B sb:Nat}{M:Msg}{s:SS}(h:SAt w B sb M s)(hf:Below w.heap.size w w'):SAt w' B sb M s:=by
 obtain⟨hv,mb,tv,mv,h⟩:=h;exact⟨hv,mb,tv,mv,h.below hf⟩
theorem SI.cell{w:World}{B sb:Nat}{M:Msg}{s:SS}{hv:Value}{mb:Nat}{tv mv:Value}(h:SI w B sb M s hv mb tv mv)(j:Nat):w.cell? ⟨sb,j,none⟩=(QlR M hv s.vs mb tv mv s.disc)[j]?:=Qaa h.blk j
theorem SI.frozen{w:World}{B sb:Nat}{M:Msg}{s:SS}{hv:Value}{mb:Nat}{tv mv:Value}(h:SI w B sb M s hv mb tv mv)(j:Nat):w.frozen? ⟨sb,j,none⟩=false:=Qao h.blk j
theorem SI.lt{w:World}{B sb:Nat}{M:Msg}{s:SS}{hv:Value}{mb:Nat}{tv mv:Value}(h:SI w B sb M s hv mb tv mv):sb<w.heap.size:=QaI h.blk
theorem SI.ps{w:World}{B sb:Nat}{M:Msg}{s:SS}{hv:Value}{mb:Nat}{tv mv:Value}(h:SI w B sb M s hv mb tv mv):PSt B sb (.cells (QlR M hv s.vs mb tv mv s.disc) 274):=⟨h.bs,rfl⟩
def QdI (i:Ins) (av bv:Value):Value:=.agg #[.int .i64 i.op,.int .i64 i.n,.int .i64 i.tag,.bool i.oct,av,bv,.int .i64 i.at_]
def QlP (i:Ins) (av bv:Value):Array Value:=#[.int .i64 i.op,.int .i64 i.n,.int .i64 i.tag,.bool i.oct,av,bv,.int .i64 i.at_]
structure Qck (w:World) (i:Ins) (av bv:Value):Prop where
 a:SlT w av i.a
 b:SlT w bv i.b
 al:∀ z∈i.a,z.length≤100000
 bl:∀ z∈i.b,z.length≤100000
 an:i.a.length≤1000000
 bn:i.b.length≤1000000
 n1:-9223372036854775808≤i.n
 n2:i.n≤9223372036854775807
theorem Qck.fr{P:Nat->Obj->Prop}{w w':World}{i:Ins}{av bv:Value}(h:Qck w i av bv)(hf:Fr P w w')(hp:∀ k cs,¬ P k (.cells cs 9)):Qck w' i av bv:=
 ⟨h.a.fr hf hp,h.b.fr hf hp,h.al,h.bl,h.an,h.bn,h.n1,h.n2⟩
theorem Qck.below{w w':World}{i:Ins}{av bv:Value}(h:Qck w i av bv)(hb:Below w.heap.size w w'):Qck w' i av bv:=h.fr (P:=fun _ _=>False) (Fr.of_below hb) (fun _ _ h=>h)
theorem Qdg{w:World}{base:Nat}{e:TypeId}{size:Nat}{v:Value}{n:Nat}{xs:List Value}(h:w.ownsRow base e size v n xs){b:Nat}(ac:v.ownBlock≠some b)(j:Nat)(x:Value):(w.setCell ⟨b,j,none⟩ x).ownsRow base e size v n xs:=by
 obtain⟨h1,h2⟩:=h;refine⟨h1,?_⟩;rcases h2 with h2 | ⟨g,aa,ab,hv,hg,hh,r⟩
 ·exact Or.inl h2
 ·refine Or.inr ⟨g,aa,ab,hv,hg,?_,r⟩;rw[Below.heap_setCell _ _ _ _ (show g≠b from fun e=>ac (by rw[hv,e];rfl))];exact hh
theorem Qfr(c d:UInt8):((c.toNat:Int)==(d.toNat:Int))=decide (c=d):=by
 by_cases h:c=d
 ·subst h;simp
 ·rw[decide_eq_false h];simp;intro e;exact h (UInt8.toNat_inj.1 (by omega))
theorem QwL(s:ByteArray)(p:UInt8->Bool)(k:Nat)(h:k<s.size):(s.data.toList.drop k).all p=(p s[k]&&(s.data.toList.drop (k+1)).all p):=by
 rw[Qbv s k h,List.all_cons]
theorem Qun(s:ByteArray)(p:UInt8->Bool)(k:Nat)(h:s.size<=k):(s.data.toList.drop k).all p=true:=by
 rw[List.drop_of_length_le (by simpa using h)];rfl
theorem Qqm(s:ByteArray)(h:0<s.size):s.data.toList.head?=some s[0]:=by
 have:=Qbv s 0 h;rw[List.drop_zero]at this;rw[this];rfl
theorem QrN(s:ByteArray)(h:0<s.size):s.data.toList.isEmpty=false:=by
 have:=Qbv s 0 h;rw[List.drop_zero]at this;rw[this];rfl
theorem Qob(s:ByteArray)(w:World)(hs:s.size<=1000000) :
 Calls Tryz.prog 268 #[.string s] w fun e w'=>e=.returned (.bool (Qdp s.data.toList))/\w'=w:=by
 have aa:s.data.toList.length=s.size:=by simp
 by_cases h0:s.size=0
 ·have ad:=Qea h0;have hr:Qdp s.data.toList=false:=by rw[<-ByteArray.toList_eq,ad];rfl
  have HR:=Qab hr;clear hr aa;go_enter func268,ntmps268;go_wp2;go_ret;exact⟨QaZ HR.o.symm,rfl⟩
 have ad:=QcJ h0;have h0'':s.toList.isEmpty=false:=by simpa using ad
 have h1:0<s.size:=by omega
 have ab:=QrN s h1;by_cases h16:16<s.size
 ·have hr:Qdp s.data.toList=false:=by unfold Qdp;rw[ab,decide_eq_false (by omega)];rfl
  have HR:=Qab hr;clear hr aa ab;go_enter func268,ntmps268;go_wp2;go_ret;exact⟨QaZ HR.o.symm,rfl⟩
 have ac:((s[0].toNat:Int)==46)=decide (s[0]=46):=Qfr s[0] 46;by_cases hd:s[0]=46
 ·rw[decide_eq_true hd]at ac;have hr:Qdp s.data.toList=false:=by unfold Qdp;rw[ab,decide_eq_true (by omega),Qqm s h1,hd];rfl
  have HR:=Qab hr;clear hr aa ab hd;go_enter func268,ntmps268;go_wp2;go_ret;exact⟨QaZ HR.o.symm,rfl⟩
 rw[decide_eq_false hd]at ac
 have hr:Qdp s.data.toList=(s.data.toList.drop 0).all QxM:=by
  unfold Qdp;rw[ab,decide_eq_true (by omega),Qqm s h1,List.drop_zero];simp[hd]
 have HR:=Qab hr;clear hr aa ab hd;go_enter func268,ntmps268;go_wp2
 go_loop [19] (fun i=>∃ k:Nat,k<=s.size/\i=.int .i64 k/\Qdp s.data.toList=(s.data.toList.drop k).all QxM) (fun i=>s.size - (intOf i).toNat)
 case atStart=>exact⟨0,by omega,rfl,HR.o⟩
 case round=>
  obtain⟨k,hk,rfl,hn⟩:=hrel;have HN:=Qab hn;clear hn ac;by_cases hlt:k<s.size;rotate_left
  ·have HS:=Qab (Qun s QxM k (by omega));go_wp2;go_ret;exact⟨QaZ (by rw[HN.o,HS.o]),rfl⟩
  have HS:=Qab (QwL s QxM k hlt);have HB:Hid (QxM s[k]=(Qbs (s[k].toNat:Int) || QaS (s[k].toNat:Int) || s[k]==45 || s[k]==46)):=rfl;have e45:((s[k].toNat:Int) != 45)=!(s[k]==45):=by rw[bne,show((s[k].toNat:Int)==45)=decide (s[k]=45)from Qfr s[k] 45];by_cases h:s[k]=45<;>simp[h]
  have ac:((s[k].toNat:Int) != 46)=!(s[k]==46):=by rw[bne,show((s[k].toNat:Int)==46)=decide (s[k]=46)from Qfr s[k] 46];by_cases h:s[k]=46<;>simp[h]
  generalize (s[k]==45)=b45 at *;generalize (s[k]==46)=b46 at *
  cases hc:Qbs (s[k].toNat:Int)<;>cases hd:QaS (s[k].toNat:Int)<;>cases b45<;>cases b46 <;>
  (go_wp2_with (first | (go_at_call 224;refine (QaK _ _).mono ?_;rintro e w' ⟨rfl,rfl⟩) | (go_at_call 227;refine (QaM _ _).mono ?_;rintro e w' ⟨rfl,rfl⟩))
   first
    |(go_ret;exact⟨QaZ (by rw[HN.o,HS.o,HB.o,hc,hd];rfl),rfl⟩)
    | (go_round
       case rel=>exact⟨k+1,by omega,by go_num,by rw[HN.o,HS.o,HB.o,hc,hd];rfl⟩
       case measure=>simp [intOf];omega))
end
end Go.Proofs.YtgnkjijocdmniaaGreatDoor
