import Derived.Test.YtgnkjijocdmniaaGreatDoorProg
import Derived.WalkKit
import Derived.WalkSpells
import Derived.WalkLawsBesides
import Derived.BigQuiet
import Derived.Deep.QuietTactic
import Derived.OrdersHeld
import Derived.Lib.ConvBytes
import Derived.Lib.AtoiErrMem
import Derived.Laws.AppendOwn
import Derived.Maps.AppendAt
import Derived.Deep.DrawnRows
import Derived.Lib.AppendIntMem
import Derived.Deep.RegionWith
import Derived.Deep.RegionHeld3
import Derived.Test.YtgnkjijocdmniaaGreatDoorZPlainBack2
import Derived.Test.YtgnkjijocdmniaaGreatDoorZPlainQ3
import Derived.Test.YtgnkjijocdmniaaGreatDoorShelf
namespace Go.Proofs.YtgnkjijocdmniaaGreatDoor
set_option linter.unusedVariables false
set_option linter.unusedSimpArgs false
set_option maxRecDepth 100000
set_option maxHeartbeats 4000000
section
open Go.RowKit
theorem hide {p:Prop} (h:p):Hid p:=h
theorem addr_add0 (b j:Nat):(⟨b,0,none⟩:Addr).add j=⟨b,j,none⟩:=by
 unfold Addr.add;split
 ·subst_vars;rfl
 ·simp
theorem ret_bool {a b:Bool} (h:a=b):Ending.returned (.bool a)=.returned (.bool b):=by rw [h]
theorem ret_int {k:IntKind} {a b:Int} (h:a=b):Ending.returned (.int k a)=.returned (.int k b):=by rw [h]
theorem isBlank_any (c:Int) (w:World) :
 Calls Tryz.prog 231 #[.int .u8 c] w fun e w'=>e=.returned (.bool (isBlankN c))∧w'=w:=by
 go_enter Tryz.func231,Tryz.ntmps231
 go_wp2
 all_goals (go_ret;exact ⟨ret_bool (by simp [isBlankN, *]),rfl⟩)
theorem isDigit_any (c:Int) (w:World) :
 Calls Tryz.prog 227 #[.int .u8 c] w fun e w'=>e=.returned (.bool (isDigitN c))∧w'=w:=by
 go_enter Tryz.func227,Tryz.ntmps227
 go_wp2
 all_goals (go_ret;exact ⟨ret_bool (by simp [isDigitN, *];try omega),rfl⟩)
theorem isCapital_any (c:Int) (w:World) :
 Calls Tryz.prog 220 #[.int .u8 c] w fun e w'=>e=.returned (.bool (isCapN c))∧w'=w:=by
 go_enter Tryz.func220,Tryz.ntmps220
 go_wp2
 all_goals (go_ret;exact ⟨ret_bool (by simp [isCapN, *];try omega),rfl⟩)
theorem isSmall_any (c:Int) (w:World) :
 Calls Tryz.prog 257 #[.int .u8 c] w fun e w'=>e=.returned (.bool (isSmN c))∧w'=w:=by
 go_enter Tryz.func257,Tryz.ntmps257
 go_wp2
 all_goals (go_ret;exact ⟨ret_bool (by simp [isSmN, *];try omega),rfl⟩)
theorem isLetter_any (c:Int) (w:World) :
 Calls Tryz.prog 224 #[.int .u8 c] w fun e w'=>e=.returned (.bool (isLetN c))∧w'=w:=by
 go_enter Tryz.func224,Tryz.ntmps224
 cases hsm:isSmN c <;> cases hca:isCapN c <;>
 (go_wp2_with (first | (go_at_call 220;refine (isCapital_any _ _).mono ?_;rintro e w' ⟨rfl,rfl⟩) | (go_at_call 257;refine (isSmall_any _ _).mono ?_;rintro e w' ⟨rfl,rfl⟩))
  all_goals (go_ret;exact ⟨ret_bool (by rw [isLetN_eq];simp [*]),rfl⟩))
theorem ba_getD (s:ByteArray) (k:Nat) (h:k < s.size):s.data.toList.getD k 0=s[k]:=by
 rw [List.getD_eq_getElem?_getD,List.getElem?_eq_getElem (by simpa using h)];rfl
theorem byteAt_in (s:ByteArray) (n:Int) (w:World) (hs:s.size≤maxLen) (h0:0≤n) (h:n < s.size) :
 Calls Tryz.prog 258 #[.string s,.int .i64 n] w fun e w'=>e=.returned (.int .u8 (s.data.toList.getD n.toNat 0).toNat)∧w'=w:=by
 unfold maxLen at hs
 go_enter Tryz.func258,Tryz.ntmps258
 go_wp2
 all_goals (go_ret;exact ⟨ret_int (by rw [ba_getD s _ (by omega)]),rfl⟩)
theorem byteAt_out (s:ByteArray) (n:Int) (w:World) (hs:s.size≤maxLen) (h:s.size≤n) :
 Calls Tryz.prog 258 #[.string s,.int .i64 n] w fun e w'=>e=.returned (.int .u8 (s.data.toList.getD n.toNat 0).toNat)∧w'=w:=by
 unfold maxLen at hs
 go_enter Tryz.func258,Tryz.ntmps258
 go_wp2
 all_goals (go_ret;exact ⟨ret_int (by rw [List.getD_eq_getElem?_getD,List.getElem?_eq_none (by simp;omega)];rfl),rfl⟩)
theorem byteAt_any (s:ByteArray) (n:Int) (w:World) (hs:s.size≤maxLen) (h0:0≤n) :
 Calls Tryz.prog 258 #[.string s,.int .i64 n] w fun e w'=>e=.returned (.int .u8 (s.data.toList.getD n.toNat 0).toNat)∧w'=w:=by
 by_cases h:n < s.size
 ·exact byteAt_in s n w hs h0 h
 ·exact byteAt_out s n w hs (by omega)
def byteOf (s:ByteArray) (n:Int):UInt8:=s.data.toList.getD n.toNat 0
theorem byteAt_of (s:ByteArray) (n:Int) (w:World) (hs:s.size≤maxLen) (h0:0≤n) :
 Calls Tryz.prog 258 #[.string s,.int .i64 n] w fun e w'=>e=.returned (.int .u8 (byteOf s n).toNat)∧w'=w:=byteAt_any s n w hs h0
theorem drop_cons (s:ByteArray) (k:Nat) (h:k < s.size):s.data.toList.drop k=s[k] :: s.data.toList.drop (k+1):=by
 rw [List.drop_eq_getElem_cons (by simpa using h)];rfl
theorem toList_size0 {s:ByteArray} (h:s.size=0):s.toList=[]:=by
 rw [ByteArray.toList_eq];apply List.eq_nil_of_length_eq_zero;simpa using h
theorem toList_sizePos {s:ByteArray} (h:¬ s.size=0):¬ s.toList=[]:=by
 rw [ByteArray.toList_eq];intro e;apply h;have:=congrArg List.length e;simpa using this
theorem nameLen_at (s:ByteArray) (h:0 < s.size) (hl:isLetN (s[0].toNat:Int)=true):nameLen s.data.toList=1+nameTail (s.data.toList.drop 1):=by
 have e:=drop_cons s 0 h
 rw [List.drop_zero] at e
 rw [e];simp only [nameLen];rw [if_pos hl];rfl
theorem nameLen_not (s:ByteArray) (h:0 < s.size) (hl:isLetN (s[0].toNat:Int)=false):nameLen s.data.toList=0:=by
 have e:=drop_cons s 0 h
 rw [List.drop_zero] at e
 rw [e];simp only [nameLen];rw [if_neg (by rw [hl];decide)]
theorem nameTail_step (s:ByteArray) (k:Nat) (h:k < s.size):nameTail (s.data.toList.drop k)=if letdig s[k] then 1+nameTail (s.data.toList.drop (k+1)) else 0:=by
 rw [drop_cons s k h,nameTail_cons]
theorem nameTail_end (s:ByteArray) (k:Nat) (h:s.size≤k):nameTail (s.data.toList.drop k)=0:=by
 rw [List.drop_of_length_le (by simpa using h)];rfl
theorem nameLength_any (s:ByteArray) (w:World) (hs:s.size≤maxLen) :
 Calls Tryz.prog 226 #[.string s] w fun e w'=>e=.returned (.int .i64 (nameLen s.data.toList))∧w'=w:=by
 unfold maxLen at hs
 by_cases h0:s.size=0
 ·have h0':=toList_size0 h0
  go_enter Tryz.func226,Tryz.ntmps226
  go_wp2
  go_ret
  exact ⟨ret_int (by rw [← ByteArray.toList_eq,h0'];rfl),rfl⟩
 have h0':=toList_sizePos h0
 have h0'':s.toList.isEmpty=false:=by simpa using h0'
 have h1:0 < s.size:=by omega
 cases hl:isLetN (s[0].toNat:Int)
 ·have H:Hid (nameLen s.data.toList=0):=nameLen_not s h1 hl
  go_enter Tryz.func226,Tryz.ntmps226
  go_wp2_with (go_at_call 224;refine (isLetter_any _ _).mono ?_;rintro e w' ⟨rfl,rfl⟩)
  go_ret
  exact ⟨ret_int (by rw [H.out];rfl),rfl⟩
 ·have H:Hid (nameLen s.data.toList=1+nameTail (s.data.toList.drop 1)):=nameLen_at s h1 hl
  go_enter Tryz.func226,Tryz.ntmps226
  go_wp2_with (go_at_call 224;refine (isLetter_any _ _).mono ?_;rintro e w' ⟨rfl,rfl⟩)
  go_loop [3] (fun i=>∃ k:Nat,k≤s.size∧i=.int .i64 k∧nameLen s.data.toList=k+nameTail (s.data.toList.drop k)) (fun i=>s.size - (intOf i).toNat)
  case atStart=>exact ⟨1,by omega,rfl,H.out⟩
  case round=>
   obtain ⟨k,hk,rfl,hn⟩:=hrel
   have HN:Hid (nameLen s.data.toList=k+nameTail (s.data.toList.drop k)):=hn
   clear hn hl
   by_cases hlt:k < s.size
   ·have HS:Hid (nameTail (s.data.toList.drop k)=if letdig s[k] then 1+nameTail (s.data.toList.drop (k+1)) else 0):=nameTail_step s k hlt
    cases hc:isLetN (s[k].toNat:Int)
    ·cases hd:isDigitN (s[k].toNat:Int)
     ·have HD:Hid (letdig s[k]=false):=by show letdig s[k]=false;simp [letdig,hc,hd]
      go_wp2_with (first | (go_at_call 224;refine (isLetter_any _ _).mono ?_;rintro e w' ⟨rfl,rfl⟩) | (go_at_call 227;refine (isDigit_any _ _).mono ?_;rintro e w' ⟨rfl,rfl⟩))
      go_ret
      exact ⟨ret_int (by rw [HN.out,HS.out,HD.out];simp),rfl⟩
     ·have HD:Hid (letdig s[k]=true):=by show letdig s[k]=true;simp [letdig,hd]
      go_wp2_with (first | (go_at_call 224;refine (isLetter_any _ _).mono ?_;rintro e w' ⟨rfl,rfl⟩) | (go_at_call 227;refine (isDigit_any _ _).mono ?_;rintro e w' ⟨rfl,rfl⟩))
      go_round
      case rel=>exact ⟨k+1,by omega,by go_num,by rw [HN.out,HS.out,HD.out];simp;omega⟩
      case measure=>simp [intOf];omega
    ·have HD:Hid (letdig s[k]=true):=by show letdig s[k]=true;simp [letdig,hc]
     go_wp2_with (first | (go_at_call 224;refine (isLetter_any _ _).mono ?_;rintro e w' ⟨rfl,rfl⟩) | (go_at_call 227;refine (isDigit_any _ _).mono ?_;rintro e w' ⟨rfl,rfl⟩))
     go_round
     case rel=>exact ⟨k+1,by omega,by go_num,by rw [HN.out,HS.out,HD.out];simp;omega⟩
     case measure=>simp [intOf];omega
   ·have HS:Hid (nameTail (s.data.toList.drop k)=0):=nameTail_end s k (by omega)
    go_wp2
    go_ret
    exact ⟨ret_int (by rw [HN.out,HS.out];simp),rfl⟩
end
section
open Go.RowKit
theorem pt (l:List Value) (ds:_) (d:Nat) (v:Value):Act.put ⟨l.toArray,ds⟩ (some d) v=⟨(l.set d v).toArray,ds⟩:=by simp [Act.put]
theorem sz (x y:Value) (l:List Value):(x :: l).set 0 y=y :: l:=rfl
theorem sc (x y:Value) (l:List Value) (n:Nat):(x :: l).set (n+1) y=x :: l.set n y:=rfl
theorem takeH {P:Program} {ops:Array Oper} {Q:Exit→Act→World→Prop} {md:Region.Mode} {S:World→Prop} (i d:Nat) (v:Value) {oi:Oper} {fuel:Nat} {listed:Array Bool} {a:Act} {w:World} (hi:ops[i]?=some oi) (hS:S w) (hv:∀ w',S w'→(execOp a.eval oi).run P w'=.ok (.value v) w') (h:wpAnyH P md ops Q S fuel (listed.setIfInBounds i true) (a.put (some d) v) w)
 (hd:oi.dst=some d:=by rfl) (hs:Region.noSelect ops=true:=by kernel_rfl) (hf:Region.free md ops listed i=true:=by kernel_rfl) (hr:(Region.ready md ops listed).contains i=true:=by kernel_rfl) (hQ:∀ c a w,Q (.panic c) (a.put (some d) v) w→Q (.panic c) a w:=by exact fun _ _ _ h=>h) (hw:Region.wanted oi (yielded ops a.tmps)=true:=by rfl):wpAnyH P md ops Q S (fuel+1) listed a w:=
 wpAnyH_take hi hs hf hr (by rw [hd];exact hQ) (Or.inl ⟨hw,hv⟩) hS (by rw [hd];exact h)
end
section
open Go.RowKit
def smallTo (s:ByteArray) (k j:Nat):UInt8:=if j < k then smallB (s.data.toList.getD j 0) else s.data.toList.getD j 0
theorem smallB_val (c:UInt8) (h:isCapN (c.toNat:Int)=true):((smallB c).toNat:Int)=(c.toNat:Int) - 65+97:=by
 have hc:=h
 unfold isCapN at hc
 simp at hc
 have e:smallB c=c - 65+97:=by unfold smallB;rw [if_pos h]
 rw [e,UInt8.toNat_add,UInt8.toNat_sub]
 simp
 omega
theorem smallB_not (c:UInt8) (h:isCapN (c.toNat:Int)=false):smallB c=c:=by
 unfold smallB;rw [if_neg (by rw [h];decide)]
theorem smallTo_keep (s:ByteArray) (k j:Nat) (h:isCapN ((s.data.toList.getD k 0).toNat:Int)=false):smallTo s k j=smallTo s (k+1) j:=by
 unfold smallTo
 by_cases e:j=k
 ·subst e;rw [if_neg (by omega),if_pos (by omega),smallB_not _ h]
 ·by_cases l:j < k
  ·rw [if_pos l,if_pos (by omega)]
  ·rw [if_neg l,if_neg (by omega)]
theorem smallTo_other (s:ByteArray) (k j:Nat) (e:¬ j=k):smallTo s k j=smallTo s (k+1) j:=by
 unfold smallTo
 by_cases l:j < k
 ·rw [if_pos l,if_pos (by omega)]
 ·rw [if_neg l,if_neg (by omega)]
theorem smallTo_self (s:ByteArray) (k:Nat):smallTo s (k+1) k=smallB (s.data.toList.getD k 0):=by
 unfold smallTo;rw [if_pos (by omega)]
theorem small_any (s:ByteArray) (w:World) (hs:s.size≤140737488355328) :
 Calls Tryz.prog 181 #[.string s] w fun e w'=>e=.returned (.string ⟨(smallL s.data.toList).toArray⟩)∧Below w.heap.size w w':=by
 have hcv:=Lib.run_convert_string_bytes (P:=Tryz.prog) w 9 198 5 s (u:=.string) Tryz.underlying9 Tryz.underlying198 Tryz.underlying5
 have hB:=Lib.bytesWorld_below w 5 s
 have hcell:∀ j,j < s.size→(Lib.bytesWorld w 5 s).cell? ⟨w.heap.size,j,none⟩=some (.int .u8 (smallTo s 0 j).toNat):=fun j hj=>by
  rw [Lib.bytesWorld_cell w 5 s j hj];simp [smallTo]
 have hfz:∀ j,j < s.size→(Lib.bytesWorld w 5 s).frozen? ⟨w.heap.size,j,none⟩=false:=fun j hj=>by
  unfold World.frozen?;rw [Lib.bytesWorld_at_new];simp [Lib.bytesCells];omega
 have hsz:=Lib.bytesWorld_size w 5 s
 generalize Lib.bytesWorld w 5 s=W1 at hcv hB hcell hfz hsz
 have hlist:∀ (wr:World),(∀ j,j < s.size→wr.cell? ⟨w.heap.size,j,none⟩=some (.int .u8 (smallTo s s.size j).toNat))→
  ∀ C,(convert 198 9 (.slice (some ⟨w.heap.size,0,none⟩) s.size C)).run Tryz.prog wr=.ok (.string ⟨(smallL s.data.toList).toArray⟩) wr:=fun wr hw C=>by
  have hl:(smallL s.data.toList).length=s.size:=by simp [smallL]
  have:=run_convert_bytes_back (P:=Tryz.prog) wr 198 9 5 ⟨w.heap.size,0,none⟩ C (smallL s.data.toList) Tryz.underlying198 Tryz.underlying5 Tryz.underlying9 (fun j hj=>by
   rw [addr_add0,hw j (by omega)]
   have hj':j < s.data.toList.length:=by simp [smallL] at hj;simpa using hj
   simp only [smallTo,smallL,List.getElem_map]
   rw [if_pos (by omega),List.getD_eq_getElem?_getD,List.getElem?_eq_getElem hj'];rfl)
  rw [hl] at this
  exact this
 have HL:=hide hlist
 clear hlist
 go_enter Tryz.func181,Tryz.ntmps181
 go_wp2_with fail
 generalize grownCap w s.size 0 5=C at *
 go_loopw [4,5,10] (fun _ _ i wr=>∃ k:Nat,k≤s.size∧i=.int .i64 k∧Below w.heap.size w wr∧(∀ j,j < s.size→wr.cell? ⟨w.heap.size,j,none⟩=some (.int .u8 (smallTo s k j).toNat))∧(∀ j,j < s.size→wr.frozen? ⟨w.heap.size,j,none⟩=false)∧wr.heap.size=w.heap.size+1) (fun _ _ i _=>s.size - (intOf i).toNat)
 case atStart=>exact ⟨0,by omega,rfl,hB,hcell,hfz,hsz⟩
 case round=>
  obtain ⟨k,hk,rfl,hB',hcell',hfz',hsz'⟩:=hrel
  clear hB hcell hfz hsz hcv
  by_cases hlt:k < s.size
  ·have hck:=hcell' k hlt
   have hfk:=hfz' k hlt
   simp only [smallTo] at hck
   rw [if_neg (by omega)] at hck
   generalize hcd:s.data.toList.getD k 0=c at hck
   have HCD:=hide hcd
   clear hcd
   have hb:=UInt8.toNat_lt c
   have HC:=hide hcell'
   have HF:=hide hfz'
   clear hcell' hfz'
   cases hc:isCapN (c.toNat:Int)
   ·go_wp2_with (go_at_call 220;refine (isCapital_any _ _).mono ?_;rintro e w' ⟨rfl,rfl⟩)
    refine ⟨⟨k+1,by omega,by go_num,hB',fun j hj=>?_,HF.out,hsz'⟩,by simp [intOf];omega⟩
    rw [HC.out j hj,smallTo_keep s k j (by rw [HCD.out];exact hc)]
   ·have hv:=hide (smallB_val c hc)
    have hc1:65≤(c.toNat:Int)∧(c.toNat:Int)≤90:=by unfold isCapN at hc;simpa using hc
    obtain ⟨hc1,hc2⟩:=hc1
    go_wp2_with (go_at_call 220;refine (isCapital_any _ _).mono ?_;rintro e w' ⟨rfl,rfl⟩)
    refine ⟨⟨k+1,by omega,by go_num,?_,fun j hj=>?_,fun j hj=>?_,?_⟩,by simp [intOf];omega⟩
    ·exact hB'.setCell (Nat.le_refl _) _
    ·by_cases e:j=k
     ·subst e
      rw [World.cell?_setCell_same _ _ _ hck,smallTo_self,HCD.out]
      rw [hv.out]
     ·rw [World.cell?_setCell_other _ _ _ _ (by simp [e]),HC.out j hj,smallTo_other s k j e]
    ·rw [World.frozen?_setCell];exact HF.out j hj
    ·simpa using hsz'
  ·have hk':k=s.size:=by omega
   subst hk'
   have hr:=HL.out wr hcell' C
   go_wp2
   go_ret
   exact ⟨rfl,hB'⟩
end
section
open Go.RowKit
def Threw (f:Flt) (w:World) (e:Ending) (w':World):Prop:=
 ∃ b,w.heap.size≤b∧e=.panicked [{ v:=.iface 125 (.pointer (some ⟨b,0,none⟩)),recovered:=false }]∧
  w'.heap[b]?=some (.cells #[.int .i64 f.err,.int .i64 f.pos] 130)
theorem fault_any (er at_:Int) (w:World) :
 Calls Tryz.prog 103 #[.int .i64 er,.int .i64 at_] w fun e w'=>e=.returned (.pointer (some ⟨w.heap.size,0,none⟩))∧w'=w.alloc (.cells #[.int .i64 er,.int .i64 at_] 130):=by
 go_enter Tryz.func103,Tryz.ntmps103
 go_wp2
 go_ret
 exact ⟨rfl,rfl⟩
theorem lineLen_lt (l:List UInt8) (h:Lib.indexByte l 10 < 0):(lineLen l:Int)=l.length:=by unfold lineLen;rw [if_pos h]
theorem lineLen_ge (l:List UInt8) (h:¬ Lib.indexByte l 10 < 0):(lineLen l:Int)=Lib.indexByte l 10+1:=by unfold lineLen;rw [if_neg h];omega
theorem lineLength_any (s:ByteArray) (w:World) (hs:s.size≤140737488355328) :
 Calls Tryz.prog 232 #[.string s] w fun e w'=>e=.returned (.int .i64 (lineLen s.data.toList))∧w'=w:=by
 have hle:=indexByte_lt s.data.toList 10
 have hge:=Lib.indexByte_ge s.data.toList 10
 have h1:=hide (lineLen_lt s.data.toList)
 have h2:=hide (lineLen_ge s.data.toList)
 have hl:(s.data.toList.length:Int)=s.size:=by simp
 rw [hl] at hle
 have e10:(Int.toNat 10).toUInt8=(10:UInt8):=rfl
 by_cases hn:Lib.indexByte s.data.toList 10 < 0
 ·go_enter Tryz.func232,Tryz.ntmps232
  go_wp2_with (go_at_call 230;refine (Tryz.strings_IndexByte _ _ _).mono ?_;rintro e w' ⟨rfl,rfl⟩)
  go_ret
  exact ⟨ret_int (by rw [h1.out hn,hl]),rfl⟩
 ·go_enter Tryz.func232,Tryz.ntmps232
  go_wp2_with (go_at_call 230;refine (Tryz.strings_IndexByte _ _ _).mono ?_;rintro e w' ⟨rfl,rfl⟩)
  go_ret
  exact ⟨ret_int (by rw [h2.out (by omega)]),rfl⟩
end
section
open Go.RowKit
theorem extract_list (s:ByteArray) (a:Nat):(s.extract a s.size).data.toList=s.data.toList.drop a:=by
 rw [ByteArray.data_extract,Array.toList_extract,List.extract_eq_take_drop]
 rw [List.take_of_length_le]
 simp
theorem extract_size (s:ByteArray) (a:Nat):(s.extract a s.size).size=s.size - a:=by
 rw [Lib.size_eq,extract_list];simp
theorem skipF_nil (f p:Nat):skipF f [] p=.ok p:=by cases f <;> rfl
theorem skipF_blank (f p:Nat) (c:UInt8) (r:List UInt8) (h:isBlankN c.toNat=true):skipF (f+1) (c :: r) p=skipF f r (p+1):=by
 simp only [skipF];rw [if_pos h]
theorem skipF_line (f p:Nat) (c:UInt8) (r:List UInt8) (h:isBlankN c.toNat=false) (h1:c.toNat=35):skipF (f+1) (c :: r) p=skipF f ((c :: r).drop (lineLen (c :: r))) (p+lineLen (c :: r)):=by
 simp only [skipF];rw [if_neg (by rw [h];decide),if_pos h1]
theorem skipF_open (f p:Nat) (c:UInt8) (r:List UInt8) (h:isBlankN c.toNat=false) (h1:¬ c.toNat=35) (h2:Lib.hasPrefix (c :: r) [47,42]=true) (h3:Lib.index (r.drop 1) [42,47] < 0):skipF (f+1) (c :: r) p=.error ⟨2,p⟩:=by
 simp only [skipF];rw [if_neg (by rw [h];decide),if_neg h1,if_pos h2,if_pos h3]
theorem skipF_note (f p:Nat) (c:UInt8) (r:List UInt8) (h:isBlankN c.toNat=false) (h1:¬ c.toNat=35) (h2:Lib.hasPrefix (c :: r) [47,42]=true) (h3:¬ Lib.index (r.drop 1) [42,47] < 0):skipF (f+1) (c :: r) p=skipF f ((c :: r).drop (4+(Lib.index (r.drop 1) [42,47]).toNat)) (p+(4+(Lib.index (r.drop 1) [42,47]).toNat)):=by
 simp only [skipF];rw [if_neg (by rw [h];decide),if_neg h1,if_pos h2,if_neg h3]
theorem skipF_stop (f p:Nat) (c:UInt8) (r:List UInt8) (h:isBlankN c.toNat=false) (h1:¬ c.toNat=35) (h2:Lib.hasPrefix (c :: r) [47,42]=false):skipF (f+1) (c :: r) p=.ok p:=by
 simp only [skipF];rw [if_neg (by rw [h];decide),if_neg h1,if_neg (by rw [h2];decide)]
theorem hasPrefix_two (l:List UInt8) (a b:UInt8) (h:Lib.hasPrefix l [a,b]=true):2≤l.length:=by
 have:=(List.isPrefixOf_iff_prefix.1 h).length_le
 simpa using this
def SkipPost (r:Except Flt Nat) (w:World) (e:Ending) (w':World):Prop:=
 match r with
 | .ok n=>e=.returned (.int .i64 n)∧w'=w
 | .error f=>Threw f w e w'∧Below w.heap.size w w'
theorem SkipPost.ok {r:Except Flt Nat} {n:Nat} {w:World} {x:Int} (h:r=.ok n) (hx:x=n):SkipPost r w (.returned (.int .i64 x)) w:=by
 subst h;subst hx;exact ⟨rfl,rfl⟩
theorem threw_new (er p:Nat) (w:World):Threw ⟨er,p⟩ w (.panicked [{ v:=.iface 125 (.pointer (some ⟨w.heap.size,0,none⟩)),recovered:=false }]) (w.alloc (.cells #[.int .i64 er,.int .i64 p] 130)):=by
 refine ⟨w.heap.size,Nat.le_refl _,rfl,?_⟩
 show (w.heap.push _)[w.heap.size]?=_
 simp
theorem SkipPost.err {r:Except Flt Nat} {er p:Nat} {w:World} (h:r=.error ⟨er,p⟩) :
 SkipPost r w (.panicked [{ v:=.iface 125 (.pointer (some ⟨w.heap.size,0,none⟩)),recovered:=false }]) (w.alloc (.cells #[.int .i64 er,.int .i64 p] 130)):=by
 subst h;exact ⟨threw_new er p w,(Below.refl _ _).alloc (Nat.le_refl _) _⟩
theorem skip_any (s:ByteArray) (at_ f0:Nat) (m:Int) (w:World) (hs:s.size≤4294967280) (ha:at_≤s.size) (hf:s.size - at_ < f0) (hm:w.cell? ⟨1,0,none⟩=some (.int .i64 m)) :
 Calls Tryz.prog 194 #[.string s,.int .i64 at_] w (SkipPost (skipF f0 (s.data.toList.drop at_) at_) w):=by
 go_enter Tryz.func194,Tryz.ntmps194
 go_wp2_with fail
 go_loop [1,5,6] (fun a _ _=>∃ k f:Nat,k≤s.size∧s.size - k < f∧a=.int .i64 k∧skipF f0 (s.data.toList.drop at_) at_=skipF f (s.data.toList.drop k) k) (fun a _ _=>s.size - (intOf a).toNat)
 case atStart=>exact ⟨at_,f0,ha,hf,rfl,rfl⟩
 case round=>
  obtain ⟨k,f,hk,hkf,rfl,hR⟩:=hrel
  obtain ⟨f,rfl⟩:∃ g,f=g+1:=⟨f - 1,by omega⟩
  have HR:=hide hR
  clear hR
  by_cases hlt:k < s.size
  ·have hd:=drop_cons s k hlt
   obtain ⟨rs,hx⟩:∃ rs,s.extract k s.size=rs:=⟨_,rfl⟩
   have HL:Hid (rs.data.toList=s.data.toList.drop k):=by rw [← hx];exact extract_list s k
   have hz:rs.size=s.size - k:=by rw [← hx];exact extract_size s k
   have hz0:0 < rs.size:=by omega
   have hz1:rs.size≤s.size - k:=by omega
   have HZ:=hide hz
   clear hz
   have h0:rs[0]=s[k]:=by
    have e:=HL.out
    rw [hd] at e
    have e2:=drop_cons rs 0 hz0
    rw [List.drop_zero,e] at e2
    exact (List.cons.inj e2).1.symm
   generalize hcd:s[k]=c at h0 hd
   clear hcd
   rw [hd] at HR
   have HD:=hide hd
   clear hd
   cases hb:isBlankN (c.toNat:Int)
   ·by_cases h35:(c.toNat:Int)=35
    ·have HS:=hide (skipF_line f k c (s.data.toList.drop (k+1)) hb (by omega))
     have hll:=lineLen_le rs.data.toList
     have hlp:1≤lineLen rs.data.toList:=by rw [HL.out,HD.out];exact lineLen_pos _ _
     have hlz:rs.data.toList.length=rs.size:=by simp
     rw [hlz] at hll
     have h35':((c.toNat:Int) == 35)=true:=by simpa using h35
     clear h35
     have HLL:Hid (lineLen (c :: s.data.toList.drop (k+1))=lineLen rs.data.toList):=by show _=_;rw [HL.out,HD.out]
     go_wp2_with (first | (go_at_call 231;refine (isBlank_any _ _).mono ?_;rintro e w' ⟨rfl,rfl⟩) | (go_at_call 232;refine (lineLength_any _ _ (by omega)).mono ?_;rintro e w' ⟨rfl,rfl⟩))
     refine ⟨⟨k+lineLen rs.data.toList,f,by omega,by omega,by go_num,?_⟩,by simp [intOf];omega⟩
     rw [HR.out,HS.out,HLL.out,← HD.out,List.drop_drop]
    ·have h35':((c.toNat:Int) == 35)=false:=by simpa using h35
     cases hp:Lib.hasPrefix rs.data.toList [47,42]
     ·have HS:=hide (skipF_stop f k c (s.data.toList.drop (k+1)) hb (by omega) (by rw [← HD.out,← HL.out];exact hp))
      clear h35
      go_wp2_with (first | (go_at_call 231;refine (isBlank_any _ _).mono ?_;rintro e w' ⟨rfl,rfl⟩) | (go_at_call 233;refine (Tryz.strings_HasPrefix _ _ _).mono ?_;rintro e w' ⟨rfl,rfl⟩))
      go_ret
      exact SkipPost.ok (by rw [HR.out,HS.out]) rfl
     ·have h2:=hasPrefix_two _ _ _ hp
      have hlz:rs.data.toList.length=rs.size:=by simp
      rw [hlz] at h2
      obtain ⟨rt,hx2⟩:∃ rt,rs.extract 2 rs.size=rt:=⟨_,rfl⟩
      have HL2:Hid (rt.data.toList=(s.data.toList.drop (k+1)).drop 1):=by
       show _=_
       rw [← hx2,extract_list,HL.out,HD.out];rfl
      have hz2:rt.size=rs.size - 2:=by rw [← hx2];exact extract_size rs 2
      have hz3:rt.size≤rs.size - 2:=by omega
      have hzz:(rt.data.toList.length:Int)=rt.size:=by simp
      have hroom:=index_room rt.data.toList [42,47]
      rw [hzz] at hroom
      have hge:=Lib.index_ge rt.data.toList [42,47]
      clear hz2 hlz hzz
      by_cases hi:Lib.index rt.data.toList [42,47] < 0
      ·have HS:=hide (skipF_open f k c (s.data.toList.drop (k+1)) hb (by omega) (by rw [← HD.out,← HL.out];exact hp) (by rw [← HL2.out];exact hi))
       clear h35 hroom
       go_wp2_with (first | (go_at_call 231;refine (isBlank_any _ _).mono ?_;rintro e w' ⟨rfl,rfl⟩) | (go_at_call 233;refine (Tryz.strings_HasPrefix _ _ _).mono ?_;rintro e w' ⟨rfl,rfl⟩) | (go_at_call 234;refine (Tryz.strings_Index _ _ m _ (by omega) hm).mono ?_;rintro e w' ⟨rfl,rfl⟩) | (go_at_call 103;refine (fault_any _ _ _).mono ?_;rintro e w' ⟨rfl,rfl⟩))
       exact ⟨rfl,SkipPost.err (by rw [HR.out,HS.out])⟩
      ·have hroom':Lib.index rt.data.toList [42,47]+2≤rt.size:=by
        rcases hroom with h | h
        ·exact absurd h hi
        ·simpa using h
       have HS:=hide (skipF_note f k c (s.data.toList.drop (k+1)) hb (by omega) (by rw [← HD.out,← HL.out];exact hp) (by rw [← HL2.out];exact hi))
       clear h35 hroom
       go_wp2_with (first | (go_at_call 231;refine (isBlank_any _ _).mono ?_;rintro e w' ⟨rfl,rfl⟩) | (go_at_call 233;refine (Tryz.strings_HasPrefix _ _ _).mono ?_;rintro e w' ⟨rfl,rfl⟩) | (go_at_call 234;refine (Tryz.strings_Index _ _ m _ (by omega) hm).mono ?_;rintro e w' ⟨rfl,rfl⟩) | (go_at_call 103;refine (fault_any _ _ _).mono ?_;rintro e w' ⟨rfl,rfl⟩))
       refine ⟨⟨k+(4+(Lib.index rt.data.toList [42,47]).toNat),f,by omega,by omega,congrArg _ (by omega),?_⟩,by simp [intOf];omega⟩
       rw [HR.out,HS.out,← HL2.out,← HD.out,List.drop_drop]
   ·have HS:=hide (skipF_blank f k c (s.data.toList.drop (k+1)) hb)
    go_wp2_with (first | (go_at_call 231;refine (isBlank_any _ _).mono ?_;rintro e w' ⟨rfl,rfl⟩))
    go_round
    case rel=>exact ⟨k+1,f,by omega,by omega,by go_num,by rw [HR.out,HS.out]⟩
    case measure=>simp [intOf];omega
  ·go_wp2
   go_ret
   exact SkipPost.ok (by rw [HR.out,List.drop_of_length_le (by simp;omega),skipF_nil]) rfl
end
section
open Go.RowKit
theorem extract_take (s:ByteArray) (a n:Nat):(s.extract a (a+n)).data.toList=(s.data.toList.drop a).take n:=by
 rw [ByteArray.data_extract,Array.toList_extract,List.extract_eq_take_drop]
 rw [show a+n - a=n from by omega]
theorem bcell {W w1:World} (hb:Below W.heap.size W w1):(∀ b o,b < W.heap.size→w1.cell? ⟨b,o,none⟩=W.cell? ⟨b,o,none⟩)∧(∀ b o,b < W.heap.size→w1.frozen? ⟨b,o,none⟩=W.frozen? ⟨b,o,none⟩):=
 ⟨fun b o h=>hb.cell (p:=⟨b,o,none⟩) h,fun b o h=>hb.frozen (p:=⟨b,o,none⟩) h⟩
def wdV (x:Wd):Value:=.agg #[.int .i64 x.kind,.int .i64 x.pos,.string ⟨x.spelt.toArray⟩,.string ⟨x.said.toArray⟩,.int .i64 x.num]
def ScanPost (r:Except Flt (Wd×Nat)) (w:World) (e:Ending) (w':World):Prop:=
 Below w.heap.size w w'∧
 match r with
 | .ok x=>e=.returned (.tuple #[wdV x.1,.int .i64 x.2])
 | .error f=>Threw f w e w'
theorem ScanPost.ok {r:Except Flt (Wd×Nat)} {x:Wd×Nat} {w w':World} {v:Value} {n:Int} (h:r=.ok x) (hb:Below w.heap.size w w') (hv:v=wdV x.1) (hn:n=x.2):ScanPost r w (.returned (.tuple #[v,.int .i64 n])) w':=by
 subst h;subst hv;subst hn;exact ⟨hb,rfl⟩
theorem ScanPost.err {r:Except Flt (Wd×Nat)} {f:Flt} {w w':World} {e:Ending} (h:r=.error f) (hb:Below w.heap.size w w') (ht:Threw f w e w'):ScanPost r w e w':=by
 subst h;exact ⟨hb,ht⟩
theorem Threw.up {f:Flt} {w w1 w':World} {e:Ending} (h:Threw f w1 e w') (hz:w.heap.size≤w1.heap.size):Threw f w e w':=by
 obtain ⟨b,hb,h⟩:=h
 exact ⟨b,Nat.le_trans hz hb,h⟩
theorem threw_at (er p:Nat) {w w1:World} {b:Nat} (hz:w.heap.size≤w1.heap.size) (hb:b=w1.heap.size) :
 Threw ⟨er,p⟩ w (.panicked [{ v:=.iface 125 (.pointer (some ⟨b,0,none⟩)),recovered:=false }]) (w1.alloc (.cells #[.int .i64 er,.int .i64 p] 130)):=by
 subst hb;exact (threw_new er p w1).up hz
theorem scanSpelt_any (k:Int) (s:ByteArray) (at_ n:Nat) (w:World) (hs:s.size≤4294967280) (ha:at_+n≤s.size) :
 Calls Tryz.prog 225 #[.int .i64 k,.string s,.int .i64 at_,.int .i64 n] w fun e w'=>
  e=.returned (.tuple #[.agg #[.int .i64 k,.int .i64 at_,.string ⟨(smallL ((s.data.toList.drop at_).take n)).toArray⟩,.string ⟨#[]⟩,.int .i64 0],.int .i64 (at_+n:Nat)])∧Below w.heap.size w w':=by
 obtain ⟨rs,hx⟩:∃ rs,s.extract at_ (at_+n)=rs:=⟨_,rfl⟩
 have HL:Hid (rs.data.toList=(s.data.toList.drop at_).take n):=by rw [← hx];exact extract_take s at_ n
 have hz:rs.size≤s.size:=by
  rw [Lib.size_eq,HL.out];simp;omega
 go_enter Tryz.func225,Tryz.ntmps225
 go_wp2_with fail
 refine (small_any rs _ (by omega)).mono ?_
 rintro e w1 ⟨rfl,hb⟩
 rw [HL.out]
 obtain ⟨hc,hf⟩:=bcell hb
 have hz1:w.heap.size < w1.heap.size:=by have:=hb.size;simp at this;omega
 have HB:=hide hb
 clear hb
 go_wp2
 have hb0:Below w.heap.size w w1:=((Below.refl _ w).alloc (Nat.le_refl _) _).trans (HB.out.mono (by simp))
 refine bodyPost_ret (v:=.tuple #[.agg #[.int .i64 k,.int .i64 at_,.string ⟨(smallL ((s.data.toList.drop at_).take n)).toArray⟩,.string ⟨#[]⟩,.int .i64 0],.int .i64 (at_+n:Nat)]) (by simp [results,Tryz.results225,go_sem,hc,hz1]) rfl ⟨rfl,?_⟩
 exact ((((hb0.setCell (Nat.le_refl _) _).setCell (Nat.le_refl _) _).setCell (Nat.le_refl _) _).setCell (Nat.le_refl _) _).setCell (Nat.le_refl _) _
end
section
open Go.RowKit
theorem strA_size (x:List UInt8):(strA x).size=x.length:=rfl
theorem strA_app (x y:List UInt8):strA x++strA y=strA (x++y):=by
 unfold strA
 apply ByteArray.ext
 simp
theorem strA_beq (x y:List UInt8):((strA x).toList == y)=decide (x=y):=by
 rw [ByteArray.toList_eq,show (strA x).data.toList=x from rfl,Bool.eq_iff_iff]
 simp
theorem cell_lt {w:World} {a:Addr} {v:Value} (h:w.cell? a=some v):a.block < w.heap.size:=by
 rcases Nat.lt_or_ge a.block w.heap.size with h' | h'
 ·exact h'
 ·unfold World.cell? at h;rw [Array.getElem?_eq_none h'] at h;cases h
def TxtAt (w:World) (g:Nat) (zs:List (List UInt8)):Prop:=
 ∀ j,j < zs.length→w.cell? ⟨g,j,none⟩=some (.string (strA (zs.getD j [])))
theorem below_drew {w w':World} (h:Below w.drew.heap.size w.drew w'):Below w.heap.size w w':=⟨h.os,h.tape,h.output,h.size,h.block⟩
theorem heap_setCell_at (w:World) (b o:Nat) (v:Value) (cs:Array Value) (ty:TypeId) (h:w.heap[b]?=some (.cells cs ty)):(w.setCell ⟨b,o,none⟩ v).heap[b]?=some (.cells (cs.setIfInBounds o v) ty):=by
 simp only [World.setCell,Array.getElem?_modify]
 rw [if_pos trivial,h]
 rfl
theorem blk_cell {w:World} {g:Nat} {cs:Array Value} {ty:TypeId} (h:w.heap[g]?=some (.cells cs ty)) (o:Nat):w.cell? ⟨g,o,none⟩=cs[o]?:=by
 unfold World.cell?;rw [h];rfl
theorem blk_frozen {w:World} {g:Nat} {cs:Array Value} {ty:TypeId} (h:w.heap[g]?=some (.cells cs ty)) (o:Nat):w.frozen? ⟨g,o,none⟩=false:=by
 unfold World.frozen?;rw [h];simp
theorem blk_lt {w:World} {g:Nat} {o:Obj} (h:w.heap[g]?=some o):g < w.heap.size:=by
 rcases Nat.lt_or_ge g w.heap.size with h' | h'
 ·exact h'
 ·rw [Array.getElem?_eq_none h'] at h;cases h
theorem blk_alloc {w:World} {g:Nat} {o o':Obj} (h:w.heap[g]?=some o):(w.alloc o').heap[g]?=some o:=by
 rw [Below.heap_alloc _ _ _ (blk_lt h)];exact h
theorem blk_new (w:World) (o:Obj):(w.alloc o).heap[w.heap.size]?=some o:=by
 show (w.heap.push o)[w.heap.size]?=_
 simp
theorem blk_newAt {w:World} {g:Nat} {o:Obj} (h:g=w.heap.size):(w.alloc o).heap[g]?=some o:=by subst h;exact blk_new w o
theorem blk_below {w w':World} {g:Nat} {o:Obj} (h:w.heap[g]?=some o) (hb:Below w.heap.size w w'):w'.heap[g]?=some o:=by
 rw [hb.block g (blk_lt h)];exact h
theorem gen_world {P:World→Prop} {w W:World} {B:Nat} {o:Obj} (h1:Below B w W) (h2:W.heap[B]?=some o) (h3:∀ W',Below B w W'→W'.heap[B]?=some o→P W'):P W:=h3 W h1 h2
theorem below_alloc {w W:World} {B:Nat} (h:Below B w W) (hB:B≤w.heap.size) (o:Obj):Below B w (W.alloc o):=h.alloc (Nat.le_trans hB h.size) o
def tcells (zs:List (List UInt8)):List Value:=zs.map fun z=>Value.string (strA z)
theorem tcells_snoc (zs:List (List UInt8)) (z:List UInt8):tcells zs++[.string (strA z)]=tcells (zs++[z]):=by simp [tcells]
theorem Tryz.infoStr:(Tryz.prog.info? 9).map (fun i=>(i.zero,i.size,i.bytes))=some (some (.string ⟨#[]⟩),1,16):=by kernel_rfl
theorem TxtAt.of_owns {w:World} {base g n c:Nat} {xs:List (List UInt8)} (h:w.ownsRow base 9 1 (.slice (some ⟨g,0,none⟩) n c) n (tcells xs)):TxtAt w g xs:=fun j hj=>by
 have:=h.cells (g:=g) rfl j (.string (strA (xs.getD j []))) (by simp [tcells,List.getElem?_eq_getElem hj,List.getD_eq_getElem?_getD])
 rw [addr_add0] at this
 exact this
theorem txt_alloc (w:World) (zs:List (List UInt8)) (cs:Array Value) (ty:TypeId) (h:cs=(tcells zs).toArray):TxtAt (w.alloc (.cells cs ty)) w.heap.size zs:=fun j hj=>by
 subst h
 have:(w.alloc (.cells (tcells zs).toArray ty)).heap[w.heap.size]?=some (.cells (tcells zs).toArray ty):=by
  show (w.heap.push _)[w.heap.size]?=_
  simp
 unfold World.cell?
 rw [this]
 simp [tcells,List.getD_eq_getElem?_getD,hj]
theorem txt_newAt {w:World} {g:Nat} (zs:List (List UInt8)) (ty:TypeId) (h:g=w.heap.size):TxtAt (w.alloc (.cells (tcells zs).toArray ty)) g zs:=by subst h;exact txt_alloc w zs _ ty rfl
end
section
open Go.RowKit
attribute [local go_sem ↓] Go.wp_at_zero Go.wp_at_succ
def Tab (w:World):Prop:=Lib.TabIs Tryz.prog w "internal/strconv.uint64pow10" .u64 Lib.pow10Tab
theorem Tab.below {w w':World} (h:Tab w) (hb:Below w.heap.size w w'):Tab w':=Lib.tabBelow_of_tabIs h w' hb
theorem itoa_any (n:Nat) (hn:n≤2147483647) (w:World) (ht:Tab w) :
 Calls Tryz.prog 240 #[.int .i64 n] w fun e w'=>e=.returned (.string (strA (itoaL n)))∧Below w.heap.size w w':=by
 refine (Tryz.strconv_Itoa n (by omega) (by omega) w ht).mono ?_
 rintro e w' ⟨rfl,k,os,rfl⟩
 exact ⟨by rw [Lib.itoa_nonneg];rfl,Lib.below_grow _ _ (Nat.le_refl _) _ _⟩
theorem said_any (g:Nat) (a1 a2:Option Addr) (n1 c1 n2 c2:Nat) (w:World) (h:w.heap[g]?=some (.cells #[.slice a1 n1 c1,.slice a2 n2 c2] 124)) :
 Calls Tryz.prog 38 #[.pointer (some ⟨g,0,none⟩)] w fun e w'=>e=.returned (.agg #[.slice a1 n1 c1,.slice a2 n2 c2])∧Below w.heap.size w w':=by
 have d0:∀ o,(w.alloc o).cell? ⟨g,0,none⟩=some (.slice a1 n1 c1):=fun o=>blk_cell (blk_alloc h) 0
 have d1:∀ o,(w.alloc o).cell? ⟨g,1,none⟩=some (.slice a2 n2 c2):=fun o=>blk_cell (blk_alloc h) 1
 clear h
 go_enter Tryz.func38,Tryz.ntmps38
 go_wp2
 refine bodyPost_ret (v:=.agg #[.slice a1 n1 c1,.slice a2 n2 c2]) (by simp [results,Tryz.results38,go_sem]) rfl ?_
 exact ⟨rfl,((Below.refl _ _).alloc (Nat.le_refl _) _)⟩
end
section
open Go.RowKit
attribute [local go_sem ↓] Go.wp_at_zero Go.wp_at_succ
theorem qdigit_any (c:Int) (w:World) :
 Calls Tryz.prog 110 #[.int .u8 c] w fun e w'=>e=.returned (.bool (isDigitN c))∧w'=w:=by
 go_enter Tryz.func110,Tryz.ntmps110
 go_wp2
 all_goals (go_ret;exact ⟨ret_bool (by simp [isDigitN, *];try omega),rfl⟩)
theorem qletter_any (c:Int) (w:World) :
 Calls Tryz.prog 109 #[.int .u8 c] w fun e w'=>e=.returned (.bool (isLetN c))∧w'=w:=by
 go_enter Tryz.func109,Tryz.ntmps109
 go_wp2
 all_goals (go_ret;exact ⟨ret_bool (by unfold isLetN isCapN;rw [Bool.eq_iff_iff];simp;omega),rfl⟩)
theorem qblank_any (c:Int) (w:World) :
 Calls Tryz.prog 118 #[.int .u8 c] w fun e w'=>e=.returned (.bool (isBlankN c))∧w'=w:=by
 go_enter Tryz.func118,Tryz.ntmps118
 go_wp2
 all_goals (go_ret;exact ⟨ret_bool (by simp only [isBlankN];rw [Bool.eq_iff_iff];simp [*]),rfl⟩)
theorem qconv0 (w:World) (c:UInt8):(convert 198 9 (.slice (some ⟨w.heap.size,0,none⟩) 1 1)).run Tryz.prog (w.alloc (.cells #[.int .u8 (c.toNat:Int)] 5))=.ok (.string (strA [c])) (w.alloc (.cells #[.int .u8 (c.toNat:Int)] 5)):=
 run_convert_bytes_back (P:=Tryz.prog) _ 198 9 5 ⟨w.heap.size,0,none⟩ 1 [c] Tryz.underlying198 Tryz.underlying5 Tryz.underlying9 (fun j hj=>by
  obtain rfl:j=0:=by simp at hj;omega
  rw [addr_add0];exact blk_cell (blk_new _ _) 0)
theorem qconv (w:World) (c:UInt8) (n:Int) (h:n=(c.toNat:Int)):(convert 198 9 (.slice (some ⟨w.heap.size,0,none⟩) 1 1)).run Tryz.prog (w.alloc (.cells #[.int .u8 n] 5))=.ok (.string (strA [c])) (w.alloc (.cells #[.int .u8 n] 5)):=by
 subst h
 exact qconv0 w c
theorem smallL_succ {x:List UInt8} {k:Nat} (h:k < x.length):smallL (x.take (k+1))=smallL (x.take k)++[smallB x[k]]:=by
 rw [List.take_succ_eq_append_getElem h]
 exact List.map_append
theorem qsmall_any (x:List UInt8) (w:World) (hs:x.length≤140737488355328) :
 Calls Tryz.prog 80 #[.string (strA x)] w fun e w'=>e=.returned (.string (strA (smallL x)))∧Below w.heap.size w w':=by
 have hz:=strA_size x
 go_enter Tryz.func80,Tryz.ntmps80
 go_wp2
 go_loopw [3,4] (fun o i wr=>∃ k:Nat,k≤x.length∧i=.int .i64 k∧o=.string (strA (smallL (x.take k)))∧Below w.heap.size w wr) (fun _ i _=>x.length - (intOf i).toNat)
 case atStart=>exact ⟨0,by omega,rfl,rfl,Below.refl _ _⟩
 case round=>
  obtain ⟨k,hk,rfl,rfl,hB⟩:=hrel
  have HB:=hide hB
  clear hB
  by_cases hlt:k < (strA x).size
  ·have hlt':k < x.length:=by omega
   have hs1:=smallL_succ hlt'
   have hat:x[k]=(strA x)[k]:=by simp [strA,ByteArray.getElem_eq_getElem_data]
   rw [hat] at hs1
   have HS:=hide hs1
   have hl1:(smallL (x.take k)).length≤140737488355328:=by simp [smallL];omega
   have hz1:=strA_size (smallL (x.take k))
   have HCV:=hide (qconv wr (smallB (strA x)[k]))
   have hb:=UInt8.toNat_lt (strA x)[k]
   have hz2:(strA [smallB (strA x)[k]]).size=1:=rfl
   have HA:=hide (strA_app (smallL (x.take k)) [smallB (strA x)[k]])
   generalize smallL (x.take k)=y at *
   clear hat hs1
   by_cases h65:(65:Int)≤((strA x)[k].toNat:Int)
   ·by_cases h90:((strA x)[k].toNat:Int)≤90
    ·have hn:=smallB_val (strA x)[k] (by unfold isCapN;simp;omega)
     go_wp2
     rw [HCV.out _ (by omega)]
     go_wp2
     rw [HA.out]
     go_roundw
     case rel=>exact ⟨k+1,by omega,by go_num,by rw [HS.out],HB.out.alloc (Below.size HB.out) _⟩
     case measure=>simp [intOf];omega
    ·have HN:=hide (smallB_not (strA x)[k] (by unfold isCapN;simp;omega))
     go_wp2
     rw [HCV.out _ (by have e:=congrArg (fun c:UInt8=>(c.toNat:Int)) HN.out;exact e.symm)]
     go_wp2
     rw [HA.out]
     go_roundw
     case rel=>exact ⟨k+1,by omega,by go_num,by rw [HS.out],HB.out.alloc (Below.size HB.out) _⟩
     case measure=>simp [intOf];omega
   ·have HN:=hide (smallB_not (strA x)[k] (by unfold isCapN;simp;omega))
    go_wp2
    rw [HCV.out _ (by have e:=congrArg (fun c:UInt8=>(c.toNat:Int)) HN.out;exact e.symm)]
    go_wp2
    rw [HA.out]
    go_roundw
    case rel=>exact ⟨k+1,by omega,by go_num,by rw [HS.out],HB.out.alloc (Below.size HB.out) _⟩
    case measure=>simp [intOf];omega
  ·have hke:k=x.length:=by omega
   subst hke
   rw [List.take_length]
   go_wp2
   go_ret
   exact ⟨rfl,HB.out⟩
end
end Go.Proofs.YtgnkjijocdmniaaGreatDoor
