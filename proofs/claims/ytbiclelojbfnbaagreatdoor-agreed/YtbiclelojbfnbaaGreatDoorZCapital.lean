import Derived.Test.YtbiclelojbfnbaaGreatDoorProg
import Derived.WalkKit
import Derived.WalkSpells
import Derived.WalkLawsBesides
import Derived.BigQuiet
import Derived.Deep.QuietTactic
import Derived.Lib.ConvBytes
import Derived.Lib.AtoiErrMem
import Derived.Test.YtbiclelojbfnbaaGreatDoorZPlainAsk
import Derived.Test.YtbiclelojbfnbaaGreatDoorZPlainCode
namespace Go.Proofs.YtbiclelojbfnbaaGreatDoor
set_option linter.unusedVariables false
set_option linter.unusedSimpArgs false
set_option maxRecDepth 100000
set_option maxHeartbeats 4000000
section
open Go.RowKit
theorem hide {p:Prop} (h:p):Hid p:=h
theorem addr_add0 (b j:Nat):(⟨b,0,none⟩:Addr).add j=⟨b,j,none⟩:=by
 unfold Addr.add;split
 ·subst_vars;rfl
 ·simp
theorem ret_bool {a b:Bool} (h:a=b):Ending.returned (.bool a)=.returned (.bool b):=by rw [h]
theorem ret_int {k:IntKind} {a b:Int} (h:a=b):Ending.returned (.int k a)=.returned (.int k b):=by rw [h]
theorem isBlank_any (c:Int) (w:World) :
  Calls Tryz.prog 313 #[.int .u8 c] w fun e w'=>e=.returned (.bool (isBlankN c))∧w'=w:=by
 go_enter Tryz.func313,Tryz.ntmps313
 go_wp2
 all_goals (go_ret;exact ⟨ret_bool (by simp [isBlankN, *]),rfl⟩)
theorem isDigit_any (c:Int) (w:World) :
  Calls Tryz.prog 288 #[.int .u8 c] w fun e w'=>e=.returned (.bool (isDigitN c))∧w'=w:=by
 go_enter Tryz.func288,Tryz.ntmps288
 go_wp2
 all_goals (go_ret;exact ⟨ret_bool (by simp [isDigitN, *];try omega),rfl⟩)
theorem isCapital_any (c:Int) (w:World) :
  Calls Tryz.prog 304 #[.int .u8 c] w fun e w'=>e=.returned (.bool (isCapN c))∧w'=w:=by
 go_enter Tryz.func304,Tryz.ntmps304
 go_wp2
 all_goals (go_ret;exact ⟨ret_bool (by simp [isCapN, *];try omega),rfl⟩)
theorem isSmall_any (c:Int) (w:World) :
  Calls Tryz.prog 341 #[.int .u8 c] w fun e w'=>e=.returned (.bool (isSmN c))∧w'=w:=by
 go_enter Tryz.func341,Tryz.ntmps341
 go_wp2
 all_goals (go_ret;exact ⟨ret_bool (by simp [isSmN, *];try omega),rfl⟩)
theorem isLetter_any (c:Int) (w:World) :
  Calls Tryz.prog 287 #[.int .u8 c] w fun e w'=>e=.returned (.bool (isLetN c))∧w'=w:=by
 go_enter Tryz.func287,Tryz.ntmps287
 cases hsm:isSmN c <;> cases hca:isCapN c <;>
 (go_wp2_with (first | (go_at_call 304;refine (isCapital_any _ _).mono ?_;rintro e w' ⟨rfl,rfl⟩) | (go_at_call 341;refine (isSmall_any _ _).mono ?_;rintro e w' ⟨rfl,rfl⟩))
  all_goals (go_ret;exact ⟨ret_bool (by rw [isLetN_eq];simp [*]),rfl⟩))
theorem ba_getD (s:ByteArray) (k:Nat) (h:k < s.size):s.data.toList.getD k 0=s[k]:=by
 rw [List.getD_eq_getElem?_getD,List.getElem?_eq_getElem (by simpa using h)];rfl
theorem byteAt_in (s:ByteArray) (n:Int) (w:World) (hs:s.size≤maxLen) (h0:0≤n) (h:n < s.size) :
  Calls Tryz.prog 350 #[.string s,.int .i64 n] w fun e w'=>e=.returned (.int .u8 (s.data.toList.getD n.toNat 0).toNat)∧w'=w:=by
 unfold maxLen at hs
 go_enter Tryz.func350,Tryz.ntmps350
 go_wp2
 all_goals (go_ret;exact ⟨ret_int (by rw [ba_getD s _ (by omega)]),rfl⟩)
theorem byteAt_out (s:ByteArray) (n:Int) (w:World) (hs:s.size≤maxLen) (h:s.size≤n) :
  Calls Tryz.prog 350 #[.string s,.int .i64 n] w fun e w'=>e=.returned (.int .u8 (s.data.toList.getD n.toNat 0).toNat)∧w'=w:=by
 unfold maxLen at hs
 go_enter Tryz.func350,Tryz.ntmps350
 go_wp2
 all_goals (go_ret;exact ⟨ret_int (by rw [List.getD_eq_getElem?_getD,List.getElem?_eq_none (by simp;omega)];rfl),rfl⟩)
theorem byteAt_any (s:ByteArray) (n:Int) (w:World) (hs:s.size≤maxLen) (h0:0≤n) :
  Calls Tryz.prog 350 #[.string s,.int .i64 n] w fun e w'=>e=.returned (.int .u8 (s.data.toList.getD n.toNat 0).toNat)∧w'=w:=by
 by_cases h:n < s.size
 ·exact byteAt_in s n w hs h0 h
 ·exact byteAt_out s n w hs (by omega)
def byteOf (s:ByteArray) (n:Int):UInt8:=s.data.toList.getD n.toNat 0
theorem byteAt_of (s:ByteArray) (n:Int) (w:World) (hs:s.size≤maxLen) (h0:0≤n) :
  Calls Tryz.prog 350 #[.string s,.int .i64 n] w fun e w'=>e=.returned (.int .u8 (byteOf s n).toNat)∧w'=w:=byteAt_any s n w hs h0
theorem drop_cons (s:ByteArray) (k:Nat) (h:k < s.size):s.data.toList.drop k=s[k] :: s.data.toList.drop (k+1):=by
 rw [List.drop_eq_getElem_cons (by simpa using h)];rfl
theorem toList_size0 {s:ByteArray} (h:s.size=0):s.toList=[]:=by
 rw [ByteArray.toList_eq];apply List.eq_nil_of_length_eq_zero;simpa using h
theorem toList_sizePos {s:ByteArray} (h:¬ s.size=0):¬ s.toList=[]:=by
 rw [ByteArray.toList_eq];intro e;apply h;have:=congrArg List.length e;simpa using this
theorem nameLen_at (s:ByteArray) (h:0 < s.size) (hl:isLetN (s[0].toNat:Int)=true):nameLen s.data.toList=1+nameTail (s.data.toList.drop 1):=by
 have e:=drop_cons s 0 h
 rw [List.drop_zero] at e
 rw [e];simp only [nameLen];rw [if_pos hl];rfl
theorem nameLen_not (s:ByteArray) (h:0 < s.size) (hl:isLetN (s[0].toNat:Int)=false):nameLen s.data.toList=0:=by
 have e:=drop_cons s 0 h
 rw [List.drop_zero] at e
 rw [e];simp only [nameLen];rw [if_neg (by rw [hl];decide)]
theorem nameTail_step (s:ByteArray) (k:Nat) (h:k < s.size):nameTail (s.data.toList.drop k)=if letdig s[k] then 1+nameTail (s.data.toList.drop (k+1)) else 0:=by
 rw [drop_cons s k h,nameTail_cons]
theorem nameTail_end (s:ByteArray) (k:Nat) (h:s.size≤k):nameTail (s.data.toList.drop k)=0:=by
 rw [List.drop_of_length_le (by simpa using h)];rfl
theorem nameLength_any (s:ByteArray) (w:World) (hs:s.size≤maxLen) :
  Calls Tryz.prog 309 #[.string s] w fun e w'=>e=.returned (.int .i64 (nameLen s.data.toList))∧w'=w:=by
 unfold maxLen at hs
 by_cases h0:s.size=0
 ·have h0':=toList_size0 h0
  go_enter Tryz.func309,Tryz.ntmps309
  go_wp2
  go_ret
  exact ⟨ret_int (by rw [← ByteArray.toList_eq,h0'];rfl),rfl⟩
 have h0':=toList_sizePos h0
 have h0'':s.toList.isEmpty=false:=by simpa using h0'
 have h1:0 < s.size:=by omega
 cases hl:isLetN (s[0].toNat:Int)
 ·have H:Hid (nameLen s.data.toList=0):=nameLen_not s h1 hl
  go_enter Tryz.func309,Tryz.ntmps309
  go_wp2_with (go_at_call 287;refine (isLetter_any _ _).mono ?_;rintro e w' ⟨rfl,rfl⟩)
  go_ret
  exact ⟨ret_int (by rw [H.out];rfl),rfl⟩
 ·have H:Hid (nameLen s.data.toList=1+nameTail (s.data.toList.drop 1)):=nameLen_at s h1 hl
  go_enter Tryz.func309,Tryz.ntmps309
  go_wp2_with (go_at_call 287;refine (isLetter_any _ _).mono ?_;rintro e w' ⟨rfl,rfl⟩)
  go_loop [3] (fun i=>∃ k:Nat,k≤s.size∧i=.int .i64 k∧nameLen s.data.toList=k+nameTail (s.data.toList.drop k)) (fun i=>s.size - (intOf i).toNat)
  case atStart=>exact ⟨1,by omega,rfl,H.out⟩
  case round=>
   obtain ⟨k,hk,rfl,hn⟩:=hrel
   have HN:Hid (nameLen s.data.toList=k+nameTail (s.data.toList.drop k)):=hn
   clear hn hl
   by_cases hlt:k < s.size
   ·have HS:Hid (nameTail (s.data.toList.drop k)=if letdig s[k] then 1+nameTail (s.data.toList.drop (k+1)) else 0):=nameTail_step s k hlt
    cases hc:isLetN (s[k].toNat:Int)
    ·cases hd:isDigitN (s[k].toNat:Int)
     ·have HD:Hid (letdig s[k]=false):=by show letdig s[k]=false;simp [letdig,hc,hd]
      go_wp2_with (first | (go_at_call 287;refine (isLetter_any _ _).mono ?_;rintro e w' ⟨rfl,rfl⟩) | (go_at_call 288;refine (isDigit_any _ _).mono ?_;rintro e w' ⟨rfl,rfl⟩))
      go_ret
      exact ⟨ret_int (by rw [HN.out,HS.out,HD.out];simp),rfl⟩
     ·have HD:Hid (letdig s[k]=true):=by show letdig s[k]=true;simp [letdig,hd]
      go_wp2_with (first | (go_at_call 287;refine (isLetter_any _ _).mono ?_;rintro e w' ⟨rfl,rfl⟩) | (go_at_call 288;refine (isDigit_any _ _).mono ?_;rintro e w' ⟨rfl,rfl⟩))
      go_round
      case rel=>exact ⟨k+1,by omega,by go_num,by rw [HN.out,HS.out,HD.out];simp;omega⟩
      case measure=>simp [intOf];omega
    ·have HD:Hid (letdig s[k]=true):=by show letdig s[k]=true;simp [letdig,hc]
     go_wp2_with (first | (go_at_call 287;refine (isLetter_any _ _).mono ?_;rintro e w' ⟨rfl,rfl⟩) | (go_at_call 288;refine (isDigit_any _ _).mono ?_;rintro e w' ⟨rfl,rfl⟩))
     go_round
     case rel=>exact ⟨k+1,by omega,by go_num,by rw [HN.out,HS.out,HD.out];simp;omega⟩
     case measure=>simp [intOf];omega
   ·have HS:Hid (nameTail (s.data.toList.drop k)=0):=nameTail_end s k (by omega)
    go_wp2
    go_ret
    exact ⟨ret_int (by rw [HN.out,HS.out];simp),rfl⟩
end
section
open Go.RowKit
def smallTo (s:ByteArray) (k j:Nat):UInt8:=if j < k then smallB (s.data.toList.getD j 0) else s.data.toList.getD j 0
theorem smallB_val (c:UInt8) (h:isCapN (c.toNat:Int)=true):((smallB c).toNat:Int)=(c.toNat:Int) - 65+97:=by
 have hc:=h
 unfold isCapN at hc
 simp at hc
 have e:smallB c=c - 65+97:=by unfold smallB;rw [if_pos h]
 rw [e,UInt8.toNat_add,UInt8.toNat_sub]
 simp
 omega
theorem smallB_not (c:UInt8) (h:isCapN (c.toNat:Int)=false):smallB c=c:=by
 unfold smallB;rw [if_neg (by rw [h];decide)]
theorem smallTo_keep (s:ByteArray) (k j:Nat) (h:isCapN ((s.data.toList.getD k 0).toNat:Int)=false):smallTo s k j=smallTo s (k+1) j:=by
 unfold smallTo
 by_cases e:j=k
 ·subst e;rw [if_neg (by omega),if_pos (by omega),smallB_not _ h]
 ·by_cases l:j < k
  ·rw [if_pos l,if_pos (by omega)]
  ·rw [if_neg l,if_neg (by omega)]
theorem smallTo_other (s:ByteArray) (k j:Nat) (e:¬ j=k):smallTo s k j=smallTo s (k+1) j:=by
 unfold smallTo
 by_cases l:j < k
 ·rw [if_pos l,if_pos (by omega)]
 ·rw [if_neg l,if_neg (by omega)]
theorem smallTo_self (s:ByteArray) (k:Nat):smallTo s (k+1) k=smallB (s.data.toList.getD k 0):=by
 unfold smallTo;rw [if_pos (by omega)]
theorem small_any (s:ByteArray) (w:World) (hs:s.size≤140737488355328) :
  Calls Tryz.prog 247 #[.string s] w fun e w'=>e=.returned (.string ⟨(smallL s.data.toList).toArray⟩)∧Below w.heap.size w w':=by
 have hcv:=Lib.run_convert_string_bytes (P:=Tryz.prog) w 9 172 5 s (u:=.string) Tryz.underlying9 Tryz.underlying172 Tryz.underlying5
 have hB:=Lib.bytesWorld_below w 5 s
 have hcell:∀ j,j < s.size→(Lib.bytesWorld w 5 s).cell? ⟨w.heap.size,j,none⟩=some (.int .u8 (smallTo s 0 j).toNat):=fun j hj=>by
  rw [Lib.bytesWorld_cell w 5 s j hj];simp [smallTo]
 have hfz:∀ j,j < s.size→(Lib.bytesWorld w 5 s).frozen? ⟨w.heap.size,j,none⟩=false:=fun j hj=>by
  unfold World.frozen?;rw [Lib.bytesWorld_at_new];simp [Lib.bytesCells];omega
 have hsz:=Lib.bytesWorld_size w 5 s
 generalize Lib.bytesWorld w 5 s=W1 at hcv hB hcell hfz hsz
 have hlist:∀ (wr:World),(∀ j,j < s.size→wr.cell? ⟨w.heap.size,j,none⟩=some (.int .u8 (smallTo s s.size j).toNat))→
   ∀ C,(convert 172 9 (.slice (some ⟨w.heap.size,0,none⟩) s.size C)).run Tryz.prog wr=.ok (.string ⟨(smallL s.data.toList).toArray⟩) wr:=fun wr hw C=>by
  have hl:(smallL s.data.toList).length=s.size:=by simp [smallL]
  have:=run_convert_bytes_back (P:=Tryz.prog) wr 172 9 5 ⟨w.heap.size,0,none⟩ C (smallL s.data.toList) Tryz.underlying172 Tryz.underlying5 Tryz.underlying9 (fun j hj=>by
   rw [addr_add0,hw j (by omega)]
   have hj':j < s.data.toList.length:=by simp [smallL] at hj;simpa using hj
   simp only [smallTo,smallL,List.getElem_map]
   rw [if_pos (by omega),List.getD_eq_getElem?_getD,List.getElem?_eq_getElem hj'];rfl)
  rw [hl] at this
  exact this
 have HL:=hide hlist
 clear hlist
 go_enter Tryz.func247,Tryz.ntmps247
 go_wp2_with fail
 generalize grownCap w s.size 0 5=C at *
 go_loopw [4,5,10] (fun _ _ i wr=>∃ k:Nat,k≤s.size∧i=.int .i64 k∧Below w.heap.size w wr∧(∀ j,j < s.size→wr.cell? ⟨w.heap.size,j,none⟩=some (.int .u8 (smallTo s k j).toNat))∧(∀ j,j < s.size→wr.frozen? ⟨w.heap.size,j,none⟩=false)∧wr.heap.size=w.heap.size+1) (fun _ _ i _=>s.size - (intOf i).toNat)
 case atStart=>exact ⟨0,by omega,rfl,hB,hcell,hfz,hsz⟩
 case round=>
  obtain ⟨k,hk,rfl,hB',hcell',hfz',hsz'⟩:=hrel
  clear hB hcell hfz hsz hcv
  by_cases hlt:k < s.size
  ·have hck:=hcell' k hlt
   have hfk:=hfz' k hlt
   simp only [smallTo] at hck
   rw [if_neg (by omega)] at hck
   generalize hcd:s.data.toList.getD k 0=c at hck
   have HCD:=hide hcd
   clear hcd
   have hb:=UInt8.toNat_lt c
   have HC:=hide hcell'
   have HF:=hide hfz'
   clear hcell' hfz'
   cases hc:isCapN (c.toNat:Int)
   ·go_wp2_with (go_at_call 304;refine (isCapital_any _ _).mono ?_;rintro e w' ⟨rfl,rfl⟩)
    refine ⟨⟨k+1,by omega,by go_num,hB',fun j hj=>?_,HF.out,hsz'⟩,by simp [intOf];omega⟩
    rw [HC.out j hj,smallTo_keep s k j (by rw [HCD.out];exact hc)]
   ·have hv:=hide (smallB_val c hc)
    have hc1:65≤(c.toNat:Int)∧(c.toNat:Int)≤90:=by unfold isCapN at hc;simpa using hc
    obtain ⟨hc1,hc2⟩:=hc1
    go_wp2_with (go_at_call 304;refine (isCapital_any _ _).mono ?_;rintro e w' ⟨rfl,rfl⟩)
    refine ⟨⟨k+1,by omega,by go_num,?_,fun j hj=>?_,fun j hj=>?_,?_⟩,by simp [intOf];omega⟩
    ·exact hB'.setCell (Nat.le_refl _) _
    ·by_cases e:j=k
     ·subst e
      rw [World.cell?_setCell_same _ _ _ hck,smallTo_self,HCD.out]
      rw [hv.out]
     ·rw [World.cell?_setCell_other _ _ _ _ (by simp [e]),HC.out j hj,smallTo_other s k j e]
    ·rw [World.frozen?_setCell];exact HF.out j hj
    ·simpa using hsz'
  ·have hk':k=s.size:=by omega
   subst hk'
   have hr:=HL.out wr hcell' C
   go_wp2
   go_ret
   exact ⟨rfl,hB'⟩
end
section
open Go.RowKit
def capTo (s:ByteArray) (k j:Nat):UInt8:=if j < k then capB (s.data.toList.getD j 0) else s.data.toList.getD j 0
theorem capB_val (c:UInt8) (h:isSmN (c.toNat:Int)=true):((capB c).toNat:Int)=(c.toNat:Int) - 97+65:=by
 have hc:=h
 unfold isSmN at hc
 simp at hc
 have e:capB c=c - 97+65:=by unfold capB;rw [if_pos h]
 rw [e,UInt8.toNat_add,UInt8.toNat_sub]
 simp
 omega
theorem capB_not (c:UInt8) (h:isSmN (c.toNat:Int)=false):capB c=c:=by
 unfold capB;rw [if_neg (by rw [h];decide)]
theorem capTo_keep (s:ByteArray) (k j:Nat) (h:isSmN ((s.data.toList.getD k 0).toNat:Int)=false):capTo s k j=capTo s (k+1) j:=by
 unfold capTo
 by_cases e:j=k
 ·subst e;rw [if_neg (by omega),if_pos (by omega),capB_not _ h]
 ·by_cases l:j < k
  ·rw [if_pos l,if_pos (by omega)]
  ·rw [if_neg l,if_neg (by omega)]
theorem capTo_other (s:ByteArray) (k j:Nat) (e:¬ j=k):capTo s k j=capTo s (k+1) j:=by
 unfold capTo
 by_cases l:j < k
 ·rw [if_pos l,if_pos (by omega)]
 ·rw [if_neg l,if_neg (by omega)]
theorem capTo_self (s:ByteArray) (k:Nat):capTo s (k+1) k=capB (s.data.toList.getD k 0):=by
 unfold capTo;rw [if_pos (by omega)]
theorem capital_any (s:ByteArray) (w:World) (hs:s.size≤140737488355328) :
  Calls Tryz.prog 333 #[.string s] w fun e w'=>e=.returned (.string ⟨(capL s.data.toList).toArray⟩)∧Below w.heap.size w w':=by
 have hcv:=Lib.run_convert_string_bytes (P:=Tryz.prog) w 9 172 5 s (u:=.string) Tryz.underlying9 Tryz.underlying172 Tryz.underlying5
 have hB:=Lib.bytesWorld_below w 5 s
 have hcell:∀ j,j < s.size→(Lib.bytesWorld w 5 s).cell? ⟨w.heap.size,j,none⟩=some (.int .u8 (capTo s 0 j).toNat):=fun j hj=>by
  rw [Lib.bytesWorld_cell w 5 s j hj];simp [capTo]
 have hfz:∀ j,j < s.size→(Lib.bytesWorld w 5 s).frozen? ⟨w.heap.size,j,none⟩=false:=fun j hj=>by
  unfold World.frozen?;rw [Lib.bytesWorld_at_new];simp [Lib.bytesCells];omega
 have hsz:=Lib.bytesWorld_size w 5 s
 generalize Lib.bytesWorld w 5 s=W1 at hcv hB hcell hfz hsz
 have hlist:∀ (wr:World),(∀ j,j < s.size→wr.cell? ⟨w.heap.size,j,none⟩=some (.int .u8 (capTo s s.size j).toNat))→
   ∀ C,(convert 172 9 (.slice (some ⟨w.heap.size,0,none⟩) s.size C)).run Tryz.prog wr=.ok (.string ⟨(capL s.data.toList).toArray⟩) wr:=fun wr hw C=>by
  have hl:(capL s.data.toList).length=s.size:=by simp [capL]
  have:=run_convert_bytes_back (P:=Tryz.prog) wr 172 9 5 ⟨w.heap.size,0,none⟩ C (capL s.data.toList) Tryz.underlying172 Tryz.underlying5 Tryz.underlying9 (fun j hj=>by
   rw [addr_add0,hw j (by omega)]
   have hj':j < s.data.toList.length:=by simp [capL] at hj;simpa using hj
   simp only [capTo,capL,List.getElem_map]
   rw [if_pos (by omega),List.getD_eq_getElem?_getD,List.getElem?_eq_getElem hj'];rfl)
  rw [hl] at this
  exact this
 have HL:=hide hlist
 clear hlist
 go_enter Tryz.func333,Tryz.ntmps333
 go_wp2_with fail
 generalize grownCap w s.size 0 5=C at *
 go_loopw [4,5,10] (fun _ _ i wr=>∃ k:Nat,k≤s.size∧i=.int .i64 k∧Below w.heap.size w wr∧(∀ j,j < s.size→wr.cell? ⟨w.heap.size,j,none⟩=some (.int .u8 (capTo s k j).toNat))∧(∀ j,j < s.size→wr.frozen? ⟨w.heap.size,j,none⟩=false)∧wr.heap.size=w.heap.size+1) (fun _ _ i _=>s.size - (intOf i).toNat)
 case atStart=>exact ⟨0,by omega,rfl,hB,hcell,hfz,hsz⟩
 case round=>
  obtain ⟨k,hk,rfl,hB',hcell',hfz',hsz'⟩:=hrel
  clear hB hcell hfz hsz hcv
  by_cases hlt:k < s.size
  ·have hck:=hcell' k hlt
   have hfk:=hfz' k hlt
   simp only [capTo] at hck
   rw [if_neg (by omega)] at hck
   generalize hcd:s.data.toList.getD k 0=c at hck
   have HCD:=hide hcd
   clear hcd
   have hb:=UInt8.toNat_lt c
   have HC:=hide hcell'
   have HF:=hide hfz'
   clear hcell' hfz'
   cases hc:isSmN (c.toNat:Int)
   ·go_wp2_with (go_at_call 341;refine (isSmall_any _ _).mono ?_;rintro e w' ⟨rfl,rfl⟩)
    refine ⟨⟨k+1,by omega,by go_num,hB',fun j hj=>?_,HF.out,hsz'⟩,by simp [intOf];omega⟩
    rw [HC.out j hj,capTo_keep s k j (by rw [HCD.out];exact hc)]
   ·have hv:=hide (capB_val c hc)
    have hc1:97≤(c.toNat:Int)∧(c.toNat:Int)≤122:=by unfold isSmN at hc;simpa using hc
    obtain ⟨hc1,hc2⟩:=hc1
    go_wp2_with (go_at_call 341;refine (isSmall_any _ _).mono ?_;rintro e w' ⟨rfl,rfl⟩)
    refine ⟨⟨k+1,by omega,by go_num,?_,fun j hj=>?_,fun j hj=>?_,?_⟩,by simp [intOf];omega⟩
    ·exact hB'.setCell (Nat.le_refl _) _
    ·by_cases e:j=k
     ·subst e
      rw [World.cell?_setCell_same _ _ _ hck,capTo_self,HCD.out]
      rw [hv.out]
     ·rw [World.cell?_setCell_other _ _ _ _ (by simp [e]),HC.out j hj,capTo_other s k j e]
    ·rw [World.frozen?_setCell];exact HF.out j hj
    ·simpa using hsz'
  ·have hk':k=s.size:=by omega
   subst hk'
   have hr:=HL.out wr hcell' C
   go_wp2
   go_ret
   exact ⟨rfl,hB'⟩
end
end Go.Proofs.YtbiclelojbfnbaaGreatDoor
