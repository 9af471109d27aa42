import Derived.Test.YtbiclelojbfnbaaGreatDoorProg
import Derived.WalkKit
import Derived.WalkSpells
import Derived.WalkLawsBesides
import Derived.BigQuiet
import Derived.Deep.QuietTactic
import Derived.OrdersHeld
import Derived.Test.YtbiclelojbfnbaaGreatDoorZPlainParse
namespace Go.Proofs.YtbiclelojbfnbaaGreatDoor
set_option linter.unusedVariables false
set_option linter.unusedSimpArgs false
set_option maxRecDepth 100000
set_option maxHeartbeats 4000000
section
open Go.RowKit
theorem Qab {p:Prop} (h:p):Hid p:=h
theorem Qcs (b j:Nat):(⟨b,0,none⟩:Addr).add j=⟨b,j,none⟩:=by
 unfold Addr.add;split
 ·subst_vars;rfl
 ·simp
theorem QaW {a b:Bool} (h:a=b):Ending.returned (.bool a)=.returned (.bool b):=by rw [h]
theorem Qct {k:IntKind} {a b:Int} (h:a=b):Ending.returned (.int k a)=.returned (.int k b):=by rw [h]
theorem QcN (c:Int) (w:World) :
 Calls Tryz.prog 313 #[.int .u8 c] w fun e w'=>e=.returned (.bool (Qbe c))∧w'=w:=by
 go_enter Tryz.func313,Tryz.ntmps313
 go_wp2
 all_goals (go_ret;exact ⟨QaW (by simp [Qbe, *]),rfl⟩)
theorem Qam (c:Int) (w:World) :
 Calls Tryz.prog 288 #[.int .u8 c] w fun e w'=>e=.returned (.bool (QaF c))∧w'=w:=by
 go_enter Tryz.func288,Tryz.ntmps288
 go_wp2
 all_goals (go_ret;exact ⟨QaW (by simp [QaF, *];try omega),rfl⟩)
theorem Qeu (c:Int) (w:World) :
 Calls Tryz.prog 304 #[.int .u8 c] w fun e w'=>e=.returned (.bool (Qco c))∧w'=w:=by
 go_enter Tryz.func304,Tryz.ntmps304
 go_wp2
 all_goals (go_ret;exact ⟨QaW (by simp [Qco, *];try omega),rfl⟩)
theorem QfW (c:Int) (w:World) :
 Calls Tryz.prog 341 #[.int .u8 c] w fun e w'=>e=.returned (.bool (Qix c))∧w'=w:=by
 go_enter Tryz.func341,Tryz.ntmps341
 go_wp2
 all_goals (go_ret;exact ⟨QaW (by simp [Qix, *];try omega),rfl⟩)
theorem Qai (c:Int) (w:World) :
 Calls Tryz.prog 287 #[.int .u8 c] w fun e w'=>e=.returned (.bool (Qa7 c))∧w'=w:=by
 go_enter Tryz.func287,Tryz.ntmps287
 cases hsm:Qix c <;> cases hca:Qco c <;>
 (go_wp2_with (first | (go_at_call 304;refine (Qeu _ _).mono ?_;rintro e w' ⟨rfl,rfl⟩) | (go_at_call 341;refine (QfW _ _).mono ?_;rintro e w' ⟨rfl,rfl⟩))
  all_goals (go_ret;exact ⟨QaW (by rw [QrG];simp [*]),rfl⟩))
theorem QuM (s:ByteArray) (k:Nat) (h:k < s.size):s.data.toList.getD k 0=s[k]:=by
 rw [List.getD_eq_getElem?_getD,List.getElem?_eq_getElem (by simpa using h)];rfl
theorem Qre (s:ByteArray) (n:Int) (w:World) (hs:s.size≤maxLen) (h0:0≤n) (h:n < s.size) :
 Calls Tryz.prog 350 #[.string s,.int .i64 n] w fun e w'=>e=.returned (.int .u8 (s.data.toList.getD n.toNat 0).toNat)∧w'=w:=by
 unfold maxLen at hs
 go_enter Tryz.func350,Tryz.ntmps350
 go_wp2
 all_goals (go_ret;exact ⟨Qct (by rw [QuM s _ (by omega)]),rfl⟩)
theorem QqK (s:ByteArray) (n:Int) (w:World) (hs:s.size≤maxLen) (h:s.size≤n) :
 Calls Tryz.prog 350 #[.string s,.int .i64 n] w fun e w'=>e=.returned (.int .u8 (s.data.toList.getD n.toNat 0).toNat)∧w'=w:=by
 unfold maxLen at hs
 go_enter Tryz.func350,Tryz.ntmps350
 go_wp2
 all_goals (go_ret;exact ⟨Qct (by rw [List.getD_eq_getElem?_getD,List.getElem?_eq_none (by simp;omega)];rfl),rfl⟩)
theorem Qqc (s:ByteArray) (n:Int) (w:World) (hs:s.size≤maxLen) (h0:0≤n) :
 Calls Tryz.prog 350 #[.string s,.int .i64 n] w fun e w'=>e=.returned (.int .u8 (s.data.toList.getD n.toNat 0).toNat)∧w'=w:=by
 by_cases h:n < s.size
 ·exact Qre s n w hs h0 h
 ·exact QqK s n w hs (by omega)
def byteOf (s:ByteArray) (n:Int):UInt8:=s.data.toList.getD n.toNat 0
theorem Qch (s:ByteArray) (n:Int) (w:World) (hs:s.size≤maxLen) (h0:0≤n) :
 Calls Tryz.prog 350 #[.string s,.int .i64 n] w fun e w'=>e=.returned (.int .u8 (byteOf s n).toNat)∧w'=w:=Qqc s n w hs h0
theorem Qbv (s:ByteArray) (k:Nat) (h:k < s.size):s.data.toList.drop k=s[k] :: s.data.toList.drop (k+1):=by
 rw [List.drop_eq_getElem_cons (by simpa using h)];rfl
theorem Qd3 {s:ByteArray} (h:s.size=0):s.toList=[]:=by
 rw [ByteArray.toList_eq];apply List.eq_nil_of_length_eq_zero;simpa using h
theorem QcI {s:ByteArray} (h:¬ s.size=0):¬ s.toList=[]:=by
 rw [ByteArray.toList_eq];intro e;apply h;have:=congrArg List.length e;simpa using this
theorem Qpt (s:ByteArray) (h:0 < s.size) (hl:Qa7 (s[0].toNat:Int)=true):Qbc s.data.toList=1+Qbo (s.data.toList.drop 1):=by
 have e:=Qbv s 0 h
 rw [List.drop_zero] at e
 rw [e];simp only [Qbc];rw [if_pos hl];rfl
theorem Qoh (s:ByteArray) (h:0 < s.size) (hl:Qa7 (s[0].toNat:Int)=false):Qbc s.data.toList=0:=by
 have e:=Qbv s 0 h
 rw [List.drop_zero] at e
 rw [e];simp only [Qbc];rw [if_neg (by rw [hl];decide)]
theorem QkB (s:ByteArray) (k:Nat) (h:k < s.size):Qbo (s.data.toList.drop k)=if Qbg s[k] then 1+Qbo (s.data.toList.drop (k+1)) else 0:=by
 rw [Qbv s k h,Qdx]
theorem QlI (s:ByteArray) (k:Nat) (h:s.size≤k):Qbo (s.data.toList.drop k)=0:=by
 rw [List.drop_of_length_le (by simpa using h)];rfl
theorem Qb3 (s:ByteArray) (w:World) (hs:s.size≤maxLen) :
 Calls Tryz.prog 309 #[.string s] w fun e w'=>e=.returned (.int .i64 (Qbc s.data.toList))∧w'=w:=by
 unfold maxLen at hs
 by_cases h0:s.size=0
 ·have h0':=Qd3 h0
  go_enter Tryz.func309,Tryz.ntmps309
  go_wp2
  go_ret
  exact ⟨Qct (by rw [← ByteArray.toList_eq,h0'];rfl),rfl⟩
 have h0':=QcI h0
 have h0'':s.toList.isEmpty=false:=by simpa using h0'
 have h1:0 < s.size:=by omega
 cases hl:Qa7 (s[0].toNat:Int)
 ·have H:Hid (Qbc s.data.toList=0):=Qoh s h1 hl
  go_enter Tryz.func309,Tryz.ntmps309
  go_wp2_with (go_at_call 287;refine (Qai _ _).mono ?_;rintro e w' ⟨rfl,rfl⟩)
  go_ret
  exact ⟨Qct (by rw [H.out];rfl),rfl⟩
 ·have H:Hid (Qbc s.data.toList=1+Qbo (s.data.toList.drop 1)):=Qpt s h1 hl
  go_enter Tryz.func309,Tryz.ntmps309
  go_wp2_with (go_at_call 287;refine (Qai _ _).mono ?_;rintro e w' ⟨rfl,rfl⟩)
  go_loop [3] (fun i=>∃ k:Nat,k≤s.size∧i=.int .i64 k∧Qbc s.data.toList=k+Qbo (s.data.toList.drop k)) (fun i=>s.size - (intOf i).toNat)
  case atStart=>exact ⟨1,by omega,rfl,H.out⟩
  case round=>
   obtain ⟨k,hk,rfl,hn⟩:=hrel
   have HN:Hid (Qbc s.data.toList=k+Qbo (s.data.toList.drop k)):=hn
   clear hn hl
   by_cases hlt:k < s.size
   ·have HS:Hid (Qbo (s.data.toList.drop k)=if Qbg s[k] then 1+Qbo (s.data.toList.drop (k+1)) else 0):=QkB s k hlt
    cases hc:Qa7 (s[k].toNat:Int)
    ·cases hd:QaF (s[k].toNat:Int)
     ·have HD:Hid (Qbg s[k]=false):=by show Qbg s[k]=false;simp [Qbg,hc,hd]
      go_wp2_with (first | (go_at_call 287;refine (Qai _ _).mono ?_;rintro e w' ⟨rfl,rfl⟩) | (go_at_call 288;refine (Qam _ _).mono ?_;rintro e w' ⟨rfl,rfl⟩))
      go_ret
      exact ⟨Qct (by rw [HN.out,HS.out,HD.out];simp),rfl⟩
     ·have HD:Hid (Qbg s[k]=true):=by show Qbg s[k]=true;simp [Qbg,hd]
      go_wp2_with (first | (go_at_call 287;refine (Qai _ _).mono ?_;rintro e w' ⟨rfl,rfl⟩) | (go_at_call 288;refine (Qam _ _).mono ?_;rintro e w' ⟨rfl,rfl⟩))
      go_round
      case rel=>exact ⟨k+1,by omega,by go_num,by rw [HN.out,HS.out,HD.out];simp;omega⟩
      case measure=>simp [intOf];omega
    ·have HD:Hid (Qbg s[k]=true):=by show Qbg s[k]=true;simp [Qbg,hc]
     go_wp2_with (first | (go_at_call 287;refine (Qai _ _).mono ?_;rintro e w' ⟨rfl,rfl⟩) | (go_at_call 288;refine (Qam _ _).mono ?_;rintro e w' ⟨rfl,rfl⟩))
     go_round
     case rel=>exact ⟨k+1,by omega,by go_num,by rw [HN.out,HS.out,HD.out];simp;omega⟩
     case measure=>simp [intOf];omega
   ·have HS:Hid (Qbo (s.data.toList.drop k)=0):=QlI s k (by omega)
    go_wp2
    go_ret
    exact ⟨Qct (by rw [HN.out,HS.out];simp),rfl⟩
end
section
open Go.RowKit
theorem pt (l:List Value) (ds:_) (d:Nat) (v:Value):Act.put ⟨l.toArray,ds⟩ (some d) v=⟨(l.set d v).toArray,ds⟩:=by simp [Act.put]
theorem QaE {P:Program} {ops:Array Oper} {Q:Exit→Act→World→Prop} {md:Region.Mode} {S:World→Prop} (i d:Nat) (v:Value) {oi:Oper} {fuel:Nat} {listed:Array Bool} {a:Act} {w:World} (hi:ops[i]?=some oi) (hS:S w) (hv:∀ w',S w'→(execOp a.eval oi).run P w'=.ok (.value v) w') (h:wpAnyH P md ops Q S fuel (listed.setIfInBounds i true) (a.put (some d) v) w)
 (hd:oi.dst=some d:=by rfl) (hs:Region.noSelect ops=true:=by kernel_rfl) (hf:Region.free md ops listed i=true:=by kernel_rfl) (hr:(Region.ready md ops listed).contains i=true:=by kernel_rfl) (hQ:∀ c a w,Q (.panic c) (a.put (some d) v) w→Q (.panic c) a w:=by exact fun _ _ _ h=>h) (hw:Region.wanted oi (yielded ops a.tmps)=true:=by rfl):wpAnyH P md ops Q S (fuel+1) listed a w:=
 wpAnyH_take hi hs hf hr (by rw [hd];exact hQ) (Or.inl ⟨hw,hv⟩) hS (by rw [hd];exact h)
end
end Go.Proofs.YtbiclelojbfnbaaGreatDoor
