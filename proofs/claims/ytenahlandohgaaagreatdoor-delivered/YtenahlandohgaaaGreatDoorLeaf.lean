import Derived.Test.YtenahlandohgaaaGreatDoorProg
import Derived.WalkKit
import Derived.WalkSpells
import Derived.WalkLawsBesides
import Derived.BigQuiet
import Derived.Deep.QuietTactic
import Derived.Test.YtenahlandohgaaaGreatDoorZPlainRun
namespace Go.Proofs.YtenahlandohgaaaGreatDoor
set_option linter.unusedVariables false
set_option linter.unusedSimpArgs false
set_option maxRecDepth 100000
set_option maxHeartbeats 4000000
open Go.RowKit
theorem hide {p:Prop} (h:p):Hid p:=h
theorem addr_add0 (b j:Nat):(⟨b,0,none⟩:Addr).add j=⟨b,j,none⟩:=by
 unfold Addr.add;split
 ·subst_vars;rfl
 ·simp
theorem ret_bool {a b:Bool} (h:a=b):Ending.returned (.bool a)=.returned (.bool b):=by rw [h]
theorem isDigit_any (c:Int) (w:World) :
 Calls Tryz.prog 205 #[.int .u8 c] w fun e w'=>e=.returned (.bool (isDigitN c))∧w'=w:=by
 go_enter Tryz.func205,Tryz.ntmps205
 go_wp2
 all_goals (go_ret;exact ⟨ret_bool (by simp [isDigitN, *];try omega),rfl⟩)
theorem isCapital_any (c:Int) (w:World) :
 Calls Tryz.prog 221 #[.int .u8 c] w fun e w'=>e=.returned (.bool (isCapN c))∧w'=w:=by
 go_enter Tryz.func221,Tryz.ntmps221
 go_wp2
 all_goals (go_ret;exact ⟨ret_bool (by simp [isCapN, *];try omega),rfl⟩)
theorem isSmall_any (c:Int) (w:World) :
 Calls Tryz.prog 254 #[.int .u8 c] w fun e w'=>e=.returned (.bool (isSmN c))∧w'=w:=by
 go_enter Tryz.func254,Tryz.ntmps254
 go_wp2
 all_goals (go_ret;exact ⟨ret_bool (by simp [isSmN, *];try omega),rfl⟩)
theorem isLetter_any (c:Int) (w:World) :
 Calls Tryz.prog 204 #[.int .u8 c] w fun e w'=>e=.returned (.bool (isLetN c))∧w'=w:=by
 go_enter Tryz.func204,Tryz.ntmps204
 cases hsm:isSmN c <;> cases hca:isCapN c <;>
 (go_wp2_with (first | (go_at_call 221;refine (isCapital_any _ _).mono ?_;rintro e w' ⟨rfl,rfl⟩) | (go_at_call 254;refine (isSmall_any _ _).mono ?_;rintro e w' ⟨rfl,rfl⟩))
  all_goals (go_ret;exact ⟨ret_bool (by rw [isLetN_eq];simp [*]),rfl⟩))
theorem drop_cons (s:ByteArray) (k:Nat) (h:k < s.size):s.data.toList.drop k=s[k] :: s.data.toList.drop (k+1):=by
 rw [List.drop_eq_getElem_cons (by simpa using h)];rfl
theorem toList_size0 {s:ByteArray} (h:s.size=0):s.toList=[]:=by
 rw [ByteArray.toList_eq];apply List.eq_nil_of_length_eq_zero;simpa using h
theorem toList_sizePos {s:ByteArray} (h:¬ s.size=0):¬ s.toList=[]:=by
 rw [ByteArray.toList_eq];intro e;apply h;have:=congrArg List.length e;simpa using this
end Go.Proofs.YtenahlandohgaaaGreatDoor
