import Derived.Test.YtenahlandohgaaaGreatDoorZPlainRun
import Derived.Test.YtenahlandohgaaaGreatDoorZWTab
namespace Go.Proofs.YtenahlandohgaaaGreatDoor
set_option linter.unusedVariables false
set_option linter.unusedSimpArgs false
set_option maxRecDepth 100000
set_option maxHeartbeats 4000000
open Go.RowKit
theorem byteN_beq (c d:UInt8):((c.toNat:Int) == (d.toNat:Int))=decide (c=d):=by
 by_cases h:c=d
 ·subst h;simp
 ·rw [decide_eq_false h]
  simp
  intro e
  exact h (UInt8.toNat_inj.1 (by omega))
theorem all_at (s:ByteArray) (p:UInt8→Bool) (k:Nat) (h:k < s.size):(s.data.toList.drop k).all p=(p s[k] && (s.data.toList.drop (k+1)).all p):=by
 rw [drop_cons s k h,List.all_cons]
theorem all_end (s:ByteArray) (p:UInt8→Bool) (k:Nat) (h:s.size≤k):(s.data.toList.drop k).all p=true:=by
 rw [List.drop_of_length_le (by simpa using h)];rfl
theorem head_at (s:ByteArray) (h:0 < s.size):s.data.toList.head?=some s[0]:=by
 have:=drop_cons s 0 h
 rw [List.drop_zero] at this
 rw [this];rfl
theorem isEmpty_at (s:ByteArray) (h:0 < s.size):s.data.toList.isEmpty=false:=by
 have:=drop_cons s 0 h
 rw [List.drop_zero] at this
 rw [this];rfl
theorem isBox_any (s:ByteArray) (w:World) (hs:s.size≤1000000) :
 Calls Tryz.prog 206 #[.string s] w fun e w'=>e=.returned (.bool (isBoxL s.data.toList))∧w'=w:=by
 have hlen:s.data.toList.length=s.size:=by simp
 by_cases h0:s.size=0
 ·have h0':=toList_size0 h0
  have hr:isBoxL s.data.toList=false:=by rw [← ByteArray.toList_eq,h0'];rfl
  have HR:=hide hr
  clear hr hlen
  go_enter Tryz.func206,Tryz.ntmps206
  go_wp2
  go_ret
  exact ⟨ret_bool HR.out.symm,rfl⟩
 have h0':=toList_sizePos h0
 have h0'':s.toList.isEmpty=false:=by simpa using h0'
 have h1:0 < s.size:=by omega
 have hb0:=isEmpty_at s h1
 by_cases h16:16 < s.size
 ·have hr:isBoxL s.data.toList=false:=by unfold isBoxL;rw [hb0,decide_eq_false (by omega)];rfl
  have HR:=hide hr
  clear hr hlen hb0
  go_enter Tryz.func206,Tryz.ntmps206
  go_wp2
  go_ret
  exact ⟨ret_bool HR.out.symm,rfl⟩
 have e46:((s[0].toNat:Int) == 46)=decide (s[0]=46):=byteN_beq s[0] 46
 by_cases hd:s[0]=46
 ·rw [decide_eq_true hd] at e46
  have hr:isBoxL s.data.toList=false:=by unfold isBoxL;rw [hb0,decide_eq_true (by omega),head_at s h1,hd];rfl
  have HR:=hide hr
  clear hr hlen hb0 hd
  go_enter Tryz.func206,Tryz.ntmps206
  go_wp2
  go_ret
  exact ⟨ret_bool HR.out.symm,rfl⟩
 rw [decide_eq_false hd] at e46
 have hr:isBoxL s.data.toList=(s.data.toList.drop 0).all boxB:=by
  unfold isBoxL;rw [hb0,decide_eq_true (by omega),head_at s h1,List.drop_zero]
  simp [hd]
 have HR:=hide hr
 clear hr hlen hb0 hd
 go_enter Tryz.func206,Tryz.ntmps206
 go_wp2
 go_loop [19] (fun i=>∃ k:Nat,k≤s.size∧i=.int .i64 k∧isBoxL s.data.toList=(s.data.toList.drop k).all boxB) (fun i=>s.size - (intOf i).toNat)
 case atStart=>exact ⟨0,by omega,rfl,HR.out⟩
 case round=>
  obtain ⟨k,hk,rfl,hn⟩:=hrel
  have HN:=hide hn
  clear hn e46
  by_cases hlt:k < s.size
  rotate_left
  ·have HS:=hide (all_end s boxB k (by omega))
   go_wp2
   go_ret
   exact ⟨ret_bool (by rw [HN.out,HS.out]),rfl⟩
  have HS:=hide (all_at s boxB k hlt)
  have HB:Hid (boxB s[k]=(isLetN (s[k].toNat:Int) || isDigitN (s[k].toNat:Int) || s[k] == 45 || s[k] == 46)):=rfl
  have e45:((s[k].toNat:Int) != 45)=!(s[k] == 45):=by rw [bne,show ((s[k].toNat:Int) == 45)=decide (s[k]=45) from byteN_beq s[k] 45];by_cases h:s[k]=45 <;> simp [h]
  have e46:((s[k].toNat:Int) != 46)=!(s[k] == 46):=by rw [bne,show ((s[k].toNat:Int) == 46)=decide (s[k]=46) from byteN_beq s[k] 46];by_cases h:s[k]=46 <;> simp [h]
  generalize (s[k] == 45)=b45 at *
  generalize (s[k] == 46)=b46 at *
  cases hc:isLetN (s[k].toNat:Int) <;> cases hd:isDigitN (s[k].toNat:Int) <;> cases b45 <;> cases b46 <;>
  (go_wp2_with (first | (go_at_call 204;refine (isLetter_any _ _).mono ?_;rintro e w' ⟨rfl,rfl⟩) | (go_at_call 205;refine (isDigit_any _ _).mono ?_;rintro e w' ⟨rfl,rfl⟩))
   first
    | (go_ret;exact ⟨ret_bool (by rw [HN.out,HS.out,HB.out,hc,hd];rfl),rfl⟩)
    | (go_round
       case rel=>exact ⟨k+1,by omega,by go_num,by rw [HN.out,HS.out,HB.out,hc,hd];rfl⟩
       case measure=>simp [intOf];omega))
end Go.Proofs.YtenahlandohgaaaGreatDoor
