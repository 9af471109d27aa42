import Derived.OrdersHeld
import Derived.Test.YtenahlandohgaaaGreatDoorAIsBox
import Derived.Test.YtenahlandohgaaaGreatDoorLeaf
import Derived.Test.YtenahlandohgaaaGreatDoorZPlainStore
import Derived.Test.YtenahlandohgaaaGreatDoorZWTab
namespace Go.Proofs.YtenahlandohgaaaGreatDoor
set_option linter.unusedVariables false
set_option linter.unusedSimpArgs false
set_option maxRecDepth 100000
set_option maxHeartbeats 4000000
section
open Go.RowKit
theorem pt (l:List Value) (ds:_) (d:Nat) (v:Value):Act.put ⟨l.toArray,ds⟩ (some d) v=⟨(l.set d v).toArray,ds⟩:=by simp [Act.put]
theorem sz (x y:Value) (l:List Value):(x :: l).set 0 y=y :: l:=rfl
theorem sc (x y:Value) (l:List Value) (n:Nat):(x :: l).set (n+1) y=x :: l.set n y:=rfl
theorem takeH {P:Program} {ops:Array Oper} {Q:Exit→Act→World→Prop} {md:Region.Mode} {S:World→Prop} (i d:Nat) (v:Value) {oi:Oper} {fuel:Nat} {listed:Array Bool} {a:Act} {w:World} (hi:ops[i]?=some oi) (hS:S w) (hv:∀ w',S w'→(execOp a.eval oi).run P w'=.ok (.value v) w') (h:wpAnyH P md ops Q S fuel (listed.setIfInBounds i true) (a.put (some d) v) w)
 (hd:oi.dst=some d:=by rfl) (hs:Region.noSelect ops=true:=by kernel_rfl) (hf:Region.free md ops listed i=true:=by kernel_rfl) (hr:(Region.ready md ops listed).contains i=true:=by kernel_rfl) (hQ:∀ c a w,Q (.panic c) (a.put (some d) v) w→Q (.panic c) a w:=by exact fun _ _ _ h=>h) (hw:Region.wanted oi (yielded ops a.tmps)=true:=by rfl):wpAnyH P md ops Q S (fuel+1) listed a w:=
 wpAnyH_take hi hs hf hr (by rw [hd];exact hQ) (Or.inl ⟨hw,hv⟩) hS (by rw [hd];exact h)
end
section
open Go.RowKit
attribute [local go_sem ↓] Go.wp_at_zero Go.wp_at_succ
theorem isID_any (s:ByteArray) (w:World) (hs:s.size≤140737488355328) :
 Calls Tryz.prog 138 #[.string s] w fun e w'=>e=.returned (.bool (isIDL s.data.toList))∧w'=w:=by
 have hlen:s.data.toList.length=s.size:=by simp
 by_cases h0:s.size=0
 ·have h0':=toList_size0 h0
  have hr:isIDL s.data.toList=false:=by rw [← ByteArray.toList_eq,h0'];rfl
  have HR:=hide hr
  clear hr hlen
  go_enter Tryz.func138,Tryz.ntmps138
  go_wp2
  go_ret
  exact ⟨ret_bool HR.out.symm,rfl⟩
 have h0':=toList_sizePos h0
 have h0'':s.toList.isEmpty=false:=by simpa using h0'
 have h1:0 < s.size:=by omega
 have hb0:=isEmpty_at s h1
 by_cases h8:8 < s.size
 ·have hr:isIDL s.data.toList=false:=by unfold isIDL;rw [hb0,decide_eq_false (by omega)];rfl
  have HR:=hide hr
  clear hr hlen hb0
  go_enter Tryz.func138,Tryz.ntmps138
  go_wp2
  go_ret
  exact ⟨ret_bool HR.out.symm,rfl⟩
 have hr:isIDL s.data.toList=(s.data.toList.drop 0).all idB:=by
  unfold isIDL;rw [hb0,decide_eq_true (by omega),List.drop_zero];rfl
 have HR:=hide hr
 clear hr hlen hb0
 go_enter Tryz.func138,Tryz.ntmps138
 go_wp2
 go_loop [13] (fun i=>∃ k:Nat,k≤s.size∧i=.int .i64 k∧isIDL s.data.toList=(s.data.toList.drop k).all idB) (fun i=>s.size - (intOf i).toNat)
 case atStart=>exact ⟨0,by omega,rfl,HR.out⟩
 case round=>
  obtain ⟨k,hk,rfl,hn⟩:=hrel
  have HN:=hide hn
  clear hn
  by_cases hlt:k < s.size
  rotate_left
  ·have HS:=hide (all_end s idB k (by omega))
   go_wp2
   go_ret
   exact ⟨ret_bool (by rw [HN.out,HS.out]),rfl⟩
  have HS:=hide (all_at s idB k hlt)
  have HB:Hid (idB s[k]=(isLetN (s[k].toNat:Int) || isDigitN (s[k].toNat:Int))):=rfl
  cases hc:isLetN (s[k].toNat:Int) <;> cases hd:isDigitN (s[k].toNat:Int) <;>
  (go_wp2_with (first | (go_at_call 204;refine (isLetter_any _ _).mono ?_;rintro e w' ⟨rfl,rfl⟩) | (go_at_call 205;refine (isDigit_any _ _).mono ?_;rintro e w' ⟨rfl,rfl⟩))
   first
    | (go_ret;exact ⟨ret_bool (by rw [HN.out,HS.out,HB.out,hc,hd];rfl),rfl⟩)
    | (go_round
       case rel=>exact ⟨k+1,by omega,by go_num,by rw [HN.out,HS.out,HB.out,hc,hd];rfl⟩
       case measure=>simp [intOf];omega))
theorem isBox_all (s:ByteArray) (w:World) (hs:s.size≤140737488355328) :
 Calls Tryz.prog 206 #[.string s] w fun e w'=>e=.returned (.bool (isBoxL s.data.toList))∧w'=w:=by
 by_cases h16:16 < s.size
 ·have h1:0 < s.size:=by omega
  have h0':=toList_sizePos (by omega:¬ s.size=0)
  have h0'':s.toList.isEmpty=false:=by simpa using h0'
  have hlen:s.data.toList.length=s.size:=by simp
  have hr:isBoxL s.data.toList=false:=by unfold isBoxL;rw [isEmpty_at s h1,decide_eq_false (by omega)];rfl
  have HR:=hide hr
  clear hr hlen
  go_enter Tryz.func206,Tryz.ntmps206
  go_wp2
  go_ret
  exact ⟨ret_bool HR.out.symm,rfl⟩
 ·exact isBox_any s w (by omega)
end
end Go.Proofs.YtenahlandohgaaaGreatDoor
