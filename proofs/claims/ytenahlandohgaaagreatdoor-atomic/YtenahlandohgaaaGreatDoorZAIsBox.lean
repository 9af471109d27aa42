import Derived.Test.YtenahlandohgaaaGreatDoorProg
import Derived.WalkKit
import Derived.WalkSpells
import Derived.WalkLawsBesides
import Derived.BigQuiet
import Derived.Deep.QuietTactic
import Derived.Laws.AppendOwn
import Derived.Maps.AppendAt
import Derived.Test.YtenahlandohgaaaGreatDoorZPlainList
import Derived.Test.YtenahlandohgaaaGreatDoorZPlainStore
namespace Go.Proofs.YtenahlandohgaaaGreatDoor
set_option linter.unusedVariables false
set_option linter.unusedSimpArgs false
set_option maxRecDepth 100000
set_option maxHeartbeats 4000000
section
open Go.RowKit
theorem hide {p:Prop} (h:p):Hid p:=h
theorem addr_add0 (b j:Nat):(⟨b,0,none⟩:Addr).add j=⟨b,j,none⟩:=by
 unfold Addr.add;split
 ·subst_vars;rfl
 ·simp
theorem ret_bool {a b:Bool} (h:a=b):Ending.returned (.bool a)=.returned (.bool b):=by rw [h]
theorem isDigit_any (c:Int) (w:World) :
 Calls Tryz.prog 205 #[.int .u8 c] w fun e w'=>e=.returned (.bool (isDigitN c))∧w'=w:=by
 go_enter Tryz.func205,Tryz.ntmps205
 go_wp2
 all_goals (go_ret;exact ⟨ret_bool (by simp [isDigitN, *];try omega),rfl⟩)
theorem isCapital_any (c:Int) (w:World) :
 Calls Tryz.prog 221 #[.int .u8 c] w fun e w'=>e=.returned (.bool (isCapN c))∧w'=w:=by
 go_enter Tryz.func221,Tryz.ntmps221
 go_wp2
 all_goals (go_ret;exact ⟨ret_bool (by simp [isCapN, *];try omega),rfl⟩)
theorem isSmall_any (c:Int) (w:World) :
 Calls Tryz.prog 254 #[.int .u8 c] w fun e w'=>e=.returned (.bool (isSmN c))∧w'=w:=by
 go_enter Tryz.func254,Tryz.ntmps254
 go_wp2
 all_goals (go_ret;exact ⟨ret_bool (by simp [isSmN, *];try omega),rfl⟩)
theorem isLetter_any (c:Int) (w:World) :
 Calls Tryz.prog 204 #[.int .u8 c] w fun e w'=>e=.returned (.bool (isLetN c))∧w'=w:=by
 go_enter Tryz.func204,Tryz.ntmps204
 cases hsm:isSmN c <;> cases hca:isCapN c <;>
 (go_wp2_with (first | (go_at_call 221;refine (isCapital_any _ _).mono ?_;rintro e w' ⟨rfl,rfl⟩) | (go_at_call 254;refine (isSmall_any _ _).mono ?_;rintro e w' ⟨rfl,rfl⟩))
  all_goals (go_ret;exact ⟨ret_bool (by rw [isLetN_eq];simp [*]),rfl⟩))
theorem ba_getD (s:ByteArray) (k:Nat) (h:k < s.size):s.data.toList.getD k 0=s[k]:=by
 rw [List.getD_eq_getElem?_getD,List.getElem?_eq_getElem (by simpa using h)];rfl
theorem drop_cons (s:ByteArray) (k:Nat) (h:k < s.size):s.data.toList.drop k=s[k] :: s.data.toList.drop (k+1):=by
 rw [List.drop_eq_getElem_cons (by simpa using h)];rfl
theorem toList_size0 {s:ByteArray} (h:s.size=0):s.toList=[]:=by
 rw [ByteArray.toList_eq];apply List.eq_nil_of_length_eq_zero;simpa using h
theorem toList_sizePos {s:ByteArray} (h:¬ s.size=0):¬ s.toList=[]:=by
 rw [ByteArray.toList_eq];intro e;apply h;have:=congrArg List.length e;simpa using this
end
section
open Go.RowKit
theorem strA_size (x:List UInt8):(strA x).size=x.length:=rfl
theorem strA_app (x y:List UInt8):strA x++strA y=strA (x++y):=by
 unfold strA
 apply ByteArray.ext
 simp
theorem strA_beq (x y:List UInt8):((strA x).toList == y)=decide (x=y):=by
 rw [ByteArray.toList_eq,show (strA x).data.toList=x from rfl,Bool.eq_iff_iff]
 simp
theorem cell_lt {w:World} {a:Addr} {v:Value} (h:w.cell? a=some v):a.block < w.heap.size:=by
 rcases Nat.lt_or_ge a.block w.heap.size with h' | h'
 ·exact h'
 ·unfold World.cell? at h;rw [Array.getElem?_eq_none h'] at h;cases h
def TxtAt (w:World) (g:Nat) (zs:List (List UInt8)):Prop:=
 ∀ j,j < zs.length→w.cell? ⟨g,j,none⟩=some (.string (strA (zs.getD j [])))
theorem below_drew {w w':World} (h:Below w.drew.heap.size w.drew w'):Below w.heap.size w w':=⟨h.os,h.tape,h.output,h.size,h.block⟩
theorem heap_setCell_at (w:World) (b o:Nat) (v:Value) (cs:Array Value) (ty:TypeId) (h:w.heap[b]?=some (.cells cs ty)):(w.setCell ⟨b,o,none⟩ v).heap[b]?=some (.cells (cs.setIfInBounds o v) ty):=by
 simp only [World.setCell,Array.getElem?_modify]
 rw [if_pos trivial,h]
 rfl
theorem blk_cell {w:World} {g:Nat} {cs:Array Value} {ty:TypeId} (h:w.heap[g]?=some (.cells cs ty)) (o:Nat):w.cell? ⟨g,o,none⟩=cs[o]?:=by
 unfold World.cell?;rw [h];rfl
theorem blk_frozen {w:World} {g:Nat} {cs:Array Value} {ty:TypeId} (h:w.heap[g]?=some (.cells cs ty)) (o:Nat):w.frozen? ⟨g,o,none⟩=false:=by
 unfold World.frozen?;rw [h];simp
theorem blk_lt {w:World} {g:Nat} {o:Obj} (h:w.heap[g]?=some o):g < w.heap.size:=by
 rcases Nat.lt_or_ge g w.heap.size with h' | h'
 ·exact h'
 ·rw [Array.getElem?_eq_none h'] at h;cases h
theorem blk_alloc {w:World} {g:Nat} {o o':Obj} (h:w.heap[g]?=some o):(w.alloc o').heap[g]?=some o:=by
 rw [Below.heap_alloc _ _ _ (blk_lt h)];exact h
theorem blk_new (w:World) (o:Obj):(w.alloc o).heap[w.heap.size]?=some o:=by
 show (w.heap.push o)[w.heap.size]?=_
 simp
theorem blk_newAt {w:World} {g:Nat} {o:Obj} (h:g=w.heap.size):(w.alloc o).heap[g]?=some o:=by subst h;exact blk_new w o
theorem blk_below {w w':World} {g:Nat} {o:Obj} (h:w.heap[g]?=some o) (hb:Below w.heap.size w w'):w'.heap[g]?=some o:=by
 rw [hb.block g (blk_lt h)];exact h
theorem below_alloc {w W:World} {B:Nat} (h:Below B w W) (hB:B≤w.heap.size) (o:Obj):Below B w (W.alloc o):=h.alloc (Nat.le_trans hB h.size) o
def tcells (zs:List (List UInt8)):List Value:=zs.map fun z=>Value.string (strA z)
theorem tcells_snoc (zs:List (List UInt8)) (z:List UInt8):tcells zs++[.string (strA z)]=tcells (zs++[z]):=by simp [tcells]
theorem Tryz.infoStr:(Tryz.prog.info? 9).map (fun i=>(i.zero,i.size,i.bytes))=some (some (.string ⟨#[]⟩),1,16):=by kernel_rfl
end
section
open Go.RowKit
theorem byteN_beq (c d:UInt8):((c.toNat:Int) == (d.toNat:Int))=decide (c=d):=by
 by_cases h:c=d
 ·subst h;simp
 ·rw [decide_eq_false h]
  simp
  intro e
  exact h (UInt8.toNat_inj.1 (by omega))
theorem all_at (s:ByteArray) (p:UInt8→Bool) (k:Nat) (h:k < s.size):(s.data.toList.drop k).all p=(p s[k] && (s.data.toList.drop (k+1)).all p):=by
 rw [drop_cons s k h,List.all_cons]
theorem all_end (s:ByteArray) (p:UInt8→Bool) (k:Nat) (h:s.size≤k):(s.data.toList.drop k).all p=true:=by
 rw [List.drop_of_length_le (by simpa using h)];rfl
theorem head_at (s:ByteArray) (h:0 < s.size):s.data.toList.head?=some s[0]:=by
 have:=drop_cons s 0 h
 rw [List.drop_zero] at this
 rw [this];rfl
theorem isEmpty_at (s:ByteArray) (h:0 < s.size):s.data.toList.isEmpty=false:=by
 have:=drop_cons s 0 h
 rw [List.drop_zero] at this
 rw [this];rfl
theorem isBox_any (s:ByteArray) (w:World) (hs:s.size≤1000000) :
 Calls Tryz.prog 206 #[.string s] w fun e w'=>e=.returned (.bool (isBoxL s.data.toList))∧w'=w:=by
 have hlen:s.data.toList.length=s.size:=by simp
 by_cases h0:s.size=0
 ·have h0':=toList_size0 h0
  have hr:isBoxL s.data.toList=false:=by rw [← ByteArray.toList_eq,h0'];rfl
  have HR:=hide hr
  clear hr hlen
  go_enter Tryz.func206,Tryz.ntmps206
  go_wp2
  go_ret
  exact ⟨ret_bool HR.out.symm,rfl⟩
 have h0':=toList_sizePos h0
 have h0'':s.toList.isEmpty=false:=by simpa using h0'
 have h1:0 < s.size:=by omega
 have hb0:=isEmpty_at s h1
 by_cases h16:16 < s.size
 ·have hr:isBoxL s.data.toList=false:=by unfold isBoxL;rw [hb0,decide_eq_false (by omega)];rfl
  have HR:=hide hr
  clear hr hlen hb0
  go_enter Tryz.func206,Tryz.ntmps206
  go_wp2
  go_ret
  exact ⟨ret_bool HR.out.symm,rfl⟩
 have e46:((s[0].toNat:Int) == 46)=decide (s[0]=46):=byteN_beq s[0] 46
 by_cases hd:s[0]=46
 ·rw [decide_eq_true hd] at e46
  have hr:isBoxL s.data.toList=false:=by unfold isBoxL;rw [hb0,decide_eq_true (by omega),head_at s h1,hd];rfl
  have HR:=hide hr
  clear hr hlen hb0 hd
  go_enter Tryz.func206,Tryz.ntmps206
  go_wp2
  go_ret
  exact ⟨ret_bool HR.out.symm,rfl⟩
 rw [decide_eq_false hd] at e46
 have hr:isBoxL s.data.toList=(s.data.toList.drop 0).all boxB:=by
  unfold isBoxL;rw [hb0,decide_eq_true (by omega),head_at s h1,List.drop_zero]
  simp [hd]
 have HR:=hide hr
 clear hr hlen hb0 hd
 go_enter Tryz.func206,Tryz.ntmps206
 go_wp2
 go_loop [19] (fun i=>∃ k:Nat,k≤s.size∧i=.int .i64 k∧isBoxL s.data.toList=(s.data.toList.drop k).all boxB) (fun i=>s.size - (intOf i).toNat)
 case atStart=>exact ⟨0,by omega,rfl,HR.out⟩
 case round=>
  obtain ⟨k,hk,rfl,hn⟩:=hrel
  have HN:=hide hn
  clear hn e46
  by_cases hlt:k < s.size
  rotate_left
  ·have HS:=hide (all_end s boxB k (by omega))
   go_wp2
   go_ret
   exact ⟨ret_bool (by rw [HN.out,HS.out]),rfl⟩
  have HS:=hide (all_at s boxB k hlt)
  have HB:Hid (boxB s[k]=(isLetN (s[k].toNat:Int) || isDigitN (s[k].toNat:Int) || s[k] == 45 || s[k] == 46)):=rfl
  have e45:((s[k].toNat:Int) != 45)=!(s[k] == 45):=by rw [bne,show ((s[k].toNat:Int) == 45)=decide (s[k]=45) from byteN_beq s[k] 45];by_cases h:s[k]=45 <;> simp [h]
  have e46:((s[k].toNat:Int) != 46)=!(s[k] == 46):=by rw [bne,show ((s[k].toNat:Int) == 46)=decide (s[k]=46) from byteN_beq s[k] 46];by_cases h:s[k]=46 <;> simp [h]
  generalize (s[k] == 45)=b45 at *
  generalize (s[k] == 46)=b46 at *
  cases hc:isLetN (s[k].toNat:Int) <;> cases hd:isDigitN (s[k].toNat:Int) <;> cases b45 <;> cases b46 <;>
  (go_wp2_with (first | (go_at_call 204;refine (isLetter_any _ _).mono ?_;rintro e w' ⟨rfl,rfl⟩) | (go_at_call 205;refine (isDigit_any _ _).mono ?_;rintro e w' ⟨rfl,rfl⟩))
   first
    | (go_ret;exact ⟨ret_bool (by rw [HN.out,HS.out,HB.out,hc,hd];rfl),rfl⟩)
    | (go_round
       case rel=>exact ⟨k+1,by omega,by go_num,by rw [HN.out,HS.out,HB.out,hc,hd];rfl⟩
       case measure=>simp [intOf];omega))
end
end Go.Proofs.YtenahlandohgaaaGreatDoor
