import Derived.Test.YtbiclelojbfnbabGreatDoorProg
import Derived.WalkKit
import Derived.WalkSpells
import Derived.WalkLawsBesides
import Derived.BigQuiet
import Derived.Deep.QuietTactic
import Derived.OrdersHeld
import Derived.Laws.AppendOwn
import Derived.Maps.AppendAt
import Derived.Deep.DrawnRows
import Derived.Lib.AppendIntMem
import Derived.Test.YtbiclelojbfnbabGreatDoorZPlainCodeLen
import Derived.Test.YtbiclelojbfnbabGreatDoorZPlainSpace2
import Derived.Test.YtbiclelojbfnbabGreatDoorShelf
namespace Go.Proofs.YtbiclelojbfnbabGreatDoor
set_option linter.unusedVariables false
set_option linter.unusedSimpArgs false
set_option maxRecDepth 100000
set_option maxHeartbeats 4000000
section
open Go.RowKit
theorem Qaa {p:Prop} (h:p):Hid p:=h
theorem QcM (b j:Nat):(⟨b,0,none⟩:Addr).add j=⟨b,j,none⟩:=by
 unfold Addr.add;split
 ·subst_vars;rfl
 ·simp
theorem QaU {a b:Bool} (h:a=b):Ending.returned (.bool a)=.returned (.bool b):=by rw [h]
theorem Qcb {k:IntKind} {a b:Int} (h:a=b):Ending.returned (.int k a)=.returned (.int k b):=by rw [h]
theorem Qcw (c:Int) (w:World) :
 Calls Tryz.prog 214 #[.int .u8 c] w fun e w'=>e=.returned (.bool (Qbb c))∧w'=w:=by
 go_enter Tryz.func214,Tryz.ntmps214
 go_wp2
 all_goals (go_ret;exact ⟨QaU (by simp [Qbb, *]),rfl⟩)
theorem Qaj (c:Int) (w:World) :
 Calls Tryz.prog 143 #[.int .u8 c] w fun e w'=>e=.returned (.bool (QaE c))∧w'=w:=by
 go_enter Tryz.func143,Tryz.ntmps143
 go_wp2
 all_goals (go_ret;exact ⟨QaU (by simp [QaE, *];try omega),rfl⟩)
theorem Qef (c:Int) (w:World) :
 Calls Tryz.prog 194 #[.int .u8 c] w fun e w'=>e=.returned (.bool (QdO c))∧w'=w:=by
 go_enter Tryz.func194,Tryz.ntmps194
 go_wp2
 all_goals (go_ret;exact ⟨QaU (by simp [QdO, *];try omega),rfl⟩)
theorem Qfu (c:Int) (w:World) :
 Calls Tryz.prog 193 #[.int .u8 c] w fun e w'=>e=.returned (.bool (Qfr c))∧w'=w:=by
 go_enter Tryz.func193,Tryz.ntmps193
 go_wp2
 all_goals (go_ret;exact ⟨QaU (by simp [Qfr, *];try omega),rfl⟩)
theorem Qai (c:Int) (w:World) :
 Calls Tryz.prog 142 #[.int .u8 c] w fun e w'=>e=.returned (.bool (Qbg c))∧w'=w:=by
 go_enter Tryz.func142,Tryz.ntmps142
 cases hsm:Qfr c <;> cases hca:QdO c <;>
 (go_wp2_with (first | (go_at_call 194;refine (Qef _ _).mono ?_;rintro e w' ⟨rfl,rfl⟩) | (go_at_call 193;refine (Qfu _ _).mono ?_;rintro e w' ⟨rfl,rfl⟩))
  all_goals (go_ret;exact ⟨QaU (by rw [Qqs];simp [*]),rfl⟩))
theorem Qte (s:ByteArray) (k:Nat) (h:k < s.size):s.data.toList.getD k 0=s[k]:=by
 rw [List.getD_eq_getElem?_getD,List.getElem?_eq_getElem (by simpa using h)];rfl
theorem QqS (s:ByteArray) (n:Int) (w:World) (hs:s.size≤maxLen) (h0:0≤n) (h:n < s.size) :
 Calls Tryz.prog 240 #[.string s,.int .i64 n] w fun e w'=>e=.returned (.int .u8 (s.data.toList.getD n.toNat 0).toNat)∧w'=w:=by
 unfold maxLen at hs
 go_enter Tryz.func240,Tryz.ntmps240
 go_wp2
 all_goals (go_ret;exact ⟨Qcb (by rw [Qte s _ (by omega)]),rfl⟩)
theorem Qpd (s:ByteArray) (n:Int) (w:World) (hs:s.size≤maxLen) (h:s.size≤n) :
 Calls Tryz.prog 240 #[.string s,.int .i64 n] w fun e w'=>e=.returned (.int .u8 (s.data.toList.getD n.toNat 0).toNat)∧w'=w:=by
 unfold maxLen at hs
 go_enter Tryz.func240,Tryz.ntmps240
 go_wp2
 all_goals (go_ret;exact ⟨Qcb (by rw [List.getD_eq_getElem?_getD,List.getElem?_eq_none (by simp;omega)];rfl),rfl⟩)
theorem QoU (s:ByteArray) (n:Int) (w:World) (hs:s.size≤maxLen) (h0:0≤n) :
 Calls Tryz.prog 240 #[.string s,.int .i64 n] w fun e w'=>e=.returned (.int .u8 (s.data.toList.getD n.toNat 0).toNat)∧w'=w:=by
 by_cases h:n < s.size
 ·exact QqS s n w hs h0 h
 ·exact Qpd s n w hs (by omega)
def byteOf (s:ByteArray) (n:Int):UInt8:=s.data.toList.getD n.toNat 0
theorem Qb4 (s:ByteArray) (n:Int) (w:World) (hs:s.size≤maxLen) (h0:0≤n) :
 Calls Tryz.prog 240 #[.string s,.int .i64 n] w fun e w'=>e=.returned (.int .u8 (byteOf s n).toNat)∧w'=w:=QoU s n w hs h0
theorem Qbm (s:ByteArray) (k:Nat) (h:k < s.size):s.data.toList.drop k=s[k] :: s.data.toList.drop (k+1):=by
 rw [List.drop_eq_getElem_cons (by simpa using h)];rfl
theorem QdM {s:ByteArray} (h:s.size=0):s.toList=[]:=by
 rw [ByteArray.toList_eq];apply List.eq_nil_of_length_eq_zero;simpa using h
theorem Qcr {s:ByteArray} (h:¬ s.size=0):¬ s.toList=[]:=by
 rw [ByteArray.toList_eq];intro e;apply h;have:=congrArg List.length e;simpa using this
theorem Qpn (s:ByteArray) (h:0 < s.size) (hl:Qbg (s[0].toNat:Int)=true):Qa4 s.data.toList=1+Qbr (s.data.toList.drop 1):=by
 have e:=Qbm s 0 h
 rw [List.drop_zero] at e
 rw [e];simp only [Qa4];rw [if_pos hl];rfl
theorem QnI (s:ByteArray) (h:0 < s.size) (hl:Qbg (s[0].toNat:Int)=false):Qa4 s.data.toList=0:=by
 have e:=Qbm s 0 h
 rw [List.drop_zero] at e
 rw [e];simp only [Qa4];rw [if_neg (by rw [hl];decide)]
theorem QjW (s:ByteArray) (k:Nat) (h:k < s.size):Qbr (s.data.toList.drop k)=if Qbf s[k] then 1+Qbr (s.data.toList.drop (k+1)) else 0:=by
 rw [Qbm s k h,QfI]
theorem Qkz (s:ByteArray) (k:Nat) (h:s.size≤k):Qbr (s.data.toList.drop k)=0:=by
 rw [List.drop_of_length_le (by simpa using h)];rfl
theorem QbP (s:ByteArray) (w:World) (hs:s.size≤maxLen) :
 Calls Tryz.prog 210 #[.string s] w fun e w'=>e=.returned (.int .i64 (Qa4 s.data.toList))∧w'=w:=by
 unfold maxLen at hs
 by_cases h0:s.size=0
 ·have h0':=QdM h0
  go_enter Tryz.func210,Tryz.ntmps210
  go_wp2
  go_ret
  exact ⟨Qcb (by rw [← ByteArray.toList_eq,h0'];rfl),rfl⟩
 have h0':=Qcr h0
 have h0'':s.toList.isEmpty=false:=by simpa using h0'
 have h1:0 < s.size:=by omega
 cases hl:Qbg (s[0].toNat:Int)
 ·have H:Hid (Qa4 s.data.toList=0):=QnI s h1 hl
  go_enter Tryz.func210,Tryz.ntmps210
  go_wp2_with (go_at_call 142;refine (Qai _ _).mono ?_;rintro e w' ⟨rfl,rfl⟩)
  go_ret
  exact ⟨Qcb (by rw [H.out];rfl),rfl⟩
 ·have H:Hid (Qa4 s.data.toList=1+Qbr (s.data.toList.drop 1)):=Qpn s h1 hl
  go_enter Tryz.func210,Tryz.ntmps210
  go_wp2_with (go_at_call 142;refine (Qai _ _).mono ?_;rintro e w' ⟨rfl,rfl⟩)
  go_loop [3] (fun i=>∃ k:Nat,k≤s.size∧i=.int .i64 k∧Qa4 s.data.toList=k+Qbr (s.data.toList.drop k)) (fun i=>s.size - (intOf i).toNat)
  case atStart=>exact ⟨1,by omega,rfl,H.out⟩
  case round=>
   obtain ⟨k,hk,rfl,hn⟩:=hrel
   have HN:Hid (Qa4 s.data.toList=k+Qbr (s.data.toList.drop k)):=hn
   clear hn hl
   by_cases hlt:k < s.size
   ·have HS:Hid (Qbr (s.data.toList.drop k)=if Qbf s[k] then 1+Qbr (s.data.toList.drop (k+1)) else 0):=QjW s k hlt
    cases hc:Qbg (s[k].toNat:Int)
    ·cases hd:QaE (s[k].toNat:Int)
     ·have HD:Hid (Qbf s[k]=false):=by show Qbf s[k]=false;simp [Qbf,hc,hd]
      go_wp2_with (first | (go_at_call 142;refine (Qai _ _).mono ?_;rintro e w' ⟨rfl,rfl⟩) | (go_at_call 143;refine (Qaj _ _).mono ?_;rintro e w' ⟨rfl,rfl⟩))
      go_ret
      exact ⟨Qcb (by rw [HN.out,HS.out,HD.out];simp),rfl⟩
     ·have HD:Hid (Qbf s[k]=true):=by show Qbf s[k]=true;simp [Qbf,hd]
      go_wp2_with (first | (go_at_call 142;refine (Qai _ _).mono ?_;rintro e w' ⟨rfl,rfl⟩) | (go_at_call 143;refine (Qaj _ _).mono ?_;rintro e w' ⟨rfl,rfl⟩))
      go_round
      case rel=>exact ⟨k+1,by omega,by go_num,by rw [HN.out,HS.out,HD.out];simp;omega⟩
      case measure=>simp [intOf];omega
    ·have HD:Hid (Qbf s[k]=true):=by show Qbf s[k]=true;simp [Qbf,hc]
     go_wp2_with (first | (go_at_call 142;refine (Qai _ _).mono ?_;rintro e w' ⟨rfl,rfl⟩) | (go_at_call 143;refine (Qaj _ _).mono ?_;rintro e w' ⟨rfl,rfl⟩))
     go_round
     case rel=>exact ⟨k+1,by omega,by go_num,by rw [HN.out,HS.out,HD.out];simp;omega⟩
     case measure=>simp [intOf];omega
   ·have HS:Hid (Qbr (s.data.toList.drop k)=0):=Qkz s k (by omega)
    go_wp2
    go_ret
    exact ⟨Qcb (by rw [HN.out,HS.out];simp),rfl⟩
end
section
open Go.RowKit
theorem pt (l:List Value) (ds:_) (d:Nat) (v:Value):Act.put ⟨l.toArray,ds⟩ (some d) v=⟨(l.set d v).toArray,ds⟩:=by simp [Act.put]
theorem QaA {P:Program} {ops:Array Oper} {Q:Exit→Act→World→Prop} {md:Region.Mode} {S:World→Prop} (i d:Nat) (v:Value) {oi:Oper} {fuel:Nat} {listed:Array Bool} {a:Act} {w:World} (hi:ops[i]?=some oi) (hS:S w) (hv:∀ w',S w'→(execOp a.eval oi).run P w'=.ok (.value v) w') (h:wpAnyH P md ops Q S fuel (listed.setIfInBounds i true) (a.put (some d) v) w)
 (hd:oi.dst=some d:=by rfl) (hs:Region.noSelect ops=true:=by kernel_rfl) (hf:Region.free md ops listed i=true:=by kernel_rfl) (hr:(Region.ready md ops listed).contains i=true:=by kernel_rfl) (hQ:∀ c a w,Q (.panic c) (a.put (some d) v) w→Q (.panic c) a w:=by exact fun _ _ _ h=>h) (hw:Region.wanted oi (yielded ops a.tmps)=true:=by rfl):wpAnyH P md ops Q S (fuel+1) listed a w:=
 wpAnyH_take hi hs hf hr (by rw [hd];exact hQ) (Or.inl ⟨hw,hv⟩) hS (by rw [hd];exact h)
end
section
open Go.RowKit
theorem QaD (x:List UInt8):(Qag x).size=x.length:=rfl
theorem QcZ (x y:List UInt8):Qag x++Qag y=Qag (x++y):=by
 unfold Qag
 apply ByteArray.ext
 simp
theorem Qc1 (x y:List UInt8):((Qag x).toList == y)=decide (x=y):=by
 rw [ByteArray.toList_eq,show (Qag x).data.toList=x from rfl,Bool.eq_iff_iff]
 simp
theorem Qay {w:World} {a:Addr} {v:Value} (h:w.cell? a=some v):a.block < w.heap.size:=by
 rcases Nat.lt_or_ge a.block w.heap.size with h' | h'
 ·exact h'
 ·unfold World.cell? at h;rw [Array.getElem?_eq_none h'] at h;cases h
def Qc6 (w:World) (g:Nat) (zs:List (List UInt8)):Prop:=
 ∀ j,j < zs.length→w.cell? ⟨g,j,none⟩=some (.string (Qag (zs.getD j [])))
theorem QaS {w w':World} (h:Below w.drew.heap.size w.drew w'):Below w.heap.size w w':=⟨h.os,h.tape,h.output,h.size,h.block⟩
theorem Qah (w:World) (b o:Nat) (v:Value) (cs:Array Value) (ty:TypeId) (h:w.heap[b]?=some (.cells cs ty)):(w.setCell ⟨b,o,none⟩ v).heap[b]?=some (.cells (cs.setIfInBounds o v) ty):=by
 simp only [World.setCell,Array.getElem?_modify]
 rw [if_pos trivial,h]
 rfl
theorem Qab {w:World} {g:Nat} {cs:Array Value} {ty:TypeId} (h:w.heap[g]?=some (.cells cs ty)) (o:Nat):w.cell? ⟨g,o,none⟩=cs[o]?:=by
 unfold World.cell?;rw [h];rfl
theorem Qam {w:World} {g:Nat} {cs:Array Value} {ty:TypeId} (h:w.heap[g]?=some (.cells cs ty)) (o:Nat):w.frozen? ⟨g,o,none⟩=false:=by
 unfold World.frozen?;rw [h];simp
theorem QaM {w:World} {g:Nat} {o:Obj} (h:w.heap[g]?=some o):g < w.heap.size:=by
 rcases Nat.lt_or_ge g w.heap.size with h' | h'
 ·exact h'
 ·rw [Array.getElem?_eq_none h'] at h;cases h
theorem Qad {w:World} {g:Nat} {o o':Obj} (h:w.heap[g]?=some o):(w.alloc o').heap[g]?=some o:=by
 rw [Below.heap_alloc _ _ _ (QaM h)];exact h
theorem QaB (w:World) (o:Obj):(w.alloc o).heap[w.heap.size]?=some o:=by
 show (w.heap.push o)[w.heap.size]?=_
 simp
theorem Qaw {w:World} {g:Nat} {o:Obj} (h:g=w.heap.size):(w.alloc o).heap[g]?=some o:=by subst h;exact QaB w o
theorem Qaq {w w':World} {g:Nat} {o:Obj} (h:w.heap[g]?=some o) (hb:Below w.heap.size w w'):w'.heap[g]?=some o:=by
 rw [hb.block g (QaM h)];exact h
def QaV (zs:List (List UInt8)):List Value:=zs.map fun z=>Value.string (Qag z)
theorem Qcx (zs:List (List UInt8)) (z:List UInt8):QaV zs++[.string (Qag z)]=QaV (zs++[z]):=by simp [QaV]
theorem QjG (zs:List (List UInt8)):(QaV zs).length=zs.length:=by simp [QaV]
theorem Tryz.infoStr:(Tryz.prog.info? 9).map (fun i=>(i.zero,i.size,i.bytes))=some (some (.string ⟨#[]⟩),1,16):=by kernel_rfl
theorem Qc6.of_owns {w:World} {base g n c:Nat} {xs:List (List UInt8)} (h:w.ownsRow base 9 1 (.slice (some ⟨g,0,none⟩) n c) n (QaV xs)):Qc6 w g xs:=fun j hj=>by
 have:=h.cells (g:=g) rfl j (.string (Qag (xs.getD j []))) (by simp [QaV,List.getElem?_eq_getElem hj,List.getD_eq_getElem?_getD])
 rw [QcM] at this
 exact this
theorem QbN (w:World) (zs:List (List UInt8)) (cs:Array Value) (ty:TypeId) (h:cs=(QaV zs).toArray):Qc6 (w.alloc (.cells cs ty)) w.heap.size zs:=fun j hj=>by
 subst h
 have:(w.alloc (.cells (QaV zs).toArray ty)).heap[w.heap.size]?=some (.cells (QaV zs).toArray ty):=by
  show (w.heap.push _)[w.heap.size]?=_
  simp
 unfold World.cell?
 rw [this]
 simp [QaV,List.getD_eq_getElem?_getD,hj]
theorem Qb7 {w:World} {g:Nat} (zs:List (List UInt8)) (ty:TypeId) (h:g=w.heap.size):Qc6 (w.alloc (.cells (QaV zs).toArray ty)) g zs:=by subst h;exact QbN w zs _ ty rfl
end
section
open Go.RowKit
attribute [local go_sem ↓] Go.wp_at_zero Go.wp_at_succ
def Tab (w:World):Prop:=Lib.TabIs Tryz.prog w "internal/strconv.uint64pow10" .u64 Lib.pow10Tab
theorem Tab.below {w w':World} (h:Tab w) (hb:Below w.heap.size w w'):Tab w':=Lib.tabBelow_of_tabIs h w' hb
theorem QsH (n:Nat) (hn:n≤2147483647) (w:World) (ht:Tab w) :
 Calls Tryz.prog 147 #[.int .i64 n] w fun e w'=>e=.returned (.string (Qag (itoaL n)))∧Below w.heap.size w w':=by
 refine (Tryz.strconv_Itoa n (by omega) (by omega) w ht).mono ?_
 rintro e w' ⟨rfl,k,os,rfl⟩
 exact ⟨by rw [Lib.itoa_nonneg];rfl,Lib.below_grow _ _ (Nat.le_refl _) _ _⟩
theorem QnS (g:Nat) (a1 a2:Option Addr) (n1 c1 n2 c2:Nat) (w:World) (h:w.heap[g]?=some (.cells #[.slice a1 n1 c1,.slice a2 n2 c2] 96)) :
 Calls Tryz.prog 38 #[.pointer (some ⟨g,0,none⟩)] w fun e w'=>e=.returned (.agg #[.slice a1 n1 c1,.slice a2 n2 c2])∧Below w.heap.size w w':=by
 have d0:∀ o,(w.alloc o).cell? ⟨g,0,none⟩=some (.slice a1 n1 c1):=fun o=>Qab (Qad h) 0
 have d1:∀ o,(w.alloc o).cell? ⟨g,1,none⟩=some (.slice a2 n2 c2):=fun o=>Qab (Qad h) 1
 clear h
 go_enter Tryz.func38,Tryz.ntmps38
 go_wp2
 refine bodyPost_ret (v:=.agg #[.slice a1 n1 c1,.slice a2 n2 c2]) (by simp [results,Tryz.results38,go_sem]) rfl ?_
 exact ⟨rfl,((Below.refl _ _).alloc (Nat.le_refl _) _)⟩
end
end Go.Proofs.YtbiclelojbfnbabGreatDoor
