import Derived.Laws.AppendOwn
import Derived.Maps.AppendAt
import Derived.Deep.DrawnRows
import Derived.Lib.AppendIntMem
import Derived.Test.YtenahlandohgaaaGreatDoorLeaf
import Derived.Test.YtenahlandohgaaaGreatDoorZPlainRun
import Derived.Test.YtenahlandohgaaaGreatDoorZPlainStore
import Derived.Test.YtenahlandohgaaaGreatDoorShelf
namespace Go.Proofs.YtenahlandohgaaaGreatDoor
set_option linter.unusedVariables false
set_option linter.unusedSimpArgs false
set_option maxRecDepth 100000
set_option maxHeartbeats 4000000
section
open Go.RowKit
theorem strA_size (x:List UInt8):(strA x).size=x.length:=rfl
theorem strA_app (x y:List UInt8):strA x++strA y=strA (x++y):=by
 unfold strA
 apply ByteArray.ext
 simp
theorem strA_beq (x y:List UInt8):((strA x).toList == y)=decide (x=y):=by
 rw [ByteArray.toList_eq,show (strA x).data.toList=x from rfl,Bool.eq_iff_iff]
 simp
theorem cell_lt {w:World} {a:Addr} {v:Value} (h:w.cell? a=some v):a.block < w.heap.size:=by
 rcases Nat.lt_or_ge a.block w.heap.size with h' | h'
 ·exact h'
 ·unfold World.cell? at h;rw [Array.getElem?_eq_none h'] at h;cases h
def TxtAt (w:World) (g:Nat) (zs:List (List UInt8)):Prop:=
 ∀ j,j < zs.length→w.cell? ⟨g,j,none⟩=some (.string (strA (zs.getD j [])))
theorem below_drew {w w':World} (h:Below w.drew.heap.size w.drew w'):Below w.heap.size w w':=⟨h.os,h.tape,h.output,h.size,h.block⟩
theorem heap_setCell_at (w:World) (b o:Nat) (v:Value) (cs:Array Value) (ty:TypeId) (h:w.heap[b]?=some (.cells cs ty)):(w.setCell ⟨b,o,none⟩ v).heap[b]?=some (.cells (cs.setIfInBounds o v) ty):=by
 simp only [World.setCell,Array.getElem?_modify]
 rw [if_pos trivial,h]
 rfl
theorem blk_cell {w:World} {g:Nat} {cs:Array Value} {ty:TypeId} (h:w.heap[g]?=some (.cells cs ty)) (o:Nat):w.cell? ⟨g,o,none⟩=cs[o]?:=by
 unfold World.cell?;rw [h];rfl
theorem blk_frozen {w:World} {g:Nat} {cs:Array Value} {ty:TypeId} (h:w.heap[g]?=some (.cells cs ty)) (o:Nat):w.frozen? ⟨g,o,none⟩=false:=by
 unfold World.frozen?;rw [h];simp
theorem blk_lt {w:World} {g:Nat} {o:Obj} (h:w.heap[g]?=some o):g < w.heap.size:=by
 rcases Nat.lt_or_ge g w.heap.size with h' | h'
 ·exact h'
 ·rw [Array.getElem?_eq_none h'] at h;cases h
theorem blk_alloc {w:World} {g:Nat} {o o':Obj} (h:w.heap[g]?=some o):(w.alloc o').heap[g]?=some o:=by
 rw [Below.heap_alloc _ _ _ (blk_lt h)];exact h
theorem blk_new (w:World) (o:Obj):(w.alloc o).heap[w.heap.size]?=some o:=by
 show (w.heap.push o)[w.heap.size]?=_
 simp
theorem blk_newAt {w:World} {g:Nat} {o:Obj} (h:g=w.heap.size):(w.alloc o).heap[g]?=some o:=by subst h;exact blk_new w o
theorem blk_below {w w':World} {g:Nat} {o:Obj} (h:w.heap[g]?=some o) (hb:Below w.heap.size w w'):w'.heap[g]?=some o:=by
 rw [hb.block g (blk_lt h)];exact h
theorem below_alloc {w W:World} {B:Nat} (h:Below B w W) (hB:B≤w.heap.size) (o:Obj):Below B w (W.alloc o):=h.alloc (Nat.le_trans hB h.size) o
def tcells (zs:List (List UInt8)):List Value:=zs.map fun z=>Value.string (strA z)
theorem Tryz.infoStr:(Tryz.prog.info? 9).map (fun i=>(i.zero,i.size,i.bytes))=some (some (.string ⟨#[]⟩),1,16):=by kernel_rfl
end
section
open Go.RowKit
attribute [local go_sem ↓] Go.wp_at_zero Go.wp_at_succ
def Tab (w:World):Prop:=Lib.TabIs Tryz.prog w "internal/strconv.uint64pow10" .u64 Lib.pow10Tab
theorem Tab.below {w w':World} (h:Tab w) (hb:Below w.heap.size w w'):Tab w':=Lib.tabBelow_of_tabIs h w' hb
theorem itoa_any (n:Nat) (hn:n≤2147483647) (w:World) (ht:Tab w) :
 Calls Tryz.prog 209 #[.int .i64 n] w fun e w'=>e=.returned (.string (strA (itoaL n)))∧Below w.heap.size w w':=by
 refine (Tryz.strconv_Itoa n (by omega) (by omega) w ht).mono ?_
 rintro e w' ⟨rfl,k,os,rfl⟩
 exact ⟨by rw [Lib.itoa_nonneg];rfl,Lib.below_grow _ _ (Nat.le_refl _) _ _⟩
end
end Go.Proofs.YtenahlandohgaaaGreatDoor
