import Derived.Test.YtbiclelojbfnbaaGreatDoorLeaf
import Derived.Test.YtbiclelojbfnbaaGreatDoorPlainAsk
import Derived.Laws.AppendOwn
import Derived.Maps.AppendAt
namespace Go.Proofs.YtbiclelojbfnbaaGreatDoor
open Go.RowKit
set_option linter.unusedVariables false
set_option linter.unusedSimpArgs false

theorem strA_size (x : List UInt8) : (strA x).size = x.length := rfl
theorem strA_app (x y : List UInt8) : strA x ++ strA y = strA (x ++ y) := by
  unfold strA
  apply ByteArray.ext
  simp
theorem strA_beq (x y : List UInt8) : ((strA x).toList == y) = decide (x = y) := by
  rw [ByteArray.toList_eq, show (strA x).data.toList = x from rfl, Bool.eq_iff_iff]
  simp
theorem cell_lt {w : World} {a : Addr} {v : Value} (h : w.cell? a = some v) : a.block < w.heap.size := by
  rcases Nat.lt_or_ge a.block w.heap.size with h' | h'
  · exact h'
  · unfold World.cell? at h; rw [Array.getElem?_eq_none h'] at h; cases h
/-- A row of texts in block g. -/
def TxtAt (w : World) (g : Nat) (zs : List (List UInt8)) : Prop :=
  ∀ j, j < zs.length → w.cell? ⟨g, j, none⟩ = some (.string (strA (zs.getD j [])))
theorem below_drew {w w' : World} (h : Below w.drew.heap.size w.drew w') : Below w.heap.size w w' := ⟨h.os, h.tape, h.output, h.size, h.block⟩
theorem heap_setCell_at (w : World) (b o : Nat) (v : Value) (cs : Array Value) (ty : TypeId) (h : w.heap[b]? = some (.cells cs ty)) : (w.setCell ⟨b, o, none⟩ v).heap[b]? = some (.cells (cs.setIfInBounds o v) ty) := by
  simp only [World.setCell, Array.getElem?_modify]
  rw [if_pos trivial, h]
  rfl
theorem blk_cell {w : World} {g : Nat} {cs : Array Value} {ty : TypeId} (h : w.heap[g]? = some (.cells cs ty)) (o : Nat) : w.cell? ⟨g, o, none⟩ = cs[o]? := by
  unfold World.cell?; rw [h]; rfl
theorem blk_frozen {w : World} {g : Nat} {cs : Array Value} {ty : TypeId} (h : w.heap[g]? = some (.cells cs ty)) (o : Nat) : w.frozen? ⟨g, o, none⟩ = false := by
  unfold World.frozen?; rw [h]; simp
theorem blk_lt {w : World} {g : Nat} {o : Obj} (h : w.heap[g]? = some o) : g < w.heap.size := by
  rcases Nat.lt_or_ge g w.heap.size with h' | h'
  · exact h'
  · rw [Array.getElem?_eq_none h'] at h; cases h
theorem blk_alloc {w : World} {g : Nat} {o o' : Obj} (h : w.heap[g]? = some o) : (w.alloc o').heap[g]? = some o := by
  rw [Below.heap_alloc _ _ _ (blk_lt h)]; exact h
theorem blk_new (w : World) (o : Obj) : (w.alloc o).heap[w.heap.size]? = some o := by
  show (w.heap.push o)[w.heap.size]? = _
  simp
theorem blk_newAt {w : World} {g : Nat} {o : Obj} (h : g = w.heap.size) : (w.alloc o).heap[g]? = some o := by subst h; exact blk_new w o
theorem blk_below {w w' : World} {g : Nat} {o : Obj} (h : w.heap[g]? = some o) (hb : Below w.heap.size w w') : w'.heap[g]? = some o := by
  rw [hb.block g (blk_lt h)]; exact h
/-- The world is some world of which this is known. -/
theorem gen_world {P : World → Prop} {w W : World} {B : Nat} {o : Obj} (h1 : Below B w W) (h2 : W.heap[B]? = some o) (h3 : ∀ W', Below B w W' → W'.heap[B]? = some o → P W') : P W := h3 W h1 h2
theorem below_alloc {w W : World} {B : Nat} (h : Below B w W) (hB : B ≤ w.heap.size) (o : Obj) : Below B w (W.alloc o) := h.alloc (Nat.le_trans hB h.size) o
/-- Texts as cells. -/
def tcells (zs : List (List UInt8)) : List Value := zs.map fun z => Value.string (strA z)
theorem tcells_snoc (zs : List (List UInt8)) (z : List UInt8) : tcells zs ++ [.string (strA z)] = tcells (zs ++ [z]) := by simp [tcells]
theorem tcells_length (zs : List (List UInt8)) : (tcells zs).length = zs.length := by simp [tcells]
theorem Tryz.infoStr : (Tryz.prog.info? 9).map (fun i => (i.zero, i.size, i.bytes)) = some (some (.string ⟨#[]⟩), 1, 16) := by kernel_rfl
theorem TxtAt.of_owns {w : World} {base g n c : Nat} {xs : List (List UInt8)} (h : w.ownsRow base 9 1 (.slice (some ⟨g, 0, none⟩) n c) n (tcells xs)) : TxtAt w g xs := fun j hj => by
  have := h.cells (g := g) rfl j (.string (strA (xs.getD j []))) (by simp [tcells, List.getElem?_eq_getElem hj, List.getD_eq_getElem?_getD])
  rw [addr_add0] at this
  exact this
theorem txt_alloc (w : World) (zs : List (List UInt8)) (cs : Array Value) (ty : TypeId) (h : cs = (tcells zs).toArray) : TxtAt (w.alloc (.cells cs ty)) w.heap.size zs := fun j hj => by
  subst h
  have : (w.alloc (.cells (tcells zs).toArray ty)).heap[w.heap.size]? = some (.cells (tcells zs).toArray ty) := by
    show (w.heap.push _)[w.heap.size]? = _
    simp
  unfold World.cell?
  rw [this]
  simp [tcells, List.getD_eq_getElem?_getD, hj]
theorem txt_newAt {w : World} {g : Nat} (zs : List (List UInt8)) (ty : TypeId) (h : g = w.heap.size) : TxtAt (w.alloc (.cells (tcells zs).toArray ty)) g zs := by subst h; exact txt_alloc w zs _ ty rfl

end Go.Proofs.YtbiclelojbfnbaaGreatDoor
