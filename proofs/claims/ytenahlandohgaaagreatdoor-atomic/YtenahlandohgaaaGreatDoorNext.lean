import Derived.Deep.RegionWith
import Derived.Deep.RegionHeld3
import Derived.Deep.DrawnRows
import Derived.Lib.Index
import Derived.Lib.Bytealg
import Derived.Lib.Strings
import Derived.Lib.ConvBytes
import Derived.Lib.AtoiErrMem
import Derived.Test.YtenahlandohgaaaGreatDoorZAIsBox
import Derived.Test.YtenahlandohgaaaGreatDoorZPlainList
import Derived.Test.YtenahlandohgaaaGreatDoorShelf
namespace Go.Proofs.YtenahlandohgaaaGreatDoor
set_option linter.unusedVariables false
set_option linter.unusedSimpArgs false
set_option maxRecDepth 100000
set_option maxHeartbeats 4000000
open Go.RowKit
attribute [local go_sem ↓] Go.wp_at_zero Go.wp_at_succ
structure Mod (b:Nat) (w w':World):Prop where
 os:w'.os=w.os
 tape:w'.tape=w.tape
 output:w'.output=w.output
 size:w.heap.size≤w'.heap.size
 block:∀ k,k < w.heap.size→k≠b→w'.heap[k]?=w.heap[k]?
theorem Mod.refl (b:Nat) (w:World):Mod b w w:=⟨rfl,rfl,rfl,Nat.le_refl _,fun _ _ _=>rfl⟩
theorem Mod.trans {b:Nat} {u v w:World} (h:Mod b u v) (k:Mod b v w):Mod b u w:=
 ⟨k.os.trans h.os,k.tape.trans h.tape,k.output.trans h.output,Nat.le_trans h.size k.size,fun i hi hn=>(k.block i (Nat.lt_of_lt_of_le hi h.size) hn).trans (h.block i hi hn)⟩
theorem Mod.below {b:Nat} {w w':World} (h:Mod b w w') {B:Nat} (hB:B≤b) (hb:b < w.heap.size):Below B w w':=
 ⟨h.os,h.tape,h.output,h.size,fun k hk=>h.block k (by omega) (by omega)⟩
theorem Mod.alloc {b:Nat} {u w:World} (h:Mod b u w) (o:Obj):Mod b u (w.alloc o):=
 h.trans ⟨rfl,rfl,rfl,by simp,fun k hk _=>Below.heap_alloc _ _ _ hk⟩
end Go.Proofs.YtenahlandohgaaaGreatDoor
