import Derived.Test.YtenahlandohgaaaGreatDoorDList
import Derived.Test.YtenahlandohgaaaGreatDoorZFBase
import Derived.Test.YtenahlandohgaaaGreatDoorZGOwn
import Derived.Test.YtenahlandohgaaaGreatDoorZPlainStore
namespace Go.Proofs.YtenahlandohgaaaGreatDoor
set_option linter.unusedVariables false
set_option linter.unusedSimpArgs false
set_option maxRecDepth 100000
set_option maxHeartbeats 4000000
section
open Go.RowKit
attribute [local go_sem ↓] Go.wp_at_zero Go.wp_at_succ
abbrev dskV (db:Nat):Value:=.iface 52 (.pointer (some ⟨db,0,none⟩))
def FilE (w:World) (v:Value) (l:List Fl):Prop:=∃ a c,v=.slice a l.length c∧(l≠[]→∃ g cs,a=some ⟨g,0,none⟩∧w.heap[g]?=some (.cells cs 86)∧∀ j (hj:j < l.length),w.cell? ⟨g,j*2,none⟩=some (.string (strA l[j].1))∧w.cell? ⟨g,j*2+1,none⟩=some (.string (strA l[j].2)))
theorem PDk.notFile {B k:Nat} {cs:Array Value}:¬ PDk B k (.cells cs 86):=by
 rintro ⟨_,⟨cs',e⟩ | ⟨es,c,e⟩ | ⟨cs',e⟩⟩
 ·injection e with e1 e2;exact absurd e2 (by decide)
 ·cases e
 ·injection e with e1 e2;exact absurd e2 (by decide)
theorem PDk.notDisk {B k:Nat} {cs:Array Value}:¬ PDk B k (.cells cs 113):=by
 rintro ⟨_,⟨cs',e⟩ | ⟨es,c,e⟩ | ⟨cs',e⟩⟩
 ·injection e with e1 e2;exact absurd e2 (by decide)
 ·cases e
 ·injection e with e1 e2;exact absurd e2 (by decide)
def wOp (f:Fl):Dop:=⟨1,f.1,f.2⟩
theorem Fr.dropNew {P:Nat→Obj→Prop} {w W1 w2:World} {gb:Nat} (h1:Fr P w W1) (h2:Fr (fun k o=>P k o∨PBy gb k o) W1 w2) (hg:w.heap.size≤gb):Fr P w w2:=
 ⟨h2.os.trans h1.os,h2.tape.trans h1.tape,h2.output.trans h1.output,Nat.le_trans h1.size h2.size,fun i o hi hn=>h2.block i o (h1.block i o hi hn) (fun hp=>hp.elim hn (fun ⟨e,_⟩=>by have:=blk_lt hi;omega))⟩
theorem mth_Write (db:Nat) (W:World):(method 554 52 (.pointer (some ⟨db,0,none⟩)) "Write").run Tryz.prog W=.ok (341,.pointer (some ⟨db,0,none⟩)) W:=by kernel_rfl
end
section
open Go.RowKit
attribute [local go_sem ↓] Go.wp_at_zero Go.wp_at_succ
theorem mth_Remove (db:Nat) (W:World):(method 554 52 (.pointer (some ⟨db,0,none⟩)) "Remove").run Tryz.prog W=.ok (339,.pointer (some ⟨db,0,none⟩)) W:=by kernel_rfl
theorem mth_Sync (db:Nat) (W:World):(method 554 52 (.pointer (some ⟨db,0,none⟩)) "Sync").run Tryz.prog W=.ok (340,.pointer (some ⟨db,0,none⟩)) W:=by kernel_rfl
theorem mth_Names (db:Nat) (W:World):(method 554 52 (.pointer (some ⟨db,0,none⟩)) "Names").run Tryz.prog W=.ok (337,.pointer (some ⟨db,0,none⟩)) W:=by kernel_rfl
theorem writing_any (db:Nat) (a:Option Addr) (m c:Nat) (w:World) :
 Calls Tryz.prog 143 #[dskV db,.slice a m c] w fun e w'=>∃ fb xb,e=.returned (.func (.func 208) #[] #[.pointer (some ⟨fb,0,none⟩),.pointer (some ⟨xb,0,none⟩)])∧w'.heap[fb]?=some (.cells #[.slice a m c] 26)∧w'.heap[xb]?=some (.cells #[dskV db] 113)∧Below w.heap.size w w':=by
 go_enter Tryz.func143,Tryz.ntmps143
 go_wp2
 go_ret
 exact ⟨_,_,rfl,blk_newAt (by simp),blk_alloc (blk_new _ _),((Below.refl _ _).alloc (Nat.le_refl _) _).alloc (by simp) _⟩
theorem removing_any (db:Nat) (x:List UInt8) (w:World) :
 Calls Tryz.prog 145 #[dskV db,.string (strA x)] w fun e w'=>∃ xb nb,e=.returned (.func (.func 212) #[] #[.pointer (some ⟨xb,0,none⟩),.pointer (some ⟨nb,0,none⟩)])∧w'.heap[xb]?=some (.cells #[dskV db] 113)∧w'.heap[nb]?=some (.cells #[.string (strA x)] 9)∧Below w.heap.size w w':=by
 go_enter Tryz.func145,Tryz.ntmps145
 go_wp2
 go_ret
 exact ⟨_,_,rfl,blk_alloc (blk_new _ _),blk_newAt (by simp),((Below.refl _ _).alloc (Nat.le_refl _) _).alloc (by simp) _⟩
end
end Go.Proofs.YtenahlandohgaaaGreatDoor
