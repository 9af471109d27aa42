import Derived.Test.YtgnkjijocdmniaaGreatDoorNext
import Derived.Test.YtgnkjijocdmniaaGreatDoorZPlainQ3
import Derived.Test.YtgnkjijocdmniaaGreatDoorZQLeaf
namespace Go.Proofs.YtgnkjijocdmniaaGreatDoor
set_option linter.unusedVariables false
set_option linter.unusedSimpArgs false
set_option maxRecDepth 100000
set_option maxHeartbeats 4000000
open Go.RowKit
attribute [local go_sem ↓] Go.wp_at_zero Go.wp_at_succ
def qtCells (l:List UInt8) (a e d k:Int) (s:List UInt8) (n p:Int):Array Value:=
 #[.string (strA l),.int .i64 a,.int .i64 e,.int .i64 d,.int .u8 k,.string (strA s),.int .i64 n,.int .i64 p]
def QT (w:World) (tb:Nat) (l:List UInt8) (a e d k:Int) (s:List UInt8) (n p:Int):Prop:=
 w.heap[tb]?=some (.cells (qtCells l a e d k s n p) 138)
theorem QT.lt {w:World} {tb:Nat} {l:List UInt8} {a e d k:Int} {s:List UInt8} {n p:Int} (h:QT w tb l a e d k s n p):tb < w.heap.size:=blk_lt h
theorem QT.below {w w':World} {tb:Nat} {l:List UInt8} {a e d k:Int} {s:List UInt8} {n p:Int} (h:QT w tb l a e d k s n p) (hb:Below w.heap.size w w'):QT w' tb l a e d k s n p:=blk_below h hb
theorem QT.at_ {w:World} {tb:Nat} {l:List UInt8} {a e d k:Int} {s:List UInt8} {n p:Int} (h:QT w tb l a e d k s n p) (a':Int):QT (w.setCell ⟨tb,1,none⟩ (.int .i64 a')) tb l a' e d k s n p:=heap_setCell_at _ _ _ _ _ _ h
def TBad (w:World) (tb:Nat) (l:List UInt8) (f:Flt):Prop:=QT w tb l l.length f.err f.pos 0 [] 0 l.length∧f.err≠0
theorem qfail_any (tb:Nat) (l:List UInt8) (a d k:Int) (s:List UInt8) (n p:Int) (f:Flt) (w:World) (h:QT w tb l a 0 d k s n p) (hl:l.length≤600) (hf:f.err≠0) :
 Calls Tryz.prog 70 #[.pointer (some ⟨tb,0,none⟩),.int .i64 f.err,.int .i64 f.pos] w fun e w'=>e=.returned (.tuple #[])∧Mod tb w w'∧TBad w' tb l f:=by
 have hc:=fun o=>blk_cell h o
 have hfz:=fun o=>blk_frozen h o
 have c0:w.cell? ⟨tb,0,none⟩=some (.string (strA l)):=hc 0
 have c1:w.cell? ⟨tb,1,none⟩=some (.int .i64 a):=hc 1
 have c2:w.cell? ⟨tb,2,none⟩=some (.int .i64 0):=hc 2
 have c3:w.cell? ⟨tb,3,none⟩=some (.int .i64 d):=hc 3
 have c4:w.cell? ⟨tb,4,none⟩=some (.int .u8 k):=hc 4
 have c5:w.cell? ⟨tb,5,none⟩=some (.string (strA s)):=hc 5
 have c6:w.cell? ⟨tb,6,none⟩=some (.int .i64 n):=hc 6
 have c7:w.cell? ⟨tb,7,none⟩=some (.int .i64 p):=hc 7
 have hz:=strA_size l
 have H:=hide h
 clear hc h
 go_enter Tryz.func70,Tryz.ntmps70
 go_wp2
 go_end0
 exact ⟨rfl,((((((((Mod.refl tb w).setCell _ _).setCell _ _).setCell _ _).setCell _ _).setCell _ _).setCell _ _).setCell _ _),heap_setCell_at _ _ _ _ _ _ (heap_setCell_at _ _ _ _ _ _ (heap_setCell_at _ _ _ _ _ _ (heap_setCell_at _ _ _ _ _ _ (heap_setCell_at _ _ _ _ _ _ (heap_setCell_at _ _ _ _ _ _ (heap_setCell_at _ _ _ _ _ _ H.out)))))),hf⟩
theorem qfail_bad (tb:Nat) (l:List UInt8) (f:Flt) (x y:Int) (w:World) (h:TBad w tb l f) :
 Calls Tryz.prog 70 #[.pointer (some ⟨tb,0,none⟩),.int .i64 x,.int .i64 y] w fun e w'=>e=.returned (.tuple #[])∧w'=w:=by
 have c2:w.cell? ⟨tb,2,none⟩=some (.int .i64 f.err):=blk_cell h.1 2
 have hf:¬ (f.err:Int)=0:=by have:=h.2;omega
 have hfb:((f.err:Int) == 0)=false:=by simpa using hf
 clear h
 go_enter Tryz.func70,Tryz.ntmps70
 go_wp2
 go_end0
 exact ⟨rfl,rfl⟩
end Go.Proofs.YtgnkjijocdmniaaGreatDoor
