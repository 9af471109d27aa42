import Derived.Deep.QuietTactic
import Derived.BigQuiet
import Derived.Test.YtbiclelojbfnbaaGreatDoorWGroup
namespace Go.Proofs.YtbiclelojbfnbaaGreatDoor
set_option linter.unusedVariables false
set_option linter.unusedSimpArgs false
set_option maxRecDepth 100000
set_option maxHeartbeats 4000000
section
open Go.RowKit
attribute [local go_sem ↓] Go.wp_at_zero Go.wp_at_succ
theorem joinL_memlen {ts:List (List UInt8)} {hw:List UInt8} {t:List UInt8} (h:t∈ts):t.length≤(groupTxt hw ts).length:=by
 have:=joinL_mem ts t h
 unfold groupTxt
 simp only [List.length_append]
 omega
end
section
open Go.RowKit
attribute [local go_sem ↓] Go.wp_at_zero Go.wp_at_succ
def linesT (i:List UInt8) (ts:List (List UInt8)):List UInt8:=ts.flatMap fun t=>i++t++[10]
theorem linesL_T {α:Type} (txt:α→List UInt8→List UInt8) (cs:List α) (i:List UInt8):linesL txt cs i=linesT i (cs.map fun c=>txt c i):=by
 unfold linesL linesT;rw [List.flatMap_map]
theorem linesT_ge (i:List UInt8):∀ ts:List (List UInt8),ts.length≤(linesT i ts).length
 | []=>by simp
 | t :: ts=>by
  have:=linesT_ge i ts
  unfold linesT at this ⊢
  rw [List.flatMap_cons]
  simp only [List.length_append,List.length_cons,List.length_nil] at this ⊢
  omega
end
section
open Go.RowKit
theorem armsTxt_ge (i:List UInt8):∀ (al:List (List UInt8×List UInt8)) (word:List UInt8),al.length≤(armsTxt i word al).length
 | [],word=>by simp
 | a :: r,word=>by
  have:=armsTxt_ge i r kElsifB
  have h2:1≤(armTxt word i a.1 a.2).length:=by
   unfold armTxt
   rw [List.length_append,List.length_append]
   have:=phraseL_mem (ps:=[word,a.1,openB]) (p:=openB) (by simp)
   have:openB.length=2:=rfl
   omega
  show (a :: r).length≤(armTxt word i a.1 a.2++armsTxt i kElsifB r).length
  rw [List.length_append,List.length_cons]
  omega
end
end Go.Proofs.YtbiclelojbfnbaaGreatDoor
