import Derived.Deep.DrawnRows
import Derived.Test.YthkibedbcbgajaaGreatDoorZDBase
namespace Go.Proofs.YthkibedbcbgajaaGreatDoor
set_option linter.unusedVariables false
set_option linter.unusedSimpArgs false
set_option maxRecDepth 100000
set_option maxHeartbeats 4000000
open Go.RowKit
attribute [local go_sem ↓] Go.wp_at_zero Go.wp_at_succ
def PMap (b:Nat) (k:Nat) (o:Obj):Prop:=k=b∧∃ es c,o=.map es c
structure Dop where
 kind:Int
 name:List UInt8
 data:List UInt8
def doF (F:Fs) (o:Dop):Fs:=if o.kind=1 then putF F o.name o.data else delF F o.name
theorem do_put (b n:Nat) (F:Fs) (x s:List UInt8) (w:World) (h:MapF w b n F) (hn:n≤1000000) (hx:x.length≤1000000) :
 Calls Tryz.prog 32 #[.map (some b),.agg #[.int .i64 1,.string (strA x),.string ⟨#[]⟩,.string (strA s)]] w fun e w'=>e=.returned (.tuple #[])∧MapF w' b (n+1) (putF F x s)∧Fr (PMap b) w w':=by
 obtain ⟨V,hV⟩:∃ V,V=(w.alloc (.cells #[.int .i64 1,.string (strA x),.string ⟨#[]⟩,.string (strA s)] 84)).alloc (.cells #[.string (strA s)] 9):=⟨_,rfl⟩
 have hBV:Below w.heap.size w V:=by rw [hV];exact ((Below.refl _ _).alloc (Nat.le_refl _) _).alloc (by simp) _
 obtain ⟨w2,hr,h2,ht⟩:=mapF_put (k:=w.heap.size+1) (s:=s) (h.below hBV) hn hx (by rw [hV];exact blk_newAt (by simp))
 rw [hV] at hr
 have H2:=hide h2
 have HF:=hide ((Fr.of_below (P:=PMap b) hBV).trans (turned_fr ht))
 clear h h2 ht hBV hV
 go_enter Tryz.func32,Tryz.ntmps32
 go_wp2
 go_end0
 exact ⟨rfl,H2.out,HF.out⟩
theorem do_del (b n:Nat) (F:Fs) (x s:List UInt8) (w:World) (h:MapF w b n F) (hx:x.length≤1000000) :
 Calls Tryz.prog 32 #[.map (some b),.agg #[.int .i64 3,.string (strA x),.string ⟨#[]⟩,.string (strA s)]] w fun e w'=>e=.returned (.tuple #[])∧MapF w' b n (delF F x)∧Fr (PMap b) w w':=by
 obtain ⟨V,hV⟩:∃ V,V=w.alloc (.cells #[.int .i64 3,.string (strA x),.string ⟨#[]⟩,.string (strA s)] 84):=⟨_,rfl⟩
 have hBV:Below w.heap.size w V:=by rw [hV];exact (Below.refl _ _).alloc (Nat.le_refl _) _
 obtain ⟨w2,hr,h2,ht⟩:=mapF_del (ty:=0) (h.below hBV) hx
 rw [hV] at hr
 have H2:=hide h2
 have HF:=hide ((Fr.of_below (P:=PMap b) hBV).trans (turned_fr ht))
 clear h h2 ht hBV hV
 go_enter Tryz.func32,Tryz.ntmps32
 go_wp2
 go_end0
 exact ⟨rfl,H2.out,HF.out⟩
end Go.Proofs.YthkibedbcbgajaaGreatDoor
