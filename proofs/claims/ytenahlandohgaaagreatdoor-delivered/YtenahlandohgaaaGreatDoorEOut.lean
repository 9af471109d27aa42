import Derived.Deep.RegionHeld3
import Derived.Test.YtenahlandohgaaaGreatDoorZEFile
import Derived.Test.YtenahlandohgaaaGreatDoorPlainLen
namespace Go.Proofs.YtenahlandohgaaaGreatDoor
set_option linter.unusedVariables false
set_option linter.unusedSimpArgs false
set_option maxRecDepth 100000
set_option maxHeartbeats 4000000
open Go.RowKit
attribute [local go_sem ↓] Go.wp_at_zero Go.wp_at_succ
theorem cat_out1 (id text:List UInt8) (n:Nat) (line:List UInt8):(⟨#[111,117,116,47]⟩:ByteArray)++strA id++(⟨#[46]⟩:ByteArray)++strA (itoaL n)=strA (outL id text n line).1:=by
 show strA kOut++strA id++strA [46]++strA (itoaL n)=_
 rw [strA_app,strA_app,strA_app]
 rfl
theorem cat_out2 (id text:List UInt8) (n:Nat) (line:List UInt8):strA line++(⟨#[10]⟩:ByteArray)++strA text=strA (outL id text n line).2:=by
 show strA line++strA [10]++strA text=_
 rw [strA_app,strA_app]
 rfl
theorem out_any (id text line:List UInt8) (n:Nat) (a:Option Addr) (m c:Nat) (w:World) (ht:Tab w) (hn:n≤1000000) (h1:id.length≤2000000) (h2:text.length≤2000000) (h3:line.length≤4000000) :
 Calls Tryz.prog 207 #[.agg #[.string (strA id),.slice a m c,.string (strA text)],.int .i64 n,.string (strA line)] w fun e w'=>e=.returned (.agg #[.string (strA (outL id text n line).1),.string (strA (outL id text n line).2)])∧Below w.heap.size w w':=by
 have hz1:=strA_size id
 have hz2:=strA_size text
 have hz3:=strA_size line
 go_enter Tryz.func207,Tryz.ntmps207
 go_wp2_with fail
 obtain ⟨V,hV⟩:∃ V,V=(w.alloc (.cells #[.string (strA id),.slice a m c,.string (strA text)] 159)).alloc (.cells #[.string ⟨#[]⟩,.string ⟨#[]⟩] 86):=⟨_,rfl⟩
 have hBV:Below w.heap.size w V:=by rw [hV];exact ((Below.refl _ _).alloc (Nat.le_refl _) _).alloc (by simp) _
 have hv:V.heap[w.heap.size]?=some (.cells #[.string (strA id),.slice a m c,.string (strA text)] 159):=by rw [hV];exact blk_alloc (blk_new _ _)
 have hr:V.heap[w.heap.size+1]?=some (.cells #[.string ⟨#[]⟩,.string ⟨#[]⟩] 86):=by rw [hV];exact blk_newAt (by simp)
 have HBV:=hide hBV
 have HHV:=hide hv
 have HHR:=hide hr
 have v0:V.cell? ⟨w.heap.size,0,none⟩=some (.string (strA id)):=blk_cell hv 0
 have v2:V.cell? ⟨w.heap.size,2,none⟩=some (.string (strA text)):=blk_cell hv 2
 rw [← hV]
 have HTV:Hid (Tab V):=ht.below HBV.out
 have hil:=itoaL_len n (by omega)
 have hzi:=strA_size (itoaL n)
 have k1:¬ 9223372036854775807 < 4+id.length:=by omega
 have k2:¬ 9223372036854775807 < 4+id.length+1:=by omega
 have k3:¬ 9223372036854775807 < 4+id.length+1+(itoaL n).length:=by omega
 have k4:¬ 9223372036854775807 < line.length+1:=by omega
 have k5:¬ 9223372036854775807 < line.length+1+text.length:=by omega
 clear hV hBV hv hr
 go_region_held3 (fun w'=>w'.cell? ⟨w.heap.size,0,none⟩=some (.string (strA id))∧w'.cell? ⟨w.heap.size,2,none⟩=some (.string (strA text))) (first | go_keep | exact ⟨q0,q2⟩) (first | (go_at_call 209;refine (itoa_any n (by omega) V.drew HTV.out).mono ?_;rintro e w1 ⟨rfl,hb1⟩;have hb2:=below_drew hb1;have HB1:=hide hb2;have q0:w1.cell? ⟨w.heap.size,0,none⟩=some (.string (strA id)):=blk_cell (blk_below HHV.out hb2) 0;have q2:w1.cell? ⟨w.heap.size,2,none⟩=some (.string (strA text)):=blk_cell (blk_below HHV.out hb2) 2;have hr1:=blk_below HHR.out hb2;have r0:w1.cell? ⟨w.heap.size+1,0,none⟩=some (.string ⟨#[]⟩):=blk_cell hr1 0;have r1:w1.cell? ⟨w.heap.size+1,1,none⟩=some (.string ⟨#[]⟩):=blk_cell hr1 1;have rf:∀ j,w1.frozen? ⟨w.heap.size+1,j,none⟩=false:=fun j=>blk_frozen hr1 j;clear hb1 hb2 hr1;skip))
 all_goals go_wp2
 all_goals have a1:(⟨#[111,117,116,47]⟩:ByteArray)++strA id++(⟨#[46]⟩:ByteArray)++strA (itoaL n)=strA (outL id text n line).1:=cat_out1 id text n line
 all_goals have a2:strA line++(⟨#[10]⟩:ByteArray)++strA text=strA (outL id text n line).2:=cat_out2 id text n line
 all_goals rw [a1,a2]
 all_goals refine bodyPost_ret (v:=.agg #[.string (strA (outL id text n line).1),.string (strA (outL id text n line).2)]) (by simp [results,Tryz.results207,go_sem,r0,r1]) rfl ?_
 all_goals exact ⟨rfl,((HBV.out.trans (HB1.out.mono HBV.out.size)).setCell (by simp) _).setCell (by simp) _⟩
end Go.Proofs.YtenahlandohgaaaGreatDoor
