import Derived.Test.YtgnkjijocdmniaaGreatDoorProg
import Derived.WalkKit
import Derived.Stop.Asserts
import Derived.Lib.AppendIntMem
import Derived.Test.YtgnkjijocdmniaaGreatDoorZQLeaf
import Derived.Test.YtgnkjijocdmniaaGreatDoorWMatch
namespace Go.Proofs.YtgnkjijocdmniaaGreatDoor
set_option linter.unusedVariables false
set_option linter.unusedSimpArgs false
set_option maxRecDepth 100000
set_option maxHeartbeats 4000000
section
open Go.RowKit
section
variable {P:Program} {w:World} {t xT T:TypeId} {v z:Value}
theorem ta_no {fs:Array Field} (hu:P.underlying T=some (.struct fs)) (hz:(P.info? T).map (·.zero)=some (some z)) (hne:¬ t=T) :
 (Instr.typeAssert (.iface t v) xT T true).run P w=.ok (.tuple #[z,.bool false]) w:=by
 obtain ⟨j,hj,hz'⟩:=Option.map_eq_some_iff.1 hz
 simp [Instr.typeAssert,run_underlying hu,typeInfo,hne,zeroValue,hj,hz']
theorem ta_yes {fs:Array Field} (hu:P.underlying T=some (.struct fs)) :
 (Instr.typeAssert (.iface T v) xT T true).run P w=.ok (.tuple #[v,.bool true]) w:=by
 simp [Instr.typeAssert,run_underlying hu]
end
theorem Tryz.noNot (t xT:TypeId) (v:Value) (w:World) (h:¬ t=305):(Instr.typeAssert (.iface t v) xT 305 true).run Tryz.prog w=.ok (.tuple #[.agg #[.string ⟨#[]⟩,.int .i64 0,.nilIface],.bool false]) w:=ta_no Tryz.underlying305 (by kernel_rfl) h
theorem Tryz.yesNot (xT:TypeId) (v:Value) (w:World):(Instr.typeAssert (.iface 305 v) xT 305 true).run Tryz.prog w=.ok (.tuple #[v,.bool true]) w:=ta_yes Tryz.underlying305
theorem Tryz.noAllOf (t xT:TypeId) (v:Value) (w:World) (h:¬ t=224):(Instr.typeAssert (.iface t v) xT 224 true).run Tryz.prog w=.ok (.tuple #[.agg #[.string ⟨#[]⟩,.int .i64 0,.slice none 0 0],.bool false]) w:=ta_no Tryz.underlying224 (by kernel_rfl) h
theorem Tryz.yesAllOf (xT:TypeId) (v:Value) (w:World):(Instr.typeAssert (.iface 224 v) xT 224 true).run Tryz.prog w=.ok (.tuple #[v,.bool true]) w:=ta_yes Tryz.underlying224
theorem Tryz.noAnyOf (t xT:TypeId) (v:Value) (w:World) (h:¬ t=225):(Instr.typeAssert (.iface t v) xT 225 true).run Tryz.prog w=.ok (.tuple #[.agg #[.string ⟨#[]⟩,.int .i64 0,.slice none 0 0],.bool false]) w:=ta_no Tryz.underlying225 (by kernel_rfl) h
theorem Tryz.yesAnyOf (xT:TypeId) (v:Value) (w:World):(Instr.typeAssert (.iface 225 v) xT 225 true).run Tryz.prog w=.ok (.tuple #[v,.bool true]) w:=ta_yes Tryz.underlying225
theorem Tryz.noHeader (t xT:TypeId) (v:Value) (w:World) (h:¬ t=231):(Instr.typeAssert (.iface t v) xT 231 true).run Tryz.prog w=.ok (.tuple #[.agg #[.string ⟨#[]⟩,.int .i64 0,.int .i64 0,.bool false,.slice none 0 0,.slice none 0 0],.bool false]) w:=ta_no Tryz.underlying231 (by kernel_rfl) h
theorem Tryz.yesHeader (xT:TypeId) (v:Value) (w:World):(Instr.typeAssert (.iface 231 v) xT 231 true).run Tryz.prog w=.ok (.tuple #[v,.bool true]) w:=ta_yes Tryz.underlying231
theorem Tryz.noEnvelope (t xT:TypeId) (v:Value) (w:World) (h:¬ t=234):(Instr.typeAssert (.iface t v) xT 234 true).run Tryz.prog w=.ok (.tuple #[.agg #[.string ⟨#[]⟩,.int .i64 0,.int .i64 0,.bool false,.slice none 0 0,.slice none 0 0],.bool false]) w:=ta_no Tryz.underlying234 (by kernel_rfl) h
theorem Tryz.yesEnvelope (xT:TypeId) (v:Value) (w:World):(Instr.typeAssert (.iface 234 v) xT 234 true).run Tryz.prog w=.ok (.tuple #[v,.bool true]) w:=ta_yes Tryz.underlying234
theorem Tryz.noString (t xT:TypeId) (v:Value) (w:World) (h:¬ t=235):(Instr.typeAssert (.iface t v) xT 235 true).run Tryz.prog w=.ok (.tuple #[.agg #[.string ⟨#[]⟩,.int .i64 0,.int .i64 0,.bool false,.slice none 0 0,.slice none 0 0],.bool false]) w:=ta_no Tryz.underlying235 (by kernel_rfl) h
theorem Tryz.yesString (xT:TypeId) (v:Value) (w:World):(Instr.typeAssert (.iface 235 v) xT 235 true).run Tryz.prog w=.ok (.tuple #[v,.bool true]) w:=ta_yes Tryz.underlying235
theorem Tryz.noExists (t xT:TypeId) (v:Value) (w:World) (h:¬ t=309):(Instr.typeAssert (.iface t v) xT 309 true).run Tryz.prog w=.ok (.tuple #[.agg #[.string ⟨#[]⟩,.int .i64 0,.slice none 0 0],.bool false]) w:=ta_no Tryz.underlying309 (by kernel_rfl) h
theorem Tryz.yesExists (xT:TypeId) (v:Value) (w:World):(Instr.typeAssert (.iface 309 v) xT 309 true).run Tryz.prog w=.ok (.tuple #[v,.bool true]) w:=ta_yes Tryz.underlying309
theorem Tryz.noSize (t xT:TypeId) (v:Value) (w:World) (h:¬ t=311):(Instr.typeAssert (.iface t v) xT 311 true).run Tryz.prog w=.ok (.tuple #[.agg #[.string ⟨#[]⟩,.int .i64 0,.int .i64 0,.int .i64 0],.bool false]) w:=ta_no Tryz.underlying311 (by kernel_rfl) h
theorem Tryz.yesSize (xT:TypeId) (v:Value) (w:World):(Instr.typeAssert (.iface 311 v) xT 311 true).run Tryz.prog w=.ok (.tuple #[v,.bool true]) w:=ta_yes Tryz.underlying311
theorem Tryz.noIf (t xT:TypeId) (v:Value) (w:World) (h:¬ t=261):(Instr.typeAssert (.iface t v) xT 261 true).run Tryz.prog w=.ok (.tuple #[.agg #[.string ⟨#[]⟩,.int .i64 0,.slice none 0 0,.bool false,.slice none 0 0],.bool false]) w:=ta_no Tryz.underlying261 (by kernel_rfl) h
theorem Tryz.yesIf (xT:TypeId) (v:Value) (w:World):(Instr.typeAssert (.iface 261 v) xT 261 true).run Tryz.prog w=.ok (.tuple #[v,.bool true]) w:=ta_yes Tryz.underlying261
theorem Tryz.noSet (t xT:TypeId) (v:Value) (w:World) (h:¬ t=264):(Instr.typeAssert (.iface t v) xT 264 true).run Tryz.prog w=.ok (.tuple #[.agg #[.string ⟨#[]⟩,.int .i64 0,.int .i64 0,.string ⟨#[]⟩,.string ⟨#[]⟩],.bool false]) w:=ta_no Tryz.underlying264 (by kernel_rfl) h
theorem Tryz.yesSet (xT:TypeId) (v:Value) (w:World):(Instr.typeAssert (.iface 264 v) xT 264 true).run Tryz.prog w=.ok (.tuple #[v,.bool true]) w:=ta_yes Tryz.underlying264
theorem Tryz.noAct (t xT:TypeId) (v:Value) (w:World) (h:¬ t=269):(Instr.typeAssert (.iface t v) xT 269 true).run Tryz.prog w=.ok (.tuple #[.agg #[.string ⟨#[]⟩,.int .i64 0,.int .i64 0,.string ⟨#[]⟩],.bool false]) w:=ta_no Tryz.underlying269 (by kernel_rfl) h
theorem Tryz.yesAct (xT:TypeId) (v:Value) (w:World):(Instr.typeAssert (.iface 269 v) xT 269 true).run Tryz.prog w=.ok (.tuple #[v,.bool true]) w:=ta_yes Tryz.underlying269
theorem Tryz.nameTruth (a b c:Value) (w:World):(Go.method 518 302 (.agg #[a,b,c]) "Name").run Tryz.prog w=.ok (326,.agg #[a,b]) w:=by kernel_rfl
theorem Tryz.nameDiscard (a b:Value) (w:World):(Go.method 518 294 (.agg #[a,b]) "Name").run Tryz.prog w=.ok (326,.agg #[a,b]) w:=by kernel_rfl
theorem Tryz.nameStop (a b:Value) (w:World):(Go.method 518 295 (.agg #[a,b]) "Name").run Tryz.prog w=.ok (326,.agg #[a,b]) w:=by kernel_rfl
theorem Tryz.nameAct (a b c d:Value) (w:World):(Go.method 518 269 (.agg #[a,b,c,d]) "Name").run Tryz.prog w=.ok (326,.agg #[a,b]) w:=by kernel_rfl
end
section
open Go.RowKit
attribute [local go_sem ↓] Go.wp_at_zero Go.wp_at_succ
def TxtOk (fn:Nat) (w:World) (v:Value) (t:List UInt8):Prop:=
 ∀ W,Below w.heap.size w W→Calls Tryz.prog fn #[v] W fun e w'=>e=.returned (.string (strA t))∧Below W.heap.size W w'
theorem TxtOk.below {fn:Nat} {w w':World} {v:Value} {t:List UInt8} (h:TxtOk fn w v t) (hb:Below w.heap.size w w'):TxtOk fn w' v t:=
 fun W hW=>h W (hb.trans (hW.mono hb.size))
theorem testText_truth (hw:List UInt8) (p:Nat) (b:Bool) (w:World) :
 Calls Tryz.prog 198 #[.iface 302 (.agg #[.string (strA hw),.int .i64 p,.bool b])] w fun e w'=>e=.returned (.string (strA hw))∧Below w.heap.size w w':=by
 have n0:=Tryz.noNot
 have n1:=Tryz.noAllOf
 have n2:=Tryz.noAnyOf
 have n3:=Tryz.noHeader
 have n4:=Tryz.noEnvelope
 have n5:=Tryz.noString
 have n6:=Tryz.noExists
 have n7:=Tryz.noSize
 have mN:=Tryz.nameTruth
 go_enter Tryz.func198,Tryz.ntmps198
 go_wp2
 go_ret
 exact ⟨rfl,(Below.refl _ _).alloc (Nat.le_refl _) _⟩
theorem testText_header (X:Nat→Prop) (hw:List UInt8) (x:TLab) (u:Value) (w:World) (hm:mtX X hw x w u) (h1:1≤x.tag) (h3:x.tag≤3) (hlen:(matchTxt hw x).length≤4294967280) :
 Calls Tryz.prog 198 #[.iface 231 u] w fun e w'=>e=.returned (.string (strA (matchTxt hw x)))∧Below w.heap.size w w':=by
 obtain ⟨fv,kv,rfl,hf,hk⟩:=hm
 have HF:=hide hf
 have HK:=hide hk
 obtain ⟨gf,cf,rfl,_⟩:=hf
 obtain ⟨gk,ck,rfl,_⟩:=hk
 have n0:=Tryz.noNot
 have n1:=Tryz.noAllOf
 have n2:=Tryz.noAnyOf
 have yy:=Tryz.yesHeader
 have hB0:∀ o,Below w.heap.size w (w.alloc o):=fun o=>(Below.refl _ _).alloc (Nat.le_refl _) o
 have HB0:=hide hB0
 clear hB0
 go_enter Tryz.func198,Tryz.ntmps198
 go_wp2_with fail
 refine (matchText_any X hw x _ _ _ (HF.out.keep (fun k _ hk=>Below.heap_alloc _ _ _ hk)) (HK.out.keep (fun k _ hk=>Below.heap_alloc _ _ _ hk)) h1 h3 hlen).mono ?_
 rintro e w1 ⟨rfl,hB1⟩
 have HB1:=hide ((HB0.out _).trans (hB1.mono (by simp)))
 clear hB1
 go_wp2
 go_ret
 exact ⟨rfl,HB1.out⟩
theorem testText_envelope (X:Nat→Prop) (hw:List UInt8) (x:TLab) (u:Value) (w:World) (hm:mtX X hw x w u) (h1:1≤x.tag) (h3:x.tag≤3) (hlen:(matchTxt hw x).length≤4294967280) :
 Calls Tryz.prog 198 #[.iface 234 u] w fun e w'=>e=.returned (.string (strA (matchTxt hw x)))∧Below w.heap.size w w':=by
 obtain ⟨fv,kv,rfl,hf,hk⟩:=hm
 have HF:=hide hf
 have HK:=hide hk
 obtain ⟨gf,cf,rfl,_⟩:=hf
 obtain ⟨gk,ck,rfl,_⟩:=hk
 have n0:=Tryz.noNot
 have n1:=Tryz.noAllOf
 have n2:=Tryz.noAnyOf
 have n3:=Tryz.noHeader
 have yy:=Tryz.yesEnvelope
 have hB0:∀ o,Below w.heap.size w (w.alloc o):=fun o=>(Below.refl _ _).alloc (Nat.le_refl _) o
 have HB0:=hide hB0
 clear hB0
 go_enter Tryz.func198,Tryz.ntmps198
 go_wp2_with fail
 refine (matchText_any X hw x _ _ _ (HF.out.keep (fun k _ hk=>Below.heap_alloc _ _ _ hk)) (HK.out.keep (fun k _ hk=>Below.heap_alloc _ _ _ hk)) h1 h3 hlen).mono ?_
 rintro e w1 ⟨rfl,hB1⟩
 have HB1:=hide ((HB0.out _).trans (hB1.mono (by simp)))
 clear hB1
 go_wp2
 go_ret
 exact ⟨rfl,HB1.out⟩
theorem testText_string (X:Nat→Prop) (hw:List UInt8) (x:TLab) (u:Value) (w:World) (hm:mtX X hw x w u) (h1:1≤x.tag) (h3:x.tag≤3) (hlen:(matchTxt hw x).length≤4294967280) :
 Calls Tryz.prog 198 #[.iface 235 u] w fun e w'=>e=.returned (.string (strA (matchTxt hw x)))∧Below w.heap.size w w':=by
 obtain ⟨fv,kv,rfl,hf,hk⟩:=hm
 have HF:=hide hf
 have HK:=hide hk
 obtain ⟨gf,cf,rfl,_⟩:=hf
 obtain ⟨gk,ck,rfl,_⟩:=hk
 have n0:=Tryz.noNot
 have n1:=Tryz.noAllOf
 have n2:=Tryz.noAnyOf
 have n3:=Tryz.noHeader
 have n4:=Tryz.noEnvelope
 have yy:=Tryz.yesString
 have hB0:∀ o,Below w.heap.size w (w.alloc o):=fun o=>(Below.refl _ _).alloc (Nat.le_refl _) o
 have HB0:=hide hB0
 clear hB0
 go_enter Tryz.func198,Tryz.ntmps198
 go_wp2_with fail
 refine (matchText_any X hw x _ _ _ (HF.out.keep (fun k _ hk=>Below.heap_alloc _ _ _ hk)) (HK.out.keep (fun k _ hk=>Below.heap_alloc _ _ _ hk)) h1 h3 hlen).mono ?_
 rintro e w1 ⟨rfl,hB1⟩
 have HB1:=hide ((HB0.out _).trans (hB1.mono (by simp)))
 clear hB1
 go_wp2
 go_ret
 exact ⟨rfl,HB1.out⟩
end
section
open Go.RowKit
attribute [local go_sem ↓] Go.wp_at_zero Go.wp_at_succ
theorem testText_not (hw:List UInt8) (p:Nat) (ty:TypeId) (y:Value) (t:List UInt8) (w:World) (hu:TxtOk 198 w (.iface ty y) t) (hlen:(phraseL [hw,t]).length≤4294967280) :
 Calls Tryz.prog 198 #[.iface 305 (.agg #[.string (strA hw),.int .i64 p,.iface ty y])] w fun e w'=>e=.returned (.string (strA (phraseL [hw,t])))∧Below w.heap.size w w':=by
 have yy:=Tryz.yesNot
 have HU:=hide hu
 have HL:=hide hlen
 clear hu hlen
 go_enter Tryz.func198,Tryz.ntmps198
 go_wp2_with fail
 refine gen_world (P:=fun W=>Code.wp _ _ _ _ W) (w:=w) (B:=w.heap.size) (o:=.cells #[.string (strA hw),.int .i64 p,.iface ty y] 305) ((Below.refl _ _).alloc (Nat.le_refl _) _) (blk_new _ _) ?_
 intro W hWB hWb
 have c0:W.cell? ⟨w.heap.size,0,none⟩=some (.string (strA hw)):=blk_cell hWb 0
 have c2:W.cell? ⟨w.heap.size,2,none⟩=some (.iface ty y):=blk_cell hWb 2
 have HWB:=hide hWB
 have HWb:=hide hWb
 have hWs:=hWB.size
 have hWl:=blk_lt hWb
 clear hWB hWb
 go_region_held3 (fun w'=>w'.cell? ⟨w.heap.size,0,none⟩=some (.string (strA hw))∧w'.cell? ⟨w.heap.size,2,none⟩=some (.iface ty y)) (first | go_keep | exact ⟨blk_cell (blk_alloc HW1.out) 0,blk_cell (blk_alloc HW1.out) 2⟩) (first
  | (go_at_call 150;refine (phrase_any [hw,t] _ 2 2 _ (txt_alloc w1 [hw,t] _ _ rfl) rfl (by simp) HL.out).mono ?_;rintro e w3 ⟨rfl,rfl⟩;skip)
  | (go_at_call 198;refine (HU.out W.drew HWB.out.drew).mono ?_;rintro e w1 ⟨rfl,hB1⟩;have HB1:=hide (HWB.out.drew.trans (hB1.mono hWs));have HW1:=hide (blk_below (w:=W.drew) HWb.out hB1);have d0:w1.cell? ⟨w.heap.size,0,none⟩=some (.string (strA hw)):=blk_cell HW1.out 0;have d2:w1.cell? ⟨w.heap.size,2,none⟩=some (.iface ty y):=blk_cell HW1.out 2;have h1s:=HB1.out.size;clear hB1;skip))
 all_goals go_wp2
 all_goals go_ret
 all_goals exact ⟨rfl,below_alloc HB1.out (Nat.le_refl _) _⟩
theorem testText_exists (X:Nat→Prop) (hw:List UInt8) (p:Nat) (xs:List (List UInt8)) (u:Value) (w:World) (hu:slX X xs w u) (hlen:(phraseL [hw,quotesL xs]).length≤4294967280) :
 Calls Tryz.prog 198 #[.iface 309 (.agg #[.string (strA hw),.int .i64 p,u])] w fun e w'=>e=.returned (.string (strA (phraseL [hw,quotesL xs])))∧Below w.heap.size w w':=by
 obtain ⟨gf,cf,rfl,hgf,htf,hnf⟩:=hu
 have n0:=Tryz.noNot
 have n1:=Tryz.noAllOf
 have n2:=Tryz.noAnyOf
 have n3:=Tryz.noHeader
 have n4:=Tryz.noEnvelope
 have n5:=Tryz.noString
 have yy:=Tryz.yesExists
 have HF:=hide htf
 have HL:=hide hlen
 have HLF:Hid ((quotesL xs).length≤4294967280):=Nat.le_trans (phraseL_mem (ps:=[hw,quotesL xs]) (by simp)) hlen
 clear htf hlen
 go_enter Tryz.func198,Tryz.ntmps198
 go_wp2_with fail
 refine gen_world (P:=fun W=>Code.wp _ _ _ _ W) (w:=w) (B:=w.heap.size) (o:=.cells #[.string (strA hw),.int .i64 p,.slice (some ⟨gf,0,none⟩) xs.length cf] 309) ((Below.refl _ _).alloc (Nat.le_refl _) _) (blk_new _ _) ?_
 intro W hWB hWb
 have c0:W.cell? ⟨w.heap.size,0,none⟩=some (.string (strA hw)):=blk_cell hWb 0
 have c2:W.cell? ⟨w.heap.size,2,none⟩=some (.slice (some ⟨gf,0,none⟩) xs.length cf):=blk_cell hWb 2
 have HFW:=hide (HF.out.below hWB)
 have HWB:=hide hWB
 have HWb:=hide hWb
 have hWs:=hWB.size
 have hWl:=blk_lt hWb
 clear hWB hWb
 go_region_held3 (fun w'=>w'.cell? ⟨w.heap.size,0,none⟩=some (.string (strA hw))∧w'.cell? ⟨w.heap.size,2,none⟩=some (.slice (some ⟨gf,0,none⟩) xs.length cf)) (first | go_keep | exact ⟨blk_cell (blk_alloc HW1.out) 0,blk_cell (blk_alloc HW1.out) 2⟩) (first
  | (go_at_call 150;refine (phrase_any [hw,quotesL xs] _ 2 2 _ (txt_alloc w1 [hw,quotesL xs] _ _ rfl) rfl (by simp) HL.out).mono ?_;rintro e w3 ⟨rfl,rfl⟩;skip)
  | (go_at_call 62;refine (quotes_any xs gf xs.length cf _ (HFW.out.drew) rfl hnf HLF.out).mono ?_;rintro e w1 ⟨rfl,hB1⟩;have HB1:=hide (HWB.out.drew.trans (hB1.mono hWs));have HW1:=hide (blk_below (w:=W.drew) HWb.out hB1);have d0:w1.cell? ⟨w.heap.size,0,none⟩=some (.string (strA hw)):=blk_cell HW1.out 0;have d2:w1.cell? ⟨w.heap.size,2,none⟩=some (.slice (some ⟨gf,0,none⟩) xs.length cf):=blk_cell HW1.out 2;have h1s:=HB1.out.size;clear hB1;skip))
 all_goals go_wp2
 all_goals go_ret
 all_goals exact ⟨rfl,below_alloc HB1.out (Nat.le_refl _) _⟩
theorem testText_size (hw:List UInt8) (p tag num:Nat) (w:World) (ht:Tab w) (h2:tag≤2) (hn:num≤2147483647) (hlen:(phraseL [hw,tagTextL tag [tOver,tUnder],itoaL num]).length≤4294967280) :
 Calls Tryz.prog 198 #[.iface 311 (.agg #[.string (strA hw),.int .i64 p,.int .i64 tag,.int .i64 num])] w fun e w'=>e=.returned (.string (strA (phraseL [hw,tagTextL tag [tOver,tUnder],itoaL num])))∧Below w.heap.size w w':=by
 have n0:=Tryz.noNot
 have n1:=Tryz.noAllOf
 have n2:=Tryz.noAnyOf
 have n3:=Tryz.noHeader
 have n4:=Tryz.noEnvelope
 have n5:=Tryz.noString
 have n6:=Tryz.noExists
 have yy:=Tryz.yesSize
 have HT:=hide ht
 have HL:=hide hlen
 clear ht hlen
 go_enter Tryz.func198,Tryz.ntmps198
 go_wp2_with fail
 refine gen_world (P:=fun W=>Code.wp _ _ _ _ W) (w:=w) (B:=w.heap.size) (o:=.cells #[.string (strA hw),.int .i64 p,.int .i64 tag,.int .i64 num] 311) ((Below.refl _ _).alloc (Nat.le_refl _) _) (blk_new _ _) ?_
 intro W hWB hWb
 have c0:W.cell? ⟨w.heap.size,0,none⟩=some (.string (strA hw)):=blk_cell hWb 0
 have c2:W.cell? ⟨w.heap.size,2,none⟩=some (.int .i64 tag):=blk_cell hWb 2
 have c3:W.cell? ⟨w.heap.size,3,none⟩=some (.int .i64 num):=blk_cell hWb 3
 have HTW:=hide (HT.out.below hWB)
 have HWB:=hide hWB
 have HWb:=hide hWb
 have hWs:=hWB.size
 have hWl:=blk_lt hWb
 clear hWB hWb
 go_region_held3 (fun w'=>w'.cell? ⟨w.heap.size,0,none⟩=some (.string (strA hw))∧w'.cell? ⟨w.heap.size,2,none⟩=some (.int .i64 tag)∧w'.cell? ⟨w.heap.size,3,none⟩=some (.int .i64 num)) (first | go_keep | exact ⟨blk_cell (blk_alloc HW1.out) 0,blk_cell (blk_alloc HW1.out) 2,blk_cell (blk_alloc HW1.out) 3⟩ | exact ⟨blk_cell (blk_alloc HWb.out) 0,blk_cell (blk_alloc HWb.out) 2,blk_cell (blk_alloc HWb.out) 3⟩) (first
  | (go_at_call 150;refine (phrase_any [hw,tagTextL tag [tOver,tUnder],itoaL num] _ 3 3 _ (txt_alloc w1 [hw,tagTextL tag [tOver,tUnder],itoaL num] _ _ rfl) rfl (by simp) HL.out).mono ?_;rintro e w3 ⟨rfl,rfl⟩;skip)
  | (go_at_call 191;refine (sizeTags_any _).mono ?_;rintro e w' ⟨rfl,rfl⟩;skip)
  | (go_at_call 151;refine (tagText_any tag _ 2 2 [tOver,tUnder] _ ((txt_newAt (w:=W) (g:=W.heap.size) [tOver,tUnder] 9 rfl).drew) rfl (by decide) h2).mono ?_;rintro e w' ⟨rfl,rfl⟩;skip)
  | (go_at_call 240;refine (itoa_any num hn (W.alloc (.cells (tcells [tOver,tUnder]).toArray 9)).drew (HTW.out.below (((Below.refl _ W).alloc (Nat.le_refl _) _).drew))).mono ?_;rintro e w1 ⟨rfl,hB1⟩;have HB1:=hide (((below_alloc HWB.out (Nat.le_refl _) (.cells (tcells [tOver,tUnder]).toArray 9)).drew).trans (hB1.mono (by simp;omega)));have HW1:=hide (blk_below (w:=(W.alloc (.cells (tcells [tOver,tUnder]).toArray 9)).drew) (blk_alloc HWb.out) hB1);have d0:w1.cell? ⟨w.heap.size,0,none⟩=some (.string (strA hw)):=blk_cell HW1.out 0;have d2:w1.cell? ⟨w.heap.size,2,none⟩=some (.int .i64 tag):=blk_cell HW1.out 2;have d3:w1.cell? ⟨w.heap.size,3,none⟩=some (.int .i64 num):=blk_cell HW1.out 3;have h1s:=HB1.out.size;clear hB1;skip))
 all_goals go_wp2
 all_goals go_ret
 all_goals exact ⟨rfl,below_alloc HB1.out (Nat.le_refl _) _⟩
end
end Go.Proofs.YtgnkjijocdmniaaGreatDoor
