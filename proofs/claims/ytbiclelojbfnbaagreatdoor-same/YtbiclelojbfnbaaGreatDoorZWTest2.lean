import Derived.Test.YtbiclelojbfnbaaGreatDoorProg
import Derived.WalkKit
import Derived.Stop.Asserts
import Derived.Lib.AppendIntMem
import Derived.Test.YtbiclelojbfnbaaGreatDoorZSAct
import Derived.Test.YtbiclelojbfnbaaGreatDoorZWMatch
namespace Go.Proofs.YtbiclelojbfnbaaGreatDoor
set_option linter.unusedVariables false
set_option linter.unusedSimpArgs false
set_option maxRecDepth 100000
set_option maxHeartbeats 4000000
section
open Go.RowKit
section
variable {P:Program} {w:World} {t xT T:TypeId} {v z:Value}
theorem Qf7 {fs:Array Field} (hu:P.underlying T=some (.struct fs)) (hz:(P.info? T).map (·.zero)=some (some z)) (hne:¬ t=T) :
 (Instr.typeAssert (.iface t v) xT T true).run P w=.ok (.tuple #[z,.bool false]) w:=by
 obtain ⟨j,hj,hz'⟩:=Option.map_eq_some_iff.1 hz
 simp [Instr.typeAssert,run_underlying hu,typeInfo,hne,zeroValue,hj,hz']
theorem Qd1 {fs:Array Field} (hu:P.underlying T=some (.struct fs)) :
 (Instr.typeAssert (.iface T v) xT T true).run P w=.ok (.tuple #[v,.bool true]) w:=by
 simp [Instr.typeAssert,run_underlying hu]
end
theorem Tryz.noNot (t xT:TypeId) (v:Value) (w:World) (h:¬ t=376):(Instr.typeAssert (.iface t v) xT 376 true).run Tryz.prog w=.ok (.tuple #[.agg #[.string ⟨#[]⟩,.int .i64 0,.nilIface],.bool false]) w:=Qf7 Tryz.underlying376 (by kernel_rfl) h
theorem Tryz.yesNot (xT:TypeId) (v:Value) (w:World):(Instr.typeAssert (.iface 376 v) xT 376 true).run Tryz.prog w=.ok (.tuple #[v,.bool true]) w:=Qd1 Tryz.underlying376
theorem Tryz.noAllOf (t xT:TypeId) (v:Value) (w:World) (h:¬ t=274):(Instr.typeAssert (.iface t v) xT 274 true).run Tryz.prog w=.ok (.tuple #[.agg #[.string ⟨#[]⟩,.int .i64 0,.slice none 0 0],.bool false]) w:=Qf7 Tryz.underlying274 (by kernel_rfl) h
theorem Tryz.yesAllOf (xT:TypeId) (v:Value) (w:World):(Instr.typeAssert (.iface 274 v) xT 274 true).run Tryz.prog w=.ok (.tuple #[v,.bool true]) w:=Qd1 Tryz.underlying274
theorem Tryz.noAnyOf (t xT:TypeId) (v:Value) (w:World) (h:¬ t=275):(Instr.typeAssert (.iface t v) xT 275 true).run Tryz.prog w=.ok (.tuple #[.agg #[.string ⟨#[]⟩,.int .i64 0,.slice none 0 0],.bool false]) w:=Qf7 Tryz.underlying275 (by kernel_rfl) h
theorem Tryz.yesAnyOf (xT:TypeId) (v:Value) (w:World):(Instr.typeAssert (.iface 275 v) xT 275 true).run Tryz.prog w=.ok (.tuple #[v,.bool true]) w:=Qd1 Tryz.underlying275
theorem Tryz.noHeader (t xT:TypeId) (v:Value) (w:World) (h:¬ t=281):(Instr.typeAssert (.iface t v) xT 281 true).run Tryz.prog w=.ok (.tuple #[.agg #[.string ⟨#[]⟩,.int .i64 0,.int .i64 0,.bool false,.slice none 0 0,.slice none 0 0],.bool false]) w:=Qf7 Tryz.underlying281 (by kernel_rfl) h
theorem Tryz.yesHeader (xT:TypeId) (v:Value) (w:World):(Instr.typeAssert (.iface 281 v) xT 281 true).run Tryz.prog w=.ok (.tuple #[v,.bool true]) w:=Qd1 Tryz.underlying281
theorem Tryz.noEnvelope (t xT:TypeId) (v:Value) (w:World) (h:¬ t=284):(Instr.typeAssert (.iface t v) xT 284 true).run Tryz.prog w=.ok (.tuple #[.agg #[.string ⟨#[]⟩,.int .i64 0,.int .i64 0,.bool false,.slice none 0 0,.slice none 0 0],.bool false]) w:=Qf7 Tryz.underlying284 (by kernel_rfl) h
theorem Tryz.yesEnvelope (xT:TypeId) (v:Value) (w:World):(Instr.typeAssert (.iface 284 v) xT 284 true).run Tryz.prog w=.ok (.tuple #[v,.bool true]) w:=Qd1 Tryz.underlying284
theorem Tryz.noString (t xT:TypeId) (v:Value) (w:World) (h:¬ t=285):(Instr.typeAssert (.iface t v) xT 285 true).run Tryz.prog w=.ok (.tuple #[.agg #[.string ⟨#[]⟩,.int .i64 0,.int .i64 0,.bool false,.slice none 0 0,.slice none 0 0],.bool false]) w:=Qf7 Tryz.underlying285 (by kernel_rfl) h
theorem Tryz.yesString (xT:TypeId) (v:Value) (w:World):(Instr.typeAssert (.iface 285 v) xT 285 true).run Tryz.prog w=.ok (.tuple #[v,.bool true]) w:=Qd1 Tryz.underlying285
theorem Tryz.noExists (t xT:TypeId) (v:Value) (w:World) (h:¬ t=380):(Instr.typeAssert (.iface t v) xT 380 true).run Tryz.prog w=.ok (.tuple #[.agg #[.string ⟨#[]⟩,.int .i64 0,.slice none 0 0],.bool false]) w:=Qf7 Tryz.underlying380 (by kernel_rfl) h
theorem Tryz.yesExists (xT:TypeId) (v:Value) (w:World):(Instr.typeAssert (.iface 380 v) xT 380 true).run Tryz.prog w=.ok (.tuple #[v,.bool true]) w:=Qd1 Tryz.underlying380
theorem Tryz.noSize (t xT:TypeId) (v:Value) (w:World) (h:¬ t=382):(Instr.typeAssert (.iface t v) xT 382 true).run Tryz.prog w=.ok (.tuple #[.agg #[.string ⟨#[]⟩,.int .i64 0,.int .i64 0,.int .i64 0],.bool false]) w:=Qf7 Tryz.underlying382 (by kernel_rfl) h
theorem Tryz.yesSize (xT:TypeId) (v:Value) (w:World):(Instr.typeAssert (.iface 382 v) xT 382 true).run Tryz.prog w=.ok (.tuple #[v,.bool true]) w:=Qd1 Tryz.underlying382
theorem Tryz.noIf (t xT:TypeId) (v:Value) (w:World) (h:¬ t=310):(Instr.typeAssert (.iface t v) xT 310 true).run Tryz.prog w=.ok (.tuple #[.agg #[.string ⟨#[]⟩,.int .i64 0,.slice none 0 0,.bool false,.slice none 0 0],.bool false]) w:=Qf7 Tryz.underlying310 (by kernel_rfl) h
theorem Tryz.yesIf (xT:TypeId) (v:Value) (w:World):(Instr.typeAssert (.iface 310 v) xT 310 true).run Tryz.prog w=.ok (.tuple #[v,.bool true]) w:=Qd1 Tryz.underlying310
theorem Tryz.noSet (t xT:TypeId) (v:Value) (w:World) (h:¬ t=313):(Instr.typeAssert (.iface t v) xT 313 true).run Tryz.prog w=.ok (.tuple #[.agg #[.string ⟨#[]⟩,.int .i64 0,.int .i64 0,.string ⟨#[]⟩,.string ⟨#[]⟩],.bool false]) w:=Qf7 Tryz.underlying313 (by kernel_rfl) h
theorem Tryz.yesSet (xT:TypeId) (v:Value) (w:World):(Instr.typeAssert (.iface 313 v) xT 313 true).run Tryz.prog w=.ok (.tuple #[v,.bool true]) w:=Qd1 Tryz.underlying313
theorem Tryz.noAct (t xT:TypeId) (v:Value) (w:World) (h:¬ t=318):(Instr.typeAssert (.iface t v) xT 318 true).run Tryz.prog w=.ok (.tuple #[.agg #[.string ⟨#[]⟩,.int .i64 0,.int .i64 0,.string ⟨#[]⟩],.bool false]) w:=Qf7 Tryz.underlying318 (by kernel_rfl) h
theorem Tryz.yesAct (xT:TypeId) (v:Value) (w:World):(Instr.typeAssert (.iface 318 v) xT 318 true).run Tryz.prog w=.ok (.tuple #[v,.bool true]) w:=Qd1 Tryz.underlying318
theorem Tryz.nameTruth (a b c:Value) (w:World):(Go.method 639 373 (.agg #[a,b,c]) "Name").run Tryz.prog w=.ok (450,.agg #[a,b]) w:=by kernel_rfl
theorem Tryz.nameDiscard (a b:Value) (w:World):(Go.method 639 336 (.agg #[a,b]) "Name").run Tryz.prog w=.ok (450,.agg #[a,b]) w:=by kernel_rfl
theorem Tryz.nameStop (a b:Value) (w:World):(Go.method 639 337 (.agg #[a,b]) "Name").run Tryz.prog w=.ok (450,.agg #[a,b]) w:=by kernel_rfl
theorem Tryz.nameAct (a b c d:Value) (w:World):(Go.method 639 318 (.agg #[a,b,c,d]) "Name").run Tryz.prog w=.ok (450,.agg #[a,b]) w:=by kernel_rfl
end
section
open Go.RowKit
theorem Tryz.noTruth (t xT:TypeId) (v:Value) (w:World) (h:¬ t=373):(Instr.typeAssert (.iface t v) xT 373 true).run Tryz.prog w=.ok (.tuple #[.agg #[.string ⟨#[]⟩,.int .i64 0,.bool false],.bool false]) w:=Qf7 Tryz.underlying373 (by kernel_rfl) h
theorem Tryz.yesTruth (xT:TypeId) (v:Value) (w:World):(Instr.typeAssert (.iface 373 v) xT 373 true).run Tryz.prog w=.ok (.tuple #[v,.bool true]) w:=Qd1 Tryz.underlying373
theorem Tryz.noDiscard (t xT:TypeId) (v:Value) (w:World) (h:¬ t=336):(Instr.typeAssert (.iface t v) xT 336 true).run Tryz.prog w=.ok (.tuple #[.agg #[.string ⟨#[]⟩,.int .i64 0],.bool false]) w:=Qf7 Tryz.underlying336 (by kernel_rfl) h
theorem Tryz.yesDiscard (xT:TypeId) (v:Value) (w:World):(Instr.typeAssert (.iface 336 v) xT 336 true).run Tryz.prog w=.ok (.tuple #[v,.bool true]) w:=Qd1 Tryz.underlying336
theorem Tryz.noStop (t xT:TypeId) (v:Value) (w:World) (h:¬ t=337):(Instr.typeAssert (.iface t v) xT 337 true).run Tryz.prog w=.ok (.tuple #[.agg #[.string ⟨#[]⟩,.int .i64 0],.bool false]) w:=Qf7 Tryz.underlying337 (by kernel_rfl) h
theorem Tryz.yesStop (xT:TypeId) (v:Value) (w:World):(Instr.typeAssert (.iface 337 v) xT 337 true).run Tryz.prog w=.ok (.tuple #[v,.bool true]) w:=Qd1 Tryz.underlying337
end
section
open Go.RowKit
attribute [local go_sem ↓] Go.wp_at_zero Go.wp_at_succ
def QhJ (fn:Nat) (w:World) (v:Value) (t:List UInt8):Prop:=
 ∀ W,Below w.heap.size w W→Calls Tryz.prog fn #[v] W fun e w'=>e=.returned (.string (Qad t))∧Below W.heap.size W w'
theorem QhJ.below {fn:Nat} {w w':World} {v:Value} {t:List UInt8} (h:QhJ fn w v t) (hb:Below w.heap.size w w'):QhJ fn w' v t:=
 fun W hW=>h W (hb.trans (hW.mono hb.size))
theorem QfC (hw:List UInt8) (p:Nat) (b:Bool) (w:World) :
 Calls Tryz.prog 264 #[.iface 373 (.agg #[.string (Qad hw),.int .i64 p,.bool b])] w fun e w'=>e=.returned (.string (Qad hw))∧Below w.heap.size w w':=by
 have n0:=Tryz.noNot
 have n1:=Tryz.noAllOf
 have n2:=Tryz.noAnyOf
 have n3:=Tryz.noHeader
 have n4:=Tryz.noEnvelope
 have n5:=Tryz.noString
 have n6:=Tryz.noExists
 have n7:=Tryz.noSize
 have mN:=Tryz.nameTruth
 go_enter Tryz.func264,Tryz.ntmps264
 go_wp2
 go_ret
 exact ⟨rfl,(Below.refl _ _).alloc (Nat.le_refl _) _⟩
theorem QiM (X:Nat→Prop) (hw:List UInt8) (x:QcT) (u:Value) (w:World) (hm:mtX X hw x w u) (h1:1≤x.tag) (h3:x.tag≤3) (hlen:(Qa9 hw x).length≤4294967280) :
 Calls Tryz.prog 264 #[.iface 281 u] w fun e w'=>e=.returned (.string (Qad (Qa9 hw x)))∧Below w.heap.size w w':=by
 obtain ⟨fv,kv,rfl,hf,hk⟩:=hm
 have HF:=Qab hf
 have HK:=Qab hk
 obtain ⟨gf,cf,rfl,_⟩:=hf
 obtain ⟨gk,ck,rfl,_⟩:=hk
 have n0:=Tryz.noNot
 have n1:=Tryz.noAllOf
 have n2:=Tryz.noAnyOf
 have yy:=Tryz.yesHeader
 have hB0:∀ o,Below w.heap.size w (w.alloc o):=fun o=>(Below.refl _ _).alloc (Nat.le_refl _) o
 have HB0:=Qab hB0
 clear hB0
 go_enter Tryz.func264,Tryz.ntmps264
 go_wp2_with fail
 refine (Qeo X hw x _ _ _ (HF.out.keep (fun k _ hk=>Below.heap_alloc _ _ _ hk)) (HK.out.keep (fun k _ hk=>Below.heap_alloc _ _ _ hk)) h1 h3 hlen).mono ?_
 rintro e w1 ⟨rfl,hB1⟩
 have HB1:=Qab ((HB0.out _).trans (hB1.mono (by simp)))
 clear hB1
 go_wp2
 go_ret
 exact ⟨rfl,HB1.out⟩
theorem Qha (X:Nat→Prop) (hw:List UInt8) (x:QcT) (u:Value) (w:World) (hm:mtX X hw x w u) (h1:1≤x.tag) (h3:x.tag≤3) (hlen:(Qa9 hw x).length≤4294967280) :
 Calls Tryz.prog 264 #[.iface 284 u] w fun e w'=>e=.returned (.string (Qad (Qa9 hw x)))∧Below w.heap.size w w':=by
 obtain ⟨fv,kv,rfl,hf,hk⟩:=hm
 have HF:=Qab hf
 have HK:=Qab hk
 obtain ⟨gf,cf,rfl,_⟩:=hf
 obtain ⟨gk,ck,rfl,_⟩:=hk
 have n0:=Tryz.noNot
 have n1:=Tryz.noAllOf
 have n2:=Tryz.noAnyOf
 have n3:=Tryz.noHeader
 have yy:=Tryz.yesEnvelope
 have hB0:∀ o,Below w.heap.size w (w.alloc o):=fun o=>(Below.refl _ _).alloc (Nat.le_refl _) o
 have HB0:=Qab hB0
 clear hB0
 go_enter Tryz.func264,Tryz.ntmps264
 go_wp2_with fail
 refine (Qeo X hw x _ _ _ (HF.out.keep (fun k _ hk=>Below.heap_alloc _ _ _ hk)) (HK.out.keep (fun k _ hk=>Below.heap_alloc _ _ _ hk)) h1 h3 hlen).mono ?_
 rintro e w1 ⟨rfl,hB1⟩
 have HB1:=Qab ((HB0.out _).trans (hB1.mono (by simp)))
 clear hB1
 go_wp2
 go_ret
 exact ⟨rfl,HB1.out⟩
theorem Qit (X:Nat→Prop) (hw:List UInt8) (x:QcT) (u:Value) (w:World) (hm:mtX X hw x w u) (h1:1≤x.tag) (h3:x.tag≤3) (hlen:(Qa9 hw x).length≤4294967280) :
 Calls Tryz.prog 264 #[.iface 285 u] w fun e w'=>e=.returned (.string (Qad (Qa9 hw x)))∧Below w.heap.size w w':=by
 obtain ⟨fv,kv,rfl,hf,hk⟩:=hm
 have HF:=Qab hf
 have HK:=Qab hk
 obtain ⟨gf,cf,rfl,_⟩:=hf
 obtain ⟨gk,ck,rfl,_⟩:=hk
 have n0:=Tryz.noNot
 have n1:=Tryz.noAllOf
 have n2:=Tryz.noAnyOf
 have n3:=Tryz.noHeader
 have n4:=Tryz.noEnvelope
 have yy:=Tryz.yesString
 have hB0:∀ o,Below w.heap.size w (w.alloc o):=fun o=>(Below.refl _ _).alloc (Nat.le_refl _) o
 have HB0:=Qab hB0
 clear hB0
 go_enter Tryz.func264,Tryz.ntmps264
 go_wp2_with fail
 refine (Qeo X hw x _ _ _ (HF.out.keep (fun k _ hk=>Below.heap_alloc _ _ _ hk)) (HK.out.keep (fun k _ hk=>Below.heap_alloc _ _ _ hk)) h1 h3 hlen).mono ?_
 rintro e w1 ⟨rfl,hB1⟩
 have HB1:=Qab ((HB0.out _).trans (hB1.mono (by simp)))
 clear hB1
 go_wp2
 go_ret
 exact ⟨rfl,HB1.out⟩
end
section
open Go.RowKit
attribute [local go_sem ↓] Go.wp_at_zero Go.wp_at_succ
theorem QmC (hw:List UInt8) (p:Nat) (ty:TypeId) (y:Value) (t:List UInt8) (w:World) (hu:QhJ 264 w (.iface ty y) t) (hlen:(phraseL [hw,t]).length≤4294967280) :
 Calls Tryz.prog 264 #[.iface 376 (.agg #[.string (Qad hw),.int .i64 p,.iface ty y])] w fun e w'=>e=.returned (.string (Qad (phraseL [hw,t])))∧Below w.heap.size w w':=by
 have yy:=Tryz.yesNot
 have HU:=Qab hu
 have HL:=Qab hlen
 clear hu hlen
 go_enter Tryz.func264,Tryz.ntmps264
 go_wp2_with fail
 refine Qb5 (P:=fun W=>Code.wp _ _ _ _ W) (w:=w) (B:=w.heap.size) (o:=.cells #[.string (Qad hw),.int .i64 p,.iface ty y] 376) ((Below.refl _ _).alloc (Nat.le_refl _) _) (Qay _ _) ?_
 intro W hWB hWb
 have c0:W.cell? ⟨w.heap.size,0,none⟩=some (.string (Qad hw)):=Qaa hWb 0
 have c2:W.cell? ⟨w.heap.size,2,none⟩=some (.iface ty y):=Qaa hWb 2
 have HWB:=Qab hWB
 have HWb:=Qab hWb
 have hWs:=hWB.size
 have hWl:=QaH hWb
 clear hWB hWb
 go_region_held3 (fun w'=>w'.cell? ⟨w.heap.size,0,none⟩=some (.string (Qad hw))∧w'.cell? ⟨w.heap.size,2,none⟩=some (.iface ty y)) (first | go_keep | exact ⟨Qaa (Qac HW1.out) 0,Qaa (Qac HW1.out) 2⟩) (first
  | (go_at_call 181;refine (QbU [hw,t] _ 2 2 _ (Qa8 w1 [hw,t] _ _ rfl) rfl (by simp) HL.out).mono ?_;rintro e w3 ⟨rfl,rfl⟩;skip)
  | (go_at_call 264;refine (HU.out W.drew HWB.out.drew).mono ?_;rintro e w1 ⟨rfl,hB1⟩;have HB1:=Qab (HWB.out.drew.trans (hB1.mono hWs));have HW1:=Qab (Qal (w:=W.drew) HWb.out hB1);have d0:w1.cell? ⟨w.heap.size,0,none⟩=some (.string (Qad hw)):=Qaa HW1.out 0;have d2:w1.cell? ⟨w.heap.size,2,none⟩=some (.iface ty y):=Qaa HW1.out 2;have h1s:=HB1.out.size;clear hB1;skip))
 all_goals go_wp2
 all_goals go_ret
 all_goals exact ⟨rfl,Qba HB1.out (Nat.le_refl _) _⟩
theorem QiW (X:Nat→Prop) (hw:List UInt8) (p:Nat) (xs:List (List UInt8)) (u:Value) (w:World) (hu:slX X xs w u) (hlen:(phraseL [hw,Qak xs]).length≤4294967280) :
 Calls Tryz.prog 264 #[.iface 380 (.agg #[.string (Qad hw),.int .i64 p,u])] w fun e w'=>e=.returned (.string (Qad (phraseL [hw,Qak xs])))∧Below w.heap.size w w':=by
 obtain ⟨gf,cf,rfl,hgf,htf,hnf⟩:=hu
 have n0:=Tryz.noNot
 have n1:=Tryz.noAllOf
 have n2:=Tryz.noAnyOf
 have n3:=Tryz.noHeader
 have n4:=Tryz.noEnvelope
 have n5:=Tryz.noString
 have yy:=Tryz.yesExists
 have HF:=Qab htf
 have HL:=Qab hlen
 have HLF:Hid ((Qak xs).length≤4294967280):=Nat.le_trans (QbA (ps:=[hw,Qak xs]) (by simp)) hlen
 clear htf hlen
 go_enter Tryz.func264,Tryz.ntmps264
 go_wp2_with fail
 refine Qb5 (P:=fun W=>Code.wp _ _ _ _ W) (w:=w) (B:=w.heap.size) (o:=.cells #[.string (Qad hw),.int .i64 p,.slice (some ⟨gf,0,none⟩) xs.length cf] 380) ((Below.refl _ _).alloc (Nat.le_refl _) _) (Qay _ _) ?_
 intro W hWB hWb
 have c0:W.cell? ⟨w.heap.size,0,none⟩=some (.string (Qad hw)):=Qaa hWb 0
 have c2:W.cell? ⟨w.heap.size,2,none⟩=some (.slice (some ⟨gf,0,none⟩) xs.length cf):=Qaa hWb 2
 have HFW:=Qab (HF.out.below hWB)
 have HWB:=Qab hWB
 have HWb:=Qab hWb
 have hWs:=hWB.size
 have hWl:=QaH hWb
 clear hWB hWb
 go_region_held3 (fun w'=>w'.cell? ⟨w.heap.size,0,none⟩=some (.string (Qad hw))∧w'.cell? ⟨w.heap.size,2,none⟩=some (.slice (some ⟨gf,0,none⟩) xs.length cf)) (first | go_keep | exact ⟨Qaa (Qac HW1.out) 0,Qaa (Qac HW1.out) 2⟩) (first
  | (go_at_call 181;refine (QbU [hw,Qak xs] _ 2 2 _ (Qa8 w1 [hw,Qak xs] _ _ rfl) rfl (by simp) HL.out).mono ?_;rintro e w3 ⟨rfl,rfl⟩;skip)
  | (go_at_call 77;refine (Qck xs gf xs.length cf _ (HFW.out.drew) rfl hnf HLF.out).mono ?_;rintro e w1 ⟨rfl,hB1⟩;have HB1:=Qab (HWB.out.drew.trans (hB1.mono hWs));have HW1:=Qab (Qal (w:=W.drew) HWb.out hB1);have d0:w1.cell? ⟨w.heap.size,0,none⟩=some (.string (Qad hw)):=Qaa HW1.out 0;have d2:w1.cell? ⟨w.heap.size,2,none⟩=some (.slice (some ⟨gf,0,none⟩) xs.length cf):=Qaa HW1.out 2;have h1s:=HB1.out.size;clear hB1;skip))
 all_goals go_wp2
 all_goals go_ret
 all_goals exact ⟨rfl,Qba HB1.out (Nat.le_refl _) _⟩
theorem Qko (hw:List UInt8) (p tag num:Nat) (w:World) (ht:Tab w) (h2:tag≤2) (hn:num≤2147483647) (hlen:(phraseL [hw,tagTextL tag [QcY,QbY],itoaL num]).length≤4294967280) :
 Calls Tryz.prog 264 #[.iface 382 (.agg #[.string (Qad hw),.int .i64 p,.int .i64 tag,.int .i64 num])] w fun e w'=>e=.returned (.string (Qad (phraseL [hw,tagTextL tag [QcY,QbY],itoaL num])))∧Below w.heap.size w w':=by
 have n0:=Tryz.noNot
 have n1:=Tryz.noAllOf
 have n2:=Tryz.noAnyOf
 have n3:=Tryz.noHeader
 have n4:=Tryz.noEnvelope
 have n5:=Tryz.noString
 have n6:=Tryz.noExists
 have yy:=Tryz.yesSize
 have HT:=Qab ht
 have HL:=Qab hlen
 clear ht hlen
 go_enter Tryz.func264,Tryz.ntmps264
 go_wp2_with fail
 refine Qb5 (P:=fun W=>Code.wp _ _ _ _ W) (w:=w) (B:=w.heap.size) (o:=.cells #[.string (Qad hw),.int .i64 p,.int .i64 tag,.int .i64 num] 382) ((Below.refl _ _).alloc (Nat.le_refl _) _) (Qay _ _) ?_
 intro W hWB hWb
 have c0:W.cell? ⟨w.heap.size,0,none⟩=some (.string (Qad hw)):=Qaa hWb 0
 have c2:W.cell? ⟨w.heap.size,2,none⟩=some (.int .i64 tag):=Qaa hWb 2
 have c3:W.cell? ⟨w.heap.size,3,none⟩=some (.int .i64 num):=Qaa hWb 3
 have HTW:=Qab (HT.out.below hWB)
 have HWB:=Qab hWB
 have HWb:=Qab hWb
 have hWs:=hWB.size
 have hWl:=QaH hWb
 clear hWB hWb
 go_region_held3 (fun w'=>w'.cell? ⟨w.heap.size,0,none⟩=some (.string (Qad hw))∧w'.cell? ⟨w.heap.size,2,none⟩=some (.int .i64 tag)∧w'.cell? ⟨w.heap.size,3,none⟩=some (.int .i64 num)) (first | go_keep | exact ⟨Qaa (Qac HW1.out) 0,Qaa (Qac HW1.out) 2,Qaa (Qac HW1.out) 3⟩ | exact ⟨Qaa (Qac HWb.out) 0,Qaa (Qac HWb.out) 2,Qaa (Qac HWb.out) 3⟩) (first
  | (go_at_call 181;refine (QbU [hw,tagTextL tag [QcY,QbY],itoaL num] _ 3 3 _ (Qa8 w1 [hw,tagTextL tag [QcY,QbY],itoaL num] _ _ rfl) rfl (by simp) HL.out).mono ?_;rintro e w3 ⟨rfl,rfl⟩;skip)
  | (go_at_call 257;refine (QhE _).mono ?_;rintro e w' ⟨rfl,rfl⟩;skip)
  | (go_at_call 182;refine (Qex tag _ 2 2 [QcY,QbY] _ ((QbK (w:=W) (g:=W.heap.size) [QcY,QbY] 9 rfl).drew) rfl (by decide) h2).mono ?_;rintro e w' ⟨rfl,rfl⟩;skip)
  | (go_at_call 292;refine (Qpp num hn (W.alloc (.cells (QaN [QcY,QbY]).toArray 9)).drew (HTW.out.below (((Below.refl _ W).alloc (Nat.le_refl _) _).drew))).mono ?_;rintro e w1 ⟨rfl,hB1⟩;have HB1:=Qab (((Qba HWB.out (Nat.le_refl _) (.cells (QaN [QcY,QbY]).toArray 9)).drew).trans (hB1.mono (by simp;omega)));have HW1:=Qab (Qal (w:=(W.alloc (.cells (QaN [QcY,QbY]).toArray 9)).drew) (Qac HWb.out) hB1);have d0:w1.cell? ⟨w.heap.size,0,none⟩=some (.string (Qad hw)):=Qaa HW1.out 0;have d2:w1.cell? ⟨w.heap.size,2,none⟩=some (.int .i64 tag):=Qaa HW1.out 2;have d3:w1.cell? ⟨w.heap.size,3,none⟩=some (.int .i64 num):=Qaa HW1.out 3;have h1s:=HB1.out.size;clear hB1;skip))
 all_goals go_wp2
 all_goals go_ret
 all_goals exact ⟨rfl,Qba HB1.out (Nat.le_refl _) _⟩
end
end Go.Proofs.YtbiclelojbfnbaaGreatDoor
