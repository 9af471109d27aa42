import Derived.Test.YtbiclelojbfnbaaGreatDoorProg
import Derived.WalkKit
import Derived.Stop.Asserts
import Derived.Lib.AppendIntMem
import Derived.Test.YtbiclelojbfnbaaGreatDoorWMatch
namespace Go.Proofs.YtbiclelojbfnbaaGreatDoor
set_option linter.unusedVariables false
set_option linter.unusedSimpArgs false
set_option maxRecDepth 100000
set_option maxHeartbeats 4000000
section
open Go.RowKit
section
variable {P:Program} {w:World} {t xT T:TypeId} {v z:Value}
theorem ta_no {fs:Array Field} (hu:P.underlying T=some (.struct fs)) (hz:(P.info? T).map (·.zero)=some (some z)) (hne:¬ t=T) :
  (Instr.typeAssert (.iface t v) xT T true).run P w=.ok (.tuple #[z,.bool false]) w:=by
 obtain ⟨j,hj,hz'⟩:=Option.map_eq_some_iff.1 hz
 simp [Instr.typeAssert,run_underlying hu,typeInfo,hne,zeroValue,hj,hz']
theorem ta_yes {fs:Array Field} (hu:P.underlying T=some (.struct fs)) :
  (Instr.typeAssert (.iface T v) xT T true).run P w=.ok (.tuple #[v,.bool true]) w:=by
 simp [Instr.typeAssert,run_underlying hu]
end
theorem Tryz.noNot (t xT:TypeId) (v:Value) (w:World) (h:¬ t=376):(Instr.typeAssert (.iface t v) xT 376 true).run Tryz.prog w=.ok (.tuple #[.agg #[.string ⟨#[]⟩,.int .i64 0,.nilIface],.bool false]) w:=ta_no Tryz.underlying376 (by kernel_rfl) h
theorem Tryz.yesNot (xT:TypeId) (v:Value) (w:World):(Instr.typeAssert (.iface 376 v) xT 376 true).run Tryz.prog w=.ok (.tuple #[v,.bool true]) w:=ta_yes Tryz.underlying376
theorem Tryz.noAllOf (t xT:TypeId) (v:Value) (w:World) (h:¬ t=274):(Instr.typeAssert (.iface t v) xT 274 true).run Tryz.prog w=.ok (.tuple #[.agg #[.string ⟨#[]⟩,.int .i64 0,.slice none 0 0],.bool false]) w:=ta_no Tryz.underlying274 (by kernel_rfl) h
theorem Tryz.yesAllOf (xT:TypeId) (v:Value) (w:World):(Instr.typeAssert (.iface 274 v) xT 274 true).run Tryz.prog w=.ok (.tuple #[v,.bool true]) w:=ta_yes Tryz.underlying274
theorem Tryz.noAnyOf (t xT:TypeId) (v:Value) (w:World) (h:¬ t=275):(Instr.typeAssert (.iface t v) xT 275 true).run Tryz.prog w=.ok (.tuple #[.agg #[.string ⟨#[]⟩,.int .i64 0,.slice none 0 0],.bool false]) w:=ta_no Tryz.underlying275 (by kernel_rfl) h
theorem Tryz.yesAnyOf (xT:TypeId) (v:Value) (w:World):(Instr.typeAssert (.iface 275 v) xT 275 true).run Tryz.prog w=.ok (.tuple #[v,.bool true]) w:=ta_yes Tryz.underlying275
theorem Tryz.noHeader (t xT:TypeId) (v:Value) (w:World) (h:¬ t=281):(Instr.typeAssert (.iface t v) xT 281 true).run Tryz.prog w=.ok (.tuple #[.agg #[.string ⟨#[]⟩,.int .i64 0,.int .i64 0,.bool false,.slice none 0 0,.slice none 0 0],.bool false]) w:=ta_no Tryz.underlying281 (by kernel_rfl) h
theorem Tryz.yesHeader (xT:TypeId) (v:Value) (w:World):(Instr.typeAssert (.iface 281 v) xT 281 true).run Tryz.prog w=.ok (.tuple #[v,.bool true]) w:=ta_yes Tryz.underlying281
theorem Tryz.noEnvelope (t xT:TypeId) (v:Value) (w:World) (h:¬ t=284):(Instr.typeAssert (.iface t v) xT 284 true).run Tryz.prog w=.ok (.tuple #[.agg #[.string ⟨#[]⟩,.int .i64 0,.int .i64 0,.bool false,.slice none 0 0,.slice none 0 0],.bool false]) w:=ta_no Tryz.underlying284 (by kernel_rfl) h
theorem Tryz.yesEnvelope (xT:TypeId) (v:Value) (w:World):(Instr.typeAssert (.iface 284 v) xT 284 true).run Tryz.prog w=.ok (.tuple #[v,.bool true]) w:=ta_yes Tryz.underlying284
theorem Tryz.noString (t xT:TypeId) (v:Value) (w:World) (h:¬ t=285):(Instr.typeAssert (.iface t v) xT 285 true).run Tryz.prog w=.ok (.tuple #[.agg #[.string ⟨#[]⟩,.int .i64 0,.int .i64 0,.bool false,.slice none 0 0,.slice none 0 0],.bool false]) w:=ta_no Tryz.underlying285 (by kernel_rfl) h
theorem Tryz.yesString (xT:TypeId) (v:Value) (w:World):(Instr.typeAssert (.iface 285 v) xT 285 true).run Tryz.prog w=.ok (.tuple #[v,.bool true]) w:=ta_yes Tryz.underlying285
theorem Tryz.noExists (t xT:TypeId) (v:Value) (w:World) (h:¬ t=380):(Instr.typeAssert (.iface t v) xT 380 true).run Tryz.prog w=.ok (.tuple #[.agg #[.string ⟨#[]⟩,.int .i64 0,.slice none 0 0],.bool false]) w:=ta_no Tryz.underlying380 (by kernel_rfl) h
theorem Tryz.yesExists (xT:TypeId) (v:Value) (w:World):(Instr.typeAssert (.iface 380 v) xT 380 true).run Tryz.prog w=.ok (.tuple #[v,.bool true]) w:=ta_yes Tryz.underlying380
theorem Tryz.yesSize (xT:TypeId) (v:Value) (w:World):(Instr.typeAssert (.iface 382 v) xT 382 true).run Tryz.prog w=.ok (.tuple #[v,.bool true]) w:=ta_yes Tryz.underlying382
theorem Tryz.yesIf (xT:TypeId) (v:Value) (w:World):(Instr.typeAssert (.iface 310 v) xT 310 true).run Tryz.prog w=.ok (.tuple #[v,.bool true]) w:=ta_yes Tryz.underlying310
theorem Tryz.noSet (t xT:TypeId) (v:Value) (w:World) (h:¬ t=313):(Instr.typeAssert (.iface t v) xT 313 true).run Tryz.prog w=.ok (.tuple #[.agg #[.string ⟨#[]⟩,.int .i64 0,.int .i64 0,.string ⟨#[]⟩,.string ⟨#[]⟩],.bool false]) w:=ta_no Tryz.underlying313 (by kernel_rfl) h
theorem Tryz.yesSet (xT:TypeId) (v:Value) (w:World):(Instr.typeAssert (.iface 313 v) xT 313 true).run Tryz.prog w=.ok (.tuple #[v,.bool true]) w:=ta_yes Tryz.underlying313
theorem Tryz.noAct (t xT:TypeId) (v:Value) (w:World) (h:¬ t=318):(Instr.typeAssert (.iface t v) xT 318 true).run Tryz.prog w=.ok (.tuple #[.agg #[.string ⟨#[]⟩,.int .i64 0,.int .i64 0,.string ⟨#[]⟩],.bool false]) w:=ta_no Tryz.underlying318 (by kernel_rfl) h
theorem Tryz.yesAct (xT:TypeId) (v:Value) (w:World):(Instr.typeAssert (.iface 318 v) xT 318 true).run Tryz.prog w=.ok (.tuple #[v,.bool true]) w:=ta_yes Tryz.underlying318
end
section
open Go.RowKit
attribute [local go_sem ↓] Go.wp_at_zero Go.wp_at_succ
def Tab (w:World):Prop:=Lib.TabIs Tryz.prog w "internal/strconv.uint64pow10" .u64 Lib.pow10Tab
theorem Tab.below {w w':World} (h:Tab w) (hb:Below w.heap.size w w'):Tab w':=Lib.tabBelow_of_tabIs h w' hb
theorem itoa_any (n:Nat) (hn:n≤2147483647) (w:World) (ht:Tab w) :
  Calls Tryz.prog 292 #[.int .i64 n] w fun e w'=>e=.returned (.string (strA (itoaL n)))∧Below w.heap.size w w':=by
 refine (Tryz.strconv_Itoa n (by omega) (by omega) w ht).mono ?_
 rintro e w' ⟨rfl,k,os,rfl⟩
 exact ⟨by rw [Lib.itoa_nonneg];rfl,Lib.below_grow _ _ (Nat.le_refl _) _ _⟩
end
section
open Go.RowKit
theorem Tryz.noTruth (t xT:TypeId) (v:Value) (w:World) (h:¬ t=373):(Instr.typeAssert (.iface t v) xT 373 true).run Tryz.prog w=.ok (.tuple #[.agg #[.string ⟨#[]⟩,.int .i64 0,.bool false],.bool false]) w:=ta_no Tryz.underlying373 (by kernel_rfl) h
theorem Tryz.yesTruth (xT:TypeId) (v:Value) (w:World):(Instr.typeAssert (.iface 373 v) xT 373 true).run Tryz.prog w=.ok (.tuple #[v,.bool true]) w:=ta_yes Tryz.underlying373
theorem Tryz.noDiscard (t xT:TypeId) (v:Value) (w:World) (h:¬ t=336):(Instr.typeAssert (.iface t v) xT 336 true).run Tryz.prog w=.ok (.tuple #[.agg #[.string ⟨#[]⟩,.int .i64 0],.bool false]) w:=ta_no Tryz.underlying336 (by kernel_rfl) h
theorem Tryz.yesDiscard (xT:TypeId) (v:Value) (w:World):(Instr.typeAssert (.iface 336 v) xT 336 true).run Tryz.prog w=.ok (.tuple #[v,.bool true]) w:=ta_yes Tryz.underlying336
theorem Tryz.noStop (t xT:TypeId) (v:Value) (w:World) (h:¬ t=337):(Instr.typeAssert (.iface t v) xT 337 true).run Tryz.prog w=.ok (.tuple #[.agg #[.string ⟨#[]⟩,.int .i64 0],.bool false]) w:=ta_no Tryz.underlying337 (by kernel_rfl) h
theorem Tryz.yesStop (xT:TypeId) (v:Value) (w:World):(Instr.typeAssert (.iface 337 v) xT 337 true).run Tryz.prog w=.ok (.tuple #[v,.bool true]) w:=ta_yes Tryz.underlying337
end
end Go.Proofs.YtbiclelojbfnbaaGreatDoor
