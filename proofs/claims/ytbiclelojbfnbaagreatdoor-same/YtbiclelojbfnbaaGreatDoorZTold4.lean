import Derived.Test.YtbiclelojbfnbaaGreatDoorProg
import Derived.WalkKit
import Derived.LaidEql
import Derived.Stop.Asserts
import Derived.RowKitTokens
import Derived.Deep.QuietTactic
import Derived.BigQuiet
import Derived.Test.YtbiclelojbfnbaaGreatDoorZNext
namespace Go.Proofs.YtbiclelojbfnbaaGreatDoor
set_option linter.unusedVariables false
set_option linter.unusedSimpArgs false
set_option maxRecDepth 100000
set_option maxHeartbeats 4000000
section
open Go.RowKit Go.Extern.Stop Go.Stop Go.Extern
theorem Tryz.valueOfFF (t:Addr) (w:World):(ReflectliteValue.unpack (.iface 142 (.pointer (some t)))).run Tryz.prog w
 = .ok (.agg #[.pointer (some ⟨7,142,none⟩),.pointer (some ⟨w.heap.size,0,none⟩),.int .u64 150]) (w.alloc (.cells #[.pointer (some t)] 142)):=by kernel_rfl
theorem Tryz.valueOfNN (t:Addr) (w:World):(ReflectliteValue.unpack (.iface 146 (.pointer (some t)))).run Tryz.prog w
 = .ok (.agg #[.pointer (some ⟨7,146,none⟩),.pointer (some ⟨w.heap.size,0,none⟩),.int .u64 150]) (w.alloc (.cells #[.pointer (some t)] 146)):=by kernel_rfl
theorem Tryz.typeFF (a:Addr) (w:World):(ReflectliteValue.methodAny (ReflectliteValue.valueError "reflectlite.Value.Type" 0) (fun t _ _ _=>ReflectliteType.toType t) #[.agg #[.pointer (some ⟨7,142,none⟩),.pointer (some a),.int .u64 150]]).run Tryz.prog w
 = .ok (.iface 288 (.agg #[.pointer (some ⟨7,142,none⟩)])) w:=by kernel_rfl
theorem Tryz.typeNN (a:Addr) (w:World):(ReflectliteValue.methodAny (ReflectliteValue.valueError "reflectlite.Value.Type" 0) (fun t _ _ _=>ReflectliteType.toType t) #[.agg #[.pointer (some ⟨7,146,none⟩),.pointer (some a),.int .u64 150]]).run Tryz.prog w
 = .ok (.iface 288 (.agg #[.pointer (some ⟨7,146,none⟩)])) w:=by kernel_rfl
theorem Tryz.methodKind (h:Value) (w:World):(Go.method 639 288 (.agg #[h]) "Kind").run Tryz.prog w=.ok (415,h) w:=by kernel_rfl
theorem Tryz.kindFF (w:World):((ReflectliteType.abiMethod fun t=>Functor.map (fun a:Nat=>Value.int IntKind.u8 (a:Int)) (Rtype.kind t)) #[.pointer (some ⟨7,142,none⟩)]).run Tryz.prog w=.ok (.int .u8 22) w:=by kernel_rfl
theorem Tryz.kindF (w:World):((ReflectliteType.abiMethod fun t=>Functor.map (fun a:Nat=>Value.int IntKind.u8 (a:Int)) (Rtype.kind t)) #[.pointer (some ⟨7,140,none⟩)]).run Tryz.prog w=.ok (.int .u8 22) w:=by kernel_rfl
theorem Tryz.kindNN (w:World):((ReflectliteType.abiMethod fun t=>Functor.map (fun a:Nat=>Value.int IntKind.u8 (a:Int)) (Rtype.kind t)) #[.pointer (some ⟨7,146,none⟩)]).run Tryz.prog w=.ok (.int .u8 22) w:=by kernel_rfl
theorem Tryz.kindN (w:World):((ReflectliteType.abiMethod fun t=>Functor.map (fun a:Nat=>Value.int IntKind.u8 (a:Int)) (Rtype.kind t)) #[.pointer (some ⟨7,39,none⟩)]).run Tryz.prog w=.ok (.int .u8 2) w:=by kernel_rfl
theorem rlm (z:Sem Value) (f:TypeId→Addr→Nat→Nat→Sem Value) (v:Value) :
 ReflectliteValue.method z f #[v]=(do match ← ReflectliteValue.parts v with | none=>z | some (t,a,fl)=>f t a fl (fl % 32)):=rfl
theorem Tryz.partsFF (a:Addr) (w:World):(ReflectliteValue.parts (.agg #[.pointer (some ⟨7,142,none⟩),.pointer (some a),.int .u64 150])).run Tryz.prog w=.ok (some (142,a,150)) w:=by kernel_rfl
theorem Tryz.partsNN (a:Addr) (w:World):(ReflectliteValue.parts (.agg #[.pointer (some ⟨7,146,none⟩),.pointer (some a),.int .u64 150])).run Tryz.prog w=.ok (some (146,a,150)) w:=by kernel_rfl
theorem Tryz.isNilFF (a p:Addr) (W:World) (ha:W.cell? a=some (.pointer (some p))) :
 (ReflectliteValue.method (ReflectliteValue.valueError "reflectlite.Value.IsNil" 0) ReflectliteValue.isNil #[.agg #[.pointer (some ⟨7,142,none⟩),.pointer (some a),.int .u64 150]]).run Tryz.prog W=.ok (.bool false) W:=by
 rw [rlm]
 simp only [Sem.run_bind,Tryz.partsFF,Result.andThen]
 simp [ReflectliteValue.isNil,loadVar,isAgg,underlying,Tryz.underlying142,ha,Result.andThen]
theorem Tryz.isNilNN (a p:Addr) (W:World) (ha:W.cell? a=some (.pointer (some p))) :
 (ReflectliteValue.method (ReflectliteValue.valueError "reflectlite.Value.IsNil" 0) ReflectliteValue.isNil #[.agg #[.pointer (some ⟨7,146,none⟩),.pointer (some a),.int .u64 150]]).run Tryz.prog W=.ok (.bool false) W:=by
 rw [rlm]
 simp only [Sem.run_bind,Tryz.partsNN,Result.andThen]
 simp [ReflectliteValue.isNil,loadVar,isAgg,underlying,Tryz.underlying146,ha,Result.andThen]
theorem Tryz.methodElem (h:Value) (w:World):(Go.method 639 288 (.agg #[h]) "Elem").run Tryz.prog w=.ok (456,.agg #[h]) w:=by kernel_rfl
theorem Tryz.methodImplements (h:Value) (w:World):(Go.method 639 288 (.agg #[h]) "Implements").run Tryz.prog w=.ok (457,.agg #[h]) w:=by kernel_rfl
theorem Tryz.methodAssignableTo (h:Value) (w:World):(Go.method 639 288 (.agg #[h]) "AssignableTo").run Tryz.prog w=.ok (454,.agg #[h]) w:=by kernel_rfl
theorem Tryz.methodComparable (h:Value) (w:World):(Go.method 639 288 (.agg #[h]) "Comparable").run Tryz.prog w=.ok (455,.agg #[h]) w:=by kernel_rfl
theorem Tryz.elemFF (w:World):(ReflectliteType.method ReflectliteType.elem #[.agg #[.pointer (some ⟨7,142,none⟩)]]).run Tryz.prog w=.ok (.iface 288 (.agg #[.pointer (some ⟨7,140,none⟩)])) w:=by kernel_rfl
theorem Tryz.elemNN (w:World):(ReflectliteType.method ReflectliteType.elem #[.agg #[.pointer (some ⟨7,146,none⟩)]]).run Tryz.prog w=.ok (.iface 288 (.agg #[.pointer (some ⟨7,39,none⟩)])) w:=by kernel_rfl
theorem Tryz.implementsF (w:World):(ReflectliteType.relation "Implements" ReflectliteType.implements_ #[.agg #[.pointer (some ⟨7,140,none⟩)],.iface 288 (.agg #[.pointer (some ⟨7,90,none⟩)])]).run Tryz.prog w=.ok (.bool true) w:=by kernel_rfl
theorem Tryz.implementsN (w:World):(ReflectliteType.relation "Implements" ReflectliteType.implements_ #[.agg #[.pointer (some ⟨7,39,none⟩)],.iface 288 (.agg #[.pointer (some ⟨7,90,none⟩)])]).run Tryz.prog w=.ok (.bool true) w:=by kernel_rfl
theorem Tryz.typeOfF (v:Value) (w:World):(ReflectliteType.typeOf #[.iface 140 v]).run Tryz.prog w=.ok (.iface 288 (.agg #[.pointer (some ⟨7,140,none⟩)])) w:=by kernel_rfl
theorem Tryz.typeOfN (v:Value) (w:World):(ReflectliteType.typeOf #[.iface 39 v]).run Tryz.prog w=.ok (.iface 288 (.agg #[.pointer (some ⟨7,39,none⟩)])) w:=by kernel_rfl
theorem Tryz.assignFF (w:World):(ReflectliteType.relation "AssignableTo" ReflectliteType.assignableTo #[.agg #[.pointer (some ⟨7,140,none⟩)],.iface 288 (.agg #[.pointer (some ⟨7,140,none⟩)])]).run Tryz.prog w=.ok (.bool true) w:=by kernel_rfl
theorem Tryz.assignNN (w:World):(ReflectliteType.relation "AssignableTo" ReflectliteType.assignableTo #[.agg #[.pointer (some ⟨7,39,none⟩)],.iface 288 (.agg #[.pointer (some ⟨7,39,none⟩)])]).run Tryz.prog w=.ok (.bool true) w:=by kernel_rfl
theorem Tryz.assignNF (w:World):(ReflectliteType.relation "AssignableTo" ReflectliteType.assignableTo #[.agg #[.pointer (some ⟨7,39,none⟩)],.iface 288 (.agg #[.pointer (some ⟨7,140,none⟩)])]).run Tryz.prog w=.ok (.bool false) w:=by kernel_rfl
theorem Tryz.valueOfF (e:Addr) (w:World):(ReflectliteValue.unpack (.iface 140 (.pointer (some e)))).run Tryz.prog w
 = .ok (.agg #[.pointer (some ⟨7,140,none⟩),.pointer (some ⟨w.heap.size,0,none⟩),.int .u64 150]) (w.alloc (.cells #[.pointer (some e)] 140)):=by kernel_rfl
theorem Tryz.valueOfN (n:Int) (w:World):(ReflectliteValue.unpack (.iface 39 (.int .i64 n))).run Tryz.prog w
 = .ok (.agg #[.pointer (some ⟨7,39,none⟩),.pointer (some ⟨w.heap.size,0,none⟩),.int .u64 130]) (w.alloc (.cells #[.int .i64 n] 39)):=by kernel_rfl
theorem Tryz.elemOfFF (w:World):(Rtype.elem? 142).run Tryz.prog w=.ok (some 140) w:=by kernel_rfl
theorem Tryz.elemOfNN (w:World):(Rtype.elem? 146).run Tryz.prog w=.ok (some 39) w:=by kernel_rfl
theorem Tryz.mkF (p:Addr) (w:World):(ReflectliteValue.mk 140 p ReflectliteValue.flagAddr).run Tryz.prog w=.ok (.agg #[.pointer (some ⟨7,140,none⟩),.pointer (some p),.int .u64 406]) w:=by kernel_rfl
theorem Tryz.mkN (p:Addr) (w:World):(ReflectliteValue.mk 39 p ReflectliteValue.flagAddr).run Tryz.prog w=.ok (.agg #[.pointer (some ⟨7,39,none⟩),.pointer (some p),.int .u64 386]) w:=by kernel_rfl
theorem Tryz.elemVFF (a p:Addr) (W:World) (ha:W.cell? a=some (.pointer (some p))) :
 (ReflectliteValue.method (ReflectliteValue.valueError "reflectlite.Value.Elem" 0) ReflectliteValue.elem #[.agg #[.pointer (some ⟨7,142,none⟩),.pointer (some a),.int .u64 150]]).run Tryz.prog W
   = .ok (.agg #[.pointer (some ⟨7,140,none⟩),.pointer (some p),.int .u64 406]) W:=by
 rw [rlm]
 simp only [Sem.run_bind,Tryz.partsFF,Result.andThen]
 simp [ReflectliteValue.elem,loadVar,isAgg,underlying,Tryz.underlying142,ha,Result.andThen,Tryz.elemOfFF,Tryz.mkF]
theorem Tryz.elemVNN (a p:Addr) (W:World) (ha:W.cell? a=some (.pointer (some p))) :
 (ReflectliteValue.method (ReflectliteValue.valueError "reflectlite.Value.Elem" 0) ReflectliteValue.elem #[.agg #[.pointer (some ⟨7,146,none⟩),.pointer (some a),.int .u64 150]]).run Tryz.prog W
   = .ok (.agg #[.pointer (some ⟨7,39,none⟩),.pointer (some p),.int .u64 386]) W:=by
 rw [rlm]
 simp only [Sem.run_bind,Tryz.partsNN,Result.andThen]
 simp [ReflectliteValue.elem,loadVar,isAgg,underlying,Tryz.underlying146,ha,Result.andThen,Tryz.elemOfNN,Tryz.mkN]
theorem rls (v x:Value):ReflectliteValue.set #[v,x]=(do
 let (some (dst,a,fl),some (src,b,_)):=(← ReflectliteValue.parts v,← ReflectliteValue.parts x)
  | unsupported (.noEntry "extern/(internal/reflectlite.Value).Set.zeroValue")
 if fl / ReflectliteValue.flagAddr % 2 == 0 then unsupported (.noEntry "extern/(internal/reflectlite.Value).Set.unaddressable")
 let val ← loadVar src b
 if ← Rtype.directlyAssignable dst src then storeVar dst a val
 else if ← Rtype.implements dst src then
  if (← Rtype.kind src) == 20 then
   match val with
   | .nilIface=>unsupported (.noEntry "extern/reflectlite: a nil value of one interface type handed on as a value of another")
   | _=>storeVar dst a val
  else storeVar dst a (.iface src val)
 else panicString ("reflectlite.Set: value of type "++(← Rtype.spelt src) ++ " is not assignable to type "++(← Rtype.spelt dst))
 pure (.tuple #[])):=rfl
theorem Tryz.partsFa (a:Addr) (w:World):(ReflectliteValue.parts (.agg #[.pointer (some ⟨7,140,none⟩),.pointer (some a),.int .u64 406])).run Tryz.prog w=.ok (some (140,a,406)) w:=by kernel_rfl
theorem Tryz.partsF (a:Addr) (w:World):(ReflectliteValue.parts (.agg #[.pointer (some ⟨7,140,none⟩),.pointer (some a),.int .u64 150])).run Tryz.prog w=.ok (some (140,a,150)) w:=by kernel_rfl
theorem Tryz.partsNa (a:Addr) (w:World):(ReflectliteValue.parts (.agg #[.pointer (some ⟨7,39,none⟩),.pointer (some a),.int .u64 386])).run Tryz.prog w=.ok (some (39,a,386)) w:=by kernel_rfl
theorem Tryz.partsN (a:Addr) (w:World):(ReflectliteValue.parts (.agg #[.pointer (some ⟨7,39,none⟩),.pointer (some a),.int .u64 130])).run Tryz.prog w=.ok (some (39,a,130)) w:=by kernel_rfl
theorem Tryz.directF (w:World):(Rtype.directlyAssignable 140 140).run Tryz.prog w=.ok true w:=by kernel_rfl
theorem Tryz.directN (w:World):(Rtype.directlyAssignable 39 39).run Tryz.prog w=.ok true w:=by kernel_rfl
theorem Tryz.setF (ta b e:Addr) (old:Value) (W:World) (hb:W.cell? b=some (.pointer (some e))) (ht:W.cell? ta=some old) (hf:W.frozen? ta=false) :
 (ReflectliteValue.set #[.agg #[.pointer (some ⟨7,140,none⟩),.pointer (some ta),.int .u64 406],.agg #[.pointer (some ⟨7,140,none⟩),.pointer (some b),.int .u64 150]]).run Tryz.prog W
   = .ok (.tuple #[]) (W.setCell ta (.pointer (some e))):=by
 rw [rls]
 simp only [Sem.run_bind,Tryz.partsFa,Tryz.partsF,Result.andThen]
 simp [ReflectliteValue.flagAddr,loadVar,isAgg,underlying,Tryz.underlying140,hb,Result.andThen,Tryz.directF,storeVar,Value.cells,storeCells,Addr.add]
 rw [run_store Tryz.prog W ta _ _ (by rfl)]
 simp [ht,hf]
theorem Tryz.setN (ta b:Addr) (n:Int) (old:Value) (W:World) (hb:W.cell? b=some (.int .i64 n)) (ht:W.cell? ta=some old) (hf:W.frozen? ta=false) :
 (ReflectliteValue.set #[.agg #[.pointer (some ⟨7,39,none⟩),.pointer (some ta),.int .u64 386],.agg #[.pointer (some ⟨7,39,none⟩),.pointer (some b),.int .u64 130]]).run Tryz.prog W
   = .ok (.tuple #[]) (W.setCell ta (.int .i64 n)):=by
 rw [rls]
 simp only [Sem.run_bind,Tryz.partsNa,Tryz.partsN,Result.andThen]
 simp [ReflectliteValue.flagAddr,loadVar,isAgg,underlying,Tryz.underlying39,hb,Result.andThen,Tryz.directN,storeVar,Value.cells,storeCells,Addr.add]
 rw [run_store Tryz.prog W ta _ _ (by rfl)]
 simp [ht,hf]
theorem Tryz.noAsN (v:Value) (xT:TypeId) (w:World):(Instr.typeAssert (.iface 39 v) xT 292 true).run Tryz.prog w=.ok (.tuple #[.nilIface,.bool false]) w:=run_typeAssert_lacksB Tryz.underlying292 (by kernel_rfl) (by kernel_rfl) v xT w
theorem Tryz.noUnwrapN (v:Value) (xT:TypeId) (w:World):(Instr.typeAssert (.iface 39 v) xT 295 true).run Tryz.prog w=.ok (.tuple #[.nilIface,.bool false]) w:=run_typeAssert_lacksB Tryz.underlying295 (by kernel_rfl) (by kernel_rfl) v xT w
theorem Tryz.noUnwrapsN (v:Value) (xT:TypeId) (w:World):(Instr.typeAssert (.iface 39 v) xT 296 true).run Tryz.prog w=.ok (.tuple #[.nilIface,.bool false]) w:=run_typeAssert_lacksB Tryz.underlying296 (by kernel_rfl) (by kernel_rfl) v xT w
theorem Tryz.noIsF (v:Value) (xT:TypeId) (w:World):(Instr.typeAssert (.iface 140 v) xT 299 true).run Tryz.prog w=.ok (.tuple #[.nilIface,.bool false]) w:=run_typeAssert_lacksB Tryz.underlying299 (by kernel_rfl) (by kernel_rfl) v xT w
theorem Tryz.hasUnwrapF (v:Value) (xT:TypeId) (w:World):(Instr.typeAssert (.iface 140 v) xT 295 true).run Tryz.prog w=.ok (.tuple #[.iface 140 v,.bool true]) w:=run_typeAssert_hasB Tryz.underlying295 (by kernel_rfl) v xT w
theorem Tryz.methodUnwrap (v:Value) (w:World):(Go.method 639 140 v "Unwrap").run Tryz.prog w=.ok (446,v) w:=by kernel_rfl
theorem Tryz.compN:(Tryz.prog.info? 39).map (·.comparable)=some true:=by kernel_rfl
theorem QlC (n:Int) (w:World):(binOp .eql 90 (.iface 39 (.int .i64 n)) (.iface 39 (.int .i64 n))).run Tryz.prog w=.ok (.bool true) w:=by
 obtain ⟨i,hi,hcmp⟩:=Option.map_eq_some_iff.1 Tryz.compN
 have h:∀ d:Nat,(Op.equalIn (d+2) 90 (.iface 39 (.int .i64 n)) (.iface 39 (.int .i64 n))).run Tryz.prog w=.ok true w:=fun d=>by
  simp [Op.equalIn,run_underlying Tryz.underlying90,run_underlying Tryz.underlying39,typeInfo,hi,hcmp]
 simp only [binOp]
 simp [Op.equal,Op.maxDepth,h 9998]
end
section
open Go.RowKit Go.Extern.Stop Go.Stop Go.Extern
def Qjd (w:World):Prop:=w.cell? ⟨0,0,none⟩=some (.iface 288 (.agg #[.pointer (some ⟨7,90,none⟩)]))
theorem QcP {w:World} {a:Addr} {v:Value} (h:w.cell? a=some v):a.block < w.heap.size:=by
 rcases Nat.lt_or_ge a.block w.heap.size with h' | h'
 ·exact h'
 ·simp [World.cell?,Array.getElem?_eq_none h'] at h
theorem Quv (e t:Addr) (old:Value) (w:World) (hg:Qjd w) (ht0:w.cell? t=some old) (hf0:w.frozen? t=false) :
 Calls Tryz.prog 75 #[.iface 140 (.pointer (some e)),.iface 142 (.pointer (some t))] w fun ev w'=>ev=.returned (.bool true)∧w'=((((w.alloc (.cells #[.pointer (some t)] 142)).alloc (.cells #[.pointer (some ⟨7,142,none⟩),.pointer (some ⟨w.heap.size,0,none⟩),.int .u64 150] 187)).alloc (.cells #[.pointer (some ⟨7,142,none⟩),.pointer (some ⟨w.heap.size,0,none⟩),.int .u64 150] 187)).alloc (.cells #[.pointer (some e)] 140)).setCell t (.pointer (some e)):=by
 unfold Qjd at hg
 have h6:=@run_callFunc_extern Tryz.prog 106 _ (fun args=>ReflectliteValue.unpack (args.getD 0 (.tuple #[]))) Tryz.func106 (by kernel_rfl) (by kernel_rfl) (by kernel_rfl) (by kernel_rfl)
 have h7:=@run_callFunc_extern Tryz.prog 107 _ (ReflectliteValue.methodAny (ReflectliteValue.valueError "reflectlite.Value.Type" 0) (fun t _ _ _=>ReflectliteType.toType t)) Tryz.func107 (by kernel_rfl) (by kernel_rfl) (by kernel_rfl) (by kernel_rfl)
 have h8:=@run_callFunc_extern Tryz.prog 108 _ (ReflectliteValue.method (ReflectliteValue.valueError "reflectlite.Value.IsNil" 0) ReflectliteValue.isNil) Tryz.func108 (by kernel_rfl) (by kernel_rfl) (by kernel_rfl) (by kernel_rfl)
 have h27:=@run_callFunc_extern Tryz.prog 415 _ (ReflectliteType.abiMethod fun t=>do pure (.int .u8 (← Rtype.kind t))) Tryz.func415 (by kernel_rfl) (by kernel_rfl) (by kernel_rfl) (by kernel_rfl)
 have h37:=@run_callFunc_extern Tryz.prog 456 _ (ReflectliteType.method ReflectliteType.elem) Tryz.func456 (by kernel_rfl) (by kernel_rfl) (by kernel_rfl) (by kernel_rfl)
 have h38:=@run_callFunc_extern Tryz.prog 457 _ (ReflectliteType.relation "Implements" ReflectliteType.implements_) Tryz.func457 (by kernel_rfl) (by kernel_rfl) (by kernel_rfl) (by kernel_rfl)
 have h10:=@run_callFunc_extern Tryz.prog 110 _ ReflectliteType.typeOf Tryz.func110 (by kernel_rfl) (by kernel_rfl) (by kernel_rfl) (by kernel_rfl)
 have h35:=@run_callFunc_extern Tryz.prog 454 _ (ReflectliteType.relation "AssignableTo" ReflectliteType.assignableTo) Tryz.func454 (by kernel_rfl) (by kernel_rfl) (by kernel_rfl) (by kernel_rfl)
 have h11:=@run_callFunc_extern Tryz.prog 175 _ (ReflectliteValue.method (ReflectliteValue.valueError "reflectlite.Value.Elem" 0) ReflectliteValue.elem) Tryz.func175 (by kernel_rfl) (by kernel_rfl) (by kernel_rfl) (by kernel_rfl)
 have h12:=@run_callFunc_extern Tryz.prog 176 _ ReflectliteValue.set Tryz.func176 (by kernel_rfl) (by kernel_rfl) (by kernel_rfl) (by kernel_rfl)
 have tO:=Tryz.typeOfF
 have mA:=Tryz.methodAssignableTo
 have a25:=Tryz.assignFF
 have v25:=Tryz.valueOfF
 have f6:=Tryz.valueOfFF
 have f7:=Tryz.typeFF
 have mK:=Tryz.methodKind
 have mE:=Tryz.methodElem
 have mI:=Tryz.methodImplements
 have k27:=Tryz.kindFF
 have k25:=Tryz.kindF
 have e27:=Tryz.elemFF
 have i25:=Tryz.implementsF
 have n8:=Tryz.isNilFF ⟨w.heap.size,0,none⟩ t ((w.alloc (.cells #[.pointer (some t)] 142)).alloc (.cells #[.pointer (some ⟨7,142,none⟩),.pointer (some ⟨w.heap.size,0,none⟩),.int .u64 150] 187)) (by simp)
 have hlt:0 < w.heap.size:=QcP hg
 have hg2:((w.alloc (.cells #[.pointer (some t)] 142)).alloc (.cells #[.pointer (some ⟨7,142,none⟩),.pointer (some ⟨w.heap.size,0,none⟩),.int .u64 150] 187)).cell? ⟨0,0,none⟩=some (.iface 288 (.agg #[.pointer (some ⟨7,90,none⟩)])):=by
  rw [World.cell?_alloc_lt _ _ ⟨0,0,none⟩ (by simp),World.cell?_alloc_lt _ _ ⟨0,0,none⟩ hlt];exact hg
 have htl:t.block < w.heap.size:=QcP ht0
 have el:=Tryz.elemVFF ⟨w.heap.size,0,none⟩ t (((w.alloc (.cells #[.pointer (some t)] 142)).alloc (.cells #[.pointer (some ⟨7,142,none⟩),.pointer (some ⟨w.heap.size,0,none⟩),.int .u64 150] 187)).alloc (.cells #[.pointer (some ⟨7,142,none⟩),.pointer (some ⟨w.heap.size,0,none⟩),.int .u64 150] 187)) (by rw [World.cell?_alloc_lt _ _ ⟨w.heap.size,0,none⟩ (by simp;omega)];simp)
 have st:=Tryz.setF t ⟨w.heap.size+1+1+1,0,none⟩ e old ((((w.alloc (.cells #[.pointer (some t)] 142)).alloc (.cells #[.pointer (some ⟨7,142,none⟩),.pointer (some ⟨w.heap.size,0,none⟩),.int .u64 150] 187)).alloc (.cells #[.pointer (some ⟨7,142,none⟩),.pointer (some ⟨w.heap.size,0,none⟩),.int .u64 150] 187)).alloc (.cells #[.pointer (some e)] 140))
  (by rw [World.cell?_alloc_at _ _ _ _ (by simp)];rfl)
  (by rw [World.cell?_alloc_lt _ _ t (by simp;omega),World.cell?_alloc_lt _ _ t (by simp;omega),World.cell?_alloc_lt _ _ t (by simp;omega),World.cell?_alloc_lt _ _ t htl];exact ht0)
  (by rw [World.frozen?_alloc_old _ _ t (by simp;omega),World.frozen?_alloc_old _ _ t (by simp;omega),World.frozen?_alloc_old _ _ t (by simp;omega),World.frozen?_alloc_old _ _ t (Nat.ne_of_lt htl)];exact hf0)
 go_enter Tryz.func75,Tryz.ntmps75
 go_wp2
 refine wp_loop_rounds 1 ?_
 rw [rounds_succ]
 go_wp2
 go_ret
 exact ⟨rfl,rfl⟩
theorem QuX (n:Int) (t:Addr) (old:Value) (w:World) (hg:Qjd w) (ht0:w.cell? t=some old) (hf0:w.frozen? t=false) :
 Calls Tryz.prog 75 #[.iface 39 (.int .i64 n),.iface 146 (.pointer (some t))] w fun ev w'=>ev=.returned (.bool true)∧w'=((((w.alloc (.cells #[.pointer (some t)] 146)).alloc (.cells #[.pointer (some ⟨7,146,none⟩),.pointer (some ⟨w.heap.size,0,none⟩),.int .u64 150] 187)).alloc (.cells #[.pointer (some ⟨7,146,none⟩),.pointer (some ⟨w.heap.size,0,none⟩),.int .u64 150] 187)).alloc (.cells #[.int .i64 n] 39)).setCell t (.int .i64 n):=by
 unfold Qjd at hg
 have h6:=@run_callFunc_extern Tryz.prog 106 _ (fun args=>ReflectliteValue.unpack (args.getD 0 (.tuple #[]))) Tryz.func106 (by kernel_rfl) (by kernel_rfl) (by kernel_rfl) (by kernel_rfl)
 have h7:=@run_callFunc_extern Tryz.prog 107 _ (ReflectliteValue.methodAny (ReflectliteValue.valueError "reflectlite.Value.Type" 0) (fun t _ _ _=>ReflectliteType.toType t)) Tryz.func107 (by kernel_rfl) (by kernel_rfl) (by kernel_rfl) (by kernel_rfl)
 have h8:=@run_callFunc_extern Tryz.prog 108 _ (ReflectliteValue.method (ReflectliteValue.valueError "reflectlite.Value.IsNil" 0) ReflectliteValue.isNil) Tryz.func108 (by kernel_rfl) (by kernel_rfl) (by kernel_rfl) (by kernel_rfl)
 have h27:=@run_callFunc_extern Tryz.prog 415 _ (ReflectliteType.abiMethod fun t=>do pure (.int .u8 (← Rtype.kind t))) Tryz.func415 (by kernel_rfl) (by kernel_rfl) (by kernel_rfl) (by kernel_rfl)
 have h37:=@run_callFunc_extern Tryz.prog 456 _ (ReflectliteType.method ReflectliteType.elem) Tryz.func456 (by kernel_rfl) (by kernel_rfl) (by kernel_rfl) (by kernel_rfl)
 have h38:=@run_callFunc_extern Tryz.prog 457 _ (ReflectliteType.relation "Implements" ReflectliteType.implements_) Tryz.func457 (by kernel_rfl) (by kernel_rfl) (by kernel_rfl) (by kernel_rfl)
 have h10:=@run_callFunc_extern Tryz.prog 110 _ ReflectliteType.typeOf Tryz.func110 (by kernel_rfl) (by kernel_rfl) (by kernel_rfl) (by kernel_rfl)
 have h35:=@run_callFunc_extern Tryz.prog 454 _ (ReflectliteType.relation "AssignableTo" ReflectliteType.assignableTo) Tryz.func454 (by kernel_rfl) (by kernel_rfl) (by kernel_rfl) (by kernel_rfl)
 have h11:=@run_callFunc_extern Tryz.prog 175 _ (ReflectliteValue.method (ReflectliteValue.valueError "reflectlite.Value.Elem" 0) ReflectliteValue.elem) Tryz.func175 (by kernel_rfl) (by kernel_rfl) (by kernel_rfl) (by kernel_rfl)
 have h12:=@run_callFunc_extern Tryz.prog 176 _ ReflectliteValue.set Tryz.func176 (by kernel_rfl) (by kernel_rfl) (by kernel_rfl) (by kernel_rfl)
 have tO:=Tryz.typeOfN
 have mA:=Tryz.methodAssignableTo
 have a25:=Tryz.assignNN
 have v25:=Tryz.valueOfN
 have f6:=Tryz.valueOfNN
 have f7:=Tryz.typeNN
 have mK:=Tryz.methodKind
 have mE:=Tryz.methodElem
 have mI:=Tryz.methodImplements
 have k27:=Tryz.kindNN
 have k25:=Tryz.kindN
 have e27:=Tryz.elemNN
 have i25:=Tryz.implementsN
 have n8:=Tryz.isNilNN ⟨w.heap.size,0,none⟩ t ((w.alloc (.cells #[.pointer (some t)] 146)).alloc (.cells #[.pointer (some ⟨7,146,none⟩),.pointer (some ⟨w.heap.size,0,none⟩),.int .u64 150] 187)) (by simp)
 have hlt:0 < w.heap.size:=QcP hg
 have hg2:((w.alloc (.cells #[.pointer (some t)] 146)).alloc (.cells #[.pointer (some ⟨7,146,none⟩),.pointer (some ⟨w.heap.size,0,none⟩),.int .u64 150] 187)).cell? ⟨0,0,none⟩=some (.iface 288 (.agg #[.pointer (some ⟨7,90,none⟩)])):=by
  rw [World.cell?_alloc_lt _ _ ⟨0,0,none⟩ (by simp),World.cell?_alloc_lt _ _ ⟨0,0,none⟩ hlt];exact hg
 have htl:t.block < w.heap.size:=QcP ht0
 have el:=Tryz.elemVNN ⟨w.heap.size,0,none⟩ t (((w.alloc (.cells #[.pointer (some t)] 146)).alloc (.cells #[.pointer (some ⟨7,146,none⟩),.pointer (some ⟨w.heap.size,0,none⟩),.int .u64 150] 187)).alloc (.cells #[.pointer (some ⟨7,146,none⟩),.pointer (some ⟨w.heap.size,0,none⟩),.int .u64 150] 187)) (by rw [World.cell?_alloc_lt _ _ ⟨w.heap.size,0,none⟩ (by simp;omega)];simp)
 have st:=Tryz.setN t ⟨w.heap.size+1+1+1,0,none⟩ n old ((((w.alloc (.cells #[.pointer (some t)] 146)).alloc (.cells #[.pointer (some ⟨7,146,none⟩),.pointer (some ⟨w.heap.size,0,none⟩),.int .u64 150] 187)).alloc (.cells #[.pointer (some ⟨7,146,none⟩),.pointer (some ⟨w.heap.size,0,none⟩),.int .u64 150] 187)).alloc (.cells #[.int .i64 n] 39))
  (by rw [World.cell?_alloc_at _ _ _ _ (by simp)];rfl)
  (by rw [World.cell?_alloc_lt _ _ t (by simp;omega),World.cell?_alloc_lt _ _ t (by simp;omega),World.cell?_alloc_lt _ _ t (by simp;omega),World.cell?_alloc_lt _ _ t htl];exact ht0)
  (by rw [World.frozen?_alloc_old _ _ t (by simp;omega),World.frozen?_alloc_old _ _ t (by simp;omega),World.frozen?_alloc_old _ _ t (by simp;omega),World.frozen?_alloc_old _ _ t (Nat.ne_of_lt htl)];exact hf0)
 go_enter Tryz.func75,Tryz.ntmps75
 go_wp2
 refine wp_loop_rounds 1 ?_
 rw [rounds_succ]
 go_wp2
 go_ret
 exact ⟨rfl,rfl⟩
theorem Qtg (n:Int) (t:Addr) (w:World) (hg:Qjd w) :
 Calls Tryz.prog 75 #[.iface 39 (.int .i64 n),.iface 142 (.pointer (some t))] w fun ev w'=>ev=.returned (.bool false)∧w'=(((w.alloc (.cells #[.pointer (some t)] 142)).alloc (.cells #[.pointer (some ⟨7,142,none⟩),.pointer (some ⟨w.heap.size,0,none⟩),.int .u64 150] 187)).alloc (.cells #[.pointer (some ⟨7,142,none⟩),.pointer (some ⟨w.heap.size,0,none⟩),.int .u64 150] 187)):=by
 unfold Qjd at hg
 have h6:=@run_callFunc_extern Tryz.prog 106 _ (fun args=>ReflectliteValue.unpack (args.getD 0 (.tuple #[]))) Tryz.func106 (by kernel_rfl) (by kernel_rfl) (by kernel_rfl) (by kernel_rfl)
 have h7:=@run_callFunc_extern Tryz.prog 107 _ (ReflectliteValue.methodAny (ReflectliteValue.valueError "reflectlite.Value.Type" 0) (fun t _ _ _=>ReflectliteType.toType t)) Tryz.func107 (by kernel_rfl) (by kernel_rfl) (by kernel_rfl) (by kernel_rfl)
 have h8:=@run_callFunc_extern Tryz.prog 108 _ (ReflectliteValue.method (ReflectliteValue.valueError "reflectlite.Value.IsNil" 0) ReflectliteValue.isNil) Tryz.func108 (by kernel_rfl) (by kernel_rfl) (by kernel_rfl) (by kernel_rfl)
 have h27:=@run_callFunc_extern Tryz.prog 415 _ (ReflectliteType.abiMethod fun t=>do pure (.int .u8 (← Rtype.kind t))) Tryz.func415 (by kernel_rfl) (by kernel_rfl) (by kernel_rfl) (by kernel_rfl)
 have h37:=@run_callFunc_extern Tryz.prog 456 _ (ReflectliteType.method ReflectliteType.elem) Tryz.func456 (by kernel_rfl) (by kernel_rfl) (by kernel_rfl) (by kernel_rfl)
 have h38:=@run_callFunc_extern Tryz.prog 457 _ (ReflectliteType.relation "Implements" ReflectliteType.implements_) Tryz.func457 (by kernel_rfl) (by kernel_rfl) (by kernel_rfl) (by kernel_rfl)
 have h10:=@run_callFunc_extern Tryz.prog 110 _ ReflectliteType.typeOf Tryz.func110 (by kernel_rfl) (by kernel_rfl) (by kernel_rfl) (by kernel_rfl)
 have h35:=@run_callFunc_extern Tryz.prog 454 _ (ReflectliteType.relation "AssignableTo" ReflectliteType.assignableTo) Tryz.func454 (by kernel_rfl) (by kernel_rfl) (by kernel_rfl) (by kernel_rfl)
 have tO:=Tryz.typeOfN
 have mA:=Tryz.methodAssignableTo
 have a25:=Tryz.assignNF
 have f6:=Tryz.valueOfFF
 have f7:=Tryz.typeFF
 have mK:=Tryz.methodKind
 have mE:=Tryz.methodElem
 have mI:=Tryz.methodImplements
 have k27:=Tryz.kindFF
 have k25:=Tryz.kindF
 have e27:=Tryz.elemFF
 have i25:=Tryz.implementsF
 have nA:=Tryz.noAsN
 have nU:=Tryz.noUnwrapN
 have nV:=Tryz.noUnwrapsN
 have n8:=Tryz.isNilFF ⟨w.heap.size,0,none⟩ t ((w.alloc (.cells #[.pointer (some t)] 142)).alloc (.cells #[.pointer (some ⟨7,142,none⟩),.pointer (some ⟨w.heap.size,0,none⟩),.int .u64 150] 187)) (by simp)
 have hlt:0 < w.heap.size:=QcP hg
 have hg2:((w.alloc (.cells #[.pointer (some t)] 142)).alloc (.cells #[.pointer (some ⟨7,142,none⟩),.pointer (some ⟨w.heap.size,0,none⟩),.int .u64 150] 187)).cell? ⟨0,0,none⟩=some (.iface 288 (.agg #[.pointer (some ⟨7,90,none⟩)])):=by
  rw [World.cell?_alloc_lt _ _ ⟨0,0,none⟩ (by simp),World.cell?_alloc_lt _ _ ⟨0,0,none⟩ hlt];exact hg
 go_enter Tryz.func75,Tryz.ntmps75
 go_wp2
 refine wp_loop_rounds 1 ?_
 rw [rounds_succ]
 go_wp2
 go_ret
 exact ⟨rfl,rfl⟩
end
section
open Go.RowKit Go.Extern.Stop Go.Stop Go.Extern
def QkJ (t:TypeId):Sem Value:=do Rtype.noPackHeld "Comparable" t;pure (.bool (← typeInfo t).comparable)
theorem Tryz.cmpN (w:World):(ReflectliteType.method QkJ #[.agg #[.pointer (some ⟨7,39,none⟩)]]).run Tryz.prog w=.ok (.bool true) w:=by kernel_rfl
theorem Qs2 (n:Int) (w:World) :
 Calls Tryz.prog 76 #[.iface 39 (.int .i64 n),.iface 39 (.int .i64 n)] w fun e w'=>e=.returned (.bool true)∧w'=w:=by
 have h8:=@run_callFunc_extern Tryz.prog 110 _ ReflectliteType.typeOf Tryz.func110 (by kernel_rfl) (by kernel_rfl) (by kernel_rfl) (by kernel_rfl)
 have h32:=@run_callFunc_extern Tryz.prog 455 _ (ReflectliteType.method QkJ) Tryz.func455 (by kernel_rfl) (by kernel_rfl) (by kernel_rfl) (by kernel_rfl)
 have tT:=Tryz.typeOfN
 have cT:=Tryz.cmpN
 have mR:=Tryz.methodComparable
 have heq:=QlC n w
 go_enter Tryz.func76,Tryz.ntmps76
 go_wp2
 refine wp_loop_rounds 1 ?_
 rw [rounds_succ]
 go_wp2
 go_ret
 exact ⟨rfl,rfl⟩
theorem QtK (pb:Nat) (n:Int) (w:World) (h1:w.cell? ⟨pb,0,none⟩=some (.int .i64 n)) :
 Calls Tryz.prog 76 #[.iface 140 (.pointer (some ⟨pb,0,none⟩)),.iface 39 (.int .i64 n)] w fun e w'=>e=.returned (.bool true)∧w'=w:=by
 have h8:=@run_callFunc_extern Tryz.prog 110 _ ReflectliteType.typeOf Tryz.func110 (by kernel_rfl) (by kernel_rfl) (by kernel_rfl) (by kernel_rfl)
 have h32:=@run_callFunc_extern Tryz.prog 455 _ (ReflectliteType.method QkJ) Tryz.func455 (by kernel_rfl) (by kernel_rfl) (by kernel_rfl) (by kernel_rfl)
 have tT:=Tryz.typeOfN
 have cT:=Tryz.cmpN
 have mR:=Tryz.methodComparable
 have nW:=Tryz.noIsF
 have uW:=Tryz.hasUnwrapF
 have mU:=Tryz.methodUnwrap
 have heq:=QlC n w
 have hty:=run_eql_iface_types (P:=Tryz.prog) 140 39 (.pointer (some ⟨pb,0,none⟩)) (.int .i64 n) Tryz.underlying90 (by decide) w
 go_enter Tryz.func76,Tryz.ntmps76
 go_wp2
 refine wp_loop_rounds 2 ?_
 rw [rounds_succ]
 go_wp2
 rw [rounds_succ]
 go_wp2
 go_ret
 exact ⟨rfl,rfl⟩
end
section
open Go.RowKit Go.Extern.Stop Go.Stop Go.Extern
theorem Qpn (w:World):Calls Tryz.prog 44 #[.nilIface] w fun e w'=>e=.returned (.tuple #[.int .i64 0,.int .i64 (-1)])∧Below w.heap.size w w':=by
 go_enter Tryz.func44,Tryz.ntmps44
 go_wp2
 refine bodyPost_ret (v:=.tuple #[.int .i64 0,.int .i64 (-1)]) (by simp [results,Tryz.results44,go_sem]) rfl ?_
 exact ⟨rfl,((Below.refl _ _).alloc (Nat.le_refl _) _).alloc (by simp) _⟩
theorem Qhq {w:World} {t:Addr} (o1 o2 o3 o4:Obj) (v:Value):Mod t.block w (((((w.alloc o1).alloc o2).alloc o3).alloc o4).setCell t v):=by
 have h:=((((Mod.refl t.block w).alloc o1).alloc o2).alloc o3).alloc o4
 exact ⟨h.os,h.tape,h.output,by simpa using h.size,fun k hk hn=>by rw [Below.heap_setCell _ _ _ _ hn];exact h.block k hk hn⟩
theorem Qi4 {w:World} {t:Addr} {old:Value} (ht:w.cell? t=some old) (o1 o2 o3 o4:Obj) (v:Value):(((((w.alloc o1).alloc o2).alloc o3).alloc o4).setCell t v).cell? t=some v:=by
 have htl:t.block < w.heap.size:=QcP ht
 refine World.cell?_setCell_same _ _ _ (?_:_=some old)
 rw [World.cell?_alloc_lt _ _ t (by simp;omega),World.cell?_alloc_lt _ _ t (by simp;omega),World.cell?_alloc_lt _ _ t (by simp;omega),World.cell?_alloc_lt _ _ t htl]
 exact ht
theorem QoJ (e t:Addr) (old:Value) (w:World) (hg:Qjd w) (ht0:w.cell? t=some old) (hf0:w.frozen? t=false) :
 Calls Tryz.prog 75 #[.iface 140 (.pointer (some e)),.iface 142 (.pointer (some t))] w fun ev w'=>ev=.returned (.bool true)∧Mod t.block w w'∧w'.cell? t=some (.pointer (some e)):=by
 refine (Quv e t old w hg ht0 hf0).mono ?_
 rintro ev w' ⟨rfl,rfl⟩
 exact ⟨rfl,Qhq _ _ _ _ _,Qi4 ht0 _ _ _ _ _⟩
theorem Qos (n:Int) (t:Addr) (old:Value) (w:World) (hg:Qjd w) (ht0:w.cell? t=some old) (hf0:w.frozen? t=false) :
 Calls Tryz.prog 75 #[.iface 39 (.int .i64 n),.iface 146 (.pointer (some t))] w fun ev w'=>ev=.returned (.bool true)∧Mod t.block w w'∧w'.cell? t=some (.int .i64 n):=by
 refine (QuX n t old w hg ht0 hf0).mono ?_
 rintro ev w' ⟨rfl,rfl⟩
 exact ⟨rfl,Qhq _ _ _ _ _,Qi4 ht0 _ _ _ _ _⟩
theorem Qjg (n:Int) (t:Addr) (w:World) (hg:Qjd w) :
 Calls Tryz.prog 75 #[.iface 39 (.int .i64 n),.iface 142 (.pointer (some t))] w fun ev w'=>ev=.returned (.bool false)∧Below w.heap.size w w':=by
 refine (Qtg n t w hg).mono ?_
 rintro ev w' ⟨rfl,rfl⟩
 exact ⟨rfl,(((Below.refl _ _).alloc (Nat.le_refl _) _).alloc (by simp) _).alloc (by simp;omega) _⟩
theorem Qjd.below {w w':World} (h:Qjd w) (hb:Below w.heap.size w w'):Qjd w':=by
 unfold Qjd at h ⊢
 rw [hb.cell (p:=⟨0,0,none⟩) (QcP h)]
 exact h
theorem Qjd.alloc {w:World} (h:Qjd w) (o:Obj):Qjd (w.alloc o):=h.below ((Below.refl _ _).alloc (Nat.le_refl _) _)
theorem QjP (bb:Nat) (n pos:Int) (w:World) (hg:Qjd w) (h0:w.cell? ⟨bb,0,none⟩=some (.int .i64 n)) (h1:w.cell? ⟨bb,1,none⟩=some (.int .i64 pos)) :
 Calls Tryz.prog 44 #[.iface 140 (.pointer (some ⟨bb,0,none⟩))] w fun e w'=>e=.returned (.tuple #[.int .i64 n,.int .i64 pos])∧Below w.heap.size w w':=by
 have hbl:bb < w.heap.size:=QcP h0
 have HG:=Qab hg
 have H0:=Qab h0
 have H1:=Qab h1
 clear hg h0 h1
 go_enter Tryz.func44,Tryz.ntmps44
 go_wp2_with fail
 refine (QoJ ⟨bb,0,none⟩ ⟨w.heap.size,0,none⟩ (.pointer none) _ ((HG.out.alloc _).alloc _) (by simp) (by simp)).mono ?_
 rintro e w1 ⟨rfl,hm,hc⟩
 have hm':Mod w.heap.size ((w.alloc (.cells #[.pointer none] 140)).alloc (.cells #[.int .i64 0] 39)) w1:=hm
 have c0:w1.cell? ⟨bb,0,none⟩=some (.int .i64 n):=by
  rw [hm'.cell (p:=⟨bb,0,none⟩) (by simp;omega) (by simp;omega),World.cell?_alloc_lt _ _ ⟨bb,0,none⟩ (by simp;omega),World.cell?_alloc_lt _ _ ⟨bb,0,none⟩ hbl]
  exact H0.out
 have c1:w1.cell? ⟨bb,1,none⟩=some (.int .i64 pos):=by
  rw [hm'.cell (p:=⟨bb,1,none⟩) (by simp;omega) (by simp;omega),World.cell?_alloc_lt _ _ ⟨bb,1,none⟩ (by simp;omega),World.cell?_alloc_lt _ _ ⟨bb,1,none⟩ hbl]
  exact H1.out
 have HB:Hid (Below w.heap.size w w1):=by
  refine ⟨hm'.os,hm'.tape,hm'.output,?_,fun k hk=>?_⟩
  ·have:=hm'.size;simp at this;omega
  ·rw [hm'.block k (by simp;omega) (by omega),Below.heap_alloc _ _ _ (by simp;omega),Below.heap_alloc _ _ _ hk]
 clear hm hm'
 go_wp2_with fail
 refine (QtK bb n w1 c0).mono ?_
 rintro e w2 ⟨rfl,rfl⟩
 go_wp2_with fail
 go_quiet (fail)
 go_wp2
 refine bodyPost_ret (v:=.tuple #[.int .i64 n,.int .i64 pos]) (by simp [results,Tryz.results44,go_sem]) rfl ?_
 exact ⟨rfl,HB.out.os,HB.out.tape,HB.out.output,HB.out.size,HB.out.block⟩
theorem QqQ (n:Int) (w:World) (hg:Qjd w) :
 Calls Tryz.prog 44 #[.iface 39 (.int .i64 n)] w fun e w'=>e=.returned (.tuple #[.int .i64 n,.int .i64 (-1)])∧Below w.heap.size w w':=by
 have HG:=Qab hg
 clear hg
 go_enter Tryz.func44,Tryz.ntmps44
 go_wp2_with fail
 refine (Qjg n ⟨w.heap.size,0,none⟩ _ ((HG.out.alloc _).alloc _)).mono ?_
 rintro e w1 ⟨rfl,hB⟩
 have c5:w1.cell? ⟨w.heap.size+1,0,none⟩=some (.int .i64 0):=by
  rw [hB.cell (p:=⟨w.heap.size+1,0,none⟩) (by simp)];simp
 have f5:w1.frozen? ⟨w.heap.size+1,0,none⟩=false:=by
  rw [hB.frozen (p:=⟨w.heap.size+1,0,none⟩) (by simp)];simp
 have HG1:=Qab (((HG.out.alloc (.cells #[.pointer none] 140)).alloc (.cells #[.int .i64 0] 39)).below hB)
 have hs:=hB.size
 have HB:Hid (Below w.heap.size w w1):=(((Below.refl _ w).alloc (Nat.le_refl _) (.cells #[.pointer none] 140)).alloc (by simp) (.cells #[.int .i64 0] 39)).trans (hB.mono (by simp;omega))
 clear hB
 simp at hs
 go_wp2_with fail
 refine (Qos n ⟨w.heap.size+1,0,none⟩ (.int .i64 0) w1 HG1.out c5 f5).mono ?_
 rintro e w2 ⟨rfl,hm,hc⟩
 have HB2:Hid (Below w.heap.size w w2):=HB.out.trans (Mod.below (b:=w.heap.size+1) hm (by omega) (by omega))
 clear hm
 go_wp2_with fail
 refine (Qs2 n w2).mono ?_
 rintro e w3 ⟨rfl,rfl⟩
 go_wp2
 refine bodyPost_ret (v:=.tuple #[.int .i64 n,.int .i64 (-1)]) (by simp [results,Tryz.results44,go_sem]) rfl ?_
 exact ⟨rfl,HB2.out⟩
end
end Go.Proofs.YtbiclelojbfnbaaGreatDoor
