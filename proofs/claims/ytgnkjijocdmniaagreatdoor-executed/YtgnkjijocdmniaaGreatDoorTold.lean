import Derived.Test.YtgnkjijocdmniaaGreatDoorProg
import Derived.WalkKit
import Derived.Stop.Asserts
import Derived.RowKitTokens
namespace Go.Proofs.YtgnkjijocdmniaaGreatDoor
set_option linter.unusedVariables false
set_option linter.unusedSimpArgs false
set_option maxRecDepth 100000
set_option maxHeartbeats 4000000
open Go.RowKit Go.Extern.Stop Go.Stop Go.Extern
theorem Tryz.valueOfFF(t:Addr)(w:World):(ReflectliteValue.unpack (.iface 127 (.pointer (some t)))).run Tryz.prog w
 = .ok (.agg #[.pointer (some ⟨5,127,none⟩),.pointer (some ⟨w.heap.size,0,none⟩),.int .u64 150]) (w.alloc (.cells #[.pointer (some t)] 127)):=by kernel_rfl
theorem Tryz.valueOfNN(t:Addr)(w:World):(ReflectliteValue.unpack (.iface 131 (.pointer (some t)))).run Tryz.prog w
 = .ok (.agg #[.pointer (some ⟨5,131,none⟩),.pointer (some ⟨w.heap.size,0,none⟩),.int .u64 150]) (w.alloc (.cells #[.pointer (some t)] 131)):=by kernel_rfl
theorem Tryz.typeFF(a:Addr)(w:World):(ReflectliteValue.methodAny (ReflectliteValue.valueError "reflectlite.Value.Type" 0) (fun t _ _ _=>ReflectliteType.toType t) #[.agg #[.pointer (some ⟨5,127,none⟩),.pointer (some a),.int .u64 150]]).run Tryz.prog w
 = .ok (.iface 238 (.agg #[.pointer (some ⟨5,127,none⟩)])) w:=by kernel_rfl
theorem Tryz.typeNN(a:Addr)(w:World):(ReflectliteValue.methodAny (ReflectliteValue.valueError "reflectlite.Value.Type" 0) (fun t _ _ _=>ReflectliteType.toType t) #[.agg #[.pointer (some ⟨5,131,none⟩),.pointer (some a),.int .u64 150]]).run Tryz.prog w
 = .ok (.iface 238 (.agg #[.pointer (some ⟨5,131,none⟩)])) w:=by kernel_rfl
theorem Tryz.methodKind(h:Value)(w:World):(Go.method 518 238 (.agg #[h]) "Kind").run Tryz.prog w=.ok (317,h) w:=by kernel_rfl
theorem Tryz.kindFF(w:World):((ReflectliteType.abiMethod fun t=>Functor.map (fun a:Nat=>Value.int IntKind.u8 (a:Int)) (Rtype.kind t)) #[.pointer (some ⟨5,127,none⟩)]).run Tryz.prog w=.ok (.int .u8 22) w:=by kernel_rfl
theorem Tryz.kindF(w:World):((ReflectliteType.abiMethod fun t=>Functor.map (fun a:Nat=>Value.int IntKind.u8 (a:Int)) (Rtype.kind t)) #[.pointer (some ⟨5,125,none⟩)]).run Tryz.prog w=.ok (.int .u8 22) w:=by kernel_rfl
theorem Tryz.kindNN(w:World):((ReflectliteType.abiMethod fun t=>Functor.map (fun a:Nat=>Value.int IntKind.u8 (a:Int)) (Rtype.kind t)) #[.pointer (some ⟨5,131,none⟩)]).run Tryz.prog w=.ok (.int .u8 22) w:=by kernel_rfl
theorem Tryz.kindN(w:World):((ReflectliteType.abiMethod fun t=>Functor.map (fun a:Nat=>Value.int IntKind.u8 (a:Int)) (Rtype.kind t)) #[.pointer (some ⟨5,33,none⟩)]).run Tryz.prog w=.ok (.int .u8 2) w:=by kernel_rfl
theorem rlm(z:Sem Value)(f:TypeId->Addr->Nat->Nat->Sem Value)(v:Value) :
 ReflectliteValue.method z f #[v]=(do match <-ReflectliteValue.parts v with|none=>z|some (t,a,fl)=>f t a fl (fl % 32)):=rfl
theorem Tryz.partsFF(a:Addr)(w:World):(ReflectliteValue.parts (.agg #[.pointer (some ⟨5,127,none⟩),.pointer (some a),.int .u64 150])).run Tryz.prog w=.ok (some (127,a,150)) w:=by kernel_rfl
theorem Tryz.partsNN(a:Addr)(w:World):(ReflectliteValue.parts (.agg #[.pointer (some ⟨5,131,none⟩),.pointer (some a),.int .u64 150])).run Tryz.prog w=.ok (some (131,a,150)) w:=by kernel_rfl
theorem Tryz.isNilFF(a p:Addr)(W:World)(b:W.cell? a=some (.pointer (some p))) :
 (ReflectliteValue.method (ReflectliteValue.valueError "reflectlite.Value.IsNil" 0) ReflectliteValue.isNil #[.agg #[.pointer (some ⟨5,127,none⟩),.pointer (some a),.int .u64 150]]).run Tryz.prog W=.ok (.bool false) W:=by
 rw[rlm];simp only[Sem.run_bind,Tryz.partsFF,Result.andThen];simp[ReflectliteValue.isNil,loadVar,isAgg,underlying,Tryz.underlying127,b,Result.andThen]
theorem Tryz.isNilNN(a p:Addr)(W:World)(b:W.cell? a=some (.pointer (some p))) :
 (ReflectliteValue.method (ReflectliteValue.valueError "reflectlite.Value.IsNil" 0) ReflectliteValue.isNil #[.agg #[.pointer (some ⟨5,131,none⟩),.pointer (some a),.int .u64 150]]).run Tryz.prog W=.ok (.bool false) W:=by
 rw[rlm];simp only[Sem.run_bind,Tryz.partsNN,Result.andThen];simp[ReflectliteValue.isNil,loadVar,isAgg,underlying,Tryz.underlying131,b,Result.andThen]
theorem Tryz.methodElem(h:Value)(w:World):(Go.method 518 238 (.agg #[h]) "Elem").run Tryz.prog w=.ok (332,.agg #[h]) w:=by kernel_rfl
theorem Tryz.methodImplements(h:Value)(w:World):(Go.method 518 238 (.agg #[h]) "Implements").run Tryz.prog w=.ok (333,.agg #[h]) w:=by kernel_rfl
theorem Tryz.methodAssignableTo(h:Value)(w:World):(Go.method 518 238 (.agg #[h]) "AssignableTo").run Tryz.prog w=.ok (330,.agg #[h]) w:=by kernel_rfl
theorem Tryz.methodComparable(h:Value)(w:World):(Go.method 518 238 (.agg #[h]) "Comparable").run Tryz.prog w=.ok (331,.agg #[h]) w:=by kernel_rfl
theorem Tryz.elemFF(w:World):(ReflectliteType.method ReflectliteType.elem #[.agg #[.pointer (some ⟨5,127,none⟩)]]).run Tryz.prog w=.ok (.iface 238 (.agg #[.pointer (some ⟨5,125,none⟩)])) w:=by kernel_rfl
theorem Tryz.elemNN(w:World):(ReflectliteType.method ReflectliteType.elem #[.agg #[.pointer (some ⟨5,131,none⟩)]]).run Tryz.prog w=.ok (.iface 238 (.agg #[.pointer (some ⟨5,33,none⟩)])) w:=by kernel_rfl
theorem Tryz.implementsF(w:World):(ReflectliteType.relation "Implements" ReflectliteType.implements_ #[.agg #[.pointer (some ⟨5,125,none⟩)],.iface 238 (.agg #[.pointer (some ⟨5,84,none⟩)])]).run Tryz.prog w=.ok (.bool true) w:=by kernel_rfl
theorem Tryz.implementsN(w:World):(ReflectliteType.relation "Implements" ReflectliteType.implements_ #[.agg #[.pointer (some ⟨5,33,none⟩)],.iface 238 (.agg #[.pointer (some ⟨5,84,none⟩)])]).run Tryz.prog w=.ok (.bool true) w:=by kernel_rfl
theorem Tryz.typeOfF(v:Value)(w:World):(ReflectliteType.typeOf #[.iface 125 v]).run Tryz.prog w=.ok (.iface 238 (.agg #[.pointer (some ⟨5,125,none⟩)])) w:=by kernel_rfl
theorem Tryz.typeOfN(v:Value)(w:World):(ReflectliteType.typeOf #[.iface 33 v]).run Tryz.prog w=.ok (.iface 238 (.agg #[.pointer (some ⟨5,33,none⟩)])) w:=by kernel_rfl
theorem Tryz.assignFF(w:World):(ReflectliteType.relation "AssignableTo" ReflectliteType.assignableTo #[.agg #[.pointer (some ⟨5,125,none⟩)],.iface 238 (.agg #[.pointer (some ⟨5,125,none⟩)])]).run Tryz.prog w=.ok (.bool true) w:=by kernel_rfl
theorem Tryz.assignNN(w:World):(ReflectliteType.relation "AssignableTo" ReflectliteType.assignableTo #[.agg #[.pointer (some ⟨5,33,none⟩)],.iface 238 (.agg #[.pointer (some ⟨5,33,none⟩)])]).run Tryz.prog w=.ok (.bool true) w:=by kernel_rfl
theorem Tryz.assignNF(w:World):(ReflectliteType.relation "AssignableTo" ReflectliteType.assignableTo #[.agg #[.pointer (some ⟨5,33,none⟩)],.iface 238 (.agg #[.pointer (some ⟨5,125,none⟩)])]).run Tryz.prog w=.ok (.bool false) w:=by kernel_rfl
theorem Tryz.valueOfF(e:Addr)(w:World):(ReflectliteValue.unpack (.iface 125 (.pointer (some e)))).run Tryz.prog w
 = .ok (.agg #[.pointer (some ⟨5,125,none⟩),.pointer (some ⟨w.heap.size,0,none⟩),.int .u64 150]) (w.alloc (.cells #[.pointer (some e)] 125)):=by kernel_rfl
theorem Tryz.valueOfN(n:Int)(w:World):(ReflectliteValue.unpack (.iface 33 (.int .i64 n))).run Tryz.prog w
 = .ok (.agg #[.pointer (some ⟨5,33,none⟩),.pointer (some ⟨w.heap.size,0,none⟩),.int .u64 130]) (w.alloc (.cells #[.int .i64 n] 33)):=by kernel_rfl
theorem Tryz.elemOfFF(w:World):(Rtype.elem? 127).run Tryz.prog w=.ok (some 125) w:=by kernel_rfl
theorem Tryz.elemOfNN(w:World):(Rtype.elem? 131).run Tryz.prog w=.ok (some 33) w:=by kernel_rfl
theorem Tryz.mkF(p:Addr)(w:World):(ReflectliteValue.mk 125 p ReflectliteValue.flagAddr).run Tryz.prog w=.ok (.agg #[.pointer (some ⟨5,125,none⟩),.pointer (some p),.int .u64 406]) w:=by kernel_rfl
theorem Tryz.mkN(p:Addr)(w:World):(ReflectliteValue.mk 33 p ReflectliteValue.flagAddr).run Tryz.prog w=.ok (.agg #[.pointer (some ⟨5,33,none⟩),.pointer (some p),.int .u64 386]) w:=by kernel_rfl
theorem Tryz.elemVFF(a p:Addr)(W:World)(b:W.cell? a=some (.pointer (some p))) :
 (ReflectliteValue.method (ReflectliteValue.valueError "reflectlite.Value.Elem" 0) ReflectliteValue.elem #[.agg #[.pointer (some ⟨5,127,none⟩),.pointer (some a),.int .u64 150]]).run Tryz.prog W
   = .ok (.agg #[.pointer (some ⟨5,125,none⟩),.pointer (some p),.int .u64 406]) W:=by
 rw[rlm];simp only[Sem.run_bind,Tryz.partsFF,Result.andThen];simp[ReflectliteValue.elem,loadVar,isAgg,underlying,Tryz.underlying127,b,Result.andThen,Tryz.elemOfFF,Tryz.mkF]
theorem Tryz.elemVNN(a p:Addr)(W:World)(b:W.cell? a=some (.pointer (some p))) :
 (ReflectliteValue.method (ReflectliteValue.valueError "reflectlite.Value.Elem" 0) ReflectliteValue.elem #[.agg #[.pointer (some ⟨5,131,none⟩),.pointer (some a),.int .u64 150]]).run Tryz.prog W
   = .ok (.agg #[.pointer (some ⟨5,33,none⟩),.pointer (some p),.int .u64 386]) W:=by
 rw[rlm];simp only[Sem.run_bind,Tryz.partsNN,Result.andThen];simp[ReflectliteValue.elem,loadVar,isAgg,underlying,Tryz.underlying131,b,Result.andThen,Tryz.elemOfNN,Tryz.mkN]
theorem rls (v x:Value):ReflectliteValue.set #[v,x]=(do
 let (some (dst,a,fl),some (src,b,_)):=(<-ReflectliteValue.parts v,<-ReflectliteValue.parts x)
  |unsupported (.noEntry "extern/(internal/reflectlite.Value).Set.zeroValue")
 if fl / ReflectliteValue.flagAddr % 2==0 then unsupported (.noEntry "extern/(internal/reflectlite.Value).Set.unaddressable")
 let val <-loadVar src b
 if <-Rtype.directlyAssignable dst src then storeVar dst a val
 else if <-Rtype.implements dst src then
  if(<-Rtype.kind src)==20 then
   match val with
   | .nilIface=>unsupported (.noEntry "extern/reflectlite: a nil value of one interface type handed on as a value of another")
   |_=>storeVar dst a val
  else storeVar dst a (.iface src val)
 else panicString ("reflectlite.Set: value of type "++(<-Rtype.spelt src) ++ " is not assignable to type "++(<-Rtype.spelt dst))
 pure (.tuple #[])):=rfl
theorem Tryz.partsFa(a:Addr)(w:World):(ReflectliteValue.parts (.agg #[.pointer (some ⟨5,125,none⟩),.pointer (some a),.int .u64 406])).run Tryz.prog w=.ok (some (125,a,406)) w:=by kernel_rfl
theorem Tryz.partsF(a:Addr)(w:World):(ReflectliteValue.parts (.agg #[.pointer (some ⟨5,125,none⟩),.pointer (some a),.int .u64 150])).run Tryz.prog w=.ok (some (125,a,150)) w:=by kernel_rfl
theorem Tryz.partsNa(a:Addr)(w:World):(ReflectliteValue.parts (.agg #[.pointer (some ⟨5,33,none⟩),.pointer (some a),.int .u64 386])).run Tryz.prog w=.ok (some (33,a,386)) w:=by kernel_rfl
theorem Tryz.partsN(a:Addr)(w:World):(ReflectliteValue.parts (.agg #[.pointer (some ⟨5,33,none⟩),.pointer (some a),.int .u64 130])).run Tryz.prog w=.ok (some (33,a,130)) w:=by kernel_rfl
theorem Tryz.directF(w:World):(Rtype.directlyAssignable 125 125).run Tryz.prog w=.ok true w:=by kernel_rfl
theorem Tryz.directN(w:World):(Rtype.directlyAssignable 33 33).run Tryz.prog w=.ok true w:=by kernel_rfl
theorem Tryz.setF(a b e:Addr)(g:Value)(W:World)(c:W.cell? b=some (.pointer (some e)))(f:W.cell? a=some g)(d:W.frozen? a=false) :
 (ReflectliteValue.set #[.agg #[.pointer (some ⟨5,125,none⟩),.pointer (some a),.int .u64 406],.agg #[.pointer (some ⟨5,125,none⟩),.pointer (some b),.int .u64 150]]).run Tryz.prog W
   = .ok (.tuple #[]) (W.setCell a (.pointer (some e))):=by
 rw[rls];simp only[Sem.run_bind,Tryz.partsFa,Tryz.partsF,Result.andThen];simp[ReflectliteValue.flagAddr,loadVar,isAgg,underlying,Tryz.underlying125,c,Result.andThen,Tryz.directF,storeVar,Value.cells,storeCells,Addr.add];rw[run_store Tryz.prog W a _ _ (by rfl)];simp[f,d]
theorem Tryz.setN(a b:Addr)(n:Int)(f:Value)(W:World)(c:W.cell? b=some (.int .i64 n))(e:W.cell? a=some f)(d:W.frozen? a=false) :
 (ReflectliteValue.set #[.agg #[.pointer (some ⟨5,33,none⟩),.pointer (some a),.int .u64 386],.agg #[.pointer (some ⟨5,33,none⟩),.pointer (some b),.int .u64 130]]).run Tryz.prog W
   = .ok (.tuple #[]) (W.setCell a (.int .i64 n)):=by
 rw[rls];simp only[Sem.run_bind,Tryz.partsNa,Tryz.partsN,Result.andThen];simp[ReflectliteValue.flagAddr,loadVar,isAgg,underlying,Tryz.underlying33,c,Result.andThen,Tryz.directN,storeVar,Value.cells,storeCells,Addr.add];rw[run_store Tryz.prog W a _ _ (by rfl)];simp[e,d]
theorem Tryz.noAsN(v:Value)(xT:TypeId)(w:World):(Instr.typeAssert (.iface 33 v) xT 242 true).run Tryz.prog w=.ok (.tuple #[.nilIface,.bool false]) w:=run_typeAssert_lacksB Tryz.underlying242 (by kernel_rfl) (by kernel_rfl) v xT w
theorem Tryz.noUnwrapN(v:Value)(xT:TypeId)(w:World):(Instr.typeAssert (.iface 33 v) xT 245 true).run Tryz.prog w=.ok (.tuple #[.nilIface,.bool false]) w:=run_typeAssert_lacksB Tryz.underlying245 (by kernel_rfl) (by kernel_rfl) v xT w
theorem Tryz.noUnwrapsN(v:Value)(xT:TypeId)(w:World):(Instr.typeAssert (.iface 33 v) xT 247 true).run Tryz.prog w=.ok (.tuple #[.nilIface,.bool false]) w:=run_typeAssert_lacksB Tryz.underlying247 (by kernel_rfl) (by kernel_rfl) v xT w
theorem Tryz.noIsF(v:Value)(xT:TypeId)(w:World):(Instr.typeAssert (.iface 125 v) xT 250 true).run Tryz.prog w=.ok (.tuple #[.nilIface,.bool false]) w:=run_typeAssert_lacksB Tryz.underlying250 (by kernel_rfl) (by kernel_rfl) v xT w
theorem Tryz.hasUnwrapF(v:Value)(xT:TypeId)(w:World):(Instr.typeAssert (.iface 125 v) xT 245 true).run Tryz.prog w=.ok (.tuple #[.iface 125 v,.bool true]) w:=run_typeAssert_hasB Tryz.underlying245 (by kernel_rfl) v xT w
theorem Tryz.methodUnwrap(v:Value)(w:World):(Go.method 518 125 v "Unwrap").run Tryz.prog w=.ok (322,v) w:=by kernel_rfl
theorem Tryz.compN:(Tryz.prog.info? 33).map (·.comparable)=some true:=by kernel_rfl
theorem Dm(n:Int)(w:World):(binOp .eql 84 (.iface 33 (.int .i64 n)) (.iface 33 (.int .i64 n))).run Tryz.prog w=.ok (.bool true) w:=by
 obtain⟨i,b,a⟩:=Option.map_eq_some_iff.1 Tryz.compN
 have h:∀ d:Nat,(Op.equalIn (d+2) 84 (.iface 33 (.int .i64 n)) (.iface 33 (.int .i64 n))).run Tryz.prog w=.ok true w:=fun d=>by
  simp[Op.equalIn,run_underlying Tryz.underlying84,run_underlying Tryz.underlying33,typeInfo,b,a]
 simp only[binOp];simp[Op.equal,Op.maxDepth,h 9998]
end Go.Proofs.YtgnkjijocdmniaaGreatDoor
