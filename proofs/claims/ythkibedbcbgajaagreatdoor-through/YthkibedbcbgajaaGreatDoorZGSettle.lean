import Derived.LaidEql
import Derived.Stop.Asserts
import Derived.RowKitTokens
import Derived.Laws.AppendOwnNone
import Derived.Test.YthkibedbcbgajaaGreatDoorZPlainThru
namespace Go.Proofs.YthkibedbcbgajaaGreatDoor
set_option linter.unusedVariables false
set_option linter.unusedSimpArgs false
set_option maxRecDepth 100000
set_option maxHeartbeats 4000000
open Go.Proofs.Tryz
section
open Go.RowKit
theorem Qjc(W:World)(v:Value)(xT:TypeId):(Instr.typeAssert (.iface 76 v) xT 76 true).run Tryz.prog W=.ok (.tuple #[v,.bool true]) W:=by kernel_rfl
theorem QjR(w:World):Calls Tryz.prog 58 #[.nilIface] w fun e w'=>e=.returned (.pointer none)/\w'=w:=by
 go_enter func58,ntmps58;go_wp2;go_ret;exact⟨rfl,rfl⟩
theorem Qhp(a:Addr)(w:World):Calls Tryz.prog 58 #[.iface 76 (.pointer (some a))] w fun e w'=>e=.returned (.pointer (some a))/\w'=w:=by
 go_enter func58,ntmps58;have hta:=Qjc w (.pointer (some a));go_wp2;go_ret;exact⟨rfl,rfl⟩
theorem Qq6(p q:Addr)(w:World) :
 CallsD Tryz.prog 57 #[.pointer (some p),.pointer (some q)] .returning w fun e u' w'=>e=.returned (.tuple #[])/\u'=.returning/\w'=w:=by
 refine callsD_of_wpS func57 rfl fun c₀ cs hu=>?_
 apply wpS_seq;apply wpS_region;simp[wpOpsS,go_sem,recoverD,hu,ntmps57,Exit.thenS];refine(QjR w).mono ?_;rintro e w' ⟨rfl,rfl⟩;apply wpS_seq;apply wpS_region;simp[wpOpsS,go_sem,Exit.thenS];refine wpS_cond (t:=false) (by simp[Act.eval,Array.replicate]) ?_;simp only[Bool.false_eq_true,if_false];refine wpS_of_wp (wp_skip ?_);cases c₀;simp_all [bodyPostS,results,results57]
theorem Qi2(P Q:Nat)(x1 x2 x3:Value)(a:Addr)(aa:List PanicEntry)(w:World)(ad:w.cell? ⟨P,0,none⟩=some x1)(ac:w.cell? ⟨P,1,none⟩=some x2)(ab:w.cell? ⟨Q,0,none⟩=some x3)(ae:∀ j,w.frozen? ⟨P,j,none⟩=false)(af:∀ j,w.frozen? ⟨Q,j,none⟩=false)(hPQ:P≠Q) :
 CallsD Tryz.prog 57 #[.pointer (some ⟨P,0,none⟩),.pointer (some ⟨Q,0,none⟩)] (.panicking ({ v:=.iface 76 (.pointer (some a)),recovered:=false }::aa)) w fun e u' w'=>
  e=.returned (.tuple #[])/\u'=.panicking ({ v:=.iface 76 (.pointer (some a)),recovered:=true }::aa)/\w'=((w.setCell ⟨P,0,none⟩ (.slice none 0 0)).setCell ⟨P,1,none⟩ (.slice none 0 0)).setCell ⟨Q,0,none⟩ (.iface 76 (.pointer (some a))):=by
 refine callsD_of_wpS func57 rfl fun c₀ cs hu=>?_
 apply wpS_seq;apply wpS_region;simp[wpOpsS,go_sem,recoverD,hu,ntmps57,Exit.thenS];refine(Qhp a w).mono ?_;rintro e w' ⟨rfl,rfl⟩;apply wpS_seq;apply wpS_region;simp[wpOpsS,go_sem,Exit.thenS];refine wpS_cond (t:=true) (by simp[Act.eval,Array.replicate]) ?_;simp only[if_true];apply wpS_region;simp[wpOpsS,go_sem,ad,ac,ab,ae,af,bodyPostS,results,results57]
end
section
open Go.RowKit
attribute [local go_sem ↓] Go.wp_at_zero Go.wp_at_succ
def Qxb (r:Except Flt (List (L8)×List (QdT 7))) (w:World) (e:Ending) (w':World):Prop:=
 Below w.heap.size w w'∧((∃ y tv,r=.ok y∧e=.returned (.tuple #[tv,.nilIface])∧QxE (fromB w.heap.size) y w' tv)∨(∃ f bb,r=.error f∧e=.returned (.tuple #[.agg #[.slice none 0 0,.slice none 0 0],.iface 76 (.pointer (some ⟨bb,0,none⟩))])∧w.heap.size≤bb∧w'.heap[bb]?=some (.cells #[.int .i64 f.err,.int .i64 f.pos] 81)))
theorem Qog(t:ByteArray)(w:World)(ht:t.size<=600)(av:∃ m,w.cell? ⟨1,0,none⟩=some (.int .i64 m)) :
 Calls Tryz.prog 36 #[.string t] w (Qxb (prL t.data.toList) w):=by
 have hmf:∀(fn:Fn) (first cap:Array Value) (w:World),(Instr.makeFunc fn first cap).run Tryz.prog w=.ok (.func fn first cap) w:=fun _ _ _ _=>rfl
 have ht':¬(600:Int)<(t.size:Int):=by omega
 go_enter_defers func36,ntmps36;go_wp2_with fail;obtain⟨V,hV⟩:∃ V,V=(w.alloc (.cells #[.slice none 0 0,.slice none 0 0] 92)).alloc (.cells #[.nilIface] 61):=⟨_,rfl⟩;have aC:V.heap.size=w.heap.size+1+1:=by rw[hV];simp
 have aA:V.heap[w.heap.size]?=some (.cells #[.slice none 0 0,.slice none 0 0] 92):=by rw[hV];exact Qac (Qam _ _)
 have au:V.heap[w.heap.size+1]?=some (.cells #[.nilIface] 61):=by rw[hV];exact Qaq (by simp)
 have ai:Below w.heap.size w V:=by rw[hV];exact((Below.refl _ _).alloc (Nat.le_refl _) _).alloc (by simp) _
 have az:∃ m,V.cell? ⟨1,0,none⟩=some (.int .i64 m):=by
  obtain⟨m,hm⟩:=av;exact⟨m,by rw[ai.cell (p:=⟨1,0,none⟩) (Qau hm)];exact hm⟩
 rw[<-hV];clear hV;refine(Qk3 t V ht az).mono ?_;rintro e w1 ⟨mc,mt,pr,pt,pf,p1,k1,p2,k2,p3,k3,rfl,ap,ao,ak,ad⟩;rw[aC]at ap ao ak ad;have ac:=Qab ai;have aB:=Qab ap;have aE:=Qab ao;have aF:=Qab ak;have ax:w1.heap[w.heap.size]?=some (.cells #[.slice none 0 0,.slice none 0 0] 92):=by rw[ad.block _ (by omega)];exact aA
 have aw:w1.heap[w.heap.size+1]?=some (.cells #[.nilIface] 61):=by rw[ad.block _ (by omega)];exact au
 have ab:=Qab ad;have ar:=Qab ax;have aq:=Qab aw;have hz1:=ad.size;clear ai aA au az av ap ao ak ad ax aw;go_wp2_with fail;refine(QrD (w.heap.size+1+1) t mc mt pr pt pf p1 k1 p2 k2 p3 k3 w1 aB.o aE.o aF.o).mono ?_;rintro e w2 ⟨aa,⟨y,v,hy,rfl,hv⟩ | ⟨f,hf,⟨bb,hz,rfl,hcc⟩⟩⟩
 ·obtain⟨rv,lv,rfl,aj,ad⟩:=hv;have aG:=Qab aj;have aH:=Qab ad;obtain⟨ra,rn,rc,rfl⟩:=aj.form;obtain⟨la,ln,lc,rfl⟩:=ad.form;have ae:=QaI ar.o aa (by omega);have af:=QaI aq.o aa (by omega);have c0:w2.cell? ⟨w.heap.size,0,none⟩=some (.slice none 0 0):=Qaa ae 0;have c1:w2.cell? ⟨w.heap.size,1,none⟩=some (.slice none 0 0):=Qaa ae 1;have c2:w2.cell? ⟨w.heap.size+1,0,none⟩=some .nilIface:=Qaa af 0;have z1:=Qah ae;have z2:=Qah af;have ag:=Qab aa;have HY:=Qab hy;clear aa hy aj ad ae af;go_wp2;have hB2:Below w.heap.size w w2:=⟨ag.o.os.trans (ab.o.os.trans ac.o.os),ag.o.tape.trans (ab.o.tape.trans ac.o.tape),ag.o.output.trans (ab.o.output.trans ac.o.output),Nat.le_trans ac.o.size (Nat.le_trans ab.o.size ag.o.size),fun k hk=>by rw[ag.o.block k (by omega) (by omega),ab.o.block k (by omega),ac.o.block k hk]⟩;have ah:¬ fromB w1.heap.size w.heap.size:=by unfold fromB;omega
  have ay:¬ fromB w1.heap.size (w.heap.size+1):=by unfold fromB;omega
  have HFIN:Hid (Qxb (prL t.data.toList) w (.returned (.tuple #[.agg #[.slice ra rn rc,.slice la ln lc],.nilIface])) (((w2.setCell ⟨w.heap.size,0,none⟩ (.slice ra rn rc)).setCell ⟨w.heap.size,1,none⟩ (.slice la ln lc)).setCell ⟨w.heap.size+1,0,none⟩ .nilIface)):=⟨((hB2.setCell (Nat.le_refl _) _).setCell (Nat.le_refl _) _).setCell (by show w.heap.size<=w.heap.size+1;omega) _,Or.inl ⟨y,_,HY.o,rfl,⟨_,_,rfl,(((aG.o.keep (AbvX.set ah _ _)).keep (AbvX.set ah _ _)).keep (AbvX.set ay _ _)).weak (fun k hk _=>by unfold fromB at *;omega),blX.weak (QaV 7) (((aH.o.keep (QaV 7) (AbvX.set ah _ _)).keep (QaV 7) (AbvX.set ah _ _)).keep (QaV 7) (AbvX.set ay _ _)) (fun k hk _=>by unfold fromB at *;omega)⟩⟩⟩;refine leaves_cons (f:=57) (args:=#[.pointer (some ⟨w.heap.size,0,none⟩),.pointer (some ⟨w.heap.size+1,0,none⟩)]) (by simp) (by simp[go_sem]) ?_;refine(Qq6 ⟨w.heap.size,0,none⟩ ⟨w.heap.size+1,0,none⟩ _).mono ?_;rintro e u' aD ⟨rfl,rfl,rfl⟩;simp[Leaves,settle,results,results36,go_sem,c0,c1,c2];exact HFIN.o
 ·have ae:=QaI ar.o aa (by omega);have af:=QaI aq.o aa (by omega);have c0:w2.cell? ⟨w.heap.size,0,none⟩=some (.slice none 0 0):=Qaa ae 0;have c1:w2.cell? ⟨w.heap.size,1,none⟩=some (.slice none 0 0):=Qaa ae 1;have c2:w2.cell? ⟨w.heap.size+1,0,none⟩=some .nilIface:=Qaa af 0;have z1:=Qah ae;have z2:=Qah af;have hB2:Below w.heap.size w w2:=⟨aa.os.trans (ab.o.os.trans ac.o.os),aa.tape.trans (ab.o.tape.trans ac.o.tape),aa.output.trans (ab.o.output.trans ac.o.output),Nat.le_trans ac.o.size (Nat.le_trans ab.o.size aa.size),fun k hk=>by rw[aa.block k (by omega) (by omega),ab.o.block k (by omega),ac.o.block k hk]⟩
  have HFIN:Hid (Qxb (prL t.data.toList) w (.returned (.tuple #[.agg #[.slice none 0 0,.slice none 0 0],.iface 76 (.pointer (some ⟨bb,0,none⟩))])) (((w2.setCell ⟨w.heap.size,0,none⟩ (.slice none 0 0)).setCell ⟨w.heap.size,1,none⟩ (.slice none 0 0)).setCell ⟨w.heap.size+1,0,none⟩ (.iface 76 (.pointer (some ⟨bb,0,none⟩))))):=⟨((hB2.setCell (Nat.le_refl _) _).setCell (Nat.le_refl _) _).setCell (by show w.heap.size≤w.heap.size+1;omega) _,Or.inr ⟨f,bb,hf,rfl,by omega,by
   rw[Below.heap_setCell _ _ _ _ (show bb≠w.heap.size+1 by omega),Below.heap_setCell _ _ _ _ (show bb≠w.heap.size by omega),Below.heap_setCell _ _ _ _ (show bb≠w.heap.size by omega)]
   exact hcc⟩⟩
  refine leaves_cons (f:=57) (args:=#[.pointer (some ⟨w.heap.size,0,none⟩),.pointer (some ⟨w.heap.size+1,0,none⟩)]) (by simp) (by simp[go_sem]) ?_;refine(Qi2 w.heap.size (w.heap.size+1) _ _ _ ⟨bb,0,none⟩ [] _ c0 c1 c2 z1 z2 (by omega)).mono ?_;rintro e u' aD ⟨rfl,rfl,rfl⟩;simp[Leaves,settle,results,results36,go_sem,c0,c1,c2];exact HFIN.o
theorem Qrk(t:ByteArray)(w:World)(ht:600<t.size) :
 Calls Tryz.prog 36 #[.string t] w fun e w'=>e=.returned (.tuple #[.agg #[.slice none 0 0,.slice none 0 0],.iface 30 (.int .i64 1)])/\Below w.heap.size w w':=by
 have hmf:∀(fn:Fn) (first cap:Array Value) (w:World),(Instr.makeFunc fn first cap).run Tryz.prog w=.ok (.func fn first cap) w:=fun _ _ _ _=>rfl
 have ht':(600:Int)<(t.size:Int):=by omega
 go_enter_defers func36,ntmps36;go_wp2;have hB:Below w.heap.size w ((w.alloc (.cells #[.slice none 0 0,.slice none 0 0] 92)).alloc (.cells #[.iface 30 (.int .i64 1)] 61)):=((Below.refl _ _).alloc (Nat.le_refl _) _).alloc (by simp) _;have HB:=Qab hB;clear hB;simp[bodyPostD,Leaves,settle,results,results36,go_sem];exact HB.o
def QxD (r:Except Flt (List (L8)×List (QdT 7))) (w:World) (e:Ending) (w':World):Prop:=
 Below w.heap.size w w'∧((∃ y g rv lv,r=.ok y∧e=.returned (.tuple #[.pointer (some ⟨g,0,none⟩),.nilIface])∧w.heap.size≤g∧w'.heap[g]?=some (.cells #[rv,lv] 96)∧QlU (fromB w.heap.size) y.1 w' rv∧blX (fromB w.heap.size) (Qji 7) y.2 w' lv)∨(∃ f bb,r=.error f∧e=.returned (.tuple #[.pointer none,.iface 76 (.pointer (some ⟨bb,0,none⟩))])∧w.heap.size≤bb∧w'.heap[bb]?=some (.cells #[.int .i64 f.err,.int .i64 f.pos] 81)))
theorem Qnr(t:ByteArray)(w:World)(ht:t.size<=600)(ai:∃ m,w.cell? ⟨1,0,none⟩=some (.int .i64 m)) :
 Calls Tryz.prog 23 #[.string t] w (QxD (prL t.data.toList) w):=by
 go_enter func23,ntmps23;go_wp2_with fail;refine(Qog t w ht ai).mono ?_;rintro e w1 ⟨aa,⟨y,tv,hy,rfl,hv⟩ | ⟨f,bb,hf,rfl,hz,ae⟩⟩
 ·obtain⟨rv,lv,rfl,ab,ac⟩:=hv;have HB:=Qab aa;have HY:=Qab hy;have ah:=Qab ab;have ag:=Qab ac;obtain⟨ra,rn,rc,rfl⟩:=ab.form;obtain⟨la,ln,lc,rfl⟩:=ac.form;have hz:=aa.size;clear aa hy ab ac;go_wp2;refine bodyPost_ret (v:=.tuple #[.pointer (some ⟨w1.heap.size+1,0,none⟩),.nilIface]) (by simp[results,results23,go_sem]) rfl ?_
  have ad:∀ X,AbvX X w1 ((w1.alloc (.cells #[.slice ra rn rc,.slice la ln lc] 92)).alloc (.cells #[.slice ra rn rc,.slice la ln lc] 96)):=fun X k _ hk=>by
   rw[Below.heap_alloc _ _ _ (by simp;omega),Below.heap_alloc _ _ _ hk]
  exact⟨(HB.o.alloc hz _).alloc (by simp;omega) _,Or.inl ⟨y,_,_,_,HY.o,rfl,by omega,Qaq (by simp),ah.o.keep (ad _),ag.o.keep (QaV 7) (ad _)⟩⟩
 ·have HB:=Qab aa;have HF:=Qab hf;have HC:=Qab ae;have af:=aa.size;clear aa hf ae;go_wp2;refine bodyPost_ret (v:=.tuple #[.pointer none,.iface 76 (.pointer (some ⟨bb,0,none⟩))]) (by simp[results,results23,go_sem]) rfl ?_;exact⟨HB.o.alloc af _,Or.inr ⟨f,bb,HF.o,rfl,hz,Qac HC.o⟩⟩
end
section
open Go.RowKit Go.Extern.Stop Go.Stop Go.Extern
theorem Tryz.valueOfFF(t:Addr)(w:World):(ReflectliteValue.unpack (.iface 78 (.pointer (some t)))).run Tryz.prog w
 = .ok (.agg #[.pointer (some ⟨7,78,none⟩),.pointer (some ⟨w.heap.size,0,none⟩),.int .u64 150]) (w.alloc (.cells #[.pointer (some t)] 78)):=by kernel_rfl
theorem Tryz.valueOfNN(t:Addr)(w:World):(ReflectliteValue.unpack (.iface 82 (.pointer (some t)))).run Tryz.prog w
 = .ok (.agg #[.pointer (some ⟨7,82,none⟩),.pointer (some ⟨w.heap.size,0,none⟩),.int .u64 150]) (w.alloc (.cells #[.pointer (some t)] 82)):=by kernel_rfl
theorem Tryz.typeFF(a:Addr)(w:World):(ReflectliteValue.methodAny (ReflectliteValue.valueError "reflectlite.Value.Type" 0) (fun t _ _ _=>ReflectliteType.toType t) #[.agg #[.pointer (some ⟨7,78,none⟩),.pointer (some a),.int .u64 150]]).run Tryz.prog w
 = .ok (.iface 160 (.agg #[.pointer (some ⟨7,78,none⟩)])) w:=by kernel_rfl
theorem Tryz.typeNN(a:Addr)(w:World):(ReflectliteValue.methodAny (ReflectliteValue.valueError "reflectlite.Value.Type" 0) (fun t _ _ _=>ReflectliteType.toType t) #[.agg #[.pointer (some ⟨7,82,none⟩),.pointer (some a),.int .u64 150]]).run Tryz.prog w
 = .ok (.iface 160 (.agg #[.pointer (some ⟨7,82,none⟩)])) w:=by kernel_rfl
theorem Tryz.methodKind(h:Value)(w:World):(Go.method 534 160 (.agg #[h]) "Kind").run Tryz.prog w=.ok (306,h) w:=by kernel_rfl
theorem Tryz.kindFF(w:World):((ReflectliteType.abiMethod fun t=>Functor.map (fun a:Nat=>Value.int IntKind.u8 (a:Int)) (Rtype.kind t)) #[.pointer (some ⟨7,78,none⟩)]).run Tryz.prog w=.ok (.int .u8 22) w:=by kernel_rfl
theorem Tryz.kindF(w:World):((ReflectliteType.abiMethod fun t=>Functor.map (fun a:Nat=>Value.int IntKind.u8 (a:Int)) (Rtype.kind t)) #[.pointer (some ⟨7,76,none⟩)]).run Tryz.prog w=.ok (.int .u8 22) w:=by kernel_rfl
theorem Tryz.kindNN(w:World):((ReflectliteType.abiMethod fun t=>Functor.map (fun a:Nat=>Value.int IntKind.u8 (a:Int)) (Rtype.kind t)) #[.pointer (some ⟨7,82,none⟩)]).run Tryz.prog w=.ok (.int .u8 22) w:=by kernel_rfl
theorem Tryz.kindN(w:World):((ReflectliteType.abiMethod fun t=>Functor.map (fun a:Nat=>Value.int IntKind.u8 (a:Int)) (Rtype.kind t)) #[.pointer (some ⟨7,30,none⟩)]).run Tryz.prog w=.ok (.int .u8 2) w:=by kernel_rfl
theorem rlm(z:Sem Value)(f:TypeId->Addr->Nat->Nat->Sem Value)(v:Value) :
 ReflectliteValue.method z f #[v]=(do match <-ReflectliteValue.parts v with|none=>z|some (t,a,fl)=>f t a fl (fl % 32)):=rfl
theorem Tryz.partsFF(a:Addr)(w:World):(ReflectliteValue.parts (.agg #[.pointer (some ⟨7,78,none⟩),.pointer (some a),.int .u64 150])).run Tryz.prog w=.ok (some (78,a,150)) w:=by kernel_rfl
theorem Tryz.partsNN(a:Addr)(w:World):(ReflectliteValue.parts (.agg #[.pointer (some ⟨7,82,none⟩),.pointer (some a),.int .u64 150])).run Tryz.prog w=.ok (some (82,a,150)) w:=by kernel_rfl
theorem Tryz.isNilFF(a p:Addr)(W:World)(ha:W.cell? a=some (.pointer (some p))) :
 (ReflectliteValue.method (ReflectliteValue.valueError "reflectlite.Value.IsNil" 0) ReflectliteValue.isNil #[.agg #[.pointer (some ⟨7,78,none⟩),.pointer (some a),.int .u64 150]]).run Tryz.prog W=.ok (.bool false) W:=by
 rw[rlm];simp only[Sem.run_bind,Tryz.partsFF,Result.andThen];simp[ReflectliteValue.isNil,loadVar,isAgg,underlying,underlying78,ha,Result.andThen]
theorem Tryz.isNilNN(a p:Addr)(W:World)(ha:W.cell? a=some (.pointer (some p))) :
 (ReflectliteValue.method (ReflectliteValue.valueError "reflectlite.Value.IsNil" 0) ReflectliteValue.isNil #[.agg #[.pointer (some ⟨7,82,none⟩),.pointer (some a),.int .u64 150]]).run Tryz.prog W=.ok (.bool false) W:=by
 rw[rlm];simp only[Sem.run_bind,Tryz.partsNN,Result.andThen];simp[ReflectliteValue.isNil,loadVar,isAgg,underlying,underlying82,ha,Result.andThen]
theorem Tryz.methodElem(h:Value)(w:World):(Go.method 534 160 (.agg #[h]) "Elem").run Tryz.prog w=.ok (347,.agg #[h]) w:=by kernel_rfl
theorem Tryz.methodImplements(h:Value)(w:World):(Go.method 534 160 (.agg #[h]) "Implements").run Tryz.prog w=.ok (348,.agg #[h]) w:=by kernel_rfl
theorem Tryz.methodAssignableTo(h:Value)(w:World):(Go.method 534 160 (.agg #[h]) "AssignableTo").run Tryz.prog w=.ok (345,.agg #[h]) w:=by kernel_rfl
theorem Tryz.methodComparable(h:Value)(w:World):(Go.method 534 160 (.agg #[h]) "Comparable").run Tryz.prog w=.ok (346,.agg #[h]) w:=by kernel_rfl
theorem Tryz.elemFF(w:World):(ReflectliteType.method ReflectliteType.elem #[.agg #[.pointer (some ⟨7,78,none⟩)]]).run Tryz.prog w=.ok (.iface 160 (.agg #[.pointer (some ⟨7,76,none⟩)])) w:=by kernel_rfl
theorem Tryz.elemNN(w:World):(ReflectliteType.method ReflectliteType.elem #[.agg #[.pointer (some ⟨7,82,none⟩)]]).run Tryz.prog w=.ok (.iface 160 (.agg #[.pointer (some ⟨7,30,none⟩)])) w:=by kernel_rfl
theorem Tryz.implementsF(w:World):(ReflectliteType.relation "Implements" ReflectliteType.implements_ #[.agg #[.pointer (some ⟨7,76,none⟩)],.iface 160 (.agg #[.pointer (some ⟨7,61,none⟩)])]).run Tryz.prog w=.ok (.bool true) w:=by kernel_rfl
theorem Tryz.implementsN(w:World):(ReflectliteType.relation "Implements" ReflectliteType.implements_ #[.agg #[.pointer (some ⟨7,30,none⟩)],.iface 160 (.agg #[.pointer (some ⟨7,61,none⟩)])]).run Tryz.prog w=.ok (.bool true) w:=by kernel_rfl
theorem Tryz.typeOfF(v:Value)(w:World):(ReflectliteType.typeOf #[.iface 76 v]).run Tryz.prog w=.ok (.iface 160 (.agg #[.pointer (some ⟨7,76,none⟩)])) w:=by kernel_rfl
theorem Tryz.typeOfN(v:Value)(w:World):(ReflectliteType.typeOf #[.iface 30 v]).run Tryz.prog w=.ok (.iface 160 (.agg #[.pointer (some ⟨7,30,none⟩)])) w:=by kernel_rfl
theorem Tryz.assignFF(w:World):(ReflectliteType.relation "AssignableTo" ReflectliteType.assignableTo #[.agg #[.pointer (some ⟨7,76,none⟩)],.iface 160 (.agg #[.pointer (some ⟨7,76,none⟩)])]).run Tryz.prog w=.ok (.bool true) w:=by kernel_rfl
theorem Tryz.assignNN(w:World):(ReflectliteType.relation "AssignableTo" ReflectliteType.assignableTo #[.agg #[.pointer (some ⟨7,30,none⟩)],.iface 160 (.agg #[.pointer (some ⟨7,30,none⟩)])]).run Tryz.prog w=.ok (.bool true) w:=by kernel_rfl
theorem Tryz.assignNF(w:World):(ReflectliteType.relation "AssignableTo" ReflectliteType.assignableTo #[.agg #[.pointer (some ⟨7,30,none⟩)],.iface 160 (.agg #[.pointer (some ⟨7,76,none⟩)])]).run Tryz.prog w=.ok (.bool false) w:=by kernel_rfl
theorem Tryz.valueOfF(e:Addr)(w:World):(ReflectliteValue.unpack (.iface 76 (.pointer (some e)))).run Tryz.prog w
 = .ok (.agg #[.pointer (some ⟨7,76,none⟩),.pointer (some ⟨w.heap.size,0,none⟩),.int .u64 150]) (w.alloc (.cells #[.pointer (some e)] 76)):=by kernel_rfl
theorem Tryz.valueOfN(n:Int)(w:World):(ReflectliteValue.unpack (.iface 30 (.int .i64 n))).run Tryz.prog w
 = .ok (.agg #[.pointer (some ⟨7,30,none⟩),.pointer (some ⟨w.heap.size,0,none⟩),.int .u64 130]) (w.alloc (.cells #[.int .i64 n] 30)):=by kernel_rfl
theorem Tryz.elemOfFF(w:World):(Rtype.elem? 78).run Tryz.prog w=.ok (some 76) w:=by kernel_rfl
theorem Tryz.elemOfNN(w:World):(Rtype.elem? 82).run Tryz.prog w=.ok (some 30) w:=by kernel_rfl
theorem Tryz.mkF(p:Addr)(w:World):(ReflectliteValue.mk 76 p ReflectliteValue.flagAddr).run Tryz.prog w=.ok (.agg #[.pointer (some ⟨7,76,none⟩),.pointer (some p),.int .u64 406]) w:=by kernel_rfl
theorem Tryz.mkN(p:Addr)(w:World):(ReflectliteValue.mk 30 p ReflectliteValue.flagAddr).run Tryz.prog w=.ok (.agg #[.pointer (some ⟨7,30,none⟩),.pointer (some p),.int .u64 386]) w:=by kernel_rfl
theorem Tryz.elemVFF(a p:Addr)(W:World)(ha:W.cell? a=some (.pointer (some p))) :
 (ReflectliteValue.method (ReflectliteValue.valueError "reflectlite.Value.Elem" 0) ReflectliteValue.elem #[.agg #[.pointer (some ⟨7,78,none⟩),.pointer (some a),.int .u64 150]]).run Tryz.prog W
   = .ok (.agg #[.pointer (some ⟨7,76,none⟩),.pointer (some p),.int .u64 406]) W:=by
 rw[rlm];simp only[Sem.run_bind,Tryz.partsFF,Result.andThen];simp[ReflectliteValue.elem,loadVar,isAgg,underlying,underlying78,ha,Result.andThen,Tryz.elemOfFF,Tryz.mkF]
theorem Tryz.elemVNN(a p:Addr)(W:World)(ha:W.cell? a=some (.pointer (some p))) :
 (ReflectliteValue.method (ReflectliteValue.valueError "reflectlite.Value.Elem" 0) ReflectliteValue.elem #[.agg #[.pointer (some ⟨7,82,none⟩),.pointer (some a),.int .u64 150]]).run Tryz.prog W
   = .ok (.agg #[.pointer (some ⟨7,30,none⟩),.pointer (some p),.int .u64 386]) W:=by
 rw[rlm];simp only[Sem.run_bind,Tryz.partsNN,Result.andThen];simp[ReflectliteValue.elem,loadVar,isAgg,underlying,underlying82,ha,Result.andThen,Tryz.elemOfNN,Tryz.mkN]
theorem rls (v x:Value):ReflectliteValue.set #[v,x]=(do
 let (some (dst,a,fl),some (src,b,_)):=(<-ReflectliteValue.parts v,<-ReflectliteValue.parts x)
  |unsupported (.noEntry "extern/(internal/reflectlite.Value).Set.zeroValue")
 if fl / ReflectliteValue.flagAddr % 2==0 then unsupported (.noEntry "extern/(internal/reflectlite.Value).Set.unaddressable")
 let val <-loadVar src b
 if <-Rtype.directlyAssignable dst src then storeVar dst a val
 else if <-Rtype.implements dst src then
  if(<-Rtype.kind src)==20 then
   match val with
   | .nilIface=>unsupported (.noEntry "extern/reflectlite: a nil value of one interface type handed on as a value of another")
   |_=>storeVar dst a val
  else storeVar dst a (.iface src val)
 else panicString ("reflectlite.Set: value of type "++(<-Rtype.spelt src) ++ " is not assignable to type "++(<-Rtype.spelt dst))
 pure (.tuple #[])):=rfl
theorem Tryz.partsFa(a:Addr)(w:World):(ReflectliteValue.parts (.agg #[.pointer (some ⟨7,76,none⟩),.pointer (some a),.int .u64 406])).run Tryz.prog w=.ok (some (76,a,406)) w:=by kernel_rfl
theorem Tryz.partsF(a:Addr)(w:World):(ReflectliteValue.parts (.agg #[.pointer (some ⟨7,76,none⟩),.pointer (some a),.int .u64 150])).run Tryz.prog w=.ok (some (76,a,150)) w:=by kernel_rfl
theorem Tryz.partsNa(a:Addr)(w:World):(ReflectliteValue.parts (.agg #[.pointer (some ⟨7,30,none⟩),.pointer (some a),.int .u64 386])).run Tryz.prog w=.ok (some (30,a,386)) w:=by kernel_rfl
theorem Tryz.partsN(a:Addr)(w:World):(ReflectliteValue.parts (.agg #[.pointer (some ⟨7,30,none⟩),.pointer (some a),.int .u64 130])).run Tryz.prog w=.ok (some (30,a,130)) w:=by kernel_rfl
theorem Tryz.directF(w:World):(Rtype.directlyAssignable 76 76).run Tryz.prog w=.ok true w:=by kernel_rfl
theorem Tryz.directN(w:World):(Rtype.directlyAssignable 30 30).run Tryz.prog w=.ok true w:=by kernel_rfl
theorem Tryz.setF(ta b e:Addr)(aa:Value)(W:World)(hb:W.cell? b=some (.pointer (some e)))(ht:W.cell? ta=some aa)(hf:W.frozen? ta=false) :
 (ReflectliteValue.set #[.agg #[.pointer (some ⟨7,76,none⟩),.pointer (some ta),.int .u64 406],.agg #[.pointer (some ⟨7,76,none⟩),.pointer (some b),.int .u64 150]]).run Tryz.prog W
   = .ok (.tuple #[]) (W.setCell ta (.pointer (some e))):=by
 rw[rls];simp only[Sem.run_bind,Tryz.partsFa,Tryz.partsF,Result.andThen];simp[ReflectliteValue.flagAddr,loadVar,isAgg,underlying,underlying76,hb,Result.andThen,Tryz.directF,storeVar,Value.cells,storeCells,Addr.add];rw[run_store Tryz.prog W ta _ _ (by rfl)];simp[ht,hf]
theorem Tryz.setN(ta b:Addr)(n:Int)(aa:Value)(W:World)(hb:W.cell? b=some (.int .i64 n))(ht:W.cell? ta=some aa)(hf:W.frozen? ta=false) :
 (ReflectliteValue.set #[.agg #[.pointer (some ⟨7,30,none⟩),.pointer (some ta),.int .u64 386],.agg #[.pointer (some ⟨7,30,none⟩),.pointer (some b),.int .u64 130]]).run Tryz.prog W
   = .ok (.tuple #[]) (W.setCell ta (.int .i64 n)):=by
 rw[rls];simp only[Sem.run_bind,Tryz.partsNa,Tryz.partsN,Result.andThen];simp[ReflectliteValue.flagAddr,loadVar,isAgg,underlying,underlying30,hb,Result.andThen,Tryz.directN,storeVar,Value.cells,storeCells,Addr.add];rw[run_store Tryz.prog W ta _ _ (by rfl)];simp[ht,hf]
theorem Tryz.noAsN(v:Value)(xT:TypeId)(w:World):(Instr.typeAssert (.iface 30 v) xT 164 true).run Tryz.prog w=.ok (.tuple #[.nilIface,.bool false]) w:=run_typeAssert_lacksB underlying164 (by kernel_rfl) (by kernel_rfl) v xT w
theorem Tryz.noUnwrapN(v:Value)(xT:TypeId)(w:World):(Instr.typeAssert (.iface 30 v) xT 167 true).run Tryz.prog w=.ok (.tuple #[.nilIface,.bool false]) w:=run_typeAssert_lacksB underlying167 (by kernel_rfl) (by kernel_rfl) v xT w
theorem Tryz.noUnwrapsN(v:Value)(xT:TypeId)(w:World):(Instr.typeAssert (.iface 30 v) xT 168 true).run Tryz.prog w=.ok (.tuple #[.nilIface,.bool false]) w:=run_typeAssert_lacksB underlying168 (by kernel_rfl) (by kernel_rfl) v xT w
theorem Tryz.noIsF(v:Value)(xT:TypeId)(w:World):(Instr.typeAssert (.iface 76 v) xT 171 true).run Tryz.prog w=.ok (.tuple #[.nilIface,.bool false]) w:=run_typeAssert_lacksB underlying171 (by kernel_rfl) (by kernel_rfl) v xT w
theorem Tryz.hasUnwrapF(v:Value)(xT:TypeId)(w:World):(Instr.typeAssert (.iface 76 v) xT 167 true).run Tryz.prog w=.ok (.tuple #[.iface 76 v,.bool true]) w:=run_typeAssert_hasB underlying167 (by kernel_rfl) v xT w
theorem Tryz.methodUnwrap(v:Value)(w:World):(Go.method 534 76 v "Unwrap").run Tryz.prog w=.ok (339,v) w:=by kernel_rfl
theorem Tryz.compN:(Tryz.prog.info? 30).map (·.comparable)=some true:=by kernel_rfl
theorem Qmf(n:Int)(w:World):(binOp .eql 61 (.iface 30 (.int .i64 n)) (.iface 30 (.int .i64 n))).run Tryz.prog w=.ok (.bool true) w:=by
 obtain⟨i,hi,aa⟩:=Option.map_eq_some_iff.1 Tryz.compN
 have h:∀ d:Nat,(Op.equalIn (d+2) 61 (.iface 30 (.int .i64 n)) (.iface 30 (.int .i64 n))).run Tryz.prog w=.ok true w:=fun d=>by
  simp[Op.equalIn,run_underlying underlying61,run_underlying underlying30,typeInfo,hi,aa]
 simp only[binOp];simp[Op.equal,Op.maxDepth,h 9998]
def Qfv (w:World):Prop:=w.cell? ⟨0,0,none⟩=some (.iface 160 (.agg #[.pointer (some ⟨7,61,none⟩)]))
theorem Qcz{w:World}{a:Addr}{v:Value}(h:w.cell? a=some v):a.block<w.heap.size:=by
 rcases Nat.lt_or_ge a.block w.heap.size with h'|h'
 ·exact h'
 ·simp[World.cell?,Array.getElem?_eq_none h']at h
theorem QwH(e t:Addr)(ab:Value)(w:World)(hg:Qfv w)(ac:w.cell? t=some ab)(ae:w.frozen? t=false) :
 Calls Tryz.prog 29 #[.iface 76 (.pointer (some e)),.iface 78 (.pointer (some t))] w fun ev w'=>ev=.returned (.bool true)/\w'=((((w.alloc (.cells #[.pointer (some t)] 78)).alloc (.cells #[.pointer (some ⟨7,78,none⟩),.pointer (some ⟨w.heap.size,0,none⟩),.int .u64 150] 113)).alloc (.cells #[.pointer (some ⟨7,78,none⟩),.pointer (some ⟨w.heap.size,0,none⟩),.int .u64 150] 113)).alloc (.cells #[.pointer (some e)] 76)).setCell t (.pointer (some e)):=by
 unfold Qfv at hg;have h6:=@run_callFunc_extern Tryz.prog 45 _ (fun args=>ReflectliteValue.unpack (args.getD 0 (.tuple #[]))) func45 (by kernel_rfl) (by kernel_rfl) (by kernel_rfl) (by kernel_rfl);have h7:=@run_callFunc_extern Tryz.prog 46 _ (ReflectliteValue.methodAny (ReflectliteValue.valueError "reflectlite.Value.Type" 0) (fun t _ _ _=>ReflectliteType.toType t)) func46 (by kernel_rfl) (by kernel_rfl) (by kernel_rfl) (by kernel_rfl);have h8:=@run_callFunc_extern Tryz.prog 47 _ (ReflectliteValue.method (ReflectliteValue.valueError "reflectlite.Value.IsNil" 0) ReflectliteValue.isNil) func47 (by kernel_rfl) (by kernel_rfl) (by kernel_rfl) (by kernel_rfl);have h27:=@run_callFunc_extern Tryz.prog 306 _ (ReflectliteType.abiMethod fun t=>do pure (.int .u8 (<-Rtype.kind t))) func306 (by kernel_rfl) (by kernel_rfl) (by kernel_rfl) (by kernel_rfl);have h37:=@run_callFunc_extern Tryz.prog 347 _ (ReflectliteType.method ReflectliteType.elem) func347 (by kernel_rfl) (by kernel_rfl) (by kernel_rfl) (by kernel_rfl);have h38:=@run_callFunc_extern Tryz.prog 348 _ (ReflectliteType.relation "Implements" ReflectliteType.implements_) func348 (by kernel_rfl) (by kernel_rfl) (by kernel_rfl) (by kernel_rfl);have h10:=@run_callFunc_extern Tryz.prog 49 _ ReflectliteType.typeOf func49 (by kernel_rfl) (by kernel_rfl) (by kernel_rfl) (by kernel_rfl);have h35:=@run_callFunc_extern Tryz.prog 345 _ (ReflectliteType.relation "AssignableTo" ReflectliteType.assignableTo) func345 (by kernel_rfl) (by kernel_rfl) (by kernel_rfl) (by kernel_rfl);have h11:=@run_callFunc_extern Tryz.prog 78 _ (ReflectliteValue.method (ReflectliteValue.valueError "reflectlite.Value.Elem" 0) ReflectliteValue.elem) func78 (by kernel_rfl) (by kernel_rfl) (by kernel_rfl) (by kernel_rfl);have h12:=@run_callFunc_extern Tryz.prog 79 _ ReflectliteValue.set func79 (by kernel_rfl) (by kernel_rfl) (by kernel_rfl) (by kernel_rfl);have tO:=Tryz.typeOfF;have mA:=Tryz.methodAssignableTo;have a25:=Tryz.assignFF;have v25:=Tryz.valueOfF;have f6:=Tryz.valueOfFF;have f7:=Tryz.typeFF;have mK:=Tryz.methodKind;have mE:=Tryz.methodElem;have mI:=Tryz.methodImplements;have k27:=Tryz.kindFF;have k25:=Tryz.kindF;have e27:=Tryz.elemFF;have i25:=Tryz.implementsF;have n8:=Tryz.isNilFF ⟨w.heap.size,0,none⟩ t ((w.alloc (.cells #[.pointer (some t)] 78)).alloc (.cells #[.pointer (some ⟨7,78,none⟩),.pointer (some ⟨w.heap.size,0,none⟩),.int .u64 150] 113)) (by simp);have ad:0<w.heap.size:=Qcz hg
 have hg2:((w.alloc (.cells #[.pointer (some t)] 78)).alloc (.cells #[.pointer (some ⟨7,78,none⟩),.pointer (some ⟨w.heap.size,0,none⟩),.int .u64 150] 113)).cell? ⟨0,0,none⟩=some (.iface 160 (.agg #[.pointer (some ⟨7,61,none⟩)])):=by
  rw[World.cell?_alloc_lt _ _ ⟨0,0,none⟩ (by simp),World.cell?_alloc_lt _ _ ⟨0,0,none⟩ ad];exact hg
 have aa:t.block<w.heap.size:=Qcz ac;have el:=Tryz.elemVFF ⟨w.heap.size,0,none⟩ t (((w.alloc (.cells #[.pointer (some t)] 78)).alloc (.cells #[.pointer (some ⟨7,78,none⟩),.pointer (some ⟨w.heap.size,0,none⟩),.int .u64 150] 113)).alloc (.cells #[.pointer (some ⟨7,78,none⟩),.pointer (some ⟨w.heap.size,0,none⟩),.int .u64 150] 113)) (by rw[World.cell?_alloc_lt _ _ ⟨w.heap.size,0,none⟩ (by simp;omega)];simp)
 have st:=Tryz.setF t ⟨w.heap.size+1+1+1,0,none⟩ e ab ((((w.alloc (.cells #[.pointer (some t)] 78)).alloc (.cells #[.pointer (some ⟨7,78,none⟩),.pointer (some ⟨w.heap.size,0,none⟩),.int .u64 150] 113)).alloc (.cells #[.pointer (some ⟨7,78,none⟩),.pointer (some ⟨w.heap.size,0,none⟩),.int .u64 150] 113)).alloc (.cells #[.pointer (some e)] 76))
  (by rw[World.cell?_alloc_at _ _ _ _ (by simp)];rfl) (by rw[World.cell?_alloc_lt _ _ t (by simp;omega),World.cell?_alloc_lt _ _ t (by simp;omega),World.cell?_alloc_lt _ _ t (by simp;omega),World.cell?_alloc_lt _ _ t aa];exact ac) (by rw[World.frozen?_alloc_old _ _ t (by simp;omega),World.frozen?_alloc_old _ _ t (by simp;omega),World.frozen?_alloc_old _ _ t (by simp;omega),World.frozen?_alloc_old _ _ t (Nat.ne_of_lt aa)];exact ae)
 go_enter func29,ntmps29;go_wp2;refine wp_loop_rounds 1 ?_;rw[rounds_succ];go_wp2;go_ret;exact⟨rfl,rfl⟩
theorem Qwl(n:Int)(t:Addr)(ab:Value)(w:World)(hg:Qfv w)(ac:w.cell? t=some ab)(ae:w.frozen? t=false) :
 Calls Tryz.prog 29 #[.iface 30 (.int .i64 n),.iface 82 (.pointer (some t))] w fun ev w'=>ev=.returned (.bool true)/\w'=((((w.alloc (.cells #[.pointer (some t)] 82)).alloc (.cells #[.pointer (some ⟨7,82,none⟩),.pointer (some ⟨w.heap.size,0,none⟩),.int .u64 150] 113)).alloc (.cells #[.pointer (some ⟨7,82,none⟩),.pointer (some ⟨w.heap.size,0,none⟩),.int .u64 150] 113)).alloc (.cells #[.int .i64 n] 30)).setCell t (.int .i64 n):=by
 unfold Qfv at hg;have h6:=@run_callFunc_extern Tryz.prog 45 _ (fun args=>ReflectliteValue.unpack (args.getD 0 (.tuple #[]))) func45 (by kernel_rfl) (by kernel_rfl) (by kernel_rfl) (by kernel_rfl);have h7:=@run_callFunc_extern Tryz.prog 46 _ (ReflectliteValue.methodAny (ReflectliteValue.valueError "reflectlite.Value.Type" 0) (fun t _ _ _=>ReflectliteType.toType t)) func46 (by kernel_rfl) (by kernel_rfl) (by kernel_rfl) (by kernel_rfl);have h8:=@run_callFunc_extern Tryz.prog 47 _ (ReflectliteValue.method (ReflectliteValue.valueError "reflectlite.Value.IsNil" 0) ReflectliteValue.isNil) func47 (by kernel_rfl) (by kernel_rfl) (by kernel_rfl) (by kernel_rfl);have h27:=@run_callFunc_extern Tryz.prog 306 _ (ReflectliteType.abiMethod fun t=>do pure (.int .u8 (<-Rtype.kind t))) func306 (by kernel_rfl) (by kernel_rfl) (by kernel_rfl) (by kernel_rfl);have h37:=@run_callFunc_extern Tryz.prog 347 _ (ReflectliteType.method ReflectliteType.elem) func347 (by kernel_rfl) (by kernel_rfl) (by kernel_rfl) (by kernel_rfl);have h38:=@run_callFunc_extern Tryz.prog 348 _ (ReflectliteType.relation "Implements" ReflectliteType.implements_) func348 (by kernel_rfl) (by kernel_rfl) (by kernel_rfl) (by kernel_rfl);have h10:=@run_callFunc_extern Tryz.prog 49 _ ReflectliteType.typeOf func49 (by kernel_rfl) (by kernel_rfl) (by kernel_rfl) (by kernel_rfl);have h35:=@run_callFunc_extern Tryz.prog 345 _ (ReflectliteType.relation "AssignableTo" ReflectliteType.assignableTo) func345 (by kernel_rfl) (by kernel_rfl) (by kernel_rfl) (by kernel_rfl);have h11:=@run_callFunc_extern Tryz.prog 78 _ (ReflectliteValue.method (ReflectliteValue.valueError "reflectlite.Value.Elem" 0) ReflectliteValue.elem) func78 (by kernel_rfl) (by kernel_rfl) (by kernel_rfl) (by kernel_rfl);have h12:=@run_callFunc_extern Tryz.prog 79 _ ReflectliteValue.set func79 (by kernel_rfl) (by kernel_rfl) (by kernel_rfl) (by kernel_rfl);have tO:=Tryz.typeOfN;have mA:=Tryz.methodAssignableTo;have a25:=Tryz.assignNN;have v25:=Tryz.valueOfN;have f6:=Tryz.valueOfNN;have f7:=Tryz.typeNN;have mK:=Tryz.methodKind;have mE:=Tryz.methodElem;have mI:=Tryz.methodImplements;have k27:=Tryz.kindNN;have k25:=Tryz.kindN;have e27:=Tryz.elemNN;have i25:=Tryz.implementsN;have n8:=Tryz.isNilNN ⟨w.heap.size,0,none⟩ t ((w.alloc (.cells #[.pointer (some t)] 82)).alloc (.cells #[.pointer (some ⟨7,82,none⟩),.pointer (some ⟨w.heap.size,0,none⟩),.int .u64 150] 113)) (by simp);have ad:0<w.heap.size:=Qcz hg
 have hg2:((w.alloc (.cells #[.pointer (some t)] 82)).alloc (.cells #[.pointer (some ⟨7,82,none⟩),.pointer (some ⟨w.heap.size,0,none⟩),.int .u64 150] 113)).cell? ⟨0,0,none⟩=some (.iface 160 (.agg #[.pointer (some ⟨7,61,none⟩)])):=by
  rw[World.cell?_alloc_lt _ _ ⟨0,0,none⟩ (by simp),World.cell?_alloc_lt _ _ ⟨0,0,none⟩ ad];exact hg
 have aa:t.block<w.heap.size:=Qcz ac;have el:=Tryz.elemVNN ⟨w.heap.size,0,none⟩ t (((w.alloc (.cells #[.pointer (some t)] 82)).alloc (.cells #[.pointer (some ⟨7,82,none⟩),.pointer (some ⟨w.heap.size,0,none⟩),.int .u64 150] 113)).alloc (.cells #[.pointer (some ⟨7,82,none⟩),.pointer (some ⟨w.heap.size,0,none⟩),.int .u64 150] 113)) (by rw[World.cell?_alloc_lt _ _ ⟨w.heap.size,0,none⟩ (by simp;omega)];simp)
 have st:=Tryz.setN t ⟨w.heap.size+1+1+1,0,none⟩ n ab ((((w.alloc (.cells #[.pointer (some t)] 82)).alloc (.cells #[.pointer (some ⟨7,82,none⟩),.pointer (some ⟨w.heap.size,0,none⟩),.int .u64 150] 113)).alloc (.cells #[.pointer (some ⟨7,82,none⟩),.pointer (some ⟨w.heap.size,0,none⟩),.int .u64 150] 113)).alloc (.cells #[.int .i64 n] 30))
  (by rw[World.cell?_alloc_at _ _ _ _ (by simp)];rfl) (by rw[World.cell?_alloc_lt _ _ t (by simp;omega),World.cell?_alloc_lt _ _ t (by simp;omega),World.cell?_alloc_lt _ _ t (by simp;omega),World.cell?_alloc_lt _ _ t aa];exact ac) (by rw[World.frozen?_alloc_old _ _ t (by simp;omega),World.frozen?_alloc_old _ _ t (by simp;omega),World.frozen?_alloc_old _ _ t (by simp;omega),World.frozen?_alloc_old _ _ t (Nat.ne_of_lt aa)];exact ae)
 go_enter func29,ntmps29;go_wp2;refine wp_loop_rounds 1 ?_;rw[rounds_succ];go_wp2;go_ret;exact⟨rfl,rfl⟩
theorem QvD(n:Int)(t:Addr)(w:World)(hg:Qfv w) :
 Calls Tryz.prog 29 #[.iface 30 (.int .i64 n),.iface 78 (.pointer (some t))] w fun ev w'=>ev=.returned (.bool false)/\w'=(((w.alloc (.cells #[.pointer (some t)] 78)).alloc (.cells #[.pointer (some ⟨7,78,none⟩),.pointer (some ⟨w.heap.size,0,none⟩),.int .u64 150] 113)).alloc (.cells #[.pointer (some ⟨7,78,none⟩),.pointer (some ⟨w.heap.size,0,none⟩),.int .u64 150] 113)):=by
 unfold Qfv at hg;have h6:=@run_callFunc_extern Tryz.prog 45 _ (fun args=>ReflectliteValue.unpack (args.getD 0 (.tuple #[]))) func45 (by kernel_rfl) (by kernel_rfl) (by kernel_rfl) (by kernel_rfl);have h7:=@run_callFunc_extern Tryz.prog 46 _ (ReflectliteValue.methodAny (ReflectliteValue.valueError "reflectlite.Value.Type" 0) (fun t _ _ _=>ReflectliteType.toType t)) func46 (by kernel_rfl) (by kernel_rfl) (by kernel_rfl) (by kernel_rfl);have h8:=@run_callFunc_extern Tryz.prog 47 _ (ReflectliteValue.method (ReflectliteValue.valueError "reflectlite.Value.IsNil" 0) ReflectliteValue.isNil) func47 (by kernel_rfl) (by kernel_rfl) (by kernel_rfl) (by kernel_rfl);have h27:=@run_callFunc_extern Tryz.prog 306 _ (ReflectliteType.abiMethod fun t=>do pure (.int .u8 (<-Rtype.kind t))) func306 (by kernel_rfl) (by kernel_rfl) (by kernel_rfl) (by kernel_rfl);have h37:=@run_callFunc_extern Tryz.prog 347 _ (ReflectliteType.method ReflectliteType.elem) func347 (by kernel_rfl) (by kernel_rfl) (by kernel_rfl) (by kernel_rfl);have h38:=@run_callFunc_extern Tryz.prog 348 _ (ReflectliteType.relation "Implements" ReflectliteType.implements_) func348 (by kernel_rfl) (by kernel_rfl) (by kernel_rfl) (by kernel_rfl);have h10:=@run_callFunc_extern Tryz.prog 49 _ ReflectliteType.typeOf func49 (by kernel_rfl) (by kernel_rfl) (by kernel_rfl) (by kernel_rfl);have h35:=@run_callFunc_extern Tryz.prog 345 _ (ReflectliteType.relation "AssignableTo" ReflectliteType.assignableTo) func345 (by kernel_rfl) (by kernel_rfl) (by kernel_rfl) (by kernel_rfl);have tO:=Tryz.typeOfN;have mA:=Tryz.methodAssignableTo;have a25:=Tryz.assignNF;have f6:=Tryz.valueOfFF;have f7:=Tryz.typeFF;have mK:=Tryz.methodKind;have mE:=Tryz.methodElem;have mI:=Tryz.methodImplements;have k27:=Tryz.kindFF;have k25:=Tryz.kindF;have e27:=Tryz.elemFF;have i25:=Tryz.implementsF;have nA:=Tryz.noAsN;have nU:=Tryz.noUnwrapN;have nV:=Tryz.noUnwrapsN;have n8:=Tryz.isNilFF ⟨w.heap.size,0,none⟩ t ((w.alloc (.cells #[.pointer (some t)] 78)).alloc (.cells #[.pointer (some ⟨7,78,none⟩),.pointer (some ⟨w.heap.size,0,none⟩),.int .u64 150] 113)) (by simp);have aa:0<w.heap.size:=Qcz hg
 have hg2:((w.alloc (.cells #[.pointer (some t)] 78)).alloc (.cells #[.pointer (some ⟨7,78,none⟩),.pointer (some ⟨w.heap.size,0,none⟩),.int .u64 150] 113)).cell? ⟨0,0,none⟩=some (.iface 160 (.agg #[.pointer (some ⟨7,61,none⟩)])):=by
  rw[World.cell?_alloc_lt _ _ ⟨0,0,none⟩ (by simp),World.cell?_alloc_lt _ _ ⟨0,0,none⟩ aa];exact hg
 go_enter func29,ntmps29;go_wp2;refine wp_loop_rounds 1 ?_;rw[rounds_succ];go_wp2;go_ret;exact⟨rfl,rfl⟩
def Qlk (t:TypeId):Sem Value:=do Rtype.noPackHeld "Comparable" t;pure (.bool (← typeInfo t).comparable)
theorem Tryz.cmpN(w:World):(ReflectliteType.method Qlk #[.agg #[.pointer (some ⟨7,30,none⟩)]]).run Tryz.prog w=.ok (.bool true) w:=by kernel_rfl
theorem Quv(n:Int)(w:World) :
 Calls Tryz.prog 30 #[.iface 30 (.int .i64 n),.iface 30 (.int .i64 n)] w fun e w'=>e=.returned (.bool true)/\w'=w:=by
 have h8:=@run_callFunc_extern Tryz.prog 49 _ ReflectliteType.typeOf func49 (by kernel_rfl) (by kernel_rfl) (by kernel_rfl) (by kernel_rfl);have h32:=@run_callFunc_extern Tryz.prog 346 _ (ReflectliteType.method Qlk) func346 (by kernel_rfl) (by kernel_rfl) (by kernel_rfl) (by kernel_rfl);have tT:=Tryz.typeOfN;have cT:=Tryz.cmpN;have mR:=Tryz.methodComparable;have heq:=Qmf n w;go_enter func30,ntmps30;go_wp2;refine wp_loop_rounds 1 ?_;rw[rounds_succ];go_wp2;go_ret;exact⟨rfl,rfl⟩
theorem QuS(pb:Nat)(n:Int)(w:World)(h1:w.cell? ⟨pb,0,none⟩=some (.int .i64 n)) :
 Calls Tryz.prog 30 #[.iface 76 (.pointer (some ⟨pb,0,none⟩)),.iface 30 (.int .i64 n)] w fun e w'=>e=.returned (.bool true)/\w'=w:=by
 have h8:=@run_callFunc_extern Tryz.prog 49 _ ReflectliteType.typeOf func49 (by kernel_rfl) (by kernel_rfl) (by kernel_rfl) (by kernel_rfl);have h32:=@run_callFunc_extern Tryz.prog 346 _ (ReflectliteType.method Qlk) func346 (by kernel_rfl) (by kernel_rfl) (by kernel_rfl) (by kernel_rfl);have tT:=Tryz.typeOfN;have cT:=Tryz.cmpN;have mR:=Tryz.methodComparable;have nW:=Tryz.noIsF;have uW:=Tryz.hasUnwrapF;have mU:=Tryz.methodUnwrap;have heq:=Qmf n w;have hty:=run_eql_iface_types (P:=Tryz.prog) 76 30 (.pointer (some ⟨pb,0,none⟩)) (.int .i64 n) underlying61 (by decide) w;go_enter func30,ntmps30;go_wp2;refine wp_loop_rounds 2 ?_;rw[rounds_succ];go_wp2;rw[rounds_succ];go_wp2;go_ret;exact⟨rfl,rfl⟩
theorem QlD(w:World):Calls Tryz.prog 19 #[.nilIface] w fun e w'=>e=.returned (.tuple #[.int .i64 0,.int .i64 (-1)])/\Below w.heap.size w w':=by
 go_enter func19,ntmps19;go_wp2;refine bodyPost_ret (v:=.tuple #[.int .i64 0,.int .i64 (-1)]) (by simp[results,results19,go_sem]) rfl ?_;exact⟨rfl,((Below.refl _ _).alloc (Nat.le_refl _) _).alloc (by simp) _⟩
theorem Qhv{w:World}{t:Addr}(o1 o2 o3 o4:Obj)(v:Value):Mod t.block w (((((w.alloc o1).alloc o2).alloc o3).alloc o4).setCell t v):=by
 have h:=((((Mod.refl t.block w).alloc o1).alloc o2).alloc o3).alloc o4;exact⟨h.os,h.tape,h.output,by simpa using h.size,fun k hk hn=>by rw[Below.heap_setCell _ _ _ _ hn];exact h.block k hk hn⟩
theorem QiC{w:World}{t:Addr}{aa:Value}(ht:w.cell? t=some aa)(o1 o2 o3 o4:Obj)(v:Value):(((((w.alloc o1).alloc o2).alloc o3).alloc o4).setCell t v).cell? t=some v:=by
 have ab:t.block<w.heap.size:=Qcz ht;refine World.cell?_setCell_same _ _ _ (?_:_=some aa);rw[World.cell?_alloc_lt _ _ t (by simp;omega),World.cell?_alloc_lt _ _ t (by simp;omega),World.cell?_alloc_lt _ _ t (by simp;omega),World.cell?_alloc_lt _ _ t ab];exact ht
theorem Qoy(e t:Addr)(aa:Value)(w:World)(hg:Qfv w)(ab:w.cell? t=some aa)(ac:w.frozen? t=false) :
 Calls Tryz.prog 29 #[.iface 76 (.pointer (some e)),.iface 78 (.pointer (some t))] w fun ev w'=>ev=.returned (.bool true)/\Mod t.block w w'/\w'.cell? t=some (.pointer (some e)):=by
 refine(QwH e t aa w hg ab ac).mono ?_;rintro ev w' ⟨rfl,rfl⟩;exact⟨rfl,Qhv _ _ _ _ _,QiC ab _ _ _ _ _⟩
theorem Qo2(n:Int)(t:Addr)(aa:Value)(w:World)(hg:Qfv w)(ab:w.cell? t=some aa)(ac:w.frozen? t=false) :
 Calls Tryz.prog 29 #[.iface 30 (.int .i64 n),.iface 82 (.pointer (some t))] w fun ev w'=>ev=.returned (.bool true)/\Mod t.block w w'/\w'.cell? t=some (.int .i64 n):=by
 refine(Qwl n t aa w hg ab ac).mono ?_;rintro ev w' ⟨rfl,rfl⟩;exact⟨rfl,Qhv _ _ _ _ _,QiC ab _ _ _ _ _⟩
theorem Qjw(n:Int)(t:Addr)(w:World)(hg:Qfv w) :
 Calls Tryz.prog 29 #[.iface 30 (.int .i64 n),.iface 78 (.pointer (some t))] w fun ev w'=>ev=.returned (.bool false)/\Below w.heap.size w w':=by
 refine(QvD n t w hg).mono ?_;rintro ev w' ⟨rfl,rfl⟩;exact⟨rfl,(((Below.refl _ _).alloc (Nat.le_refl _) _).alloc (by simp) _).alloc (by simp;omega) _⟩
theorem Qfv.below{w w':World}(h:Qfv w)(hb:Below w.heap.size w w'):Qfv w':=by
 unfold Qfv at h ⊢;rw[hb.cell (p:=⟨0,0,none⟩) (Qcz h)];exact h
theorem Qfv.alloc{w:World}(h:Qfv w)(o:Obj):Qfv (w.alloc o):=h.below ((Below.refl _ _).alloc (Nat.le_refl _) _)
theorem Qj0(bb:Nat)(n ab:Int)(w:World)(hg:Qfv w)(h0:w.cell? ⟨bb,0,none⟩=some (.int .i64 n))(h1:w.cell? ⟨bb,1,none⟩=some (.int .i64 ab)) :
 Calls Tryz.prog 19 #[.iface 76 (.pointer (some ⟨bb,0,none⟩))] w fun e w'=>e=.returned (.tuple #[.int .i64 n,.int .i64 ab])/\Below w.heap.size w w':=by
 have ac:bb<w.heap.size:=Qcz h0;have HG:=Qab hg;have H0:=Qab h0;have H1:=Qab h1;clear hg h0 h1;go_enter func19,ntmps19;go_wp2_with fail;refine(Qoy ⟨bb,0,none⟩ ⟨w.heap.size,0,none⟩ (.pointer none) _ ((HG.o.alloc _).alloc _) (by simp) (by simp)).mono ?_;rintro e w1 ⟨rfl,hm,hc⟩;have aa:Mod w.heap.size ((w.alloc (.cells #[.pointer none] 76)).alloc (.cells #[.int .i64 0] 30)) w1:=hm
 have c0:w1.cell? ⟨bb,0,none⟩=some (.int .i64 n):=by
  rw[aa.cell (p:=⟨bb,0,none⟩) (by simp;omega) (by simp;omega),World.cell?_alloc_lt _ _ ⟨bb,0,none⟩ (by simp;omega),World.cell?_alloc_lt _ _ ⟨bb,0,none⟩ ac];exact H0.o
 have c1:w1.cell? ⟨bb,1,none⟩=some (.int .i64 ab):=by
  rw[aa.cell (p:=⟨bb,1,none⟩) (by simp;omega) (by simp;omega),World.cell?_alloc_lt _ _ ⟨bb,1,none⟩ (by simp;omega),World.cell?_alloc_lt _ _ ⟨bb,1,none⟩ ac];exact H1.o
 have HB:Hid (Below w.heap.size w w1):=by
  refine⟨aa.os,aa.tape,aa.output,?_,fun k hk=>?_⟩
  ·have:=aa.size;simp at this;omega
  ·rw[aa.block k (by simp;omega) (by omega),Below.heap_alloc _ _ _ (by simp;omega),Below.heap_alloc _ _ _ hk]
 clear hm aa;go_wp2_with fail;refine(QuS bb n w1 c0).mono ?_;rintro e w2 ⟨rfl,rfl⟩;go_wp2_with fail;go_quiet (fail);go_wp2;refine bodyPost_ret (v:=.tuple #[.int .i64 n,.int .i64 ab]) (by simp[results,results19,go_sem]) rfl ?_;exact⟨rfl,HB.o.os,HB.o.tape,HB.o.output,HB.o.size,HB.o.block⟩
theorem Qg2(n:Int)(w:World)(hg:Qfv w) :
 Calls Tryz.prog 19 #[.iface 30 (.int .i64 n)] w fun e w'=>e=.returned (.tuple #[.int .i64 n,.int .i64 (-1)])/\Below w.heap.size w w':=by
 have HG:=Qab hg;clear hg;go_enter func19,ntmps19;go_wp2_with fail;refine(Qjw n ⟨w.heap.size,0,none⟩ _ ((HG.o.alloc _).alloc _)).mono ?_;rintro e w1 ⟨rfl,hB⟩
 have c5:w1.cell? ⟨w.heap.size+1,0,none⟩=some (.int .i64 0):=by
  rw[hB.cell (p:=⟨w.heap.size+1,0,none⟩) (by simp)];simp
 have f5:w1.frozen? ⟨w.heap.size+1,0,none⟩=false:=by
  rw[hB.frozen (p:=⟨w.heap.size+1,0,none⟩) (by simp)];simp
 have ab:=Qab (((HG.o.alloc (.cells #[.pointer none] 76)).alloc (.cells #[.int .i64 0] 30)).below hB);have hs:=hB.size;have HB:Hid (Below w.heap.size w w1):=(((Below.refl _ w).alloc (Nat.le_refl _) (.cells #[.pointer none] 76)).alloc (by simp) (.cells #[.int .i64 0] 30)).trans (hB.mono (by simp;omega));clear hB;simp at hs;go_wp2_with fail;refine(Qo2 n ⟨w.heap.size+1,0,none⟩ (.int .i64 0) w1 ab.o c5 f5).mono ?_;rintro e w2 ⟨rfl,hm,hc⟩;have aa:Hid (Below w.heap.size w w2):=HB.o.trans (Mod.below (b:=w.heap.size+1) hm (by omega) (by omega));clear hm;go_wp2_with fail;refine(Quv n w2).mono ?_;rintro e w3 ⟨rfl,rfl⟩;go_wp2;refine bodyPost_ret (v:=.tuple #[.int .i64 n,.int .i64 (-1)]) (by simp[results,results19,go_sem]) rfl ?_;exact⟨rfl,aa.o⟩
end
section
open Go.RowKit
attribute [local go_sem ↓] Go.wp_at_zero Go.wp_at_succ
theorem Qoh(t:ByteArray)(w:World)(ht:600<t.size) :
 Calls Tryz.prog 23 #[.string t] w fun e w'=>e=.returned (.tuple #[.pointer none,.iface 30 (.int .i64 1)])/\Below w.heap.size w w':=by
 go_enter func23,ntmps23;go_wp2_with fail;refine(Qrk t w ht).mono ?_;rintro e w1 ⟨rfl,aa⟩;have HB:=Qab aa;have ab:=aa.size;clear aa;go_wp2;refine bodyPost_ret (v:=.tuple #[.pointer none,.iface 30 (.int .i64 1)]) (by simp[results,results23,go_sem]) rfl ?_;exact⟨rfl,HB.o.alloc ab _⟩
def PP (t:ByteArray) (w:World) (e:Ending) (w':World):Prop:=
 Below w.heap.size w w'∧((600 < t.size∧e=.returned (.tuple #[.pointer none,.int .i64 1,.int .i64 (-1)]))∨
  (t.size≤600∧∃ y g rv lv,prL t.data.toList=.ok y∧e=.returned (.tuple #[.pointer (some ⟨g,0,none⟩),.int .i64 0,.int .i64 (-1)])∧w.heap.size≤g∧w'.heap[g]?=some (.cells #[rv,lv] 96)∧QlU (fromB w.heap.size) y.1 w' rv∧blX (fromB w.heap.size) (Qji 7) y.2 w' lv)∨
  (t.size≤600∧∃ f,prL t.data.toList=.error f∧e=.returned (.tuple #[.pointer none,.int .i64 f.err,.int .i64 f.pos])))
theorem Qfj(t:ByteArray)(w:World)(ah:∃ m,w.cell? ⟨1,0,none⟩=some (.int .i64 m))(hg:Qfv w) :
 Calls Tryz.prog 14 #[.string t] w (PP t w):=by
 have HG:=Qab hg;clear hg;rcases Nat.lt_or_ge 600 t.size with ht|ht
 ·go_enter func14,ntmps14;go_wp2_with fail;refine(Qoh t w ht).mono ?_;rintro e w1 ⟨rfl,hB⟩;have HB:=Qab hB;have hs:=hB.size;clear hB;go_wp2_with fail;refine(Qg2 1 w1 (HG.o.below HB.o)).mono ?_;rintro e w2 ⟨rfl,aa⟩;have ab:=Qab (HB.o.trans (aa.mono hs));clear aa;go_wp2;refine bodyPost_ret (v:=.tuple #[.pointer none,.int .i64 1,.int .i64 (-1)]) (by simp[results,results14,go_sem]) rfl ?_;exact⟨ab.o,Or.inl ⟨ht,rfl⟩⟩
 ·go_enter func14,ntmps14;go_wp2_with fail;refine(Qnr t w ht ah).mono ?_;rintro e w1 ⟨hB,⟨y,g,rv,lv,hy,rfl,hz,hc,hr,hb⟩ | ⟨f,bb,hf,rfl,hz,ad⟩⟩
  ·have HB:=Qab hB;have hs:=hB.size;have HY:=Qab hy;have HC:=Qab hc;have HR:=Qab hr;have af:=Qab hb;clear hB hy hc hr hb;go_wp2_with fail;refine(QlD w1).mono ?_;rintro e w2 ⟨rfl,aa⟩;have ab:=Qab (HB.o.trans (aa.mono hs));have HC2:=Qab (World.cell?_of_block (w:=w1) (w':=w2) (a:=⟨g,0,none⟩) (aa.block g (Qar HC.o)));have HK:=Qab (aa.block g (Qar HC.o));have ai:=Qab (HR.o.keep (fun k _ hk=>aa.block k hk));have ac:=Qab (af.o.keep (QaV 7) (fun k _ hk=>aa.block k hk));clear aa;go_wp2;refine bodyPost_ret (v:=.tuple #[.pointer (some ⟨g,0,none⟩),.int .i64 0,.int .i64 (-1)]) (by simp[results,results14,go_sem]) rfl ?_;exact⟨ab.o,Or.inr (Or.inl ⟨ht,y,g,rv,lv,HY.o,rfl,hz,by rw[HK.o];exact HC.o,ai.o,ac.o⟩)⟩
  ·have HB:=Qab hB;have hs:=hB.size;have HF:=Qab hf;have c0:w1.cell? ⟨bb,0,none⟩=some (.int .i64 f.err):=Qaa ad 0;have c1:w1.cell? ⟨bb,1,none⟩=some (.int .i64 f.pos):=Qaa ad 1;have ae:=Qab c0;have ag:=Qab c1;clear hB hf ad c0 c1;go_wp2_with fail;refine(Qj0 bb f.err f.pos w1 (HG.o.below HB.o) ae.o ag.o).mono ?_;rintro e w2 ⟨rfl,aa⟩;have ab:=Qab (HB.o.trans (aa.mono hs));clear aa;go_wp2;refine bodyPost_ret (v:=.tuple #[.pointer none,.int .i64 f.err,.int .i64 f.pos]) (by simp[results,results14,go_sem]) rfl ?_;exact⟨ab.o,Or.inr (Or.inr ⟨ht,f,HF.o,rfl⟩)⟩
theorem Tryz.infoActE:(Tryz.prog.info? 34).map (fun i=>(i.zero,i.size,i.bytes))=some (some (.agg #[.int .i64 0,.string ⟨#[]⟩]),2,24):=by kernel_rfl
theorem Qn6(l:List (Int×L8)):∀ u∈Qbj l,u.oneCell'=true:=by
 intro u hu;unfold Qbj at hu;obtain⟨a,_,ha⟩:=List.mem_flatMap.1 hu;simp at ha;rcases ha with rfl|rfl<;>rfl
theorem QrV{l:List (Int×L8)}{j:Nat}{u:Value}(h:(Qbj l)[j]?=some u):∃ k,∃ hk:k<l.length,(j=k*2/\u=.int .i64 l[k].1)\/(j=k*2+1/\u=.string (sA l[k].2)):=by
 have hj:j<l.length*2:=by rw[<-QdZ];exact(List.getElem?_eq_some_iff.1 h).1
 have hk:j / 2<l.length:=by omega
 obtain⟨h1,h2⟩:=Qgv l (j / 2) hk;refine⟨j / 2,hk,?_⟩;rcases Nat.mod_two_eq_zero_or_one j with e|e
 ·have e1:j / 2*2=j:=by omega
  rw[e1]at h1;rw[h]at h1;injection h1 with h1
  exact Or.inl ⟨e1.symm,h1⟩
 ·have e1:j / 2*2+1=j:=by omega
  rw[e1]at h2;rw[h]at h2;injection h2 with h2
  exact Or.inr ⟨e1.symm,h2⟩
theorem QoR{w:World}{ae:Array Oper}{aa:List Oper}{o:Oper}{a:Act}{Q:Exit->Act->World->Prop}(ag:o.guard=none)(s x:Operand)
 (ho:o.op=.call { callee:=.builtin .append,args:=#[s,x],argTypes:=#[29,29] }) (l:List (Int×L8)) (sv:Value) (hs:a.eval s=.slice none 0 0) (hx:a.eval x=sv) (h:QjB w sv l) (hl:l.length<=1000000)
 (K:∀ a' k' w',w'.ownsRow w.heap.size 34 2 (.slice a' l.length k') l.length (Qbj l)->Below w.heap.size w w'->wpList Tryz.prog ae Q aa (a.put o.dst (.slice a' l.length k')) w'):wpList Tryz.prog ae Q (o::aa) a w:=by
 obtain⟨i0,hi,ak,ai,aj⟩:=info_parts Tryz.infoActE;obtain⟨ad,c,rfl,hc⟩:=h
 cases ad with
 |none=>
  have h0:l=[]:=Classical.byContradiction fun ac=>by obtain⟨b,ab,e,_⟩:=hc ac;cases e
  subst h0;have K':=K none 0 w (World.ownsRow_nil _ _ _ _) (Below.refl _ _);have hr:(Builtin.append_ #[29,29] o.type #[.slice none 0 0,.slice none 0 c]).run Tryz.prog w=.ok (.slice none 0 0) w:=by kernel_rfl
  refine wpList_plain ag fun K2 hK=>?_
  unfold Oper.wp;have ah:a.eval x=.slice none 0 c:=hx;simp[execOp,ho,resolve,invoke,builtin,hs,ah,hr,Result.andThen];exact hK _ _ K'
 |some ad=>
  refine wpList_append_own _ ag s x _ ho w.heap.size 34 i0 _ 2 24 underlying29 hi ak ai aj rfl (by decide) (.slice none 0 0) 0 [] hs (World.ownsRow_nil _ _ _ _) ad l.length c (Qbj l) hx (QdZ l) (fun j u hj=>?_) (Qn6 l) (by unfold maxLen;omega) (by omega) (Nat.le_refl _) (fun v' w' ho' hg' _=>?_)
  ·have ac:l≠[]:=fun e=>by subst e;cases hj
   obtain⟨b,ab,e,af⟩:=hc ac;injection e with e
   subst e;have e2:(⟨b,ab,none⟩:Addr).add j=⟨b,ab+j,none⟩:=by cases j<;>simp[Addr.add]
   rw[e2];obtain⟨k,hk,⟨rfl,rfl⟩ | ⟨rfl,rfl⟩⟩:=QrV hj
   ·exact(af k hk).1
   ·exact(af k hk).2
  ·rw[Nat.zero_add,List.nil_append]at ho';obtain⟨a',k',hv⟩:=Qat ho';subst hv;exact K a' k' w' ho' ((Below.refl _ _).grown hg' (Nat.le_refl _) (fun k hk=>nomatch hk))
theorem QjB.of_owns{w:World}{base:Nat}{a:Option Addr}{c:Nat}{l:List (Int×L8)}(h:w.ownsRow base 34 2 (.slice a l.length c) l.length (Qbj l)):QjB w (.slice a l.length c) l:=by
 refine⟨a,c,rfl,fun hne=>?_⟩;have hc:=h;rcases h.2 with⟨_,h0⟩ | ⟨g,cap,cur,hv,_,hb,_⟩
 ·exact absurd (List.eq_nil_of_length_eq_zero h0) hne
 ·injection hv with h1 h2 h3
  subst h1;have e:∀ j,(⟨g,0,none⟩:Addr).add j=⟨g,0+j,none⟩:=fun j=>by cases j<;>simp[Addr.add]
  refine⟨g,0,rfl,fun j hj=>?_⟩;have h1:=hc.cells (g:=g) rfl (j*2) _ (Qgv l j hj).1;have h2:=hc.cells (g:=g) rfl (j*2+1) _ (Qgv l j hj).2;rw[e]at h1 h2;exact⟨h1,h2⟩
def PAc (B:Nat) (k:Nat) (o:Obj):Prop:=B≤k∧∃ cs,o=.cells cs 34
theorem Fr.newAc{P:Nat->Obj->Prop}{w w2 w3:World}{C:Nat}(h:Fr P w w2)(hf:Fr (PAc C) w2 w3)(hC:w.heap.size<=C):Fr P w w3:=
 ⟨hf.os.trans h.os,hf.tape.trans h.tape,hf.output.trans h.output,Nat.le_trans h.size hf.size,fun k o hk hp=>hf.block k o (h.block k o hk hp) (fun⟨hc,_⟩=>by have:=Qar hk;omega)⟩
theorem PDk.notAc{B k:Nat}{cs:Array Value}:¬ PDk B k (.cells cs 34):=by
 rintro⟨_,⟨aa,e⟩ | ⟨es,c,e⟩ | ⟨aa,e⟩⟩
 ·injection e with e1 e2;exact absurd e2 (by decide)
 ·cases e
 ·injection e with e1 e2;exact absurd e2 (by decide)
theorem PDk.notBox{B k:Nat}{cs:Array Value}:¬ PDk B k (.cells cs 55):=by
 rintro⟨_,⟨aa,e⟩ | ⟨es,c,e⟩ | ⟨aa,e⟩⟩
 ·injection e with e1 e2;exact absurd e2 (by decide)
 ·cases e
 ·injection e with e1 e2;exact absurd e2 (by decide)
theorem Fr.lowCell{B:Nat}{w w':World}{a:Addr}{v:Value}(h:Fr (PDk B) w w')(ha:a.block<B)(hc:w.cell? a=some v):w'.cell? a=some v:=by
 have hl:=Qau hc;obtain⟨o,ho⟩:∃ o,w.heap[a.block]?=some o:=⟨w.heap[a.block],Array.getElem?_eq_getElem hl⟩;rw[World.cell?_of_block (w:=w) ((h.block _ _ ho (fun hp=>by have:=hp.1;omega)).trans ho.symm)];exact hc
theorem Tab.keep{B:Nat}{w w':World}(h:Tab w)(hf:Fr (PDk B) w w')(hB:6<B):Tab w':=by
 have hn:Tryz.prog.globalNamed "internal/strconv.uint64pow10"=some 2:=by kernel_rfl
 unfold Tab Lib.TabIs World.var? at h ⊢;rw[hn]at h ⊢;simp only[Option.bind_some]at h ⊢
 cases ho:w.heap[2]? with
 |none=>rw[ho]at h;cases h
 |some o=>rw[hf.block 2 o ho (fun hp=>by have:=hp.1;omega),<-ho];exact h
theorem QqM(l:List (L8×L8))(fv:Value)(w:World)(hl:QyD w fv l)(hn:l.length<=400000)(hx:∀ f∈l,f.1.length<=1000000) :
 Calls Tryz.prog 9 #[fv] w fun e w'=>Below w.heap.size w w'/\∃ bb bn,e=.returned (.pointer (some ⟨bb,0,none⟩))/\w'.heap[bb]?=some (.cells #[.pointer (some ⟨w.heap.size+1,0,none⟩)] 55)/\DI w' w.heap.size (w.heap.size+1) w.heap.size bn l.length (Qbo noF l) (Qbo noF l) [] (-1) (.slice none 0 0):=by
 have HL:=Qab (QoZ l fv w hl hn hx);obtain⟨a,c,ac,_⟩:=hl;subst ac;clear hx;go_enter func9,ntmps9;go_wp2_with fail;refine HL.o.mono ?_;rintro e w1 ⟨aa,bn,rfl,h1⟩;have ab:=Qab aa;have H1:=Qab h1;clear aa h1;go_wp2;go_ret;exact⟨ab.o.alloc ab.o.size _,w1.heap.size,bn,rfl,Qam _ _,H1.o.below ((Below.refl _ _).alloc (Nat.le_refl _) _)⟩
end
section
open Go.RowKit Go.Maps
attribute [local go_sem ↓] Go.wp_at_zero Go.wp_at_succ
theorem Qgp(x:L8)(n:Nat):(sA x).extract 0 n=sA (x.take n):=by
 apply ByteArray.ext;apply Array.ext';simp[sA]
theorem Qgn(x:L8)(n:Nat):(sA x).extract n x.length=sA (x.drop n):=by
 apply ByteArray.ext;apply Array.ext';simp[sA];rw[List.take_of_length_le (by simp)]
theorem Quj(x y:L8)(c:UInt8)(w:World)(h:∀ b∈x,b≠c)(hl:x.length+y.length<=1000000000) :
 Calls Tryz.prog 237 #[.string (sA (x++c::y)),.string ⟨#[c]⟩] w fun e w'=>e=.returned (.tuple #[.string (sA x),.string (sA y),.bool true])/\Below w.heap.size w w':=by
 have hI:=Qab (Tryz.stringslite_Index_one (sA (x++c::y)) c w);have ac:Lib.indexByte (sA (x++c::y)).data.toList c=(x.length:Int):=QpD c y x h;rw[ac]at hI;have hz:=Qal (x++c::y);have aa:(x++c::y).length=x.length+y.length+1:=by simp;omega
 have ad:Hid ((sA (x++c::y)).extract 0 x.length=sA x):=by show _=_;rw[Qgp,List.take_left]
 have ae:Hid ((sA (x++c::y)).extract (x.length+1) (x.length+y.length+1)=sA y):=by
  show _=_
  rw[<-aa,Qgn,List.drop_append,List.drop_of_length_le (by omega),List.nil_append,Nat.add_sub_cancel_left];rfl
 rw[aa]at hz;clear ac aa;generalize sA (x++c::y)=S at *;go_enter func237,ntmps237;go_wp2_with (go_at_call 242;refine hI.o.mono ?_;rintro e w1 ⟨rfl,ab⟩;rw[ab];clear ab);go_quiet (fail)
 all_goals go_wp2
 rw[ad.o,ae.o];refine bodyPost_ret (v:=.tuple #[.string (sA x),.string (sA y),.bool true]) (by simp[results,results237,go_sem]) rfl ?_;exact⟨rfl,QbF (Below.refl _ _)⟩
theorem Qs6(x:L8)(c:UInt8)(w:World)(h:∀ b∈x,b≠c)(hl:x.length<=1000000000) :
 Calls Tryz.prog 237 #[.string (sA x),.string ⟨#[c]⟩] w fun e w'=>e=.returned (.tuple #[.string (sA x),.string ⟨#[]⟩,.bool false])/\Below w.heap.size w w':=by
 have hI:=Qab (Tryz.stringslite_Index_one (sA x) c w);have ab:Lib.indexByte (sA x).data.toList c = -1:=Qj5 c x h;rw[ab]at hI;clear ab;go_enter func237,ntmps237;go_wp2_with (go_at_call 242;refine hI.o.mono ?_;rintro e w1 ⟨rfl,aa⟩;rw[aa];clear aa);refine bodyPost_ret (v:=.tuple #[.string (sA x),.string ⟨#[]⟩,.bool false]) (by simp[results,results237,go_sem]) rfl ?_;exact⟨rfl,Below.refl _ _⟩
theorem QnX(x y:L8)(c:UInt8)(w:World)(h:∀ b∈x,b≠c)(hl:x.length+y.length<=1000000000) :
 Calls Tryz.prog 202 #[.string (sA (x++c::y)),.string ⟨#[c]⟩] w fun e w'=>e=.returned (.tuple #[.string (sA x),.string (sA y),.bool true])/\Below w.heap.size w w':=by
 have hI:=Qab (Quj x y c w h hl);generalize sA (x++c::y)=S at *;go_enter func202,ntmps202;go_wp2_with (go_at_call 237;refine hI.o.mono ?_;rintro e w1 ⟨rfl,aa⟩;have ab:=Qab aa;clear aa);refine bodyPost_ret (v:=.tuple #[.string (sA x),.string (sA y),.bool true]) (by simp[results,results202,go_sem]) rfl ?_;exact⟨rfl,ab.o⟩
theorem Quw(x:L8)(c:UInt8)(w:World)(h:∀ b∈x,b≠c)(hl:x.length<=1000000000) :
 Calls Tryz.prog 202 #[.string (sA x),.string ⟨#[c]⟩] w fun e w'=>e=.returned (.tuple #[.string (sA x),.string ⟨#[]⟩,.bool false])/\Below w.heap.size w w':=by
 have hI:=Qab (Qs6 x c w h hl);go_enter func202,ntmps202;go_wp2_with (go_at_call 237;refine hI.o.mono ?_;rintro e w1 ⟨rfl,aa⟩;have ab:=Qab aa;clear aa);refine bodyPost_ret (v:=.tuple #[.string (sA x),.string ⟨#[]⟩,.bool false]) (by simp[results,results202,go_sem]) rfl ?_;exact⟨rfl,ab.o⟩
theorem Qni(p:L8)(r:List (L8)):jnL (p::r)=iL p.length++58::(p++jnL r):=by
 unfold jnL;rw[List.flatMap_cons];unfold QtH;simp
theorem QdL:∀(k n:Nat),n<10 ^ (k+1)->(iL n).length<=k+1
 |0,n,h=>by
  unfold iL Lib.decDigits;rw[dif_pos (by simpa using h)];simp
 |k+1,n,h=>by
  unfold iL Lib.decDigits;split
  ·simp
  ·have h2:n / 10<10 ^ (k+1):=by
    rw[Nat.div_lt_iff_lt_mul (by omega)];rw[Nat.pow_succ]at h;exact h
   have:=QdL k (n / 10) h2;unfold iL at this;rw[List.length_append];simp only[List.length_singleton];omega
def QyA (v:Value):Nat:=
 match v with
 | .string s=>s.size
 | _=>0
def Qv6 (ps:List (L8)) (w:World) (e:Ending) (w':World):Prop:=
 ∃ v,e=.returned (.tuple #[v,.bool true])∧w'.ownsRow w.heap.size 9 1 v ps.length (QaD ps)∧Below w.heap.size w w'
theorem Qr4(ps:List (L8))(w:World)(hl:(jnL ps).length<=100000000)(hn:ps.length<=1000) :
 Calls Tryz.prog 203 #[.string (sA (jnL ps))] w (Qv6 ps w):=by
 obtain⟨i0,hi,aN,aM,aI⟩:=info_parts Tryz.infoStr;go_enter func203,ntmps203;go_wp2_with fail
 go_loopw [0,4] (fun t v wr=>∃ k:Nat,k<=ps.length/\t=.string (sA (jnL (ps.drop k)))/\wr.ownsRow w.heap.size 9 1 v (ps.take k).length (QaD (ps.take k))/\Below w.heap.size w wr) (fun t _ _=>QyA t)
 case atStart=>exact⟨0,Nat.zero_le _,rfl,World.ownsRow_nil _ _ _ _,Below.refl _ _⟩
 case round=>
  obtain⟨k,hk,rfl,aa,hB⟩:=hrel;have ag:=Qab aa;have HB:=Qab hB;have az:=hB.size;obtain⟨va,vc,aC⟩:=Qat aa;subst aC;clear aa hB;by_cases hlt:k<ps.length;rotate_left
  ·have hd:ps.drop k=[]:=List.drop_of_length_le (by omega);have aL:Hid (ps.take k=ps):=List.take_of_length_le (by omega);rw[hd];rw[aL.o]at ag ⊢;have he:(sA (jnL []))=⟨#[]⟩:=rfl;rw[he];clear hd he;go_wp2;go_ret2;exact⟨_,rfl,ag.o,HB.o⟩
  ·have hd:=List.drop_eq_getElem_cons hlt;have aO:Hid (ps.take (k+1)=ps.take k++[ps[k]]):=List.take_succ_eq_append_getElem hlt
   have ad:(jnL (ps.drop k)).length<=100000000:=by
    have h1:jnL ps=jnL (ps.take k)++jnL (ps.drop k):=by
     unfold jnL;rw[<-List.flatMap_append,List.take_append_drop]
    rw[h1,List.length_append]at hl;omega
   rw[hd,Qni]at ad ⊢;have htl:(ps.take k).length<=1000:=by rw[List.length_take];omega
   clear hk;generalize ps[k]=p at *;generalize hTT:ps.take k=TT at *;clear hTT;generalize htn:TT.length=tn at *;have aK:=Qab htn;clear htn;obtain⟨R,hR⟩:∃ R,R=jnL (ps.drop (k+1)):=⟨_,rfl⟩;rw[<-hR]at ad ⊢;have HR:=Qab hR;have hpl:p.length+R.length<=100000000:=by simp at ad;omega
   have hd9:=QdL 8 p.length (by omega);have ab:=QnX (iL p.length) (p++R) 58;have aG:Hid (∀ W,Calls Tryz.prog 204 #[.string (sA (iL p.length))] W fun e w'=>e=.returned (.tuple #[.int .i64 (p.length:Int),.nilIface])/\∃ t,w'=Lib.bytesWorld W 5 t):=fun W=>Tryz.strconv_Atoi (sA (iL p.length)) (p.length:Int) (by rw[Qal];omega) (Qgb p.length) W
   have ah:Hid (∀ W,Calls Tryz.prog 202 #[.string (sA (iL p.length++58::(p++R))),.string ⟨#[58]⟩] W fun e w'=>e=.returned (.tuple #[.string (sA (iL p.length)),.string (sA (p++R)),.bool true])/\Below W.heap.size W w'):=fun W=>ab W (fun b hb=>QsG (Qgk _ b hb) (by unfold QlT;decide)) (by rw[List.length_append];omega)
   have aJ:=Qal (iL p.length++58::(p++R));have ap:(iL p.length++58::(p++R)).length=(iL p.length).length+(p.length+R.length)+1:=by simp;omega
   rw[ap]at aJ;have av:¬(sA (iL p.length++58::(p++R))).size=0:=by omega
   have aq:=Qbq av;have hS2:(sA (iL p.length++58::(p++R))).toList.isEmpty=false:=by simpa using aq
   have aH:=Qal (p++R);rw[List.length_append]at aH;have aE:Hid ((sA (p++R)).extract 0 p.length=sA p):=by show _=_;rw[Qgp,List.take_left]
   have aB:Hid ((sA (p++R)).extract p.length (p.length+R.length)=sA R):=by
    show _=_
    rw[<-List.length_append,Qgn,List.drop_left]
   have hzR:=Qal R;generalize sA (iL p.length++58::(p++R))=S at *;generalize sA (iL p.length)=DG at *;generalize sA (p++R)=RS at *;clear ab ap hd ad av aq hR;go_wp2_with fail;refine(ah.o _).mono ?_;rintro e w1 ⟨rfl,af⟩;have ax:=Qab (HB.o.trans (af.mono az));have aA:Hid (w1.ownsRow w.heap.size 9 1 (.slice va tn vc) tn (QaD TT)):=QaR (P:=fun _ _=>False) ag.o (Fr.of_below af) (fun _ _ h=>h);have aD:=ax.o.size;clear af;go_wp2_with fail;refine(aG.o _).mono ?_;rintro e w2 ⟨rfl,t2,ao⟩;have ai:Below w1.heap.size w1 w2:=by rw[ao];exact Lib.bytesWorld_below w1 5 t2
   have ae:=Qab (ax.o.trans (ai.mono aD));have au:Hid (w2.ownsRow w.heap.size 9 1 (.slice va tn vc) tn (QaD TT)):=QaR (P:=fun _ _=>False) aA.o (Fr.of_below ai) (fun _ _ h=>h);have hs2:=ae.o.size;clear ai ao;have hd1:¬((p.length:Int)<0):=by omega
   have hd2:¬((p.length:Int)+(R.length:Int)<(p.length:Int)):=by omega
   have hd3:¬(p.length+R.length<p.length):=by omega
   generalize hpn:p.length=pn at *;generalize hrn:R.length=rn at *;have HPN:=Qab hpn;have HRN:=Qab hrn;clear hpn hrn;go_wp2_with (at_builtin;refine wpList_append_own_at _ rfl _ _ 89 rfl w.heap.size 9 i0 _ 1 16 underlying89 hi aN aM aI rfl (by decide) _ _ _ rfl (World.ownsRow.alloc au.o _) ⟨w2.heap.size,0,none⟩ 1 1 [.string (RS.extract 0 pn)] rfl rfl (cell_one_new _ _ _) (Qyx _) (by unfold maxLen;omega) (by omega) (by simp;omega) ?_;intro v5 w5 aj ak _ ac;have ar:Hid ((w2.alloc (.cells #[.string (RS.extract 0 pn)] 9)).grownBy w5 (Value.slice va tn vc).ownBlock):=ak;have aw:=Qab aj;clear aj ak ac);rw[aB.o];rw[aE.o]at aw ar;have ay:=World.ownsRow.lt au.o;have aF:Below w.heap.size w w5:=QcA ae.o ae.o.size ar.o (fun k hk=>(ay k hk).1);refine⟨⟨k+1,by omega,by rw[HR.o],?_,aF⟩,by unfold QyA;dsimp only;omega⟩;rw[aO.o,<-Qb4,List.length_append,aK.o];exact aw.o
abbrev Qyn:Value:=.agg #[.string ⟨#[]⟩,.slice none 0 0,.string ⟨#[]⟩]
def setDlv (w:World) (b:Nat) (x y z:Value):World:=((w.setCell ⟨b,0,none⟩ x).setCell ⟨b,1,none⟩ y).setCell ⟨b,2,none⟩ z
theorem QfF(w:World)(b:Nat)(x y z c0 c1 c2:Value)(t:TypeId)(h:w.heap[b]?=some (.cells #[c0,c1,c2] t)):(setDlv w b x y z).heap[b]?=some (.cells #[x,y,z] t)/\Fr (fun k _=>k=b) w (setDlv w b x y z):=by
 have aa:∀(W:World) (cs:Array Value) (k:Nat) (v:Value),W.heap[b]?=some (.cells cs t)->(W.setCell ⟨b,k,none⟩ v).heap[b]?=some (.cells (cs.setIfInBounds k v) t)/\Fr (fun k _=>k=b) W (W.setCell ⟨b,k,none⟩ v):=fun W cs k v h=>⟨Qag W b k v cs _ h,(Fr.refl _ W).set h rfl k v⟩
 unfold setDlv;obtain⟨g0,f0⟩:=aa w _ 0 x h;replace g0:(w.setCell ⟨b,0,none⟩ x).heap[b]?=some (.cells #[x,c1,c2] t):=g0;generalize w.setCell ⟨b,0,none⟩ x=w0 at *;obtain⟨g1,f1⟩:=aa w0 _ 1 y g0;replace g1:(w0.setCell ⟨b,1,none⟩ y).heap[b]?=some (.cells #[x,y,c2] t):=g1;generalize w0.setCell ⟨b,1,none⟩ y=w1 at *;obtain⟨g2,f2⟩:=aa w1 _ 2 z g1;exact⟨g2,(f0.trans f1).trans f2⟩
def Qtc (w:World) (e:Ending) (w':World):Prop:=e=.returned (.tuple #[Qyn,.bool false])∧Below w.heap.size w w'
theorem Qq1(ad aa:L8)(w:World)(h:∀ b∈aa,b≠10)(hl:aa.length<=100000000) :
 Calls Tryz.prog 157 #[.string (sA ad),.string (sA aa)] w (Qtc w):=by
 have HC:Hid (∀ W,Calls Tryz.prog 202 #[.string (sA aa),.string ⟨#[10]⟩] W fun e w'=>e=.returned (.tuple #[.string (sA aa),.string ⟨#[]⟩,.bool false])/\Below W.heap.size W w'):=fun W=>Quw aa 10 W h (by omega)
 generalize sA aa=D at *;go_enter func157,ntmps157;go_wp2_with fail;refine(HC.o _).mono ?_;rintro e w1 ⟨rfl,ae⟩;have af:Hid (Below w.heap.size w w1):=((Below.refl _ _).alloc (Nat.le_refl _) _).trans (ae.mono (by simp));have ab:Hid (w1.heap[w.heap.size]?=some (.cells #[.string ⟨#[]⟩,.slice none 0 0,.string ⟨#[]⟩] 104)):=(ae.block _ (by simp)).trans (Qam _ _);have hs1:w.heap.size<w1.heap.size:=Qar ab.o;clear ae;have z0:w1.cell? ⟨w.heap.size,0,none⟩=some (.string ⟨#[]⟩):=Qaa ab.o 0;have z1:w1.cell? ⟨w.heap.size,1,none⟩=some (.slice none 0 0):=Qaa ab.o 1;have z2:w1.cell? ⟨w.heap.size,2,none⟩=some (.string ⟨#[]⟩):=Qaa ab.o 2;have ef:=Qah ab.o;go_wp2_with fail;clear ef z0 z1 z2;change bodyPost _ _ _ _ _ (setDlv w1 w.heap.size (.string ⟨#[]⟩) (.slice none 0 0) (.string ⟨#[]⟩));obtain⟨ac,ah⟩:=QfF w1 w.heap.size (.string ⟨#[]⟩) (.slice none 0 0) (.string ⟨#[]⟩) _ _ _ _ ab.o;have ag:Below w.heap.size w (setDlv w1 w.heap.size (.string ⟨#[]⟩) (.slice none 0 0) (.string ⟨#[]⟩)):=af.o.trans (ah.below (fun k o e=>by rw[e];exact Nat.le_refl _) af.o.size);generalize setDlv w1 w.heap.size (.string ⟨#[]⟩) (.slice none 0 0) (.string ⟨#[]⟩)=U at *;have y0:U.cell? ⟨w.heap.size,0,none⟩=some (.string ⟨#[]⟩):=Qaa ac 0;have y1:U.cell? ⟨w.heap.size,1,none⟩=some (.slice none 0 0):=Qaa ac 1;have y2:U.cell? ⟨w.heap.size,2,none⟩=some (.string ⟨#[]⟩):=Qaa ac 2;refine bodyPost_ret (v:=.tuple #[Qyn,.bool false]) (by simp[results,results157,go_sem,y0,y1,y2]) rfl ?_;exact⟨rfl,ag⟩
theorem QuR(aa hd z:L8)(w:World)(ht:Tab w)(hz:Tz w)(h:∀ b∈hd,b≠10)(hl:hd.length+z.length<=90000000)(hn:aa.length<=1000)(ap:QbK aa z≠hd++10::z) :
 Calls Tryz.prog 157 #[.string (sA aa),.string (sA (hd++10::z))] w (Qtc w):=by
 have HC:Hid (∀ W,Calls Tryz.prog 202 #[.string (sA (hd++10::z)),.string ⟨#[10]⟩] W fun e w'=>e=.returned (.tuple #[.string (sA hd),.string (sA z),.bool true])/\Below W.heap.size W w'):=fun W=>QnX hd z 10 W h (by omega)
 have HS:Hid (∀ W,Tab W->Tz W->Calls Tryz.prog 148 #[.string (sA aa),.string (sA z)] W fun e w'=>e=.returned (.string (sA (QbK aa z)))/\Below W.heap.size W w'):=fun W h1 h2=>QfQ aa z W h1 h2 hn (by omega)
 have hne2:(!(sA (QbK aa z)).toList==(sA (hd++10::z)).toList)=true:=by
  rw[Bool.not_eq_true',beq_eq_false_iff_ne];intro e;rw[ByteArray.toList_eq,ByteArray.toList_eq]at e;exact ap e
 have HT:=Qab ht;have HZ:=Qab hz;clear ht hz;generalize sA (hd++10::z)=D at *;generalize sA (QbK aa z)=S at *;go_enter func157,ntmps157;go_wp2_with fail;refine(HC.o _).mono ?_;rintro e w1 ⟨rfl,af⟩;have ac:Hid (Below w.heap.size w w1):=((Below.refl _ _).alloc (Nat.le_refl _) _).trans (af.mono (by simp));have ah:Hid (w1.heap[w.heap.size]?=some (.cells #[.string ⟨#[]⟩,.slice none 0 0,.string ⟨#[]⟩] 104)):=(af.block _ (by simp)).trans (Qam _ _);have hs1:w.heap.size<w1.heap.size:=Qar ah.o;have ai:=Qab (HT.o.below ac.o);have ak:=Qab (HZ.o.below ac.o);clear af;go_wp2_with fail;refine(HS.o _ ai.o ak.o).mono ?_;rintro e w2 ⟨rfl,ae⟩;have ag:=Qab (ac.o.trans (ae.mono ac.o.size));have ab:=Qab (Qai ah.o ae);have hs2:w.heap.size<w2.heap.size:=Qar ab.o;clear ae;have z0:w2.cell? ⟨w.heap.size,0,none⟩=some (.string ⟨#[]⟩):=Qaa ab.o 0;have z1:w2.cell? ⟨w.heap.size,1,none⟩=some (.slice none 0 0):=Qaa ab.o 1;have z2:w2.cell? ⟨w.heap.size,2,none⟩=some (.string ⟨#[]⟩):=Qaa ab.o 2;have ef:=Qah ab.o;go_wp2_with fail;clear ef z0 z1 z2;change bodyPost _ _ _ _ _ (setDlv w2 w.heap.size (.string ⟨#[]⟩) (.slice none 0 0) (.string ⟨#[]⟩));obtain⟨ad,ao⟩:=QfF w2 w.heap.size (.string ⟨#[]⟩) (.slice none 0 0) (.string ⟨#[]⟩) _ _ _ _ ab.o;have aj:Below w.heap.size w (setDlv w2 w.heap.size (.string ⟨#[]⟩) (.slice none 0 0) (.string ⟨#[]⟩)):=ag.o.trans (ao.below (fun k o e=>by rw[e];exact Nat.le_refl _) ag.o.size);generalize setDlv w2 w.heap.size (.string ⟨#[]⟩) (.slice none 0 0) (.string ⟨#[]⟩)=U at *;have y0:U.cell? ⟨w.heap.size,0,none⟩=some (.string ⟨#[]⟩):=Qaa ad 0;have y1:U.cell? ⟨w.heap.size,1,none⟩=some (.slice none 0 0):=Qaa ad 1;have y2:U.cell? ⟨w.heap.size,2,none⟩=some (.string ⟨#[]⟩):=Qaa ad 2;refine bodyPost_ret (v:=.tuple #[Qyn,.bool false]) (by simp[results,results157,go_sem,y0,y1,y2]) rfl ?_;exact⟨rfl,aj⟩
theorem Qqn:∀(aa:List (Int×L8)) (k:Nat) (hk:k<aa.length),(aa.flatMap fun a=>[iL a.1.toNat,a.2])[2*k]?=some (iL aa[k].1.toNat)/\(aa.flatMap fun a=>[iL a.1.toNat,a.2])[2*k+1]?=some aa[k].2
 | [],k,hk=>absurd hk (Nat.not_lt_zero _)
 |a::r,0,hk=>by simp
 |a::r,k+1,hk=>by
  have:=Qqn r k (by simpa using hk);rw[List.flatMap_cons];have e1:2*(k+1)=(2*k)+1+1:=by omega
  rw[e1];simpa using this
theorem Qvc(id text:L8)(aa:List (Int×L8))(k:Nat)(hk:k<aa.length):(QaD (Qbn id text aa))[2+2*k]?=some (.string (sA (iL aa[k].1.toNat)))/\(QaD (Qbn id text aa))[2+2*k+1]?=some (.string (sA aa[k].2)):=by
 obtain⟨h1,h2⟩:=Qqn aa k hk;unfold QaD Qbn;have e1:2+2*k=2*k+1+1:=by omega
 rw[e1];simp only[List.map_cons,List.getElem?_cons_succ,List.getElem?_map];rw[h1,h2];exact⟨rfl,rfl⟩
theorem Tryz.infoActT:(Tryz.prog.info? 34).map (fun i=>(i.zero,i.size,i.bytes))=some (some (.agg #[.int .i64 0,.string ⟨#[]⟩]),2,24):=by kernel_rfl
theorem Qux(w:World)(x:Int×L8)(t:TypeId):∀ j u,[Value.int .i64 x.1,.string (sA x.2)][j]?=some u->(w.alloc (.cells #[.int .i64 x.1,.string (sA x.2)] t)).cell? ((⟨w.heap.size,0,none⟩:Addr).add j)=some u:=by
 intro j u hj
 match j,hj with
 |0,hj=>simp at hj;subst hj;simp[Addr.add]
 |1,hj=>simp at hj;subst hj;simp[Addr.add]
theorem QuH(x:Int×L8):∀ u∈[Value.int .i64 x.1,Value.string (sA x.2)],u.oneCell'=true:=by
 intro u hu;simp at hu;rcases hu with rfl|rfl<;>rfl
theorem QtG{w:World}{base:Nat}{e:TypeId}{size:Nat}{v:Value}{n:Nat}{xs:List Value}(h:w.ownsRow base e size v n xs){b:Nat}(ac:v.ownBlock≠some b){x y z:Value}:(setDlv w b x y z).ownsRow base e size v n xs:=by
 refine⟨h.1,?_⟩;rcases h.2 with h2 | ⟨g,ae,ad,hv,hg,hb,aa⟩
 ·exact Or.inl h2
 ·refine Or.inr ⟨g,ae,ad,hv,hg,?_,aa⟩;have ab:g≠b:=fun e=>ac (by rw[hv,<-e];rfl)
  unfold setDlv;rw[Below.heap_setCell _ _ _ _ ab,Below.heap_setCell _ _ _ _ ab,Below.heap_setCell _ _ _ _ ab];exact hb
def PTo (vb:Nat) (k:Nat) (o:Obj):Prop:=(∃ cs,o=.cells cs 34)∨(k=vb∧∃ cs,o=.cells cs 104)
def Qt5 (id text:L8) (acts:List (Int×L8)) (w:World) (e:Ending) (w':World):Prop:=
 ∃ v,e=.returned (.tuple #[.agg #[.string (sA id),v,.string (sA text)],.bool true])∧w'.ownsRow w.heap.size 34 2 v acts.length (Qbj acts)∧Below w.heap.size w w'
theorem QrM(aa id text:L8)(acts:List (Int×L8))(w:World)(ht:Tab w)(hz:Tz w)(hn:aa.length<=1000)(hl:(jnL (Qbn id text acts)).length<=80000000)(ha:acts.length<=400)(hk:∀ a∈acts,0<=a.1/\a.1<=2147483647) :
 Calls Tryz.prog 157 #[.string (sA aa),.string (sA (QbK aa (jnL (Qbn id text acts))))] w (Qt5 id text acts w):=by
 obtain⟨z,aw⟩:∃ z,z=jnL (Qbn id text acts):=⟨_,rfl⟩;have HP:Hid (∀ W,Calls Tryz.prog 203 #[.string (sA z)] W (Qv6 (Qbn id text acts) W)):=fun W=>by rw[aw];exact Qr4 _ W (by omega) (by rw[Qfb];omega)
 rw[<-aw]at hl ⊢;have HS:Hid (∀ W,Tab W->Tz W->Calls Tryz.prog 148 #[.string (sA aa),.string (sA z)] W fun e w'=>e=.returned (.string (sA (QbK aa z)))/\Below W.heap.size W w'):=fun W h1 h2=>QfQ aa z W h1 h2 hn (by omega)
 have a6:(Qdn aa z).length<=9+1+16:=by
  unfold Qdn;rw[List.length_append,List.length_append];have h1:=QdL 8 z.length (by omega);have h2:=QhW (fnvL [aa,[10],z]);simp only[List.length_singleton];omega
 have HC:Hid (∀ W,Calls Tryz.prog 202 #[.string (sA (QbK aa z)),.string ⟨#[10]⟩] W fun e w'=>e=.returned (.tuple #[.string (sA (Qdn aa z)),.string (sA z),.bool true])/\Below W.heap.size W w'):=fun W=>by rw[Qds];exact QnX (Qdn aa z) z 10 W (Qiy aa z) (by omega)
 have a3:=Qab (Qfb id text acts);have HK:=Qab hk;clear aw hk a6;have HT:=Qab ht;have HZ:=Qab hz;clear ht hz;generalize sA (QbK aa z)=D at *;generalize sA (Qdn aa z)=HD at *;go_enter func157,ntmps157;go_wp2_with fail;refine(HC.o _).mono ?_;rintro e w1 ⟨rfl,aG⟩;have ao:Hid (Below w.heap.size w w1):=((Below.refl _ _).alloc (Nat.le_refl _) _).trans (aG.mono (by simp));have ay:Hid (w1.heap[w.heap.size]?=some (.cells #[.string ⟨#[]⟩,.slice none 0 0,.string ⟨#[]⟩] 104)):=(aG.block _ (by simp)).trans (Qam _ _);have hs1:w.heap.size<w1.heap.size:=Qar ay.o;have aQ:=Qab (HT.o.below ao.o);have aM:=Qab (HZ.o.below ao.o);clear aG;go_wp2_with fail;refine(HS.o _ aQ.o aM.o).mono ?_;rintro e w2 ⟨rfl,aI⟩;have aF:=Qab (ao.o.trans (aI.mono ao.o.size));have aA:=Qab (Qai ay.o aI);have hs2:w.heap.size<w2.heap.size:=Qar aA.o;clear aI;go_wp2_with fail;refine(HP.o _).mono ?_;rintro e w3 ⟨pv,rfl,ab,aB⟩;have aJ:=Qab (aF.o.trans (aB.mono aF.o.size));have aE:=Qab (Qai aA.o aB);have au:=Qab ab;have hs3:w.heap.size<w3.heap.size:=Qar aE.o;rw[a3.o]at ab au;obtain⟨g,pc,a5,hg,hgl,ah⟩:=Qcq ab (by omega);subst a5;have c0:w3.cell? ⟨g,0,none⟩=some (.string (sA id)):=ah 0 _ rfl;have c1:w3.cell? ⟨g,1,none⟩=some (.string (sA text)):=ah 1 _ rfl;generalize hml:acts.length=m at *;have aH:=Qab hml;have hm0:((2+2*(m:Int))==0)=false:=by rw[beq_eq_false_iff_ne];omega
 have hm2:(2+2*(m:Int)).tmod 2=0:=by rw[Int.tmod_eq_emod_of_nonneg (by omega)];omega
 clear aB ab ah hml;go_wp2_with fail;go_region;obtain⟨W,hW⟩:∃ W,W=(w3.alloc (.cells #[.string (sA id),.slice none 0 0,.string (sA text)] 104)).drew:=⟨_,rfl⟩;rw[<-hW];have ar:Below w3.heap.size w3 W:=by rw[hW];exact((Below.refl _ _).alloc (Nat.le_refl _) _).drew
 have az:Hid (Below w.heap.size w W):=aJ.o.trans (ar.mono aJ.o.size);have aX:Hid (W.heap[w.heap.size]?=some (.cells #[.string ⟨#[]⟩,.slice none 0 0,.string ⟨#[]⟩] 104)):=Qai aE.o ar;have aV:Hid (W.heap[w3.heap.size]?=some (.cells #[.string (sA id),.slice none 0 0,.string (sA text)] 104)):=by rw[hW];exact Qam _ _
 have aR:Hid (W.ownsRow w2.heap.size 9 1 (.slice (some ⟨g,0,none⟩) (2+2*m) pc) (2+2*m) (QaD (Qbn id text acts))):=QaR (P:=fun _ _=>False) au.o (Fr.of_below ar) (fun _ _ h=>h);generalize hvb:w3.heap.size=vb at *;have hvl:w.heap.size<vb:=by omega
 have hgv:g<vb:=by omega
 clear hW ar c0 c1 aE au aJ hvb HC HP HS;go_wp2_with fail;have HTW:=Qab (HT.o.below az.o);obtain⟨i0,hi,a9,bf,a8⟩:=info_parts Tryz.infoActT;clear aQ aM ao aF ay aA HT HZ
 go_loopw [12] (fun i wr=>∃ k av ac,k<=m/\i=.int .i64 ((2+2*k:Nat):Int)/\wr.heap[vb]?=some (.cells #[.string (sA id),.slice av k ac,.string (sA text)] 104)/\wr.ownsRow w.heap.size 34 2 (.slice av k ac) k (Qbj (acts.take k))/\wr.heap[w.heap.size]?=some (.cells #[.string ⟨#[]⟩,.slice none 0 0,.string ⟨#[]⟩] 104)/\wr.ownsRow w2.heap.size 9 1 (.slice (some ⟨g,0,none⟩) (2+2*m) pc) (2+2*m) (QaD (Qbn id text acts))/\Below w.heap.size w wr) (fun i _=>2+2*m - (intOf i).toNat)
 case atStart=>exact⟨0,none,0,Nat.zero_le _,rfl,aV.o,World.ownsRow_nil _ _ _ _,aX.o,aR.o,az.o⟩
 case round=>
  obtain⟨k,av,ac,hk,rfl,hv,aj,hd,aC,hB⟩:=hrel;have HV:=Qab hv;have HRO:=Qab aj;have af:=Qab hd;have a2:=Qab aC;have HB:=Qab hB;have hvz:=Qar hv;have hdz:=Qar hd;have a7:=Qcq aC (by omega);obtain⟨g',pc',aZ,hg1,hg2,ah⟩:=a7;injection aZ with hge1 hge2 hge3
  injection hge1 with hge1
  injection hge1 with hge1
  subst hge1;clear hge2 hge3 hv aj hd aC hB aV aX aR az;by_cases hlt:k<m;rotate_left
  ·have bc:k=m:=by omega
   subst bc;have x0:wr.cell? ⟨vb,0,none⟩=some (.string (sA id)):=Qaa HV.o 0;have x1:wr.cell? ⟨vb,1,none⟩=some (.slice av k ac):=Qaa HV.o 1;have x2:wr.cell? ⟨vb,2,none⟩=some (.string (sA text)):=Qaa HV.o 2;have z0:wr.cell? ⟨w.heap.size,0,none⟩=some (.string ⟨#[]⟩):=Qaa af.o 0;have z1:wr.cell? ⟨w.heap.size,1,none⟩=some (.slice none 0 0):=Qaa af.o 1;have z2:wr.cell? ⟨w.heap.size,2,none⟩=some (.string ⟨#[]⟩):=Qaa af.o 2;have ef:=Qah af.o;go_wp2_with fail;clear ef z0 z1 z2 x0 x1 x2;change bodyPost _ _ _ _ _ (setDlv wr w.heap.size (.string (sA id)) (.slice av k ac) (.string (sA text)));obtain⟨aD,bd⟩:=QfF wr w.heap.size (.string (sA id)) (.slice av k ac) (.string (sA text)) _ _ _ _ af.o;have aY:Below w.heap.size w (setDlv wr w.heap.size (.string (sA id)) (.slice av k ac) (.string (sA text))):=HB.o.trans (bd.below (fun k o e=>by rw[e];exact Nat.le_refl _) HB.o.size)
   have hUR:(setDlv wr w.heap.size (.string (sA id)) (.slice av k ac) (.string (sA text))).ownsRow w.heap.size 34 2 (.slice av k ac) k (Qbj (acts.take k)):=QtG HRO.o (fun e=>by
    obtain⟨_,cs,aL⟩:=Qbb HRO.o _ _ e af.o;injection aL with e1 e2
    exact absurd e2 (by decide))
   generalize setDlv wr w.heap.size (.string (sA id)) (.slice av k ac) (.string (sA text))=U at *;have y0:U.cell? ⟨w.heap.size,0,none⟩=some (.string (sA id)):=Qaa aD 0;have y1:U.cell? ⟨w.heap.size,1,none⟩=some (.slice av k ac):=Qaa aD 1;have y2:U.cell? ⟨w.heap.size,2,none⟩=some (.string (sA text)):=Qaa aD 2;refine bodyPost_ret (v:=.tuple #[.agg #[.string (sA id),.slice av k ac,.string (sA text)],.bool true]) (by simp[results,results157,go_sem,y0,y1,y2]) rfl ?_;rw[List.take_of_length_le (by rw[aH.o];exact Nat.le_refl _)]at hUR;exact⟨_,rfl,by rw[aH.o];exact hUR,aY⟩
  ·have aq:k<acts.length:=by rw[aH.o];exact hlt
   have a4:Hid (acts.take (k+1)=acts.take k++[acts[k]]):=List.take_succ_eq_append_getElem aq;have HJ:=Qab (Qvc id text acts k aq);have aK:=Qab (HK.o _ (List.getElem_mem aq));have p0:wr.cell? ⟨g,2+2*k,none⟩=some (.string (sA (iL acts[k].1.toNat))):=ah _ _ HJ.o.1;have ax:Hid (wr.cell? ⟨g,2+2*k+1,none⟩=some (.string (sA acts[k].2))):=ah _ _ HJ.o.2;generalize acts[k]=a at *;obtain⟨kn,aU⟩:∃ kn:Nat,a.1=(kn:Int):=⟨a.1.toNat,by have:=aK.o;omega⟩;have hkb:kn<=2147483647:=by have:=aK.o;omega
   have aN:a.1.toNat=kn:=by omega
   rw[aN]at p0;have ba:=Qab aU;have bb:=QdL 10 kn (by omega);have aW:Hid (∀ W,Calls Tryz.prog 204 #[.string (sA (iL kn))] W fun e w'=>e=.returned (.tuple #[.int .i64 (kn:Int),.nilIface])/\∃ t,w'=Lib.bytesWorld W 5 t):=fun W=>Tryz.strconv_Atoi (sA (iL kn)) (kn:Int) (by rw[Qal];omega) (Qgb kn) W
   generalize sA (iL kn)=DG at *;clear ah aU aN aq bb HJ aK;go_wp2_with fail;refine(aW.o _).mono ?_;rintro e w5 ⟨rfl,t5,aS⟩;have ag:Below wr.heap.size wr w5:=by rw[aS];exact Lib.bytesWorld_below wr 5 t5
   have aO:=Qab (HB.o.trans (ag.mono HB.o.size));have ak:=Qab (Qai HV.o ag);have HD5:=Qab (Qai af.o ag);have ap:Hid (w5.ownsRow w.heap.size 34 2 (.slice av k ac) k (Qbj (acts.take k))):=QaR (P:=fun _ _=>False) HRO.o (Fr.of_below ag) (fun _ _ h=>h);have HP5:=Qab (QaR (P:=fun _ _=>False) a2.o (Fr.of_below ag) (fun _ _ h=>h));have q1:w5.cell? ⟨g,2+2*k+1,none⟩=some (.string (sA a.2)):=(ag.cell (p:=⟨g,2+2*k+1,none⟩) (Qau ax.o)).trans ax.o;have x1:w5.cell? ⟨vb,1,none⟩=some (.slice av k ac):=Qaa ak.o 1;have aP:=Qar ak.o;have a1:=aO.o.size
   have ai:Hid (¬(Value.slice av k ac).ownBlock=some vb):=fun e=>by
    obtain⟨_,cs,aL⟩:=Qbb ap.o _ _ e ak.o;injection aL with e1 e2
    exact absurd e2 (by decide)
   obtain⟨ix,aT⟩:∃ ix:Nat,ix=2+2*k+1:=⟨_,rfl⟩;rw[<-aT]at q1;have hwi:IntKind.i64.wrap (2+2*(k:Int)+1)=(ix:Int):=by rw[IntKind.wrap_i64];omega
   have hwm:(ix:Int)<2+2*(m:Int):=by omega
   clear ag aS p0 ax aW aT;go_wp2_with fail;go_region_law (refine step_append_lies _ rfl (.tmp 75) (.tmp 83) 29 rfl w.heap.size 34 i0 (.agg #[.int .i64 0,.string ⟨#[]⟩]) 2 24 underlying29 hi a9 bf a8 rfl (by decide) (.slice av k ac) k (Qbj (acts.take k)) (by simp[Act.eval,Act.put]) (ap.o.alloc _) ⟨w5.heap.size,0,none⟩ 1 1 [.int .i64 (kn:Int),.string (sA a.2)] (by simp[Act.eval,Act.put]) rfl (Qux _ ((kn:Int),a.2) _) (QuH ((kn:Int),a.2)) (by decide) (by unfold maxLen;omega) (by omega) (by simp;omega) _ rfl ?_;intro g' cap' w6 ae ad hat hlt6;have HO6:=Qab ae;have HG6:=Qab ad;have t7:w6.cell? ⟨vb,1,none⟩=some (.slice av k ac):=ad.cell (a:=⟨vb,1,none⟩) ((World.cell?_of_block (a:=⟨vb,1,none⟩) (w:=w5) (Below.heap_alloc _ _ _ aP)).trans x1) (fun e=>ai.o e.symm);have hft:∀ j,w6.frozen? ⟨vb,j,none⟩=false:=fun j=>(World.frozen?_of_block (a:=⟨vb,j,none⟩) (w:=w5) ((ad.block vb (by simp;omega) (fun e=>ai.o e.symm)).trans (Below.heap_alloc _ _ _ aP))).trans (Qah ak.o j);clear ae ad;skip)
   all_goals go_wp2
   all_goals have hf6:Fr (PTo vb) w5 w6:=(((Fr.refl _ w5).alloc _).drew).grown HG6.o (fun k o e ho=>by
    have:=Qbb (ap.o.alloc _) k o e ho
    exact Or.inl this.2)
   all_goals have hb6:w6.heap[vb]?=some (.cells #[.string (sA id),.slice av k ac,.string (sA text)] 104):=(HG6.o.block vb (by simp;omega) (fun e=>ai.o e.symm)).trans (Qac ak.o)
   all_goals have hf7:=hf6.set hb6 (Or.inr ⟨rfl,_,rfl⟩) 1 (.slice (some ⟨g',0,none⟩) (k+1) cap')
   all_goals have a0:Below w.heap.size w w6:=((aO.o.alloc a1 _).drew).grown HG6.o (by simp;omega) (fun k hk=>(ap.o.lt k hk).1)
   all_goals have hd7:=hf7.block _ _ HD5.o (fun h=>by
    rcases h with⟨cs,h⟩ | ⟨h,_⟩
    ·injection h with e1 e2
     exact absurd e2 (by decide)
    ·omega)
   all_goals have hp7:=QaR HP5.o hf7 (fun k cs h=>by
    rcases h with⟨cs,h⟩ | ⟨_,cs,h⟩
    ·injection h with e1 e2
     exact absurd e2 (by decide)
    ·injection h with e1 e2
     exact absurd e2 (by decide))
   all_goals have ho7:(w6.setCell ⟨vb,1,none⟩ (.slice (some ⟨g',0,none⟩) (k+1) cap')).ownsRow w.heap.size 34 2 (.slice (some ⟨g',0,none⟩) (k+1) cap') (k+1) (Qbj (acts.take (k+1))):=(by
    rw[a4.o,<-Qib,ba.o]
    exact QaR (P:=fun k o=>∃ cs,o=.cells cs 104) HO6.o ((Fr.refl _ w6).set hb6 ⟨_,rfl⟩ 1 _) (fun k cs h=>by
     obtain⟨cs,h⟩:=h;injection h with e1 e2
     exact absurd e2 (by decide)))
   all_goals exact⟨⟨k+1,some ⟨g',0,none⟩,cap',by omega,by go_num,Qag _ _ _ _ _ _ hb6,ho7,hd7,hp7,a0.setCell (show w.heap.size<=vb by omega) _⟩,by simp[intOf];omega⟩
end
section
open Go.RowKit Go.Maps Go.Sort
attribute [local go_sem ↓] Go.wp_at_zero Go.wp_at_succ
theorem Ql8(B db bd bn n:Nat)(D N:Fs)(p:List Dop)(ql qf:Int)(pv:Value)(w:World)(h:DJ w B db bd bn n D N p ql qf false pv)(hn:n<=500000) :
 Calls Tryz.prog 312 #[.pointer (some ⟨db,0,none⟩)] w fun e w'=>Below w.heap.size w w'/\∃ v l,e=.returned (.tuple #[v,.nilIface])/\NamV w' w.heap.size v l/\(∀ x,x∈l↔(N x).isSome=true)/\l.length<=n/\l.Nodup:=by
 obtain⟨D0,aa,ax⟩:=h.mn;have aP:=aa.lt;have hdl:=Qar h.blk;have c1:w.cell? ⟨db,1,none⟩=some (.map (some bn)):=Qaa h.blk 1;have c5:w.cell? ⟨db,5,none⟩=some (.bool false):=Qaa h.blk 5;have ag:=Qab (Qwh ax);have aU:=Qab (World.ownsMap.size_le aa);have HOW:=Qab aa;obtain⟨i0,hi,aY,aX,aQ⟩:=info_parts Tryz.infoStr;clear h ax;go_enter func312,ntmps312;go_wp2_with (first|(at_range;refine wpList_range_own _ rfl _ 56 rfl 9 73 Qoa Qvk _ bn n _ rfl aa ?_;intro w0 ac az aZ)|go_in);go_frame;have aL:Hid (Below w.heap.size w w0):=(Below.refl _ _).grown az (Nat.le_refl _) (fun j hj=>by cases hj);clear az aZ c1 c5
 go_loopw [4,5] (fun v _ wr=>∃(left:Lit->Bool) (ap:Nat) (ss:List (L8)),wr.ranges Tryz.prog 9 ptrR bn w.heap.size n D0 left ap/\ss.length+ap<=Maps.size D0/\NamV wr w.heap.size v ss/\Collected D0 left ss/\Below w.heap.size w wr/\w.heap.size<wr.heap.size) (fun _ _ wr=>wr.rangeLeft bn w.heap.size)
 case atStart=>exact⟨_,_,[],ac,by simp,World.ownsRow_nil _ _ _ _,Collected.start D0,aL.o,ac.lt⟩
 case round=>
  obtain⟨left,ap,ss,aq,hcs,ab,hC,hB,hsz⟩:=hrel;have HC:=Qab hC;have HB:=Qab hB;have ak:=Qab ab;have hsn:=aU.o;obtain⟨va,vc,aM⟩:=Qat ab;subst aM;clear hC hB ab ac;go_wp2_with (first|(at_next;refine wpList_next_ranges _ rfl _ rfl 9 Qoa ptrR encStr Qyf Qym Qyp bn w.heap.size n _ _ _ rfl aq ?_ ?_)|go_in)
  ·intro hc0 aH;have HP:=Qab (fun x=>(HC.o.2 x).trans ⟨fun h=>(ag.o x).1 h.1,fun h=>⟨(ag.o x).2 h,aH _⟩⟩);rcases ak.o.2 with⟨aO,h0⟩ | ⟨g,cap,cur,hv,hg,hb,aJ,aS,af,aC⟩
   ·injection aO with hv1 hv2 hv3
    subst hv1 hv3;have aR:=List.eq_nil_of_length_eq_zero h0;subst aR;go_wp2_with (go_at_call 317;refine(Tryz.sort_Strings_none none 0 wr).mono ?_;rintro e w3 ⟨rfl,rfl⟩);go_ret2;exact⟨HB.o,_,[],rfl,ak.o,HP.o,by simp,List.nodup_nil⟩
   injection hv with hv1 hv2 hv3
   subst hv1 hv3;have aE:=Qar hb;have HH:=Qab (holds_of_block (ss:=ss) hb (by rw[<-aC,Nat.mul_one]))
   have aW:Hid (∀ k os,NamV (grow (putRow encStr (Sort.ahead wr k) g 0 (ss.mergeSort fun x y=>decide (x<=y)).toArray) os) w.heap.size (.slice (some ⟨g,0,none⟩) ss.length vc) (ss.mergeSort fun x y=>decide (x<=y))/\Below w.heap.size w (grow (putRow encStr (Sort.ahead wr k) g 0 (ss.mergeSort fun x y=>decide (x<=y)).toArray) os)):=fun k os=>by
    have hl:(ss.mergeSort fun x y=>decide (x<=y)).length=ss.length:=List.length_mergeSort _;refine⟨?_,HB.o.grown (grownBy_sorted _) HB.o.size (fun j hj=>by cases hj;exact hg)⟩;unfold NamV;rw[hl];exact ownsRow_sorted hl hg hb aJ aS af
   clear hb af aC;go_wp2_with (go_at_call 317;refine(Tryz.sort_Strings g 0 vc ss wr HH.o aE (by omega)).mono ?_;rintro e w3 ⟨rfl,k3,aG,aA⟩;obtain⟨ao,av⟩:=aW.o k3 aG;rw[<-aA]at ao av;have aV:=Qab ao;have aK:=Qab av;clear ao av aA);go_ret2;exact⟨aK.o,_,_,rfl,aV.o,fun x=>by rw[List.mem_mergeSort];exact HP.o x,by rw[List.length_mergeSort];omega,(List.mergeSort_perm ss _).nodup_iff.2 HC.o.1⟩
  ·intro x c kl yd yp w1 ar ae aI hv a0 ad aF aB aN hen;obtain⟨x',ex,rfl,hxl⟩:=Maps.keyOf_str QwL ae;obtain rfl:x=x':=encStr_inj ex;have a1:=Qab (HC.o.step aI a0);have aD:=Qab (HB.o.grown aB HB.o.size (fun j hj=>by cases hj;exact Nat.le_refl _));have aj:Hid (NamV w1 w.heap.size (.slice va ss.length vc) ss):=World.ownsRow.kept ak.o aB (Or.inr (row_ne_iter ak.o aq).symm);have hw1:w.heap.size<w1.heap.size:=by omega
   clear aN ex ae hv;go_wp2_with (at_builtin;refine wpList_append_own_at _ rfl _ _ 89 rfl w.heap.size 9 i0 _ 1 16 underlying89 hi aY aX aQ rfl (by decide) _ _ _ rfl (World.ownsRow.alloc aj.o _) ⟨w1.heap.size,0,none⟩ 1 1 [.string (sA x)] rfl rfl (cell_one_new _ _ _) (Qyx _) (by unfold maxLen;omega) (by omega) (by simp;omega) ?_;intro v5 w5 aw ay _ ah;have au:Hid ((w1.alloc (.cells #[encStr x] 9)).grownBy w5 (Value.slice va ss.length vc).ownBlock):=ay;have aT:=Qab aw;clear aw ay ah);have ai:=(ad.alloc (.cells #[encStr x] 9)).kept au.o (row_ne_low aj.o aP) (row_ne_iter aj.o ad);refine⟨⟨_,ar,ss++[x],ai,by rw[List.length_append];simp;omega,?_,a1.o,QcA aD.o aD.o.size au.o (fun k hk=>(World.ownsRow.lt aj.o k hk).1),?_⟩,by rw[ai.left_eq,aq.left_eq];exact aF⟩
   ·have:=aT.o;unfold NamV;rw[List.length_append,List.map_append];exact this
   ·have:=au.o.size;simp at this;omega
theorem Qqt(B db bd bn n:Nat)(D N:Fs)(p:List Dop)(ql qf:Int)(pv:Value)(w:World)(h:DJ w B db bd bn n D N p ql qf false pv)(hn:n<=500000) :
 Calls Tryz.prog 312 #[.pointer (some ⟨db,0,none⟩)] w fun e w'=>Below w.heap.size w w'/\∃ v l,e=.returned (.tuple #[v,.nilIface])/\NamV w' w.heap.size v l/\(∀ x,x∈l↔(N x).isSome=true)/\l.length<=n:=by
 refine(Ql8 B db bd bn n D N p ql qf pv w h hn).mono ?_;rintro e w' ⟨h1,v,l,h2,h3,h4,h5,_⟩;exact⟨h1,v,l,h2,h3,h4,h5⟩
end
section
open Go.RowKit
attribute [local go_sem ↓] Go.wp_at_zero Go.wp_at_succ
def nF (N:Fs) (o:Dop):Fs:=if o.kind=1 then Qfp N o.name o.data else if o.kind=3 then Qj2 N o.name else N
theorem Qyo{o:Dop}{A:AD}(h:(aDo o A).1=0):(aDo o A).2.N=nF A.N o:=by
 unfold aDo at h ⊢;unfold nF;by_cases h0:(aWr A.lf).1=0
 ·rw[if_pos h0];by_cases h1:o.kind=1
  ·rw[if_pos h1,if_pos h1]
  ·rw[if_neg h1,if_neg h1];by_cases h3:o.kind=3
   ·rw[if_pos h3,if_pos h3]
   ·rw[if_neg h3,if_neg h3]
 ·rw[if_neg h0]at h;by_cases h1:o.kind=1/\(aWr A.lf).1=16
  ·rw[if_pos h1]at h;cases h
  ·rw[if_neg h1]at h;exact absurd h h0
theorem Qtp:∀(l:List Dop) (A:AD),(Qa1 l A).1=0->(Qa1 l A).2.N=l.foldl nF A.N
 | [],A,_=>rfl
 |o::r,A,h=>by
  rw[Qa1]at h ⊢;by_cases h0:(aDo o A).1=0
  ·rw[if_pos h0]at h ⊢;rw[Qtp r _ h,Qyo h0];rfl
  ·rw[if_neg h0]at h;exact absurd h h0
theorem QxU(N:Fs)(fs:List Fl):(fs.map wOp).foldl nF N=Qbo N fs:=by
 unfold Qbo;rw[List.foldl_map];rfl
def syS:St:=⟨0,0,0,[],.nilIface,[]⟩
def Qbg (J:L8) (fs:List Fl):List Dop:=[wOp (kJ,J)]++([sOp]++(fs.map wOp++([sOp]++([rOp kJ]++[sOp]))))
def QxF (J id text:L8) (av:Value) (W:World):Prop:=Calls Tryz.prog 76 #[.agg #[.string (sA id),av,.string (sA text)],.string (sA kJ)] W fun e w'=>e=.returned (.string (sA J))∧Below W.heap.size W w'
theorem Qpq(B db bd bn n f1 x1 f2 x2 x3 n3:Nat)(A:AD)(J:L8)(b:Option Addr)(fl fc:Nat)(fs:List Fl)(w w2 w3 w4 w5:World)(h:AbsD w B db bd bn n A)(ap:QkS w (.slice b fl fc) fs)(aq:J.length<=100000000)(ae:Below w.heap.size w w2)
 (h3:w3.heap[f1]?=some (.cells #[.slice (some ⟨w2.heap.size,0,none⟩) 1 1] 40)/\w3.heap[x1]?=some (.cells #[Qcr db] 75))
 (af:Below (w2.alloc (.cells #[.string (sA kJ),.string (sA J)] 39)).heap.size (w2.alloc (.cells #[.string (sA kJ),.string (sA J)] 39)) w3)
 (h4:w4.heap[f2]?=some (.cells #[.slice b fl fc] 40)/\w4.heap[x2]?=some (.cells #[Qcr db] 75)) (ak:Below w3.heap.size w3 w4)
 (h5:w5.heap[x3]?=some (.cells #[Qcr db] 75)/\w5.heap[n3]?=some (.cells #[.string (sA kJ)] 9)) (aj:Below w4.heap.size w4 w5)
 (hn:n<=460000) (ai:fs.length<=10) (hp:A.p.length<=50) (ag:Qb7 A.p) (hs:∀ f∈fs,f.1.length<=1000/\f.2.length<=100000000) (av:∀ f∈fs,f.1≠kJ) :
 Calls Tryz.prog 74 #[.slice (some ⟨w5.heap.size,0,none⟩) 6 6] (w5.alloc (.cells #[wrF f1 x1,syF db,wrF f2 x2,syF db,rmF x3 n3,syF db] 109)) fun e w'=>e=.returned (Qcx (Qa1 (Qbg J fs) A).1)/\AbsD w' B db bd bn (n+1200) (Qa1 (Qbg J fs) A).2/\Fr (PDk B) w w'/\∀ o,w5.heap[w.heap.size]?=some (.cells o 104)->w'.heap[w.heap.size]?=some (.cells o 104):=by
 obtain⟨W,hW⟩:∃ W,W=w5.alloc (.cells #[wrF f1 x1,syF db,wrF f2 x2,syF db,rmF x3 n3,syF db] 109):=⟨_,rfl⟩;rw[<-hW];have ax:w3.heap[w2.heap.size]?=some (.cells #[.string (sA kJ),.string (sA J)] 39):=Qai (Qam _ _) af;have b5:Below w5.heap.size w5 W:=by rw[hW];exact(Below.refl _ _).alloc (Nat.le_refl _) _
 have b4:Below w4.heap.size w4 W:=aj.trans (b5.mono aj.size);have b3:Below w3.heap.size w3 W:=ak.trans (b4.mono ak.size);have b2:Below w.heap.size w W:=(ae.trans (((Below.refl _ _).alloc (Nat.le_refl _) _).mono ae.size)).trans ((af.mono (by have:=ae.size;simp;omega)).trans (b3.mono (by have:=ae.size;have:=af.size;simp at this;omega)));have hjW:=Qai ax b3
 have hl1:QkS W (.slice (some ⟨w2.heap.size,0,none⟩) 1 1) [(kJ,J)]:=⟨_,_,rfl,fun _=>⟨_,_,rfl,hjW,fun j hj=>by
  have:j=0:=by simp at hj;exact hj
  subst this
  exact ⟨Qaa hjW 0,Qaa hjW 1⟩⟩⟩
 have ab:W.heap[w5.heap.size]?=some (.cells #[wrF f1 x1,syF db,wrF f2 x2,syF db,rmF x3 n3,syF db] 109):=by rw[hW];exact Qam _ _
 obtain⟨ks,ad⟩:∃ ks:List St,ks=[⟨1,f1,x1,[(kJ,J)],.slice (some ⟨w2.heap.size,0,none⟩) 1 1,[]⟩,syS,⟨1,f2,x2,fs,.slice b fl fc,[]⟩,syS,⟨2,x3,n3,[],.nilIface,kJ⟩,syS]:=⟨_,rfl⟩;have ac:Qco ks=Qbg J fs:=by rw[ad];rfl
 have h6:ks.length=6:=by rw[ad];rfl
 have au:∀ k (hk:k<ks.length),W.cell? ⟨w5.heap.size,k,none⟩=some (stV db ks[k]):=fun k hk=>by
  subst ad;rcases(by omega:k=0\/k=1\/k=2\/k=3\/k=4\/k=5)with h|h|h|h|h|h<;>subst h
  ·exact Qaa ab 0
  ·exact Qaa ab 1
  ·exact Qaa ab 2
  ·exact Qaa ab 3
  ·exact Qaa ab 4
  ·exact Qaa ab 5
 have ah:QkS W (.slice b fl fc) fs:=ap.fr (P:=fun _ _=>False) (Fr.of_below b2) (fun _ _ h=>h)
 have hw:∀ s∈ks,StW db W s:=fun s hs'=>by
  rw[ad]at hs';simp only[List.mem_cons,List.not_mem_nil,or_false]at hs';rcases hs' with rfl|rfl|rfl|rfl|rfl|rfl
  ·exact Or.inr (Or.inl ⟨rfl,Qai h3.1 b3,Qai h3.2 b3,hl1,by simp,fun f hf=>by rw[List.mem_singleton.1 hf];exact⟨by show kJ.length<=1000;decide,aq⟩⟩)
  ·exact Or.inl rfl
  ·exact Or.inr (Or.inl ⟨rfl,Qai h4.1 b4,Qai h4.2 b4,ah,ai,hs⟩)
  ·exact Or.inl rfl
  ·exact Or.inr (Or.inr ⟨rfl,Qai h5.1 b5,Qai h5.2 b5,by show kJ.length<=1000;decide⟩)
  ·exact Or.inl rfl
 have ar:∀ k (hk:k<ks.length),ks[k].kind=2->(Qa1 (Qco (ks.take k)) A).1=0->((Qa1 (Qco (ks.take k)) A).2.N ks[k].x).isSome=true:=fun k hk hk2 h0=>by
  have hN:=Qtp _ _ h0;rw[hN];clear hN h0;subst ad;rcases(by omega:k=0\/k=1\/k=2\/k=3\/k=4\/k=5)with h|h|h|h|h|h<;>subst h
  ·exact absurd hk2 (by show(1:Nat)≠2;decide)
  ·exact absurd hk2 (by show(0:Nat)≠2;decide)
  ·exact absurd hk2 (by show(1:Nat)≠2;decide)
  ·exact absurd hk2 (by show(0:Nat)≠2;decide)
  ·show(([wOp (kJ,J)]++([sOp]++(fs.map wOp++([sOp]++[])))).foldl nF A.N kJ).isSome=true
   rw[List.foldl_append,List.foldl_append,List.foldl_append,QxU];show(Qbo (Qfp A.N kJ J) fs kJ).isSome=true
   rw[Qcw fs _ _ av];simp[Qfp]
  ·exact absurd hk2 (by show(0:Nat)≠2;decide)
 have aa:=Qio B db bd bn n w5.heap.size 6 A ks _ W (h.below b2) ab au hw (by omega) (by omega) hp ag ar;rw[ac,h6]at aa;refine aa.mono ?_;rintro e w6 ⟨rfl,aw,ao⟩;exact⟨rfl,aw,(Fr.of_below b2).trans ao,fun o ho=>ao.block _ _ (Qai ho b5) (PDk.notT (by decide) (by decide))⟩
theorem QqH(B db bd bn n:Nat)(A:AD)(J:L8)(id text:L8)(a:Option Addr)(m c:Nat)(b:Option Addr)(fl fc:Nat)(fs:List Fl)(w:World)(h:AbsD w B db bd bn n A)(aP:A.lf.down=false)
 (aN:QkS w (.slice b fl fc) fs) (aY:J.length<=100000000) (ah:∀ W,Below w.heap.size w W->QxF J id text (.slice a m c) W) (aF:A.N kJ=none) (aK:∀ f∈fs,f.1≠kJ)
 (hn:n<=460000) (ao:fs.length<=10) (hp:A.p.length<=50) (ac:Qb7 A.p) (hs:∀ f∈fs,f.1.length<=1000/\f.2.length<=100000000) :
 Calls Tryz.prog 44 #[.agg #[.string (sA id),.slice a m c,.string (sA text)],Qcr db,.slice b fl fc] w fun e w'=>e=.returned (Qcx (Qa1 (Qbg J fs) A).1)/\AbsD w' B db bd bn (n+1200) (Qa1 (Qbg J fs) A).2/\Fr (PDk B) w w':=by
 have a3:=Qab aN;have aX:=Qab ah;have a2:=Qab aF;have a7:=Qab aK;have HS:=Qab hs;have a8:=Qab ac;obtain⟨pv,ai⟩:=h;rw[aP]at ai;have a9:=Qab ai;have HD:Hid (AbsD w B db bd bn n A):=⟨pv,by rw[aP];exact ai⟩;obtain⟨W,hW⟩:∃ W,W=w.alloc (.cells #[.string (sA id),.slice a m c,.string (sA text)] 104):=⟨_,rfl⟩;have ar:Hid (Below w.heap.size w W):=by rw[hW];exact(Below.refl _ _).alloc (Nat.le_refl _) _
 have bf:Hid (W.heap[w.heap.size]?=some (.cells #[.string (sA id),.slice a m c,.string (sA text)] 104)):=by rw[hW];exact Qam _ _
 have a1:=Qab hW;have a6:=QmJ db;clear aN ah aF aK hs hW ac ai;go_enter func44,ntmps44;go_wp2_with fail;rw[<-a1.o];refine(Qqt B db bd bn n A.D A.N A.p A.lf.left A.lf.full pv W (a9.o.below ar.o) (by omega)).mono ?_;rintro e w1 ⟨aq,nv,l,rfl,ap,af,hll⟩;have aZ:=Qab ap;obtain⟨na,nc,a5⟩:=Qat ap;subst a5;have a0:Hid (kJ ∉ l):=fun hm=>by have h1:=(af kJ).1 hm;rw[a2.o]at h1;cases h1
 have aw:=Qab (ar.o.trans (aq.mono ar.o.size));have ae:=Qab (Qai bf.o aq);have a4:=aw.o.size;clear aq ap af;go_wp2_with (go_at_call 73;refine(Qih _ l _ w1 aZ.o (by omega) a0.o).mono ?_;rintro e w1' ⟨rfl,aQ⟩;rw[aQ];clear aQ);have v0:w1.cell? ⟨w.heap.size,0,none⟩=some (.string (sA id)):=Qaa ae.o 0;have v1:w1.cell? ⟨w.heap.size,1,none⟩=some (.slice a m c):=Qaa ae.o 1;have v2:w1.cell? ⟨w.heap.size,2,none⟩=some (.string (sA text)):=Qaa ae.o 2;have bb:=Qab (aX.o w1.drew (QfY aw.o));have aa:Hid (∀ W:World,W.heap[w.heap.size]?=some (.cells #[.string (sA id),.slice a m c,.string (sA text)] 104)->W.cell? ⟨w.heap.size,0,none⟩=some (.string (sA id))/\W.cell? ⟨w.heap.size,1,none⟩=some (.slice a m c)/\W.cell? ⟨w.heap.size,2,none⟩=some (.string (sA text))):=fun W hv=>⟨Qaa hv 0,Qaa hv 1,Qaa hv 2⟩
 clear a6;refine wp_region_held (S:=fun w'=>w'.cell? ⟨w.heap.size,0,none⟩=some (.string (sA id))/\w'.cell? ⟨w.heap.size,1,none⟩=some (.slice a m c)/\w'.cell? ⟨w.heap.size,2,none⟩=some (.string (sA text))) (by kernel_rfl) ?_;have hS:=aa.o w1.drew ae.o;refine Qao 0 20 (Qcr db) rfl hS (fun w' ⟨s1,s2,s3⟩=>by go_simp) ?_;simp only[pt,sz,sc];refine Qao 1 21 (.string (sA kJ)) rfl hS (fun w' ⟨s1,s2,s3⟩=>by go_simp) ?_;simp only[pt,sz,sc];refine Qao 2 22 (.agg #[.string (sA id),.slice a m c,.string (sA text)]) rfl hS (fun w' ⟨s1,s2,s3⟩=>by go_simp) ?_;simp only[pt,sz,sc];refine Qao 3 23 (.string (sA kJ)) rfl hS (fun w' ⟨s1,s2,s3⟩=>by go_simp) ?_;simp only[pt,sz,sc];refine Qao 8 28 (Qcr db) rfl hS (fun w' ⟨s1,s2,s3⟩=>by go_simp) ?_;simp only[pt,sz,sc];refine Qao 9 29 (Qcr db) rfl hS (fun w' ⟨s1,s2,s3⟩=>by go_simp) ?_;simp only[pt,sz,sc];refine Qao 10 30 (syF db) rfl hS (fun w' ⟨s1,s2,s3⟩=>by go_simp) ?_;simp only[pt,sz,sc];refine Qao 11 31 (Qcr db) rfl hS (fun w' ⟨s1,s2,s3⟩=>by go_simp) ?_;simp only[pt,sz,sc];refine Qao 12 32 (.slice b fl fc) rfl hS (fun w' ⟨s1,s2,s3⟩=>by go_simp) ?_;simp only[pt,sz,sc];refine Qao 14 34 (Qcr db) rfl hS (fun w' ⟨s1,s2,s3⟩=>by go_simp) ?_;simp only[pt,sz,sc];refine Qao 15 35 (Qcr db) rfl hS (fun w' ⟨s1,s2,s3⟩=>by go_simp) ?_;simp only[pt,sz,sc];refine Qao 16 36 (syF db) rfl hS (fun w' ⟨s1,s2,s3⟩=>by go_simp) ?_;simp only[pt,sz,sc];refine Qao 17 37 (Qcr db) rfl hS (fun w' ⟨s1,s2,s3⟩=>by go_simp) ?_;simp only[pt,sz,sc];refine Qao 18 38 (.string (sA kJ)) rfl hS (fun w' ⟨s1,s2,s3⟩=>by go_simp) ?_;simp only[pt,sz,sc];refine Qao 20 40 (Qcr db) rfl hS (fun w' ⟨s1,s2,s3⟩=>by go_simp) ?_;simp only[pt,sz,sc];refine Qao 21 41 (Qcr db) rfl hS (fun w' ⟨s1,s2,s3⟩=>by go_simp) ?_;simp only[pt,sz,sc];refine Qao 22 42 (syF db) rfl hS (fun w' ⟨s1,s2,s3⟩=>by go_simp) ?_;simp only[pt,sz,sc];refine wpAnyH_all (rs:=[4]) (by kernel_rfl) (by decide) (fun j hj=>?_);simp only[List.mem_singleton]at hj;subst hj;refine Qev rfl (by rfl) ?_;clear hS;go_simp;refine bb.o.mono ?_;rintro e w2 ⟨rfl,ag⟩;have ak:=QaT ag;have aE:=Qab (aw.o.trans (ak.mono a4));have ab:=Qab (Qai ae.o ak);have hs2:=aE.o.size;clear ak ag;refine⟨aa.o w2 ab.o,?_⟩
 try simp only[Act.put,List.setIfInBounds_toArray,List.set_cons_zero,List.set_cons_succ]
 have hS:=aa.o w2 ab.o;refine Qao 5 25 (.agg #[.string (sA kJ),.string (sA J)]) rfl hS (fun w' ⟨s1,s2,s3⟩=>by go_simp) ?_;simp only[pt,sz,sc];refine wpAnyH_all (rs:=[6]) (by kernel_rfl) (by decide) (fun j hj=>?_);simp only[List.mem_singleton]at hj;subst hj;refine Qev rfl (by rfl) ?_;clear hS;go_simp;refine⟨aa.o _ (Qac ab.o),?_⟩
 try simp only[Act.put,List.setIfInBounds_toArray,List.set_cons_zero,List.set_cons_succ]
 have hS:=aa.o (w2.alloc (.cells #[.string (sA kJ),.string (sA J)] 39)) (Qac ab.o);refine wpAnyH_all (rs:=[7]) (by kernel_rfl) (by decide) (fun j hj=>?_);simp only[List.mem_singleton]at hj;subst hj;refine Qev rfl (by rfl) ?_;clear hS;go_simp;refine(Qd3 db (some ⟨w2.heap.size,0,none⟩) 1 1 (w2.alloc (.cells #[.string (sA kJ),.string (sA J)] 39))).mono ?_;rintro e w3 ⟨f1,x1,rfl,aB,aA,az⟩;have aW:=Qab (And.intro aB aA);have aO:=Qab az;have aj:=Qab (Qai (Qac ab.o) az);clear aB aA az;refine⟨aa.o w3 aj.o,?_⟩
 try simp only[Act.put,List.setIfInBounds_toArray,List.set_cons_zero,List.set_cons_succ]
 have hS:=aa.o w3 aj.o;refine wpAnyH_all (rs:=[13]) (by kernel_rfl) (by decide) (fun j hj=>?_);simp only[List.mem_singleton]at hj;subst hj;refine Qev rfl (by rfl) ?_;clear hS;go_simp;refine(Qd3 db b fl fc w3).mono ?_;rintro e w4 ⟨f2,x2,rfl,aR,aJ,ay⟩;have aV:=Qab (And.intro aR aJ);have aT:=Qab ay;have au:=Qab (Qai aj.o ay);clear aR aJ ay;refine⟨aa.o w4 au.o,?_⟩
 try simp only[Act.put,List.setIfInBounds_toArray,List.set_cons_zero,List.set_cons_succ]
 have hS:=aa.o w4 au.o;refine wpAnyH_all (rs:=[19]) (by kernel_rfl) (by decide) (fun j hj=>?_);simp only[List.mem_singleton]at hj;subst hj;refine Qev rfl (by rfl) ?_;clear hS;go_simp;refine(QeO db kJ w4).mono ?_;rintro e w5 ⟨x3,n3,rfl,aM,aG,av⟩;have aU:=Qab (And.intro aM aG);have aD:=Qab av;have ad:=Qab (Qai au.o av);clear aM aG av;refine⟨aa.o w5 ad.o,?_⟩
 try simp only[Act.put,List.setIfInBounds_toArray,List.set_cons_zero,List.set_cons_succ]
 have hS:=aa.o w5 ad.o;refine wpAnyH_all (rs:=[23]) (by kernel_rfl) (by decide) (fun j hj=>?_);simp only[List.mem_singleton]at hj;subst hj;refine Qev rfl (by rfl) ?_;clear hS;go_simp;refine⟨aa.o _ (Qac ad.o),?_⟩
 try simp only[Act.put,List.setIfInBounds_toArray,List.set_cons_zero,List.set_cons_succ]
 have hS:=aa.o (w5.alloc (.cells #[wrF f1 x1,syF db,wrF f2 x2,syF db,rmF x3 n3,syF db] 109)) (Qac ad.o);refine wpAnyH_all (rs:=[24]) (by kernel_rfl) (by decide) (fun j hj=>?_);simp only[List.mem_singleton]at hj;subst hj;refine Qev rfl (by rfl) ?_;clear hS;go_simp;refine(Qpq B db bd bn n f1 x1 f2 x2 x3 n3 A J b fl fc fs w w2 w3 w4 w5 HD.o a3.o aY aE.o aW.o aO.o aV.o aT.o aU.o aD.o hn ao hp a8.o HS.o a7.o).mono ?_;rintro e w6 ⟨aC,aL,aH,aS⟩;obtain⟨ev,ax⟩:∃ ev,ev=Qcx (Qa1 (Qbg J fs) A).1:=⟨_,rfl⟩;rw[<-ax]at aC;subst aC;have bc:=Qab ax;clear ax;have bg:=Qab aL;have ba:=Qab aH;have aI:=Qab (aS _ ad.o);clear aL aH aS aW aO aV aT aU aD;refine⟨aa.o w6 aI.o,?_⟩
 try simp only[Act.put,List.setIfInBounds_toArray,List.set_cons_zero,List.set_cons_succ]
 have hS:=aa.o w6 aI.o;refine Qao 25 6 ev rfl hS (fun w' ⟨s1,s2,s3⟩=>by go_simp) ?_;simp only[pt,sz,sc];refine wpAnyH_done (by kernel_rfl) ?_ _
 try simp only[Act.put,List.setIfInBounds_toArray,List.set_cons_zero,List.set_cons_succ]
 clear hS;simp only[Exit.then]
 all_goals go_wp2
 all_goals go_ret
 all_goals exact⟨by rw[<-bc.o];rfl,bg.o,ba.o⟩
theorem QuU(db:Nat)(W:World):(method 534 52 (.pointer (some ⟨db,0,none⟩)) "Read").run Tryz.prog W=.ok (313,.pointer (some ⟨db,0,none⟩)) W:=by kernel_rfl
def QxA (fs:List Fl) (W:World) (e:Ending) (w':World):Prop:=
 (fs=[]∧Qtc W e w')∨∃ id text acts,filesL id acts text=.ok fs∧id.length≤2000000∧text.length≤2000000∧(∀ a∈acts,a.2.length≤2000000)∧acts.length≤2000000∧Qt5 id text acts W e w'
def Qa8 (x:L8) (fs:List Fl):List Dop:=fs.map wOp++([sOp]++([rOp x]++[sOp]))
theorem Qhx(B db bd bn n f1 x1 x2 n2:Nat)(A:AD)(x:L8)(b:Option Addr)(fl fc:Nat)(fs:List Fl)(w w3 w4 w5:World)(h:AbsD w B db bd bn n A)(ar:QkS w3 (.slice b fl fc) fs)(ah:Below w.heap.size w w3)
 (h4:w4.heap[f1]?=some (.cells #[.slice b fl fc] 40)/\w4.heap[x1]?=some (.cells #[Qcr db] 75)) (ak:Below w3.heap.size w3 w4)
 (h5:w5.heap[x2]?=some (.cells #[Qcr db] 75)/\w5.heap[n2]?=some (.cells #[.string (sA x)] 9)) (ai:Below w4.heap.size w4 w5)
 (hn:n<=460000) (af:fs.length<=10) (hp:A.p.length<=50) (ag:Qb7 A.p) (hs:∀ f∈fs,f.1.length<=1000/\f.2.length<=100000000) (au:∀ f∈fs,f.1≠x) (hx:x.length<=1000) (hN:(A.N x).isSome=true) :
 Calls Tryz.prog 74 #[.slice (some ⟨w5.heap.size,0,none⟩) 4 4] (w5.alloc (.cells #[wrF f1 x1,syF db,rmF x2 n2,syF db] 109)) fun e w'=>e=.returned (Qcx (Qa1 (Qa8 x fs) A).1)/\AbsD w' B db bd bn (n+1200) (Qa1 (Qa8 x fs) A).2/\Fr (PDk B) w w':=by
 obtain⟨W,hW⟩:∃ W,W=w5.alloc (.cells #[wrF f1 x1,syF db,rmF x2 n2,syF db] 109):=⟨_,rfl⟩;rw[<-hW];have b5:Below w5.heap.size w5 W:=by rw[hW];exact(Below.refl _ _).alloc (Nat.le_refl _) _
 have b4:Below w4.heap.size w4 W:=ai.trans (b5.mono ai.size);have b3:Below w3.heap.size w3 W:=ak.trans (b4.mono ak.size);have b2:Below w.heap.size w W:=ah.trans (b3.mono ah.size);have ac:W.heap[w5.heap.size]?=some (.cells #[wrF f1 x1,syF db,rmF x2 n2,syF db] 109):=by rw[hW];exact Qam _ _
 obtain⟨ks,ad⟩:∃ ks:List St,ks=[⟨1,f1,x1,fs,.slice b fl fc,[]⟩,syS,⟨2,x2,n2,[],.nilIface,x⟩,syS]:=⟨_,rfl⟩;have ab:Qco ks=Qa8 x fs:=by rw[ad];rfl
 have h6:ks.length=4:=by rw[ad];rfl
 have ap:∀ k (hk:k<ks.length),W.cell? ⟨w5.heap.size,k,none⟩=some (stV db ks[k]):=fun k hk=>by
  subst ad;rcases(by omega:k=0\/k=1\/k=2\/k=3)with h|h|h|h<;>subst h
  ·exact Qaa ac 0
  ·exact Qaa ac 1
  ·exact Qaa ac 2
  ·exact Qaa ac 3
 have ae:QkS W (.slice b fl fc) fs:=ar.fr (P:=fun _ _=>False) (Fr.of_below b3) (fun _ _ h=>h)
 have hw:∀ s∈ks,StW db W s:=fun s hs'=>by
  rw[ad]at hs';simp only[List.mem_cons,List.not_mem_nil,or_false]at hs';rcases hs' with rfl|rfl|rfl|rfl
  ·exact Or.inr (Or.inl ⟨rfl,Qai h4.1 b4,Qai h4.2 b4,ae,af,hs⟩)
  ·exact Or.inl rfl
  ·exact Or.inr (Or.inr ⟨rfl,Qai h5.1 b5,Qai h5.2 b5,hx⟩)
  ·exact Or.inl rfl
 have ao:∀ k (hk:k<ks.length),ks[k].kind=2->(Qa1 (Qco (ks.take k)) A).1=0->((Qa1 (Qco (ks.take k)) A).2.N ks[k].x).isSome=true:=fun k hk hk2 h0=>by
  have aj:=Qtp _ _ h0;rw[aj];clear aj h0;subst ad;rcases(by omega:k=0\/k=1\/k=2\/k=3)with h|h|h|h<;>subst h
  ·exact absurd hk2 (by show(1:Nat)≠2;decide)
  ·exact absurd hk2 (by show(0:Nat)≠2;decide)
  ·show((fs.map wOp++([sOp]++[])).foldl nF A.N x).isSome=true
   rw[List.foldl_append,QxU];show(Qbo A.N fs x).isSome=true
   rw[Qcw fs _ _ au];exact hN
  ·exact absurd hk2 (by show(0:Nat)≠2;decide)
 have aa:=Qio B db bd bn n w5.heap.size 4 A ks _ W (h.below b2) ac ap hw (by omega) (by omega) hp ag ao;rw[ab,h6]at aa;refine aa.mono ?_;rintro e w6 ⟨rfl,av,aq⟩;exact⟨rfl,av,(Fr.of_below b2).trans aq⟩
theorem Qn1(B db bd bn n:Nat)(A:AD)(x s:L8)(w:World)(h:AbsD w B db bd bn n A)(aS:A.lf.down=false)(hx:x.length<=1000)(hs:A.N x=some s)(hsl:s.length<=90000000)
 (ht:Tab w) (fs:List Fl) (aP:∀ W,Below w.heap.size w W->Calls Tryz.prog 157 #[.string (sA x),.string (sA s)] W (QxA fs W)) (ar:fs.length<=10) (aQ:∀ f∈fs,f.1.length<=1000/\f.2.length<=100000000) (aO:∀ f∈fs,f.1≠x)
 (hn:n<=460000) (hp:A.p.length<=50) (ak:Qb7 A.p) :
 Calls Tryz.prog 100 #[Qcr db,.string (sA x)] w fun e w'=>e=.returned (Qcx (Qa1 (Qa8 x fs) A).1)/\AbsD w' B db bd bn (n+1200) (Qa1 (Qa8 x fs) A).2/\Fr (PDk B) w w':=by
 have aV:=Qab ak;obtain⟨pv,aB⟩:=h;rw[aS]at aB;have aZ:=Qab aB;have HD:Hid (AbsD w B db bd bn n A):=⟨pv,by rw[aS];exact aB⟩;have aR:Hid ((A.N x).isSome=true):=by rw[hs];exact rfl
 have aT:=QuU db;have aY:=Qab aP;have HT:=Qab ht;have aN:=Qab aQ;have aU:=Qab aO;clear ak aB aP ht aQ aO;go_enter func100,ntmps100;go_wp2_with fail;refine(Qsn B db bd bn n A.D A.N A.p A.lf.left A.lf.full pv x s w aZ.o (by omega) hs (by omega)).mono ?_;rintro e w1 ⟨aL,gb,rc,rfl,hrc⟩
 have hcv:(convert 244 9 (.slice (some ⟨gb,0,none⟩) s.length rc)).run Tryz.prog w1=.ok (.string (sA s)) w1:=run_convert_bytes_back (P:=Tryz.prog) w1 244 9 5 ⟨gb,0,none⟩ rc s underlying244 underlying5 underlying9 (fun j hj=>by
  rw [Qbu];exact hrc j hj)
 have ay:=Qab aL;clear hrc aL hs;go_wp2_with fail;refine(aY.o _ ay.o).mono ?_;rintro e w2 (⟨hf0,rfl,hb2⟩ | ⟨id,text,acts,hok,k1,k2,k3,k4,v,rfl,hrow,hb2⟩)
 ·have aj:=Qab (ay.o.trans (hb2.mono ay.o.size));clear hb2 hcv;subst hf0;go_wp2_with fail;obtain⟨V,hV⟩:∃ V,V=w2.alloc (.cells #[.string ⟨#[]⟩,.slice none 0 0,.string ⟨#[]⟩] 104):=⟨_,rfl⟩;rw[<-hV];have aD:Hid (Below w.heap.size w V):=by rw[hV];exact aj.o.alloc aj.o.size _
  have aC:Hid (QkS V (.slice none 0 0) []):=⟨none,0,rfl,fun h=>absurd rfl h⟩;clear hV aT;refine wp_region_held (S:=fun _=>True) (by kernel_rfl) ?_;have hS:=True.intro;refine Qao 0 32 (Qcr db) rfl hS (fun w' _=>by go_simp) ?_;simp only[pt,sz,sc];refine Qao 1 33 (.slice none 0 0) rfl hS (fun w' _=>by go_simp) ?_;simp only[pt,sz,sc];refine Qao 3 35 (Qcr db) rfl hS (fun w' _=>by go_simp) ?_;simp only[pt,sz,sc];refine Qao 4 36 (Qcr db) rfl hS (fun w' _=>by go_simp) ?_;simp only[pt,sz,sc];refine Qao 5 37 (syF db) rfl hS (fun w' _=>by go_simp) ?_;simp only[pt,sz,sc];refine Qao 6 38 (Qcr db) rfl hS (fun w' _=>by go_simp) ?_;simp only[pt,sz,sc];refine Qao 7 39 (.string (sA x)) rfl hS (fun w' _=>by go_simp) ?_;simp only[pt,sz,sc];refine Qao 9 41 (Qcr db) rfl hS (fun w' _=>by go_simp) ?_;simp only[pt,sz,sc];refine Qao 10 42 (Qcr db) rfl hS (fun w' _=>by go_simp) ?_;simp only[pt,sz,sc];refine Qao 11 43 (syF db) rfl hS (fun w' _=>by go_simp) ?_;simp only[pt,sz,sc];refine wpAnyH_all (rs:=[2]) (by kernel_rfl) (by decide) (fun j hj=>?_);simp only[List.mem_singleton]at hj;subst hj;refine Qev rfl (by rfl) ?_;clear hS;go_simp;refine(Qd3 db none 0 0 V.drew).mono ?_;rintro e w4 ⟨f1,x1,rfl,ag,af,aa⟩;have az:=QaT aa;have aA:=Qab (And.intro ag af);have aw:=Qab az;clear ag af az aa
  try simp only[Act.put,List.setIfInBounds_toArray,List.set_cons_zero,List.set_cons_succ]
  have hS:=True.intro;refine wpAnyH_all (rs:=[8]) (by kernel_rfl) (by decide) (fun j hj=>?_);simp only[List.mem_singleton]at hj;subst hj;refine Qev rfl (by rfl) ?_;clear hS;go_simp;refine(QeO db x w4).mono ?_;rintro e w5 ⟨x3,n3,rfl,au,ao,av⟩;have ax:=Qab (And.intro au ao);have ai:=Qab av;clear au ao av
  try simp only[Act.put,List.setIfInBounds_toArray,List.set_cons_zero,List.set_cons_succ]
  have hS:=True.intro;refine wpAnyH_all (rs:=[12]) (by kernel_rfl) (by decide) (fun j hj=>?_);simp only[List.mem_singleton]at hj;subst hj;refine Qev rfl (by rfl) ?_;clear hS;go_simp
  try simp only[Act.put,List.setIfInBounds_toArray,List.set_cons_zero,List.set_cons_succ]
  have hS:=True.intro;refine wpAnyH_all (rs:=[13]) (by kernel_rfl) (by decide) (fun j hj=>?_);simp only[List.mem_singleton]at hj;subst hj;refine Qev rfl (by rfl) ?_;clear hS;go_simp;refine(Qhx B db bd bn n f1 x1 x3 n3 A x none 0 0 [] w V w4 w5 HD.o aC.o aD.o aA.o aw.o ax.o ai.o hn ar hp aV.o aN.o aU.o hx aR.o).mono ?_;rintro e w6 ⟨ah,aq,ap⟩;obtain⟨ev,ae⟩:∃ ev,ev=Qcx (Qa1 (Qa8 x []) A).1:=⟨_,rfl⟩;rw[<-ae]at ah;subst ah;have aI:=Qab ae;clear ae;have aJ:=Qab aq;have aG:=Qab ap;clear aq ap aA aw ax ai
  try simp only[Act.put,List.setIfInBounds_toArray,List.set_cons_zero,List.set_cons_succ]
  have hS:=True.intro;refine Qao 14 4 ev rfl hS (fun w' _=>by go_simp) ?_;simp only[pt,sz,sc];refine wpAnyH_done (by kernel_rfl) ?_ _
  try simp only[Act.put,List.setIfInBounds_toArray,List.set_cons_zero,List.set_cons_succ]
  clear hS;simp only[Exit.then]
  all_goals go_wp2
  all_goals go_ret
  all_goals exact⟨by rw[<-aI.o];rfl,aJ.o,aG.o⟩
 ·have aj:=Qab (ay.o.trans (hb2.mono ay.o.size));clear hb2 hcv;obtain⟨va,vc,aE⟩:=Qat hrow;subst aE;have aW:Hid (QjB w2 (.slice va acts.length vc) acts):=QjB.of_owns hrow;have aK:=Qab hok;clear hrow hok;go_wp2_with fail;obtain⟨U,hU⟩:∃ U,U=w2.alloc (.cells #[.string (sA id),.slice va acts.length vc,.string (sA text)] 104):=⟨_,rfl⟩;rw[<-hU];have aH:Below w2.heap.size w2 U:=by rw[hU];exact(Below.refl _ _).alloc (Nat.le_refl _) _
  have aF:Hid (Below w.heap.size w U):=aj.o.trans (aH.mono aj.o.size);have aM:=Qab (aW.o.below aH);clear hU aH;refine(Qid id text acts _ U (HT.o.below aF.o) aM.o k1 k2 k3 k4).mono ?_;rintro e V ⟨aX,⟨ac,fv,ad,rfl,ab⟩ | ⟨k,hk,_⟩⟩;rotate_left
  ·rw[aK.o]at hk;cases hk
  have a0:ac=fs:=by rw[aK.o]at ad;injection ad with h;exact h.symm
  subst a0;have aD:=Qab (aF.o.trans (aX.mono aF.o.size));obtain⟨b,fc,aE⟩:=Qat ab;subst aE;have aC:Hid (QkS V (.slice b ac.length fc) ac):=QkS.of_owns ab;clear aX ab ad aT k1 k2 k3 k4 aM aW;go_wp2_with fail;refine wp_region_held (S:=fun _=>True) (by kernel_rfl) ?_;have hS:=True.intro;refine Qao 0 32 (Qcr db) rfl hS (fun w' _=>by go_simp) ?_;simp only[pt,sz,sc];refine Qao 1 33 (.slice b ac.length fc) rfl hS (fun w' _=>by go_simp) ?_;simp only[pt,sz,sc];refine Qao 3 35 (Qcr db) rfl hS (fun w' _=>by go_simp) ?_;simp only[pt,sz,sc];refine Qao 4 36 (Qcr db) rfl hS (fun w' _=>by go_simp) ?_;simp only[pt,sz,sc];refine Qao 5 37 (syF db) rfl hS (fun w' _=>by go_simp) ?_;simp only[pt,sz,sc];refine Qao 6 38 (Qcr db) rfl hS (fun w' _=>by go_simp) ?_;simp only[pt,sz,sc];refine Qao 7 39 (.string (sA x)) rfl hS (fun w' _=>by go_simp) ?_;simp only[pt,sz,sc];refine Qao 9 41 (Qcr db) rfl hS (fun w' _=>by go_simp) ?_;simp only[pt,sz,sc];refine Qao 10 42 (Qcr db) rfl hS (fun w' _=>by go_simp) ?_;simp only[pt,sz,sc];refine Qao 11 43 (syF db) rfl hS (fun w' _=>by go_simp) ?_;simp only[pt,sz,sc];refine wpAnyH_all (rs:=[2]) (by kernel_rfl) (by decide) (fun j hj=>?_);simp only[List.mem_singleton]at hj;subst hj;refine Qev rfl (by rfl) ?_;clear hS;go_simp;refine(Qd3 db b ac.length fc V.drew).mono ?_;rintro e w4 ⟨f1,x1,rfl,ag,af,aa⟩;have az:=QaT aa;have aA:=Qab (And.intro ag af);have aw:=Qab az;clear ag af az aa
  try simp only[Act.put,List.setIfInBounds_toArray,List.set_cons_zero,List.set_cons_succ]
  have hS:=True.intro;refine wpAnyH_all (rs:=[8]) (by kernel_rfl) (by decide) (fun j hj=>?_);simp only[List.mem_singleton]at hj;subst hj;refine Qev rfl (by rfl) ?_;clear hS;go_simp;refine(QeO db x w4).mono ?_;rintro e w5 ⟨x3,n3,rfl,au,ao,av⟩;have ax:=Qab (And.intro au ao);have ai:=Qab av;clear au ao av
  try simp only[Act.put,List.setIfInBounds_toArray,List.set_cons_zero,List.set_cons_succ]
  have hS:=True.intro;refine wpAnyH_all (rs:=[12]) (by kernel_rfl) (by decide) (fun j hj=>?_);simp only[List.mem_singleton]at hj;subst hj;refine Qev rfl (by rfl) ?_;clear hS;go_simp
  try simp only[Act.put,List.setIfInBounds_toArray,List.set_cons_zero,List.set_cons_succ]
  have hS:=True.intro;refine wpAnyH_all (rs:=[13]) (by kernel_rfl) (by decide) (fun j hj=>?_);simp only[List.mem_singleton]at hj;subst hj;refine Qev rfl (by rfl) ?_;clear hS;go_simp;refine(Qhx B db bd bn n f1 x1 x3 n3 A x b ac.length fc ac w V w4 w5 HD.o aC.o aD.o aA.o aw.o ax.o ai.o hn ar hp aV.o aN.o aU.o hx aR.o).mono ?_;rintro e w6 ⟨ah,aq,ap⟩;obtain⟨ev,ae⟩:∃ ev,ev=Qcx (Qa1 (Qa8 x ac) A).1:=⟨_,rfl⟩;rw[<-ae]at ah;subst ah;have aI:=Qab ae;clear ae;have aJ:=Qab aq;have aG:=Qab ap;clear aq ap aA aw ax ai
  try simp only[Act.put,List.setIfInBounds_toArray,List.set_cons_zero,List.set_cons_succ]
  have hS:=True.intro;refine Qao 14 4 ev rfl hS (fun w' _=>by go_simp) ?_;simp only[pt,sz,sc];refine wpAnyH_done (by kernel_rfl) ?_ _
  try simp only[Act.put,List.setIfInBounds_toArray,List.set_cons_zero,List.set_cons_succ]
  clear hS;simp only[Exit.then]
  all_goals go_wp2
  all_goals go_ret
  all_goals exact⟨by rw[<-aI.o];rfl,aJ.o,aG.o⟩
end
end Go.Proofs.YthkibedbcbgajaaGreatDoor
