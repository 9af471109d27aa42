import Derived.Defers
import Derived.Recover
import Derived.LaidEql
import Derived.RowKitTokens
import Derived.Test.YtgnkjijocdmniaaGreatDoorZReaderD
namespace Go.Proofs.YtgnkjijocdmniaaGreatDoor
set_option linter.unusedVariables false
set_option linter.unusedSimpArgs false
set_option maxRecDepth 100000
set_option maxHeartbeats 4000000
open Go.Proofs.Tryz
section
open Go.RowKit
theorem Qkj(W:World)(v:Value)(xT:TypeId):(Instr.typeAssert (.iface 125 v) xT 125 true).run Tryz.prog W=.ok (.tuple #[v,.bool true]) W:=by kernel_rfl
theorem QlA(w:World):Calls Tryz.prog 88 #[.nilIface] w fun e w'=>e=.returned (.pointer none)/\w'=w:=by
 go_enter func88,ntmps88;go_wp2;go_ret;exact⟨rfl,rfl⟩
theorem Qic(a:Addr)(w:World):Calls Tryz.prog 88 #[.iface 125 (.pointer (some a))] w fun e w'=>e=.returned (.pointer (some a))/\w'=w:=by
 go_enter func88,ntmps88;have hta:=Qkj w (.pointer (some a));go_wp2;go_ret;exact⟨rfl,rfl⟩
theorem Qs0(p q:Addr)(w:World) :
 CallsD Tryz.prog 87 #[.pointer (some p),.pointer (some q)] .returning w fun e u' w'=>e=.returned (.tuple #[])/\u'=.returning/\w'=w:=by
 refine callsD_of_wpS func87 rfl fun c₀ cs hu=>?_
 apply wpS_seq;apply wpS_region;simp[wpOpsS,go_sem,recoverD,hu,ntmps87,Exit.thenS];refine(QlA w).mono ?_;rintro e w' ⟨rfl,rfl⟩;apply wpS_seq;apply wpS_region;simp[wpOpsS,go_sem,Exit.thenS];refine wpS_cond (t:=false) (by simp[Act.eval,Array.replicate]) ?_;simp only[Bool.false_eq_true,if_false];refine wpS_of_wp (wp_skip ?_);cases c₀;simp_all [bodyPostS,results,results87]
theorem Qjp(P Q:Nat)(x1 x2 x3:Value)(a:Addr)(aa:List PanicEntry)(w:World)(ab:w.cell? ⟨P,0,none⟩=some x1)(ac:w.cell? ⟨P,1,none⟩=some x2)(ad:w.cell? ⟨Q,0,none⟩=some x3)(ae:∀ j,w.frozen? ⟨P,j,none⟩=false)(af:∀ j,w.frozen? ⟨Q,j,none⟩=false)(hPQ:P≠Q) :
 CallsD Tryz.prog 87 #[.pointer (some ⟨P,0,none⟩),.pointer (some ⟨Q,0,none⟩)] (.panicking ({ v:=.iface 125 (.pointer (some a)),recovered:=false }::aa)) w fun e u' w'=>
  e=.returned (.tuple #[])/\u'=.panicking ({ v:=.iface 125 (.pointer (some a)),recovered:=true }::aa)/\w'=((w.setCell ⟨P,0,none⟩ (.slice none 0 0)).setCell ⟨P,1,none⟩ (.slice none 0 0)).setCell ⟨Q,0,none⟩ (.iface 125 (.pointer (some a))):=by
 refine callsD_of_wpS func87 rfl fun c₀ cs hu=>?_
 apply wpS_seq;apply wpS_region;simp[wpOpsS,go_sem,recoverD,hu,ntmps87,Exit.thenS];refine(Qic a w).mono ?_;rintro e w' ⟨rfl,rfl⟩;apply wpS_seq;apply wpS_region;simp[wpOpsS,go_sem,Exit.thenS];refine wpS_cond (t:=true) (by simp[Act.eval,Array.replicate]) ?_;simp only[if_true];apply wpS_region;simp[wpOpsS,go_sem,ab,ac,ad,ae,af,bodyPostS,results,results87]
end
section
open Go.RowKit
attribute [local go_sem ↓] Go.wp_at_zero Go.wp_at_succ
def Qw1 (r:Except Flt (List (L8)×List (Qbo 7))) (w:World) (e:Ending) (w':World):Prop:=
 Below w.heap.size w w'∧((∃ y tv,r=.ok y∧e=.returned (.tuple #[tv,.nilIface])∧Qys (fromB w.heap.size) y w' tv)∨(∃ f bb,r=.error f∧e=.returned (.tuple #[.agg #[.slice none 0 0,.slice none 0 0],.iface 125 (.pointer (some ⟨bb,0,none⟩))])∧w.heap.size≤bb∧w'.heap[bb]?=some (.cells #[.int .i64 f.err,.int .i64 f.pos] 130)))
theorem Qpj(t:ByteArray)(w:World)(ht:t.size<=600)(az:∃ m,w.cell? ⟨1,0,none⟩=some (.int .i64 m)) :
 Calls Tryz.prog 59 #[.string t] w (Qw1 (prL t.data.toList) w):=by
 have hmf:∀(fn:Fn) (first cap:Array Value) (w:World),(Instr.makeFunc fn first cap).run Tryz.prog w=.ok (.func fn first cap) w:=fun _ _ _ _=>rfl
 have ht':¬(600:Int)<(t.size:Int):=by omega
 go_enter_defers func59,ntmps59;go_wp2_with fail;obtain⟨V,hV⟩:∃ V,V=(w.alloc (.cells #[.slice none 0 0,.slice none 0 0] 91)).alloc (.cells #[.nilIface] 84):=⟨_,rfl⟩;have aG:V.heap.size=w.heap.size+1+1:=by rw[hV];simp
 have ax:V.heap[w.heap.size]?=some (.cells #[.slice none 0 0,.slice none 0 0] 91):=by rw[hV];exact Qae (Qat _ _)
 have ay:V.heap[w.heap.size+1]?=some (.cells #[.nilIface] 84):=by rw[hV];exact Qaw (by simp)
 have ai:Below w.heap.size w V:=by rw[hV];exact((Below.refl _ _).alloc (Nat.le_refl _) _).alloc (by simp) _
 have aw:∃ m,V.cell? ⟨1,0,none⟩=some (.int .i64 m):=by
  obtain⟨m,hm⟩:=az;exact⟨m,by rw[ai.cell (p:=⟨1,0,none⟩) (Qau hm)];exact hm⟩
 rw[<-hV];clear hV;refine(Ql1 t V ht aw).mono ?_;rintro e w1 ⟨mc,mt,pr,pt,pf,p1,k1,p2,k2,p3,k3,rfl,ak,ap,aj,ad⟩;rw[aG]at ak ap aj ad;have ac:=Qab ai;have aD:=Qab ak;have aF:=Qab ap;have aC:=Qab aj;have au:w1.heap[w.heap.size]?=some (.cells #[.slice none 0 0,.slice none 0 0] 91):=by rw[ad.block _ (by omega)];exact ax
 have av:w1.heap[w.heap.size+1]?=some (.cells #[.nilIface] 84):=by rw[ad.block _ (by omega)];exact ay
 have ab:=Qab ad;have aq:=Qab au;have ar:=Qab av;have hz1:=ad.size;clear ai ax ay aw az ak ap aj ad au av;go_wp2_with fail;refine(Qsy (w.heap.size+1+1) t mc mt pr pt pf p1 k1 p2 k2 p3 k3 w1 aD.o aF.o aC.o).mono ?_;rintro e w2 ⟨aa,⟨y,v,hy,rfl,hv⟩ | ⟨f,hf,⟨bb,hz,rfl,hcc⟩⟩⟩
 ·obtain⟨rv,lv,rfl,ao,ad⟩:=hv;have aE:=Qab ao;have aB:=Qab ad;obtain⟨ra,rn,rc,rfl⟩:=ao.form;obtain⟨la,ln,lc,rfl⟩:=ad.form;have ae:=QaU aq.o aa (by omega);have af:=QaU ar.o aa (by omega);have c0:w2.cell? ⟨w.heap.size,0,none⟩=some (.slice none 0 0):=Qaa ae 0;have c1:w2.cell? ⟨w.heap.size,1,none⟩=some (.slice none 0 0):=Qaa ae 1;have c2:w2.cell? ⟨w.heap.size+1,0,none⟩=some .nilIface:=Qaa af 0;have z1:=Qao ae;have z2:=Qao af;have ag:=Qab aa;have HY:=Qab hy;clear aa hy ao ad ae af;go_wp2;have hB2:Below w.heap.size w w2:=⟨ag.o.os.trans (ab.o.os.trans ac.o.os),ag.o.tape.trans (ab.o.tape.trans ac.o.tape),ag.o.output.trans (ab.o.output.trans ac.o.output),Nat.le_trans ac.o.size (Nat.le_trans ab.o.size ag.o.size),fun k hk=>by rw[ag.o.block k (by omega) (by omega),ab.o.block k (by omega),ac.o.block k hk]⟩;have ah:¬ fromB w1.heap.size w.heap.size:=by unfold fromB;omega
  have aA:¬ fromB w1.heap.size (w.heap.size+1):=by unfold fromB;omega
  have HFIN:Hid (Qw1 (prL t.data.toList) w (.returned (.tuple #[.agg #[.slice ra rn rc,.slice la ln lc],.nilIface])) (((w2.setCell ⟨w.heap.size,0,none⟩ (.slice ra rn rc)).setCell ⟨w.heap.size,1,none⟩ (.slice la ln lc)).setCell ⟨w.heap.size+1,0,none⟩ .nilIface)):=⟨((hB2.setCell (Nat.le_refl _) _).setCell (Nat.le_refl _) _).setCell (by show w.heap.size<=w.heap.size+1;omega) _,Or.inl ⟨y,_,HY.o,rfl,⟨_,_,rfl,(((aE.o.keep (AbvX.set ah _ _)).keep (AbvX.set ah _ _)).keep (AbvX.set aA _ _)).weak (fun k hk _=>by unfold fromB at *;omega),blX.weak (QaX 7) (((aB.o.keep (QaX 7) (AbvX.set ah _ _)).keep (QaX 7) (AbvX.set ah _ _)).keep (QaX 7) (AbvX.set aA _ _)) (fun k hk _=>by unfold fromB at *;omega)⟩⟩⟩;refine leaves_cons (f:=87) (args:=#[.pointer (some ⟨w.heap.size,0,none⟩),.pointer (some ⟨w.heap.size+1,0,none⟩)]) (by simp) (by simp[go_sem]) ?_;refine(Qs0 ⟨w.heap.size,0,none⟩ ⟨w.heap.size+1,0,none⟩ _).mono ?_;rintro e u' aH ⟨rfl,rfl,rfl⟩;simp[Leaves,settle,results,results59,go_sem,c0,c1,c2];exact HFIN.o
 ·have ae:=QaU aq.o aa (by omega);have af:=QaU ar.o aa (by omega);have c0:w2.cell? ⟨w.heap.size,0,none⟩=some (.slice none 0 0):=Qaa ae 0;have c1:w2.cell? ⟨w.heap.size,1,none⟩=some (.slice none 0 0):=Qaa ae 1;have c2:w2.cell? ⟨w.heap.size+1,0,none⟩=some .nilIface:=Qaa af 0;have z1:=Qao ae;have z2:=Qao af;have hB2:Below w.heap.size w w2:=⟨aa.os.trans (ab.o.os.trans ac.o.os),aa.tape.trans (ab.o.tape.trans ac.o.tape),aa.output.trans (ab.o.output.trans ac.o.output),Nat.le_trans ac.o.size (Nat.le_trans ab.o.size aa.size),fun k hk=>by rw[aa.block k (by omega) (by omega),ab.o.block k (by omega),ac.o.block k hk]⟩
  have HFIN:Hid (Qw1 (prL t.data.toList) w (.returned (.tuple #[.agg #[.slice none 0 0,.slice none 0 0],.iface 125 (.pointer (some ⟨bb,0,none⟩))])) (((w2.setCell ⟨w.heap.size,0,none⟩ (.slice none 0 0)).setCell ⟨w.heap.size,1,none⟩ (.slice none 0 0)).setCell ⟨w.heap.size+1,0,none⟩ (.iface 125 (.pointer (some ⟨bb,0,none⟩))))):=⟨((hB2.setCell (Nat.le_refl _) _).setCell (Nat.le_refl _) _).setCell (by show w.heap.size≤w.heap.size+1;omega) _,Or.inr ⟨f,bb,hf,rfl,by omega,by
   rw[Below.heap_setCell _ _ _ _ (show bb≠w.heap.size+1 by omega),Below.heap_setCell _ _ _ _ (show bb≠w.heap.size by omega),Below.heap_setCell _ _ _ _ (show bb≠w.heap.size by omega)]
   exact hcc⟩⟩
  refine leaves_cons (f:=87) (args:=#[.pointer (some ⟨w.heap.size,0,none⟩),.pointer (some ⟨w.heap.size+1,0,none⟩)]) (by simp) (by simp[go_sem]) ?_;refine(Qjp w.heap.size (w.heap.size+1) _ _ _ ⟨bb,0,none⟩ [] _ c0 c1 c2 z1 z2 (by omega)).mono ?_;rintro e u' aH ⟨rfl,rfl,rfl⟩;simp[Leaves,settle,results,results59,go_sem,c0,c1,c2];exact HFIN.o
theorem QsK(t:ByteArray)(w:World)(ht:600<t.size) :
 Calls Tryz.prog 59 #[.string t] w fun e w'=>e=.returned (.tuple #[.agg #[.slice none 0 0,.slice none 0 0],.iface 33 (.int .i64 1)])/\Below w.heap.size w w':=by
 have hmf:∀(fn:Fn) (first cap:Array Value) (w:World),(Instr.makeFunc fn first cap).run Tryz.prog w=.ok (.func fn first cap) w:=fun _ _ _ _=>rfl
 have ht':(600:Int)<(t.size:Int):=by omega
 go_enter_defers func59,ntmps59;go_wp2;have hB:Below w.heap.size w ((w.alloc (.cells #[.slice none 0 0,.slice none 0 0] 91)).alloc (.cells #[.iface 33 (.int .i64 1)] 84)):=((Below.refl _ _).alloc (Nat.le_refl _) _).alloc (by simp) _;have HB:=Qab hB;clear hB;simp[bodyPostD,Leaves,settle,results,results59,go_sem];exact HB.o
def QxT (r:Except Flt (List (L8)×List (Qbo 7))) (w:World) (e:Ending) (w':World):Prop:=
 Below w.heap.size w w'∧((∃ y g rv lv,r=.ok y∧e=.returned (.tuple #[.pointer (some ⟨g,0,none⟩),.nilIface])∧w.heap.size≤g∧w'.heap[g]?=some (.cells #[rv,lv] 124)∧Qk6 (fromB w.heap.size) y.1 w' rv∧blX (fromB w.heap.size) (QhW 7) y.2 w' lv)∨(∃ f bb,r=.error f∧e=.returned (.tuple #[.pointer none,.iface 125 (.pointer (some ⟨bb,0,none⟩))])∧w.heap.size≤bb∧w'.heap[bb]?=some (.cells #[.int .i64 f.err,.int .i64 f.pos] 130)))
theorem Qos(t:ByteArray)(w:World)(ht:t.size<=600)(ah:∃ m,w.cell? ⟨1,0,none⟩=some (.int .i64 m)) :
 Calls Tryz.prog 36 #[.string t] w (QxT (prL t.data.toList) w):=by
 go_enter func36,ntmps36;go_wp2_with fail;refine(Qpj t w ht ah).mono ?_;rintro e w1 ⟨aa,⟨y,tv,hy,rfl,hv⟩ | ⟨f,bb,hf,rfl,hz,ae⟩⟩
 ·obtain⟨rv,lv,rfl,ac,ab⟩:=hv;have HB:=Qab aa;have HY:=Qab hy;have ag:=Qab ac;have af:=Qab ab;obtain⟨ra,rn,rc,rfl⟩:=ac.form;obtain⟨la,ln,lc,rfl⟩:=ab.form;have hz:=aa.size;clear aa hy ac ab;go_wp2;refine bodyPost_ret (v:=.tuple #[.pointer (some ⟨w1.heap.size+1,0,none⟩),.nilIface]) (by simp[results,results36,go_sem]) rfl ?_
  have ad:∀ X,AbvX X w1 ((w1.alloc (.cells #[.slice ra rn rc,.slice la ln lc] 91)).alloc (.cells #[.slice ra rn rc,.slice la ln lc] 124)):=fun X k _ hk=>by
   rw[Below.heap_alloc _ _ _ (by simp;omega),Below.heap_alloc _ _ _ hk]
  exact⟨(HB.o.alloc hz _).alloc (by simp;omega) _,Or.inl ⟨y,_,_,_,HY.o,rfl,by omega,Qaw (by simp),ag.o.keep (ad _),af.o.keep (QaX 7) (ad _)⟩⟩
 ·have HB:=Qab aa;have HF:=Qab hf;have HC:=Qab ae;have ai:=aa.size;clear aa hf ae;go_wp2;refine bodyPost_ret (v:=.tuple #[.pointer none,.iface 125 (.pointer (some ⟨bb,0,none⟩))]) (by simp[results,results36,go_sem]) rfl ?_;exact⟨HB.o.alloc ai _,Or.inr ⟨f,bb,HF.o,rfl,hz,Qae HC.o⟩⟩
end
section
open Go.RowKit Go.Extern.Stop Go.Stop Go.Extern
theorem Tryz.valueOfFF(t:Addr)(w:World):(ReflectliteValue.unpack (.iface 127 (.pointer (some t)))).run Tryz.prog w
 = .ok (.agg #[.pointer (some ⟨5,127,none⟩),.pointer (some ⟨w.heap.size,0,none⟩),.int .u64 150]) (w.alloc (.cells #[.pointer (some t)] 127)):=by kernel_rfl
theorem Tryz.valueOfNN(t:Addr)(w:World):(ReflectliteValue.unpack (.iface 131 (.pointer (some t)))).run Tryz.prog w
 = .ok (.agg #[.pointer (some ⟨5,131,none⟩),.pointer (some ⟨w.heap.size,0,none⟩),.int .u64 150]) (w.alloc (.cells #[.pointer (some t)] 131)):=by kernel_rfl
theorem Tryz.typeFF(a:Addr)(w:World):(ReflectliteValue.methodAny (ReflectliteValue.valueError "reflectlite.Value.Type" 0) (fun t _ _ _=>ReflectliteType.toType t) #[.agg #[.pointer (some ⟨5,127,none⟩),.pointer (some a),.int .u64 150]]).run Tryz.prog w
 = .ok (.iface 238 (.agg #[.pointer (some ⟨5,127,none⟩)])) w:=by kernel_rfl
theorem Tryz.typeNN(a:Addr)(w:World):(ReflectliteValue.methodAny (ReflectliteValue.valueError "reflectlite.Value.Type" 0) (fun t _ _ _=>ReflectliteType.toType t) #[.agg #[.pointer (some ⟨5,131,none⟩),.pointer (some a),.int .u64 150]]).run Tryz.prog w
 = .ok (.iface 238 (.agg #[.pointer (some ⟨5,131,none⟩)])) w:=by kernel_rfl
theorem Tryz.methodKind(h:Value)(w:World):(Go.method 518 238 (.agg #[h]) "Kind").run Tryz.prog w=.ok (317,h) w:=by kernel_rfl
theorem Tryz.kindFF(w:World):((ReflectliteType.abiMethod fun t=>Functor.map (fun a:Nat=>Value.int IntKind.u8 (a:Int)) (Rtype.kind t)) #[.pointer (some ⟨5,127,none⟩)]).run Tryz.prog w=.ok (.int .u8 22) w:=by kernel_rfl
theorem Tryz.kindF(w:World):((ReflectliteType.abiMethod fun t=>Functor.map (fun a:Nat=>Value.int IntKind.u8 (a:Int)) (Rtype.kind t)) #[.pointer (some ⟨5,125,none⟩)]).run Tryz.prog w=.ok (.int .u8 22) w:=by kernel_rfl
theorem Tryz.kindNN(w:World):((ReflectliteType.abiMethod fun t=>Functor.map (fun a:Nat=>Value.int IntKind.u8 (a:Int)) (Rtype.kind t)) #[.pointer (some ⟨5,131,none⟩)]).run Tryz.prog w=.ok (.int .u8 22) w:=by kernel_rfl
theorem Tryz.kindN(w:World):((ReflectliteType.abiMethod fun t=>Functor.map (fun a:Nat=>Value.int IntKind.u8 (a:Int)) (Rtype.kind t)) #[.pointer (some ⟨5,33,none⟩)]).run Tryz.prog w=.ok (.int .u8 2) w:=by kernel_rfl
theorem rlm(z:Sem Value)(f:TypeId->Addr->Nat->Nat->Sem Value)(v:Value) :
 ReflectliteValue.method z f #[v]=(do match <-ReflectliteValue.parts v with|none=>z|some (t,a,fl)=>f t a fl (fl % 32)):=rfl
theorem Tryz.partsFF(a:Addr)(w:World):(ReflectliteValue.parts (.agg #[.pointer (some ⟨5,127,none⟩),.pointer (some a),.int .u64 150])).run Tryz.prog w=.ok (some (127,a,150)) w:=by kernel_rfl
theorem Tryz.partsNN(a:Addr)(w:World):(ReflectliteValue.parts (.agg #[.pointer (some ⟨5,131,none⟩),.pointer (some a),.int .u64 150])).run Tryz.prog w=.ok (some (131,a,150)) w:=by kernel_rfl
theorem Tryz.isNilFF(a p:Addr)(W:World)(ha:W.cell? a=some (.pointer (some p))) :
 (ReflectliteValue.method (ReflectliteValue.valueError "reflectlite.Value.IsNil" 0) ReflectliteValue.isNil #[.agg #[.pointer (some ⟨5,127,none⟩),.pointer (some a),.int .u64 150]]).run Tryz.prog W=.ok (.bool false) W:=by
 rw[rlm];simp only[Sem.run_bind,Tryz.partsFF,Result.andThen];simp[ReflectliteValue.isNil,loadVar,isAgg,underlying,underlying127,ha,Result.andThen]
theorem Tryz.isNilNN(a p:Addr)(W:World)(ha:W.cell? a=some (.pointer (some p))) :
 (ReflectliteValue.method (ReflectliteValue.valueError "reflectlite.Value.IsNil" 0) ReflectliteValue.isNil #[.agg #[.pointer (some ⟨5,131,none⟩),.pointer (some a),.int .u64 150]]).run Tryz.prog W=.ok (.bool false) W:=by
 rw[rlm];simp only[Sem.run_bind,Tryz.partsNN,Result.andThen];simp[ReflectliteValue.isNil,loadVar,isAgg,underlying,underlying131,ha,Result.andThen]
theorem Tryz.methodElem(h:Value)(w:World):(Go.method 518 238 (.agg #[h]) "Elem").run Tryz.prog w=.ok (332,.agg #[h]) w:=by kernel_rfl
theorem Tryz.methodImplements(h:Value)(w:World):(Go.method 518 238 (.agg #[h]) "Implements").run Tryz.prog w=.ok (333,.agg #[h]) w:=by kernel_rfl
theorem Tryz.methodAssignableTo(h:Value)(w:World):(Go.method 518 238 (.agg #[h]) "AssignableTo").run Tryz.prog w=.ok (330,.agg #[h]) w:=by kernel_rfl
theorem Tryz.methodComparable(h:Value)(w:World):(Go.method 518 238 (.agg #[h]) "Comparable").run Tryz.prog w=.ok (331,.agg #[h]) w:=by kernel_rfl
theorem Tryz.elemFF(w:World):(ReflectliteType.method ReflectliteType.elem #[.agg #[.pointer (some ⟨5,127,none⟩)]]).run Tryz.prog w=.ok (.iface 238 (.agg #[.pointer (some ⟨5,125,none⟩)])) w:=by kernel_rfl
theorem Tryz.elemNN(w:World):(ReflectliteType.method ReflectliteType.elem #[.agg #[.pointer (some ⟨5,131,none⟩)]]).run Tryz.prog w=.ok (.iface 238 (.agg #[.pointer (some ⟨5,33,none⟩)])) w:=by kernel_rfl
theorem Tryz.implementsF(w:World):(ReflectliteType.relation "Implements" ReflectliteType.implements_ #[.agg #[.pointer (some ⟨5,125,none⟩)],.iface 238 (.agg #[.pointer (some ⟨5,84,none⟩)])]).run Tryz.prog w=.ok (.bool true) w:=by kernel_rfl
theorem Tryz.implementsN(w:World):(ReflectliteType.relation "Implements" ReflectliteType.implements_ #[.agg #[.pointer (some ⟨5,33,none⟩)],.iface 238 (.agg #[.pointer (some ⟨5,84,none⟩)])]).run Tryz.prog w=.ok (.bool true) w:=by kernel_rfl
theorem Tryz.typeOfF(v:Value)(w:World):(ReflectliteType.typeOf #[.iface 125 v]).run Tryz.prog w=.ok (.iface 238 (.agg #[.pointer (some ⟨5,125,none⟩)])) w:=by kernel_rfl
theorem Tryz.typeOfN(v:Value)(w:World):(ReflectliteType.typeOf #[.iface 33 v]).run Tryz.prog w=.ok (.iface 238 (.agg #[.pointer (some ⟨5,33,none⟩)])) w:=by kernel_rfl
theorem Tryz.assignFF(w:World):(ReflectliteType.relation "AssignableTo" ReflectliteType.assignableTo #[.agg #[.pointer (some ⟨5,125,none⟩)],.iface 238 (.agg #[.pointer (some ⟨5,125,none⟩)])]).run Tryz.prog w=.ok (.bool true) w:=by kernel_rfl
theorem Tryz.assignNN(w:World):(ReflectliteType.relation "AssignableTo" ReflectliteType.assignableTo #[.agg #[.pointer (some ⟨5,33,none⟩)],.iface 238 (.agg #[.pointer (some ⟨5,33,none⟩)])]).run Tryz.prog w=.ok (.bool true) w:=by kernel_rfl
theorem Tryz.assignNF(w:World):(ReflectliteType.relation "AssignableTo" ReflectliteType.assignableTo #[.agg #[.pointer (some ⟨5,33,none⟩)],.iface 238 (.agg #[.pointer (some ⟨5,125,none⟩)])]).run Tryz.prog w=.ok (.bool false) w:=by kernel_rfl
theorem Tryz.valueOfF(e:Addr)(w:World):(ReflectliteValue.unpack (.iface 125 (.pointer (some e)))).run Tryz.prog w
 = .ok (.agg #[.pointer (some ⟨5,125,none⟩),.pointer (some ⟨w.heap.size,0,none⟩),.int .u64 150]) (w.alloc (.cells #[.pointer (some e)] 125)):=by kernel_rfl
theorem Tryz.valueOfN(n:Int)(w:World):(ReflectliteValue.unpack (.iface 33 (.int .i64 n))).run Tryz.prog w
 = .ok (.agg #[.pointer (some ⟨5,33,none⟩),.pointer (some ⟨w.heap.size,0,none⟩),.int .u64 130]) (w.alloc (.cells #[.int .i64 n] 33)):=by kernel_rfl
theorem Tryz.elemOfFF(w:World):(Rtype.elem? 127).run Tryz.prog w=.ok (some 125) w:=by kernel_rfl
theorem Tryz.elemOfNN(w:World):(Rtype.elem? 131).run Tryz.prog w=.ok (some 33) w:=by kernel_rfl
theorem Tryz.mkF(p:Addr)(w:World):(ReflectliteValue.mk 125 p ReflectliteValue.flagAddr).run Tryz.prog w=.ok (.agg #[.pointer (some ⟨5,125,none⟩),.pointer (some p),.int .u64 406]) w:=by kernel_rfl
theorem Tryz.mkN(p:Addr)(w:World):(ReflectliteValue.mk 33 p ReflectliteValue.flagAddr).run Tryz.prog w=.ok (.agg #[.pointer (some ⟨5,33,none⟩),.pointer (some p),.int .u64 386]) w:=by kernel_rfl
theorem Tryz.elemVFF(a p:Addr)(W:World)(ha:W.cell? a=some (.pointer (some p))) :
 (ReflectliteValue.method (ReflectliteValue.valueError "reflectlite.Value.Elem" 0) ReflectliteValue.elem #[.agg #[.pointer (some ⟨5,127,none⟩),.pointer (some a),.int .u64 150]]).run Tryz.prog W
   = .ok (.agg #[.pointer (some ⟨5,125,none⟩),.pointer (some p),.int .u64 406]) W:=by
 rw[rlm];simp only[Sem.run_bind,Tryz.partsFF,Result.andThen];simp[ReflectliteValue.elem,loadVar,isAgg,underlying,underlying127,ha,Result.andThen,Tryz.elemOfFF,Tryz.mkF]
theorem Tryz.elemVNN(a p:Addr)(W:World)(ha:W.cell? a=some (.pointer (some p))) :
 (ReflectliteValue.method (ReflectliteValue.valueError "reflectlite.Value.Elem" 0) ReflectliteValue.elem #[.agg #[.pointer (some ⟨5,131,none⟩),.pointer (some a),.int .u64 150]]).run Tryz.prog W
   = .ok (.agg #[.pointer (some ⟨5,33,none⟩),.pointer (some p),.int .u64 386]) W:=by
 rw[rlm];simp only[Sem.run_bind,Tryz.partsNN,Result.andThen];simp[ReflectliteValue.elem,loadVar,isAgg,underlying,underlying131,ha,Result.andThen,Tryz.elemOfNN,Tryz.mkN]
theorem rls (v x:Value):ReflectliteValue.set #[v,x]=(do
 let (some (dst,a,fl),some (src,b,_)):=(<-ReflectliteValue.parts v,<-ReflectliteValue.parts x)
  |unsupported (.noEntry "extern/(internal/reflectlite.Value).Set.zeroValue")
 if fl / ReflectliteValue.flagAddr % 2==0 then unsupported (.noEntry "extern/(internal/reflectlite.Value).Set.unaddressable")
 let val <-loadVar src b
 if <-Rtype.directlyAssignable dst src then storeVar dst a val
 else if <-Rtype.implements dst src then
  if(<-Rtype.kind src)==20 then
   match val with
   | .nilIface=>unsupported (.noEntry "extern/reflectlite: a nil value of one interface type handed on as a value of another")
   |_=>storeVar dst a val
  else storeVar dst a (.iface src val)
 else panicString ("reflectlite.Set: value of type "++(<-Rtype.spelt src) ++ " is not assignable to type "++(<-Rtype.spelt dst))
 pure (.tuple #[])):=rfl
theorem Tryz.partsFa(a:Addr)(w:World):(ReflectliteValue.parts (.agg #[.pointer (some ⟨5,125,none⟩),.pointer (some a),.int .u64 406])).run Tryz.prog w=.ok (some (125,a,406)) w:=by kernel_rfl
theorem Tryz.partsF(a:Addr)(w:World):(ReflectliteValue.parts (.agg #[.pointer (some ⟨5,125,none⟩),.pointer (some a),.int .u64 150])).run Tryz.prog w=.ok (some (125,a,150)) w:=by kernel_rfl
theorem Tryz.partsNa(a:Addr)(w:World):(ReflectliteValue.parts (.agg #[.pointer (some ⟨5,33,none⟩),.pointer (some a),.int .u64 386])).run Tryz.prog w=.ok (some (33,a,386)) w:=by kernel_rfl
theorem Tryz.partsN(a:Addr)(w:World):(ReflectliteValue.parts (.agg #[.pointer (some ⟨5,33,none⟩),.pointer (some a),.int .u64 130])).run Tryz.prog w=.ok (some (33,a,130)) w:=by kernel_rfl
theorem Tryz.directF(w:World):(Rtype.directlyAssignable 125 125).run Tryz.prog w=.ok true w:=by kernel_rfl
theorem Tryz.directN(w:World):(Rtype.directlyAssignable 33 33).run Tryz.prog w=.ok true w:=by kernel_rfl
theorem Tryz.setF(ta b e:Addr)(aa:Value)(W:World)(hb:W.cell? b=some (.pointer (some e)))(ht:W.cell? ta=some aa)(hf:W.frozen? ta=false) :
 (ReflectliteValue.set #[.agg #[.pointer (some ⟨5,125,none⟩),.pointer (some ta),.int .u64 406],.agg #[.pointer (some ⟨5,125,none⟩),.pointer (some b),.int .u64 150]]).run Tryz.prog W
   = .ok (.tuple #[]) (W.setCell ta (.pointer (some e))):=by
 rw[rls];simp only[Sem.run_bind,Tryz.partsFa,Tryz.partsF,Result.andThen];simp[ReflectliteValue.flagAddr,loadVar,isAgg,underlying,underlying125,hb,Result.andThen,Tryz.directF,storeVar,Value.cells,storeCells,Addr.add];rw[run_store Tryz.prog W ta _ _ (by rfl)];simp[ht,hf]
theorem Tryz.setN(ta b:Addr)(n:Int)(aa:Value)(W:World)(hb:W.cell? b=some (.int .i64 n))(ht:W.cell? ta=some aa)(hf:W.frozen? ta=false) :
 (ReflectliteValue.set #[.agg #[.pointer (some ⟨5,33,none⟩),.pointer (some ta),.int .u64 386],.agg #[.pointer (some ⟨5,33,none⟩),.pointer (some b),.int .u64 130]]).run Tryz.prog W
   = .ok (.tuple #[]) (W.setCell ta (.int .i64 n)):=by
 rw[rls];simp only[Sem.run_bind,Tryz.partsNa,Tryz.partsN,Result.andThen];simp[ReflectliteValue.flagAddr,loadVar,isAgg,underlying,underlying33,hb,Result.andThen,Tryz.directN,storeVar,Value.cells,storeCells,Addr.add];rw[run_store Tryz.prog W ta _ _ (by rfl)];simp[ht,hf]
theorem Tryz.noAsN(v:Value)(xT:TypeId)(w:World):(Instr.typeAssert (.iface 33 v) xT 242 true).run Tryz.prog w=.ok (.tuple #[.nilIface,.bool false]) w:=run_typeAssert_lacksB underlying242 (by kernel_rfl) (by kernel_rfl) v xT w
theorem Tryz.noUnwrapN(v:Value)(xT:TypeId)(w:World):(Instr.typeAssert (.iface 33 v) xT 245 true).run Tryz.prog w=.ok (.tuple #[.nilIface,.bool false]) w:=run_typeAssert_lacksB underlying245 (by kernel_rfl) (by kernel_rfl) v xT w
theorem Tryz.noUnwrapsN(v:Value)(xT:TypeId)(w:World):(Instr.typeAssert (.iface 33 v) xT 247 true).run Tryz.prog w=.ok (.tuple #[.nilIface,.bool false]) w:=run_typeAssert_lacksB underlying247 (by kernel_rfl) (by kernel_rfl) v xT w
theorem Tryz.noIsF(v:Value)(xT:TypeId)(w:World):(Instr.typeAssert (.iface 125 v) xT 250 true).run Tryz.prog w=.ok (.tuple #[.nilIface,.bool false]) w:=run_typeAssert_lacksB underlying250 (by kernel_rfl) (by kernel_rfl) v xT w
theorem Tryz.hasUnwrapF(v:Value)(xT:TypeId)(w:World):(Instr.typeAssert (.iface 125 v) xT 245 true).run Tryz.prog w=.ok (.tuple #[.iface 125 v,.bool true]) w:=run_typeAssert_hasB underlying245 (by kernel_rfl) v xT w
theorem Tryz.methodUnwrap(v:Value)(w:World):(Go.method 518 125 v "Unwrap").run Tryz.prog w=.ok (322,v) w:=by kernel_rfl
theorem Tryz.compN:(Tryz.prog.info? 33).map (·.comparable)=some true:=by kernel_rfl
theorem Qnk(n:Int)(w:World):(binOp .eql 84 (.iface 33 (.int .i64 n)) (.iface 33 (.int .i64 n))).run Tryz.prog w=.ok (.bool true) w:=by
 obtain⟨i,hi,aa⟩:=Option.map_eq_some_iff.1 Tryz.compN
 have h:∀ d:Nat,(Op.equalIn (d+2) 84 (.iface 33 (.int .i64 n)) (.iface 33 (.int .i64 n))).run Tryz.prog w=.ok true w:=fun d=>by
  simp[Op.equalIn,run_underlying underlying84,run_underlying underlying33,typeInfo,hi,aa]
 simp only[binOp];simp[Op.equal,Op.maxDepth,h 9998]
def QkC (w:World):Prop:=w.cell? ⟨0,0,none⟩=some (.iface 238 (.agg #[.pointer (some ⟨5,84,none⟩)]))
theorem QcP{w:World}{a:Addr}{v:Value}(h:w.cell? a=some v):a.block<w.heap.size:=by
 rcases Nat.lt_or_ge a.block w.heap.size with h'|h'
 ·exact h'
 ·simp[World.cell?,Array.getElem?_eq_none h']at h
theorem Qxk(e t:Addr)(ac:Value)(w:World)(hg:QkC w)(aa:w.cell? t=some ac)(ad:w.frozen? t=false) :
 Calls Tryz.prog 60 #[.iface 125 (.pointer (some e)),.iface 127 (.pointer (some t))] w fun ev w'=>ev=.returned (.bool true)/\w'=((((w.alloc (.cells #[.pointer (some t)] 127)).alloc (.cells #[.pointer (some ⟨5,127,none⟩),.pointer (some ⟨w.heap.size,0,none⟩),.int .u64 150] 166)).alloc (.cells #[.pointer (some ⟨5,127,none⟩),.pointer (some ⟨w.heap.size,0,none⟩),.int .u64 150] 166)).alloc (.cells #[.pointer (some e)] 125)).setCell t (.pointer (some e)):=by
 unfold QkC at hg;have h6:=@run_callFunc_extern Tryz.prog 91 _ (fun args=>ReflectliteValue.unpack (args.getD 0 (.tuple #[]))) func91 (by kernel_rfl) (by kernel_rfl) (by kernel_rfl) (by kernel_rfl);have h7:=@run_callFunc_extern Tryz.prog 92 _ (ReflectliteValue.methodAny (ReflectliteValue.valueError "reflectlite.Value.Type" 0) (fun t _ _ _=>ReflectliteType.toType t)) func92 (by kernel_rfl) (by kernel_rfl) (by kernel_rfl) (by kernel_rfl);have h8:=@run_callFunc_extern Tryz.prog 93 _ (ReflectliteValue.method (ReflectliteValue.valueError "reflectlite.Value.IsNil" 0) ReflectliteValue.isNil) func93 (by kernel_rfl) (by kernel_rfl) (by kernel_rfl) (by kernel_rfl);have h27:=@run_callFunc_extern Tryz.prog 317 _ (ReflectliteType.abiMethod fun t=>do pure (.int .u8 (<-Rtype.kind t))) func317 (by kernel_rfl) (by kernel_rfl) (by kernel_rfl) (by kernel_rfl);have h37:=@run_callFunc_extern Tryz.prog 332 _ (ReflectliteType.method ReflectliteType.elem) func332 (by kernel_rfl) (by kernel_rfl) (by kernel_rfl) (by kernel_rfl);have h38:=@run_callFunc_extern Tryz.prog 333 _ (ReflectliteType.relation "Implements" ReflectliteType.implements_) func333 (by kernel_rfl) (by kernel_rfl) (by kernel_rfl) (by kernel_rfl);have h10:=@run_callFunc_extern Tryz.prog 95 _ ReflectliteType.typeOf func95 (by kernel_rfl) (by kernel_rfl) (by kernel_rfl) (by kernel_rfl);have h35:=@run_callFunc_extern Tryz.prog 330 _ (ReflectliteType.relation "AssignableTo" ReflectliteType.assignableTo) func330 (by kernel_rfl) (by kernel_rfl) (by kernel_rfl) (by kernel_rfl);have h11:=@run_callFunc_extern Tryz.prog 144 _ (ReflectliteValue.method (ReflectliteValue.valueError "reflectlite.Value.Elem" 0) ReflectliteValue.elem) func144 (by kernel_rfl) (by kernel_rfl) (by kernel_rfl) (by kernel_rfl);have h12:=@run_callFunc_extern Tryz.prog 145 _ ReflectliteValue.set func145 (by kernel_rfl) (by kernel_rfl) (by kernel_rfl) (by kernel_rfl);have tO:=Tryz.typeOfF;have mA:=Tryz.methodAssignableTo;have a25:=Tryz.assignFF;have v25:=Tryz.valueOfF;have f6:=Tryz.valueOfFF;have f7:=Tryz.typeFF;have mK:=Tryz.methodKind;have mE:=Tryz.methodElem;have mI:=Tryz.methodImplements;have k27:=Tryz.kindFF;have k25:=Tryz.kindF;have e27:=Tryz.elemFF;have i25:=Tryz.implementsF;have n8:=Tryz.isNilFF ⟨w.heap.size,0,none⟩ t ((w.alloc (.cells #[.pointer (some t)] 127)).alloc (.cells #[.pointer (some ⟨5,127,none⟩),.pointer (some ⟨w.heap.size,0,none⟩),.int .u64 150] 166)) (by simp);have ae:0<w.heap.size:=QcP hg
 have hg2:((w.alloc (.cells #[.pointer (some t)] 127)).alloc (.cells #[.pointer (some ⟨5,127,none⟩),.pointer (some ⟨w.heap.size,0,none⟩),.int .u64 150] 166)).cell? ⟨0,0,none⟩=some (.iface 238 (.agg #[.pointer (some ⟨5,84,none⟩)])):=by
  rw[World.cell?_alloc_lt _ _ ⟨0,0,none⟩ (by simp),World.cell?_alloc_lt _ _ ⟨0,0,none⟩ ae];exact hg
 have ab:t.block<w.heap.size:=QcP aa;have el:=Tryz.elemVFF ⟨w.heap.size,0,none⟩ t (((w.alloc (.cells #[.pointer (some t)] 127)).alloc (.cells #[.pointer (some ⟨5,127,none⟩),.pointer (some ⟨w.heap.size,0,none⟩),.int .u64 150] 166)).alloc (.cells #[.pointer (some ⟨5,127,none⟩),.pointer (some ⟨w.heap.size,0,none⟩),.int .u64 150] 166)) (by rw[World.cell?_alloc_lt _ _ ⟨w.heap.size,0,none⟩ (by simp;omega)];simp)
 have st:=Tryz.setF t ⟨w.heap.size+1+1+1,0,none⟩ e ac ((((w.alloc (.cells #[.pointer (some t)] 127)).alloc (.cells #[.pointer (some ⟨5,127,none⟩),.pointer (some ⟨w.heap.size,0,none⟩),.int .u64 150] 166)).alloc (.cells #[.pointer (some ⟨5,127,none⟩),.pointer (some ⟨w.heap.size,0,none⟩),.int .u64 150] 166)).alloc (.cells #[.pointer (some e)] 125))
  (by rw[World.cell?_alloc_at _ _ _ _ (by simp)];rfl) (by rw[World.cell?_alloc_lt _ _ t (by simp;omega),World.cell?_alloc_lt _ _ t (by simp;omega),World.cell?_alloc_lt _ _ t (by simp;omega),World.cell?_alloc_lt _ _ t ab];exact aa) (by rw[World.frozen?_alloc_old _ _ t (by simp;omega),World.frozen?_alloc_old _ _ t (by simp;omega),World.frozen?_alloc_old _ _ t (by simp;omega),World.frozen?_alloc_old _ _ t (Nat.ne_of_lt ab)];exact ad)
 go_enter func60,ntmps60;go_wp2;refine wp_loop_rounds 1 ?_;rw[rounds_succ];go_wp2;go_ret;exact⟨rfl,rfl⟩
theorem QxC(n:Int)(t:Addr)(ac:Value)(w:World)(hg:QkC w)(aa:w.cell? t=some ac)(ad:w.frozen? t=false) :
 Calls Tryz.prog 60 #[.iface 33 (.int .i64 n),.iface 131 (.pointer (some t))] w fun ev w'=>ev=.returned (.bool true)/\w'=((((w.alloc (.cells #[.pointer (some t)] 131)).alloc (.cells #[.pointer (some ⟨5,131,none⟩),.pointer (some ⟨w.heap.size,0,none⟩),.int .u64 150] 166)).alloc (.cells #[.pointer (some ⟨5,131,none⟩),.pointer (some ⟨w.heap.size,0,none⟩),.int .u64 150] 166)).alloc (.cells #[.int .i64 n] 33)).setCell t (.int .i64 n):=by
 unfold QkC at hg;have h6:=@run_callFunc_extern Tryz.prog 91 _ (fun args=>ReflectliteValue.unpack (args.getD 0 (.tuple #[]))) func91 (by kernel_rfl) (by kernel_rfl) (by kernel_rfl) (by kernel_rfl);have h7:=@run_callFunc_extern Tryz.prog 92 _ (ReflectliteValue.methodAny (ReflectliteValue.valueError "reflectlite.Value.Type" 0) (fun t _ _ _=>ReflectliteType.toType t)) func92 (by kernel_rfl) (by kernel_rfl) (by kernel_rfl) (by kernel_rfl);have h8:=@run_callFunc_extern Tryz.prog 93 _ (ReflectliteValue.method (ReflectliteValue.valueError "reflectlite.Value.IsNil" 0) ReflectliteValue.isNil) func93 (by kernel_rfl) (by kernel_rfl) (by kernel_rfl) (by kernel_rfl);have h27:=@run_callFunc_extern Tryz.prog 317 _ (ReflectliteType.abiMethod fun t=>do pure (.int .u8 (<-Rtype.kind t))) func317 (by kernel_rfl) (by kernel_rfl) (by kernel_rfl) (by kernel_rfl);have h37:=@run_callFunc_extern Tryz.prog 332 _ (ReflectliteType.method ReflectliteType.elem) func332 (by kernel_rfl) (by kernel_rfl) (by kernel_rfl) (by kernel_rfl);have h38:=@run_callFunc_extern Tryz.prog 333 _ (ReflectliteType.relation "Implements" ReflectliteType.implements_) func333 (by kernel_rfl) (by kernel_rfl) (by kernel_rfl) (by kernel_rfl);have h10:=@run_callFunc_extern Tryz.prog 95 _ ReflectliteType.typeOf func95 (by kernel_rfl) (by kernel_rfl) (by kernel_rfl) (by kernel_rfl);have h35:=@run_callFunc_extern Tryz.prog 330 _ (ReflectliteType.relation "AssignableTo" ReflectliteType.assignableTo) func330 (by kernel_rfl) (by kernel_rfl) (by kernel_rfl) (by kernel_rfl);have h11:=@run_callFunc_extern Tryz.prog 144 _ (ReflectliteValue.method (ReflectliteValue.valueError "reflectlite.Value.Elem" 0) ReflectliteValue.elem) func144 (by kernel_rfl) (by kernel_rfl) (by kernel_rfl) (by kernel_rfl);have h12:=@run_callFunc_extern Tryz.prog 145 _ ReflectliteValue.set func145 (by kernel_rfl) (by kernel_rfl) (by kernel_rfl) (by kernel_rfl);have tO:=Tryz.typeOfN;have mA:=Tryz.methodAssignableTo;have a25:=Tryz.assignNN;have v25:=Tryz.valueOfN;have f6:=Tryz.valueOfNN;have f7:=Tryz.typeNN;have mK:=Tryz.methodKind;have mE:=Tryz.methodElem;have mI:=Tryz.methodImplements;have k27:=Tryz.kindNN;have k25:=Tryz.kindN;have e27:=Tryz.elemNN;have i25:=Tryz.implementsN;have n8:=Tryz.isNilNN ⟨w.heap.size,0,none⟩ t ((w.alloc (.cells #[.pointer (some t)] 131)).alloc (.cells #[.pointer (some ⟨5,131,none⟩),.pointer (some ⟨w.heap.size,0,none⟩),.int .u64 150] 166)) (by simp);have ae:0<w.heap.size:=QcP hg
 have hg2:((w.alloc (.cells #[.pointer (some t)] 131)).alloc (.cells #[.pointer (some ⟨5,131,none⟩),.pointer (some ⟨w.heap.size,0,none⟩),.int .u64 150] 166)).cell? ⟨0,0,none⟩=some (.iface 238 (.agg #[.pointer (some ⟨5,84,none⟩)])):=by
  rw[World.cell?_alloc_lt _ _ ⟨0,0,none⟩ (by simp),World.cell?_alloc_lt _ _ ⟨0,0,none⟩ ae];exact hg
 have ab:t.block<w.heap.size:=QcP aa;have el:=Tryz.elemVNN ⟨w.heap.size,0,none⟩ t (((w.alloc (.cells #[.pointer (some t)] 131)).alloc (.cells #[.pointer (some ⟨5,131,none⟩),.pointer (some ⟨w.heap.size,0,none⟩),.int .u64 150] 166)).alloc (.cells #[.pointer (some ⟨5,131,none⟩),.pointer (some ⟨w.heap.size,0,none⟩),.int .u64 150] 166)) (by rw[World.cell?_alloc_lt _ _ ⟨w.heap.size,0,none⟩ (by simp;omega)];simp)
 have st:=Tryz.setN t ⟨w.heap.size+1+1+1,0,none⟩ n ac ((((w.alloc (.cells #[.pointer (some t)] 131)).alloc (.cells #[.pointer (some ⟨5,131,none⟩),.pointer (some ⟨w.heap.size,0,none⟩),.int .u64 150] 166)).alloc (.cells #[.pointer (some ⟨5,131,none⟩),.pointer (some ⟨w.heap.size,0,none⟩),.int .u64 150] 166)).alloc (.cells #[.int .i64 n] 33))
  (by rw[World.cell?_alloc_at _ _ _ _ (by simp)];rfl) (by rw[World.cell?_alloc_lt _ _ t (by simp;omega),World.cell?_alloc_lt _ _ t (by simp;omega),World.cell?_alloc_lt _ _ t (by simp;omega),World.cell?_alloc_lt _ _ t ab];exact aa) (by rw[World.frozen?_alloc_old _ _ t (by simp;omega),World.frozen?_alloc_old _ _ t (by simp;omega),World.frozen?_alloc_old _ _ t (by simp;omega),World.frozen?_alloc_old _ _ t (Nat.ne_of_lt ab)];exact ad)
 go_enter func60,ntmps60;go_wp2;refine wp_loop_rounds 1 ?_;rw[rounds_succ];go_wp2;go_ret;exact⟨rfl,rfl⟩
theorem Qvy(n:Int)(t:Addr)(w:World)(hg:QkC w) :
 Calls Tryz.prog 60 #[.iface 33 (.int .i64 n),.iface 127 (.pointer (some t))] w fun ev w'=>ev=.returned (.bool false)/\w'=(((w.alloc (.cells #[.pointer (some t)] 127)).alloc (.cells #[.pointer (some ⟨5,127,none⟩),.pointer (some ⟨w.heap.size,0,none⟩),.int .u64 150] 166)).alloc (.cells #[.pointer (some ⟨5,127,none⟩),.pointer (some ⟨w.heap.size,0,none⟩),.int .u64 150] 166)):=by
 unfold QkC at hg;have h6:=@run_callFunc_extern Tryz.prog 91 _ (fun args=>ReflectliteValue.unpack (args.getD 0 (.tuple #[]))) func91 (by kernel_rfl) (by kernel_rfl) (by kernel_rfl) (by kernel_rfl);have h7:=@run_callFunc_extern Tryz.prog 92 _ (ReflectliteValue.methodAny (ReflectliteValue.valueError "reflectlite.Value.Type" 0) (fun t _ _ _=>ReflectliteType.toType t)) func92 (by kernel_rfl) (by kernel_rfl) (by kernel_rfl) (by kernel_rfl);have h8:=@run_callFunc_extern Tryz.prog 93 _ (ReflectliteValue.method (ReflectliteValue.valueError "reflectlite.Value.IsNil" 0) ReflectliteValue.isNil) func93 (by kernel_rfl) (by kernel_rfl) (by kernel_rfl) (by kernel_rfl);have h27:=@run_callFunc_extern Tryz.prog 317 _ (ReflectliteType.abiMethod fun t=>do pure (.int .u8 (<-Rtype.kind t))) func317 (by kernel_rfl) (by kernel_rfl) (by kernel_rfl) (by kernel_rfl);have h37:=@run_callFunc_extern Tryz.prog 332 _ (ReflectliteType.method ReflectliteType.elem) func332 (by kernel_rfl) (by kernel_rfl) (by kernel_rfl) (by kernel_rfl);have h38:=@run_callFunc_extern Tryz.prog 333 _ (ReflectliteType.relation "Implements" ReflectliteType.implements_) func333 (by kernel_rfl) (by kernel_rfl) (by kernel_rfl) (by kernel_rfl);have h10:=@run_callFunc_extern Tryz.prog 95 _ ReflectliteType.typeOf func95 (by kernel_rfl) (by kernel_rfl) (by kernel_rfl) (by kernel_rfl);have h35:=@run_callFunc_extern Tryz.prog 330 _ (ReflectliteType.relation "AssignableTo" ReflectliteType.assignableTo) func330 (by kernel_rfl) (by kernel_rfl) (by kernel_rfl) (by kernel_rfl);have tO:=Tryz.typeOfN;have mA:=Tryz.methodAssignableTo;have a25:=Tryz.assignNF;have f6:=Tryz.valueOfFF;have f7:=Tryz.typeFF;have mK:=Tryz.methodKind;have mE:=Tryz.methodElem;have mI:=Tryz.methodImplements;have k27:=Tryz.kindFF;have k25:=Tryz.kindF;have e27:=Tryz.elemFF;have i25:=Tryz.implementsF;have nA:=Tryz.noAsN;have nU:=Tryz.noUnwrapN;have nV:=Tryz.noUnwrapsN;have n8:=Tryz.isNilFF ⟨w.heap.size,0,none⟩ t ((w.alloc (.cells #[.pointer (some t)] 127)).alloc (.cells #[.pointer (some ⟨5,127,none⟩),.pointer (some ⟨w.heap.size,0,none⟩),.int .u64 150] 166)) (by simp);have aa:0<w.heap.size:=QcP hg
 have hg2:((w.alloc (.cells #[.pointer (some t)] 127)).alloc (.cells #[.pointer (some ⟨5,127,none⟩),.pointer (some ⟨w.heap.size,0,none⟩),.int .u64 150] 166)).cell? ⟨0,0,none⟩=some (.iface 238 (.agg #[.pointer (some ⟨5,84,none⟩)])):=by
  rw[World.cell?_alloc_lt _ _ ⟨0,0,none⟩ (by simp),World.cell?_alloc_lt _ _ ⟨0,0,none⟩ aa];exact hg
 go_enter func60,ntmps60;go_wp2;refine wp_loop_rounds 1 ?_;rw[rounds_succ];go_wp2;go_ret;exact⟨rfl,rfl⟩
def Ql3 (t:TypeId):Sem Value:=do Rtype.noPackHeld "Comparable" t;pure (.bool (← typeInfo t).comparable)
theorem Tryz.cmpN(w:World):(ReflectliteType.method Ql3 #[.agg #[.pointer (some ⟨5,33,none⟩)]]).run Tryz.prog w=.ok (.bool true) w:=by kernel_rfl
theorem Qvk(n:Int)(w:World) :
 Calls Tryz.prog 61 #[.iface 33 (.int .i64 n),.iface 33 (.int .i64 n)] w fun e w'=>e=.returned (.bool true)/\w'=w:=by
 have h8:=@run_callFunc_extern Tryz.prog 95 _ ReflectliteType.typeOf func95 (by kernel_rfl) (by kernel_rfl) (by kernel_rfl) (by kernel_rfl);have h32:=@run_callFunc_extern Tryz.prog 331 _ (ReflectliteType.method Ql3) func331 (by kernel_rfl) (by kernel_rfl) (by kernel_rfl) (by kernel_rfl);have tT:=Tryz.typeOfN;have cT:=Tryz.cmpN;have mR:=Tryz.methodComparable;have heq:=Qnk n w;go_enter func61,ntmps61;go_wp2;refine wp_loop_rounds 1 ?_;rw[rounds_succ];go_wp2;go_ret;exact⟨rfl,rfl⟩
theorem QvL(pb:Nat)(n:Int)(w:World)(h1:w.cell? ⟨pb,0,none⟩=some (.int .i64 n)) :
 Calls Tryz.prog 61 #[.iface 125 (.pointer (some ⟨pb,0,none⟩)),.iface 33 (.int .i64 n)] w fun e w'=>e=.returned (.bool true)/\w'=w:=by
 have h8:=@run_callFunc_extern Tryz.prog 95 _ ReflectliteType.typeOf func95 (by kernel_rfl) (by kernel_rfl) (by kernel_rfl) (by kernel_rfl);have h32:=@run_callFunc_extern Tryz.prog 331 _ (ReflectliteType.method Ql3) func331 (by kernel_rfl) (by kernel_rfl) (by kernel_rfl) (by kernel_rfl);have tT:=Tryz.typeOfN;have cT:=Tryz.cmpN;have mR:=Tryz.methodComparable;have nW:=Tryz.noIsF;have uW:=Tryz.hasUnwrapF;have mU:=Tryz.methodUnwrap;have heq:=Qnk n w;have hty:=run_eql_iface_types (P:=Tryz.prog) 125 33 (.pointer (some ⟨pb,0,none⟩)) (.int .i64 n) underlying84 (by decide) w;go_enter func61,ntmps61;go_wp2;refine wp_loop_rounds 2 ?_;rw[rounds_succ];go_wp2;rw[rounds_succ];go_wp2;go_ret;exact⟨rfl,rfl⟩
theorem Qrz(w:World):Calls Tryz.prog 37 #[.nilIface] w fun e w'=>e=.returned (.tuple #[.int .i64 0,.int .i64 (-1)])/\Below w.heap.size w w':=by
 go_enter func37,ntmps37;go_wp2;refine bodyPost_ret (v:=.tuple #[.int .i64 0,.int .i64 (-1)]) (by simp[results,results37,go_sem]) rfl ?_;exact⟨rfl,((Below.refl _ _).alloc (Nat.le_refl _) _).alloc (by simp) _⟩
theorem Qif{w:World}{t:Addr}(o1 o2 o3 o4:Obj)(v:Value):Mod t.block w (((((w.alloc o1).alloc o2).alloc o3).alloc o4).setCell t v):=by
 have h:=((((Mod.refl t.block w).alloc o1).alloc o2).alloc o3).alloc o4;exact⟨h.os,h.tape,h.output,by simpa using h.size,fun k hk hn=>by rw[Below.heap_setCell _ _ _ _ hn];exact h.block k hk hn⟩
theorem QjN{w:World}{t:Addr}{aa:Value}(ht:w.cell? t=some aa)(o1 o2 o3 o4:Obj)(v:Value):(((((w.alloc o1).alloc o2).alloc o3).alloc o4).setCell t v).cell? t=some v:=by
 have ab:t.block<w.heap.size:=QcP ht;refine World.cell?_setCell_same _ _ _ (?_:_=some aa);rw[World.cell?_alloc_lt _ _ t (by simp;omega),World.cell?_alloc_lt _ _ t (by simp;omega),World.cell?_alloc_lt _ _ t (by simp;omega),World.cell?_alloc_lt _ _ t ab];exact ht
theorem Qqy(e t:Addr)(ab:Value)(w:World)(hg:QkC w)(aa:w.cell? t=some ab)(ac:w.frozen? t=false) :
 Calls Tryz.prog 60 #[.iface 125 (.pointer (some e)),.iface 127 (.pointer (some t))] w fun ev w'=>ev=.returned (.bool true)/\Mod t.block w w'/\w'.cell? t=some (.pointer (some e)):=by
 refine(Qxk e t ab w hg aa ac).mono ?_;rintro ev w' ⟨rfl,rfl⟩;exact⟨rfl,Qif _ _ _ _ _,QjN aa _ _ _ _ _⟩
theorem Qo4(n:Int)(t:Addr)(ab:Value)(w:World)(hg:QkC w)(aa:w.cell? t=some ab)(ac:w.frozen? t=false) :
 Calls Tryz.prog 60 #[.iface 33 (.int .i64 n),.iface 131 (.pointer (some t))] w fun ev w'=>ev=.returned (.bool true)/\Mod t.block w w'/\w'.cell? t=some (.int .i64 n):=by
 refine(QxC n t ab w hg aa ac).mono ?_;rintro ev w' ⟨rfl,rfl⟩;exact⟨rfl,Qif _ _ _ _ _,QjN aa _ _ _ _ _⟩
theorem QkI(n:Int)(t:Addr)(w:World)(hg:QkC w) :
 Calls Tryz.prog 60 #[.iface 33 (.int .i64 n),.iface 127 (.pointer (some t))] w fun ev w'=>ev=.returned (.bool false)/\Below w.heap.size w w':=by
 refine(Qvy n t w hg).mono ?_;rintro ev w' ⟨rfl,rfl⟩;exact⟨rfl,(((Below.refl _ _).alloc (Nat.le_refl _) _).alloc (by simp) _).alloc (by simp;omega) _⟩
theorem QkC.below{w w':World}(h:QkC w)(hb:Below w.heap.size w w'):QkC w':=by
 unfold QkC at h ⊢;rw[hb.cell (p:=⟨0,0,none⟩) (QcP h)];exact h
theorem QkC.alloc{w:World}(h:QkC w)(o:Obj):QkC (w.alloc o):=h.below ((Below.refl _ _).alloc (Nat.le_refl _) _)
theorem Qlm(bb:Nat)(n ab:Int)(w:World)(hg:QkC w)(h0:w.cell? ⟨bb,0,none⟩=some (.int .i64 n))(h1:w.cell? ⟨bb,1,none⟩=some (.int .i64 ab)) :
 Calls Tryz.prog 37 #[.iface 125 (.pointer (some ⟨bb,0,none⟩))] w fun e w'=>e=.returned (.tuple #[.int .i64 n,.int .i64 ab])/\Below w.heap.size w w':=by
 have ac:bb<w.heap.size:=QcP h0;have HG:=Qab hg;have H0:=Qab h0;have H1:=Qab h1;clear hg h0 h1;go_enter func37,ntmps37;go_wp2_with fail;refine(Qqy ⟨bb,0,none⟩ ⟨w.heap.size,0,none⟩ (.pointer none) _ ((HG.o.alloc _).alloc _) (by simp) (by simp)).mono ?_;rintro e w1 ⟨rfl,hm,hc⟩;have aa:Mod w.heap.size ((w.alloc (.cells #[.pointer none] 125)).alloc (.cells #[.int .i64 0] 33)) w1:=hm
 have c0:w1.cell? ⟨bb,0,none⟩=some (.int .i64 n):=by
  rw[aa.cell (p:=⟨bb,0,none⟩) (by simp;omega) (by simp;omega),World.cell?_alloc_lt _ _ ⟨bb,0,none⟩ (by simp;omega),World.cell?_alloc_lt _ _ ⟨bb,0,none⟩ ac];exact H0.o
 have c1:w1.cell? ⟨bb,1,none⟩=some (.int .i64 ab):=by
  rw[aa.cell (p:=⟨bb,1,none⟩) (by simp;omega) (by simp;omega),World.cell?_alloc_lt _ _ ⟨bb,1,none⟩ (by simp;omega),World.cell?_alloc_lt _ _ ⟨bb,1,none⟩ ac];exact H1.o
 have HB:Hid (Below w.heap.size w w1):=by
  refine⟨aa.os,aa.tape,aa.output,?_,fun k hk=>?_⟩
  ·have:=aa.size;simp at this;omega
  ·rw[aa.block k (by simp;omega) (by omega),Below.heap_alloc _ _ _ (by simp;omega),Below.heap_alloc _ _ _ hk]
 clear hm aa;go_wp2_with fail;refine(QvL bb n w1 c0).mono ?_;rintro e w2 ⟨rfl,rfl⟩;go_wp2_with fail;go_quiet (fail);go_wp2;refine bodyPost_ret (v:=.tuple #[.int .i64 n,.int .i64 ab]) (by simp[results,results37,go_sem]) rfl ?_;exact⟨rfl,HB.o.os,HB.o.tape,HB.o.output,HB.o.size,HB.o.block⟩
theorem Qsj(n:Int)(w:World)(hg:QkC w) :
 Calls Tryz.prog 37 #[.iface 33 (.int .i64 n)] w fun e w'=>e=.returned (.tuple #[.int .i64 n,.int .i64 (-1)])/\Below w.heap.size w w':=by
 have HG:=Qab hg;clear hg;go_enter func37,ntmps37;go_wp2_with fail;refine(QkI n ⟨w.heap.size,0,none⟩ _ ((HG.o.alloc _).alloc _)).mono ?_;rintro e w1 ⟨rfl,hB⟩
 have c5:w1.cell? ⟨w.heap.size+1,0,none⟩=some (.int .i64 0):=by
  rw[hB.cell (p:=⟨w.heap.size+1,0,none⟩) (by simp)];simp
 have f5:w1.frozen? ⟨w.heap.size+1,0,none⟩=false:=by
  rw[hB.frozen (p:=⟨w.heap.size+1,0,none⟩) (by simp)];simp
 have ab:=Qab (((HG.o.alloc (.cells #[.pointer none] 125)).alloc (.cells #[.int .i64 0] 33)).below hB);have hs:=hB.size;have HB:Hid (Below w.heap.size w w1):=(((Below.refl _ w).alloc (Nat.le_refl _) (.cells #[.pointer none] 125)).alloc (by simp) (.cells #[.int .i64 0] 33)).trans (hB.mono (by simp;omega));clear hB;simp at hs;go_wp2_with fail;refine(Qo4 n ⟨w.heap.size+1,0,none⟩ (.int .i64 0) w1 ab.o c5 f5).mono ?_;rintro e w2 ⟨rfl,hm,hc⟩;have aa:Hid (Below w.heap.size w w2):=HB.o.trans (Mod.below (b:=w.heap.size+1) hm (by omega) (by omega));clear hm;go_wp2_with fail;refine(Qvk n w2).mono ?_;rintro e w3 ⟨rfl,rfl⟩;go_wp2;refine bodyPost_ret (v:=.tuple #[.int .i64 n,.int .i64 (-1)]) (by simp[results,results37,go_sem]) rfl ?_;exact⟨rfl,aa.o⟩
end
section
open Go.RowKit
attribute [local go_sem ↓] Go.wp_at_zero Go.wp_at_succ
theorem Qqo(t:ByteArray)(w:World)(ht:600<t.size) :
 Calls Tryz.prog 36 #[.string t] w fun e w'=>e=.returned (.tuple #[.pointer none,.iface 33 (.int .i64 1)])/\Below w.heap.size w w':=by
 go_enter func36,ntmps36;go_wp2_with fail;refine(QsK t w ht).mono ?_;rintro e w1 ⟨rfl,aa⟩;have HB:=Qab aa;have ab:=aa.size;clear aa;go_wp2;refine bodyPost_ret (v:=.tuple #[.pointer none,.iface 33 (.int .i64 1)]) (by simp[results,results36,go_sem]) rfl ?_;exact⟨rfl,HB.o.alloc ab _⟩
def PP (t:ByteArray) (w:World) (e:Ending) (w':World):Prop:=
 Below w.heap.size w w'∧((600 < t.size∧e=.returned (.tuple #[.pointer none,.int .i64 1,.int .i64 (-1)]))∨
  (t.size≤600∧∃ y g rv lv,prL t.data.toList=.ok y∧e=.returned (.tuple #[.pointer (some ⟨g,0,none⟩),.int .i64 0,.int .i64 (-1)])∧w.heap.size≤g∧w'.heap[g]?=some (.cells #[rv,lv] 124)∧Qk6 (fromB w.heap.size) y.1 w' rv∧blX (fromB w.heap.size) (QhW 7) y.2 w' lv)∨
  (t.size≤600∧∃ f,prL t.data.toList=.error f∧e=.returned (.tuple #[.pointer none,.int .i64 f.err,.int .i64 f.pos])))
theorem Qcz(t:ByteArray)(w:World)(ai:∃ m,w.cell? ⟨1,0,none⟩=some (.int .i64 m))(hg:QkC w) :
 Calls Tryz.prog 19 #[.string t] w (PP t w):=by
 have HG:=Qab hg;clear hg;rcases Nat.lt_or_ge 600 t.size with ht|ht
 ·go_enter func19,ntmps19;go_wp2_with fail;refine(Qqo t w ht).mono ?_;rintro e w1 ⟨rfl,hB⟩;have HB:=Qab hB;have hs:=hB.size;clear hB;go_wp2_with fail;refine(Qsj 1 w1 (HG.o.below HB.o)).mono ?_;rintro e w2 ⟨rfl,aa⟩;have ab:=Qab (HB.o.trans (aa.mono hs));clear aa;go_wp2;refine bodyPost_ret (v:=.tuple #[.pointer none,.int .i64 1,.int .i64 (-1)]) (by simp[results,results19,go_sem]) rfl ?_;exact⟨ab.o,Or.inl ⟨ht,rfl⟩⟩
 ·go_enter func19,ntmps19;go_wp2_with fail;refine(Qos t w ht ai).mono ?_;rintro e w1 ⟨hB,⟨y,g,rv,lv,hy,rfl,hz,hc,hr,hb⟩ | ⟨f,bb,hf,rfl,hz,ad⟩⟩
  ·have HB:=Qab hB;have hs:=hB.size;have HY:=Qab hy;have HC:=Qab hc;have HR:=Qab hr;have ae:=Qab hb;clear hB hy hc hr hb;go_wp2_with fail;refine(Qrz w1).mono ?_;rintro e w2 ⟨rfl,aa⟩;have ab:=Qab (HB.o.trans (aa.mono hs));have HC2:=Qab (World.cell?_of_block (w:=w1) (w':=w2) (a:=⟨g,0,none⟩) (aa.block g (QaI HC.o)));have HK:=Qab (aa.block g (QaI HC.o));have ah:=Qab (HR.o.keep (fun k _ hk=>aa.block k hk));have ac:=Qab (ae.o.keep (QaX 7) (fun k _ hk=>aa.block k hk));clear aa;go_wp2;refine bodyPost_ret (v:=.tuple #[.pointer (some ⟨g,0,none⟩),.int .i64 0,.int .i64 (-1)]) (by simp[results,results19,go_sem]) rfl ?_;exact⟨ab.o,Or.inr (Or.inl ⟨ht,y,g,rv,lv,HY.o,rfl,hz,by rw[HK.o];exact HC.o,ah.o,ac.o⟩)⟩
  ·have HB:=Qab hB;have hs:=hB.size;have HF:=Qab hf;have c0:w1.cell? ⟨bb,0,none⟩=some (.int .i64 f.err):=Qaa ad 0;have c1:w1.cell? ⟨bb,1,none⟩=some (.int .i64 f.pos):=Qaa ad 1;have af:=Qab c0;have ag:=Qab c1;clear hB hf ad c0 c1;go_wp2_with fail;refine(Qlm bb f.err f.pos w1 (HG.o.below HB.o) af.o ag.o).mono ?_;rintro e w2 ⟨rfl,aa⟩;have ab:=Qab (HB.o.trans (aa.mono hs));clear aa;go_wp2;refine bodyPost_ret (v:=.tuple #[.pointer none,.int .i64 f.err,.int .i64 f.pos]) (by simp[results,results19,go_sem]) rfl ?_;exact⟨ab.o,Or.inr (Or.inr ⟨ht,f,HF.o,rfl⟩)⟩
end
end Go.Proofs.YtgnkjijocdmniaaGreatDoor
