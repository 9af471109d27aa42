import Derived.Stop.Asserts
import Derived.Test.YthkibedbcbgajaaGreatDoorZAAdd
namespace Go.Proofs.YthkibedbcbgajaaGreatDoor
set_option linter.unusedVariables false
set_option linter.unusedSimpArgs false
set_option maxRecDepth 100000
set_option maxHeartbeats 4000000
open Go.Proofs.Tryz
section
open Go.RowKit
attribute [local go_sem ↓] Go.wp_at_zero Go.wp_at_succ
theorem Qo7(hw:L8)(p:Nat)(arg:L8)(w:World) :
 Calls Tryz.prog 232 #[.agg #[.string (sA hw),.int .i64 p,.int .i64 1,.string (sA arg)]] w fun e w'=>e=.returned (Qde (Qjh 1 p []) (.slice none 0 0) (.slice none 0 0))/\Below w.heap.size w w':=by
 go_enter func232,ntmps232;go_wp2;refine bodyPost_ret (v:=Qde (Qjh 1 p []) (.slice none 0 0) (.slice none 0 0)) (by simp[results,results232,go_sem,Qde,Qjh]) rfl ?_;exact⟨rfl,(((Below.refl _ _).alloc (Nat.le_refl _) _).alloc (by simp) _).alloc (by simp;omega) _⟩
theorem Qnl(hw:L8)(p:Nat)(k:Nat)(arg:L8)(w:World)(hk:k≠1) :
 Calls Tryz.prog 232 #[.agg #[.string (sA hw),.int .i64 p,.int .i64 k,.string (sA arg)]] w fun e w'=>∃ g,e=.returned (Qde (Qjh k p [arg]) (.slice (some ⟨g,0,none⟩) 1 1) (.slice none 0 0))/\SlT w' (.slice (some ⟨g,0,none⟩) 1 1) [arg]/\Below w.heap.size w w':=by
 have hk':((k:Int) != 1)=true:=by simp;omega
 go_enter func232,ntmps232;go_wp2;refine bodyPost_ret (v:=Qde (Qjh k p [arg]) (.slice (some ⟨w.heap.size+1+1+1,0,none⟩) 1 1) (.slice none 0 0)) (by simp[results,results232,go_sem,Qde,Qjh]) rfl ?_;refine⟨w.heap.size+1+1+1,rfl,Or.inr ⟨w.heap.size+1+1+1,1,rfl,#[.string (sA arg)],Qaq (by simp),fun j hj=>?_⟩,((((Below.refl _ _).alloc (Nat.le_refl _) _).alloc (by simp) _).alloc (by simp;omega) _).alloc (by simp;omega) _⟩;have:j=0:=by simp at hj;exact hj
 subst this;rfl
end
section
open Go.RowKit
section
variable {P:Program} {w:World} {t xT T:TypeId} {v z:Value}
theorem QhA{fs:Array Field}(hu:P.underlying T=some (.struct fs))(hz:(P.info? T).map (·.zero)=some (some z))(ab:¬ t=T) :
 (Instr.typeAssert (.iface t v) xT T true).run P w=.ok (.tuple #[z,.bool false]) w:=by
 obtain⟨j,hj,aa⟩:=Option.map_eq_some_iff.1 hz;simp[Instr.typeAssert,run_underlying hu,typeInfo,ab,zeroValue,hj,aa]
theorem Qdy{fs:Array Field}(hu:P.underlying T=some (.struct fs)) :
 (Instr.typeAssert (.iface T v) xT T true).run P w=.ok (.tuple #[v,.bool true]) w:=by
 simp[Instr.typeAssert,run_underlying hu]
end
theorem Tryz.noNot(t xT:TypeId)(v:Value)(w:World)(h:¬ t=281):(Instr.typeAssert (.iface t v) xT 281 true).run Tryz.prog w=.ok (.tuple #[.agg #[.string ⟨#[]⟩,.int .i64 0,.nilIface],.bool false]) w:=QhA underlying281 (by kernel_rfl) h
theorem Tryz.yesNot(xT:TypeId)(v:Value)(w:World):(Instr.typeAssert (.iface 281 v) xT 281 true).run Tryz.prog w=.ok (.tuple #[v,.bool true]) w:=Qdy underlying281
theorem Tryz.noAllOf(t xT:TypeId)(v:Value)(w:World)(h:¬ t=208):(Instr.typeAssert (.iface t v) xT 208 true).run Tryz.prog w=.ok (.tuple #[.agg #[.string ⟨#[]⟩,.int .i64 0,.slice none 0 0],.bool false]) w:=QhA underlying208 (by kernel_rfl) h
theorem Tryz.yesAllOf(xT:TypeId)(v:Value)(w:World):(Instr.typeAssert (.iface 208 v) xT 208 true).run Tryz.prog w=.ok (.tuple #[v,.bool true]) w:=Qdy underlying208
theorem Tryz.noAnyOf(t xT:TypeId)(v:Value)(w:World)(h:¬ t=209):(Instr.typeAssert (.iface t v) xT 209 true).run Tryz.prog w=.ok (.tuple #[.agg #[.string ⟨#[]⟩,.int .i64 0,.slice none 0 0],.bool false]) w:=QhA underlying209 (by kernel_rfl) h
theorem Tryz.yesAnyOf(xT:TypeId)(v:Value)(w:World):(Instr.typeAssert (.iface 209 v) xT 209 true).run Tryz.prog w=.ok (.tuple #[v,.bool true]) w:=Qdy underlying209
theorem Tryz.noHeader(t xT:TypeId)(v:Value)(w:World)(h:¬ t=215):(Instr.typeAssert (.iface t v) xT 215 true).run Tryz.prog w=.ok (.tuple #[.agg #[.string ⟨#[]⟩,.int .i64 0,.int .i64 0,.bool false,.slice none 0 0,.slice none 0 0],.bool false]) w:=QhA underlying215 (by kernel_rfl) h
theorem Tryz.yesHeader(xT:TypeId)(v:Value)(w:World):(Instr.typeAssert (.iface 215 v) xT 215 true).run Tryz.prog w=.ok (.tuple #[v,.bool true]) w:=Qdy underlying215
theorem Tryz.noEnvelope(t xT:TypeId)(v:Value)(w:World)(h:¬ t=218):(Instr.typeAssert (.iface t v) xT 218 true).run Tryz.prog w=.ok (.tuple #[.agg #[.string ⟨#[]⟩,.int .i64 0,.int .i64 0,.bool false,.slice none 0 0,.slice none 0 0],.bool false]) w:=QhA underlying218 (by kernel_rfl) h
theorem Tryz.yesEnvelope(xT:TypeId)(v:Value)(w:World):(Instr.typeAssert (.iface 218 v) xT 218 true).run Tryz.prog w=.ok (.tuple #[v,.bool true]) w:=Qdy underlying218
theorem Tryz.noString(t xT:TypeId)(v:Value)(w:World)(h:¬ t=219):(Instr.typeAssert (.iface t v) xT 219 true).run Tryz.prog w=.ok (.tuple #[.agg #[.string ⟨#[]⟩,.int .i64 0,.int .i64 0,.bool false,.slice none 0 0,.slice none 0 0],.bool false]) w:=QhA underlying219 (by kernel_rfl) h
theorem Tryz.yesString(xT:TypeId)(v:Value)(w:World):(Instr.typeAssert (.iface 219 v) xT 219 true).run Tryz.prog w=.ok (.tuple #[v,.bool true]) w:=Qdy underlying219
theorem Tryz.noExists(t xT:TypeId)(v:Value)(w:World)(h:¬ t=285):(Instr.typeAssert (.iface t v) xT 285 true).run Tryz.prog w=.ok (.tuple #[.agg #[.string ⟨#[]⟩,.int .i64 0,.slice none 0 0],.bool false]) w:=QhA underlying285 (by kernel_rfl) h
theorem Tryz.yesExists(xT:TypeId)(v:Value)(w:World):(Instr.typeAssert (.iface 285 v) xT 285 true).run Tryz.prog w=.ok (.tuple #[v,.bool true]) w:=Qdy underlying285
theorem Tryz.yesSize(xT:TypeId)(v:Value)(w:World):(Instr.typeAssert (.iface 287 v) xT 287 true).run Tryz.prog w=.ok (.tuple #[v,.bool true]) w:=Qdy underlying287
theorem Tryz.yesIf(xT:TypeId)(v:Value)(w:World):(Instr.typeAssert (.iface 275 v) xT 275 true).run Tryz.prog w=.ok (.tuple #[v,.bool true]) w:=Qdy underlying275
theorem Tryz.noSet(t xT:TypeId)(v:Value)(w:World)(h:¬ t=269):(Instr.typeAssert (.iface t v) xT 269 true).run Tryz.prog w=.ok (.tuple #[.agg #[.string ⟨#[]⟩,.int .i64 0,.int .i64 0,.string ⟨#[]⟩,.string ⟨#[]⟩],.bool false]) w:=QhA underlying269 (by kernel_rfl) h
theorem Tryz.yesSet(xT:TypeId)(v:Value)(w:World):(Instr.typeAssert (.iface 269 v) xT 269 true).run Tryz.prog w=.ok (.tuple #[v,.bool true]) w:=Qdy underlying269
theorem Tryz.noAct(t xT:TypeId)(v:Value)(w:World)(h:¬ t=262):(Instr.typeAssert (.iface t v) xT 262 true).run Tryz.prog w=.ok (.tuple #[.agg #[.string ⟨#[]⟩,.int .i64 0,.int .i64 0,.string ⟨#[]⟩],.bool false]) w:=QhA underlying262 (by kernel_rfl) h
theorem Tryz.yesAct(xT:TypeId)(v:Value)(w:World):(Instr.typeAssert (.iface 262 v) xT 262 true).run Tryz.prog w=.ok (.tuple #[v,.bool true]) w:=Qdy underlying262
theorem Tryz.noTruth(t xT:TypeId)(v:Value)(w:World)(h:¬ t=278):(Instr.typeAssert (.iface t v) xT 278 true).run Tryz.prog w=.ok (.tuple #[.agg #[.string ⟨#[]⟩,.int .i64 0,.bool false],.bool false]) w:=QhA underlying278 (by kernel_rfl) h
theorem Tryz.yesTruth(xT:TypeId)(v:Value)(w:World):(Instr.typeAssert (.iface 278 v) xT 278 true).run Tryz.prog w=.ok (.tuple #[v,.bool true]) w:=Qdy underlying278
theorem Tryz.noDiscard(t xT:TypeId)(v:Value)(w:World)(h:¬ t=264):(Instr.typeAssert (.iface t v) xT 264 true).run Tryz.prog w=.ok (.tuple #[.agg #[.string ⟨#[]⟩,.int .i64 0],.bool false]) w:=QhA underlying264 (by kernel_rfl) h
theorem Tryz.yesDiscard(xT:TypeId)(v:Value)(w:World):(Instr.typeAssert (.iface 264 v) xT 264 true).run Tryz.prog w=.ok (.tuple #[v,.bool true]) w:=Qdy underlying264
theorem Tryz.noStop(t xT:TypeId)(v:Value)(w:World)(h:¬ t=265):(Instr.typeAssert (.iface t v) xT 265 true).run Tryz.prog w=.ok (.tuple #[.agg #[.string ⟨#[]⟩,.int .i64 0],.bool false]) w:=QhA underlying265 (by kernel_rfl) h
theorem Tryz.yesStop(xT:TypeId)(v:Value)(w:World):(Instr.typeAssert (.iface 265 v) xT 265 true).run Tryz.prog w=.ok (.tuple #[v,.bool true]) w:=Qdy underlying265
end
section
open Go.RowKit
attribute [local go_sem ↓] Go.wp_at_zero Go.wp_at_succ
def SubC (fn B cb:Nat) (w:World) (v:Value) (sub:List Ins→List Ins):Prop:=
 ∀ W cs,Below B w W→CC W B cb cs→(sub cs).length≤1000000→Calls Tryz.prog fn #[.pointer (some ⟨cb,0,none⟩),v] W (Qc7 B cb (sub cs) W)
theorem SubC.below{fn B cb:Nat}{w w':World}{v:Value}{sub:List Ins->List Ins}(h:SubC fn B cb w v sub)(hb:Below B w w'):SubC fn B cb w' v sub:=fun W cs hW hc hl=>h W cs (hb.trans hW) hc hl
theorem QkP(g B cb:Nat)(cs:List Ins)(i:Ins)(av bv:Value)(W:World)(hg:g=W.heap.size)(h:CC W B cb cs)(ab:QbY W i av bv)(aa:cs.length+1<=1000000) :
 Calls Tryz.prog 231 #[.pointer (some ⟨cb,0,none⟩),.slice (some ⟨g,0,none⟩) 1 1] (W.alloc (.cells #[.int .i64 i.op,.int .i64 i.n,.int .i64 i.tag,.bool i.oct,av,bv,.int .i64 i.at_] 147)) fun e w'=>e=.returned (.int .i64 (cs.length:Int))/\CC w' B cb (cs++[i])/\Fr (PCo B) W w':=by
 subst hg;exact Qcc B cb cs i av bv W h ab aa
theorem QiY(hw:L8)(p:Nat)(b:Bool)(B cb:Nat)(cs:List Ins)(w:World)(h:CC w B cb cs)(hl:cs.length+1<=1000000) :
 Calls Tryz.prog 252 #[.pointer (some ⟨cb,0,none⟩),.iface 278 (.agg #[.string (sA hw),.int .i64 p,.bool b])] w (Qc7 B cb (cs++[QcM b]) w):=by
 have yy:=Tryz.yesTruth;have H:=Qab h;have HL:=Qab hl;have ad:∀ o,Below w.heap.size w (w.alloc o):=fun o=>(Below.refl _ _).alloc (Nat.le_refl _) o
 have ai:=Qab ad;clear h hl ad;go_enter func252,ntmps252;go_wp2_with (first|(go_at_call 274;refine(Qky b _).mono ?_;rintro e w1 ⟨rfl,ae⟩;have ac:=Qab ((ai.o _).trans (ae.mono (by simp)));have ah:=Qab (H.o.below ac.o);clear ae;unfold Qde;skip)|(go_at_call 231;refine(Qcc B cb cs (QcM b) _ _ w1 ah.o (QcY _ _ rfl rfl (by cases b<;>decide) (by cases b<;>decide)) HL.o).mono ?_;rintro e w2 ⟨rfl,ab,aa⟩;have af:=Qab ab;have ag:=Qab ((Fr.of_below ac.o).trans aa);clear ab aa;skip));go_end0;exact⟨rfl,af.o,ag.o⟩
theorem Qmm(X:Nat->Prop)(hw:L8)(x:Qec)(u:Value)(B cb:Nat)(cs:List Ins)(w:World)(h:CC w B cb cs)(hl:cs.length+1<=1000000)(hm:mtX X hw x w u)(h1:x.fr.length<=1000000)(h2:x.keys.length<=1000000)(h3:∀ z∈x.fr,z.length<=100000)(h4:∀ z∈x.keys,z.length<=100000) :
 Calls Tryz.prog 252 #[.pointer (some ⟨cb,0,none⟩),.iface 215 u] w (Qc7 B cb (cs++[Qcl 6 x]) w):=by
 obtain⟨fv,kv,rfl,hf,hk⟩:=hm;have HF:=Qab hf;have HK:=Qab hk;obtain⟨gf,cf,rfl,aj⟩:=hf;obtain⟨gk,ck,rfl,ap⟩:=hk;have aa:=Qab (And.intro h1 (And.intro h2 (And.intro h3 h4)));clear aj ap h1 h2 h3 h4;have n0:=Tryz.noTruth;have n1:=Tryz.noNot;have n2:=Tryz.noAllOf;have n3:=Tryz.noAnyOf;have yy:=Tryz.yesHeader;have H:=Qab h;have HL:=Qab hl;have ah:∀ o,Below w.heap.size w (w.alloc o):=fun o=>(Below.refl _ _).alloc (Nat.le_refl _) o
 have ab:=Qab ah;clear h hl ah;go_enter func252,ntmps252;go_wp2_with (first|(go_at_call 276;refine(QeA 6 X hw x _ _ _ (HF.o.keep (fun k _ hk=>(ab.o _).block k hk)) (HK.o.keep (fun k _ hk=>(ab.o _).block k hk)) aa.o.1 aa.o.2.1).mono ?_;rintro e w1 ⟨a1,k1,a2,k2,rfl,ac,ag,ai⟩;have af:=Qab ((ab.o _).trans (ai.mono (by simp)));have au:=Qab (H.o.below af.o);have ao:=Qab ac;have ar:=Qab ag;clear ai ac ag;unfold Qde;skip)|(go_at_call 231;refine(Qcc B cb cs (Qcl 6 x) _ _ w1 au.o ⟨ao.o,ar.o,aa.o.2.2.1,aa.o.2.2.2,aa.o.1,aa.o.2.1,(by show(-9223372036854775808:Int)<=0;decide),(by show(0:Int)<=9223372036854775807;decide)⟩ HL.o).mono ?_;rintro e w2 ⟨rfl,ae,ad⟩;have ak:=Qab ae;have aq:=Qab ((Fr.of_below af.o).trans ad);clear ae ad;skip));go_end0;exact⟨rfl,ak.o,aq.o⟩
theorem QjF(X:Nat->Prop)(hw:L8)(x:Qec)(u:Value)(B cb:Nat)(cs:List Ins)(w:World)(h:CC w B cb cs)(hl:cs.length+1<=1000000)(hm:mtX X hw x w u)(h1:x.fr.length<=1000000)(h2:x.keys.length<=1000000)(h3:∀ z∈x.fr,z.length<=100000)(h4:∀ z∈x.keys,z.length<=100000) :
 Calls Tryz.prog 252 #[.pointer (some ⟨cb,0,none⟩),.iface 218 u] w (Qc7 B cb (cs++[Qcl 7 x]) w):=by
 obtain⟨fv,kv,rfl,hf,hk⟩:=hm;have HF:=Qab hf;have HK:=Qab hk;obtain⟨gf,cf,rfl,aj⟩:=hf;obtain⟨gk,ck,rfl,ap⟩:=hk;have aa:=Qab (And.intro h1 (And.intro h2 (And.intro h3 h4)));clear aj ap h1 h2 h3 h4;have n0:=Tryz.noTruth;have n1:=Tryz.noNot;have n2:=Tryz.noAllOf;have n3:=Tryz.noAnyOf;have n4:=Tryz.noHeader;have yy:=Tryz.yesEnvelope;have H:=Qab h;have HL:=Qab hl;have ah:∀ o,Below w.heap.size w (w.alloc o):=fun o=>(Below.refl _ _).alloc (Nat.le_refl _) o
 have ab:=Qab ah;clear h hl ah;go_enter func252,ntmps252;go_wp2_with (first|(go_at_call 276;refine(QeA 7 X hw x _ _ _ (HF.o.keep (fun k _ hk=>(ab.o _).block k hk)) (HK.o.keep (fun k _ hk=>(ab.o _).block k hk)) aa.o.1 aa.o.2.1).mono ?_;rintro e w1 ⟨a1,k1,a2,k2,rfl,ac,ag,ai⟩;have af:=Qab ((ab.o _).trans (ai.mono (by simp)));have au:=Qab (H.o.below af.o);have ao:=Qab ac;have ar:=Qab ag;clear ai ac ag;unfold Qde;skip)|(go_at_call 231;refine(Qcc B cb cs (Qcl 7 x) _ _ w1 au.o ⟨ao.o,ar.o,aa.o.2.2.1,aa.o.2.2.2,aa.o.1,aa.o.2.1,(by show(-9223372036854775808:Int)<=0;decide),(by show(0:Int)<=9223372036854775807;decide)⟩ HL.o).mono ?_;rintro e w2 ⟨rfl,ae,ad⟩;have ak:=Qab ae;have aq:=Qab ((Fr.of_below af.o).trans ad);clear ae ad;skip));go_end0;exact⟨rfl,ak.o,aq.o⟩
theorem Qnm(X:Nat->Prop)(hw:L8)(x:Qec)(u:Value)(B cb:Nat)(cs:List Ins)(w:World)(h:CC w B cb cs)(hl:cs.length+1<=1000000)(hm:mtX X hw x w u)(h1:x.fr.length<=1000000)(h2:x.keys.length<=1000000)(h3:∀ z∈x.fr,z.length<=100000)(h4:∀ z∈x.keys,z.length<=100000) :
 Calls Tryz.prog 252 #[.pointer (some ⟨cb,0,none⟩),.iface 219 u] w (Qc7 B cb (cs++[Qcl 8 x]) w):=by
 obtain⟨fv,kv,rfl,hf,hk⟩:=hm;have HF:=Qab hf;have HK:=Qab hk;obtain⟨gf,cf,rfl,aj⟩:=hf;obtain⟨gk,ck,rfl,ap⟩:=hk;have aa:=Qab (And.intro h1 (And.intro h2 (And.intro h3 h4)));clear aj ap h1 h2 h3 h4;have n0:=Tryz.noTruth;have n1:=Tryz.noNot;have n2:=Tryz.noAllOf;have n3:=Tryz.noAnyOf;have n4:=Tryz.noHeader;have n5:=Tryz.noEnvelope;have yy:=Tryz.yesString;have H:=Qab h;have HL:=Qab hl;have ah:∀ o,Below w.heap.size w (w.alloc o):=fun o=>(Below.refl _ _).alloc (Nat.le_refl _) o
 have ab:=Qab ah;clear h hl ah;go_enter func252,ntmps252;go_wp2_with (first|(go_at_call 276;refine(QeA 8 X hw x _ _ _ (HF.o.keep (fun k _ hk=>(ab.o _).block k hk)) (HK.o.keep (fun k _ hk=>(ab.o _).block k hk)) aa.o.1 aa.o.2.1).mono ?_;rintro e w1 ⟨a1,k1,a2,k2,rfl,ac,ag,ai⟩;have af:=Qab ((ab.o _).trans (ai.mono (by simp)));have au:=Qab (H.o.below af.o);have ao:=Qab ac;have ar:=Qab ag;clear ai ac ag;unfold Qde;skip)|(go_at_call 231;refine(Qcc B cb cs (Qcl 8 x) _ _ w1 au.o ⟨ao.o,ar.o,aa.o.2.2.1,aa.o.2.2.2,aa.o.1,aa.o.2.1,(by show(-9223372036854775808:Int)<=0;decide),(by show(0:Int)<=9223372036854775807;decide)⟩ HL.o).mono ?_;rintro e w2 ⟨rfl,ae,ad⟩;have ak:=Qab ae;have aq:=Qab ((Fr.of_below af.o).trans ad);clear ae ad;skip));go_end0;exact⟨rfl,ak.o,aq.o⟩
theorem QmY(X:Nat->Prop)(hw:L8)(p:Nat)(xs:List (L8))(u:Value)(B cb:Nat)(cs:List Ins)(w:World)(h:CC w B cb cs)(hl:cs.length+1<=1000000)(hm:slX X xs w u)(h1:xs.length<=1000000)(h3:∀ z∈xs,z.length<=100000) :
 Calls Tryz.prog 252 #[.pointer (some ⟨cb,0,none⟩),.iface 285 (.agg #[.string (sA hw),.int .i64 p,u])] w (Qc7 B cb (cs++[⟨9,0,0,false,xs,[],0⟩]) w):=by
 have HF:=Qab hm;obtain⟨gf,cf,rfl,ai⟩:=hm;have aa:=Qab (And.intro h1 h3);clear ai h1 h3;have n0:=Tryz.noTruth;have n1:=Tryz.noNot;have n2:=Tryz.noAllOf;have n3:=Tryz.noAnyOf;have n4:=Tryz.noHeader;have n5:=Tryz.noEnvelope;have n6:=Tryz.noString;have yy:=Tryz.yesExists;have H:=Qab h;have HL:=Qab hl;have ag:∀ o,Below w.heap.size w (w.alloc o):=fun o=>(Below.refl _ _).alloc (Nat.le_refl _) o
 have ah:=Qab ag;clear h hl ag;go_enter func252,ntmps252;go_wp2_with (first|(go_at_call 277;refine(QeZ X xs _ _ (HF.o.keep (fun k _ hk=>(ah.o _).block k hk)) aa.o.1).mono ?_;rintro e w1 ⟨a1,k1,rfl,ab,ad⟩;have af:=Qab ((ah.o _).trans (ad.mono (by simp)));have ap:=Qab (H.o.below af.o);have ak:=Qab ab;clear ad ab;skip)|(go_at_call 231;refine(Qcc B cb cs ⟨9,0,0,false,xs,[],0⟩ _ _ w1 ap.o ⟨ak.o,Or.inl ⟨rfl,rfl⟩,aa.o.2,(fun z hz=>nomatch hz),aa.o.1,Nat.zero_le _,(by show(-9223372036854775808:Int)<=0;decide),(by show(0:Int)<=9223372036854775807;decide)⟩ HL.o).mono ?_;rintro e w2 ⟨rfl,ae,ac⟩;have aj:=Qab ae;have ao:=Qab ((Fr.of_below af.o).trans ac);clear ae ac;skip));go_end0;exact⟨rfl,aj.o,ao.o⟩
theorem QrL(hw:L8)(p tag aa:Nat)(B cb:Nat)(cs:List Ins)(w:World)(h:CC w B cb cs)(hl:cs.length+1<=1000000)(hn:aa<=2147483647) :
 Calls Tryz.prog 252 #[.pointer (some ⟨cb,0,none⟩),.iface 287 (.agg #[.string (sA hw),.int .i64 p,.int .i64 tag,.int .i64 aa])] w (Qc7 B cb (cs++[⟨10,aa,tag,false,[],[],0⟩]) w):=by
 have HN:Hid ((-9223372036854775808:Int)<=(aa:Int)/\(aa:Int)<=9223372036854775807):=by show _/\_;omega
 have af:Hid (∀ o,CC (w.alloc o) B cb cs):=fun o=>h.alloc o
 have n0:=Tryz.noTruth;have n1:=Tryz.noNot;have n2:=Tryz.noAllOf;have n3:=Tryz.noAnyOf;have n4:=Tryz.noHeader;have n5:=Tryz.noEnvelope;have n6:=Tryz.noString;have n7:=Tryz.noExists;have yy:=Tryz.yesSize;have H:=Qab h;have HL:=Qab hl;have ad:∀ o,Below w.heap.size w (w.alloc o):=fun o=>(Below.refl _ _).alloc (Nat.le_refl _) o
 have ah:=Qab ad;clear h hl ad;go_enter func252,ntmps252;go_wp2_with (first|(go_at_call 231;refine(QkP _ B cb cs ⟨10,aa,tag,false,[],[],0⟩ _ _ _ (by simp) (af.o _) (QcY _ _ rfl rfl HN.o.1 HN.o.2) HL.o).mono ?_;rintro e w2 ⟨rfl,ac,ab⟩;have ae:=Qab ac;have ag:=Qab ((Fr.of_below (ah.o _)).trans ab);clear ac ab;skip));go_end0;exact⟨rfl,ae.o,ag.o⟩
theorem Qt3(hw:L8)(p:Nat)(ty:TypeId)(y:Value)(aa:List Ins->List Ins)(B cb:Nat)(cs:List Ins)(w:World)(h:CC w B cb cs)(hl:(aa cs).length+1<=1000000)(ho:SubC 252 B cb w (.iface ty y) aa) :
 Calls Tryz.prog 252 #[.pointer (some ⟨cb,0,none⟩),.iface 281 (.agg #[.string (sA hw),.int .i64 p,.iface ty y])] w (Qc7 B cb (aa cs++[QcO 2]) w):=by
 have HO:=Qab ho;have aj:Hid (∀ o,Below B w (w.alloc o)):=fun o=>(Below.refl _ _).alloc (Nat.le_of_lt (Nat.lt_of_le_of_lt h.lt.1 h.lt.2)) o
 clear ho;have n0:=Tryz.noTruth;have yy:=Tryz.yesNot;have H:=Qab h;have HL:=Qab hl;have af:∀ o,Below w.heap.size w (w.alloc o):=fun o=>(Below.refl _ _).alloc (Nat.le_refl _) o
 have ao:=Qab af;clear h hl af;go_enter func252,ntmps252;go_wp2_with (first|(go_at_call 252;refine(HO.o _ cs (aj.o _) (H.o.alloc _) (Nat.le_of_succ_le HL.o)).mono ?_;rintro e w1 ⟨rfl,ae,ac⟩;have ak:=Qab ae;have ah:=Qab ((Fr.of_below (ao.o _)).trans ac);clear ae ac;skip)|(go_at_call 231;refine(Qcc B cb (aa cs) (QcO 2) _ _ _ ak.o (QcY _ _ rfl rfl (by decide) (by decide)) HL.o).mono ?_;rintro e w2 ⟨rfl,ad,ab⟩;have ag:=Qab ad;have ai:=Qab (ah.o.trans ab);clear ad ab;skip));go_end0;exact⟨rfl,ag.o,ai.o⟩
theorem Qo5(hw:L8)(p:Nat)(a:Option Addr)(n c:Nat)(ds:List Ins)(B cb:Nat)(cs:List Ins)(w:World)(h:CC w B cb cs)(hl:B<=w.heap.size)(ho:∀ W,Below B w W->CC W B cb cs->Calls Tryz.prog 275 #[.pointer (some ⟨cb,0,none⟩),.slice a n c,.int .i64 5,.bool false] W (Qc7 B cb ds W)) :
 Calls Tryz.prog 252 #[.pointer (some ⟨cb,0,none⟩),.iface 208 (.agg #[.string (sA hw),.int .i64 p,.slice a n c])] w (Qc7 B cb ds w):=by
 have HO:=Qab ho;have af:Hid (∀ o,Below B w (w.alloc o)):=fun o=>(Below.refl _ _).alloc (Nat.le_of_lt (Nat.lt_of_le_of_lt h.lt.1 h.lt.2)) o
 clear ho;have n0:=Tryz.noTruth;have n1:=Tryz.noNot;have yy:=Tryz.yesAllOf;have H:=Qab h;have HL:=Qab hl;have ac:∀ o,Below w.heap.size w (w.alloc o):=fun o=>(Below.refl _ _).alloc (Nat.le_refl _) o
 have ag:=Qab ac;clear h hl ac;go_enter func252,ntmps252;go_wp2_with (first|(go_at_call 275;refine(HO.o _ (af.o _) (H.o.alloc _)).mono ?_;rintro e w1 ⟨rfl,ab,aa⟩;have ad:=Qab ab;have ae:=Qab ((Fr.of_below (ag.o _)).trans aa);clear ab aa;skip));go_end0;exact⟨rfl,ad.o,ae.o⟩
theorem Qpc(hw:L8)(p:Nat)(a:Option Addr)(n c:Nat)(ds:List Ins)(B cb:Nat)(cs:List Ins)(w:World)(h:CC w B cb cs)(hl:B<=w.heap.size)(ho:∀ W,Below B w W->CC W B cb cs->Calls Tryz.prog 275 #[.pointer (some ⟨cb,0,none⟩),.slice a n c,.int .i64 4,.bool true] W (Qc7 B cb ds W)) :
 Calls Tryz.prog 252 #[.pointer (some ⟨cb,0,none⟩),.iface 209 (.agg #[.string (sA hw),.int .i64 p,.slice a n c])] w (Qc7 B cb ds w):=by
 have HO:=Qab ho;have af:Hid (∀ o,Below B w (w.alloc o)):=fun o=>(Below.refl _ _).alloc (Nat.le_of_lt (Nat.lt_of_le_of_lt h.lt.1 h.lt.2)) o
 clear ho;have n0:=Tryz.noTruth;have n1:=Tryz.noNot;have n2:=Tryz.noAllOf;have yy:=Tryz.yesAnyOf;have H:=Qab h;have HL:=Qab hl;have ac:∀ o,Below w.heap.size w (w.alloc o):=fun o=>(Below.refl _ _).alloc (Nat.le_refl _) o
 have ag:=Qab ac;clear h hl ac;go_enter func252,ntmps252;go_wp2_with (first|(go_at_call 275;refine(HO.o _ (af.o _) (H.o.alloc _)).mono ?_;rintro e w1 ⟨rfl,ab,aa⟩;have ad:=Qab ab;have ae:=Qab ((Fr.of_below (ag.o _)).trans aa);clear ab aa;skip));go_end0;exact⟨rfl,ad.o,ae.o⟩
end
section
open Go.RowKit
theorem Fr.grownNew{P:Nat->Obj->Prop}{u w w':World}{row:Option Nat}(h:Fr P u w)(hg:w.grownBy w' row)(hr:∀ k,row=some k->u.heap.size<=k):Fr P u w':=
 ⟨hg.os.trans h.os,hg.tape.trans h.tape,hg.output.trans h.output,Nat.le_trans h.size hg.size,fun k o hk hn=>by
  have hk':=h.block k o hk hn;rw[hg.block k (Qar hk') (fun e=>by have:=hr k e.symm;have:=Qar hk;omega)]
  exact hk'⟩
def Qfy (js:List Nat):List Value:=js.map fun j=>.int .i64 ((j:Nat):Int)
theorem Qh6(js:List Nat)(j:Nat):Qfy js++[.int .i64 (j:Int)]=Qfy (js++[j]):=by simp[Qfy]
theorem Tryz.infoIntJ:(Tryz.prog.info? 3).map (fun i=>(i.zero,i.size,i.bytes))=some (some (.int .i64 0),1,8):=by kernel_rfl
theorem QhU(W:World)(op:Int):QbY W (QcO op) (.slice none 0 0) (.slice none 0 0):=QcY W _ rfl rfl (by show(-9223372036854775808:Int)<=0;decide) (by show(0:Int)<=9223372036854775807;decide)
theorem QpV(W:World)(b:Bool):QbY W (QcM b) (.slice none 0 0) (.slice none 0 0):=QcY W _ rfl rfl (by cases b<;>decide) (by cases b<;>decide)
theorem Qv9(x:Int):∀ u∈[Value.int .i64 x],u.oneCell'=true:=by
 intro u hu;simp at hu;subst hu;rfl
theorem CC.grownInt{w w':World}{B cb base n:Nat}{cs:List Ins}{v:Value}{xs:List Value}(h:CC w B cb cs)(ho:w.ownsRow base 3 1 v n xs)(hg:w.grownBy w' v.ownBlock):CC w' B cb cs:=by
 obtain⟨cv,ps,e,h⟩:=h;refine⟨cv,ps,e,h.fr (P:=fun k o=>∃ cs,o=.cells cs 3) ((Fr.refl _ w).grown hg (fun k o e ho'=>(Qbb ho k o e ho').2)) ?_ ?_ ?_⟩
 ·rintro k cs ⟨aa,e⟩;injection e with _ e;exact absurd e (by decide)
 ·rintro k cs ⟨aa,e⟩;injection e with _ e;exact absurd e (by decide)
 ·rintro k cs ⟨aa,e⟩;injection e with _ e;exact absurd e (by decide)
theorem Qqj{w:World}{base:Nat}{v:Value}{js:List Nat}(ho:w.ownsRow base 3 1 v js.length (Qfy js))(ab:js≠[]):∃ gj c kcs,v=.slice (some ⟨gj,0,none⟩) js.length c/\w.heap[gj]?=some (.cells kcs 3)/\∀ k,k<js.length->kcs[k]?=some (.int .i64 ((js.getD k 0:Nat):Int)):=by
 rcases ho.2 with⟨_,h2⟩ | ⟨g,aa,ac,hv,hg,hb,hc,_,hs,ht⟩
 ·exact absurd (List.eq_nil_of_length_eq_zero h2) ab
 ·refine⟨g,aa,ac,hv,hb,fun k hk=>?_⟩
  have h4:(Qfy js)[k]?=some (.int .i64 ((js.getD k 0:Nat):Int)):=by
   unfold Qfy;rw[List.getElem?_map,List.getElem?_eq_getElem hk,List.getD_eq_getElem?_getD,List.getElem?_eq_getElem hk];rfl
  rw[<-ht,List.getElem?_take_of_lt (by omega)]at h4;rw[<-h4];simp
def gTo {α:Type} (sub:α→List Ins→List Ins) (jump:Int) (ts:List α) (cs:List Ins) (k:Nat):List Ins×List Nat:=(ts.take k).foldl (Qfn sub jump) (cs,[])
theorem QkK{α:Type}(ab:α->List Ins->List Ins)(aa:Int)(ts:List α)(cs:List Ins)(k:Nat)(h:k<ts.length):gTo ab aa ts cs (k+1)=Qfn ab aa (gTo ab aa ts cs k) ts[k]:=by
 unfold gTo;rw[List.take_add_one,List.getElem?_eq_getElem h,List.foldl_append];rfl
theorem Qw9{α:Type}(ab:α->List Ins->List Ins)(aa:Int)(ts:List α)(cs:List Ins)(b:Bool):Qda ab aa b ts cs=Qel b (gTo ab aa ts cs ts.length):=by
 unfold Qda gTo;rw[List.take_length]
theorem Qti{α:Type}(ab:α->List Ins->List Ins)(aa:Int)(ts:List α)(cs:List Ins):∀ k,k<=ts.length->(gTo ab aa ts cs k).2.length=k
 |0,_=>rfl
 |k+1,h=>by
  rw[QkK ab aa ts cs k h];have:=Qti ab aa ts cs k (by omega);unfold Qfn;simp[this]
theorem Qv4{α:Type}{ab:α->List Ins->List Ins}(hm:∀ t cs,cs.length<=(ab t cs).length)(aa:Int)(ts:List α)(cs:List Ins):∀ k,k<=ts.length->∀ j∈(gTo ab aa ts cs k).2,j<(gTo ab aa ts cs k).1.length
 |0,_,j,hj=>by cases hj
 |k+1,h,j,hj=>by
  have ih:=Qv4 hm aa ts cs k (by omega);rw[QkK ab aa ts cs k h]at hj ⊢;have h1:=hm ts[k] (gTo ab aa ts cs k).1;unfold Qfn at hj ⊢;simp only[List.mem_append,List.mem_singleton,List.length_append,List.length_cons,List.length_nil]at hj ⊢;rcases hj with hj|hj
  ·have:=ih j hj;omega
  ·omega
theorem Qu4{α:Type}{ab:α->List Ins->List Ins}(hm:∀ t cs,cs.length<=(ab t cs).length)(aa:Int)(ts:List α)(cs:List Ins)(k:Nat):(gTo ab aa ts cs k).1.length<=(gTo ab aa ts cs ts.length).1.length:=by
 unfold gTo;rw[List.take_length];have:=QkL hm aa (ts.drop k) ((ts.take k).foldl (Qfn ab aa) (cs,[]));rw[<-List.foldl_append,List.take_append_drop]at this;exact this
theorem QoM{α:Type}(ac:α->List Ins->List Ins)(aa:Int)(settled:Bool)(ts:List α)(B cb g c:Nat)(cs:List Ins)(w:World)(h:CC w B cb cs)(bc:ts≠[])(aR:g<B)(aQ:ts.length<=1000000)
 (hm:∀ t cs,cs.length<=(ac t cs).length) (hl:(Qda ac aa settled ts cs).length<=1000000)
 (hc:∀ j (hj:j<ts.length),∃ ty y,w.cell? ⟨g,j,none⟩=some (.iface ty y)/\SubC 252 B cb w (.iface ty y) (ac ts[j])) :
 Calls Tryz.prog 275 #[.pointer (some ⟨cb,0,none⟩),.slice (some ⟨g,0,none⟩) ts.length c,.int .i64 aa,.bool settled] w (Qc7 B cb (Qda ac aa settled ts cs) w):=by
 obtain⟨i0,hi,hz0,hz1,hz2⟩:=info_parts Tryz.infoIntJ;have hBw:B<=w.heap.size:=Nat.le_of_lt (Nat.lt_of_le_of_lt h.lt.1 h.lt.2);rw[Qw9]at hl ⊢;have HE:Hid (∀ r,r=gTo ac aa ts cs ts.length->Qel settled r=Qel settled (gTo ac aa ts cs ts.length)):=fun r e=>by rw[e]
 rw[Qdu]at hl;have HL:=Qab hl;have HC:=Qab hc;have HM:=Qab hm;have H:=Qab h;clear hc hm h hl;go_enter func275,ntmps275;go_wp2_with fail
 go_loopw [8,10,14] (fun v _ i wr=>∃(k:Nat) (r:List Ins×List Nat),k<=ts.length/\i=.int .i64 (k:Int)/\r=gTo ac aa ts cs k/\wr.ownsRow w.heap.size 3 1 v r.2.length (Qfy r.2)/\CC wr B cb r.1/\Fr (PCo B) w wr) (fun _ _ i _=>ts.length - (intOf i).toNat)
 case atStart=>exact⟨0,_,Nat.zero_le _,by go_num,rfl,World.ownsRow_nil _ _ _ _,H.o,Fr.refl _ _⟩
 case round=>
  obtain⟨k,r,hk,rfl,hr,ad,aq,hF⟩:=hrel;have ao:r.2.length=k:=by rw[hr];exact Qti ac aa ts cs k hk
  have ab:Below B w wr:=hF.co H.o;by_cases hlt:k<ts.length
  ·obtain⟨ty,y,aF,aI⟩:=HC.o k hlt
   have hck:wr.cell? ⟨g,k,none⟩=some (.iface ty y):=by
    rw[ab.cell (p:=⟨g,k,none⟩) aR];exact aF
   have HS:=Qab (QkK ac aa ts cs k hlt);have ag:=Qu4 HM.o aa ts cs (k+1);rw[HS.o,<-hr]at ag;rw[<-hr]at HS;unfold Qfn at ag;simp only[List.length_append,List.length_cons,List.length_nil]at ag;have h3:=HL.o;have aN:=Qab aI;obtain⟨t,ht⟩:∃ t,ts[k]=t:=⟨_,rfl⟩;rw[ht]at HS aN ag;obtain⟨A,hA⟩:∃ A,ac t r.1=A:=⟨_,rfl⟩;have aT:Hid ((ac t r.1).length<=1000000):=by show(ac t r.1).length<=_;omega
   have aW:Hid (A.length+1<=1000000):=by show _<=_;rw[<-hA];omega
   have a6:Hid (gTo ac aa ts cs (k+1)=(A++[QcO aa],r.2++[A.length])):=by
    show _=_
    rw[HS.o];unfold Qfn;rw[hA]
   have aV:=Qab hA;have a0:=Qab ad;have HCC:=Qab aq;have HF:=Qab hF;have aY:=Qab ab;obtain⟨la,lc,a7⟩:=Qat ad;subst a7;have hrk:r.2.length<=1000000:=by omega
   have hwl:=hF.size;clear ad aq hF ab aF aI ag h3 hA ht hr HS ao HE
   go_wp2_with (first
    |(go_at_call 252;refine(aN.o wr r.1 aY.o HCC.o aT.o).mono ?_;rintro e w1 ⟨rfl,az,aw⟩;rw[aV.o]at az;have HC1:=Qab az;have HF1:=Qab (HF.o.trans aw);have ba:=Qab (QaR a0.o aw (fun _ _=>PCo.not (by decide) (by decide)));clear az aw;skip)
    |(go_at_call 231;refine(Qcc B cb A (QcO aa) _ _ w1 HC1.o (QhU _ _) aW.o).mono ?_;rintro e w2 ⟨rfl,af,ae⟩;have ar:=Qab af;have av:=Qab (HF1.o.trans ae);have HO2:=Qab (QaR ba.o ae (fun _ _=>PCo.not (by decide) (by decide)));have hw2:=av.o.size;clear af ae;skip)
    | (at_builtin;refine wpList_append_own _ rfl _ _ 330 rfl w.heap.size 3 i0 _ 1 8 underlying330 hi hz0 hz1 hz2 rfl (by decide) _ _ _ rfl (HO2.o.alloc _) ⟨w2.heap.size,0,none⟩ 1 1 [.int .i64 (A.length:Int)] rfl rfl (cell_one_new _ _ _) (Qv9 _) (by unfold maxLen;omega) (by omega) (by simp;omega) ?_;intro v5 w5 ho5 hg5 _;obtain ⟨a5,k5,hv5⟩:=Qat ho5;subst hv5;have HO5:=Qab ho5;have HG5:=Qab hg5;clear ho5 hg5;skip))
   go_roundw
   case rel=>
    refine⟨k+1,(A++[QcO aa],r.2++[A.length]),by omega,by go_num,a6.o.symm,?_,(ar.o.alloc _).grownInt (HO2.o.alloc _) HG5.o,(av.o.alloc _).grownNew HG5.o (fun k hk=>(HO2.o.lt k hk).1)⟩;show w5.ownsRow w.heap.size 3 1 _ (r.2++[A.length]).length (Qfy (r.2++[A.length]))
    rw[List.length_append,<-Qh6];exact HO5.o
   case measure=>simp[intOf];omega
  ·have a3:k=ts.length:=by omega
   subst a3;have ay:r.2≠[]:=fun e=>bc (List.eq_nil_of_length_eq_zero (by rw[<-ao,e];rfl))
   obtain⟨gj,cj,aS,hv,aL,aJ⟩:=Qqj ad ay;subst hv;have ah:∀ j∈r.2,j<r.1.length:=by rw[hr];exact Qv4 HM.o aa ts cs ts.length (Nat.le_refl _)
   have h3:r.1.length+3<=1000000:=by rw[hr];exact HL.o
   have ak:Hid (Qel settled (gTo ac aa ts cs ts.length)=landL [r.1.length+1] (landL r.2 (r.1++[QcM (!settled),QcO 3])++[QcM settled])):=by
    show _=_
    rw[<-hr];rfl
   obtain⟨L2,ap⟩:∃ L2,r.1++[QcM (!settled),QcO 3]=L2:=⟨_,rfl⟩;have aj:L2.length=r.1.length+2:=by rw[<-ap];simp
   obtain⟨L3,au⟩:∃ L3,landL r.2 L2=L3:=⟨_,rfl⟩;have ai:L3.length=r.1.length+2:=by rw[<-au,Qa9,aj]
   obtain⟨E,hE⟩:∃ E,r.1.length+1=E:=⟨_,rfl⟩;rw[ap,au,hE]at ak;have q1:r.1.length+2<=1000000:=by omega
   have q2:∀ j∈r.2,j<L2.length:=fun j hj=>by have:=ah j hj;omega
   have q3:L2.length<=1000000:=by omega
   have q4:r.2.length<=1000000:=by rw[ao];exact aQ
   have q5:L3.length+1<=1000000:=by omega
   have q6:E<(L3++[QcM settled]).length:=by rw[List.length_append,ai,<-hE];simp
   have q7:(L3++[QcM settled]).length<=1000000:=by rw[List.length_append];exact q5
   have Q:=Qab (And.intro q1 (And.intro q2 (And.intro q3 (And.intro q4 (And.intro q5 (And.intro q6 q7))))));have a1:=Qab ap;have aP:=Qab au;have aX:=Qab hE;have HJB:=Qab aL;have aZ:=Qab aJ;have HCC:=Qab aq;have HF:=Qab hF;clear ad aq hF ab hr HE aL aJ ah h3 ap aj au ai hE q1 q2 q3 q4 q5 q6 q7 ao hlt hk HC HM HL;have aD:∀ b:Bool,Qde (QcM b) (.slice none 0 0) (.slice none 0 0)=.agg #[.int .i64 (QcM b).op,.int .i64 (QcM b).n,.int .i64 (QcM b).tag,.bool (QcM b).oct,.slice none 0 0,.slice none 0 0,.int .i64 (QcM b).at_]:=fun _=>rfl
   have HPP:=Qab aD;clear aD
   go_wp2_with (first
    |(have gg:=aC;go_at_call 253;refine(QmH B cb E _ _ aC.o Q.o.2.2.2.2.2.1 Q.o.2.2.2.2.2.2).mono ?_;rintro e w6 ⟨rfl,aE,aB⟩;have bb:=Qab aE;have a9:=Qab (aU.o.trans aB);clear aE aB;skip)
    |(have gg:=aO;go_at_call 231;refine(Qcc B cb L3 (QcM settled) _ _ _ aO.o (QpV _ _) Q.o.2.2.2.2.1).mono ?_;rintro e w5 ⟨rfl,aK,aM⟩;have aC:=Qab aK;have aU:=Qab (a4.o.trans aM);clear aK aM;skip)
    |(have gg:=aG;go_at_call 274;refine(Qky settled _).mono ?_;rintro e w4 ⟨rfl,aA⟩;rw[HPP.o];have aO:=Qab (aG.o.below aA);have a4:=Qab (a8.o.trans (Fr.of_below aA));clear aA;skip)
    |(have gg:=ar;go_at_call 253;refine(QiP B cb gj cj r.2 aS L2 _ ar.o Q.o.2.1 a2.o aZ.o Q.o.2.2.1 Q.o.2.2.2.1).mono ?_;rintro e w3 ⟨rfl,ax,aH⟩;rw[aP.o]at ax;have aG:=Qab ax;have a8:=Qab (av.o.trans aH);clear ax aH;skip)
    |(have gg:=HC1;go_at_call 231;refine(Qvh B cb r.1 (QcM (!settled)) (QcO 3) _ _ _ _ _ HC1.o (QpV _ _) (QhU _ _) Q.o.1).mono ?_;rintro e w2 ⟨he,af,ae⟩;rw[aX.o]at he;subst he;rw[a1.o]at af;have ar:=Qab af;have av:=Qab (HF1.o.trans ae);have a2:=Qab (ae.block _ _ HJ1.o (PCo.not (by decide) (by decide)));clear af ae;skip)
    | (go_at_call 274;refine (Qky (!settled) _).mono ?_;rintro e w1 ⟨rfl,hb1⟩;rw [HPP.o];have HC1:=Qab (HCC.o.below hb1);have HF1:=Qab (HF.o.trans (Fr.of_below hb1));have HJ1:=Qab (Qai HJB.o hb1);clear hb1;skip))
   go_end0;rw[ak.o];exact⟨rfl,bb.o,a9.o⟩
theorem Qg3(z:L8):z.length<=(QaP z).length:=by
 unfold QaP;rw[List.length_cons,List.length_append]
 have:z.length<=(z.flatMap QiH).length:=by
  induction z with
  |nil=>simp
  |cons c r ih=>
   rw[List.flatMap_cons,List.length_append,List.length_cons];have:1<=(QiH c).length:=by unfold QiH;split<;>simp
   omega
 omega
theorem Qfa(xs:List (L8)):(∀ z∈xs,z.length<=(QbD xs).length)/\xs.length<=(QbD xs).length+1:=by
 match xs with
 | []=>exact⟨fun z hz=>(by cases hz),Nat.zero_le _⟩
 | [x]=>exact⟨fun z hz=>(by rw[List.mem_singleton.1 hz];exact Qg3 x),by simp⟩
 |x::y::r=>
  have e:(QbD (x::y::r)).length=(Qfq [44,32] ((x::y::r).map QaP)).length+2:=by unfold QbD;simp
  refine⟨fun z hz=>?_,?_⟩
  ·have h1:=QiZ ((x::y::r).map QaP) (QaP z) (List.mem_map_of_mem hz);have h2:=Qg3 z;omega
  ·have h1:=Qg6 ((x::y::r).map QaP);rw[List.length_map]at h1;omega
theorem QjS{req:List (L8)}(B cb:Nat):∀(n:Nat) (x:QdG n) (w:World) (v:Value),TestV n (fun k=>k<B) x w v->Qwg (WfT req) n x->(QaY n x).length<=100000->SubC 252 B cb w v (Qb2 n x)
 |0,x,w,v,h,ha,_=>ha.elim
 |n+1,x,w,v,hv0,ha,hlen=>fun W cs hW hCC hl=>by
  obtain⟨hw,ae⟩:=ha;have h:Qeh (fun k=>k<B) (TestV n) x W v:=(Qbi (n+1)).keep _ _ _ _ _ hv0 (fun k hk _=>hW.block k hk);have hlen:(QaZ x.1 (x.2.map (QaY n))).length<=100000:=hlen;have hl:(QaU (Qb2 n) x.1 x.2 cs).length<=1000000:=hl;show Calls Tryz.prog 252 #[.pointer (some ⟨cb,0,none⟩),v] W (Qc7 B cb (QaU (Qb2 n) x.1 x.2 cs) W)
  have ai:B<=W.heap.size:=Nat.le_of_lt (Nat.lt_of_le_of_lt hCC.lt.1 hCC.lt.2)
  have ah:∀ a∈x.2,∀ u,TestV n (fun k=>k<B) a W u->(QaY n a).length<=100000->∃ ty y,u=.iface ty y/\SubC 252 B cb W (.iface ty y) (Qb2 n a):=fun a ha u hu hl=>by
   obtain⟨ty,y,rfl⟩:=(Qbi n).form _ _ _ _ hu;exact⟨ty,y,rfl,QjS B cb n a W _ hu (ae a ha) hl⟩
  have af:∀ hd,(QbG hd x.1).length<=100000->x.1.fr.length<=1000000/\x.1.keys.length<=1000000/\(∀ z∈x.1.fr,z.length<=100000)/\(∀ z∈x.1.keys,z.length<=100000):=fun hd h=>by
   have h1:(QbD x.1.fr).length<=100000:=Nat.le_trans (Qcs (by simp)) h;have h2:(QbD x.1.keys).length<=100000:=Nat.le_trans (Qcs (by simp)) h;obtain⟨a1,a2⟩:=Qfa x.1.fr;obtain⟨b1,b2⟩:=Qfa x.1.keys;exact⟨by omega,by omega,fun z hz=>Nat.le_trans (a1 z hz) h1,fun z hz=>Nat.le_trans (b1 z hz) h2⟩
  have aj:∀(hd:L8) (u:Value) (jump:Int) (b:Bool),trX (fun k=>k<B) (TestV n) x.2 W u->x.2≠[]->(QbI hd (x.2.map (QaY n))).length<=100000->(Qda (Qb2 n) jump b x.2 cs).length<=1000000->∃ a m c,u=.slice a m c/\∀ W2,Below B W W2->CC W2 B cb cs->Calls Tryz.prog 275 #[.pointer (some ⟨cb,0,none⟩),.slice a m c,.int .i64 jump,.bool b] W2 (Qc7 B cb (Qda (Qb2 n) jump b x.2 cs) W2):=fun hd u jump b hu ad hlt hlg=>by
   obtain⟨g,c,rfl,hg,hx⟩:=hu;refine⟨_,_,_,rfl,fun W2 hW2 hC2=>?_⟩
   have ab:x.2.length<=1000000:=by
    have h1:=Qg6 (x.2.map (QaY n));rw[List.length_map]at h1;unfold QbI at hlt;simp only[List.length_append]at hlt;omega
   refine QoM (Qb2 n) jump b x.2 B cb g c cs W2 hC2 ad hg ab (QhS n) hlg (fun j hj=>?_);obtain⟨uj,ak,ao⟩:=hx j hj;have ac:x.2[j]∈x.2:=List.getElem_mem hj;obtain⟨ty,y,rfl,ag⟩:=ah _ ac uj ao (Nat.le_trans (Ql3 (hw:=hd) (List.mem_map_of_mem ac)) hlt);exact⟨ty,y,by rw[hW2.cell (p:=⟨g,j,none⟩) hg];exact ak,ag.below hW2⟩
  unfold Qeh at h
  split at h
  ·rename_i e;obtain⟨h2,rfl⟩:=h;have et:QaU (Qb2 n) x.1 x.2 cs=cs++[QcM true]:=by unfold QaU;rw[e];rfl
   rw[et]at hl ⊢;exact QiY Qfz _ true B cb cs W hCC (by simpa using hl)
  ·rename_i e;obtain⟨h2,rfl⟩:=h;have et:QaU (Qb2 n) x.1 x.2 cs=cs++[QcM false]:=by unfold QaU;rw[e];rfl
   rw[et]at hl ⊢;exact QiY Qdt _ false B cb cs W hCC (by simpa using hl)
  ·rename_i e;obtain⟨a,u,h2,rfl,hu⟩:=h;have et:QaU (Qb2 n) x.1 x.2 cs=Qb2 n a cs++[QcO 2]:=by unfold QaU;rw[e,h2];rfl
   have aa:QaZ x.1 (x.2.map (QaY n))=QaW [kNot,QaY n a]:=by unfold QaZ;rw[e,h2];rfl
   rw[et]at hl ⊢;rw[aa]at hlen;obtain⟨ty,y,rfl,ag⟩:=ah a (by rw[h2];simp) u hu (Nat.le_trans (Qcs (ps:=[kNot,QaY n a]) (by simp)) hlen);exact Qt3 kNot _ ty y _ B cb cs W hCC (by simpa using hl) ag
  ·rename_i e;obtain⟨u,rfl,hu,ad⟩:=h;have et:QaU (Qb2 n) x.1 x.2 cs=Qda (Qb2 n) 5 false x.2 cs:=by unfold QaU;rw[e];rfl
   have aa:QaZ x.1 (x.2.map (QaY n))=QbI QcC (x.2.map (QaY n)):=by unfold QaZ;rw[e];rfl
   rw[et]at hl ⊢;rw[aa]at hlen;obtain⟨a,m,c,rfl,hG⟩:=aj QcC u 5 false hu ad hlen hl;exact Qo5 QcC _ a m c _ B cb cs W hCC ai hG
  ·rename_i e;obtain⟨u,rfl,hu,ad⟩:=h;have et:QaU (Qb2 n) x.1 x.2 cs=Qda (Qb2 n) 4 true x.2 cs:=by unfold QaU;rw[e];rfl
   have aa:QaZ x.1 (x.2.map (QaY n))=QbI QcL (x.2.map (QaY n)):=by unfold QaZ;rw[e];rfl
   rw[et]at hl ⊢;rw[aa]at hlen;obtain⟨a,m,c,rfl,hG⟩:=aj QcL u 4 true hu ad hlen hl;exact Qpc QcL _ a m c _ B cb cs W hCC ai hG
  ·rename_i e;obtain⟨h2,u,rfl,hu⟩:=h;have et:QaU (Qb2 n) x.1 x.2 cs=cs++[Qcl 6 x.1]:=by unfold QaU;rw[e];rfl
   have aa:QaZ x.1 (x.2.map (QaY n))=QbG QbM x.1:=by unfold QaZ;rw[e];rfl
   rw[et]at hl ⊢;rw[aa]at hlen;obtain⟨a1,a2,a3,a4⟩:=af _ hlen;exact Qmm _ QbM x.1 u B cb cs W hCC (by simpa using hl) hu a1 a2 a3 a4
  ·rename_i e;obtain⟨h2,u,rfl,hu⟩:=h;have et:QaU (Qb2 n) x.1 x.2 cs=cs++[Qcl 7 x.1]:=by unfold QaU;rw[e];rfl
   have aa:QaZ x.1 (x.2.map (QaY n))=QbG QaG x.1:=by unfold QaZ;rw[e];rfl
   rw[et]at hl ⊢;rw[aa]at hlen;obtain⟨a1,a2,a3,a4⟩:=af _ hlen;exact QjF _ QaG x.1 u B cb cs W hCC (by simpa using hl) hu a1 a2 a3 a4
  ·rename_i e;obtain⟨h2,u,rfl,hu⟩:=h;have et:QaU (Qb2 n) x.1 x.2 cs=cs++[Qcl 8 x.1]:=by unfold QaU;rw[e];rfl
   have aa:QaZ x.1 (x.2.map (QaY n))=QbG Qbl x.1:=by unfold QaZ;rw[e];rfl
   rw[et]at hl ⊢;rw[aa]at hlen;obtain⟨a1,a2,a3,a4⟩:=af _ hlen;exact Qnm _ Qbl x.1 u B cb cs W hCC (by simpa using hl) hu a1 a2 a3 a4
  ·rename_i e;obtain⟨h2,u,rfl,hu⟩:=h;have et:QaU (Qb2 n) x.1 x.2 cs=cs++[⟨9,0,0,false,x.1.fr,[],0⟩]:=by unfold QaU;rw[e];rfl
   have aa:QaZ x.1 (x.2.map (QaY n))=QaW [Qby,QbD x.1.fr]:=by unfold QaZ;rw[e];rfl
   rw[et]at hl ⊢;rw[aa]at hlen;have h1:(QbD x.1.fr).length<=100000:=Nat.le_trans (Qcs (ps:=[Qby,QbD x.1.fr]) (by simp)) hlen;obtain⟨a1,a2⟩:=Qfa x.1.fr;exact QmY _ Qby _ x.1.fr u B cb cs W hCC (by simpa using hl) hu (by omega) (fun z hz=>Nat.le_trans (a1 z hz) h1)
  ·rename_i h0 h1 h2 h3 h4 h5 h6 h7 h8;obtain⟨_,rfl⟩:=h
   have e:x.1.kind=9:=by
    have a0:x.1.kind≠0:=h0;have a1:x.1.kind≠1:=h1;have a2:x.1.kind≠2:=h2;have a3:x.1.kind≠3:=h3;have a4:x.1.kind≠4:=h4;have a5:x.1.kind≠5:=h5;have a6:x.1.kind≠6:=h6;have a7:x.1.kind≠7:=h7;have a8:x.1.kind≠8:=h8;have:=hw.kind;omega
   have et:QaU (Qb2 n) x.1 x.2 cs=cs++[⟨10,x.1.num,x.1.tag,false,[],[],0⟩]:=by unfold QaU;rw[e];rfl
   rw[et]at hl ⊢;exact QrL QdU _ x.1.tag x.1.num B cb cs W hCC (by simpa using hl) hw.num
end
section
open Go.RowKit
attribute [local go_sem ↓] Go.wp_at_zero Go.wp_at_succ
theorem QqK(hw:L8)(p:Nat)(arg:L8)(B cb:Nat)(cs:List Ins)(w:World)(h:CC w B cb cs)(hl:cs.length+1<=1000000) :
 Calls Tryz.prog 192 #[.pointer (some ⟨cb,0,none⟩),.iface 262 (.agg #[.string (sA hw),.int .i64 p,.int .i64 1,.string (sA arg)])] w (Qc7 B cb (cs++[Qjh 1 p []]) w):=by
 have yy:=Tryz.yesAct;have H:=Qab h;have HL:=Qab hl;have HC0:Hid (∀ o,CC (w.alloc o) B cb cs):=fun o=>h.alloc o
 have ad:∀ o,Below w.heap.size w (w.alloc o):=fun o=>(Below.refl _ _).alloc (Nat.le_refl _) o
 have ai:=Qab ad;clear h hl ad;go_enter func192,ntmps192;go_wp2_with (first|(go_at_call 232;refine(Qo7 hw p arg _).mono ?_;rintro e w1 ⟨rfl,ae⟩;have ac:=Qab ((ai.o _).trans (ae.mono (by simp)));have ah:=Qab (H.o.below ac.o);clear ae;unfold Qde;skip)|(go_at_call 231;refine(Qcc B cb cs (Qjh 1 p []) _ _ w1 ah.o (QcY _ _ rfl rfl (by show(-9223372036854775808:Int)<=0;decide) (by show(0:Int)<=9223372036854775807;decide)) HL.o).mono ?_;rintro e w2 ⟨rfl,ab,aa⟩;have af:=Qab ab;have ag:=Qab ((Fr.of_below ac.o).trans aa);clear ab aa;skip));go_end0;exact⟨rfl,af.o,ag.o⟩
theorem QiJ(hw:L8)(p k:Nat)(arg:L8)(B cb:Nat)(cs:List Ins)(w:World)(h:CC w B cb cs)(hl:cs.length+1<=1000000)(hk:k≠1)(ha:arg.length<=100000) :
 Calls Tryz.prog 192 #[.pointer (some ⟨cb,0,none⟩),.iface 262 (.agg #[.string (sA hw),.int .i64 p,.int .i64 k,.string (sA arg)])] w (Qc7 B cb (cs++[Qjh k p [arg]]) w):=by
 have yy:=Tryz.yesAct;have H:=Qab h;have HL:=Qab hl;have HC0:Hid (∀ o,CC (w.alloc o) B cb cs):=fun o=>h.alloc o
 have ae:∀ o,Below w.heap.size w (w.alloc o):=fun o=>(Below.refl _ _).alloc (Nat.le_refl _) o
 have ak:=Qab ae;clear h hl ae;go_enter func192,ntmps192;go_wp2_with (first|(go_at_call 232;refine(Qnl hw p k arg _ hk).mono ?_;rintro e w1 ⟨g,rfl,aa,af⟩;have ad:=Qab ((ak.o _).trans (af.mono (by simp)));have aj:=Qab (H.o.below ad.o);have ah:=Qab aa;clear af aa;unfold Qde;skip)|(go_at_call 231;refine(Qcc B cb cs (Qjh k p [arg]) _ _ w1 aj.o ⟨ah.o,Or.inl ⟨rfl,rfl⟩,(fun z hz=>(by rw[List.mem_singleton.1 hz];exact ha)),(fun z hz=>nomatch hz),(by show 1<=1000000;decide),Nat.zero_le _,(by show(-9223372036854775808:Int)<=0;decide),(by show(0:Int)<=9223372036854775807;decide)⟩ HL.o).mono ?_;rintro e w2 ⟨rfl,ac,ab⟩;have ag:=Qab ac;have ai:=Qab ((Fr.of_below ad.o).trans ab);clear ac ab;skip));go_end0;exact⟨rfl,ag.o,ai.o⟩
theorem Qln(hw:L8)(p:Nat)(B cb:Nat)(cs:List Ins)(w:World)(h:CC w B cb cs)(hl:cs.length+1<=1000000) :
 Calls Tryz.prog 192 #[.pointer (some ⟨cb,0,none⟩),.iface 264 (.agg #[.string (sA hw),.int .i64 p])] w (Qc7 B cb (cs++[⟨13,0,0,false,[],[],p⟩]) w):=by
 have n0:=Tryz.noAct;have n1:=Tryz.noSet;have yy:=Tryz.yesDiscard;have H:=Qab h;have HL:=Qab hl;have ae:Hid (∀ o,CC (w.alloc o) B cb cs):=fun o=>h.alloc o
 have ac:∀ o,Below w.heap.size w (w.alloc o):=fun o=>(Below.refl _ _).alloc (Nat.le_refl _) o
 have ag:=Qab ac;clear h hl ac;go_enter func192,ntmps192;go_wp2_with (first|(go_at_call 231;refine(QkP _ B cb cs ⟨13,0,0,false,[],[],p⟩ _ _ _ (by simp) (ae.o _) (QcY _ _ rfl rfl (by show(-9223372036854775808:Int)<=0;decide) (by show(0:Int)<=9223372036854775807;decide)) HL.o).mono ?_;rintro e w2 ⟨rfl,ab,aa⟩;have ad:=Qab ab;have af:=Qab ((Fr.of_below (ag.o _)).trans aa);clear ab aa;skip));go_end0;exact⟨rfl,ad.o,af.o⟩
theorem QqE(hw:L8)(p:Nat)(B cb:Nat)(cs:List Ins)(w:World)(h:CC w B cb cs)(hl:cs.length+1<=1000000) :
 Calls Tryz.prog 192 #[.pointer (some ⟨cb,0,none⟩),.iface 265 (.agg #[.string (sA hw),.int .i64 p])] w (Qc7 B cb (cs++[⟨14,0,0,false,[],[],p⟩]) w):=by
 have n0:=Tryz.noAct;have n1:=Tryz.noSet;have n2:=Tryz.noDiscard;have yy:=Tryz.yesStop;have H:=Qab h;have HL:=Qab hl;have ae:Hid (∀ o,CC (w.alloc o) B cb cs):=fun o=>h.alloc o
 have ac:∀ o,Below w.heap.size w (w.alloc o):=fun o=>(Below.refl _ _).alloc (Nat.le_refl _) o
 have ag:=Qab ac;clear h hl ac;go_enter func192,ntmps192;go_wp2_with (first|(go_at_call 231;refine(QkP _ B cb cs ⟨14,0,0,false,[],[],p⟩ _ _ _ (by simp) (ae.o _) (QcY _ _ rfl rfl (by show(-9223372036854775808:Int)<=0;decide) (by show(0:Int)<=9223372036854775807;decide)) HL.o).mono ?_;rintro e w2 ⟨rfl,ab,aa⟩;have ad:=Qab ab;have af:=Qab ((Fr.of_below (ag.o _)).trans aa);clear ab aa;skip));go_end0;exact⟨rfl,ad.o,af.o⟩
theorem QsE(x:L8):∀ j,j<[x].length->(#[Value.string (sA x)]:Array Value)[j]?=some (.string (sA ([x].getD j []))):=fun j hj=>by
 have:j=0:=by simp at hj;exact hj
 subst this;rfl
theorem Qtx(hw:L8)(p tag:Nat)(aa arg:L8)(B cb:Nat)(cs:List Ins)(w:World)(h:CC w B cb cs)(hl:cs.length+1<=1000000)(hv:aa.length<=100000)(ha:arg.length<=100000) :
 Calls Tryz.prog 192 #[.pointer (some ⟨cb,0,none⟩),.iface 269 (.agg #[.string (sA hw),.int .i64 p,.int .i64 tag,.string (sA aa),.string (sA arg)])] w (Qc7 B cb (cs++[⟨12,0,tag,false,[aa],[arg],p⟩]) w):=by
 have n0:=Tryz.noAct;have yy:=Tryz.yesSet;have H:=Qab h;have HL:=Qab hl;have HC0:Hid (∀ o,CC (w.alloc o) B cb cs):=fun o=>h.alloc o
 have ae:∀ o,Below w.heap.size w (w.alloc o):=fun o=>(Below.refl _ _).alloc (Nat.le_refl _) o
 have HB0:=Qab ae;clear h hl ae;have ag:Hid (∀ o1 o3,SlT (((w.alloc o1).alloc (.cells #[.string (sA aa)] 9)).alloc o3) (.slice (some ⟨w.heap.size+1,0,none⟩) 1 1) [aa]):=fun o1 o3=>Or.inr ⟨_,1,rfl,#[.string (sA aa)],Qac (Qaq (by simp)),QsE aa⟩
 have ai:Hid (∀ o1 o2,SlT (((w.alloc o1).alloc o2).alloc (.cells #[.string (sA arg)] 9)) (.slice (some ⟨w.heap.size+1+1,0,none⟩) 1 1) [arg]):=fun o1 o2=>Or.inr ⟨_,1,rfl,#[.string (sA arg)],Qaq (by simp),QsE arg⟩
 have ad:Hid (∀ o1 o2 o3,Below w.heap.size w (((w.alloc o1).alloc o2).alloc o3)):=fun o1 o2 o3=>(((Below.refl _ _).alloc (Nat.le_refl _) _).alloc (by simp) _).alloc (by simp;omega) _
 go_enter func192,ntmps192;go_wp2_with (first|(go_at_call 231;refine(QkP _ B cb cs ⟨12,0,tag,false,[aa],[arg],p⟩ _ _ _ (by simp) (H.o.below (ad.o _ _ _)) ⟨ag.o _ _,ai.o _ _,(fun z hz=>(by rw[List.mem_singleton.1 hz];exact hv)),(fun z hz=>(by rw[List.mem_singleton.1 hz];exact ha)),(by show 1<=1000000;decide),(by show 1<=1000000;decide),(by show(-9223372036854775808:Int)<=0;decide),(by show(0:Int)<=9223372036854775807;decide)⟩ HL.o).mono ?_;rintro e w2 ⟨rfl,ac,ab⟩;have af:=Qab ac;have ah:=Qab ((Fr.of_below (ad.o _ _ _)).trans ab);clear ac ab;skip));go_end0;exact⟨rfl,af.o,ah.o⟩
theorem QuB(hw:L8)(p:Nat)(a ea:Option Addr)(n c en ec:Nat)(ad:Bool)(ds:List Ins)(B cb:Nat)(cs:List Ins)(w:World)(h:CC w B cb cs)(hl:B<=w.heap.size)(ho:∀ W,Below B w W->CC W B cb cs->Calls Tryz.prog 233 #[.pointer (some ⟨cb,0,none⟩),.agg #[.string (sA hw),.int .i64 p,.slice a n c,.bool ad,.slice ea en ec]] W (Qc7 B cb ds W)) :
 Calls Tryz.prog 192 #[.pointer (some ⟨cb,0,none⟩),.iface 275 (.agg #[.string (sA hw),.int .i64 p,.slice a n c,.bool ad,.slice ea en ec])] w (Qc7 B cb ds w):=by
 have HO:=Qab ho;have ah:Hid (∀ o,Below B w (w.alloc o)):=fun o=>(Below.refl _ _).alloc hl o
 clear ho;have n0:=Tryz.noAct;have n1:=Tryz.noSet;have n2:=Tryz.noDiscard;have n3:=Tryz.noStop;have yy:=Tryz.yesIf;have H:=Qab h;have HL:=Qab hl;have af:Hid (∀ o,CC (w.alloc o) B cb cs):=fun o=>h.alloc o
 have ac:∀ o,Below w.heap.size w (w.alloc o):=fun o=>(Below.refl _ _).alloc (Nat.le_refl _) o
 have ai:=Qab ac;clear h hl ac;go_enter func192,ntmps192;go_wp2_with (first|(go_at_call 233;refine(HO.o _ (ah.o _) (af.o _)).mono ?_;rintro e w1 ⟨rfl,ab,aa⟩;have ae:=Qab ab;have ag:=Qab ((Fr.of_below (ai.o _)).trans aa);clear ab aa;skip));go_end0;exact⟨rfl,ae.o,ag.o⟩
end
section
open Go.RowKit
theorem QnU(B cb:Nat)(w:World):SubC 141 B cb w (.slice none 0 0) (fun cs=>cs):=fun W cs hW hCC hl=>by
 have aa:=Qab hCC;clear hCC;go_enter func141,ntmps141;go_wp2_with fail;refine wp_loop_rounds 1 ?_;rw[rounds_succ];go_wp2;go_end0;exact⟨rfl,aa.o,Fr.refl _ _⟩
theorem Qox{α:Type}(aa:α->List Ins->List Ins)(ts:List α)(cs:List Ins)(k:Nat)(h:k<ts.length):blockC aa (ts.take (k+1)) cs=aa ts[k] (blockC aa (ts.take k) cs):=by
 unfold blockC;rw[List.take_add_one,List.getElem?_eq_getElem h,List.foldl_append];rfl
theorem Qof{α:Type}{aa:α->List Ins->List Ins}(hm:∀ t cs,cs.length<=(aa t cs).length)(ts:List α)(cs:List Ins)(k:Nat):(blockC aa (ts.take k) cs).length<=(blockC aa ts cs).length:=by
 have:=Qc0 hm (ts.drop k) (blockC aa (ts.take k) cs);unfold blockC at this ⊢;rw[<-List.foldl_append,List.take_append_drop]at this;exact this
theorem QlY{α:Type}(ab:α->List Ins->List Ins)(ts:List α)(B cb g c:Nat)(w:World)(af:g<B)(htl:ts.length<=1000000)
 (hm:∀ t cs,cs.length<=(ab t cs).length)
 (hc:∀ j (hj:j<ts.length),∃ ty y,w.cell? ⟨g,j,none⟩=some (.iface ty y)/\SubC 192 B cb w (.iface ty y) (ab ts[j])) :
 SubC 141 B cb w (.slice (some ⟨g,0,none⟩) ts.length c) (blockC ab ts):=fun W cs hW hCC hl=>by
 have HL:=Qab hl;have HC:=Qab hc;have HM:=Qab hm;have HW:=Qab hW;have H:=Qab hCC;clear hc hm hCC hl hW;go_enter func141,ntmps141;go_wp2_with fail
 go_loopw [5,8] (fun _ i wr=>∃(k:Nat) (r:List Ins),k<=ts.length/\i=.int .i64 (k:Int)/\r=blockC ab (ts.take k) cs/\CC wr B cb r/\Fr (PCo B) W wr) (fun _ i _=>ts.length - (intOf i).toNat)
 case atStart=>exact⟨0,_,Nat.zero_le _,by go_num,rfl,H.o,Fr.refl _ _⟩
 case round=>
  obtain⟨k,r,hk,rfl,hr,hCC,hF⟩:=hrel;have aa:Below B W wr:=hF.co H.o;by_cases hlt:k<ts.length
  ·obtain⟨ty,y,ae,ad⟩:=HC.o k hlt
   have hck:wr.cell? ⟨g,k,none⟩=some (.iface ty y):=by
    rw[(HW.o.trans aa).cell (p:=⟨g,k,none⟩) af];exact ae
   have hS:=Qox ab ts cs k hlt;have ac:=Qof HM.o ts cs (k+1);rw[hS,<-hr]at ac;rw[<-hr]at hS;have HS:=Qab hS;have HLA:=Qab (Nat.le_trans ac HL.o);have HTY:=Qab ad;have HCC:=Qab hCC;have HF:=Qab hF;have HBe:=Qab (HW.o.trans aa);clear hCC hF aa ae ad ac hr hS
   go_wp2_with (first
    | (go_at_call 192;refine (HTY.o wr r HBe.o HCC.o HLA.o).mono ?_;rintro e w1 ⟨rfl,hc1,hf1⟩;have HC1:=Qab hc1;have HF1:=Qab (HF.o.trans hf1);clear hc1 hf1;skip))
   go_roundw
   case rel=>exact⟨k+1,_,by omega,by go_num,rfl,by rw[HS.o];exact HC1.o,HF1.o⟩
   case measure=>simp[intOf];omega
  ·have ag:k=ts.length:=by omega
   subst ag;rw[List.take_length]at hr;subst hr;have HCC:=Qab hCC;have HF:=Qab hF;clear hCC hF aa;go_wp2;go_end0;exact⟨rfl,HCC.o,HF.o⟩
def aTo {α β:Type} (tst:β→List Ins→List Ins) (cmd:α→List Ins→List Ins) (as_:List (β×List α)) (cs:List Ins) (k:Nat):List Ins×List Nat:=(as_.take k).foldl (QoY tst cmd) (cs,[])
theorem QlN{α β:Type}(ac:β->List Ins->List Ins)(ab:α->List Ins->List Ins)(aa:List (β×List α))(cs:List Ins)(k:Nat)(h:k<aa.length):aTo ac ab aa cs (k+1)=QoY ac ab (aTo ac ab aa cs k) aa[k]:=by
 unfold aTo;rw[List.take_add_one,List.getElem?_eq_getElem h,List.foldl_append];rfl
theorem Qws{α β:Type}(ad:β->List Ins->List Ins)(aa:α->List Ins->List Ins)(ab:List (β×List α))(ac:List α)(cs:List Ins):Qd5 ad aa ab ac cs=QdI aa ac (aTo ad aa ab cs ab.length):=by
 unfold Qd5 aTo;rw[List.take_length]
theorem Qtb{α β:Type}(ac:β->List Ins->List Ins)(ab:α->List Ins->List Ins)(aa:List (β×List α))(cs:List Ins):∀ k,k<=aa.length->(aTo ac ab aa cs k).2.length=k
 |0,_=>rfl
 |k+1,h=>by
  rw[QlN ac ab aa cs k h];have:=Qtb ac ab aa cs k (by omega);unfold QoY;simp[this]
theorem Qwd{α β:Type}{ab:β->List Ins->List Ins}{ac:α->List Ins->List Ins}(ht:∀ t cs,cs.length<=(ab t cs).length)(hc:∀ t cs,cs.length<=(ac t cs).length)(aa:List (β×List α))(cs:List Ins):∀ k,k<=aa.length->∀ j∈(aTo ab ac aa cs k).2,j<(aTo ab ac aa cs k).1.length
 |0,_,j,hj=>by cases hj
 |k+1,h,j,hj=>by
  have ih:=Qwd ht hc aa cs k (by omega);rw[QlN ab ac aa cs k h]at hj ⊢;have h1:=ht aa[k].1 (aTo ab ac aa cs k).1;have h2:=Qc0 hc aa[k].2 (ab aa[k].1 (aTo ab ac aa cs k).1++[QcO 5]);unfold QoY at hj ⊢;simp only[List.mem_append,List.mem_singleton,Qa9,List.length_append,List.length_cons,List.length_nil]at hj h2 ⊢;rcases hj with hj|hj
  ·have:=ih j hj;omega
  ·omega
theorem QuG{α β:Type}{ac:β->List Ins->List Ins}{ab:α->List Ins->List Ins}(ht:∀ t cs,cs.length<=(ac t cs).length)(hc:∀ t cs,cs.length<=(ab t cs).length)(aa:List (β×List α))(cs:List Ins)(k:Nat):(aTo ac ab aa cs k).1.length<=(aTo ac ab aa cs aa.length).1.length:=by
 unfold aTo;rw[List.take_length];have:=QgR ht hc (aa.drop k) ((aa.take k).foldl (QoY ac ab) (cs,[]));rw[<-List.foldl_append,List.take_append_drop]at this;exact this
theorem Qnn{α β:Type}(af:β->List Ins->List Ins)(ad:α->List Ins->List Ins)(aa:List (β×List α))(ac:List α)(B cb g c:Nat)(hw:L8)(p:Nat)(aE:Bool)(ea:Option Addr)(en ec:Nat)(cs:List Ins)(w:World)(h:CC w B cb cs)(bh:aa≠[])(aP:g<B)(a3:aa.length<=1000000)
 (ht:∀ t cs,cs.length<=(af t cs).length) (aD:∀ t cs,cs.length<=(ad t cs).length) (hl:(Qd5 af ad aa ac cs).length<=1000000)
 (hc:∀ j (hj:j<aa.length),∃ ty y a n c',w.cell? ⟨g,2*j,none⟩=some (.iface ty y)/\w.cell? ⟨g,2*j+1,none⟩=some (.slice a n c')/\SubC 252 B cb w (.iface ty y) (af aa[j].1)/\SubC 141 B cb w (.slice a n c') (blockC ad aa[j].2))
 (he:SubC 141 B cb w (.slice ea en ec) (blockC ad ac)) :
 Calls Tryz.prog 233 #[.pointer (some ⟨cb,0,none⟩),.agg #[.string (sA hw),.int .i64 p,.slice (some ⟨g,0,none⟩) aa.length c,.bool aE,.slice ea en ec]] w (Qc7 B cb (Qd5 af ad aa ac cs) w):=by
 obtain⟨i0,hi,bf,bo,bc⟩:=info_parts Tryz.infoIntJ;have aW:B<=w.heap.size:=Nat.le_of_lt (Nat.lt_of_le_of_lt h.lt.1 h.lt.2);rw[Qws]at hl ⊢;have ao:=Qhy aD ac (aTo af ad aa cs aa.length);have bd:=Qab (Nat.le_trans ao hl);have HL:=Qab hl;have HC:=Qab hc;have HT:=Qab ht;have ax:=Qab aD;have HELS:=Qab he;have H:=Qab h;clear hc ht aD h hl he ao;go_enter func233,ntmps233;go_wp2_with fail;obtain⟨W0,aA⟩:∃ W0,W0=w.alloc (.cells #[.string (sA hw),.int .i64 p,.slice (some ⟨g,0,none⟩) aa.length c,.bool aE,.slice ea en ec] 275):=⟨_,rfl⟩;rw[<-aA];have az:Hid (Below w.heap.size w W0):=by show Below _ _ _;rw[aA];exact(Below.refl _ _).alloc (Nat.le_refl _) _
 have bq:Hid (W0.heap[w.heap.size]?=some (.cells #[.string (sA hw),.int .i64 p,.slice (some ⟨g,0,none⟩) aa.length c,.bool aE,.slice ea en ec] 275)):=by show _=_;rw[aA];exact Qam _ _
 have aQ:Hid (CC W0 B cb cs):=H.o.below az.o;clear aA
 go_loopw [4,6,7,11] (fun v _ _ i wr=>∃(k:Nat) (r:List Ins×List Nat),k<=aa.length/\i=.int .i64 (k:Int)/\r=aTo af ad aa cs k/\wr.ownsRow W0.heap.size 3 1 v r.2.length (Qfy r.2)/\CC wr B cb r.1/\Fr (PCo B) W0 wr) (fun _ _ _ i _=>aa.length - (intOf i).toNat)
 case atStart=>exact⟨0,_,Nat.zero_le _,by go_num,rfl,World.ownsRow_nil _ _ _ _,aQ.o,Fr.refl _ _⟩
 case round=>
  obtain⟨k,r,hk,rfl,hr,ag,aw,hF⟩:=hrel;have au:r.2.length=k:=by rw[hr];exact Qtb af ad aa cs k hk
  have ab:Below B w wr:=(az.o.mono aW).trans (hF.co aQ.o);by_cases hlt:k<aa.length
  ·obtain⟨ty,y,a,n,c',aV,aY,aL,aN⟩:=HC.o k hlt
   have c0:wr.cell? ⟨g,k*2,none⟩=some (.iface ty y):=by
    rw[Nat.mul_comm,ab.cell (p:=⟨g,2*k,none⟩) aP];exact aV
   have c1:wr.cell? ⟨g,k*2+1,none⟩=some (.slice a n c'):=by
    rw[Nat.mul_comm,ab.cell (p:=⟨g,2*k+1,none⟩) aP];exact aY
   have hS:=QlN af ad aa cs k hlt;have ap:=QuG HT.o ax.o aa cs (k+1);rw[hS,<-hr]at ap;rw[<-hr]at hS;obtain⟨am,aR⟩:∃ am,aa[k]=am:=⟨_,rfl⟩;rw[aR]at hS aL aN ap;unfold QoY at hS ap;have ae:=Nat.le_trans ap bd.o;have ar:=Qc0 ax.o am.2 (af am.1 r.1++[QcO 5]);obtain⟨A,hA⟩:∃ A,af am.1 r.1=A:=⟨_,rfl⟩;rw[hA]at hS ae ar;obtain⟨A3,ay⟩:∃ A3,blockC ad am.2 (A++[QcO 5])=A3:=⟨_,rfl⟩;rw[ay]at hS ae ar;dsimp only at ae;rw[Qa9,List.length_append]at ae;rw[List.length_append]at ar;simp only[List.length_cons,List.length_nil]at ae ar;have q1:(af am.1 r.1).length<=1000000:=by rw[hA];omega
   have q2:A.length+1<=1000000:=by omega
   have q3:(blockC ad am.2 (A++[QcO 5])).length<=1000000:=by rw[ay];omega
   have q4:A3.length+1<=1000000:=by omega
   have q5:A.length<(A3++[QcO 3]).length:=by rw[List.length_append];simp only[List.length_cons,List.length_nil];omega
   have q6:(A3++[QcO 3]).length<=1000000:=by rw[List.length_append];exact q4
   have Q:=Qab (And.intro q1 (And.intro q2 (And.intro q3 (And.intro q4 (And.intro q5 q6)))));have HS:=Qab hS;have HTY:=Qab aL;have bj:=Qab aN;have HAe:=Qab hA;have a4:=Qab ay;have HOW:=Qab ag;have HCC:=Qab aw;have HF:=Qab hF;have HBe:=Qab ab;have bb:B<=wr.heap.size:=Nat.le_trans aW ab.size;have HBe':Hid (∀ o,Below B w (wr.alloc o)):=fun o=>HBe.o.alloc bb o
   obtain⟨la,lc,bm⟩:=Qat ag;subst bm;have hrk:r.2.length<=1000000:=by omega
   have hW0s:w.heap.size<=W0.heap.size:=az.o.size;have HA0:Hid ((wr.alloc (.cells #[.iface ty y,.slice a n c'] 271)).heap[wr.heap.size]?=some (.cells #[.iface ty y,.slice a n c'] 271)):=Qam _ _;clear ag aw hF ab aV aY aL aN ap ae ar hA ay aR hr hS q1 q2 q3 q4 q5 q6 au
   go_wp2_with (first
    |(have gg:=aO;go_at_call 253;refine(QmH B cb A.length _ _ aO.o Q.o.2.2.2.2.1 Q.o.2.2.2.2.2).mono ?_;rintro e w6 ⟨rfl,aU,aC⟩;have bg:=Qab aU;have bn:=Qab (a7.o.trans aC);have bp:=Qab (QaR a8.o aC (fun _ _=>PCo.not (by decide) (by decide)));clear aU aC;skip)
    |(have gg:=a2;at_builtin;refine wpList_append_own _ rfl _ _ 330 rfl W0.heap.size 3 i0 _ 1 8 underlying330 hi bf bo bc rfl (by decide) _ _ _ rfl (aF.o.alloc _) ⟨w4.heap.size,0,none⟩ 1 1 [.int .i64 (A3.length:Int)] rfl rfl (cell_one_new _ _ _) (Qv9 _) (by unfold maxLen;omega) (by omega) (by simp;omega) ?_;intro v5 w5 aB aG _;obtain⟨a5,k5,a9⟩:=Qat aB;subst a9;have a8:=Qab aB;have aO:=Qab ((a2.o.alloc _).grownInt (aF.o.alloc _) aG);have a7:=Qab ((aZ.o.alloc _).grownNew aG (fun k hk=>(aF.o.lt k hk).1));clear aB aG;skip)
    |(have gg:=av;go_at_call 231;refine(Qcc B cb A3 (QcO 3) _ _ _ av.o (QhU _ _) Q.o.2.2.2.1).mono ?_;rintro e w4 ⟨rfl,aX,aH⟩;have a2:=Qab aX;have aZ:=Qab (aM.o.trans aH);have aF:=Qab (QaR bk.o aH (fun _ _=>PCo.not (by decide) (by decide)));have hw4:=aZ.o.size;clear aX aH;skip)
    |(have gg:=HC2;go_at_call 141;refine(bj.o _ _ aJ.o HC2.o Q.o.2.2.1).mono ?_;rintro e w3 ⟨rfl,aj,ai⟩;rw[a4.o]at aj;have av:=Qab aj;have aM:=Qab (HF2.o.trans ai);have bk:=Qab (QaR bi.o ai (fun _ _=>PCo.not (by decide) (by decide)));clear aj ai;skip)
    |(have gg:=HC1;go_at_call 231;refine(Qcc B cb A (QcO 5) _ _ _ HC1.o (QhU _ _) Q.o.2.1).mono ?_;rintro e w2 ⟨rfl,hc2,hf2⟩;have aJ:=Qab (HBe1.o.trans (hf2.co HC1.o));have HC2:=Qab hc2;have HF2:=Qab (HF1.o.trans hf2);have bi:=Qab (QaR HO1.o hf2 (fun _ _=>PCo.not (by decide) (by decide)));have aT:=hf2.block _ _ HA1.o (PCo.not (by decide) (by decide));have d1:w2.cell? ⟨wr.heap.size,1,none⟩=some (.slice a n c'):=Qaa aT 1;clear hc2 hf2 aT;skip)
    | (go_at_call 252;refine (HTY.o _ r.1 (HBe'.o _) (HCC.o.alloc _) Q.o.1).mono ?_;rintro e w1 ⟨rfl,hc1,hf1⟩;rw [HAe.o] at hc1;have HBe1:=Qab ((HBe'.o _).trans (hf1.co (HCC.o.alloc _)));have HC1:=Qab hc1;have HF1:=Qab ((HF.o.alloc _).trans hf1);have HO1:=Qab (QaR (HOW.o.alloc _) hf1 (fun _ _=>PCo.not (by decide) (by decide)));have HA1:=Qab (hf1.block _ _ HA0.o (PCo.not (by decide) (by decide)));clear hc1 hf1;skip))
   go_roundw
   case rel=>
    refine⟨k+1,_,by omega,by go_num,HS.o.symm,?_,bg.o,bn.o⟩;show w6.ownsRow W0.heap.size 3 1 _ (r.2++[A3.length]).length (Qfy (r.2++[A3.length]))
    rw[List.length_append,<-Qh6];exact bp.o
   case measure=>simp[intOf];omega
  ·have bl:k=aa.length:=by omega
   subst bl;have aI:r.2≠[]:=fun e=>bh (List.eq_nil_of_length_eq_zero (by rw[<-au,e];rfl))
   obtain⟨gj,cj,a6,hv,a1,aS⟩:=Qqj ag aI;subst hv;have ak:∀ j∈r.2,j<r.1.length:=by rw[hr];exact Qwd HT.o ax.o aa cs aa.length (Nat.le_refl _)
   have ah:Hid (QdI ad ac (aTo af ad aa cs aa.length)=landL r.2 (blockC ad ac r.1)):=by
    show _=_
    rw[<-hr];rfl
   have aq:=HL.o;rw[ah.o,Qa9]at aq;have a0:=Qc0 ax.o ac r.1;obtain⟨L2,aK⟩:∃ L2,blockC ad ac r.1=L2:=⟨_,rfl⟩;have q0:=aq;rw[aK]at ah aq a0;have q2:∀ j∈r.2,j<L2.length:=fun j hj=>by have:=ak j hj;omega
   have q4:r.2.length<=1000000:=by rw[au];exact a3
   have Q:=Qab (And.intro q0 (And.intro q2 (And.intro aq q4)));have HE2:=Qab aK;have HJB:=Qab a1;have ba:=Qab aS;have HCC:=Qab aw;have HF:=Qab hF;have HBe:=Qab ab;have d4:wr.cell? ⟨w.heap.size,4,none⟩=some (.slice ea en ec):=Qaa (hF.block _ _ bq.o (PCo.not (by decide) (by decide))) 4;clear ag aw hF ab hr a1 aS ak aK aq a0 q0 q2 q4 au hlt hk HC HL
   go_wp2_with (first
    |(have gg:=HC2;go_at_call 253;refine(QiP B cb gj cj r.2 a6 L2 _ HC2.o Q.o.2.1 HJ2.o ba.o Q.o.2.2.1 Q.o.2.2.2).mono ?_;rintro e w3 ⟨rfl,aj,ai⟩;have av:=Qab aj;have aM:=Qab (HF2.o.trans ai);clear aj ai;skip)
    | (go_at_call 141;refine (HELS.o wr r.1 HBe.o HCC.o Q.o.1).mono ?_;rintro e w2 ⟨rfl,hc2,hf2⟩;rw [HE2.o] at hc2;have HC2:=Qab hc2;have HF2:=Qab (HF.o.trans hf2);have HJ2:=Qab (hf2.block _ _ HJB.o (PCo.not (by decide) (by decide)));clear hc2 hf2;skip))
   go_end0;rw[ah.o];exact⟨rfl,av.o,(Fr.of_below az.o).trans aM.o⟩
end
section
open Go.RowKit
attribute [local go_sem ↓] Go.wp_at_zero Go.wp_at_succ
def CmdIHc (req:List (L8)) (B cb n:Nat):Prop:=
 ∀ (x:QdT n) (i:L8) (w:World) (v:Value),Qji n (fun k=>k < B) x w v→QnQ (WfT req) (WfC req) n x→(Qbx n x i).length≤100000→SubC 192 B cb w v (Qkg n x)
theorem QfI{req:List (L8)}{B cb n:Nat}(ih:CmdIHc req B cb n)(cs:List (QdT n))(i:L8)(w:World)(v:Value)(h:blX (fun k=>k<B) (Qji n) cs w v)(ha:∀ c∈cs,QnQ (WfT req) (WfC req) n c)(hl:(Qbw (Qbx n) cs i).length<=100000):SubC 141 B cb w v (blockC (Qkg n) cs):=by
 rw[Qu5]at hl;rcases h with⟨rfl,rfl⟩ | ⟨hne,g,c,rfl,hg,hx⟩
 ·exact QnU B cb w
 ·have ac:cs.length<=1000000:=by
   have:=QnJ i (cs.map fun c=>Qbx n c i);rw[List.length_map]at this;omega
  refine QlY (Qkg n) cs B cb g c w hg ac (QnY n) (fun j hj=>?_);obtain⟨u,ad,ab⟩:=hx j hj;obtain⟨ty,y,rfl⟩:=(QaV n).form _ _ _ _ ab;have aa:cs[j]∈cs:=List.getElem_mem hj;exact⟨ty,y,ad,ih cs[j] i w _ ab (ha _ aa) (Nat.le_trans (Qki i (cs.map fun c=>Qbx n c i) _ (List.mem_map_of_mem (f:=fun c=>Qbx n c i) aa)) hl)⟩
theorem QdK{ps:List (L8)}{x:L8}(h:QaP x∈ps)(hl:(QaW ps++[59]).length<=100000):x.length<=100000:=by
 have h1:=Qcs h;have h2:=Qg3 x;rw[List.length_append]at hl;omega
theorem Qnz(req:List (L8))(B cb:Nat):∀ n,CmdIHc req B cb n
 |0=>fun x i w v h ha _=>ha.elim
 |n+1=>fun x i w v hv0 ha hlen W cs hW hCC hl=>by
  have ih:=Qnz req B cb n;obtain⟨hw,ab,ac⟩:=ha;have h:Qij (fun k=>k<B) (TestV n) (Qji n) x W v:=(QaV (n+1)).keep _ _ _ _ _ hv0 (fun k hk _=>hW.block k hk);have ao:B<=W.heap.size:=Nat.le_of_lt (Nat.lt_of_le_of_lt hCC.lt.1 hCC.lt.2);have hlen:(QcG x.1 i (x.2.1.map fun a=>(QaY n a.1,Qbw (Qbx n) a.2 (i++[32,32]))) (Qbw (Qbx n) x.2.2 (i++[32,32]))).length<=100000:=hlen;have hl:(Qbd (Qb2 n) (Qkg n) x.1 x.2.1 x.2.2 cs).length<=1000000:=hl;show Calls Tryz.prog 192 #[.pointer (some ⟨cb,0,none⟩),v] W (Qc7 B cb (Qbd (Qb2 n) (Qkg n) x.1 x.2.1 x.2.2 cs) W)
  generalize hal:(x.2.1.map fun a=>(QaY n a.1,Qbw (Qbx n) a.2 (i++[32,32])))=al at hlen;generalize heb:Qbw (Qbx n) x.2.2 (i++[32,32])=eb at hlen;unfold Qij Qxv at h
  split at h
  ·rename_i e;subst h;have et:Qbd (Qb2 n) (Qkg n) x.1 x.2.1 x.2.2 cs=cs++[Qjh 1 x.1.pos []]:=by unfold Qbd;rw[e];rfl
   rw[et]at hl ⊢;exact QqK QfJ _ [] B cb cs W hCC (by simpa using hl)
  ·rename_i e;subst h;have et:Qbd (Qb2 n) (Qkg n) x.1 x.2.1 x.2.2 cs=cs++[⟨13,0,0,false,[],[],x.1.pos⟩]:=by unfold Qbd;rw[e];rfl
   rw[et]at hl ⊢;exact Qln QbV _ B cb cs W hCC (by simpa using hl)
  ·rename_i e;subst h;have et:Qbd (Qb2 n) (Qkg n) x.1 x.2.1 x.2.2 cs=cs++[⟨14,0,0,false,[],[],x.1.pos⟩]:=by unfold Qbd;rw[e];rfl
   rw[et]at hl ⊢;exact QqE QfP _ B cb cs W hCC (by simpa using hl)
  ·rename_i e;subst h;have et:Qbd (Qb2 n) (Qkg n) x.1 x.2.1 x.2.2 cs=cs++[Qjh 2 x.1.pos [x.1.arg]]:=by unfold Qbd;rw[e];rfl
   have aa:QcG x.1 i al eb=QaW [QaN,QaP x.1.arg]++[59]:=by unfold QcG;rw[e];rfl
   rw[et]at hl ⊢;rw[aa]at hlen;exact QiJ QaN _ 2 _ B cb cs W hCC (by simpa using hl) (by decide) (QdK (by simp) hlen)
  ·rename_i e;subst h;have et:Qbd (Qb2 n) (Qkg n) x.1 x.2.1 x.2.2 cs=cs++[Qjh 3 x.1.pos [x.1.arg]]:=by unfold Qbd;rw[e];rfl
   have aa:QcG x.1 i al eb=QaW [Qbc,QaP x.1.arg]++[59]:=by unfold QcG;rw[e];rfl
   rw[et]at hl ⊢;rw[aa]at hlen;exact QiJ Qbc _ 3 _ B cb cs W hCC (by simpa using hl) (by decide) (QdK (by simp) hlen)
  ·rename_i e;subst h;have et:Qbd (Qb2 n) (Qkg n) x.1 x.2.1 x.2.2 cs=cs++[Qjh 4 x.1.pos [x.1.arg]]:=by unfold Qbd;rw[e];rfl
   have aa:QcG x.1 i al eb=QaW [Qa5,QaP x.1.arg]++[59]:=by unfold QcG;rw[e];rfl
   rw[et]at hl ⊢;rw[aa]at hlen;exact QiJ Qa5 _ 4 _ B cb cs W hCC (by simpa using hl) (by decide) (QdK (by simp) hlen)
  ·rename_i e;subst h;have et:Qbd (Qb2 n) (Qkg n) x.1 x.2.1 x.2.2 cs=cs++[⟨12,0,x.1.tag,false,[x.1.var],[x.1.arg],x.1.pos⟩]:=by unfold Qbd;rw[e];rfl
   have aa:QcG x.1 i al eb=QaW [QhO,QbT x.1.tag [Qdc,Qc9,Qch],QaP x.1.var,QaP x.1.arg]++[59]:=by unfold QcG;rw[e];rfl
   rw[et]at hl ⊢;rw[aa]at hlen;exact Qtx QhO _ x.1.tag _ _ B cb cs W hCC (by simpa using hl) (QdK (by simp) hlen) (QdK (by simp) hlen)
  ·rename_i h0 h1 h2 h3 h4 h5 h6;obtain⟨av,ev,rfl,aq,ap,ai⟩:=h
   have e:x.1.kind=7:=by
    have a0:x.1.kind≠0:=h0;have a1:x.1.kind≠1:=h1;have a2:x.1.kind≠2:=h2;have a3:x.1.kind≠3:=h3;have a4:x.1.kind≠4:=h4;have a5:x.1.kind≠5:=h5;have a6:x.1.kind≠6:=h6;have:=hw.kind;omega
   have et:Qbd (Qb2 n) (Qkg n) x.1 x.2.1 x.2.2 cs=Qd5 (Qb2 n) (Qkg n) x.2.1 x.2.2 cs:=by unfold Qbd;rw[e];rfl
   have aa:QcG x.1 i al eb=QbL i kIf al++(if x.1.els then Qrv++eb++i else [])++[125]:=by unfold QcG;rw[e];rfl
   rw[et]at hl ⊢;rw[aa]at hlen;obtain⟨g,c,rfl,hg,hx⟩:=aq;obtain⟨ea,en,ec,rfl⟩:=ai.form;have hall:al.length=x.2.1.length:=by rw[<-hal];simp
   have ah:(QbL i kIf al).length<=100000:=by rw[List.length_append,List.length_append]at hlen;omega
   have af:x.2.1.length<=1000000:=by
    have:=Qkv i al kIf;omega
   have ak:(Qbw (Qbx n) x.2.2 (i++[32,32])).length<=100000:=by
    cases hx:x.1.els with
    |true=>
     rw[hx]at hlen;simp only[if_true,List.length_append]at hlen;rw[heb];omega
    |false=>
     have:x.2.2=[]:=List.eq_nil_of_length_eq_zero (hw.else0 hx);rw[this];exact Nat.zero_le _
   refine QuB kIf _ _ ea _ c en ec _ _ B cb cs W hCC ao (fun W2 hW2 hC2=>?_);refine Qnn (Qb2 n) (Qkg n) x.2.1 x.2.2 B cb g c kIf _ _ ea en ec cs W2 hC2 ap hg af (QhS n) (QnY n) hl (fun j hj=>?_) ((QfI ih _ _ W _ ai ac ak).below hW2);obtain⟨u,bv,hu,hb,hp,hq⟩:=hx j hj;obtain⟨ty,y,rfl⟩:=(Qbi n).form _ _ _ _ hp;obtain⟨a,m,c',rfl⟩:=hq.form;have ae:x.2.1[j]∈x.2.1:=List.getElem_mem hj;have aj:j<al.length:=by omega
   have ad:al[j]=(QaY n x.2.1[j].1,Qbw (Qbx n) x.2.1[j].2 (i++[32,32])):=by
    simp only[<-hal,List.getElem_map]
   have ag:=Qim i al kIf al[j] (List.getElem_mem aj);rw[ad]at ag;obtain⟨m1,m2⟩:=ag;have hT:=ab _ ae;exact⟨ty,y,a,m,c',by rw[hW2.cell (p:=⟨g,2*j,none⟩) hg];exact hu,by rw[hW2.cell (p:=⟨g,2*j+1,none⟩) hg];exact hb,(QjS B cb n _ W _ hp hT.1 (Nat.le_trans m1 ah)).below hW2,(QfI ih _ _ W _ hq hT.2 (Nat.le_trans m2 ah)).below hW2⟩
def QqN (w:World) (B:Nat) (cv:Value) (code:List Ins):Prop:=
 ∃ ps:List IV,ps.map Prod.fst=code∧w.ownsRow B 147 7 cv ps.length (Qcp ps)∧(∀ p∈ps,QbY w p.1 p.2.1 p.2.2)∧(ps=[]→cv=.slice none 0 0)
theorem QqN.len{w:World}{B:Nat}{cv:Value}{aa:List Ins}(h:QqN w B cv aa):∃ a c,cv=.slice a aa.length c:=by
 obtain⟨ps,e,ho,_⟩:=h;obtain⟨a,c,h⟩:=Qat ho;exact⟨a,c,by rw[h,<-e,List.length_map]⟩
theorem Qx1(y:List (L8)×List (QdT 7))(rv lv:Value)(X:Nat->Prop)(w:World)(ha:∃ a n c,rv=.slice a n c)(hb:blX X (Qji 7) y.2 w lv)(ae:∀ c∈y.2,QnQ (WfT y.1) (WfC y.1) 7 c)(hl:(QhD y).length<=100000) :
 Calls Tryz.prog 69 #[.agg #[rv,lv]] w fun e w'=>∃ cv,e=.returned cv/\QqN w' w.heap.size cv (QeF y.2)/\Below w.heap.size w w':=by
 obtain⟨ra,rn,rc,rfl⟩:=ha;have aj:=hb.weak (QaV 7) (Y:=fun k=>k<w.heap.size) (fun k _ hk=>hk);have aa:(Qbw (Qbx 7) y.2 []).length<=100000:=by unfold QhD at hl;rw[List.length_append]at hl;omega
 have ai:(QeF y.2).length<=1000000:=by have:=QpB ae;omega
 have ad:Hid (∀ cb,SubC 141 w.heap.size cb w lv (blockC (Qkg 7) y.2)):=fun cb=>QfI (Qnz y.1 w.heap.size cb 7) y.2 [] w lv aj ae aa
 have aq:=Qab ai;obtain⟨la,ln,lc,rfl⟩:=hb.form;have ak:Hid (∀ o1 o2,Below w.heap.size w ((w.alloc o1).alloc o2)):=fun o1 o2=>((Below.refl _ _).alloc (Nat.le_refl _) _).alloc (by simp) _
 have ag:Hid (∀ o1,CC ((w.alloc o1).alloc (.cells #[.slice none 0 0] 238)) w.heap.size (w.heap.size+1) []):=fun o1=>⟨.slice none 0 0,[],rfl,by omega,Qaq (by simp),World.ownsRow_nil _ _ _ _,(fun p hp=>nomatch hp),fun _=>rfl⟩
 clear hb aj ae hl aa ai;go_enter func69,ntmps69;go_wp2_with (first|(go_at_call 141;refine(ad.o _ _ [] (ak.o _ _) (ag.o _) aq.o).mono ?_;rintro e w1 ⟨rfl,ar,af⟩;obtain⟨cv,ps,ah,ab⟩:=ar;have c0:w1.cell? ⟨w.heap.size+1,0,none⟩=some cv:=Qaa ab.blk 0;obtain⟨ka,kc,ap⟩:=Qat ab.row;subst ap;have ac:=Qab ab;have ao:=Qab ah;have au:=Qab ((ak.o _ _).trans (af.co (ag.o _)));clear ah ab af;skip));go_ret;exact⟨_,rfl,⟨ps,ao.o,ac.o.row,ac.o.ok,ac.o.nil⟩,au.o⟩
end
end Go.Proofs.YthkibedbcbgajaaGreatDoor
