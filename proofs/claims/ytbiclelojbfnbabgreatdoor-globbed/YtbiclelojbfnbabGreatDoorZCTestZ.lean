import Derived.Test.YtbiclelojbfnbabGreatDoorProg
import Derived.WalkKit
import Derived.Stop.Asserts
import Derived.Test.YtbiclelojbfnbabGreatDoorZCAct
namespace Go.Proofs.YtbiclelojbfnbabGreatDoor
set_option linter.unusedVariables false
set_option linter.unusedSimpArgs false
set_option maxRecDepth 100000
set_option maxHeartbeats 4000000
section
open Go.RowKit
section
variable {P:Program} {w:World} {t xT T:TypeId} {v z:Value}
theorem QgZ {fs:Array Field} (hu:P.underlying T=some (.struct fs)) (hz:(P.info? T).map (·.zero)=some (some z)) (hne:¬ t=T) :
 (Instr.typeAssert (.iface t v) xT T true).run P w=.ok (.tuple #[z,.bool false]) w:=by
 obtain ⟨j,hj,hz'⟩:=Option.map_eq_some_iff.1 hz
 simp [Instr.typeAssert,run_underlying hu,typeInfo,hne,zeroValue,hj,hz']
theorem QdH {fs:Array Field} (hu:P.underlying T=some (.struct fs)) :
 (Instr.typeAssert (.iface T v) xT T true).run P w=.ok (.tuple #[v,.bool true]) w:=by
 simp [Instr.typeAssert,run_underlying hu]
end
theorem Tryz.noNot (t xT:TypeId) (v:Value) (w:World) (h:¬ t=281):(Instr.typeAssert (.iface t v) xT 281 true).run Tryz.prog w=.ok (.tuple #[.agg #[.string ⟨#[]⟩,.int .i64 0,.nilIface],.bool false]) w:=QgZ Tryz.underlying281 (by kernel_rfl) h
theorem Tryz.yesNot (xT:TypeId) (v:Value) (w:World):(Instr.typeAssert (.iface 281 v) xT 281 true).run Tryz.prog w=.ok (.tuple #[v,.bool true]) w:=QdH Tryz.underlying281
theorem Tryz.noAllOf (t xT:TypeId) (v:Value) (w:World) (h:¬ t=208):(Instr.typeAssert (.iface t v) xT 208 true).run Tryz.prog w=.ok (.tuple #[.agg #[.string ⟨#[]⟩,.int .i64 0,.slice none 0 0],.bool false]) w:=QgZ Tryz.underlying208 (by kernel_rfl) h
theorem Tryz.yesAllOf (xT:TypeId) (v:Value) (w:World):(Instr.typeAssert (.iface 208 v) xT 208 true).run Tryz.prog w=.ok (.tuple #[v,.bool true]) w:=QdH Tryz.underlying208
theorem Tryz.noAnyOf (t xT:TypeId) (v:Value) (w:World) (h:¬ t=209):(Instr.typeAssert (.iface t v) xT 209 true).run Tryz.prog w=.ok (.tuple #[.agg #[.string ⟨#[]⟩,.int .i64 0,.slice none 0 0],.bool false]) w:=QgZ Tryz.underlying209 (by kernel_rfl) h
theorem Tryz.yesAnyOf (xT:TypeId) (v:Value) (w:World):(Instr.typeAssert (.iface 209 v) xT 209 true).run Tryz.prog w=.ok (.tuple #[v,.bool true]) w:=QdH Tryz.underlying209
theorem Tryz.noHeader (t xT:TypeId) (v:Value) (w:World) (h:¬ t=215):(Instr.typeAssert (.iface t v) xT 215 true).run Tryz.prog w=.ok (.tuple #[.agg #[.string ⟨#[]⟩,.int .i64 0,.int .i64 0,.bool false,.slice none 0 0,.slice none 0 0],.bool false]) w:=QgZ Tryz.underlying215 (by kernel_rfl) h
theorem Tryz.yesHeader (xT:TypeId) (v:Value) (w:World):(Instr.typeAssert (.iface 215 v) xT 215 true).run Tryz.prog w=.ok (.tuple #[v,.bool true]) w:=QdH Tryz.underlying215
theorem Tryz.noEnvelope (t xT:TypeId) (v:Value) (w:World) (h:¬ t=218):(Instr.typeAssert (.iface t v) xT 218 true).run Tryz.prog w=.ok (.tuple #[.agg #[.string ⟨#[]⟩,.int .i64 0,.int .i64 0,.bool false,.slice none 0 0,.slice none 0 0],.bool false]) w:=QgZ Tryz.underlying218 (by kernel_rfl) h
theorem Tryz.yesEnvelope (xT:TypeId) (v:Value) (w:World):(Instr.typeAssert (.iface 218 v) xT 218 true).run Tryz.prog w=.ok (.tuple #[v,.bool true]) w:=QdH Tryz.underlying218
theorem Tryz.noString (t xT:TypeId) (v:Value) (w:World) (h:¬ t=219):(Instr.typeAssert (.iface t v) xT 219 true).run Tryz.prog w=.ok (.tuple #[.agg #[.string ⟨#[]⟩,.int .i64 0,.int .i64 0,.bool false,.slice none 0 0,.slice none 0 0],.bool false]) w:=QgZ Tryz.underlying219 (by kernel_rfl) h
theorem Tryz.yesString (xT:TypeId) (v:Value) (w:World):(Instr.typeAssert (.iface 219 v) xT 219 true).run Tryz.prog w=.ok (.tuple #[v,.bool true]) w:=QdH Tryz.underlying219
theorem Tryz.noExists (t xT:TypeId) (v:Value) (w:World) (h:¬ t=285):(Instr.typeAssert (.iface t v) xT 285 true).run Tryz.prog w=.ok (.tuple #[.agg #[.string ⟨#[]⟩,.int .i64 0,.slice none 0 0],.bool false]) w:=QgZ Tryz.underlying285 (by kernel_rfl) h
theorem Tryz.yesExists (xT:TypeId) (v:Value) (w:World):(Instr.typeAssert (.iface 285 v) xT 285 true).run Tryz.prog w=.ok (.tuple #[v,.bool true]) w:=QdH Tryz.underlying285
theorem Tryz.yesSize (xT:TypeId) (v:Value) (w:World):(Instr.typeAssert (.iface 287 v) xT 287 true).run Tryz.prog w=.ok (.tuple #[v,.bool true]) w:=QdH Tryz.underlying287
theorem Tryz.yesIf (xT:TypeId) (v:Value) (w:World):(Instr.typeAssert (.iface 275 v) xT 275 true).run Tryz.prog w=.ok (.tuple #[v,.bool true]) w:=QdH Tryz.underlying275
theorem Tryz.noSet (t xT:TypeId) (v:Value) (w:World) (h:¬ t=269):(Instr.typeAssert (.iface t v) xT 269 true).run Tryz.prog w=.ok (.tuple #[.agg #[.string ⟨#[]⟩,.int .i64 0,.int .i64 0,.string ⟨#[]⟩,.string ⟨#[]⟩],.bool false]) w:=QgZ Tryz.underlying269 (by kernel_rfl) h
theorem Tryz.yesSet (xT:TypeId) (v:Value) (w:World):(Instr.typeAssert (.iface 269 v) xT 269 true).run Tryz.prog w=.ok (.tuple #[v,.bool true]) w:=QdH Tryz.underlying269
theorem Tryz.noAct (t xT:TypeId) (v:Value) (w:World) (h:¬ t=262):(Instr.typeAssert (.iface t v) xT 262 true).run Tryz.prog w=.ok (.tuple #[.agg #[.string ⟨#[]⟩,.int .i64 0,.int .i64 0,.string ⟨#[]⟩],.bool false]) w:=QgZ Tryz.underlying262 (by kernel_rfl) h
theorem Tryz.yesAct (xT:TypeId) (v:Value) (w:World):(Instr.typeAssert (.iface 262 v) xT 262 true).run Tryz.prog w=.ok (.tuple #[v,.bool true]) w:=QdH Tryz.underlying262
end
section
open Go.RowKit
theorem Tryz.noTruth (t xT:TypeId) (v:Value) (w:World) (h:¬ t=278):(Instr.typeAssert (.iface t v) xT 278 true).run Tryz.prog w=.ok (.tuple #[.agg #[.string ⟨#[]⟩,.int .i64 0,.bool false],.bool false]) w:=QgZ Tryz.underlying278 (by kernel_rfl) h
theorem Tryz.yesTruth (xT:TypeId) (v:Value) (w:World):(Instr.typeAssert (.iface 278 v) xT 278 true).run Tryz.prog w=.ok (.tuple #[v,.bool true]) w:=QdH Tryz.underlying278
theorem Tryz.noDiscard (t xT:TypeId) (v:Value) (w:World) (h:¬ t=264):(Instr.typeAssert (.iface t v) xT 264 true).run Tryz.prog w=.ok (.tuple #[.agg #[.string ⟨#[]⟩,.int .i64 0],.bool false]) w:=QgZ Tryz.underlying264 (by kernel_rfl) h
theorem Tryz.yesDiscard (xT:TypeId) (v:Value) (w:World):(Instr.typeAssert (.iface 264 v) xT 264 true).run Tryz.prog w=.ok (.tuple #[v,.bool true]) w:=QdH Tryz.underlying264
theorem Tryz.noStop (t xT:TypeId) (v:Value) (w:World) (h:¬ t=265):(Instr.typeAssert (.iface t v) xT 265 true).run Tryz.prog w=.ok (.tuple #[.agg #[.string ⟨#[]⟩,.int .i64 0],.bool false]) w:=QgZ Tryz.underlying265 (by kernel_rfl) h
theorem Tryz.yesStop (xT:TypeId) (v:Value) (w:World):(Instr.typeAssert (.iface 265 v) xT 265 true).run Tryz.prog w=.ok (.tuple #[v,.bool true]) w:=QdH Tryz.underlying265
end
section
open Go.RowKit
attribute [local go_sem ↓] Go.wp_at_zero Go.wp_at_succ
def SubC (fn B cb:Nat) (w:World) (v:Value) (sub:List Ins→List Ins):Prop:=
 ∀ W cs,Below B w W→CC W B cb cs→(sub cs).length≤1000000→Calls Tryz.prog fn #[.pointer (some ⟨cb,0,none⟩),v] W (Qde B cb (sub cs) W)
theorem SubC.below {fn B cb:Nat} {w w':World} {v:Value} {sub:List Ins→List Ins} (h:SubC fn B cb w v sub) (hb:Below B w w'):SubC fn B cb w' v sub:=fun W cs hW hc hl=>h W cs (hb.trans hW) hc hl
theorem QjX (g B cb:Nat) (cs:List Ins) (i:Ins) (av bv:Value) (W:World) (hg:g=W.heap.size) (h:CC W B cb cs) (hok:Qb2 W i av bv) (hlen:cs.length+1≤1000000) :
 Calls Tryz.prog 231 #[.pointer (some ⟨cb,0,none⟩),.slice (some ⟨g,0,none⟩) 1 1] (W.alloc (.cells #[.int .i64 i.op,.int .i64 i.n,.int .i64 i.tag,.bool i.oct,av,bv,.int .i64 i.at_] 147)) fun e w'=>e=.returned (.int .i64 (cs.length:Int))∧CC w' B cb (cs++[i])∧Fr (PCo B) W w':=by
 subst hg
 exact Qcd B cb cs i av bv W h hok hlen
theorem Qhy (hw:List UInt8) (p:Nat) (b:Bool) (B cb:Nat) (cs:List Ins) (w:World) (h:CC w B cb cs) (hl:cs.length+1≤1000000) :
 Calls Tryz.prog 252 #[.pointer (some ⟨cb,0,none⟩),.iface 278 (.agg #[.string (Qag hw),.int .i64 p,.bool b])] w (Qde B cb (cs++[QcQ b]) w):=by
 have yy:=Tryz.yesTruth
 have H:=Qaa h
 have HL:=Qaa hl
 have hB0:∀ o,Below w.heap.size w (w.alloc o):=fun o=>(Below.refl _ _).alloc (Nat.le_refl _) o
 have HB0:=Qaa hB0
 clear h hl hB0
 go_enter Tryz.func252,Tryz.ntmps252
 go_wp2_with (first | (go_at_call 274;refine (Qjy b _).mono ?_;rintro e w1 ⟨rfl,hb1⟩;have HB1:=Qaa ((HB0.out _).trans (hb1.mono (by simp)));have HC1:=Qaa (H.out.below HB1.out);clear hb1;unfold Qdk;skip) | (go_at_call 231;refine (Qcd B cb cs (QcQ b) _ _ w1 HC1.out (Qc8 _ _ rfl rfl (by cases b <;> decide) (by cases b <;> decide)) HL.out).mono ?_;rintro e w2 ⟨rfl,hc2,hf2⟩;have HC2:=Qaa hc2;have HF2:=Qaa ((Fr.of_below HB1.out).trans hf2);clear hc2 hf2;skip))
 go_end0
 exact ⟨rfl,HC2.out,HF2.out⟩
end
section
open Go.RowKit
attribute [local go_sem ↓] Go.wp_at_zero Go.wp_at_succ
theorem QlP (X:Nat→Prop) (hw:List UInt8) (x:QdG) (u:Value) (B cb:Nat) (cs:List Ins) (w:World) (h:CC w B cb cs) (hl:cs.length+1≤1000000) (hm:mtX X hw x w u) (h1:x.fr.length≤1000000) (h2:x.keys.length≤1000000) (h3:∀ z∈x.fr,z.length≤100000) (h4:∀ z∈x.keys,z.length≤100000) :
 Calls Tryz.prog 252 #[.pointer (some ⟨cb,0,none⟩),.iface 215 u] w (Qde B cb (cs++[Qcu 6 x]) w):=by
 obtain ⟨fv,kv,rfl,hf,hk⟩:=hm
 have HF:=Qaa hf
 have HK:=Qaa hk
 obtain ⟨gf,cf,rfl,hx1⟩:=hf
 obtain ⟨gk,ck,rfl,hx2⟩:=hk
 have HBD:=Qaa (And.intro h1 (And.intro h2 (And.intro h3 h4)))
 clear hx1 hx2 h1 h2 h3 h4
 have n0:=Tryz.noTruth
 have n1:=Tryz.noNot
 have n2:=Tryz.noAllOf
 have n3:=Tryz.noAnyOf
 have yy:=Tryz.yesHeader
 have H:=Qaa h
 have HL:=Qaa hl
 have hB0:∀ o,Below w.heap.size w (w.alloc o):=fun o=>(Below.refl _ _).alloc (Nat.le_refl _) o
 have HB0:=Qaa hB0
 clear h hl hB0
 go_enter Tryz.func252,Tryz.ntmps252
 go_wp2_with (first | (go_at_call 276;refine (QeR 6 X hw x _ _ _ (HF.out.keep (fun k _ hk=>(HB0.out _).block k hk)) (HK.out.keep (fun k _ hk=>(HB0.out _).block k hk)) HBD.out.1 HBD.out.2.1).mono ?_;rintro e w1 ⟨a1,k1,a2,k2,rfl,hs1,hs2,hb1⟩;have HB1:=Qaa ((HB0.out _).trans (hb1.mono (by simp)));have HC1:=Qaa (H.out.below HB1.out);have HS1:=Qaa hs1;have HS2:=Qaa hs2;clear hb1 hs1 hs2;unfold Qdk;skip) | (go_at_call 231;refine (Qcd B cb cs (Qcu 6 x) _ _ w1 HC1.out ⟨HS1.out,HS2.out,HBD.out.2.2.1,HBD.out.2.2.2,HBD.out.1,HBD.out.2.1,(by show (-9223372036854775808:Int)≤0;decide),(by show (0:Int)≤9223372036854775807;decide)⟩ HL.out).mono ?_;rintro e w2 ⟨rfl,hc2,hf2⟩;have HC2:=Qaa hc2;have HF2:=Qaa ((Fr.of_below HB1.out).trans hf2);clear hc2 hf2;skip))
 go_end0
 exact ⟨rfl,HC2.out,HF2.out⟩
end
section
open Go.RowKit
attribute [local go_sem ↓] Go.wp_at_zero Go.wp_at_succ
theorem QlC (X:Nat→Prop) (hw:List UInt8) (x:QdG) (u:Value) (B cb:Nat) (cs:List Ins) (w:World) (h:CC w B cb cs) (hl:cs.length+1≤1000000) (hm:mtX X hw x w u) (h1:x.fr.length≤1000000) (h2:x.keys.length≤1000000) (h3:∀ z∈x.fr,z.length≤100000) (h4:∀ z∈x.keys,z.length≤100000) :
 Calls Tryz.prog 252 #[.pointer (some ⟨cb,0,none⟩),.iface 219 u] w (Qde B cb (cs++[Qcu 8 x]) w):=by
 obtain ⟨fv,kv,rfl,hf,hk⟩:=hm
 have HF:=Qaa hf
 have HK:=Qaa hk
 obtain ⟨gf,cf,rfl,hx1⟩:=hf
 obtain ⟨gk,ck,rfl,hx2⟩:=hk
 have HBD:=Qaa (And.intro h1 (And.intro h2 (And.intro h3 h4)))
 clear hx1 hx2 h1 h2 h3 h4
 have n0:=Tryz.noTruth
 have n1:=Tryz.noNot
 have n2:=Tryz.noAllOf
 have n3:=Tryz.noAnyOf
 have n4:=Tryz.noHeader
 have n5:=Tryz.noEnvelope
 have yy:=Tryz.yesString
 have H:=Qaa h
 have HL:=Qaa hl
 have hB0:∀ o,Below w.heap.size w (w.alloc o):=fun o=>(Below.refl _ _).alloc (Nat.le_refl _) o
 have HB0:=Qaa hB0
 clear h hl hB0
 go_enter Tryz.func252,Tryz.ntmps252
 go_wp2_with (first | (go_at_call 276;refine (QeR 8 X hw x _ _ _ (HF.out.keep (fun k _ hk=>(HB0.out _).block k hk)) (HK.out.keep (fun k _ hk=>(HB0.out _).block k hk)) HBD.out.1 HBD.out.2.1).mono ?_;rintro e w1 ⟨a1,k1,a2,k2,rfl,hs1,hs2,hb1⟩;have HB1:=Qaa ((HB0.out _).trans (hb1.mono (by simp)));have HC1:=Qaa (H.out.below HB1.out);have HS1:=Qaa hs1;have HS2:=Qaa hs2;clear hb1 hs1 hs2;unfold Qdk;skip) | (go_at_call 231;refine (Qcd B cb cs (Qcu 8 x) _ _ w1 HC1.out ⟨HS1.out,HS2.out,HBD.out.2.2.1,HBD.out.2.2.2,HBD.out.1,HBD.out.2.1,(by show (-9223372036854775808:Int)≤0;decide),(by show (0:Int)≤9223372036854775807;decide)⟩ HL.out).mono ?_;rintro e w2 ⟨rfl,hc2,hf2⟩;have HC2:=Qaa hc2;have HF2:=Qaa ((Fr.of_below HB1.out).trans hf2);clear hc2 hf2;skip))
 go_end0
 exact ⟨rfl,HC2.out,HF2.out⟩
end
section
open Go.RowKit
attribute [local go_sem ↓] Go.wp_at_zero Go.wp_at_succ
theorem QlE (X:Nat→Prop) (hw:List UInt8) (p:Nat) (xs:List (List UInt8)) (u:Value) (B cb:Nat) (cs:List Ins) (w:World) (h:CC w B cb cs) (hl:cs.length+1≤1000000) (hm:slX X xs w u) (h1:xs.length≤1000000) (h3:∀ z∈xs,z.length≤100000) :
 Calls Tryz.prog 252 #[.pointer (some ⟨cb,0,none⟩),.iface 285 (.agg #[.string (Qag hw),.int .i64 p,u])] w (Qde B cb (cs++[⟨9,0,0,false,xs,[],0⟩]) w):=by
 have HF:=Qaa hm
 obtain ⟨gf,cf,rfl,hx1⟩:=hm
 have HBD:=Qaa (And.intro h1 h3)
 clear hx1 h1 h3
 have n0:=Tryz.noTruth
 have n1:=Tryz.noNot
 have n2:=Tryz.noAllOf
 have n3:=Tryz.noAnyOf
 have n4:=Tryz.noHeader
 have n5:=Tryz.noEnvelope
 have n6:=Tryz.noString
 have yy:=Tryz.yesExists
 have H:=Qaa h
 have HL:=Qaa hl
 have hB0:∀ o,Below w.heap.size w (w.alloc o):=fun o=>(Below.refl _ _).alloc (Nat.le_refl _) o
 have HB0:=Qaa hB0
 clear h hl hB0
 go_enter Tryz.func252,Tryz.ntmps252
 go_wp2_with (first | (go_at_call 277;refine (QeG X xs _ _ (HF.out.keep (fun k _ hk=>(HB0.out _).block k hk)) HBD.out.1).mono ?_;rintro e w1 ⟨a1,k1,rfl,hs1,hb1⟩;have HB1:=Qaa ((HB0.out _).trans (hb1.mono (by simp)));have HC1:=Qaa (H.out.below HB1.out);have HS1:=Qaa hs1;clear hb1 hs1;skip) | (go_at_call 231;refine (Qcd B cb cs ⟨9,0,0,false,xs,[],0⟩ _ _ w1 HC1.out ⟨HS1.out,Or.inl ⟨rfl,rfl⟩,HBD.out.2,(fun z hz=>nomatch hz),HBD.out.1,Nat.zero_le _,(by show (-9223372036854775808:Int)≤0;decide),(by show (0:Int)≤9223372036854775807;decide)⟩ HL.out).mono ?_;rintro e w2 ⟨rfl,hc2,hf2⟩;have HC2:=Qaa hc2;have HF2:=Qaa ((Fr.of_below HB1.out).trans hf2);clear hc2 hf2;skip))
 go_end0
 exact ⟨rfl,HC2.out,HF2.out⟩
end
section
open Go.RowKit
attribute [local go_sem ↓] Go.wp_at_zero Go.wp_at_succ
theorem QoW (hw:List UInt8) (p tag num:Nat) (B cb:Nat) (cs:List Ins) (w:World) (h:CC w B cb cs) (hl:cs.length+1≤1000000) (hn:num≤2147483647) :
 Calls Tryz.prog 252 #[.pointer (some ⟨cb,0,none⟩),.iface 287 (.agg #[.string (Qag hw),.int .i64 p,.int .i64 tag,.int .i64 num])] w (Qde B cb (cs++[⟨10,num,tag,false,[],[],0⟩]) w):=by
 have HN:Hid ((-9223372036854775808:Int)≤(num:Int)∧(num:Int)≤9223372036854775807):=by show _∧_;omega
 have HC0:Hid (∀ o,CC (w.alloc o) B cb cs):=fun o=>h.alloc o
 have n0:=Tryz.noTruth
 have n1:=Tryz.noNot
 have n2:=Tryz.noAllOf
 have n3:=Tryz.noAnyOf
 have n4:=Tryz.noHeader
 have n5:=Tryz.noEnvelope
 have n6:=Tryz.noString
 have n7:=Tryz.noExists
 have yy:=Tryz.yesSize
 have H:=Qaa h
 have HL:=Qaa hl
 have hB0:∀ o,Below w.heap.size w (w.alloc o):=fun o=>(Below.refl _ _).alloc (Nat.le_refl _) o
 have HB0:=Qaa hB0
 clear h hl hB0
 go_enter Tryz.func252,Tryz.ntmps252
 go_wp2_with (first | (go_at_call 231;refine (QjX _ B cb cs ⟨10,num,tag,false,[],[],0⟩ _ _ _ (by simp) (HC0.out _) (Qc8 _ _ rfl rfl HN.out.1 HN.out.2) HL.out).mono ?_;rintro e w2 ⟨rfl,hc2,hf2⟩;have HC2:=Qaa hc2;have HF2:=Qaa ((Fr.of_below (HB0.out _)).trans hf2);clear hc2 hf2;skip))
 go_end0
 exact ⟨rfl,HC2.out,HF2.out⟩
end
end Go.Proofs.YtbiclelojbfnbabGreatDoor
