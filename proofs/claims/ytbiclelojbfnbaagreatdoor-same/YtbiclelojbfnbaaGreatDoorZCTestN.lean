import Derived.Test.YtbiclelojbfnbaaGreatDoorZCAct
import Derived.Test.YtbiclelojbfnbaaGreatDoorZWTest2
namespace Go.Proofs.YtbiclelojbfnbaaGreatDoor
set_option linter.unusedVariables false
set_option linter.unusedSimpArgs false
set_option maxRecDepth 100000
set_option maxHeartbeats 4000000
section
open Go.RowKit
attribute [local go_sem ↓] Go.wp_at_zero Go.wp_at_succ
def SubC (fn B cb:Nat) (w:World) (v:Value) (sub:List Ins→List Ins):Prop:=
 ∀ W cs,Below B w W→CC W B cb cs→(sub cs).length≤1000000→Calls Tryz.prog fn #[.pointer (some ⟨cb,0,none⟩),v] W (Qdq B cb (sub cs) W)
theorem SubC.below {fn B cb:Nat} {w w':World} {v:Value} {sub:List Ins→List Ins} (h:SubC fn B cb w v sub) (hb:Below B w w'):SubC fn B cb w' v sub:=fun W cs hW hc hl=>h W cs (hb.trans hW) hc hl
theorem Qld (g B cb:Nat) (cs:List Ins) (i:Ins) (av bv:Value) (W:World) (hg:g=W.heap.size) (h:CC W B cb cs) (hok:Qcg W i av bv) (hlen:cs.length+1≤1000000) :
 Calls Tryz.prog 201 #[.pointer (some ⟨cb,0,none⟩),.slice (some ⟨g,0,none⟩) 1 1] (W.alloc (.cells #[.int .i64 i.op,.int .i64 i.n,.int .i64 i.tag,.bool i.oct,av,bv,.int .i64 i.at_] 62)) fun e w'=>e=.returned (.int .i64 (cs.length:Int))∧CC w' B cb (cs++[i])∧Fr (PCo B) W w':=by
 subst hg
 exact Qcv B cb cs i av bv W h hok hlen
theorem QiD (hw:List UInt8) (p:Nat) (b:Bool) (B cb:Nat) (cs:List Ins) (w:World) (h:CC w B cb cs) (hl:cs.length+1≤1000000) :
 Calls Tryz.prog 279 #[.pointer (some ⟨cb,0,none⟩),.iface 373 (.agg #[.string (Qad hw),.int .i64 p,.bool b])] w (Qdq B cb (cs++[QcW b]) w):=by
 have yy:=Tryz.yesTruth
 have H:=Qab h
 have HL:=Qab hl
 have hB0:∀ o,Below w.heap.size w (w.alloc o):=fun o=>(Below.refl _ _).alloc (Nat.le_refl _) o
 have HB0:=Qab hB0
 clear h hl hB0
 go_enter Tryz.func279,Tryz.ntmps279
 go_wp2_with (first | (go_at_call 334;refine (QkN b _).mono ?_;rintro e w1 ⟨rfl,hb1⟩;have HB1:=Qab ((HB0.out _).trans (hb1.mono (by simp)));have HC1:=Qab (H.out.below HB1.out);clear hb1;unfold Qdt;skip) | (go_at_call 201;refine (Qcv B cb cs (QcW b) _ _ w1 HC1.out (Qdi _ _ rfl rfl (by cases b <;> decide) (by cases b <;> decide)) HL.out).mono ?_;rintro e w2 ⟨rfl,hc2,hf2⟩;have HC2:=Qab hc2;have HF2:=Qab ((Fr.of_below HB1.out).trans hf2);clear hc2 hf2;skip))
 go_end0
 exact ⟨rfl,HC2.out,HF2.out⟩
end
section
open Go.RowKit
attribute [local go_sem ↓] Go.wp_at_zero Go.wp_at_succ
theorem Qmv (X:Nat→Prop) (hw:List UInt8) (x:QcT) (u:Value) (B cb:Nat) (cs:List Ins) (w:World) (h:CC w B cb cs) (hl:cs.length+1≤1000000) (hm:mtX X hw x w u) (h1:x.fr.length≤1000000) (h2:x.keys.length≤1000000) (h3:∀ z∈x.fr,z.length≤100000) (h4:∀ z∈x.keys,z.length≤100000) :
 Calls Tryz.prog 279 #[.pointer (some ⟨cb,0,none⟩),.iface 281 u] w (Qdq B cb (cs++[QcF 6 x]) w):=by
 obtain ⟨fv,kv,rfl,hf,hk⟩:=hm
 have HF:=Qab hf
 have HK:=Qab hk
 obtain ⟨gf,cf,rfl,hx1⟩:=hf
 obtain ⟨gk,ck,rfl,hx2⟩:=hk
 have HBD:=Qab (And.intro h1 (And.intro h2 (And.intro h3 h4)))
 clear hx1 hx2 h1 h2 h3 h4
 have n0:=Tryz.noTruth
 have n1:=Tryz.noNot
 have n2:=Tryz.noAllOf
 have n3:=Tryz.noAnyOf
 have yy:=Tryz.yesHeader
 have H:=Qab h
 have HL:=Qab hl
 have hB0:∀ o,Below w.heap.size w (w.alloc o):=fun o=>(Below.refl _ _).alloc (Nat.le_refl _) o
 have HB0:=Qab hB0
 clear h hl hB0
 go_enter Tryz.func279,Tryz.ntmps279
 go_wp2_with (first | (go_at_call 336;refine (QeS 6 X hw x _ _ _ (HF.out.keep (fun k _ hk=>(HB0.out _).block k hk)) (HK.out.keep (fun k _ hk=>(HB0.out _).block k hk)) HBD.out.1 HBD.out.2.1).mono ?_;rintro e w1 ⟨a1,k1,a2,k2,rfl,hs1,hs2,hb1⟩;have HB1:=Qab ((HB0.out _).trans (hb1.mono (by simp)));have HC1:=Qab (H.out.below HB1.out);have HS1:=Qab hs1;have HS2:=Qab hs2;clear hb1 hs1 hs2;unfold Qdt;skip) | (go_at_call 201;refine (Qcv B cb cs (QcF 6 x) _ _ w1 HC1.out ⟨HS1.out,HS2.out,HBD.out.2.2.1,HBD.out.2.2.2,HBD.out.1,HBD.out.2.1,(by show (-9223372036854775808:Int)≤0;decide),(by show (0:Int)≤9223372036854775807;decide)⟩ HL.out).mono ?_;rintro e w2 ⟨rfl,hc2,hf2⟩;have HC2:=Qab hc2;have HF2:=Qab ((Fr.of_below HB1.out).trans hf2);clear hc2 hf2;skip))
 go_end0
 exact ⟨rfl,HC2.out,HF2.out⟩
end
section
open Go.RowKit
attribute [local go_sem ↓] Go.wp_at_zero Go.wp_at_succ
theorem Qjf (X:Nat→Prop) (hw:List UInt8) (x:QcT) (u:Value) (B cb:Nat) (cs:List Ins) (w:World) (h:CC w B cb cs) (hl:cs.length+1≤1000000) (hm:mtX X hw x w u) (h1:x.fr.length≤1000000) (h2:x.keys.length≤1000000) (h3:∀ z∈x.fr,z.length≤100000) (h4:∀ z∈x.keys,z.length≤100000) :
 Calls Tryz.prog 279 #[.pointer (some ⟨cb,0,none⟩),.iface 284 u] w (Qdq B cb (cs++[QcF 7 x]) w):=by
 obtain ⟨fv,kv,rfl,hf,hk⟩:=hm
 have HF:=Qab hf
 have HK:=Qab hk
 obtain ⟨gf,cf,rfl,hx1⟩:=hf
 obtain ⟨gk,ck,rfl,hx2⟩:=hk
 have HBD:=Qab (And.intro h1 (And.intro h2 (And.intro h3 h4)))
 clear hx1 hx2 h1 h2 h3 h4
 have n0:=Tryz.noTruth
 have n1:=Tryz.noNot
 have n2:=Tryz.noAllOf
 have n3:=Tryz.noAnyOf
 have n4:=Tryz.noHeader
 have yy:=Tryz.yesEnvelope
 have H:=Qab h
 have HL:=Qab hl
 have hB0:∀ o,Below w.heap.size w (w.alloc o):=fun o=>(Below.refl _ _).alloc (Nat.le_refl _) o
 have HB0:=Qab hB0
 clear h hl hB0
 go_enter Tryz.func279,Tryz.ntmps279
 go_wp2_with (first | (go_at_call 336;refine (QeS 7 X hw x _ _ _ (HF.out.keep (fun k _ hk=>(HB0.out _).block k hk)) (HK.out.keep (fun k _ hk=>(HB0.out _).block k hk)) HBD.out.1 HBD.out.2.1).mono ?_;rintro e w1 ⟨a1,k1,a2,k2,rfl,hs1,hs2,hb1⟩;have HB1:=Qab ((HB0.out _).trans (hb1.mono (by simp)));have HC1:=Qab (H.out.below HB1.out);have HS1:=Qab hs1;have HS2:=Qab hs2;clear hb1 hs1 hs2;unfold Qdt;skip) | (go_at_call 201;refine (Qcv B cb cs (QcF 7 x) _ _ w1 HC1.out ⟨HS1.out,HS2.out,HBD.out.2.2.1,HBD.out.2.2.2,HBD.out.1,HBD.out.2.1,(by show (-9223372036854775808:Int)≤0;decide),(by show (0:Int)≤9223372036854775807;decide)⟩ HL.out).mono ?_;rintro e w2 ⟨rfl,hc2,hf2⟩;have HC2:=Qab hc2;have HF2:=Qab ((Fr.of_below HB1.out).trans hf2);clear hc2 hf2;skip))
 go_end0
 exact ⟨rfl,HC2.out,HF2.out⟩
end
section
open Go.RowKit
attribute [local go_sem ↓] Go.wp_at_zero Go.wp_at_succ
theorem QmW (X:Nat→Prop) (hw:List UInt8) (x:QcT) (u:Value) (B cb:Nat) (cs:List Ins) (w:World) (h:CC w B cb cs) (hl:cs.length+1≤1000000) (hm:mtX X hw x w u) (h1:x.fr.length≤1000000) (h2:x.keys.length≤1000000) (h3:∀ z∈x.fr,z.length≤100000) (h4:∀ z∈x.keys,z.length≤100000) :
 Calls Tryz.prog 279 #[.pointer (some ⟨cb,0,none⟩),.iface 285 u] w (Qdq B cb (cs++[QcF 8 x]) w):=by
 obtain ⟨fv,kv,rfl,hf,hk⟩:=hm
 have HF:=Qab hf
 have HK:=Qab hk
 obtain ⟨gf,cf,rfl,hx1⟩:=hf
 obtain ⟨gk,ck,rfl,hx2⟩:=hk
 have HBD:=Qab (And.intro h1 (And.intro h2 (And.intro h3 h4)))
 clear hx1 hx2 h1 h2 h3 h4
 have n0:=Tryz.noTruth
 have n1:=Tryz.noNot
 have n2:=Tryz.noAllOf
 have n3:=Tryz.noAnyOf
 have n4:=Tryz.noHeader
 have n5:=Tryz.noEnvelope
 have yy:=Tryz.yesString
 have H:=Qab h
 have HL:=Qab hl
 have hB0:∀ o,Below w.heap.size w (w.alloc o):=fun o=>(Below.refl _ _).alloc (Nat.le_refl _) o
 have HB0:=Qab hB0
 clear h hl hB0
 go_enter Tryz.func279,Tryz.ntmps279
 go_wp2_with (first | (go_at_call 336;refine (QeS 8 X hw x _ _ _ (HF.out.keep (fun k _ hk=>(HB0.out _).block k hk)) (HK.out.keep (fun k _ hk=>(HB0.out _).block k hk)) HBD.out.1 HBD.out.2.1).mono ?_;rintro e w1 ⟨a1,k1,a2,k2,rfl,hs1,hs2,hb1⟩;have HB1:=Qab ((HB0.out _).trans (hb1.mono (by simp)));have HC1:=Qab (H.out.below HB1.out);have HS1:=Qab hs1;have HS2:=Qab hs2;clear hb1 hs1 hs2;unfold Qdt;skip) | (go_at_call 201;refine (Qcv B cb cs (QcF 8 x) _ _ w1 HC1.out ⟨HS1.out,HS2.out,HBD.out.2.2.1,HBD.out.2.2.2,HBD.out.1,HBD.out.2.1,(by show (-9223372036854775808:Int)≤0;decide),(by show (0:Int)≤9223372036854775807;decide)⟩ HL.out).mono ?_;rintro e w2 ⟨rfl,hc2,hf2⟩;have HC2:=Qab hc2;have HF2:=Qab ((Fr.of_below HB1.out).trans hf2);clear hc2 hf2;skip))
 go_end0
 exact ⟨rfl,HC2.out,HF2.out⟩
end
section
open Go.RowKit
attribute [local go_sem ↓] Go.wp_at_zero Go.wp_at_succ
theorem Qrj (hw:List UInt8) (p:Nat) (ty:TypeId) (y:Value) (sub:List Ins→List Ins) (B cb:Nat) (cs:List Ins) (w:World) (h:CC w B cb cs) (hl:(sub cs).length+1≤1000000) (ho:SubC 279 B cb w (.iface ty y) sub) :
 Calls Tryz.prog 279 #[.pointer (some ⟨cb,0,none⟩),.iface 376 (.agg #[.string (Qad hw),.int .i64 p,.iface ty y])] w (Qdq B cb (sub cs++[QcR 2]) w):=by
 have HO:=Qab ho
 have HBB:Hid (∀ o,Below B w (w.alloc o)):=fun o=>(Below.refl _ _).alloc (Nat.le_of_lt (Nat.lt_of_le_of_lt h.lt.1 h.lt.2)) o
 clear ho
 have n0:=Tryz.noTruth
 have yy:=Tryz.yesNot
 have H:=Qab h
 have HL:=Qab hl
 have hB0:∀ o,Below w.heap.size w (w.alloc o):=fun o=>(Below.refl _ _).alloc (Nat.le_refl _) o
 have HB0:=Qab hB0
 clear h hl hB0
 go_enter Tryz.func279,Tryz.ntmps279
 go_wp2_with (first | (go_at_call 279;refine (HO.out _ cs (HBB.out _) (H.out.alloc _) (Nat.le_of_succ_le HL.out)).mono ?_;rintro e w1 ⟨rfl,hc1,hf1⟩;have HC1:=Qab hc1;have HF1:=Qab ((Fr.of_below (HB0.out _)).trans hf1);clear hc1 hf1;skip) | (go_at_call 201;refine (Qcv B cb (sub cs) (QcR 2) _ _ _ HC1.out (Qdi _ _ rfl rfl (by decide) (by decide)) HL.out).mono ?_;rintro e w2 ⟨rfl,hc2,hf2⟩;have HC2:=Qab hc2;have HF2:=Qab (HF1.out.trans hf2);clear hc2 hf2;skip))
 go_end0
 exact ⟨rfl,HC2.out,HF2.out⟩
end
end Go.Proofs.YtbiclelojbfnbaaGreatDoor
