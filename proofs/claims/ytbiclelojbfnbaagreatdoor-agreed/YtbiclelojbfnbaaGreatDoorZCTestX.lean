import Derived.Test.YtbiclelojbfnbaaGreatDoorZCAct
import Derived.Test.YtbiclelojbfnbaaGreatDoorZWTest
namespace Go.Proofs.YtbiclelojbfnbaaGreatDoor
set_option linter.unusedVariables false
set_option linter.unusedSimpArgs false
set_option maxRecDepth 100000
set_option maxHeartbeats 4000000
section
open Go.RowKit
attribute [local go_sem ↓] Go.wp_at_zero Go.wp_at_succ
def SubC (fn B cb:Nat) (w:World) (v:Value) (sub:List Ins→List Ins):Prop:=
 ∀ W cs,Below B w W→CC W B cb cs→(sub cs).length≤1000000→Calls Tryz.prog fn #[.pointer (some ⟨cb,0,none⟩),v] W (CPost B cb (sub cs) W)
theorem SubC.below {fn B cb:Nat} {w w':World} {v:Value} {sub:List Ins→List Ins} (h:SubC fn B cb w v sub) (hb:Below B w w'):SubC fn B cb w' v sub:=fun W cs hW hc hl=>h W cs (hb.trans hW) hc hl
theorem addC_at (g B cb:Nat) (cs:List Ins) (i:Ins) (av bv:Value) (W:World) (hg:g=W.heap.size) (h:CC W B cb cs) (hok:InsOk W i av bv) (hlen:cs.length+1≤1000000) :
  Calls Tryz.prog 201 #[.pointer (some ⟨cb,0,none⟩),.slice (some ⟨g,0,none⟩) 1 1] (W.alloc (.cells #[.int .i64 i.op,.int .i64 i.n,.int .i64 i.tag,.bool i.oct,av,bv,.int .i64 i.at_] 62)) fun e w'=>e=.returned (.int .i64 (cs.length:Int))∧CC w' B cb (cs++[i])∧Fr (PCo B) W w':=by
 subst hg
 exact addC_one B cb cs i av bv W h hok hlen
theorem testC_truth (hw:List UInt8) (p:Nat) (b:Bool) (B cb:Nat) (cs:List Ins) (w:World) (h:CC w B cb cs) (hl:cs.length+1≤1000000) :
  Calls Tryz.prog 279 #[.pointer (some ⟨cb,0,none⟩),.iface 373 (.agg #[.string (strA hw),.int .i64 p,.bool b])] w (CPost B cb (cs++[pushI b]) w):=by
 have yy:=Tryz.yesTruth
 have H:=hide h
 have HL:=hide hl
 have hB0:∀ o,Below w.heap.size w (w.alloc o):=fun o=>(Below.refl _ _).alloc (Nat.le_refl _) o
 have HB0:=hide hB0
 clear h hl hB0
 go_enter Tryz.func279,Tryz.ntmps279
 go_wp2_with (first | (go_at_call 334;refine (push_any b _).mono ?_;rintro e w1 ⟨rfl,hb1⟩;have HB1:=hide ((HB0.out _).trans (hb1.mono (by simp)));have HC1:=hide (H.out.below HB1.out);clear hb1;unfold insV;skip) | (go_at_call 201;refine (addC_one B cb cs (pushI b) _ _ w1 HC1.out (insOk_nil _ _ rfl rfl (by cases b <;> decide) (by cases b <;> decide)) HL.out).mono ?_;rintro e w2 ⟨rfl,hc2,hf2⟩;have HC2:=hide hc2;have HF2:=hide ((Fr.of_below HB1.out).trans hf2);clear hc2 hf2;skip))
 go_end0
 exact ⟨rfl,HC2.out,HF2.out⟩
end
section
open Go.RowKit
attribute [local go_sem ↓] Go.wp_at_zero Go.wp_at_succ
theorem testC_header (X:Nat→Prop) (hw:List UInt8) (x:TLab) (u:Value) (B cb:Nat) (cs:List Ins) (w:World) (h:CC w B cb cs) (hl:cs.length+1≤1000000) (hm:mtX X hw x w u) (h1:x.fr.length≤1000000) (h2:x.keys.length≤1000000) (h3:∀ z∈x.fr,z.length≤100000) (h4:∀ z∈x.keys,z.length≤100000) :
  Calls Tryz.prog 279 #[.pointer (some ⟨cb,0,none⟩),.iface 281 u] w (CPost B cb (cs++[matchI 6 x]) w):=by
 obtain ⟨fv,kv,rfl,hf,hk⟩:=hm
 have HF:=hide hf
 have HK:=hide hk
 obtain ⟨gf,cf,rfl,hx1⟩:=hf
 obtain ⟨gk,ck,rfl,hx2⟩:=hk
 have HBD:=hide (And.intro h1 (And.intro h2 (And.intro h3 h4)))
 clear hx1 hx2 h1 h2 h3 h4
 have n0:=Tryz.noTruth
 have n1:=Tryz.noNot
 have n2:=Tryz.noAllOf
 have n3:=Tryz.noAnyOf
 have yy:=Tryz.yesHeader
 have H:=hide h
 have HL:=hide hl
 have hB0:∀ o,Below w.heap.size w (w.alloc o):=fun o=>(Below.refl _ _).alloc (Nat.le_refl _) o
 have HB0:=hide hB0
 clear h hl hB0
 go_enter Tryz.func279,Tryz.ntmps279
 go_wp2_with (first | (go_at_call 336;refine (matching_any 6 X hw x _ _ _ (HF.out.keep (fun k _ hk=>(HB0.out _).block k hk)) (HK.out.keep (fun k _ hk=>(HB0.out _).block k hk)) HBD.out.1 HBD.out.2.1).mono ?_;rintro e w1 ⟨a1,k1,a2,k2,rfl,hs1,hs2,hb1⟩;have HB1:=hide ((HB0.out _).trans (hb1.mono (by simp)));have HC1:=hide (H.out.below HB1.out);have HS1:=hide hs1;have HS2:=hide hs2;clear hb1 hs1 hs2;unfold insV;skip) | (go_at_call 201;refine (addC_one B cb cs (matchI 6 x) _ _ w1 HC1.out ⟨HS1.out,HS2.out,HBD.out.2.2.1,HBD.out.2.2.2,HBD.out.1,HBD.out.2.1,(by show (-9223372036854775808:Int)≤0;decide),(by show (0:Int)≤9223372036854775807;decide)⟩ HL.out).mono ?_;rintro e w2 ⟨rfl,hc2,hf2⟩;have HC2:=hide hc2;have HF2:=hide ((Fr.of_below HB1.out).trans hf2);clear hc2 hf2;skip))
 go_end0
 exact ⟨rfl,HC2.out,HF2.out⟩
end
section
open Go.RowKit
attribute [local go_sem ↓] Go.wp_at_zero Go.wp_at_succ
theorem testC_envelope (X:Nat→Prop) (hw:List UInt8) (x:TLab) (u:Value) (B cb:Nat) (cs:List Ins) (w:World) (h:CC w B cb cs) (hl:cs.length+1≤1000000) (hm:mtX X hw x w u) (h1:x.fr.length≤1000000) (h2:x.keys.length≤1000000) (h3:∀ z∈x.fr,z.length≤100000) (h4:∀ z∈x.keys,z.length≤100000) :
  Calls Tryz.prog 279 #[.pointer (some ⟨cb,0,none⟩),.iface 284 u] w (CPost B cb (cs++[matchI 7 x]) w):=by
 obtain ⟨fv,kv,rfl,hf,hk⟩:=hm
 have HF:=hide hf
 have HK:=hide hk
 obtain ⟨gf,cf,rfl,hx1⟩:=hf
 obtain ⟨gk,ck,rfl,hx2⟩:=hk
 have HBD:=hide (And.intro h1 (And.intro h2 (And.intro h3 h4)))
 clear hx1 hx2 h1 h2 h3 h4
 have n0:=Tryz.noTruth
 have n1:=Tryz.noNot
 have n2:=Tryz.noAllOf
 have n3:=Tryz.noAnyOf
 have n4:=Tryz.noHeader
 have yy:=Tryz.yesEnvelope
 have H:=hide h
 have HL:=hide hl
 have hB0:∀ o,Below w.heap.size w (w.alloc o):=fun o=>(Below.refl _ _).alloc (Nat.le_refl _) o
 have HB0:=hide hB0
 clear h hl hB0
 go_enter Tryz.func279,Tryz.ntmps279
 go_wp2_with (first | (go_at_call 336;refine (matching_any 7 X hw x _ _ _ (HF.out.keep (fun k _ hk=>(HB0.out _).block k hk)) (HK.out.keep (fun k _ hk=>(HB0.out _).block k hk)) HBD.out.1 HBD.out.2.1).mono ?_;rintro e w1 ⟨a1,k1,a2,k2,rfl,hs1,hs2,hb1⟩;have HB1:=hide ((HB0.out _).trans (hb1.mono (by simp)));have HC1:=hide (H.out.below HB1.out);have HS1:=hide hs1;have HS2:=hide hs2;clear hb1 hs1 hs2;unfold insV;skip) | (go_at_call 201;refine (addC_one B cb cs (matchI 7 x) _ _ w1 HC1.out ⟨HS1.out,HS2.out,HBD.out.2.2.1,HBD.out.2.2.2,HBD.out.1,HBD.out.2.1,(by show (-9223372036854775808:Int)≤0;decide),(by show (0:Int)≤9223372036854775807;decide)⟩ HL.out).mono ?_;rintro e w2 ⟨rfl,hc2,hf2⟩;have HC2:=hide hc2;have HF2:=hide ((Fr.of_below HB1.out).trans hf2);clear hc2 hf2;skip))
 go_end0
 exact ⟨rfl,HC2.out,HF2.out⟩
end
section
open Go.RowKit
attribute [local go_sem ↓] Go.wp_at_zero Go.wp_at_succ
theorem testC_string (X:Nat→Prop) (hw:List UInt8) (x:TLab) (u:Value) (B cb:Nat) (cs:List Ins) (w:World) (h:CC w B cb cs) (hl:cs.length+1≤1000000) (hm:mtX X hw x w u) (h1:x.fr.length≤1000000) (h2:x.keys.length≤1000000) (h3:∀ z∈x.fr,z.length≤100000) (h4:∀ z∈x.keys,z.length≤100000) :
  Calls Tryz.prog 279 #[.pointer (some ⟨cb,0,none⟩),.iface 285 u] w (CPost B cb (cs++[matchI 8 x]) w):=by
 obtain ⟨fv,kv,rfl,hf,hk⟩:=hm
 have HF:=hide hf
 have HK:=hide hk
 obtain ⟨gf,cf,rfl,hx1⟩:=hf
 obtain ⟨gk,ck,rfl,hx2⟩:=hk
 have HBD:=hide (And.intro h1 (And.intro h2 (And.intro h3 h4)))
 clear hx1 hx2 h1 h2 h3 h4
 have n0:=Tryz.noTruth
 have n1:=Tryz.noNot
 have n2:=Tryz.noAllOf
 have n3:=Tryz.noAnyOf
 have n4:=Tryz.noHeader
 have n5:=Tryz.noEnvelope
 have yy:=Tryz.yesString
 have H:=hide h
 have HL:=hide hl
 have hB0:∀ o,Below w.heap.size w (w.alloc o):=fun o=>(Below.refl _ _).alloc (Nat.le_refl _) o
 have HB0:=hide hB0
 clear h hl hB0
 go_enter Tryz.func279,Tryz.ntmps279
 go_wp2_with (first | (go_at_call 336;refine (matching_any 8 X hw x _ _ _ (HF.out.keep (fun k _ hk=>(HB0.out _).block k hk)) (HK.out.keep (fun k _ hk=>(HB0.out _).block k hk)) HBD.out.1 HBD.out.2.1).mono ?_;rintro e w1 ⟨a1,k1,a2,k2,rfl,hs1,hs2,hb1⟩;have HB1:=hide ((HB0.out _).trans (hb1.mono (by simp)));have HC1:=hide (H.out.below HB1.out);have HS1:=hide hs1;have HS2:=hide hs2;clear hb1 hs1 hs2;unfold insV;skip) | (go_at_call 201;refine (addC_one B cb cs (matchI 8 x) _ _ w1 HC1.out ⟨HS1.out,HS2.out,HBD.out.2.2.1,HBD.out.2.2.2,HBD.out.1,HBD.out.2.1,(by show (-9223372036854775808:Int)≤0;decide),(by show (0:Int)≤9223372036854775807;decide)⟩ HL.out).mono ?_;rintro e w2 ⟨rfl,hc2,hf2⟩;have HC2:=hide hc2;have HF2:=hide ((Fr.of_below HB1.out).trans hf2);clear hc2 hf2;skip))
 go_end0
 exact ⟨rfl,HC2.out,HF2.out⟩
end
section
open Go.RowKit
attribute [local go_sem ↓] Go.wp_at_zero Go.wp_at_succ
theorem testC_exists (X:Nat→Prop) (hw:List UInt8) (p:Nat) (xs:List (List UInt8)) (u:Value) (B cb:Nat) (cs:List Ins) (w:World) (h:CC w B cb cs) (hl:cs.length+1≤1000000) (hm:slX X xs w u) (h1:xs.length≤1000000) (h3:∀ z∈xs,z.length≤100000) :
  Calls Tryz.prog 279 #[.pointer (some ⟨cb,0,none⟩),.iface 380 (.agg #[.string (strA hw),.int .i64 p,u])] w (CPost B cb (cs++[⟨9,0,0,false,xs,[],0⟩]) w):=by
 have HF:=hide hm
 obtain ⟨gf,cf,rfl,hx1⟩:=hm
 have HBD:=hide (And.intro h1 h3)
 clear hx1 h1 h3
 have n0:=Tryz.noTruth
 have n1:=Tryz.noNot
 have n2:=Tryz.noAllOf
 have n3:=Tryz.noAnyOf
 have n4:=Tryz.noHeader
 have n5:=Tryz.noEnvelope
 have n6:=Tryz.noString
 have yy:=Tryz.yesExists
 have H:=hide h
 have HL:=hide hl
 have hB0:∀ o,Below w.heap.size w (w.alloc o):=fun o=>(Below.refl _ _).alloc (Nat.le_refl _) o
 have HB0:=hide hB0
 clear h hl hB0
 go_enter Tryz.func279,Tryz.ntmps279
 go_wp2_with (first | (go_at_call 337;refine (cloneStr_any X xs _ _ (HF.out.keep (fun k _ hk=>(HB0.out _).block k hk)) HBD.out.1).mono ?_;rintro e w1 ⟨a1,k1,rfl,hs1,hb1⟩;have HB1:=hide ((HB0.out _).trans (hb1.mono (by simp)));have HC1:=hide (H.out.below HB1.out);have HS1:=hide hs1;clear hb1 hs1;skip) | (go_at_call 201;refine (addC_one B cb cs ⟨9,0,0,false,xs,[],0⟩ _ _ w1 HC1.out ⟨HS1.out,Or.inl ⟨rfl,rfl⟩,HBD.out.2,(fun z hz=>nomatch hz),HBD.out.1,Nat.zero_le _,(by show (-9223372036854775808:Int)≤0;decide),(by show (0:Int)≤9223372036854775807;decide)⟩ HL.out).mono ?_;rintro e w2 ⟨rfl,hc2,hf2⟩;have HC2:=hide hc2;have HF2:=hide ((Fr.of_below HB1.out).trans hf2);clear hc2 hf2;skip))
 go_end0
 exact ⟨rfl,HC2.out,HF2.out⟩
end
end Go.Proofs.YtbiclelojbfnbaaGreatDoor
