import Derived.Laws.Bits64b
import Derived.Test.YtenahlandohgaaaGreatDoorZESum
import Derived.Test.YtenahlandohgaaaGreatDoorZWTab
namespace Go.Proofs.YtenahlandohgaaaGreatDoor
set_option linter.unusedVariables false
set_option linter.unusedSimpArgs false
set_option maxRecDepth 100000
set_option maxHeartbeats 4000000
open Go.RowKit
attribute [local go_sem ↓] Go.wp_at_zero Go.wp_at_succ
def Tz (w:World):Prop:=w.cell? ⟨6,15,none⟩=some (.int .u8 4)
theorem Tz.below {w w':World} (h:Tz w) (hb:Below w.heap.size w w'):Tz w':=by
 have h1:(6:Nat) < w.heap.size:=cell_lt h
 unfold Tz
 rw [hb.cell (p:=⟨6,15,none⟩) h1]
 exact h
theorem tzKey:IntKind.u64.wrap (bits BinOp.and IntKind.u64 16 (IntKind.u64.wrap (-16))*285870213051353865) / 288230376151711744=15:=by decide
theorem tz64_any (w:World) (ht:Tz w) :
 Calls Tryz.prog 316 #[.int .u64 16] w fun e w'=>e=.returned (.int .i64 4)∧w'=w:=by
 have c:w.cell? ⟨6,15,none⟩=some (.int .u8 4):=ht
 clear ht
 go_enter Tryz.func316,Tryz.ntmps316
 go_wp2_with (simp only [tzKey])
 go_ret
 exact ⟨rfl,rfl⟩
theorem tz_any (w:World) (ht:Tz w) :
 Calls Tryz.prog 312 #[.int .u64 16] w fun e w'=>e=.returned (.int .i64 4)∧w'=w:=by
 have HT:=hide ht
 clear ht
 go_enter Tryz.func312,Tryz.ntmps312
 go_wp2_with (go_at_call 316;refine (tz64_any w HT.out).mono ?_;rintro e w1 ⟨rfl,h1⟩;rw [h1];clear h1)
 go_ret
 exact ⟨rfl,rfl⟩
theorem pow2_any (w:World) :
 Calls Tryz.prog 311 #[.int .i64 16] w fun e w'=>e=.returned (.bool true)∧w'=w:=by
 go_enter Tryz.func311,Tryz.ntmps311
 go_wp2
 go_ret
 exact ⟨by rfl,rfl⟩
theorem and15 (k m:Nat) (hk:k≤15) (hm:m < 16 ^ (k+1)):0≤bits BinOp.and IntKind.u64 (m:Int) 15∧bits BinOp.and IntKind.u64 (m:Int) 15 < 36:=by
 have h1:(16:Nat) ^ (k+1)≤16 ^ 16:=Nat.pow_le_pow_right (by omega) (by omega)
 have h2:(16:Nat) ^ 16=18446744073709551616:=by decide
 have h3:=bits_and_u64_nat m 15 (by omega) (by omega)
 have h4:m &&& 15≤15:=Nat.and_le_right
 have h5:((15:Nat):Int)=15:=rfl
 rw [h5] at h3
 rw [h3]
 omega
def ArB (w:World) (b:Nat):Prop:=∃ cs:List UInt8,cs.length=65∧w.heap[b]?=some (.cells (cs.map (fun x=>Value.int .u8 (x.toNat:Int))).toArray 400)
theorem ArB.set {w:World} {b:Nat} (h:ArB w b) (j:Nat) (x:UInt8) (hj:j < 65):ArB (w.setCell ⟨b,j,none⟩ (.int .u8 (x.toNat:Int))) b:=by
 obtain ⟨cs,hl,hb⟩:=h
 refine ⟨cs.set j x,by simpa using hl,?_⟩
 rw [heap_setCell_at _ _ _ _ _ _ hb]
 simp [List.map_set]
theorem sliceA (W:World) (B k:Nat) (hk:k≤15):(Instr.sliceAt 400 (.pointer (some ⟨B,0,none⟩)) (some (.int .i64 (50+(k:Int) - 1))) none none).run Tryz.prog W=.ok (.slice (some ⟨B,49+k,none⟩) (16 - k) (16 - k)) W:=by
 have ha:Tryz.prog.arrayLen 400=65:=by kernel_rfl
 have h2:(50+(k:Int) - 1).toNat=49+k:=by omega
 have h3:65 - (49+k)=16 - k:=by omega
 have h4:¬ 65=49+k:=by omega
 have hz:(sizeOf (Tryz.prog.elem 400)).run Tryz.prog W=.ok 1 W:=by kernel_rfl
 rw [run_sliceAt_array_l W 400 ⟨B,0,none⟩ (by kernel_rfl) .i64 _ (by omega) (by rw [ha];omega),hz]
 have h5:¬ 49+k=0:=by omega
 simp only [Result.andThen,slicedAt,ha,h2,h3,if_neg h4,Addr.add,Nat.mul_one,Nat.zero_add,if_neg h5]
theorem convA (W:World) (B k:Nat) (h:ArB W B) (hk:k≤15):∃ s:List UInt8,s.length≤65∧(convert 111 9 (.slice (some ⟨B,49+k,none⟩) (16 - k) (16 - k))).run Tryz.prog W=.ok (.string (strA s)) W:=by
 obtain ⟨cs,hl,hb⟩:=h
 have hd:(cs.drop (49+k)).length=16 - k:=by simp;omega
 refine ⟨cs.drop (49+k),by omega,?_⟩
 have:=run_convert_bytes_back (P:=Tryz.prog) W 111 9 5 ⟨B,49+k,none⟩ (16 - k) (cs.drop (49+k)) Tryz.underlying111 Tryz.underlying5 Tryz.underlying9 (fun j hj=>by
  have e:(⟨B,49+k,none⟩:Addr).add j=⟨B,49+k+j,none⟩:=by cases j <;> simp [Addr.add]
  rw [e,blk_cell hb]
  simp [List.getElem?_eq_getElem (show 49+k+j < cs.length by omega)])
 rw [hd] at this
 exact this
theorem formatBits_any (n:Nat) (hn:n < 18446744073709551616) (w:World) (ht:Tz w) :
 Calls Tryz.prog 299 #[.slice none 0 0,.int .u64 n,.int .i64 16,.bool false,.bool false] w fun e w'=>∃ s,e=.returned (.tuple #[.slice none 0 0,.string (strA s)])∧s.length≤65∧Below w.heap.size w w':=by
 have HT:=hide ht
 clear ht
 go_enter Tryz.func299,Tryz.ntmps299
 go_wp2_with fail
 refine (pow2_any _).mono ?_
 rintro e w1 ⟨rfl,h1⟩
 rw [h1]
 clear h1
 have HT1:Hid (Tz (w.alloc (.cells Tryz.zeroCells400 400))):=HT.out.below ((Below.refl _ _).alloc (Nat.le_refl _) _)
 go_wp2_with fail
 refine (tz_any _ HT1.out).mono ?_
 rintro e w1 ⟨rfl,h1⟩
 rw [h1]
 clear h1
 have HB0:Hid (Below w.heap.size w (w.alloc (.cells Tryz.zeroCells400 400))):=(Below.refl _ _).alloc (Nat.le_refl _) _
 have HA0:Hid (ArB (w.alloc (.cells Tryz.zeroCells400 400)) w.heap.size):=⟨List.replicate 65 0,rfl,by rw [blk_new];rfl⟩
 generalize w.alloc (.cells Tryz.zeroCells400 400)=w1 at *
 go_wp2
 go_loopw [1,13] (fun u i wr=>∃ k m:Nat,k≤15∧m < 16 ^ (k+1)∧u=.int .u64 (m:Int)∧i=.int .i64 ((50+k:Nat):Int)∧ArB wr w.heap.size∧Below w.heap.size w wr) (fun _ i _=>(intOf i).toNat)
 case atStart=>exact ⟨15,n,by omega,hn,rfl,rfl,HA0.out,HB0.out⟩
 case round=>
  obtain ⟨k,m,hk,hm,rfl,rfl,hA,hB⟩:=hrel
  have HA:=hide hA
  have HB:=hide hB
  clear hA hB
  obtain ⟨cs,hcl,hcb⟩:=HA.out
  obtain ⟨cv,c1⟩:∃ cv:Int,wr.cell? ⟨w.heap.size,49+k,none⟩=some (.int .u8 cv):=by
   rw [blk_cell hcb]
   exact ⟨((cs[49+k]'(by omega)).toNat:Int),by simp [List.getElem?_eq_getElem (show 49+k < cs.length by omega)]⟩
  have f1:wr.frozen? ⟨w.heap.size,49+k,none⟩=false:=blk_frozen hcb _
  clear hcb hcl
  by_cases hge:16≤m
  ·have hge':(16:Int)≤(m:Int):=by omega
   have HM:=hide hm
   obtain ⟨a0,a1⟩:=and15 k m hk hm
   clear hm
   go_wp2
   have hm:=HM.out
   obtain ⟨k',rfl⟩:∃ k',k=k'+1:=by
    cases k with
    | zero=>simp at hm;omega
    | succ k'=>exact ⟨k',rfl⟩
   have hd:m / 16 < 16 ^ (k'+1):=by
    rw [Nat.div_lt_iff_lt_mul (by omega)]
    rw [Nat.pow_succ] at hm
    exact hm
   exact ⟨⟨k',m / 16,by omega,hd,by go_num,by go_num,HA.out.set _ _ (by omega),HB.out.setCell (Nat.le_refl _) _⟩,by simp [intOf];omega⟩
  ·have hge':¬ (16:Int)≤(m:Int):=by omega
   have HM:=hide hm
   clear hm
   obtain ⟨f,hf⟩:∃ f:UInt8→List UInt8,∀ x,(f x).length≤65∧(convert 111 9 (.slice (some ⟨w.heap.size,49+k,none⟩) (16 - k) (16 - k))).run Tryz.prog (wr.setCell ⟨w.heap.size,49+k,none⟩ (.int .u8 (x.toNat:Int)))=.ok (.string (strA (f x))) (wr.setCell ⟨w.heap.size,49+k,none⟩ (.int .u8 (x.toNat:Int))):=
    ⟨fun x=>(convA _ _ _ (HA.out.set (49+k) x (by omega)) hk).choose,fun x=>(convA _ _ _ (HA.out.set (49+k) x (by omega)) hk).choose_spec⟩
   have HF:=hide hf
   clear hf
   go_wp2_with (first
    | rw [sliceA _ _ _ hk]
    | rw [(HF.out _).2])
   refine bodyPost_ret (v:=.tuple #[.slice none 0 0,.string (strA (f _))]) (by simp [results,Tryz.results299,go_sem];rfl) rfl ?_
   exact ⟨_,rfl,(HF.out _).1,HB.out.setCell (Nat.le_refl _) _⟩
theorem formatUintI_any (n:Nat) (hn:n < 18446744073709551616) (w:World) (ht:Tz w) :
 Calls Tryz.prog 278 #[.int .u64 n,.int .i64 16] w fun e w'=>∃ s,e=.returned (.string (strA s))∧s.length≤65∧Below w.heap.size w w':=by
 have HT:=hide ht
 clear ht
 have HT1:Hid (∀ o,Tz (w.alloc o)):=fun o=>HT.out.below ((Below.refl _ _).alloc (Nat.le_refl _) _)
 go_enter Tryz.func278,Tryz.ntmps278
 go_wp2_with fail
 refine (formatBits_any n hn _ (by first | exact HT.out | exact HT1.out _)).mono ?_
 rintro e w1 ⟨s,rfl,hs,hb⟩
 have HB:=hide hb
 clear hb
 go_wp2
 go_ret
 exact ⟨s,rfl,hs,HB.out⟩
theorem formatUint_any (n:Nat) (hn:n < 18446744073709551616) (w:World) (ht:Tz w) :
 Calls Tryz.prog 256 #[.int .u64 n,.int .i64 16] w fun e w'=>∃ s,e=.returned (.string (strA s))∧s.length≤65∧Below w.heap.size w w':=by
 have HT:=hide ht
 clear ht
 go_enter Tryz.func256,Tryz.ntmps256
 go_wp2_with fail
 refine (formatUintI_any n hn _ HT.out).mono ?_
 rintro e w1 ⟨s,rfl,hs,hb⟩
 have HB:=hide hb
 clear hb
 go_wp2
 go_ret
 exact ⟨s,rfl,hs,HB.out⟩
end Go.Proofs.YtenahlandohgaaaGreatDoor
