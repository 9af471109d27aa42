import Derived.Laws.Bits64b
import Derived.Test.YtenahlandohgaaaGreatDoorZEJoin
import Derived.Test.YtenahlandohgaaaGreatDoorZGSum
namespace Go.Proofs.YtenahlandohgaaaGreatDoor
set_option linter.unusedVariables false
set_option linter.unusedSimpArgs false
set_option maxRecDepth 100000
set_option maxHeartbeats 4000000
section
open Go.RowKit
attribute [local go_sem ↓] Go.wp_at_zero Go.wp_at_succ
def Tz (w:World):Prop:=w.cell? ⟨6,15,none⟩=some (.int .u8 4)
theorem Tz.below {w w':World} (h:Tz w) (hb:Below w.heap.size w w'):Tz w':=by
 have h1:(6:Nat) < w.heap.size:=cell_lt h
 unfold Tz
 rw [hb.cell (p:=⟨6,15,none⟩) h1]
 exact h
theorem tzKey:IntKind.u64.wrap (bits BinOp.and IntKind.u64 16 (IntKind.u64.wrap (-16))*285870213051353865) / 288230376151711744=15:=by decide
theorem tz64_any (w:World) (ht:Tz w) :
 Calls Tryz.prog 316 #[.int .u64 16] w fun e w'=>e=.returned (.int .i64 4)∧w'=w:=by
 have c:w.cell? ⟨6,15,none⟩=some (.int .u8 4):=ht
 clear ht
 go_enter Tryz.func316,Tryz.ntmps316
 go_wp2_with (simp only [tzKey])
 go_ret
 exact ⟨rfl,rfl⟩
theorem tz_any (w:World) (ht:Tz w) :
 Calls Tryz.prog 312 #[.int .u64 16] w fun e w'=>e=.returned (.int .i64 4)∧w'=w:=by
 have HT:=hide ht
 clear ht
 go_enter Tryz.func312,Tryz.ntmps312
 go_wp2_with (go_at_call 316;refine (tz64_any w HT.out).mono ?_;rintro e w1 ⟨rfl,h1⟩;rw [h1];clear h1)
 go_ret
 exact ⟨rfl,rfl⟩
theorem pow2_any (w:World) :
 Calls Tryz.prog 311 #[.int .i64 16] w fun e w'=>e=.returned (.bool true)∧w'=w:=by
 go_enter Tryz.func311,Tryz.ntmps311
 go_wp2
 go_ret
 exact ⟨by rfl,rfl⟩
theorem and15 (k m:Nat) (hk:k≤15) (hm:m < 16 ^ (k+1)):0≤bits BinOp.and IntKind.u64 (m:Int) 15∧bits BinOp.and IntKind.u64 (m:Int) 15 < 36:=by
 have h1:(16:Nat) ^ (k+1)≤16 ^ 16:=Nat.pow_le_pow_right (by omega) (by omega)
 have h2:(16:Nat) ^ 16=18446744073709551616:=by decide
 have h3:=bits_and_u64_nat m 15 (by omega) (by omega)
 have h4:m &&& 15≤15:=Nat.and_le_right
 have h5:((15:Nat):Int)=15:=rfl
 rw [h5] at h3
 rw [h3]
 omega
theorem sliceA (W:World) (B k:Nat) (hk:k≤15):(Instr.sliceAt 400 (.pointer (some ⟨B,0,none⟩)) (some (.int .i64 (50+(k:Int) - 1))) none none).run Tryz.prog W=.ok (.slice (some ⟨B,49+k,none⟩) (16 - k) (16 - k)) W:=by
 have ha:Tryz.prog.arrayLen 400=65:=by kernel_rfl
 have h2:(50+(k:Int) - 1).toNat=49+k:=by omega
 have h3:65 - (49+k)=16 - k:=by omega
 have h4:¬ 65=49+k:=by omega
 have hz:(sizeOf (Tryz.prog.elem 400)).run Tryz.prog W=.ok 1 W:=by kernel_rfl
 rw [run_sliceAt_array_l W 400 ⟨B,0,none⟩ (by kernel_rfl) .i64 _ (by omega) (by rw [ha];omega),hz]
 have h5:¬ 49+k=0:=by omega
 simp only [Result.andThen,slicedAt,ha,h2,h3,if_neg h4,Addr.add,Nat.mul_one,Nat.zero_add,if_neg h5]
end
section
open Go.RowKit
attribute [local go_sem ↓] Go.wp_at_zero Go.wp_at_succ
def digs:ByteArray:=⟨#[48,49,50,51,52,53,54,55,56,57,97,98,99,100,101,102,103,104,105,106,107,108,109,110,111,112,113,114,115,116,117,118,119,120,121,122]⟩
def hexD (m:Nat):UInt8:=digs.data.toList.getD (bits BinOp.and IntKind.u64 (m:Int) 15).toNat 0
def hexF:Nat→Nat→List UInt8
 | 0,m=>[hexD m]
 | k+1,m=>if 16≤m then hexF k (m / 16)++[hexD m] else [hexD m]
def hexL (n:Nat):List UInt8:=hexF 15 n
theorem hexF_ge (k m:Nat) (h:16≤m):hexF (k+1) m=hexF k (m / 16)++[hexD m]:=by rw [hexF,if_pos h]
theorem hexF_lt (k m:Nat) (h:m < 16):hexF k m=[hexD m]:=by
 cases k with
 | zero=>rfl
 | succ k=>rw [hexF,if_neg (by omega)]
theorem hexF_len:∀ (k m:Nat),(hexF k m).length≤k+1
 | 0,m=>by simp [hexF]
 | k+1,m=>by
  rw [hexF]
  split
  ·have:=hexF_len k (m / 16);simp;omega
  ·simp
theorem hexL_len (n:Nat):(hexL n).length≤16:=hexF_len 15 n
theorem drop_set (cs:List UInt8) (j:Nat) (x:UInt8) (hj:j < cs.length):(cs.set j x).drop j=x :: cs.drop (j+1):=by
 rw [List.drop_eq_getElem_cons (by simpa using hj),List.drop_set_of_lt (by omega)]
 simp
theorem and15_eq (m:Nat) (h:m < 16):(bits BinOp.and IntKind.u64 (m:Int) 15).toNat=m:=by
 have h3:=bits_and_u64_nat m 15 (by omega) (by omega)
 have h5:((15:Nat):Int)=15:=rfl
 rw [h5] at h3
 rw [h3]
 have h4:m &&& 15=m % 16:=Nat.and_two_pow_sub_one_eq_mod m 4
 omega
def ArC (w:World) (b:Nat) (cs:List UInt8):Prop:=cs.length=65∧w.heap[b]?=some (.cells (cs.map (fun x=>Value.int .u8 (x.toNat:Int))).toArray 400)
theorem ArC.set {w:World} {b:Nat} {cs:List UInt8} (h:ArC w b cs) (j:Nat) (x:UInt8) (hj:j < 65):ArC (w.setCell ⟨b,j,none⟩ (.int .u8 (x.toNat:Int))) b (cs.set j x):=by
 obtain ⟨hl,hb⟩:=h
 refine ⟨by simpa using hl,?_⟩
 rw [heap_setCell_at _ _ _ _ _ _ hb]
 simp [List.map_set]
theorem convC (W:World) (B k:Nat) (cs:List UInt8) (h:ArC W B cs) (hk:k≤15):(convert 111 9 (.slice (some ⟨B,49+k,none⟩) (16 - k) (16 - k))).run Tryz.prog W=.ok (.string (strA (cs.drop (49+k)))) W:=by
 obtain ⟨hl,hb⟩:=h
 have hd:(cs.drop (49+k)).length=16 - k:=by simp;omega
 have:=run_convert_bytes_back (P:=Tryz.prog) W 111 9 5 ⟨B,49+k,none⟩ (16 - k) (cs.drop (49+k)) Tryz.underlying111 Tryz.underlying5 Tryz.underlying9 (fun j hj=>by
  have e:(⟨B,49+k,none⟩:Addr).add j=⟨B,49+k+j,none⟩:=by cases j <;> simp [Addr.add]
  rw [e,blk_cell hb]
  simp [List.getElem?_eq_getElem (show 49+k+j < cs.length by omega)])
 rw [hd] at this
 exact this
theorem gformatBits_any (n:Nat) (hn:n < 18446744073709551616) (w:World) (ht:Tz w) :
 Calls Tryz.prog 299 #[.slice none 0 0,.int .u64 n,.int .i64 16,.bool false,.bool false] w fun e w'=>e=.returned (.tuple #[.slice none 0 0,.string (strA (hexL n))])∧Below w.heap.size w w':=by
 have HT:=hide ht
 clear ht
 go_enter Tryz.func299,Tryz.ntmps299
 go_wp2_with fail
 refine (pow2_any _).mono ?_
 rintro e w1 ⟨rfl,h1⟩
 rw [h1]
 clear h1
 have HT1:Hid (Tz (w.alloc (.cells Tryz.zeroCells400 400))):=HT.out.below ((Below.refl _ _).alloc (Nat.le_refl _) _)
 go_wp2_with fail
 refine (tz_any _ HT1.out).mono ?_
 rintro e w1 ⟨rfl,h1⟩
 rw [h1]
 clear h1
 have HB0:Hid (Below w.heap.size w (w.alloc (.cells Tryz.zeroCells400 400))):=(Below.refl _ _).alloc (Nat.le_refl _) _
 have HA0:Hid (ArC (w.alloc (.cells Tryz.zeroCells400 400)) w.heap.size (List.replicate 65 0)):=⟨rfl,by rw [blk_new];rfl⟩
 generalize w.alloc (.cells Tryz.zeroCells400 400)=w1 at *
 go_wp2
 go_loopw [1,13] (fun u i wr=>∃ k m:Nat,k≤15∧m < 16 ^ (k+1)∧u=.int .u64 (m:Int)∧i=.int .i64 ((50+k:Nat):Int)∧(∃ cs,ArC wr w.heap.size cs∧hexL n=hexF k m++cs.drop (50+k))∧Below w.heap.size w wr) (fun _ i _=>(intOf i).toNat)
 case atStart=>exact ⟨15,n,by omega,hn,rfl,rfl,⟨_,HA0.out,by simp [hexL]⟩,HB0.out⟩
 case round=>
  obtain ⟨k,m,hk,hm,rfl,rfl,hA,hB⟩:=hrel
  obtain ⟨cs,hA,hX⟩:=hA
  have HA:=hide hA
  have HX:=hide hX
  have HB:=hide hB
  clear hA hB hX
  obtain ⟨hcl,hcb⟩:=HA.out
  have HCL:=hide hcl
  obtain ⟨cv,c1⟩:∃ cv:Int,wr.cell? ⟨w.heap.size,49+k,none⟩=some (.int .u8 cv):=by
   rw [blk_cell hcb]
   exact ⟨((cs[49+k]'(by omega)).toNat:Int),by simp [List.getElem?_eq_getElem (show 49+k < cs.length by omega)]⟩
  have f1:wr.frozen? ⟨w.heap.size,49+k,none⟩=false:=blk_frozen hcb _
  clear hcb hcl
  by_cases hge:16≤m
  ·have hge':(16:Int)≤(m:Int):=by omega
   have HM:=hide hm
   obtain ⟨a0,a1⟩:=and15 k m hk hm
   clear hm
   go_wp2
   have hm:=HM.out
   obtain ⟨k',rfl⟩:∃ k',k=k'+1:=by
    cases k with
    | zero=>simp at hm;omega
    | succ k'=>exact ⟨k',rfl⟩
   have hd:m / 16 < 16 ^ (k'+1):=by
    rw [Nat.div_lt_iff_lt_mul (by omega)]
    rw [Nat.pow_succ] at hm
    exact hm
   refine ⟨⟨k',m / 16,by omega,hd,by go_num,by go_num,⟨_,HA.out.set _ _ (by omega),?_⟩,HB.out.setCell (Nat.le_refl _) _⟩,by simp [intOf];omega⟩
   rw [HX.out,hexF_ge k' m hge,show 50+k'=49+(k'+1) by omega,drop_set _ _ _ (by have:=HCL.out;omega),show 49+(k'+1)+1=50+(k'+1) by omega,List.append_assoc]
   congr 1
   show [hexD m]++_=_
   unfold hexD
   rw [ba_getD digs _ (by show _ < 36;omega)]
   rfl
  ·have hge':¬ (16:Int)≤(m:Int):=by omega
   have HM:=hide hm
   clear hm
   have hf:∀ x:UInt8,(convert 111 9 (.slice (some ⟨w.heap.size,49+k,none⟩) (16 - k) (16 - k))).run Tryz.prog (wr.setCell ⟨w.heap.size,49+k,none⟩ (.int .u8 (x.toNat:Int)))=.ok (.string (strA ((cs.set (49+k) x).drop (49+k)))) (wr.setCell ⟨w.heap.size,49+k,none⟩ (.int .u8 (x.toNat:Int))):=
    fun x=>convC _ _ _ _ (HA.out.set (49+k) x (by omega)) hk
   have HF:=hide hf
   have HFIN:Hid (∀ h,(cs.set (49+k) (digs[m]'h)).drop (49+k)=hexL n):=fun h=>by
    rw [HX.out,hexF_lt k m (by omega),drop_set _ _ _ (by have:=HCL.out;omega),show 49+k+1=50+k by omega]
    show _=[hexD m]++_
    unfold hexD
    rw [and15_eq m (by omega),ba_getD digs _ h]
    rfl
   clear hf
   go_wp2_with (first
    | rw [sliceA _ _ _ hk]
    | rw [HF.out _])
   have hm36:m < digs.size:=by show m < 36;omega
   have hfin:=HFIN.out hm36
   refine bodyPost_ret (v:=.tuple #[.slice none 0 0,.string (strA (hexL n))]) (by rw [← hfin];simp [results,Tryz.results299,go_sem];rfl) rfl ?_
   exact ⟨rfl,HB.out.setCell (Nat.le_refl _) _⟩
theorem gformatUintI_any (n:Nat) (hn:n < 18446744073709551616) (w:World) (ht:Tz w) :
 Calls Tryz.prog 278 #[.int .u64 n,.int .i64 16] w fun e w'=>e=.returned (.string (strA (hexL n)))∧Below w.heap.size w w':=by
 have HT:=hide ht
 clear ht
 have HT1:Hid (∀ o,Tz (w.alloc o)):=fun o=>HT.out.below ((Below.refl _ _).alloc (Nat.le_refl _) _)
 go_enter Tryz.func278,Tryz.ntmps278
 go_wp2_with fail
 refine (gformatBits_any n hn _ (by first | exact HT.out | exact HT1.out _)).mono ?_
 rintro e w1 ⟨rfl,hb⟩
 have HB:=hide hb
 clear hb
 go_wp2
 go_ret
 exact ⟨rfl,HB.out⟩
theorem gformatUint_any (n:Nat) (hn:n < 18446744073709551616) (w:World) (ht:Tz w) :
 Calls Tryz.prog 256 #[.int .u64 n,.int .i64 16] w fun e w'=>e=.returned (.string (strA (hexL n)))∧Below w.heap.size w w':=by
 have HT:=hide ht
 clear ht
 go_enter Tryz.func256,Tryz.ntmps256
 go_wp2_with fail
 refine (gformatUintI_any n hn _ HT.out).mono ?_
 rintro e w1 ⟨rfl,hb⟩
 have HB:=hide hb
 clear hb
 go_wp2
 go_ret
 exact ⟨rfl,HB.out⟩
end
end Go.Proofs.YtenahlandohgaaaGreatDoor
