import Derived.Test.YtenahlandohgaaaGreatDoorZEJoin
namespace Go.Proofs.YtenahlandohgaaaGreatDoor
set_option linter.unusedVariables false
set_option linter.unusedSimpArgs false
set_option maxRecDepth 100000
set_option maxHeartbeats 4000000
section
open Go.RowKit
attribute [local go_sem ↓] Go.wp_at_zero Go.wp_at_succ
theorem u64_nat (z:Int):∃ m:Nat,m < 18446744073709551616∧IntKind.u64.wrap z=(m:Int):=by
 rw [IntKind.wrap_u64]
 have h0:=Int.emod_nonneg z (show (18446744073709551616:Int)≠0 by decide)
 have h1:=Int.emod_lt_of_pos z (show (0:Int) < 18446744073709551616 by decide)
 exact ⟨(z % 18446744073709551616).toNat,by omega,by omega⟩
end
section
open Go.RowKit
attribute [local go_sem ↓] Go.wp_at_zero Go.wp_at_succ
def sumZ (n:Nat) (c:UInt8):Int:=IntKind.u64.wrap (bits BinOp.xor IntKind.u64 (n:Int) (IntKind.u64.wrap (c.toNat:Int))*1099511628211)
def sumB (n:Nat) (c:UInt8):Nat:=(sumZ n c).toNat
def sumP1 (n:Nat) (p:List UInt8):Nat:=p.foldl sumB n
def fnvL (ps:List (List UInt8)):Nat:=ps.foldl sumP1 14695981039346656037
theorem sumZ_bd (n:Nat) (c:UInt8):0≤sumZ n c∧sumZ n c < 18446744073709551616:=by
 obtain ⟨k,hk,e⟩:=u64_nat (bits BinOp.xor IntKind.u64 (n:Int) (IntKind.u64.wrap (c.toNat:Int))*1099511628211)
 unfold sumZ
 rw [e]
 omega
theorem sumB_int (n:Nat) (c:UInt8):sumZ n c=(((sumZ n c).toNat:Nat):Int):=by
 have:=sumZ_bd n c
 omega
theorem sumB_lt (n:Nat) (c:UInt8):sumB n c < 18446744073709551616:=by
 have:=sumZ_bd n c
 unfold sumB
 omega
theorem sumG_lt:∀ (p:List UInt8) (n:Nat),n < 18446744073709551616→p.foldl sumB n < 18446744073709551616
 | [],n,h=>h
 | c :: r,n,h=>sumG_lt r _ (sumB_lt n c)
theorem sumF_lt:∀ (ps:List (List UInt8)) (n:Nat),n < 18446744073709551616→ps.foldl sumP1 n < 18446744073709551616
 | [],n,h=>h
 | p :: r,n,h=>sumF_lt r _ (sumG_lt p n h)
theorem fnvL_lt (ps:List (List UInt8)):fnvL ps < 18446744073709551616:=sumF_lt ps _ (by decide)
theorem gsum_any (ps:List (List UInt8)) (lv:Value) (w:World) (hl:SlT w lv ps) (hs:∀ p∈ps,p.length≤200000000) (hn:ps.length≤1000) :
 Calls Tryz.prog 257 #[lv] w fun e w'=>e=.returned (.int .u64 ((fnvL ps:Nat):Int))∧w'=w:=by
 obtain ⟨la,lc,hll⟩:=hl.len
 subst hll
 have HL:=hide hl
 have HS:=hide hs
 clear hl hs
 obtain ⟨b0,hb0⟩:∃ b0:Nat,b0=14695981039346656037:=⟨_,rfl⟩
 have HB0:Hid ((14695981039346656037:Int)=(b0:Int)∧b0 < 18446744073709551616∧fnvL ps=ps.foldl sumP1 b0):=⟨by rw [hb0];rfl,by rw [hb0];decide,by rw [hb0];rfl⟩
 clear hb0
 go_enter Tryz.func257,Tryz.ntmps257
 go_wp2
 go_loop [3,5,6,9] (fun s _ _ i=>∃ k:Nat,k≤ps.length∧i=.int .i64 k∧s=.int .u64 (((ps.take k).foldl sumP1 b0:Nat):Int)) (fun _ _ _ i=>ps.length - (intOf i).toNat)
 case atStart=>exact ⟨0,by omega,rfl,by rw [List.take_zero,HB0.out.1];rfl⟩
 case round=>
  obtain ⟨k,hk,rfl,hs0⟩:=hrel
  obtain ⟨n,hnn⟩:∃ n,n=(ps.take k).foldl sumP1 b0:=⟨_,rfl⟩
  rw [← hnn] at hs0
  subst hs0
  have HNN:=hide hnn
  have hn2:n < 18446744073709551616:=by rw [hnn];exact sumF_lt _ _ HB0.out.2.1
  clear hnn
  by_cases hlt:k < ps.length
  rotate_left
  ·have hz:¬ (k:Int) < (ps.length:Int):=by omega
   go_wp2
   go_ret
   have h:=HNN.out
   rw [List.take_of_length_le (by omega)] at h
   exact ⟨by rw [h,HB0.out.2.2];rfl,rfl⟩
  have hlt':(k:Int) < (ps.length:Int):=by omega
  obtain ⟨g,hla,hgl,hc⟩:=slt_get HL.out k hlt
  subst hla
  have hpl:=HS.out ps[k] (List.getElem_mem hlt)
  have HTK:Hid ((ps.take (k+1)).foldl sumP1 b0=sumP1 n ps[k]):=by show _=_;rw [List.take_succ_eq_append_getElem hlt,List.foldl_append,← HNN.out,List.foldl_cons,List.foldl_nil]
  generalize ps[k]=p at *
  have hzp:=strA_size p
  have hn3:(n:Int) < 18446744073709551616:=by omega
  go_wp2
  go_loop [3,6,15] (fun s _ i=>∃ j:Nat,j≤p.length∧i=.int .i64 j∧s=.int .u64 (((p.take j).foldl sumB n:Nat):Int)) (fun _ _ i=>p.length - (intOf i).toNat)
  case atStart=>exact ⟨0,by omega,rfl,by rw [List.take_zero];rfl⟩
  case round=>
   obtain ⟨j,hj,rfl,hs1⟩:=hrel
   obtain ⟨m,hmm⟩:∃ m,m=(p.take j).foldl sumB n:=⟨_,rfl⟩
   rw [← hmm] at hs1
   subst hs1
   have HMM:=hide hmm
   have hm2:m < 18446744073709551616:=by rw [hmm];exact sumG_lt _ _ hn2
   clear hmm
   by_cases hjt:j < p.length
   rotate_left
   ·have hz:¬ (j:Int) < (p.length:Int):=by omega
    go_wp2
    have h:=HMM.out
    rw [List.take_of_length_le (by omega)] at h
    exact ⟨⟨k+1,by omega,by go_num,by rw [HTK.out,h];rfl⟩,by simp [intOf];omega⟩
   have hjt':j < (strA p).size:=by omega
   go_wp2
   have hstep:(p.take (j+1)).foldl sumB n=sumB m p[j]:=by
    rw [List.take_succ_eq_append_getElem hjt,List.foldl_append,← HMM.out,List.foldl_cons,List.foldl_nil]
    exact congrArg (sumB m) rfl
   refine ⟨⟨j+1,by omega,by go_num,?_⟩,by simp [intOf];omega⟩
   have hcj:(strA p)[j]=p[j]:=rfl
   rw [hstep,hcj]
   exact congrArg (Value.int IntKind.u64) (sumB_int m p[j])
end
end Go.Proofs.YtenahlandohgaaaGreatDoor
