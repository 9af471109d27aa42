import Derived.Test.YthkibedbcbgajaaGreatDoorEJoin
namespace Go.Proofs.YthkibedbcbgajaaGreatDoor
set_option linter.unusedVariables false
set_option linter.unusedSimpArgs false
set_option maxRecDepth 100000
set_option maxHeartbeats 4000000
open Go.RowKit
attribute [local go_sem ↓] Go.wp_at_zero Go.wp_at_succ
theorem u64_nat (z:Int):∃ m:Nat,m < 18446744073709551616∧IntKind.u64.wrap z=(m:Int):=by
 rw [IntKind.wrap_u64]
 have h0:=Int.emod_nonneg z (show (18446744073709551616:Int)≠0 by decide)
 have h1:=Int.emod_lt_of_pos z (show (0:Int) < 18446744073709551616 by decide)
 exact ⟨(z % 18446744073709551616).toNat,by omega,by omega⟩
theorem sum_any (ps:List (List UInt8)) (lv:Value) (w:World) (hl:SlT w lv ps) (hs:∀ p∈ps,p.length≤200000000) (hn:ps.length≤1000) :
 Calls Tryz.prog 197 #[lv] w fun e w'=>(∃ n:Nat,n < 18446744073709551616∧e=.returned (.int .u64 (n:Int)))∧w'=w:=by
 obtain ⟨la,lc,hll⟩:=hl.len
 subst hll
 have HL:=hide hl
 have HS:=hide hs
 clear hl hs
 go_enter Tryz.func197,Tryz.ntmps197
 go_wp2
 go_loop [3,5,6,9] (fun s _ _ i=>∃ k n:Nat,k≤ps.length∧i=.int .i64 k∧n < 18446744073709551616∧s=.int .u64 (n:Int)) (fun _ _ _ i=>ps.length - (intOf i).toNat)
 case atStart=>exact ⟨0,14695981039346656037,by omega,rfl,by decide,rfl⟩
 case round=>
  obtain ⟨k,n,hk,rfl,hn2,rfl⟩:=hrel
  by_cases hlt:k < ps.length
  rotate_left
  ·have hz:¬ (k:Int) < (ps.length:Int):=by omega
   go_wp2
   go_ret
   exact ⟨⟨n,hn2,rfl⟩,rfl⟩
  have hlt':(k:Int) < (ps.length:Int):=by omega
  obtain ⟨g,hla,hgl,hc⟩:=slt_get HL.out k hlt
  subst hla
  have hpl:=HS.out ps[k] (List.getElem_mem hlt)
  generalize ps[k]=p at *
  have hzp:=strA_size p
  have hn3:(n:Int) < 18446744073709551616:=by omega
  go_wp2
  go_loop [3,6,15] (fun s _ i=>∃ j m:Nat,j≤p.length∧i=.int .i64 j∧m < 18446744073709551616∧s=.int .u64 (m:Int)) (fun _ _ i=>p.length - (intOf i).toNat)
  case atStart=>exact ⟨0,n,by omega,rfl,hn2,rfl⟩
  case round=>
   obtain ⟨j,m,hj,rfl,hm2,rfl⟩:=hrel
   by_cases hjt:j < p.length
   rotate_left
   ·have hz:¬ (j:Int) < (p.length:Int):=by omega
    go_wp2
    exact ⟨⟨k+1,m,by omega,by go_num,hm2,rfl⟩,by simp [intOf];omega⟩
   have hjt':j < (strA p).size:=by omega
   go_wp2
   obtain ⟨mm,hmm1,hmm2⟩:=u64_nat (bits BinOp.xor IntKind.u64 (m:Int) (IntKind.u64.wrap ((strA p)[j].toNat:Int))*1099511628211)
   exact ⟨⟨j+1,mm,by omega,by go_num,hmm1,by rw [hmm2]⟩,by simp [intOf];omega⟩
end Go.Proofs.YthkibedbcbgajaaGreatDoor
