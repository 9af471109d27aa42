import Derived.Laws.AppendOwn
import Derived.Maps.AppendAt
import Derived.Test.YtbiclelojbfnbabGreatDoorZPlainSpace2
import Derived.Test.YtbiclelojbfnbabGreatDoorZWTab
namespace Go.Proofs.YtbiclelojbfnbabGreatDoor
set_option linter.unusedVariables false
set_option linter.unusedSimpArgs false
set_option maxRecDepth 100000
set_option maxHeartbeats 4000000
open Go.RowKit
def Qci (ps:List (Nat×UInt8)):List Value:=ps.flatMap fun p=>[.int .i64 p.1,.int .u8 p.2.toNat]
theorem QdB (ps:List (Nat×UInt8)) (p:Nat×UInt8):Qci ps++[.int .i64 p.1,.int .u8 p.2.toNat]=Qci (ps++[p]):=by simp [Qci]
theorem Tryz.infoPiece:(Tryz.prog.info? 350).map (fun i=>(i.zero,i.size,i.bytes))=some (some (.agg #[.int .i64 0,.int .u8 0]),2,16):=by kernel_rfl
theorem Qhn (s:ByteArray) (k:Nat) (h:k < s.size):piecesL (s.data.toList.drop k) =
 if s[k]=42 then (2,0) :: piecesL (s.data.toList.drop (k+1)) else if s[k]=63 then (1,0) :: piecesL (s.data.toList.drop (k+1))
 else if h:s[k]=92∧k+1 < s.size then (0,s[k+1]) :: piecesL (s.data.toList.drop (k+2)) else (0,s[k]) :: piecesL (s.data.toList.drop (k+1)):=by
 rw [Qbm s k h]
 by_cases h2:k+1 < s.size
 ·rw [Qbm s (k+1) h2,piecesL]
  by_cases a1:s[k]=42
  ·simp [a1]
  by_cases a2:s[k]=63
  ·simp [a1,a2]
  by_cases a3:s[k]=92
  ·simp [a1,a2,a3,h2]
  ·simp [a1,a2,a3,h2]
 ·rw [List.drop_of_length_le (by simpa using h2)]
  simp only [piecesL]
  rw [dif_neg (by omega)]
  split
  ·rfl
  ·split <;> rfl
theorem Qhm (w:World) (x y:Value) (t:TypeId):∀ j u,[x,y][j]?=some u→(w.alloc (.cells #[x,y] t)).cell? ((⟨w.heap.size,0,none⟩:Addr).add j)=some u:=by
 intro j u hj
 match j,hj with
 | 0,hj=>simp at hj;subst hj;simp [Addr.add]
 | 1,hj=>simp at hj;subst hj;simp [Addr.add]
theorem QhG (a b:Int):∀ u∈[Value.int .i64 a,Value.int .u8 b],u.oneCell'=true:=by
 intro u hu
 simp at hu
 rcases hu with rfl | rfl <;> rfl
theorem QbE {B:Nat} {u w w':World} {o:Obj} {row:Option Nat} (h:Below B u w) (hB:B≤w.heap.size) (hg:(w.alloc o).grownBy w' row) (hr:∀ k,row=some k→B≤k):Below B u w':=by
 have ha:=h.alloc hB o
 exact ⟨hg.os.trans ha.os,hg.tape.trans ha.tape,hg.output.trans ha.output,Nat.le_trans ha.size hg.size,fun k hk=>by
  rw [hg.block k (by simp;omega) (fun e=>by have:=hr k e.symm;omega)]
  exact ha.block k hk⟩
theorem Qha (c d:UInt8):((c.toNat:Int) == (d.toNat:Int))=decide (c=d):=by
 by_cases h:c=d
 ·subst h;simp
 ·rw [decide_eq_false h]
  simp
  intro e
  exact h (UInt8.toNat_inj.1 (by omega))
theorem Qhp (s:ByteArray) (w:World) (hs:s.size≤4294967280) :
 Calls Tryz.prog 223 #[.string s] w fun e w'=>∃ v,e=.returned v∧w'.ownsRow w.heap.size 350 2 v (piecesL s.data.toList).length (Qci (piecesL s.data.toList))∧Below w.heap.size w w':=by
 obtain ⟨i0,hi,hz0,hz1,hz2⟩:=info_parts Tryz.infoPiece
 go_enter Tryz.func223,Tryz.ntmps223
 go_wp2_with fail
 go_loopw [3,4] (fun l i wr=>∃ (k:Nat) (acc:List (Nat×UInt8)),k≤s.size∧i=.int .i64 k∧wr.ownsRow w.heap.size 350 2 l acc.length (Qci acc)∧Below w.heap.size w wr∧acc.length≤k∧piecesL s.data.toList=acc++piecesL (s.data.toList.drop k)) (fun _ i _=>s.size - (intOf i).toNat)
 case atStart=>exact ⟨0,[],by omega,rfl,World.ownsRow_nil _ _ _ _,Below.refl _ _,Nat.le_refl _,rfl⟩
 case round=>
  obtain ⟨k,acc,hk,rfl,hown,hB,hal,hsp⟩:=hrel
  have HSP:=Qaa hsp
  have HB:=Qaa hB
  have hwr:w.heap.size≤wr.heap.size:=hB.size
  clear hsp hB
  by_cases hlt:k < s.size
  rotate_left
  ·have hke:k=s.size:=by omega
   subst hke
   have HD:Hid (piecesL (s.data.toList.drop s.size)=[]):=by show _=_;rw [List.drop_of_length_le (by simp)];rfl
   go_wp2
   go_ret
   refine ⟨_,rfl,?_,HB.out⟩
   rw [HSP.out,HD.out,List.append_nil]
   exact hown
  have HPL:=Qaa (Qhn s k hlt)
  have HOW:=Qaa hown
  have hub:=UInt8.toNat_lt s[k]
  have e42:((s[k].toNat:Int) == 42)=decide (s[k]=42):=Qha s[k] 42
  have e63:((s[k].toNat:Int) == 63)=decide (s[k]=63):=Qha s[k] 63
  have e92:((s[k].toNat:Int) == 92)=decide (s[k]=92):=Qha s[k] 92
  by_cases a1:s[k]=42
  ·rw [decide_eq_true a1] at e42
   have HP:Hid (piecesL (s.data.toList.drop k)=(2,0) :: piecesL (s.data.toList.drop (k+1))):=by show _=_;rw [HPL.out,if_pos a1]
   clear HPL a1 e63 e92
   go_wp2_with (at_builtin;refine wpList_append_own _ rfl _ _ 328 rfl w.heap.size 350 i0 _ 2 16 Tryz.underlying328 hi hz0 hz1 hz2 rfl (by decide) _ _ _ rfl (HOW.out.alloc _) ⟨wr.heap.size,0,none⟩ 1 1 [.int .i64 2,.int .u8 0] rfl rfl (Qhm _ _ _ _) (QhG _ _) ?c3 ?c4 ?c5 ?_)
   case c3=>unfold maxLen;omega
   case c4=>omega
   case c5=>first | (simp;omega) | omega
   intro v' w5 hown5 hgrow _
   have HB5:=Qaa (QbE HB.out hwr hgrow (fun k hk=>(HOW.out.lt k hk).1))
   rw [show Qci acc++[.int .i64 2,.int .u8 0]=Qci (acc++[(2,0)]) from QdB acc (2,0)] at hown5
   have HO5:=Qaa hown5
   clear hown5 hgrow
   go_wp2
   go_roundw
   case rel=>exact ⟨k+1,acc++[(2,0)],by omega,by go_num,by simpa using HO5.out,HB5.out,by simp;omega,by rw [HSP.out,HP.out];simp⟩
   case measure=>simp [intOf];omega
  rw [decide_eq_false a1] at e42
  by_cases a2:s[k]=63
  ·rw [decide_eq_true a2] at e63
   have HP:Hid (piecesL (s.data.toList.drop k)=(1,0) :: piecesL (s.data.toList.drop (k+1))):=by show _=_;rw [HPL.out,if_neg a1,if_pos a2]
   clear HPL a1 a2 e92
   go_wp2_with (at_builtin;refine wpList_append_own _ rfl _ _ 328 rfl w.heap.size 350 i0 _ 2 16 Tryz.underlying328 hi hz0 hz1 hz2 rfl (by decide) _ _ _ rfl (HOW.out.alloc _) ⟨wr.heap.size,0,none⟩ 1 1 [.int .i64 1,.int .u8 0] rfl rfl (Qhm _ _ _ _) (QhG _ _) ?c3 ?c4 ?c5 ?_)
   case c3=>unfold maxLen;omega
   case c4=>omega
   case c5=>first | (simp;omega) | omega
   intro v' w5 hown5 hgrow _
   have HB5:=Qaa (QbE HB.out hwr hgrow (fun k hk=>(HOW.out.lt k hk).1))
   rw [show Qci acc++[.int .i64 1,.int .u8 0]=Qci (acc++[(1,0)]) from QdB acc (1,0)] at hown5
   have HO5:=Qaa hown5
   clear hown5 hgrow
   go_wp2
   go_roundw
   case rel=>exact ⟨k+1,acc++[(1,0)],by omega,by go_num,by simpa using HO5.out,HB5.out,by simp;omega,by rw [HSP.out,HP.out];simp⟩
   case measure=>simp [intOf];omega
  rw [decide_eq_false a2] at e63
  by_cases a3:s[k]=92∧k+1 < s.size
  ·rw [decide_eq_true a3.1] at e92
   have h2:=a3.2
   have hk2:((k:Int)+1 < (s.size:Int)):=by omega
   have HP:Hid (piecesL (s.data.toList.drop k)=(0,s[k+1]) :: piecesL (s.data.toList.drop (k+2))):=by show _=_;rw [HPL.out,if_neg a1,if_neg a2,dif_pos a3]
   clear HPL a1 a2 a3
   go_wp2_with (at_builtin;refine wpList_append_own _ rfl _ _ 328 rfl w.heap.size 350 i0 _ 2 16 Tryz.underlying328 hi hz0 hz1 hz2 rfl (by decide) _ _ _ rfl (HOW.out.alloc _) ⟨wr.heap.size,0,none⟩ 1 1 [.int .i64 0,.int .u8 s[k+1].toNat] rfl rfl (Qhm _ _ _ _) (QhG _ _) ?c3 ?c4 ?c5 ?_)
   case c3=>unfold maxLen;omega
   case c4=>omega
   case c5=>first | (simp;omega) | omega
   intro v' w5 hown5 hgrow _
   have HB5:=Qaa (QbE HB.out hwr hgrow (fun k hk=>(HOW.out.lt k hk).1))
   rw [show Qci acc++[.int .i64 0,.int .u8 s[k+1].toNat]=Qci (acc++[(0,s[k+1])]) from QdB acc (0,s[k+1])] at hown5
   have HO5:=Qaa hown5
   clear hown5 hgrow
   go_wp2
   go_roundw
   case rel=>exact ⟨k+2,acc++[(0,s[k+1])],by omega,by go_num,by simpa using HO5.out,HB5.out,by simp;omega,by rw [HSP.out,HP.out];simp⟩
   case measure=>simp [intOf];omega
  have HP:Hid (piecesL (s.data.toList.drop k)=(0,s[k]) :: piecesL (s.data.toList.drop (k+1))):=by show _=_;rw [HPL.out,if_neg a1,if_neg a2,dif_neg a3]
  clear HPL
  by_cases a4:s[k]=92
  ·have h2:¬ k+1 < s.size:=fun h=>a3 ⟨a4,h⟩
   have hk2:¬ ((k:Int)+1 < (s.size:Int)):=by omega
   rw [decide_eq_true a4] at e92
   clear a1 a2 a3 a4
   go_wp2_with (at_builtin;refine wpList_append_own _ rfl _ _ 328 rfl w.heap.size 350 i0 _ 2 16 Tryz.underlying328 hi hz0 hz1 hz2 rfl (by decide) _ _ _ rfl (HOW.out.alloc _) ⟨wr.heap.size,0,none⟩ 1 1 [.int .i64 0,.int .u8 s[k].toNat] rfl rfl (Qhm _ _ _ _) (QhG _ _) ?c3 ?c4 ?c5 ?_)
   case c3=>unfold maxLen;omega
   case c4=>omega
   case c5=>first | (simp;omega) | omega
   intro v' w5 hown5 hgrow _
   have HB5:=Qaa (QbE HB.out hwr hgrow (fun k hk=>(HOW.out.lt k hk).1))
   rw [show Qci acc++[.int .i64 0,.int .u8 s[k].toNat]=Qci (acc++[(0,s[k])]) from QdB acc (0,s[k])] at hown5
   have HO5:=Qaa hown5
   clear hown5 hgrow
   go_wp2
   go_roundw
   case rel=>exact ⟨k+1,acc++[(0,s[k])],by omega,by go_num,by simpa using HO5.out,HB5.out,by simp;omega,by rw [HSP.out,HP.out];simp⟩
   case measure=>simp [intOf];omega
  ·rw [decide_eq_false a4] at e92
   clear a1 a2 a3 a4
   go_wp2_with (at_builtin;refine wpList_append_own _ rfl _ _ 328 rfl w.heap.size 350 i0 _ 2 16 Tryz.underlying328 hi hz0 hz1 hz2 rfl (by decide) _ _ _ rfl (HOW.out.alloc _) ⟨wr.heap.size,0,none⟩ 1 1 [.int .i64 0,.int .u8 s[k].toNat] rfl rfl (Qhm _ _ _ _) (QhG _ _) ?c3 ?c4 ?c5 ?_)
   case c3=>unfold maxLen;omega
   case c4=>omega
   case c5=>first | (simp;omega) | omega
   intro v' w5 hown5 hgrow _
   have HB5:=Qaa (QbE HB.out hwr hgrow (fun k hk=>(HOW.out.lt k hk).1))
   rw [show Qci acc++[.int .i64 0,.int .u8 s[k].toNat]=Qci (acc++[(0,s[k])]) from QdB acc (0,s[k])] at hown5
   have HO5:=Qaa hown5
   clear hown5 hgrow
   go_wp2
   go_roundw
   case rel=>exact ⟨k+1,acc++[(0,s[k])],by omega,by go_num,by simpa using HO5.out,HB5.out,by simp;omega,by rw [HSP.out,HP.out];simp⟩
   case measure=>simp [intOf];omega
end Go.Proofs.YtbiclelojbfnbabGreatDoor
