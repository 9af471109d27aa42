import Derived.Laws.AppendOwn
import Derived.Maps.AppendAt
import Derived.Deep.RegionWith
import Derived.Deep.RegionHeld3
import Derived.Deep.DrawnRows
import Derived.Laws.MakeOwn
import Derived.Deep.RegionLaw
import Derived.Deep.AppendLies
import Derived.Test.YtbiclelojbfnbaaGreatDoorZNext
import Derived.Test.YtbiclelojbfnbaaGreatDoorZPlainGlob2
import Derived.Test.YtbiclelojbfnbaaGreatDoorZSText2
namespace Go.Proofs.YtbiclelojbfnbaaGreatDoor
set_option linter.unusedVariables false
set_option linter.unusedSimpArgs false
set_option maxRecDepth 100000
set_option maxHeartbeats 4000000
section
open Go.RowKit
def Qcz (ps:List (Nat×UInt8)):List Value:=ps.flatMap fun p=>[.int .i64 p.1,.int .u8 p.2.toNat]
theorem QdP (ps:List (Nat×UInt8)) (p:Nat×UInt8):Qcz ps++[.int .i64 p.1,.int .u8 p.2.toNat]=Qcz (ps++[p]):=by simp [Qcz]
theorem Tryz.infoPiece:(Tryz.prog.info? 460).map (fun i=>(i.zero,i.size,i.bytes))=some (some (.agg #[.int .i64 0,.int .u8 0]),2,16):=by kernel_rfl
theorem Qih (s:ByteArray) (k:Nat) (h:k < s.size):piecesL (s.data.toList.drop k) =
 if s[k]=42 then (2,0) :: piecesL (s.data.toList.drop (k+1)) else if s[k]=63 then (1,0) :: piecesL (s.data.toList.drop (k+1))
 else if h:s[k]=92∧k+1 < s.size then (0,s[k+1]) :: piecesL (s.data.toList.drop (k+2)) else (0,s[k]) :: piecesL (s.data.toList.drop (k+1)):=by
 rw [Qbv s k h]
 by_cases h2:k+1 < s.size
 ·rw [Qbv s (k+1) h2,piecesL]
  by_cases a1:s[k]=42
  ·simp [a1]
  by_cases a2:s[k]=63
  ·simp [a1,a2]
  by_cases a3:s[k]=92
  ·simp [a1,a2,a3,h2]
  ·simp [a1,a2,a3,h2]
 ·rw [List.drop_of_length_le (by simpa using h2)]
  simp only [piecesL]
  rw [dif_neg (by omega)]
  split
  ·rfl
  ·split <;> rfl
theorem Qh4 (w:World) (x y:Value) (t:TypeId):∀ j u,[x,y][j]?=some u→(w.alloc (.cells #[x,y] t)).cell? ((⟨w.heap.size,0,none⟩:Addr).add j)=some u:=by
 intro j u hj
 match j,hj with
 | 0,hj=>simp at hj;subst hj;simp [Addr.add]
 | 1,hj=>simp at hj;subst hj;simp [Addr.add]
theorem QiS (a b:Int):∀ u∈[Value.int .i64 a,Value.int .u8 b],u.oneCell'=true:=by
 intro u hu
 simp at hu
 rcases hu with rfl | rfl <;> rfl
theorem QbQ {B:Nat} {u w w':World} {o:Obj} {row:Option Nat} (h:Below B u w) (hB:B≤w.heap.size) (hg:(w.alloc o).grownBy w' row) (hr:∀ k,row=some k→B≤k):Below B u w':=by
 have ha:=h.alloc hB o
 exact ⟨hg.os.trans ha.os,hg.tape.trans ha.tape,hg.output.trans ha.output,Nat.le_trans ha.size hg.size,fun k hk=>by
  rw [hg.block k (by simp;omega) (fun e=>by have:=hr k e.symm;omega)]
  exact ha.block k hk⟩
theorem QhR (c d:UInt8):((c.toNat:Int) == (d.toNat:Int))=decide (c=d):=by
 by_cases h:c=d
 ·subst h;simp
 ·rw [decide_eq_false h]
  simp
  intro e
  exact h (UInt8.toNat_inj.1 (by omega))
theorem QiC (s:ByteArray) (w:World) (hs:s.size≤4294967280) :
 Calls Tryz.prog 326 #[.string s] w fun e w'=>∃ v,e=.returned v∧w'.ownsRow w.heap.size 460 2 v (piecesL s.data.toList).length (Qcz (piecesL s.data.toList))∧Below w.heap.size w w':=by
 obtain ⟨i0,hi,hz0,hz1,hz2⟩:=info_parts Tryz.infoPiece
 go_enter Tryz.func326,Tryz.ntmps326
 go_wp2_with fail
 go_loopw [3,4] (fun l i wr=>∃ (k:Nat) (acc:List (Nat×UInt8)),k≤s.size∧i=.int .i64 k∧wr.ownsRow w.heap.size 460 2 l acc.length (Qcz acc)∧Below w.heap.size w wr∧acc.length≤k∧piecesL s.data.toList=acc++piecesL (s.data.toList.drop k)) (fun _ i _=>s.size - (intOf i).toNat)
 case atStart=>exact ⟨0,[],by omega,rfl,World.ownsRow_nil _ _ _ _,Below.refl _ _,Nat.le_refl _,rfl⟩
 case round=>
  obtain ⟨k,acc,hk,rfl,hown,hB,hal,hsp⟩:=hrel
  have HSP:=Qab hsp
  have HB:=Qab hB
  have hwr:w.heap.size≤wr.heap.size:=hB.size
  clear hsp hB
  by_cases hlt:k < s.size
  rotate_left
  ·have hke:k=s.size:=by omega
   subst hke
   have HD:Hid (piecesL (s.data.toList.drop s.size)=[]):=by show _=_;rw [List.drop_of_length_le (by simp)];rfl
   go_wp2
   go_ret
   refine ⟨_,rfl,?_,HB.out⟩
   rw [HSP.out,HD.out,List.append_nil]
   exact hown
  have HPL:=Qab (Qih s k hlt)
  have HOW:=Qab hown
  have hub:=UInt8.toNat_lt s[k]
  have e42:((s[k].toNat:Int) == 42)=decide (s[k]=42):=QhR s[k] 42
  have e63:((s[k].toNat:Int) == 63)=decide (s[k]=63):=QhR s[k] 63
  have e92:((s[k].toNat:Int) == 92)=decide (s[k]=92):=QhR s[k] 92
  by_cases a1:s[k]=42
  ·rw [decide_eq_true a1] at e42
   have HP:Hid (piecesL (s.data.toList.drop k)=(2,0) :: piecesL (s.data.toList.drop (k+1))):=by show _=_;rw [HPL.out,if_pos a1]
   clear HPL a1 e63 e92
   go_wp2_with (at_builtin;refine wpList_append_own _ rfl _ _ 433 rfl w.heap.size 460 i0 _ 2 16 Tryz.underlying433 hi hz0 hz1 hz2 rfl (by decide) _ _ _ rfl (HOW.out.alloc _) ⟨wr.heap.size,0,none⟩ 1 1 [.int .i64 2,.int .u8 0] rfl rfl (Qh4 _ _ _ _) (QiS _ _) ?c3 ?c4 ?c5 ?_)
   case c3=>unfold maxLen;omega
   case c4=>omega
   case c5=>first | (simp;omega) | omega
   intro v' w5 hown5 hgrow _
   have HB5:=Qab (QbQ HB.out hwr hgrow (fun k hk=>(HOW.out.lt k hk).1))
   rw [show Qcz acc++[.int .i64 2,.int .u8 0]=Qcz (acc++[(2,0)]) from QdP acc (2,0)] at hown5
   have HO5:=Qab hown5
   clear hown5 hgrow
   go_wp2
   go_roundw
   case rel=>exact ⟨k+1,acc++[(2,0)],by omega,by go_num,by simpa using HO5.out,HB5.out,by simp;omega,by rw [HSP.out,HP.out];simp⟩
   case measure=>simp [intOf];omega
  rw [decide_eq_false a1] at e42
  by_cases a2:s[k]=63
  ·rw [decide_eq_true a2] at e63
   have HP:Hid (piecesL (s.data.toList.drop k)=(1,0) :: piecesL (s.data.toList.drop (k+1))):=by show _=_;rw [HPL.out,if_neg a1,if_pos a2]
   clear HPL a1 a2 e92
   go_wp2_with (at_builtin;refine wpList_append_own _ rfl _ _ 433 rfl w.heap.size 460 i0 _ 2 16 Tryz.underlying433 hi hz0 hz1 hz2 rfl (by decide) _ _ _ rfl (HOW.out.alloc _) ⟨wr.heap.size,0,none⟩ 1 1 [.int .i64 1,.int .u8 0] rfl rfl (Qh4 _ _ _ _) (QiS _ _) ?c3 ?c4 ?c5 ?_)
   case c3=>unfold maxLen;omega
   case c4=>omega
   case c5=>first | (simp;omega) | omega
   intro v' w5 hown5 hgrow _
   have HB5:=Qab (QbQ HB.out hwr hgrow (fun k hk=>(HOW.out.lt k hk).1))
   rw [show Qcz acc++[.int .i64 1,.int .u8 0]=Qcz (acc++[(1,0)]) from QdP acc (1,0)] at hown5
   have HO5:=Qab hown5
   clear hown5 hgrow
   go_wp2
   go_roundw
   case rel=>exact ⟨k+1,acc++[(1,0)],by omega,by go_num,by simpa using HO5.out,HB5.out,by simp;omega,by rw [HSP.out,HP.out];simp⟩
   case measure=>simp [intOf];omega
  rw [decide_eq_false a2] at e63
  by_cases a3:s[k]=92∧k+1 < s.size
  ·rw [decide_eq_true a3.1] at e92
   have h2:=a3.2
   have hk2:((k:Int)+1 < (s.size:Int)):=by omega
   have HP:Hid (piecesL (s.data.toList.drop k)=(0,s[k+1]) :: piecesL (s.data.toList.drop (k+2))):=by show _=_;rw [HPL.out,if_neg a1,if_neg a2,dif_pos a3]
   clear HPL a1 a2 a3
   go_wp2_with (at_builtin;refine wpList_append_own _ rfl _ _ 433 rfl w.heap.size 460 i0 _ 2 16 Tryz.underlying433 hi hz0 hz1 hz2 rfl (by decide) _ _ _ rfl (HOW.out.alloc _) ⟨wr.heap.size,0,none⟩ 1 1 [.int .i64 0,.int .u8 s[k+1].toNat] rfl rfl (Qh4 _ _ _ _) (QiS _ _) ?c3 ?c4 ?c5 ?_)
   case c3=>unfold maxLen;omega
   case c4=>omega
   case c5=>first | (simp;omega) | omega
   intro v' w5 hown5 hgrow _
   have HB5:=Qab (QbQ HB.out hwr hgrow (fun k hk=>(HOW.out.lt k hk).1))
   rw [show Qcz acc++[.int .i64 0,.int .u8 s[k+1].toNat]=Qcz (acc++[(0,s[k+1])]) from QdP acc (0,s[k+1])] at hown5
   have HO5:=Qab hown5
   clear hown5 hgrow
   go_wp2
   go_roundw
   case rel=>exact ⟨k+2,acc++[(0,s[k+1])],by omega,by go_num,by simpa using HO5.out,HB5.out,by simp;omega,by rw [HSP.out,HP.out];simp⟩
   case measure=>simp [intOf];omega
  have HP:Hid (piecesL (s.data.toList.drop k)=(0,s[k]) :: piecesL (s.data.toList.drop (k+1))):=by show _=_;rw [HPL.out,if_neg a1,if_neg a2,dif_neg a3]
  clear HPL
  by_cases a4:s[k]=92
  ·have h2:¬ k+1 < s.size:=fun h=>a3 ⟨a4,h⟩
   have hk2:¬ ((k:Int)+1 < (s.size:Int)):=by omega
   rw [decide_eq_true a4] at e92
   clear a1 a2 a3 a4
   go_wp2_with (at_builtin;refine wpList_append_own _ rfl _ _ 433 rfl w.heap.size 460 i0 _ 2 16 Tryz.underlying433 hi hz0 hz1 hz2 rfl (by decide) _ _ _ rfl (HOW.out.alloc _) ⟨wr.heap.size,0,none⟩ 1 1 [.int .i64 0,.int .u8 s[k].toNat] rfl rfl (Qh4 _ _ _ _) (QiS _ _) ?c3 ?c4 ?c5 ?_)
   case c3=>unfold maxLen;omega
   case c4=>omega
   case c5=>first | (simp;omega) | omega
   intro v' w5 hown5 hgrow _
   have HB5:=Qab (QbQ HB.out hwr hgrow (fun k hk=>(HOW.out.lt k hk).1))
   rw [show Qcz acc++[.int .i64 0,.int .u8 s[k].toNat]=Qcz (acc++[(0,s[k])]) from QdP acc (0,s[k])] at hown5
   have HO5:=Qab hown5
   clear hown5 hgrow
   go_wp2
   go_roundw
   case rel=>exact ⟨k+1,acc++[(0,s[k])],by omega,by go_num,by simpa using HO5.out,HB5.out,by simp;omega,by rw [HSP.out,HP.out];simp⟩
   case measure=>simp [intOf];omega
  ·rw [decide_eq_false a4] at e92
   clear a1 a2 a3 a4
   go_wp2_with (at_builtin;refine wpList_append_own _ rfl _ _ 433 rfl w.heap.size 460 i0 _ 2 16 Tryz.underlying433 hi hz0 hz1 hz2 rfl (by decide) _ _ _ rfl (HOW.out.alloc _) ⟨wr.heap.size,0,none⟩ 1 1 [.int .i64 0,.int .u8 s[k].toNat] rfl rfl (Qh4 _ _ _ _) (QiS _ _) ?c3 ?c4 ?c5 ?_)
   case c3=>unfold maxLen;omega
   case c4=>omega
   case c5=>first | (simp;omega) | omega
   intro v' w5 hown5 hgrow _
   have HB5:=Qab (QbQ HB.out hwr hgrow (fun k hk=>(HOW.out.lt k hk).1))
   rw [show Qcz acc++[.int .i64 0,.int .u8 s[k].toNat]=Qcz (acc++[(0,s[k])]) from QdP acc (0,s[k])] at hown5
   have HO5:=Qab hown5
   clear hown5 hgrow
   go_wp2
   go_roundw
   case rel=>exact ⟨k+1,acc++[(0,s[k])],by omega,by go_num,by simpa using HO5.out,HB5.out,by simp;omega,by rw [HSP.out,HP.out];simp⟩
   case measure=>simp [intOf];omega
end
section
open Go.RowKit
attribute [local go_sem ↓] Go.wp_at_zero Go.wp_at_succ
theorem QgW (a b:Nat):((a:Int) == (b:Int))=(a == b):=by
 by_cases h:a=b
 ·subst h;simp
 ·have h':¬ (a:Int)=(b:Int):=by omega
  rw [beq_eq_false_iff_ne.2 h,beq_eq_false_iff_ne.2 h']
theorem Tryz.infoInt:(Tryz.prog.info? 3).map (fun i=>(i.zero,i.size,i.bytes))=some (some (.int .i64 0),1,8):=by kernel_rfl
def QeN (pl:List Nat):Array Value:=(pl.map fun (n:Nat)=>Value.int .i64 (n:Int)).toArray
theorem Qip (pl:List Nat) (k a:Nat):(QeN pl).setIfInBounds k (.int .i64 (a:Int))=QeN (pl.set k a):=by
 unfold QeN
 rw [List.setIfInBounds_toArray,List.map_set]
theorem Qqw (n:Nat):madeCells (Value.cells (.int .i64 0)) (n*1)=QeN (List.replicate n 0):=by
 apply Array.ext
 ·rw [size_madeCells];simp [QeN]
 ·intro i h1 h2
  have hi:i < n:=by rw [size_madeCells] at h1;omega
  have e1:(QeN (List.replicate n 0))[i]=.int .i64 0:=by simp [QeN]
  rw [e1]
  simp only [madeCells,Array.getElem_map,Array.getElem_range]
  have:i % (Value.cells (.int .i64 0)).size=0:=Nat.mod_one _
  rw [this]
  rfl
def Qu1 (w:World) (g:Nat) (key:List (Nat×UInt8)):Prop:=
 ∀ j (hj:j < key.length),w.cell? ⟨g,j*2,none⟩=some (.int .i64 key[j].1)∧w.cell? ⟨g,j*2+1,none⟩=some (.int .u8 key[j].2.toNat)
theorem QmP (key:List (Nat×UInt8)) (j:Nat) (hj:j < key.length):(Qcz key)[j*2]?=some (.int .i64 key[j].1)∧(Qcz key)[j*2+1]?=some (.int .u8 key[j].2.toNat):=by
 induction key generalizing j with
 | nil=>exact absurd hj (Nat.not_lt_zero _)
 | cons p r ih=>
  cases j with
  | zero=>exact ⟨rfl,rfl⟩
  | succ j=>
   have:=ih j (by simpa using hj)
   have e:Qcz (p :: r)=.int .i64 p.1 :: .int .u8 p.2.toNat :: Qcz r:=rfl
   have e1:(j+1)*2=j*2+1+1:=by omega
   have e2:(j+1)*2+1=(j*2+1)+1+1:=by omega
   rw [e,e1,List.getElem?_cons_succ,List.getElem?_cons_succ,List.getElem?_cons_succ,List.getElem?_cons_succ]
   exact this
theorem Qu1.of_owns {w:World} {base g n c:Nat} {key:List (Nat×UInt8)} (h:w.ownsRow base 460 2 (.slice (some ⟨g,0,none⟩) n c) n (Qcz key)):Qu1 w g key:=fun j hj=>by
 have h1:=h.cells (g:=g) rfl (j*2) _ (QmP key j hj).1
 have h2:=h.cells (g:=g) rfl (j*2+1) _ (QmP key j hj).2
 rw [Qcs] at h1 h2
 exact ⟨h1,h2⟩
def Qt0 (p:Nat×UInt8):Value:=.agg #[.int .i64 p.1,.int .u8 p.2.toNat]
theorem QiF (p:Nat×UInt8) (c:UInt8) (w:World) :
 Calls Tryz.prog 355 #[Qt0 p,.int .u8 c.toNat] w fun e w'=>e=.returned (.bool (QfH p c))∧Below w.heap.size w w':=by
 unfold Qt0
 have e1:((p.1:Int) == 1)=(p.1 == 1):=QgW p.1 1
 have e0:((p.1:Int) == 0)=(p.1 == 0):=QgW p.1 0
 have ec:((p.2.toNat:Int) == (c.toNat:Int))=(p.2 == c):=QhR p.2 c
 have HT:Hid (QfH p c=(p.1 == 1 || (p.1 == 0 && p.2 == c))):=rfl
 generalize (p.1 == 1)=b1 at *
 generalize (p.1 == 0)=b0 at *
 generalize (p.2 == c)=bc at *
 cases b1 <;> cases b0 <;> cases bc <;>
 (go_enter Tryz.func355,Tryz.ntmps355
  go_wp2
  go_ret
  exact ⟨QaW (by rw [HT.out];rfl),(Below.refl _ _).alloc (Nat.le_refl _) _⟩)
theorem QdG:∀ (l:List UInt8),∀ p∈piecesL l,p.1=2→p=(2,0)
 | [],p,hp,_=>by cases hp
 | [c],p,hp,h=>by
  simp only [piecesL,List.mem_singleton] at hp
  subst hp
  split at h
  ·next hc=>rw [if_pos hc]
  ·next hc=>
   split at h
   ·exact absurd h (fun e=>by cases e)
   ·exact absurd h (fun e=>by cases e)
 | c :: d :: r,p,hp,h=>by
  rw [piecesL] at hp
  split at hp
  ·rcases List.mem_cons.1 hp with rfl | hp
   ·rfl
   ·exact QdG (d :: r) p hp h
  ·split at hp
   ·rcases List.mem_cons.1 hp with rfl | hp
    ·exact absurd h (fun e=>by cases e)
    ·exact QdG (d :: r) p hp h
   ·split at hp
    ·rcases List.mem_cons.1 hp with rfl | hp
     ·exact absurd h (fun e=>by cases e)
     ·exact QdG r p hp h
    ·rcases List.mem_cons.1 hp with rfl | hp
     ·exact absurd h (fun e=>by cases e)
     ·exact QdG (d :: r) p hp h
theorem Qb2 {B:Nat} {u w:World} {n:Nat} (h:Below B u w):Below B u (w.drewN n):=⟨h.os,h.tape,h.output,h.size,h.block⟩
theorem QfF {a b:Int} (h:a=b):Value.int .i64 a=Value.int .i64 b:=by rw [h]
theorem QgC {v:List UInt8} {key:List (Nat×UInt8)} {i1 i2 i3 j1 j2 j3:Int} {x1 x2 x3 y1 y2 y3:Nat} (h:QhH v key x1 x2 x3 < QhH v key y1 y2 y3) (a1:i1=x1) (a2:i2=x2) (a3:i3=x3) (b1:j1=y1) (b2:j2=y2) (b3:j3=y3):QhH v key i1.toNat i2.toNat i3.toNat < QhH v key j1.toNat j2.toNat j3.toNat:=by
 subst a1 a2 a3 b1 b2 b3
 exact h
def QuV (key:List (Nat×UInt8)) (v:List UInt8) (B:Nat) (e:Ending) (w':World):Prop:=
 (QaU key v=true∧∃ g,B≤g∧e=.returned (.tuple #[.slice (some ⟨g,0,none⟩) (key.length+1) (key.length+1),.bool true])∧w'.heap[g]?=some (.cells (QeN (placesL key v 0)) 3))∨
 (QaU key v=false∧e=.returned (.tuple #[.slice none 0 0,.bool false]))
theorem QsA (s:ByteArray) (key:List (Nat×UInt8)) (kv:Value) (base:Nat) (w:World) (hs:s.size≤1000000) (hkl:key.length≤1000000) (hk:w.ownsRow base 460 2 kv key.length (Qcz key)) (h2:∀ j (hj:j < key.length),key[j].1=2→key[j]=(2,0)) :
 Calls Tryz.prog 327 #[.string s,kv] w fun e w'=>QuV key s.data.toList w.heap.size e w'∧Below w.heap.size w w':=by
 obtain ⟨ka,kc,hkv⟩:∃ ka kc,kv=.slice ka key.length kc:=by
  rcases hk.2 with ⟨h,h2⟩ | ⟨g,cap,cur,h,_⟩
  ·exact ⟨none,0,by rw [h,h2]⟩
  ·exact ⟨_,_,h⟩
 subst hkv
 have HK:Hid (∀ j,j < key.length→∃ g,ka=some ⟨g,0,none⟩∧g < w.heap.size∧Qu1 w g key):=by
  intro j hj
  rcases hk.2 with ⟨h,h2⟩ | ⟨g,cap,cur,h,hb,hg,_⟩
  ·omega
  ·injection h with h1 h2 h3
   subst h1 h3
   exact ⟨g,rfl,QaH hg,Qu1.of_owns hk⟩
 obtain ⟨i0,hi,hz0,hz1,hz2⟩:=info_parts Tryz.infoInt
 have hmk:=run_make (P:=Tryz.prog) w 24 3 i0 _ Tryz.underlying24 hi hz0 .i64 .i64 ((key.length:Int)+1) ((key.length:Int)+1) (by omega) (Int.le_refl _) (by rw [hz2];omega) (by omega)
 rw [hz1,show ((key.length:Int)+1).toNat=key.length+1 by omega,Qqw] at hmk
 obtain ⟨W,hW⟩:∃ W,W=w.alloc (.cells (QeN (List.replicate (key.length+1) 0)) 3):=⟨_,rfl⟩
 have hWb:W.heap[w.heap.size]?=some (.cells (QeN (List.replicate (key.length+1) 0)) 3):=by rw [hW];exact Qay _ _
 have hWB:Below w.heap.size w W:=by rw [hW];exact (Below.refl _ _).alloc (Nat.le_refl _) _
 rw [← hW] at hmk
 have hWc:W.cell? ⟨w.heap.size,key.length,none⟩=some (.int .i64 0):=by
  rw [Qaa hWb]
  simp [QeN]
 have hWf:∀ j,W.frozen? ⟨w.heap.size,j,none⟩=false:=Qap hWb
 clear hW hk
 go_enter Tryz.func327,Tryz.ntmps327
 go_wp2_with fail
 go_loopw [4,5,6,7,8,9] (fun v4 v5 star ends at_ ki wr=>v4=.slice (some ⟨w.heap.size,0,none⟩) (key.length+1) (key.length+1)∧v5=.bool false∧∃ (st e a k:Nat) (pl:List Nat),star=.int .i64 ((st:Int) - 1)∧ends=.int .i64 (e:Int)∧at_=.int .i64 (a:Int)∧ki=.int .i64 (k:Int)∧Qfg s.data.toList key st e a k pl∧wr.heap[w.heap.size]?=some (.cells (QeN pl) 3)∧Below w.heap.size w wr) (fun _ _ star ends at_ ki _=>QhH s.data.toList key (intOf star+1).toNat (intOf ends).toNat (intOf at_).toNat)
 case atStart=>
  refine ⟨rfl,rfl,0,0,0,0,(List.replicate (key.length+1) 0).set key.length s.size,rfl,rfl,rfl,rfl,QtG _ _ _ (by simp) (by simp),?_,?_⟩
  ·rw [← Qip]
   exact Qah _ _ _ _ _ _ hWb
  ·exact hWB.setCell (Nat.le_refl _) _
 case round=>
  obtain ⟨rfl,rfl,st,e,a,k,pl,rfl,rfl,rfl,rfl,hI,hblk,hB⟩:=hrel
  have hkl':=hI.kl
  have hal:=hI.al
  have hea:=hI.ea
  have hsk:=hI.sk
  have hlen:s.data.toList.length=s.size:=by simp
  have HI:=Qab hI
  have HB:=Qab hB
  have HBK:=Qab hblk
  rw [hlen] at hal
  clear hI hB hblk hmk hWb hWB hWc hWf
  have pllen:=HI.out.pll
  have hcell:∀ j,j < key.length+1→∃ x,wr.cell? ⟨w.heap.size,j,none⟩=some x:=fun j hj=>by
   rw [Qaa HBK.out]
   exact ⟨_,Array.getElem?_eq_getElem (by simp [QeN];omega)⟩
  have hfz:∀ j,wr.frozen? ⟨w.heap.size,j,none⟩=false:=Qap HBK.out
  have hwr:w.heap.size≤wr.heap.size:=HB.out.size
  by_cases hend:a < s.size∨k < key.length
  rotate_left
  ·have ha:¬ (a:Int) < (s.size:Int):=by omega
   have hk':¬ (k:Int) < (key.length:Int):=by omega
   obtain ⟨hm,hpl⟩:=HI.out.yes (by rw [hlen];omega) (by omega)
   have HM:=Qab hm
   rw [hpl] at HBK
   clear hm hpl hcell hfz hend
   go_wp2
   go_ret2
   exact ⟨Or.inl ⟨HM.out,w.heap.size,Nat.le_refl _,rfl,HBK.out⟩,HB.out⟩
  have hget:∀ (ha:a < s.data.toList.length),s.data.toList[a]=s.data.toList.getD a 0:=fun ha=>by rw [List.getD_eq_getElem?_getD,List.getElem?_eq_getElem ha];rfl
  by_cases hkk:k < key.length
  rotate_left
  ·have hk':¬ (k:Int) < (key.length:Int):=by omega
   have haa:a < s.size:=by omega
   have ha':(a:Int) < (s.size:Int):=by omega
   have hke:k=key.length:=by omega
   by_cases h0:st=0
   ·have hst:¬ (0:Int)≤(st:Int) - 1:=by omega
    have HN:=Qab (HI.out.never (Or.inl (by rw [hlen];exact haa)) (fun h=>absurd h hkk) (fun h=>absurd h hkk) (fun h=>h.1 h0))
    clear hcell hfz hend
    go_wp2_with fail
    go_quiet (fail)
    all_goals go_wp2_with fail
    go_ret2
    exact ⟨Or.inr ⟨HN.out,rfl⟩,Qb2 HB.out⟩
   ·have hst:(0:Int)≤(st:Int) - 1:=by omega
    have HL:=Qab (HI.out.longer h0 (by rw [hlen];exact haa) (Or.inl hke))
    have HMU:=Qab (HI.out.muLonger (by rw [hlen];exact haa))
    clear hcell hfz hend
    go_wp2_with fail
    go_quiet (fail)
    all_goals go_wp2_with fail
    all_goals exact ⟨⟨rfl,rfl,st,e+1,e+1,st,pl,rfl,QfF (by omega),QfF (by omega),QfF (by omega),HL.out,HBK.out,Qb2 HB.out⟩,QgC HMU.out (by simp only [intOf];omega) (by simp only [intOf];try omega) (by simp only [intOf];try omega) (by simp only [intOf];omega) (by simp only [intOf];try omega) (by simp only [intOf];try omega)⟩
  obtain ⟨g,rfl,hgl,hPc⟩:=HK.out k hkk
  obtain ⟨hp1,hp2⟩:=hPc k hkk
  have c1:wr.cell? ⟨g,k*2,none⟩=some (.int .i64 key[k].1):=by rw [HB.out.cell (p:=⟨g,k*2,none⟩) hgl];exact hp1
  have c2:wr.cell? ⟨g,k*2+1,none⟩=some (.int .u8 key[k].2.toNat):=by rw [HB.out.cell (p:=⟨g,k*2+1,none⟩) hgl];exact hp2
  have hk':(k:Int) < (key.length:Int):=by omega
  have ek:((key[k].1:Int) == 2)=(key[k].1 == 2):=QgW key[k].1 2
  obtain ⟨x,hx⟩:=hcell k (by omega)
  clear hPc hp1 hp2
  by_cases h2k:key[k].1=2
  ·rw [beq_iff_eq.2 h2k] at ek
   have HS:=Qab (HI.out.star hkk (h2 k hkk h2k))
   have HMU:=Qab (HI.out.muStar hkk)
   clear hcell hend
   go_wp2_with fail
   all_goals exact ⟨⟨rfl,rfl,k+1,a,a,k+1,pl.set k a,QfF (by omega),rfl,rfl,QfF (by omega),HS.out,by rw [← Qip];exact Qah _ _ _ _ _ _ HBK.out,HB.out.setCell (Nat.le_refl _) _⟩,QgC HMU.out (by simp only [intOf];omega) (by simp only [intOf];try omega) (by simp only [intOf];try omega) (by simp only [intOf];omega) (by simp only [intOf];try omega) (by simp only [intOf];try omega)⟩
  rw [beq_eq_false_iff_ne.2 h2k] at ek
  by_cases haa:a < s.size
  rotate_left
  ·have ha':¬ (a:Int) < (s.size:Int):=by omega
   have HN:=Qab (HI.out.never (Or.inr hkk) (fun _=>h2k) (fun _ h=>absurd h (by rw [hlen];exact haa)) (fun h=>haa (by rw [← hlen];exact h.2)))
   clear hcell hfz hend
   go_wp2_with fail
   go_quiet (fail)
   all_goals go_wp2_with fail
   all_goals go_ret2
   all_goals exact ⟨Or.inr ⟨HN.out,rfl⟩,Qb2 HB.out⟩
  have ha':(a:Int) < (s.size:Int):=by omega
  have hsa:s.data.toList[a]'(by rw [hlen];exact haa)=s[a]:=rfl
  have hgr:g < wr.heap.size:=Nat.lt_of_lt_of_le hgl hwr
  cases ht:QfH key[k] s[a]
  ·by_cases h0:st=0
   ·have hst:¬ (0:Int)≤(st:Int) - 1:=by omega
    have HN:=Qab (HI.out.never (Or.inr hkk) (fun _=>h2k) (fun _ h=>ht) (fun h=>h.1 h0))
    clear hcell hend
    go_wp2_with fail
    go_region_held3 (fun w'=>w'.cell? ⟨g,k*2,none⟩=some (.int .i64 key[k].1)∧w'.cell? ⟨g,k*2+1,none⟩=some (.int .u8 key[k].2.toNat)) (first | go_keep | exact ⟨d1,d2⟩) (first | (go_at_call 355;refine (QiF key[k] s[a] _).mono ?_;rintro e w1 ⟨rfl,hb1⟩;rw [ht];have hb2:=Qa4 hb1;have HB1:=Qab (HB.out.trans (hb2.mono hwr));have HBK1:=Qab (Qal HBK.out hb2);have d1:w1.cell? ⟨g,k*2,none⟩=some (.int .i64 key[k].1):=(hb2.cell (p:=⟨g,k*2,none⟩) hgr).trans c1;have d2:w1.cell? ⟨g,k*2+1,none⟩=some (.int .u8 key[k].2.toNat):=(hb2.cell (p:=⟨g,k*2+1,none⟩) hgr).trans c2;have dx:w1.cell? ⟨w.heap.size,k,none⟩=some x:=(hb2.cell (p:=⟨w.heap.size,k,none⟩) (Qax hx)).trans hx;have dz:∀ j,w1.frozen? ⟨w.heap.size,j,none⟩=false:=Qap HBK1.out;clear hb1 hb2;skip))
    all_goals go_wp2_with fail
    all_goals go_ret2
    all_goals exact ⟨Or.inr ⟨HN.out,rfl⟩,HB1.out⟩
   ·have hst:(0:Int)≤(st:Int) - 1:=by omega
    have HL:=Qab (HI.out.longer h0 (by rw [hlen];exact haa) (Or.inr ⟨hkk,h2k,ht⟩))
    have HMU:=Qab (HI.out.muLonger (by rw [hlen];exact haa))
    clear hcell hend
    go_wp2_with fail
    go_region_held3 (fun w'=>w'.cell? ⟨g,k*2,none⟩=some (.int .i64 key[k].1)∧w'.cell? ⟨g,k*2+1,none⟩=some (.int .u8 key[k].2.toNat)) (first | go_keep | exact ⟨d1,d2⟩) (first | (go_at_call 355;refine (QiF key[k] s[a] _).mono ?_;rintro e w1 ⟨rfl,hb1⟩;rw [ht];have hb2:=Qa4 hb1;have HB1:=Qab (HB.out.trans (hb2.mono hwr));have HBK1:=Qab (Qal HBK.out hb2);have d1:w1.cell? ⟨g,k*2,none⟩=some (.int .i64 key[k].1):=(hb2.cell (p:=⟨g,k*2,none⟩) hgr).trans c1;have d2:w1.cell? ⟨g,k*2+1,none⟩=some (.int .u8 key[k].2.toNat):=(hb2.cell (p:=⟨g,k*2+1,none⟩) hgr).trans c2;have dx:w1.cell? ⟨w.heap.size,k,none⟩=some x:=(hb2.cell (p:=⟨w.heap.size,k,none⟩) (Qax hx)).trans hx;have dz:∀ j,w1.frozen? ⟨w.heap.size,j,none⟩=false:=Qap HBK1.out;clear hb1 hb2;skip))
    all_goals go_wp2_with fail
    all_goals exact ⟨⟨rfl,rfl,st,e+1,e+1,st,pl,rfl,QfF (by omega),QfF (by omega),QfF (by omega),HL.out,HBK1.out,HB1.out⟩,QgC HMU.out (by simp only [intOf];omega) (by simp only [intOf];try omega) (by simp only [intOf];try omega) (by simp only [intOf];omega) (by simp only [intOf];try omega) (by simp only [intOf];try omega)⟩
  ·have HT:=Qab (HI.out.take hkk (by rw [hlen];exact haa) h2k ht)
   have HMU:=Qab (HI.out.muTake (by rw [hlen];exact haa))
   clear hcell hend
   go_wp2_with fail
   go_region_held3 (fun w'=>w'.cell? ⟨g,k*2,none⟩=some (.int .i64 key[k].1)∧w'.cell? ⟨g,k*2+1,none⟩=some (.int .u8 key[k].2.toNat)) (first | go_keep | exact ⟨d1,d2⟩) (first | (go_at_call 355;refine (QiF key[k] s[a] _).mono ?_;rintro e w1 ⟨rfl,hb1⟩;rw [ht];have hb2:=Qa4 hb1;have HB1:=Qab (HB.out.trans (hb2.mono hwr));have HBK1:=Qab (Qal HBK.out hb2);have d1:w1.cell? ⟨g,k*2,none⟩=some (.int .i64 key[k].1):=(hb2.cell (p:=⟨g,k*2,none⟩) hgr).trans c1;have d2:w1.cell? ⟨g,k*2+1,none⟩=some (.int .u8 key[k].2.toNat):=(hb2.cell (p:=⟨g,k*2+1,none⟩) hgr).trans c2;have dx:w1.cell? ⟨w.heap.size,k,none⟩=some x:=(hb2.cell (p:=⟨w.heap.size,k,none⟩) (Qax hx)).trans hx;have dz:∀ j,w1.frozen? ⟨w.heap.size,j,none⟩=false:=Qap HBK1.out;clear hb1 hb2;skip))
   all_goals go_wp2_with fail
   all_goals exact ⟨⟨rfl,rfl,st,e,a+1,k+1,pl.set k a,rfl,rfl,QfF (by omega),QfF (by omega),HT.out,by rw [← Qip];exact Qah _ _ _ _ _ _ HBK1.out,HB1.out.setCell (Nat.le_refl _) _⟩,QgC HMU.out (by simp only [intOf];omega) (by simp only [intOf];try omega) (by simp only [intOf];try omega) (by simp only [intOf];omega) (by simp only [intOf];try omega) (by simp only [intOf];try omega)⟩
end
section
open Go.RowKit
attribute [local go_sem ↓] Go.wp_at_zero Go.wp_at_succ
theorem QjX (v:List UInt8) (key:List (Nat×UInt8)) (pl:List Nat) (k:Nat):(toldTo v key pl k).length≤k+1:=by
 induction k with
 | zero=>exact Nat.le_refl _
 | succ k ih=>rw [toldTo,List.length_append];split <;> simp <;> omega
theorem QnN (v:List UInt8) (key:List (Nat×UInt8)) (pl:List Nat) (k:Nat) (hk:k < key.length) (h:key[k].1≠0):toldTo v key pl (k+1)=toldTo v key pl k++[(v.drop (pl.getD k 0)).take (pl.getD (k+1) 0 - pl.getD k 0)]:=by
 rw [toldTo,if_neg]
 rw [List.getD_eq_getElem?_getD,List.getElem?_eq_getElem hk]
 exact h
theorem Qom (v:List UInt8) (key:List (Nat×UInt8)) (pl:List Nat) (k:Nat) (hk:k < key.length) (h:key[k].1=0):toldTo v key pl (k+1)=toldTo v key pl k:=by
 rw [toldTo,if_pos,List.append_nil]
 rw [List.getD_eq_getElem?_getD,List.getElem?_eq_getElem hk]
 exact h
theorem QnD (s:ByteArray) (x y:Nat):s.extract x y=Qad ((s.data.toList.drop x).take (y - x)):=by
 apply ByteArray.ext
 apply Array.ext'
 simp [Qad,List.take_drop]
theorem Qaz {B:Nat} {u w:World} (h:Below B u w):Below B u w.drew:=⟨h.os,h.tape,h.output,h.size,h.block⟩
theorem QmL (x:ByteArray):∀ u∈[Value.string x],u.oneCell'=true:=by
 intro u hu
 simp at hu
 subst hu
 rfl
theorem Qls (s:ByteArray) (key:List (Nat×UInt8)) (kv:Value) (base gp:Nat) (pl:List Nat) (w:World) (hs:s.size≤1000000) (hkl:key.length≤1000000) (hk:w.ownsRow base 460 2 kv key.length (Qcz key)) (hp:w.heap[gp]?=some (.cells (QeN pl) 3)) (hpl:pl.length=key.length+1) (hup:∀ i,i < key.length→pl.getD i 0≤pl.getD (i+1) 0∧pl.getD (i+1) 0≤s.size) :
 Calls Tryz.prog 328 #[.string s,kv,.slice (some ⟨gp,0,none⟩) (key.length+1) (key.length+1)] w fun e w'=>∃ v,e=.returned v∧w'.ownsRow w.heap.size 9 1 v (toldTo s.data.toList key pl key.length).length (QaN (toldTo s.data.toList key pl key.length))∧Below w.heap.size w w':=by
 obtain ⟨ka,kc,hkv⟩:∃ ka kc,kv=.slice ka key.length kc:=by
  rcases hk.2 with ⟨h,h2⟩ | ⟨g,cap,cur,h,_⟩
  ·exact ⟨none,0,by rw [h,h2]⟩
  ·exact ⟨_,_,h⟩
 subst hkv
 have HK:Hid (∀ j,j < key.length→∃ g,ka=some ⟨g,0,none⟩∧g < w.heap.size∧Qu1 w g key):=by
  intro j hj
  rcases hk.2 with ⟨h,h2⟩ | ⟨g,cap,cur,h,hb,hg,_⟩
  ·omega
  ·injection h with h1 h2 h3
   subst h1 h3
   exact ⟨g,rfl,QaH hg,Qu1.of_owns hk⟩
 have HP:=Qab hp
 have hgp:=QaH hp
 obtain ⟨i0,hi,hz0,hz1,hz2⟩:=info_parts Tryz.infoStr
 clear hk hp
 go_enter Tryz.func328,Tryz.ntmps328
 go_wp2_with fail
 go_loopw [7,14] (fun l i wr=>∃ (k:Nat),k≤key.length∧i=.int .i64 (k:Int)∧wr.ownsRow w.heap.size 9 1 l (toldTo s.data.toList key pl k).length (QaN (toldTo s.data.toList key pl k))∧Below w.heap.size w wr) (fun _ i _=>key.length - (intOf i).toNat)
 case atStart=>
  refine ⟨0,Nat.zero_le _,by go_num,?_,(Below.refl _ _).alloc (Nat.le_refl _) _⟩
  exact World.ownsRow_lit (e:=9) (size:=1) w #[.string s] 1 (Nat.le_refl _) (by unfold maxLen;omega) rfl
 case round=>
  obtain ⟨k,hkk,rfl,hown,hB⟩:=hrel
  have hwr:w.heap.size≤wr.heap.size:=hB.size
  have hlen:=QjX s.data.toList key pl k
  have HB:=Qab hB
  have HOW:=Qab hown
  clear hB hown
  by_cases hlt:k < key.length
  rotate_left
  ·have hke:k=key.length:=by omega
   subst hke
   have hk':¬ (key.length:Int) < (key.length:Int):=by omega
   go_wp2
   go_ret
   exact ⟨_,rfl,HOW.out,HB.out⟩
  obtain ⟨g,rfl,hgl,hPc⟩:=HK.out k hlt
  obtain ⟨hp1,hp2⟩:=hPc k hlt
  have c1:wr.cell? ⟨g,k*2,none⟩=some (.int .i64 key[k].1):=by rw [HB.out.cell (p:=⟨g,k*2,none⟩) hgl];exact hp1
  have c2:wr.cell? ⟨g,k*2+1,none⟩=some (.int .u8 key[k].2.toNat):=by rw [HB.out.cell (p:=⟨g,k*2+1,none⟩) hgl];exact hp2
  have hk':(k:Int) < (key.length:Int):=by omega
  have hgr:g < wr.heap.size:=Nat.lt_of_lt_of_le hgl hwr
  have hpr:gp < wr.heap.size:=Nat.lt_of_lt_of_le hgp hwr
  clear hPc hp1 hp2
  by_cases h0:key[k].1=0
  ·have ek:((key[k].1:Int) != 0)=false:=by rw [h0];rfl
   have HS:=Qab (Qom s.data.toList key pl k hlt h0)
   go_wp2
   go_roundw
   case rel=>exact ⟨k+1,by omega,by go_num,by rw [HS.out];exact HOW.out.alloc _,HB.out.alloc hwr _⟩
   case measure=>simp [intOf];omega
  ·have ek:((key[k].1:Int) != 0)=true:=by simp;omega
   have HS:=Qab (QnN s.data.toList key pl k hlt h0)
   obtain ⟨hu1,hu2⟩:=hup k hlt
   have hpb:wr.heap[gp]?=some (.cells (QeN pl) 3):=by rw [HB.out.block gp hgp];exact HP.out
   obtain ⟨x,hx⟩:∃ x,pl.getD k 0=x:=⟨_,rfl⟩
   obtain ⟨y,hy⟩:∃ y,pl.getD (k+1) 0=y:=⟨_,rfl⟩
   have hxe:pl[k]?=some x:=by rw [List.getElem?_eq_getElem (by omega),← hx,List.getD_eq_getElem?_getD,List.getElem?_eq_getElem (show k < pl.length by omega)];rfl
   have hye:pl[k+1]?=some y:=by rw [List.getElem?_eq_getElem (by omega),← hy,List.getD_eq_getElem?_getD,List.getElem?_eq_getElem (show k+1 < pl.length by omega)];rfl
   rw [hx,hy] at HS hu1
   rw [hy] at hu2
   obtain ⟨W,hW⟩:∃ W,W=wr.alloc (.cells #[.int .i64 key[k].1,.int .u8 key[k].2.toNat] 460):=⟨_,rfl⟩
   have hWs:W.heap.size=wr.heap.size+1:=by rw [hW];simp
   have HWB:Hid (Below w.heap.size w W):=by rw [hW];exact HB.out.alloc hwr _
   have HWO:Hid (W.ownsRow w.heap.size 9 1 u7 (toldTo s.data.toList key pl k).length (QaN (toldTo s.data.toList key pl k))):=by rw [hW];exact HOW.out.alloc _
   have hpW:W.heap[gp]?=some (.cells (QeN pl) 3):=by rw [hW];exact Qac hpb
   have p1:W.cell? ⟨gp,k,none⟩=some (.int .i64 (x:Int)):=by rw [Qaa hpW];simp [QeN,hxe]
   have p2:W.cell? ⟨gp,k+1,none⟩=some (.int .i64 (y:Int)):=by rw [Qaa hpW];simp [QeN,hye]
   have hex:s.extract x y=Qad ((s.data.toList.drop x).take (y - x)):=QnD s x y
   have hxs:x≤s.size:=by omega
   have hb1:(k:Int) < (key.length:Int)+1:=by omega
   have hwp:IntKind.i64.wrap ((k:Int)+1)=(k:Int)+1:=by rw [IntKind.wrap_i64];omega
   have hb2:(k:Int)+1 < (key.length:Int)+1:=by omega
   have hb3:(0:Int)≤(k:Int)+1:=by omega
   have hb4:(x:Int)≤(y:Int):=by omega
   have hb5:(y:Int)≤(s.size:Int):=by omega
   obtain ⟨z,hz⟩:∃ z,(s.data.toList.drop x).take (y - x)=z:=⟨_,rfl⟩
   rw [hz] at HS hex
   have hone:=HWO.out
   generalize hT:toldTo s.data.toList key pl k=T at *
   clear hpb hpW HOW HB hx hy hxe hye hz hone
   go_wp2_with fail
   rw [← hW]
   clear hW
   go_region_law (refine step_append_lies _ rfl (.tmp 22) (.tmp 34) 60 rfl w.heap.size 9 i0 (.string ⟨#[]⟩) 1 16 Tryz.underlying60 hi hz0 hz1 hz2 rfl (by decide) u7 T.length (QaN T) (by simp [Act.eval,Act.put]) (HWO.out.alloc _) ⟨W.heap.size,0,none⟩ 1 1 [.string (Qad z)] (by simp [Act.eval,Act.put]) rfl (cell_one_new _ _ _) (QmL _) (by decide) (by unfold maxLen;omega) (by omega) (by simp;omega) _ rfl ?_;intro g' cap' w5 hown5 hgrow hat hlt5;have HB5:=Qab (QbQ (Qaz HWB.out) (by show _≤W.heap.size;omega) hgrow (fun k hk=>(HWO.out.lt k hk).1));have HO5:=Qab hown5;clear hown5 hgrow;skip)
   all_goals go_wp2
   all_goals refine ⟨⟨k+1,by omega,by go_num,?_,HB5.out⟩,by simp [intOf];omega⟩
   all_goals rw [HS.out,List.length_append,← Qcb]
   all_goals exact HO5.out
end
section
open Go.RowKit
attribute [local go_sem ↓] Go.wp_at_zero Go.wp_at_succ
theorem SlT.get {w:World} {v:Value} {zs:List (List UInt8)} (h:SlT w v zs) (j:Nat) (hj:j < zs.length):∃ g c,v=.slice (some ⟨g,0,none⟩) zs.length c∧g < w.heap.size∧w.cell? ⟨g,j,none⟩=some (.string (Qad zs[j])):=by
 rcases h with ⟨_,rfl⟩ | ⟨g,c,hv,ht⟩
 ·exact absurd hj (Nat.not_lt_zero _)
 ·refine ⟨g,c,hv,?_,?_⟩
  ·obtain ⟨cs,hb,_⟩:=ht;exact QaH hb
  ·have:=ht.at j hj
   rwa [List.getD_eq_getElem?_getD,List.getElem?_eq_getElem hj] at this
theorem SlT.get' {w:World} {la:Option Addr} {n lc:Nat} {zs:List (List UInt8)} (h:SlT w (.slice la n lc) zs) (j:Nat) (hj:j < zs.length):∃ g,la=some ⟨g,0,none⟩∧g < w.heap.size∧w.cell? ⟨g,j,none⟩=some (.string (Qad zs[j])):=by
 obtain ⟨g,c,hv,hg,hc⟩:=h.get j hj
 injection hv with h1 h2 h3
 exact ⟨g,h1,hg,hc⟩
theorem Qji.get' {w:World} {la:Option Addr} {n lc:Nat} {hs:List (List UInt8×List UInt8)} (h:Qji w (.slice la n lc) hs) (j:Nat) (hj:j < hs.length):∃ g,la=some ⟨g,0,none⟩∧g < w.heap.size∧w.cell? ⟨g,j*2,none⟩=some (.string (Qad hs[j].1))∧w.cell? ⟨g,j*2+1,none⟩=some (.string (Qad hs[j].2)):=by
 obtain ⟨g,c,hv,hg,hc⟩:=h.cells j hj
 injection hv with h1 h2 h3
 exact ⟨g,h1,hg,hc⟩
theorem Qk4 {α β:Type} (f:α→β) (zs:List α) (k:Nat) (h:k < zs.length):(zs.take (k+1)).map f=(zs.take k).map f++[f zs[k]]:=by
 rw [List.take_succ_eq_append_getElem h,List.map_append];rfl
theorem QeY (B sb:Nat) (M:Msg) (s:SS) (zs:List (List UInt8)) (lv:Value) (w:World) (h:SAt w B sb M s) (hlv:SlT w lv zs) (hl:∀ z∈zs,z.length≤1000000) (hn:zs.length≤1000000) :
 Calls Tryz.prog 271 #[.pointer (some ⟨sb,0,none⟩),lv] w fun e w'=>∃ v,e=.returned v∧w'.ownsRow w.heap.size 9 1 v zs.length (QaN (zs.map (expL s)))∧Below w.heap.size w w':=by
 have HS:=Qab h
 have HLV:=Qab hlv
 obtain ⟨la,lc,hll⟩:=hlv.len
 subst hll
 obtain ⟨i0,hi,hz0,hz1,hz2⟩:=info_parts Tryz.infoStr
 clear h hlv
 go_enter Tryz.func271,Tryz.ntmps271
 go_wp2
 go_loopw [5,7,10] (fun v _ i wr=>∃ (k:Nat),k≤zs.length∧i=.int .i64 (k:Int)∧wr.ownsRow w.heap.size 9 1 v k (QaN ((zs.take k).map (expL s)))∧Below w.heap.size w wr) (fun _ _ i _=>zs.length - (intOf i).toNat)
 case atStart=>exact ⟨0,Nat.zero_le _,rfl,World.ownsRow_nil _ _ _ _,Below.refl _ _⟩
 case round=>
  obtain ⟨k,hk,rfl,hown,hB⟩:=hrel
  have hwr:w.heap.size≤wr.heap.size:=hB.size
  obtain ⟨va,vc,hvv⟩:=QaL hown
  subst hvv
  have HB:=Qab hB
  have HOW:=Qab hown
  clear hB hown
  by_cases hlt:k < zs.length
  rotate_left
  ·have hke:k=zs.length:=by omega
   subst hke
   have hk':¬ (zs.length:Int) < (zs.length:Int):=by omega
   go_wp2
   go_ret
   refine ⟨_,rfl,?_,HB.out⟩
   have:=HOW.out
   rw [List.take_of_length_le (Nat.le_refl _)] at this
   exact this
  have hk':(k:Int) < (zs.length:Int):=by omega
  obtain ⟨g,hla,hgl,hc⟩:=HLV.out.get' k hlt
  subst hla
  have c1:wr.cell? ⟨g,k,none⟩=some (.string (Qad zs[k])):=by rw [HB.out.cell (p:=⟨g,k,none⟩) hgl];exact hc
  have HC:Hid (∀ W,Below wr.heap.size wr W→Calls Tryz.prog 329 #[.pointer (some ⟨sb,0,none⟩),.string (Qad zs[k])] W fun e w'=>e=.returned (.string (Qad (expL s zs[k])))∧Below W.heap.size W w'):=fun W hW=>
   Qk7 B sb M s zs[k] W (HS.out.below (HB.out.trans (hW.mono HB.out.size))) (hl _ (List.getElem_mem hlt))
  have HT:=Qab (Qk4 (expL s) zs k hlt)
  generalize zs[k]=z at *
  generalize expL s z=y at *
  clear hc
  go_wp2_with (first | (go_at_call 329;refine (HC.out _ (Below.refl _ _)).mono ?_;rintro e w1 ⟨rfl,hb1⟩;have HB1:=Qab (HB.out.trans (hb1.mono hwr));have HO1:=Qab (Qbf (P:=fun _ _=>False) HOW.out (Fr.of_below hb1) (fun _ _ h=>h));clear hb1) | (at_builtin;refine wpList_append_own _ rfl _ _ 60 rfl w.heap.size 9 i0 _ 1 16 Tryz.underlying60 hi hz0 hz1 hz2 rfl (by decide) _ _ _ rfl (HO1.out.alloc _) ⟨w1.heap.size,0,none⟩ 1 1 [.string (Qad y)] rfl rfl (cell_one_new _ _ _) (QmL _) (by unfold maxLen;omega) (by omega) (by have:=HB1.out.size;simp;omega) ?_;intro v5 w5 ho5 hg5 _;have HB5:=Qab (QbQ HB1.out HB1.out.size hg5 (fun k hk=>(HO1.out.lt k hk).1));have HO5:=Qab ho5;clear ho5 hg5))
  go_roundw
  case rel=>
   refine ⟨k+1,by omega,by go_num,?_,HB5.out⟩
   rw [HT.out,← Qcb]
   exact HO5.out
  case measure=>simp [intOf];omega
end
end Go.Proofs.YtbiclelojbfnbaaGreatDoor
