import Derived.Test.YtbiclelojbfnbaaGreatDoorZSTexts
namespace Go.Proofs.YtbiclelojbfnbaaGreatDoor
set_option linter.unusedVariables false
set_option linter.unusedSimpArgs false
set_option maxRecDepth 100000
set_option maxHeartbeats 4000000
section
open Go.RowKit
attribute [local go_sem ↓] Go.wp_at_zero Go.wp_at_succ
theorem Qo1 (x y:List UInt8):((Qad x).toList == (Qad y).toList)=decide (x=y):=by
 rw [show (Qad y).toList=y by rw [ByteArray.toList_eq];rfl]
 exact Qdc x y
theorem Ql5 (h:List UInt8×List UInt8) (n:List UInt8) (w:World) (h1:h.1.length≤1000000) (h2:n.length≤1000000) :
 Calls Tryz.prog 272 #[.agg #[.string (Qad h.1),.string (Qad h.2)],.string (Qad n)] w fun e w'=>e=.returned (.bool (Qce h n))∧Below w.heap.size w w':=by
 have he:=Qo1 (smallL h.1) (smallL n)
 have HN:Hid (Qce h n=decide (smallL h.1=smallL n)):=rfl
 generalize decide (smallL h.1=smallL n)=b at *
 have HA:=Qab (Qef h.1)
 have HB:=Qab (Qef n)
 generalize smallL h.1=x at *
 generalize smallL n=y at *
 go_enter Tryz.func272,Tryz.ntmps272
 go_wp2_with fail
 refine (HA.out _ h1).mono ?_
 rintro e w1 ⟨rfl,hb1⟩
 have HB1:=Qab (((Below.refl w.heap.size w).alloc (Nat.le_refl _) _).trans (hb1.mono (by simp)))
 clear hb1
 go_wp2_with fail
 refine (HB.out _ h2).mono ?_
 rintro e w2 ⟨rfl,hb2⟩
 have HB2:=Qab (HB1.out.trans (hb2.mono HB1.out.size))
 clear hb2
 go_wp2
 go_ret
 exact ⟨QaW (by rw [HN.out]),HB2.out⟩
theorem QmD (h:List UInt8×List UInt8) (n:List UInt8) (p:Nat) (w:World) (h1:h.1.length≤1000000) (h2:n.length≤1000000) (hp:w.cell? ⟨p,0,none⟩=some (.string (Qad n))) :
 Calls Tryz.prog 331 #[.agg #[.string (Qad h.1),.string (Qad h.2)],.pointer (some ⟨p,0,none⟩)] w fun e w'=>e=.returned (.bool (Qce h n))∧Below w.heap.size w w':=by
 have hpl:=Qax hp
 go_enter Tryz.func331,Tryz.ntmps331
 go_wp2_with fail
 refine (Ql5 h n _ h1 h2).mono ?_
 rintro e w1 ⟨rfl,hb1⟩
 have HB1:=Qab (((Below.refl w.heap.size w).alloc (Nat.le_refl _) _).trans (hb1.mono (by simp)))
 clear hb1
 go_wp2
 go_ret
 exact ⟨rfl,HB1.out⟩
end
section
open Go.RowKit
attribute [local go_sem ↓] Go.wp_at_zero Go.wp_at_succ
theorem QlE (w:World) (v:Value) (t:TypeId):(w.alloc (.cells #[v] t)).cell? ⟨w.heap.size,0,none⟩=some v:=by
 rw [Qaa (Qay w _)];rfl
theorem QtI {α:Type} (p:α→Bool) (l:List α) (k:Nat) (h:k < l.length):(l.drop k).any p=(p l[k] || (l.drop (k+1)).any p):=by
 rw [List.drop_eq_getElem_cons h,List.any_cons]
theorem Qto {α:Type} (p:α→Bool) (l:List α) (k:Nat) (h:k < l.length):(l.drop k).all p=(p l[k] && (l.drop (k+1)).all p):=by
 rw [List.drop_eq_getElem_cons h,List.all_cons]
theorem Qew {α:Type} (l:List α) (k:Nat) (h:¬ k < l.length):l.drop k=[]:=List.drop_of_length_le (by omega)
theorem QkZ (hs:List (List UInt8×List UInt8)) (hv:Value) (n:List UInt8) (p:Nat) (w:World) (hh:Qji w hv hs) (hl:hs.length≤1000000) (h1:∀ h∈hs,h.1.length≤100000∧h.2.length≤100000) (h2:n.length≤1000000) (hp:w.cell? ⟨p,0,none⟩=some (.string (Qad n))) :
 Calls Tryz.prog 357 #[hv,.func (.func 331) #[] #[.pointer (some ⟨p,0,none⟩)]] w fun e w'=>∃ i:Int,e=.returned (.int .i64 i)∧decide (0≤i)=hs.any (Qce · n)∧Below w.heap.size w w':=by
 obtain ⟨la,lc,hll⟩:=hh.len
 subst hll
 have HH:=Qab hh
 have hpl:=Qax hp
 clear hh
 go_enter Tryz.func357,Tryz.ntmps357
 go_wp2
 go_loopw [5,8] (fun _ i wr=>∃ (k:Nat),k≤hs.length∧i=.int .i64 (k:Int)∧Below w.heap.size w wr∧hs.any (Qce · n)=(hs.drop k).any (Qce · n)) (fun _ i _=>hs.length - (intOf i).toNat)
 case atStart=>exact ⟨0,Nat.zero_le _,rfl,Below.refl _ _,rfl⟩
 case round=>
  obtain ⟨k,hk,rfl,hB,hany⟩:=hrel
  have HB:=Qab hB
  have HA:=Qab hany
  have hwr:=hB.size
  clear hB hany
  by_cases hlt:k < hs.length
  rotate_left
  ·have hk':¬ (k:Int) < (hs.length:Int):=by omega
   have HD:=Qab (Qew hs k hlt)
   go_wp2
   go_ret
   exact ⟨-1,rfl,by rw [HA.out,HD.out];rfl,HB.out⟩
  have hk':(k:Int) < (hs.length:Int):=by omega
  obtain ⟨g,hla,hgl,hc1,hc2⟩:=HH.out.get' k hlt
  subst hla
  have c1:wr.cell? ⟨g,k*2,none⟩=some (.string (Qad hs[k].1)):=by rw [HB.out.cell (p:=⟨g,k*2,none⟩) hgl];exact hc1
  have c2:wr.cell? ⟨g,k*2+1,none⟩=some (.string (Qad hs[k].2)):=by rw [HB.out.cell (p:=⟨g,k*2+1,none⟩) hgl];exact hc2
  have cp:wr.cell? ⟨p,0,none⟩=some (.string (Qad n)):=by rw [HB.out.cell (p:=⟨p,0,none⟩) hpl];exact hp
  have HD:=Qab (QtI (Qce · n) hs k hlt)
  have hl1:=(h1 _ (List.getElem_mem hlt)).1
  have HC:Hid (Calls Tryz.prog 331 #[.agg #[.string (Qad hs[k].1),.string (Qad hs[k].2)],.pointer (some ⟨p,0,none⟩)] wr fun e w'=>e=.returned (.bool (Qce hs[k] n))∧Below wr.heap.size wr w'):=QmD hs[k] n p wr (by omega) h2 cp
  cases hb:Qce hs[k] n
  ·rw [hb] at HD HC
   clear hc1 hc2
   go_wp2_with (go_at_call 331;refine HC.out.mono ?_;rintro e w1 ⟨rfl,hb1⟩;have HB1:=Qab (HB.out.trans (hb1.mono hwr));clear hb1)
   go_roundw
   case rel=>exact ⟨k+1,by omega,by go_num,HB1.out,by rw [HA.out,HD.out];rfl⟩
   case measure=>simp [intOf];omega
  ·rw [hb] at HD HC
   clear hc1 hc2
   go_wp2_with (go_at_call 331;refine HC.out.mono ?_;rintro e w1 ⟨rfl,hb1⟩;have HB1:=Qab (HB.out.trans (hb1.mono hwr));clear hb1)
   go_ret
   exact ⟨k,rfl,by rw [HA.out,HD.out];exact decide_eq_true (by omega),HB1.out⟩
theorem QhN (hs:List (List UInt8×List UInt8)) (hv:Value) (n:List UInt8) (p:Nat) (w:World) (hh:Qji w hv hs) (hl:hs.length≤1000000) (h1:∀ h∈hs,h.1.length≤100000∧h.2.length≤100000) (h2:n.length≤1000000) (hp:w.cell? ⟨p,0,none⟩=some (.string (Qad n))) :
 Calls Tryz.prog 330 #[hv,.func (.func 331) #[] #[.pointer (some ⟨p,0,none⟩)]] w fun e w'=>e=.returned (.bool (hs.any (Qce · n)))∧Below w.heap.size w w':=by
 obtain ⟨la,lc,hll⟩:=hh.len
 subst hll
 go_enter Tryz.func330,Tryz.ntmps330
 go_wp2_with fail
 refine (QkZ hs _ n p _ hh hl h1 h2 hp).mono ?_
 rintro e w1 ⟨i,rfl,hi,hb1⟩
 have HI:=Qab hi
 have HB1:=Qab hb1
 clear hi hb1
 go_wp2
 all_goals go_ret
 all_goals exact ⟨QaW (by rw [← HI.out]),HB1.out⟩
theorem Qo3 (s:SS):∀ (n:Nat) (l acc:List UInt8),acc.length≤1024→(Qp0 s n l acc).length≤1024
 | 0,_,_,h=>h
 | n+1,l,acc,h=>by
  by_cases hc:l≠[]∧acc.length < 1024
  ·rw [QmE hc]
   exact Qo3 s n _ _ (by rw [List.length_append,List.length_take];omega)
  ·rw [QkT hc];exact h
theorem Qku (s:SS) (x:List UInt8) (N:Nat) (h:x.length≤N) (hN:1024≤N):(expL s x).length≤N:=by
 unfold expL
 split
 ·exact Nat.le_trans (Qo3 s _ _ _ (Nat.zero_le _)) hN
 ·exact h
theorem Qgj (s:SS) (zs:List (List UInt8)) (N:Nat) (h:∀ z∈zs,z.length≤N) (hN:1024≤N):∀ y∈zs.map (expL s),y.length≤N:=by
 intro y hy
 obtain ⟨z,hz,rfl⟩:=List.mem_map.1 hy
 exact Qku s z N (h z hz) hN
theorem QoE (B sb:Nat) (M:Msg) (s:SS) (zs:List (List UInt8)) (lv:Value) (w:World) (h:SAt w B sb M s) (hlv:SlT w lv zs) (hl:∀ z∈zs,z.length≤1000000) (hn:zs.length≤1000000) :
 Calls Tryz.prog 274 #[.pointer (some ⟨sb,0,none⟩),lv] w fun e w'=>e=.returned (.bool (existsL M (zs.map (expL s))))∧Below w.heap.size w w':=by
 obtain ⟨la,lc,hll⟩:=hlv.len
 subst hll
 have HS:=Qab h
 obtain ⟨hv,mb,tv,mv,hSI⟩:=h
 have HSI:=Qab hSI
 have hlt0:=hSI.lt
 have hbd:=hSI.bd
 have c3:w.cell? ⟨sb,3,none⟩=some hv:=hSI.cell 3
 have HBD:=Qab hbd
 clear hSI hbd
 go_enter Tryz.func274,Tryz.ntmps274
 go_wp2_with fail
 refine (QeY B sb M s zs _ w HS.out hlv hl hn).mono ?_
 rintro e w1 ⟨v1,rfl,ho1,hb1⟩
 have HT:=Qab (SlT.of_owns ho1 (by simp))
 have HB1:=Qab hb1
 obtain ⟨ta,tc,htv⟩:=QaL ho1
 subst htv
 have hyl:∀ y∈zs.map (expL s),y.length≤1000000:=Qgj s zs _ hl (by decide)
 have hzl:zs.length=(zs.map (expL s)).length:=by simp
 have HE:Hid (existsL M (zs.map (expL s))=(zs.map (expL s)).all fun n=>M.hdrs.any (Qce · n)):=rfl
 have HYL:=Qab hyl
 obtain ⟨ys,hys⟩:∃ ys,zs.map (expL s)=ys:=⟨_,rfl⟩
 have HYS:=Qab hys
 rw [hys] at HT HE HYL hzl
 clear hys
 rw [hzl] at hn
 have hc31:w1.cell? ⟨sb,3,none⟩=some hv:=(hb1.cell (p:=⟨sb,3,none⟩) hlt0).trans c3
 rw [hzl]
 rw [hzl] at HT
 clear ho1 hyl hzl hb1 hlv hl c3
 go_wp2_with fail
 go_loopw [6,11] (fun _ i wr=>∃ (k:Nat),k≤ys.length∧i=.int .i64 (k:Int)∧Below w.heap.size w wr∧Below w1.heap.size w1 wr∧existsL M ys=(ys.drop k).all fun n=>M.hdrs.any (Qce · n)) (fun _ i _=>ys.length - (intOf i).toNat)
 case atStart=>exact ⟨0,Nat.zero_le _,rfl,HB1.out,Below.refl _ _,HE.out⟩
 case round=>
  obtain ⟨k,hk,rfl,hB,hBB,hall⟩:=hrel
  have HB:=Qab hB
  have HBB:=Qab hBB
  have HA:=Qab hall
  have hwr:=hB.size
  have hlt1:sb < w1.heap.size:=Nat.lt_of_lt_of_le hlt0 HB1.out.size
  have c3:wr.cell? ⟨sb,3,none⟩=some hv:=(hBB.cell (p:=⟨sb,3,none⟩) hlt1).trans hc31
  have hltr:sb < wr.heap.size:=Nat.lt_of_lt_of_le hlt0 hB.size
  clear hB hBB hall
  by_cases hlt:k < ys.length
  rotate_left
  ·have hk':¬ (k:Int) < (ys.length:Int):=by omega
   have HD:=Qab (Qew ys k hlt)
   go_wp2
   go_ret
   exact ⟨QaW (by rw [HYS.out,HA.out,HD.out];rfl),HB.out⟩
  have hk':(k:Int) < (ys.length:Int):=by omega
  obtain ⟨g,hla,hgl,hc1⟩:=HT.out.get' k hlt
  subst hla
  have c1:wr.cell? ⟨g,k,none⟩=some (.string (Qad ys[k])):=by rw [HBB.out.cell (p:=⟨g,k,none⟩) hgl];exact hc1
  have HD:=Qab (Qto (fun n=>M.hdrs.any (Qce · n)) ys k hlt)
  have hyk:=HYL.out _ (List.getElem_mem hlt)
  obtain ⟨ha,hc,hhv⟩:=HSI.out.hd.len
  subst hhv
  have HC:Hid (∀ W,Below wr.heap.size wr W→W.cell? ⟨wr.heap.size,0,none⟩=some (.string (Qad ys[k]))→Calls Tryz.prog 330 #[.slice ha M.hdrs.length hc,.func (.func 331) #[] #[.pointer (some ⟨wr.heap.size,0,none⟩)]] W fun e w'=>e=.returned (.bool (M.hdrs.any (Qce · ys[k])))∧Below W.heap.size W w'):=fun W hW hcW=>
   QhN M.hdrs _ ys[k] _ W (HSI.out.hd.fr (P:=fun _ _=>False) (Fr.trans (Fr.trans (Fr.of_below HB1.out) (Fr.of_below HBB.out)) (Fr.of_below hW)) (fun _ _ h=>h)) (by have:=HBD.out.hl;omega) HBD.out.hd hyk hcW
  generalize ys[k]=y at *
  cases hb:M.hdrs.any (Qce · y)
  ·rw [hb] at HD HC
   go_wp2_with (go_at_call 330;refine (HC.out _ ((Below.refl _ _).alloc (Nat.le_refl _) _) (QlE _ _ _)).mono ?_;rintro e w2 ⟨rfl,hb2⟩;have HB2:=Qab ((HB.out.alloc hwr _).trans (hb2.mono (by simp;omega)));clear hb2)
   go_ret
   exact ⟨QaW (by rw [HYS.out,HA.out,HD.out];rfl),HB2.out⟩
  ·rw [hb] at HD HC
   go_wp2_with (go_at_call 330;refine (HC.out _ ((Below.refl _ _).alloc (Nat.le_refl _) _) (QlE _ _ _)).mono ?_;rintro e w2 ⟨rfl,hb2⟩;have HB2:=Qab ((HB.out.alloc hwr _).trans (hb2.mono (by simp;omega)));have HBB2:=Qab ((HBB.out.alloc HBB.out.size _).trans (hb2.mono (by have:=HBB.out.size;simp;omega)));clear hb2)
   go_roundw
   case rel=>exact ⟨k+1,by omega,by go_num,HB2.out,HBB2.out,by rw [HA.out,HD.out];rfl⟩
   case measure=>simp [intOf];omega
end
end Go.Proofs.YtbiclelojbfnbaaGreatDoor
