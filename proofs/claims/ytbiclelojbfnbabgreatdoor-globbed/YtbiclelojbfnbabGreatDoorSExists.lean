import Derived.Test.YtbiclelojbfnbabGreatDoorZSAsk
namespace Go.Proofs.YtbiclelojbfnbabGreatDoor
set_option linter.unusedVariables false
set_option linter.unusedSimpArgs false
set_option maxRecDepth 100000
set_option maxHeartbeats 4000000
open Go.RowKit
attribute [local go_sem ↓] Go.wp_at_zero Go.wp_at_succ
theorem Qls (w:World) (v:Value) (t:TypeId):(w.alloc (.cells #[v] t)).cell? ⟨w.heap.size,0,none⟩=some v:=by
 rw [Qab (QaB w _)];rfl
theorem Qr2 {α:Type} (p:α→Bool) (l:List α) (k:Nat) (h:k < l.length):(l.drop k).any p=(p l[k] || (l.drop (k+1)).any p):=by
 rw [List.drop_eq_getElem_cons h,List.any_cons]
theorem Qsa {α:Type} (p:α→Bool) (l:List α) (k:Nat) (h:k < l.length):(l.drop k).all p=(p l[k] && (l.drop (k+1)).all p):=by
 rw [List.drop_eq_getElem_cons h,List.all_cons]
theorem Qea {α:Type} (l:List α) (k:Nat) (h:¬ k < l.length):l.drop k=[]:=List.drop_of_length_le (by omega)
theorem QjS (hs:List (List UInt8×List UInt8)) (hv:Value) (n:List UInt8) (p:Nat) (w:World) (hh:Qik w hv hs) (hl:hs.length≤1000000) (h1:∀ h∈hs,h.1.length≤100000∧h.2.length≤100000) (h2:n.length≤1000000) (hp:w.cell? ⟨p,0,none⟩=some (.string (Qag n))) :
 Calls Tryz.prog 247 #[hv,.func (.func 228) #[] #[.pointer (some ⟨p,0,none⟩)]] w fun e w'=>∃ i:Int,e=.returned (.int .i64 i)∧decide (0≤i)=hs.any (Qb6 · n)∧Below w.heap.size w w':=by
 obtain ⟨la,lc,hll⟩:=hh.len
 subst hll
 have HH:=Qaa hh
 have hpl:=Qay hp
 clear hh
 go_enter Tryz.func247,Tryz.ntmps247
 go_wp2
 go_loopw [5,8] (fun _ i wr=>∃ (k:Nat),k≤hs.length∧i=.int .i64 (k:Int)∧Below w.heap.size w wr∧hs.any (Qb6 · n)=(hs.drop k).any (Qb6 · n)) (fun _ i _=>hs.length - (intOf i).toNat)
 case atStart=>exact ⟨0,Nat.zero_le _,rfl,Below.refl _ _,rfl⟩
 case round=>
  obtain ⟨k,hk,rfl,hB,hany⟩:=hrel
  have HB:=Qaa hB
  have HA:=Qaa hany
  have hwr:=hB.size
  clear hB hany
  by_cases hlt:k < hs.length
  rotate_left
  ·have hk':¬ (k:Int) < (hs.length:Int):=by omega
   have HD:=Qaa (Qea hs k hlt)
   go_wp2
   go_ret
   exact ⟨-1,rfl,by rw [HA.out,HD.out];rfl,HB.out⟩
  have hk':(k:Int) < (hs.length:Int):=by omega
  obtain ⟨g,hla,hgl,hc1,hc2⟩:=HH.out.get' k hlt
  subst hla
  have c1:wr.cell? ⟨g,k*2,none⟩=some (.string (Qag hs[k].1)):=by rw [HB.out.cell (p:=⟨g,k*2,none⟩) hgl];exact hc1
  have c2:wr.cell? ⟨g,k*2+1,none⟩=some (.string (Qag hs[k].2)):=by rw [HB.out.cell (p:=⟨g,k*2+1,none⟩) hgl];exact hc2
  have cp:wr.cell? ⟨p,0,none⟩=some (.string (Qag n)):=by rw [HB.out.cell (p:=⟨p,0,none⟩) hpl];exact hp
  have HD:=Qaa (Qr2 (Qb6 · n) hs k hlt)
  have hl1:=(h1 _ (List.getElem_mem hlt)).1
  have HC:Hid (Calls Tryz.prog 228 #[.agg #[.string (Qag hs[k].1),.string (Qag hs[k].2)],.pointer (some ⟨p,0,none⟩)] wr fun e w'=>e=.returned (.bool (Qb6 hs[k] n))∧Below wr.heap.size wr w'):=QlU hs[k] n p wr (by omega) h2 cp
  cases hb:Qb6 hs[k] n
  ·rw [hb] at HD HC
   clear hc1 hc2
   go_wp2_with (go_at_call 228;refine HC.out.mono ?_;rintro e w1 ⟨rfl,hb1⟩;have HB1:=Qaa (HB.out.trans (hb1.mono hwr));clear hb1)
   go_roundw
   case rel=>exact ⟨k+1,by omega,by go_num,HB1.out,by rw [HA.out,HD.out];rfl⟩
   case measure=>simp [intOf];omega
  ·rw [hb] at HD HC
   clear hc1 hc2
   go_wp2_with (go_at_call 228;refine HC.out.mono ?_;rintro e w1 ⟨rfl,hb1⟩;have HB1:=Qaa (HB.out.trans (hb1.mono hwr));clear hb1)
   go_ret
   exact ⟨k,rfl,by rw [HA.out,HD.out];exact decide_eq_true (by omega),HB1.out⟩
theorem Qg6 (hs:List (List UInt8×List UInt8)) (hv:Value) (n:List UInt8) (p:Nat) (w:World) (hh:Qik w hv hs) (hl:hs.length≤1000000) (h1:∀ h∈hs,h.1.length≤100000∧h.2.length≤100000) (h2:n.length≤1000000) (hp:w.cell? ⟨p,0,none⟩=some (.string (Qag n))) :
 Calls Tryz.prog 227 #[hv,.func (.func 228) #[] #[.pointer (some ⟨p,0,none⟩)]] w fun e w'=>e=.returned (.bool (hs.any (Qb6 · n)))∧Below w.heap.size w w':=by
 obtain ⟨la,lc,hll⟩:=hh.len
 subst hll
 go_enter Tryz.func227,Tryz.ntmps227
 go_wp2_with fail
 refine (QjS hs _ n p _ hh hl h1 h2 hp).mono ?_
 rintro e w1 ⟨i,rfl,hi,hb1⟩
 have HI:=Qaa hi
 have HB1:=Qaa hb1
 clear hi hb1
 go_wp2
 all_goals go_ret
 all_goals exact ⟨QaU (by rw [← HI.out]),HB1.out⟩
theorem Qn6 (s:SS):∀ (n:Nat) (l acc:List UInt8),acc.length≤1024→(expF s n l acc).length≤1024
 | 0,_,_,h=>h
 | n+1,l,acc,h=>by
  by_cases hc:l≠[]∧acc.length < 1024
  ·rw [QkD hc]
   exact Qn6 s n _ _ (by rw [List.length_append,List.length_take];omega)
  ·rw [QjI hc];exact h
theorem Qku (s:SS) (x:List UInt8) (N:Nat) (h:x.length≤N) (hN:1024≤N):(expL s x).length≤N:=by
 unfold expL
 split
 ·exact Nat.le_trans (Qn6 s _ _ _ (Nat.zero_le _)) hN
 ·exact h
theorem Qf3 (s:SS) (zs:List (List UInt8)) (N:Nat) (h:∀ z∈zs,z.length≤N) (hN:1024≤N):∀ y∈zs.map (expL s),y.length≤N:=by
 intro y hy
 obtain ⟨z,hz,rfl⟩:=List.mem_map.1 hy
 exact Qku s z N (h z hz) hN
theorem QmF (B sb:Nat) (M:Msg) (s:SS) (zs:List (List UInt8)) (lv:Value) (w:World) (h:SAt w B sb M s) (hlv:SlT w lv zs) (hl:∀ z∈zs,z.length≤1000000) (hn:zs.length≤1000000) :
 Calls Tryz.prog 187 #[.pointer (some ⟨sb,0,none⟩),lv] w fun e w'=>e=.returned (.bool (existsL M (zs.map (expL s))))∧Below w.heap.size w w':=by
 obtain ⟨la,lc,hll⟩:=hlv.len
 subst hll
 have HS:=Qaa h
 obtain ⟨hv,mb,tv,mv,hSI⟩:=h
 have HSI:=Qaa hSI
 have hlt0:=hSI.lt
 have hbd:=hSI.bd
 have c3:w.cell? ⟨sb,3,none⟩=some hv:=hSI.cell 3
 have HBD:=Qaa hbd
 clear hSI hbd
 go_enter Tryz.func187,Tryz.ntmps187
 go_wp2_with fail
 refine (QeK B sb M s zs _ w HS.out hlv hl hn).mono ?_
 rintro e w1 ⟨v1,rfl,ho1,hb1⟩
 have HT:=Qaa (SlT.of_owns ho1 (by simp))
 have HB1:=Qaa hb1
 obtain ⟨ta,tc,htv⟩:=QaN ho1
 subst htv
 have hyl:∀ y∈zs.map (expL s),y.length≤1000000:=Qf3 s zs _ hl (by decide)
 have hzl:zs.length=(zs.map (expL s)).length:=by simp
 have HE:Hid (existsL M (zs.map (expL s))=(zs.map (expL s)).all fun n=>M.hdrs.any (Qb6 · n)):=rfl
 have HYL:=Qaa hyl
 obtain ⟨ys,hys⟩:∃ ys,zs.map (expL s)=ys:=⟨_,rfl⟩
 have HYS:=Qaa hys
 rw [hys] at HT HE HYL hzl
 clear hys
 rw [hzl] at hn
 have hc31:w1.cell? ⟨sb,3,none⟩=some hv:=(hb1.cell (p:=⟨sb,3,none⟩) hlt0).trans c3
 rw [hzl]
 rw [hzl] at HT
 clear ho1 hyl hzl hb1 hlv hl c3
 go_wp2_with fail
 go_loopw [6,11] (fun _ i wr=>∃ (k:Nat),k≤ys.length∧i=.int .i64 (k:Int)∧Below w.heap.size w wr∧Below w1.heap.size w1 wr∧existsL M ys=(ys.drop k).all fun n=>M.hdrs.any (Qb6 · n)) (fun _ i _=>ys.length - (intOf i).toNat)
 case atStart=>exact ⟨0,Nat.zero_le _,rfl,HB1.out,Below.refl _ _,HE.out⟩
 case round=>
  obtain ⟨k,hk,rfl,hB,hBB,hall⟩:=hrel
  have HB:=Qaa hB
  have HBB:=Qaa hBB
  have HA:=Qaa hall
  have hwr:=hB.size
  have hlt1:sb < w1.heap.size:=Nat.lt_of_lt_of_le hlt0 HB1.out.size
  have c3:wr.cell? ⟨sb,3,none⟩=some hv:=(hBB.cell (p:=⟨sb,3,none⟩) hlt1).trans hc31
  have hltr:sb < wr.heap.size:=Nat.lt_of_lt_of_le hlt0 hB.size
  clear hB hBB hall
  by_cases hlt:k < ys.length
  rotate_left
  ·have hk':¬ (k:Int) < (ys.length:Int):=by omega
   have HD:=Qaa (Qea ys k hlt)
   go_wp2
   go_ret
   exact ⟨QaU (by rw [HYS.out,HA.out,HD.out];rfl),HB.out⟩
  have hk':(k:Int) < (ys.length:Int):=by omega
  obtain ⟨g,hla,hgl,hc1⟩:=HT.out.get' k hlt
  subst hla
  have c1:wr.cell? ⟨g,k,none⟩=some (.string (Qag ys[k])):=by rw [HBB.out.cell (p:=⟨g,k,none⟩) hgl];exact hc1
  have HD:=Qaa (Qsa (fun n=>M.hdrs.any (Qb6 · n)) ys k hlt)
  have hyk:=HYL.out _ (List.getElem_mem hlt)
  obtain ⟨ha,hc,hhv⟩:=HSI.out.hd.len
  subst hhv
  have HC:Hid (∀ W,Below wr.heap.size wr W→W.cell? ⟨wr.heap.size,0,none⟩=some (.string (Qag ys[k]))→Calls Tryz.prog 227 #[.slice ha M.hdrs.length hc,.func (.func 228) #[] #[.pointer (some ⟨wr.heap.size,0,none⟩)]] W fun e w'=>e=.returned (.bool (M.hdrs.any (Qb6 · ys[k])))∧Below W.heap.size W w'):=fun W hW hcW=>
   Qg6 M.hdrs _ ys[k] _ W (HSI.out.hd.fr (P:=fun _ _=>False) (Fr.trans (Fr.trans (Fr.of_below HB1.out) (Fr.of_below HBB.out)) (Fr.of_below hW)) (fun _ _ h=>h)) (by have:=HBD.out.hl;omega) HBD.out.hd hyk hcW
  generalize ys[k]=y at *
  cases hb:M.hdrs.any (Qb6 · y)
  ·rw [hb] at HD HC
   go_wp2_with (go_at_call 227;refine (HC.out _ ((Below.refl _ _).alloc (Nat.le_refl _) _) (Qls _ _ _)).mono ?_;rintro e w2 ⟨rfl,hb2⟩;have HB2:=Qaa ((HB.out.alloc hwr _).trans (hb2.mono (by simp;omega)));clear hb2)
   go_ret
   exact ⟨QaU (by rw [HYS.out,HA.out,HD.out];rfl),HB2.out⟩
  ·rw [hb] at HD HC
   go_wp2_with (go_at_call 227;refine (HC.out _ ((Below.refl _ _).alloc (Nat.le_refl _) _) (Qls _ _ _)).mono ?_;rintro e w2 ⟨rfl,hb2⟩;have HB2:=Qaa ((HB.out.alloc hwr _).trans (hb2.mono (by simp;omega)));have HBB2:=Qaa ((HBB.out.alloc HBB.out.size _).trans (hb2.mono (by have:=HBB.out.size;simp;omega)));clear hb2)
   go_roundw
   case rel=>exact ⟨k+1,by omega,by go_num,HB2.out,HBB2.out,by rw [HA.out,HD.out];rfl⟩
   case measure=>simp [intOf];omega
end Go.Proofs.YtbiclelojbfnbabGreatDoor
