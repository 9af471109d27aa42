import Derived.Lib.IndexMore
import Derived.Test.YtbiclelojbfnbaaGreatDoorZCLand
import Derived.Test.YtbiclelojbfnbaaGreatDoorZCapital
import Derived.Test.YtbiclelojbfnbaaGreatDoorZPlainCode
import Derived.Test.YtbiclelojbfnbaaGreatDoorZSTexts
import Derived.Test.YtbiclelojbfnbaaGreatDoorShelf
namespace Go.Proofs.YtbiclelojbfnbaaGreatDoor
set_option linter.unusedVariables false
set_option linter.unusedSimpArgs false
set_option maxRecDepth 100000
set_option maxHeartbeats 4000000
section
open Go.RowKit
attribute [local go_sem ↓] Go.wp_at_zero Go.wp_at_succ
theorem strA_eq2 (x y:List UInt8):((strA x).toList == (strA y).toList)=decide (x=y):=by
 rw [show (strA y).toList=y by rw [ByteArray.toList_eq];rfl]
 exact strA_beq x y
theorem named_any (h:List UInt8×List UInt8) (n:List UInt8) (w:World) (h1:h.1.length≤1000000) (h2:n.length≤1000000) :
  Calls Tryz.prog 272 #[.agg #[.string (strA h.1),.string (strA h.2)],.string (strA n)] w fun e w'=>e=.returned (.bool (namedL h n))∧Below w.heap.size w w':=by
 have he:=strA_eq2 (smallL h.1) (smallL n)
 have HN:Hid (namedL h n=decide (smallL h.1=smallL n)):=rfl
 generalize decide (smallL h.1=smallL n)=b at *
 have HA:=hide (smallA_any h.1)
 have HB:=hide (smallA_any n)
 generalize smallL h.1=x at *
 generalize smallL n=y at *
 go_enter Tryz.func272,Tryz.ntmps272
 go_wp2_with fail
 refine (HA.out _ h1).mono ?_
 rintro e w1 ⟨rfl,hb1⟩
 have HB1:=hide (((Below.refl w.heap.size w).alloc (Nat.le_refl _) _).trans (hb1.mono (by simp)))
 clear hb1
 go_wp2_with fail
 refine (HB.out _ h2).mono ?_
 rintro e w2 ⟨rfl,hb2⟩
 have HB2:=hide (HB1.out.trans (hb2.mono HB1.out.size))
 clear hb2
 go_wp2
 go_ret
 exact ⟨ret_bool (by rw [HN.out]),HB2.out⟩
theorem existsFn_any (h:List UInt8×List UInt8) (n:List UInt8) (p:Nat) (w:World) (h1:h.1.length≤1000000) (h2:n.length≤1000000) (hp:w.cell? ⟨p,0,none⟩=some (.string (strA n))) :
  Calls Tryz.prog 331 #[.agg #[.string (strA h.1),.string (strA h.2)],.pointer (some ⟨p,0,none⟩)] w fun e w'=>e=.returned (.bool (namedL h n))∧Below w.heap.size w w':=by
 have hpl:=cell_lt hp
 go_enter Tryz.func331,Tryz.ntmps331
 go_wp2_with fail
 refine (named_any h n _ h1 h2).mono ?_
 rintro e w1 ⟨rfl,hb1⟩
 have HB1:=hide (((Below.refl w.heap.size w).alloc (Nat.le_refl _) _).trans (hb1.mono (by simp)))
 clear hb1
 go_wp2
 go_ret
 exact ⟨rfl,HB1.out⟩
end
section
open Go.RowKit
attribute [local go_sem ↓] Go.wp_at_zero Go.wp_at_succ
theorem cell_new0 (w:World) (v:Value) (t:TypeId):(w.alloc (.cells #[v] t)).cell? ⟨w.heap.size,0,none⟩=some v:=by
 rw [blk_cell (blk_new w _)];rfl
theorem any_drop {α:Type} (p:α→Bool) (l:List α) (k:Nat) (h:k < l.length):(l.drop k).any p=(p l[k] || (l.drop (k+1)).any p):=by
 rw [List.drop_eq_getElem_cons h,List.any_cons]
theorem all_drop {α:Type} (p:α→Bool) (l:List α) (k:Nat) (h:k < l.length):(l.drop k).all p=(p l[k] && (l.drop (k+1)).all p):=by
 rw [List.drop_eq_getElem_cons h,List.all_cons]
theorem drop_end {α:Type} (l:List α) (k:Nat) (h:¬ k < l.length):l.drop k=[]:=List.drop_of_length_le (by omega)
theorem indexFunc_any (hs:List (List UInt8×List UInt8)) (hv:Value) (n:List UInt8) (p:Nat) (w:World) (hh:HdrV w hv hs) (hl:hs.length≤1000000) (h1:∀ h∈hs,h.1.length≤100000∧h.2.length≤100000) (h2:n.length≤1000000) (hp:w.cell? ⟨p,0,none⟩=some (.string (strA n))) :
  Calls Tryz.prog 357 #[hv,.func (.func 331) #[] #[.pointer (some ⟨p,0,none⟩)]] w fun e w'=>∃ i:Int,e=.returned (.int .i64 i)∧decide (0≤i)=hs.any (namedL · n)∧Below w.heap.size w w':=by
 obtain ⟨la,lc,hll⟩:=hh.len
 subst hll
 have HH:=hide hh
 have hpl:=cell_lt hp
 clear hh
 go_enter Tryz.func357,Tryz.ntmps357
 go_wp2
 go_loopw [5,8] (fun _ i wr=>∃ (k:Nat),k≤hs.length∧i=.int .i64 (k:Int)∧Below w.heap.size w wr∧hs.any (namedL · n)=(hs.drop k).any (namedL · n)) (fun _ i _=>hs.length - (intOf i).toNat)
 case atStart=>exact ⟨0,Nat.zero_le _,rfl,Below.refl _ _,rfl⟩
 case round=>
  obtain ⟨k,hk,rfl,hB,hany⟩:=hrel
  have HB:=hide hB
  have HA:=hide hany
  have hwr:=hB.size
  clear hB hany
  by_cases hlt:k < hs.length
  rotate_left
  ·have hk':¬ (k:Int) < (hs.length:Int):=by omega
   have HD:=hide (drop_end hs k hlt)
   go_wp2
   go_ret
   exact ⟨-1,rfl,by rw [HA.out,HD.out];rfl,HB.out⟩
  have hk':(k:Int) < (hs.length:Int):=by omega
  obtain ⟨g,hla,hgl,hc1,hc2⟩:=HH.out.get' k hlt
  subst hla
  have c1:wr.cell? ⟨g,k*2,none⟩=some (.string (strA hs[k].1)):=by rw [HB.out.cell (p:=⟨g,k*2,none⟩) hgl];exact hc1
  have c2:wr.cell? ⟨g,k*2+1,none⟩=some (.string (strA hs[k].2)):=by rw [HB.out.cell (p:=⟨g,k*2+1,none⟩) hgl];exact hc2
  have cp:wr.cell? ⟨p,0,none⟩=some (.string (strA n)):=by rw [HB.out.cell (p:=⟨p,0,none⟩) hpl];exact hp
  have HD:=hide (any_drop (namedL · n) hs k hlt)
  have hl1:=(h1 _ (List.getElem_mem hlt)).1
  have HC:Hid (Calls Tryz.prog 331 #[.agg #[.string (strA hs[k].1),.string (strA hs[k].2)],.pointer (some ⟨p,0,none⟩)] wr fun e w'=>e=.returned (.bool (namedL hs[k] n))∧Below wr.heap.size wr w'):=existsFn_any hs[k] n p wr (by omega) h2 cp
  cases hb:namedL hs[k] n
  ·rw [hb] at HD HC
   clear hc1 hc2
   go_wp2_with (go_at_call 331;refine HC.out.mono ?_;rintro e w1 ⟨rfl,hb1⟩;have HB1:=hide (HB.out.trans (hb1.mono hwr));clear hb1)
   go_roundw
   case rel=>exact ⟨k+1,by omega,by go_num,HB1.out,by rw [HA.out,HD.out];rfl⟩
   case measure=>simp [intOf];omega
  ·rw [hb] at HD HC
   clear hc1 hc2
   go_wp2_with (go_at_call 331;refine HC.out.mono ?_;rintro e w1 ⟨rfl,hb1⟩;have HB1:=hide (HB.out.trans (hb1.mono hwr));clear hb1)
   go_ret
   exact ⟨k,rfl,by rw [HA.out,HD.out];exact decide_eq_true (by omega),HB1.out⟩
theorem containsFunc_any (hs:List (List UInt8×List UInt8)) (hv:Value) (n:List UInt8) (p:Nat) (w:World) (hh:HdrV w hv hs) (hl:hs.length≤1000000) (h1:∀ h∈hs,h.1.length≤100000∧h.2.length≤100000) (h2:n.length≤1000000) (hp:w.cell? ⟨p,0,none⟩=some (.string (strA n))) :
  Calls Tryz.prog 330 #[hv,.func (.func 331) #[] #[.pointer (some ⟨p,0,none⟩)]] w fun e w'=>e=.returned (.bool (hs.any (namedL · n)))∧Below w.heap.size w w':=by
 obtain ⟨la,lc,hll⟩:=hh.len
 subst hll
 go_enter Tryz.func330,Tryz.ntmps330
 go_wp2_with fail
 refine (indexFunc_any hs _ n p _ hh hl h1 h2 hp).mono ?_
 rintro e w1 ⟨i,rfl,hi,hb1⟩
 have HI:=hide hi
 have HB1:=hide hb1
 clear hi hb1
 go_wp2
 all_goals go_ret
 all_goals exact ⟨ret_bool (by rw [← HI.out]),HB1.out⟩
theorem expF_len (s:SS):∀ (n:Nat) (l acc:List UInt8),acc.length≤1024→(expF s n l acc).length≤1024
 | 0,_,_,h=>h
 | n+1,l,acc,h=>by
  by_cases hc:l≠[]∧acc.length < 1024
  ·rw [expF_step hc]
   exact expF_len s n _ _ (by rw [List.length_append,List.length_take];omega)
  ·rw [expF_end hc];exact h
theorem expL_len (s:SS) (x:List UInt8) (N:Nat) (h:x.length≤N) (hN:1024≤N):(expL s x).length≤N:=by
 unfold expL
 split
 ·exact Nat.le_trans (expF_len s _ _ _ (Nat.zero_le _)) hN
 ·exact h
theorem exps_len (s:SS) (zs:List (List UInt8)) (N:Nat) (h:∀ z∈zs,z.length≤N) (hN:1024≤N):∀ y∈zs.map (expL s),y.length≤N:=by
 intro y hy
 obtain ⟨z,hz,rfl⟩:=List.mem_map.1 hy
 exact expL_len s z N (h z hz) hN
theorem existsS_any (B sb:Nat) (M:Msg) (s:SS) (zs:List (List UInt8)) (lv:Value) (w:World) (h:SAt w B sb M s) (hlv:SlT w lv zs) (hl:∀ z∈zs,z.length≤1000000) (hn:zs.length≤1000000) :
  Calls Tryz.prog 274 #[.pointer (some ⟨sb,0,none⟩),lv] w fun e w'=>e=.returned (.bool (existsL M (zs.map (expL s))))∧Below w.heap.size w w':=by
 obtain ⟨la,lc,hll⟩:=hlv.len
 subst hll
 have HS:=hide h
 obtain ⟨hv,mb,tv,mv,hSI⟩:=h
 have HSI:=hide hSI
 have hlt0:=hSI.lt
 have hbd:=hSI.bd
 have c3:w.cell? ⟨sb,3,none⟩=some hv:=hSI.cell 3
 have HBD:=hide hbd
 clear hSI hbd
 go_enter Tryz.func274,Tryz.ntmps274
 go_wp2_with fail
 refine (texts_any B sb M s zs _ w HS.out hlv hl hn).mono ?_
 rintro e w1 ⟨v1,rfl,ho1,hb1⟩
 have HT:=hide (SlT.of_owns ho1 (by simp))
 have HB1:=hide hb1
 obtain ⟨ta,tc,htv⟩:=owns_len ho1
 subst htv
 have hyl:∀ y∈zs.map (expL s),y.length≤1000000:=exps_len s zs _ hl (by decide)
 have hzl:zs.length=(zs.map (expL s)).length:=by simp
 have HE:Hid (existsL M (zs.map (expL s))=(zs.map (expL s)).all fun n=>M.hdrs.any (namedL · n)):=rfl
 have HYL:=hide hyl
 obtain ⟨ys,hys⟩:∃ ys,zs.map (expL s)=ys:=⟨_,rfl⟩
 have HYS:=hide hys
 rw [hys] at HT HE HYL hzl
 clear hys
 rw [hzl] at hn
 have hc31:w1.cell? ⟨sb,3,none⟩=some hv:=(hb1.cell (p:=⟨sb,3,none⟩) hlt0).trans c3
 rw [hzl]
 rw [hzl] at HT
 clear ho1 hyl hzl hb1 hlv hl c3
 go_wp2_with fail
 go_loopw [6,11] (fun _ i wr=>∃ (k:Nat),k≤ys.length∧i=.int .i64 (k:Int)∧Below w.heap.size w wr∧Below w1.heap.size w1 wr∧existsL M ys=(ys.drop k).all fun n=>M.hdrs.any (namedL · n)) (fun _ i _=>ys.length - (intOf i).toNat)
 case atStart=>exact ⟨0,Nat.zero_le _,rfl,HB1.out,Below.refl _ _,HE.out⟩
 case round=>
  obtain ⟨k,hk,rfl,hB,hBB,hall⟩:=hrel
  have HB:=hide hB
  have HBB:=hide hBB
  have HA:=hide hall
  have hwr:=hB.size
  have hlt1:sb < w1.heap.size:=Nat.lt_of_lt_of_le hlt0 HB1.out.size
  have c3:wr.cell? ⟨sb,3,none⟩=some hv:=(hBB.cell (p:=⟨sb,3,none⟩) hlt1).trans hc31
  have hltr:sb < wr.heap.size:=Nat.lt_of_lt_of_le hlt0 hB.size
  clear hB hBB hall
  by_cases hlt:k < ys.length
  rotate_left
  ·have hk':¬ (k:Int) < (ys.length:Int):=by omega
   have HD:=hide (drop_end ys k hlt)
   go_wp2
   go_ret
   exact ⟨ret_bool (by rw [HYS.out,HA.out,HD.out];rfl),HB.out⟩
  have hk':(k:Int) < (ys.length:Int):=by omega
  obtain ⟨g,hla,hgl,hc1⟩:=HT.out.get' k hlt
  subst hla
  have c1:wr.cell? ⟨g,k,none⟩=some (.string (strA ys[k])):=by rw [HBB.out.cell (p:=⟨g,k,none⟩) hgl];exact hc1
  have HD:=hide (all_drop (fun n=>M.hdrs.any (namedL · n)) ys k hlt)
  have hyk:=HYL.out _ (List.getElem_mem hlt)
  obtain ⟨ha,hc,hhv⟩:=HSI.out.hd.len
  subst hhv
  have HC:Hid (∀ W,Below wr.heap.size wr W→W.cell? ⟨wr.heap.size,0,none⟩=some (.string (strA ys[k]))→Calls Tryz.prog 330 #[.slice ha M.hdrs.length hc,.func (.func 331) #[] #[.pointer (some ⟨wr.heap.size,0,none⟩)]] W fun e w'=>e=.returned (.bool (M.hdrs.any (namedL · ys[k])))∧Below W.heap.size W w'):=fun W hW hcW=>
   containsFunc_any M.hdrs _ ys[k] _ W (HSI.out.hd.fr (P:=fun _ _=>False) (Fr.trans (Fr.trans (Fr.of_below HB1.out) (Fr.of_below HBB.out)) (Fr.of_below hW)) (fun _ _ h=>h)) (by have:=HBD.out.hl;omega) HBD.out.hd hyk hcW
  generalize ys[k]=y at *
  cases hb:M.hdrs.any (namedL · y)
  ·rw [hb] at HD HC
   go_wp2_with (go_at_call 330;refine (HC.out _ ((Below.refl _ _).alloc (Nat.le_refl _) _) (cell_new0 _ _ _)).mono ?_;rintro e w2 ⟨rfl,hb2⟩;have HB2:=hide ((HB.out.alloc hwr _).trans (hb2.mono (by simp;omega)));clear hb2)
   go_ret
   exact ⟨ret_bool (by rw [HYS.out,HA.out,HD.out];rfl),HB2.out⟩
  ·rw [hb] at HD HC
   go_wp2_with (go_at_call 330;refine (HC.out _ ((Below.refl _ _).alloc (Nat.le_refl _) _) (cell_new0 _ _ _)).mono ?_;rintro e w2 ⟨rfl,hb2⟩;have HB2:=hide ((HB.out.alloc hwr _).trans (hb2.mono (by simp;omega)));have HBB2:=hide ((HBB.out.alloc HBB.out.size _).trans (hb2.mono (by have:=HBB.out.size;simp;omega)));clear hb2)
   go_roundw
   case rel=>exact ⟨k+1,by omega,by go_num,HB2.out,HBB2.out,by rw [HA.out,HD.out];rfl⟩
   case measure=>simp [intOf];omega
end
section
open Go.RowKit
attribute [local go_sem ↓] Go.wp_at_zero Go.wp_at_succ
theorem has_contains (v k:List UInt8):Lib.contains v k=hasL k v:=by
 unfold Lib.contains
 induction v with
 | nil=>
  cases k with
  | nil=>rfl
  | cons c r=>rfl
 | cons c v ih=>
  rw [Lib.index,hasL]
  by_cases h:k.isPrefixOf (c :: v)=true
  ·rw [if_pos h,h];rfl
  ·rw [if_neg h,Bool.eq_false_iff.2 h,Bool.false_or,← ih]
   split
   ·next h1=>have h2:=eq_of_beq h1;rw [h2]
   ·next h1=>
    have h2:Lib.index v k≠-1:=fun e=>h1 (by rw [e];rfl)
    have h3:=Lib.index_ge v k
    rw [Bool.eq_iff_iff]
    simp
    omega
def lookV (oct:Bool):Value:=if oct then .func (.func 353) #[] #[] else .func (.func 247) #[] #[]
theorem cmpOct_any (s:ByteArray) (w:World):Calls Tryz.prog 353 #[.string s] w fun e w'=>e=.returned (.string s)∧w'=w:=by
 go_enter Tryz.func353,Tryz.ntmps353
 go_wp2
 go_ret
 exact ⟨rfl,rfl⟩
theorem comparator_any (oct:Bool) (w:World):Calls Tryz.prog 321 #[.bool oct] w fun e w'=>e=.returned (lookV oct)∧w'=w:=by
 cases oct <;>
 (go_enter Tryz.func321,Tryz.ntmps321
  go_wp2
  go_ret
  exact ⟨rfl,rfl⟩)
theorem byIs_any (x y:List UInt8) (w:World):Calls Tryz.prog 323 #[.string (strA x),.string (strA y)] w fun e w'=>e=.returned (.bool (decide (x=y)))∧w'=w:=by
 have e1:((strA x).toList == (strA y).toList)=decide (x=y):=by
  rw [show (strA y).toList=y by rw [ByteArray.toList_eq];rfl]
  exact strA_beq x y
 go_enter Tryz.func323,Tryz.ntmps323
 go_wp2
 go_ret
 exact ⟨ret_bool (by rw [← e1]),rfl⟩
theorem small_strA (x:List UInt8) (w:World) (h:x.length≤1000000):Calls Tryz.prog 247 #[.string (strA x)] w fun e w'=>e=.returned (.string (strA (smallL x)))∧Below w.heap.size w w':=
 small_any (strA x) w (by rw [strA_size];omega)
def WayV (w:World) (tag:Int) (oct:Bool) (wv:Value):Prop:=
 (tag=3∧∃ p,wv=.func (.func 325) #[] #[.pointer (some ⟨p,0,none⟩)]∧w.cell? ⟨p,0,none⟩=some (lookV oct))∨
 (∃ p q,wv=.func (.func 354) #[] #[.pointer (some ⟨p,0,none⟩),.pointer (some ⟨q,0,none⟩)]∧w.cell? ⟨q,0,none⟩=some (lookV oct)∧
  ((tag=1∧w.cell? ⟨p,0,none⟩=some (.func (.func 323) #[] #[]))∨(tag=2∧w.cell? ⟨p,0,none⟩=some (.func (.func 324) #[] #[]))))
def WayPost (tag:Int) (oct:Bool) (v k:List UInt8) (W:World) (e:Ending) (W':World):Prop:=
 Below W.heap.size W W'∧
 ((wayB tag oct v k=false∧e=.returned (.tuple #[.slice none 0 0,.bool false]))∨
  (wayB tag oct v k=true∧wayT tag oct v k=none∧e=.returned (.tuple #[.slice none 0 0,.bool true]))∨
  (wayB tag oct v k=true∧∃ t g c,wayT tag oct v k=some t∧e=.returned (.tuple #[.slice (some ⟨g,0,none⟩) t.length c,.bool true])∧W.heap.size≤g∧TxtB W' g t))
theorem wayPost_un (tag:Int) (oct:Bool) (v k:List UInt8) (h3:tag≠3) (w w':World) (hb:Below w.heap.size w w'):WayPost tag oct v k w (.returned (.tuple #[.slice none 0 0,.bool (wayB tag oct v k)])) w':=by
 refine ⟨hb,?_⟩
 have ht:wayT tag oct v k=none:=by unfold wayT;rw [if_neg h3]
 cases h:wayB tag oct v k
 ·exact Or.inl ⟨rfl,rfl⟩
 ·exact Or.inr (Or.inl ⟨rfl,ht,rfl⟩)
theorem untoldIs_call (oct:Bool) (p q:Nat) (v k:List UInt8) (w:World) (hv:v.length≤1000000) (hk:k.length≤1000000) (hq:w.cell? ⟨q,0,none⟩=some (lookV oct)) (hp:w.cell? ⟨p,0,none⟩=some (.func (.func 323) #[] #[])) :
  Calls Tryz.prog 354 #[.string (strA v),.string (strA k),.pointer (some ⟨p,0,none⟩),.pointer (some ⟨q,0,none⟩)] w (WayPost 1 oct v k w):=by
 have hql:q < w.heap.size:=cell_lt hq
 have hpl:p < w.heap.size:=cell_lt hp
 have hsv:(smallL v).length≤1000000:=by simp [smallL];omega
 cases oct
 ·have hq':w.cell? ⟨q,0,none⟩=some (.func (.func 247) #[] #[]):=hq
  have HA:=hide (wayPost_un 1 false v k (by decide))
  clear hq
  go_enter Tryz.func354,Tryz.ntmps354
  go_wp2_with fail
  go_region_held3 (fun w'=>w'.cell? ⟨q,0,none⟩=some (.func (.func 247) #[] #[])∧w'.cell? ⟨p,0,none⟩=some (.func (.func 323) #[] #[])) (first | go_keep) (first
   | (go_at_call 247;refine (small_strA _ _ (by first | exact hv | exact hk)).mono ?_;rintro e wn ⟨rfl,hb⟩;have HBn:Hid (Below w.heap.size w wn):=(by first | exact HBn.out.trans (hb.mono HBn.out.size) | exact below_drew hb);have d1:wn.cell? ⟨q,0,none⟩=some (.func (.func 247) #[] #[]):=(HBn.out.cell (p:=⟨q,0,none⟩) hql).trans hq';have d2:wn.cell? ⟨p,0,none⟩=some (.func (.func 323) #[] #[]):=(HBn.out.cell (p:=⟨p,0,none⟩) hpl).trans hp;clear hb;skip)
   | (go_at_call 323;refine (byIs_any _ _ _).mono ?_;rintro e w3 ⟨rfl,rfl⟩;skip))
  all_goals go_wp2
  all_goals go_ret2
  all_goals exact HA.out _ _ HBn.out
 ·have hq':w.cell? ⟨q,0,none⟩=some (.func (.func 353) #[] #[]):=hq
  have HA:=hide (wayPost_un 1 true v k (by decide))
  clear hq
  go_enter Tryz.func354,Tryz.ntmps354
  go_wp2_with fail
  go_region_held3 (fun w'=>w'.cell? ⟨q,0,none⟩=some (.func (.func 353) #[] #[])∧w'.cell? ⟨p,0,none⟩=some (.func (.func 323) #[] #[])) (first | go_keep) (first
   | (go_at_call 353;refine (cmpOct_any _ _).mono ?_;rintro e w1 ⟨rfl,rfl⟩;skip)
   | (go_at_call 323;refine (byIs_any _ _ _).mono ?_;rintro e w3 ⟨rfl,rfl⟩;skip))
  all_goals go_wp2
  all_goals go_ret2
  all_goals exact HA.out _ _ (below_drew1 (Below.refl _ _))
theorem untoldHas_call (oct:Bool) (p q:Nat) (v k:List UInt8) (w:World) (hv:v.length≤1000000) (hk:k.length≤1000000) (hq:w.cell? ⟨q,0,none⟩=some (lookV oct)) (hp:w.cell? ⟨p,0,none⟩=some (.func (.func 324) #[] #[])) (m:Int) (hm:w.cell? ⟨1,0,none⟩=some (.int .i64 m)) :
  Calls Tryz.prog 354 #[.string (strA v),.string (strA k),.pointer (some ⟨p,0,none⟩),.pointer (some ⟨q,0,none⟩)] w (WayPost 2 oct v k w):=by
 have hql:q < w.heap.size:=cell_lt hq
 have hpl:p < w.heap.size:=cell_lt hp
 have hml:1 < w.heap.size:=cell_lt hm
 have hsv:(smallL v).length≤1000000:=by simp [smallL];omega
 cases oct
 ·have hq':w.cell? ⟨q,0,none⟩=some (.func (.func 247) #[] #[]):=hq
  have HA:=hide (wayPost_un 2 false v k (by decide))
  clear hq
  go_enter Tryz.func354,Tryz.ntmps354
  go_wp2_with fail
  go_region_held3 (fun w'=>w'.cell? ⟨q,0,none⟩=some (.func (.func 247) #[] #[])∧w'.cell? ⟨p,0,none⟩=some (.func (.func 324) #[] #[])∧w'.cell? ⟨1,0,none⟩=some (.int .i64 m)) (first | go_keep) (first
   | (go_at_call 247;refine (small_strA _ _ (by first | exact hv | exact hk)).mono ?_;rintro e wn ⟨rfl,hb⟩;have HBn:Hid (Below w.heap.size w wn):=(by first | exact HBn.out.trans (hb.mono HBn.out.size) | exact below_drew hb);have d1:wn.cell? ⟨q,0,none⟩=some (.func (.func 247) #[] #[]):=(HBn.out.cell (p:=⟨q,0,none⟩) hql).trans hq';have d2:wn.cell? ⟨p,0,none⟩=some (.func (.func 324) #[] #[]):=(HBn.out.cell (p:=⟨p,0,none⟩) hpl).trans hp;have d3:wn.cell? ⟨1,0,none⟩=some (.int .i64 m):=(HBn.out.cell (p:=⟨1,0,none⟩) hml).trans hm;clear hb;skip)
   | (go_at_call 324;refine (Tryz.strings_Contains (strA (smallL v)) (strA (smallL k)) m _ (by show (smallL v).length < _;omega) d3).mono ?_;rintro e w3 ⟨rfl,rfl⟩;rw [has_contains];skip))
  all_goals go_wp2
  all_goals go_ret2
  all_goals exact HA.out _ _ HBn.out
 ·have hq':w.cell? ⟨q,0,none⟩=some (.func (.func 353) #[] #[]):=hq
  have HA:=hide (wayPost_un 2 true v k (by decide))
  clear hq
  go_enter Tryz.func354,Tryz.ntmps354
  go_wp2_with fail
  go_region_held3 (fun w'=>w'.cell? ⟨q,0,none⟩=some (.func (.func 353) #[] #[])∧w'.cell? ⟨p,0,none⟩=some (.func (.func 324) #[] #[])∧w'.cell? ⟨1,0,none⟩=some (.int .i64 m)) (first | go_keep) (first
   | (go_at_call 353;refine (cmpOct_any _ _).mono ?_;rintro e w1 ⟨rfl,rfl⟩;skip)
   | (go_at_call 324;refine (Tryz.strings_Contains (strA v) (strA k) m w.drew (by show v.length < _;omega) hm).mono ?_;rintro e w3 ⟨rfl,rfl⟩;rw [has_contains];skip))
  all_goals go_wp2
  all_goals go_ret2
  all_goals exact HA.out _ _ (below_drew1 (Below.refl _ _))
theorem pieces_le:∀ l:List UInt8,(piecesL l).length≤l.length
 | []=>Nat.le_refl _
 | [c]=>Nat.le_refl _
 | c :: d :: r=>by
  have h1:=pieces_le (d :: r)
  have h2:=pieces_le r
  rw [piecesL]
  split
  ·simpa using h1
  ·split
   ·simpa using h1
   ·split
    ·simp;omega
    ·simpa using h1
theorem look_len (oct:Bool) (x:List UInt8):(lookL oct x).length=x.length:=by
 unfold lookL;split
 ·rfl
 ·simp [smallL]
def lookF (oct:Bool):Nat:=if oct then 353 else 247
theorem look_call (oct:Bool) (x:List UInt8) (w:World) (h:x.length≤1000000):Calls Tryz.prog (lookF oct) #[.string (strA x)] w fun e w'=>e=.returned (.string (strA (lookL oct x)))∧Below w.heap.size w w':=by
 cases oct
 ·exact small_strA x w h
 ·exact (cmpOct_any (strA x) w).mono fun e w' he=>⟨he.1,by rw [he.2];exact Below.refl _ _⟩
theorem owns_below {w w':World} {base:Nat} {e:TypeId} {size:Nat} {v:Value} {n:Nat} {xs:List Value} (h:w.ownsRow base e size v n xs) (hb:Below w.heap.size w w'):w'.ownsRow base e size v n xs:=by
 obtain ⟨h1,h2⟩:=h
 refine ⟨h1,?_⟩
 rcases h2 with h2 | ⟨g,cap,cur,hv,hg,hh,r⟩
 ·exact Or.inl h2
 ·exact Or.inr ⟨g,cap,cur,hv,hg,by rw [hb.block g (blk_lt hh)];exact hh,r⟩
theorem owns_form {w:World} {base:Nat} {e:TypeId} {size:Nat} {v:Value} {n:Nat} {xs:List Value} (h:w.ownsRow base e size v n xs) (hn:n≠0):∃ g c,v=.slice (some ⟨g,0,none⟩) n c∧base≤g∧g < w.heap.size:=by
 rcases h.2 with ⟨_,h0⟩ | ⟨g,cap,cur,hv,hg,hh,_⟩
 ·exact absurd h0 hn
 ·exact ⟨g,cap,hv,hg,blk_lt hh⟩
theorem by2_small (q:Nat) (v k:List UInt8) (w:World) (hv:v.length≤1000000) (hk:k.length≤1000000) (hq:w.cell? ⟨q,0,none⟩=some (lookV false)) :
  Calls Tryz.prog 325 #[.string (strA v),.string (strA k),.pointer (some ⟨q,0,none⟩)] w (WayPost 3 false v k w):=by
 have hql:q < w.heap.size:=cell_lt hq
 have hq':w.cell? ⟨q,0,none⟩=some (.func (.func 247) #[] #[]):=hq
 have hlk:=look_len false k
 have hlv:=look_len false v
 have hpl:=pieces_le (lookL false k)
 obtain ⟨x,hx⟩:∃ x,lookL false k=x:=⟨_,rfl⟩
 obtain ⟨y,hy⟩:∃ y,lookL false v=y:=⟨_,rfl⟩
 have HX:=hide hx
 have HY:=hide hy
 rw [hx] at hlk hpl
 rw [hy] at hlv
 have HTW:Hid (∀ k',piecesL x=k'→wayB 3 false v k=matchB k' y∧wayT 3 false v k=some (toldTo v k' (placesL k' y 0) k'.length)):=by
  intro k' hk'
  unfold wayB wayT
  rw [if_neg (by decide),if_neg (by decide),if_pos rfl,HX.out,HY.out,hk']
  exact ⟨rfl,rfl⟩
 have HP2:Hid (∀ k',piecesL x=k'→∀ j (hj:j < k'.length),k'[j].1=2→k'[j]=(2,0)):=fun k' hk' j hj h=>pieces_two x _ (by rw [hk'];exact List.getElem_mem hj) h
 clear hq hx hy
 go_enter Tryz.func325,Tryz.ntmps325
 go_wp2_with fail
 refine (look_call false k _ hk).mono ?_
 rintro e w1 ⟨rfl,hb1⟩
 rw [HX.out]
 have c1:w1.cell? ⟨q,0,none⟩=some (.func (.func 247) #[] #[]):=(hb1.cell (p:=⟨q,0,none⟩) hql).trans hq'
 have HB1:=hide hb1
 clear hb1 hq'
 go_wp2_with fail
 refine (mpieces_any (strA x) w1 (by rw [strA_size];omega)).mono ?_
 rintro e w2 ⟨lv,rfl,ho2,hb2⟩
 rw [show (strA x).data.toList=x from rfl] at ho2
 obtain ⟨pc,hpc⟩:∃ pc,piecesL x=pc:=⟨_,rfl⟩
 have HTW':=hide (HTW.out pc hpc)
 have HP2':=hide (HP2.out pc hpc)
 rw [hpc] at ho2 hpl
 have c2:w2.cell? ⟨q,0,none⟩=some (.func (.func 247) #[] #[]):=(hb2.cell (p:=⟨q,0,none⟩) (cell_lt c1)).trans c1
 have HB2:=hide (HB1.out.trans (hb2.mono HB1.out.size))
 have HO2:=hide ho2
 clear ho2 hb2 c1 hpc HTW HP2
 go_wp2_with fail
 refine (look_call false v _ hv).mono ?_
 rintro e w3 ⟨rfl,hb3⟩
 rw [HY.out]
 have HB3:=hide (HB2.out.trans (hb3.mono HB2.out.size))
 have HO3:=hide (owns_below HO2.out hb3)
 clear hb3 c2
 go_wp2_with fail
 refine (fit_any (strA y) pc lv w1.heap.size w3 (by rw [strA_size];omega) (by omega) HO3.out HP2'.out).mono ?_
 rintro e w4 ⟨hf,hb4⟩
 have HB4:=hide (HB3.out.trans (hb4.mono HB3.out.size))
 have HO4:=hide (owns_below HO3.out hb4)
 clear hb4
 rcases hf with ⟨hm,g,hg,rfl,hbk⟩ | ⟨hm,rfl⟩
 ·have HBK:=hide hbk
  have HM:=hide hm
  clear hbk hm
  go_wp2_with fail
  refine (parts_any (strA v) pc lv w1.heap.size g (placesL pc y 0) w4 (by rw [strA_size];omega) (by omega) HO4.out HBK.out (places_len pc y 0) (fun i hi=>?_)).mono ?_
  ·obtain ⟨a,b,h1,h2,h3,h4,h5⟩:=places_up pc y 0 HM.out i hi
   rw [List.getD_eq_getElem?_getD,List.getD_eq_getElem?_getD,h1,h2,strA_size]
   exact ⟨h4,by show b≤_;omega⟩
  rintro e w5 ⟨tv,rfl,ho5,hb5⟩
  have HB5:=hide (HB4.out.trans (hb5.mono HB4.out.size))
  obtain ⟨r,hr⟩:=toldTo_head v pc (placesL pc y 0) pc.length
  have hs4:=HB4.out.size
  obtain ⟨g5,c5,htv,hg5,hl5⟩:=owns_form ho5 (by rw [show (strA v).data.toList=v from rfl,hr];simp)
  subst htv
  have HT5:=hide (TxtB.of_owns ho5)
  have HTT:=HTW'.out.2
  have HTT':=hide HTT
  rw [show (strA v).data.toList=v from rfl] at HT5 ⊢
  obtain ⟨n5,hn5⟩:∃ n,(toldTo v pc (placesL pc y 0) pc.length).length=n:=⟨_,rfl⟩
  have HN:=hide hn5
  rw [hn5]
  clear hn5 hr HTT ho5
  go_wp2
  go_ret2
  exact ⟨HB5.out,Or.inr (Or.inr ⟨HTW'.out.1.trans HM.out,_,g5,c5,HTT'.out,by rw [HN.out];rfl,by omega,HT5.out⟩)⟩
 ·have HM:=hide hm
  clear hm
  go_wp2
  go_ret2
  exact ⟨HB4.out,Or.inl ⟨HTW'.out.1.trans HM.out,rfl⟩⟩
theorem by2_oct (q:Nat) (v k:List UInt8) (w:World) (hv:v.length≤1000000) (hk:k.length≤1000000) (hq:w.cell? ⟨q,0,none⟩=some (lookV true)) :
  Calls Tryz.prog 325 #[.string (strA v),.string (strA k),.pointer (some ⟨q,0,none⟩)] w (WayPost 3 true v k w):=by
 have hql:q < w.heap.size:=cell_lt hq
 have hq':w.cell? ⟨q,0,none⟩=some (.func (.func 353) #[] #[]):=hq
 have hlk:=look_len true k
 have hlv:=look_len true v
 have hpl:=pieces_le (lookL true k)
 obtain ⟨x,hx⟩:∃ x,lookL true k=x:=⟨_,rfl⟩
 obtain ⟨y,hy⟩:∃ y,lookL true v=y:=⟨_,rfl⟩
 have HX:=hide hx
 have HY:=hide hy
 rw [hx] at hlk hpl
 rw [hy] at hlv
 have HTW:Hid (∀ k',piecesL x=k'→wayB 3 true v k=matchB k' y∧wayT 3 true v k=some (toldTo v k' (placesL k' y 0) k'.length)):=by
  intro k' hk'
  unfold wayB wayT
  rw [if_neg (by decide),if_neg (by decide),if_pos rfl,HX.out,HY.out,hk']
  exact ⟨rfl,rfl⟩
 have HP2:Hid (∀ k',piecesL x=k'→∀ j (hj:j < k'.length),k'[j].1=2→k'[j]=(2,0)):=fun k' hk' j hj h=>pieces_two x _ (by rw [hk'];exact List.getElem_mem hj) h
 clear hq hx hy
 go_enter Tryz.func325,Tryz.ntmps325
 go_wp2_with fail
 refine (look_call true k _ hk).mono ?_
 rintro e w1 ⟨rfl,hb1⟩
 rw [HX.out]
 have c1:w1.cell? ⟨q,0,none⟩=some (.func (.func 353) #[] #[]):=(hb1.cell (p:=⟨q,0,none⟩) hql).trans hq'
 have HB1:=hide hb1
 clear hb1 hq'
 go_wp2_with fail
 refine (mpieces_any (strA x) w1 (by rw [strA_size];omega)).mono ?_
 rintro e w2 ⟨lv,rfl,ho2,hb2⟩
 rw [show (strA x).data.toList=x from rfl] at ho2
 obtain ⟨pc,hpc⟩:∃ pc,piecesL x=pc:=⟨_,rfl⟩
 have HTW':=hide (HTW.out pc hpc)
 have HP2':=hide (HP2.out pc hpc)
 rw [hpc] at ho2 hpl
 have c2:w2.cell? ⟨q,0,none⟩=some (.func (.func 353) #[] #[]):=(hb2.cell (p:=⟨q,0,none⟩) (cell_lt c1)).trans c1
 have HB2:=hide (HB1.out.trans (hb2.mono HB1.out.size))
 have HO2:=hide ho2
 clear ho2 hb2 c1 hpc HTW HP2
 go_wp2_with fail
 refine (look_call true v _ hv).mono ?_
 rintro e w3 ⟨rfl,hb3⟩
 rw [HY.out]
 have HB3:=hide (HB2.out.trans (hb3.mono HB2.out.size))
 have HO3:=hide (owns_below HO2.out hb3)
 clear hb3 c2
 go_wp2_with fail
 refine (fit_any (strA y) pc lv w1.heap.size w3 (by rw [strA_size];omega) (by omega) HO3.out HP2'.out).mono ?_
 rintro e w4 ⟨hf,hb4⟩
 have HB4:=hide (HB3.out.trans (hb4.mono HB3.out.size))
 have HO4:=hide (owns_below HO3.out hb4)
 clear hb4
 rcases hf with ⟨hm,g,hg,rfl,hbk⟩ | ⟨hm,rfl⟩
 ·have HBK:=hide hbk
  have HM:=hide hm
  clear hbk hm
  go_wp2_with fail
  refine (parts_any (strA v) pc lv w1.heap.size g (placesL pc y 0) w4 (by rw [strA_size];omega) (by omega) HO4.out HBK.out (places_len pc y 0) (fun i hi=>?_)).mono ?_
  ·obtain ⟨a,b,h1,h2,h3,h4,h5⟩:=places_up pc y 0 HM.out i hi
   rw [List.getD_eq_getElem?_getD,List.getD_eq_getElem?_getD,h1,h2,strA_size]
   exact ⟨h4,by show b≤_;omega⟩
  rintro e w5 ⟨tv,rfl,ho5,hb5⟩
  have HB5:=hide (HB4.out.trans (hb5.mono HB4.out.size))
  obtain ⟨r,hr⟩:=toldTo_head v pc (placesL pc y 0) pc.length
  have hs4:=HB4.out.size
  obtain ⟨g5,c5,htv,hg5,hl5⟩:=owns_form ho5 (by rw [show (strA v).data.toList=v from rfl,hr];simp)
  subst htv
  have HT5:=hide (TxtB.of_owns ho5)
  have HTT:=HTW'.out.2
  have HTT':=hide HTT
  rw [show (strA v).data.toList=v from rfl] at HT5 ⊢
  obtain ⟨n5,hn5⟩:∃ n,(toldTo v pc (placesL pc y 0) pc.length).length=n:=⟨_,rfl⟩
  have HN:=hide hn5
  rw [hn5]
  clear hn5 hr HTT ho5
  go_wp2
  go_ret2
  exact ⟨HB5.out,Or.inr (Or.inr ⟨HTW'.out.1.trans HM.out,_,g5,c5,HTT'.out,by rw [HN.out];rfl,by omega,HT5.out⟩)⟩
 ·have HM:=hide hm
  clear hm
  go_wp2
  go_ret2
  exact ⟨HB4.out,Or.inl ⟨HTW'.out.1.trans HM.out,rfl⟩⟩
theorem toldTo_le (v:List UInt8) (key:List (Nat×UInt8)) (pl:List Nat) (k:Nat):∀ x∈toldTo v key pl k,x.length≤v.length:=by
 induction k with
 | zero=>intro x hx;rw [toldTo] at hx;simp at hx;rw [hx];exact Nat.le_refl _
 | succ k ih=>
  intro x hx
  rw [toldTo,List.mem_append] at hx
  rcases hx with hx | hx
  ·exact ih x hx
  ·split at hx
   ·cases hx
   ·simp at hx;rw [hx];simp;omega
theorem wayT_bd {tag:Int} {oct:Bool} {v k:List UInt8} {t:List (List UInt8)} (h:wayT tag oct v k=some t):(∀ x∈t,x.length≤v.length)∧t.length≤k.length+1:=by
 unfold wayT at h
 split at h
 ·cases h
  refine ⟨toldTo_le _ _ _ _,?_⟩
  have h1:=toldTo_len v (piecesL (lookL oct k)) (placesL (piecesL (lookL oct k)) (lookL oct v) 0) (piecesL (lookL oct k)).length
  have h2:=pieces_le (lookL oct k)
  rw [look_len] at h2
  omega
 ·cases h
theorem by2_any (oct:Bool) (q:Nat) (v k:List UInt8) (w:World) (hv:v.length≤1000000) (hk:k.length≤1000000) (hq:w.cell? ⟨q,0,none⟩=some (lookV oct)) :
  Calls Tryz.prog 325 #[.string (strA v),.string (strA k),.pointer (some ⟨q,0,none⟩)] w (WayPost 3 oct v k w):=by
 cases oct
 ·exact by2_small q v k w hv hk hq
 ·exact by2_oct q v k w hv hk hq
end
section
open Go.RowKit
attribute [local go_sem ↓] Go.wp_at_zero Go.wp_at_succ
def AskPost (r:Bool×SS) (B sb:Nat) (M:Msg) (w:World) (e:Ending) (w':World):Prop:=
 e=.returned (.bool r.1)∧SAt w' B sb M r.2∧Fr (PSt B) w w'
theorem SBd.told' {M:Msg} {s:SS} (b:SBd M s) (t:List (List UInt8)) (h1:∀ x∈t,x.length≤100000) (h2:t.length≤1000000):SBd M (toldL s t):=⟨b.fr,b.to,b.hl,b.hd,h1,h2,b.vals,b.met⟩
theorem SI.setTold {w:World} {B sb:Nat} {M:Msg} {s:SS} {hv:Value} {mb:Nat} {tv mv:Value} (h:SI w B sb M s hv mb tv mv) (t:List (List UInt8)) (v:Value) (ht:SlT w v t) (h1:∀ x∈t,x.length≤100000) (h2:t.length≤1000000):SI (w.setCell ⟨sb,6,none⟩ v) B sb M (toldL s t) hv mb v mv:=by
 have hf:Fr (fun k _=>k=sb) w (w.setCell ⟨sb,6,none⟩ v):=(Fr.refl _ w).set h.blk rfl 6 v
 have hne:∀ (k:Nat) (o:Obj),w.heap[k]?=some o→(∀ cs,o≠.cells cs 323)→k≠sb:=fun k o hk ho e=>by
  subst e;rw [h.blk] at hk;cases hk;exact ho _ rfl
 obtain ⟨es,c,hm,hu⟩:=h.mp
 obtain ⟨m,h7⟩:=h.m1
 refine ⟨h.bs,h.bm,h.b1,⟨m,?_⟩,?_,?_,⟨es,c,hf.block _ _ hm (hne _ _ hm (fun cs e=>by cases e)),hu⟩,?_,?_,h.mn,h.bd.told' t h1 h2⟩
 ·have:(1:Nat)≠sb:=by have:=h.b1;have:=h.bs;omega
  rw [World.cell?_of_block (a:=⟨1,0,none⟩) (Below.heap_setCell _ _ _ _ this)];exact h7
 ·exact heap_setCell_at _ _ _ _ _ _ h.blk
 ·rcases h.hd with h' | ⟨g,c,cs,hv',hb,hc⟩
  ·exact Or.inl h'
  ·exact Or.inr ⟨g,c,cs,hv',hf.block _ _ hb (hne _ _ hb (fun cs e=>by injection e with e1 e2;exact absurd e2 (by decide))),hc⟩
 ·rcases ht with h' | ⟨g,c,hv',cs,hb,hc⟩
  ·exact Or.inl h'
  ·exact Or.inr ⟨g,c,hv',cs,hf.block _ _ hb (hne _ _ hb (fun cs e=>by injection e with e1 e2;exact absurd e2 (by decide))),hc⟩
 ·obtain ⟨h1,h2⟩:=h.met
  refine ⟨h1,?_⟩
  rcases h2 with h2 | ⟨g,cap,cur,hv',hg,hh,r⟩
  ·exact Or.inl h2
  ·exact Or.inr ⟨g,cap,cur,hv',hg,hf.block _ _ hh (hne _ _ hh (fun cs e=>by injection e with e1 e2;exact absurd e2 (by decide))),r⟩
theorem keyL_step {tag:Int} {oct:Bool} {v:List UInt8} (ks:List (List UInt8)) (j:Nat) (hj:j < ks.length):keyL tag oct v (ks.drop j)=if wayB tag oct v ks[j] then some ks[j] else keyL tag oct v (ks.drop (j+1)):=by
 rw [List.drop_eq_getElem_cons hj];rfl
theorem hitL_step {tag:Int} {oct:Bool} {ks:List (List UInt8)} (vs:List (List UInt8)) (i:Nat) (hi:i < vs.length):hitL tag oct ks (vs.drop i)=match keyL tag oct vs[i] ks with | some k=>some (vs[i],k) | none=>hitL tag oct ks (vs.drop (i+1)):=by
 rw [List.drop_eq_getElem_cons hi];rfl
theorem hitL_none {tag:Int} {oct:Bool} {ks:List (List UInt8)} {vs:List (List UInt8)} {i:Nat} {hi:i < vs.length} (h:keyL tag oct vs[i] ks=none):hitL tag oct ks (vs.drop i)=hitL tag oct ks (vs.drop (i+1)):=by
 rw [hitL_step vs i hi,h]
theorem hitL_some {tag:Int} {oct:Bool} {ks:List (List UInt8)} {vs:List (List UInt8)} {i:Nat} {hi:i < vs.length} {k:List UInt8} (h:keyL tag oct vs[i] ks=some k):hitL tag oct ks (vs.drop i)=some (vs[i],k):=by
 rw [hitL_step vs i hi,h]
theorem askL_miss {s:SS} {tag:Int} {oct:Bool} {vals keys:List (List UInt8)} (h:hitL tag oct (keys.map (expL s)) vals=none):askL s tag oct vals keys=(false,s):=by unfold askL;rw [h]
theorem askL_un {s:SS} {tag:Int} {oct:Bool} {vals keys:List (List UInt8)} {v k:List UInt8} (h:hitL tag oct (keys.map (expL s)) vals=some (v,k)) (ht:wayT tag oct v k=none):askL s tag oct vals keys=(true,s):=by unfold askL;rw [h];dsimp only;rw [ht]
theorem askL_told {s:SS} {tag:Int} {oct:Bool} {vals keys:List (List UInt8)} {v k:List UInt8} {t:List (List UInt8)} (h:hitL tag oct (keys.map (expL s)) vals=some (v,k)) (ht:wayT tag oct v k=some t):askL s tag oct vals keys=(true,toldL s t):=by unfold askL;rw [h];dsimp only;rw [ht]
theorem matches_by2 (tag:Int) (oct:Bool) (p:Nat) (B sb:Nat) (M:Msg) (s:SS) (vals keys:List (List UInt8)) (vv kv:Value) (w:World)
  (hw:∀ W v k,Below w.heap.size w W→v.length≤100000→k.length≤100000→Calls Tryz.prog 325 #[.string (strA v),.string (strA k),.pointer (some ⟨p,0,none⟩)] W (WayPost tag oct v k W))
  (h:SAt w B sb M s) (hvv:SlT w vv vals) (hkv:SlT w kv keys) (hvl:∀ z∈vals,z.length≤100000) (hkl:∀ z∈keys,z.length≤100000) (hvn:vals.length≤1000000000000) (hkn:keys.length≤1000000) :
  Calls Tryz.prog 273 #[.pointer (some ⟨sb,0,none⟩),.func (.func 325) #[] #[.pointer (some ⟨p,0,none⟩)],vv,kv] w (AskPost (askL s tag oct vals keys) B sb M w):=by
 obtain ⟨va,vc,hvv'⟩:=hvv.len
 subst hvv'
 have HVV:=hide hvv
 have HS:=hide h
 have HW:=hide hw
 have HVL:=hide hvl
 go_enter Tryz.func273,Tryz.ntmps273
 go_wp2_with fail
 refine (texts_any B sb M s keys _ w h hkv (fun z hz=>Nat.le_trans (hkl z hz) (by decide)) hkn).mono ?_
 rintro e w1 ⟨v1,rfl,ho1,hb1⟩
 have HT:=hide (SlT.of_owns ho1 (by simp))
 have HB1:=hide hb1
 obtain ⟨ta,tc,htv⟩:=owns_len ho1
 subst htv
 have hyl:∀ y∈keys.map (expL s),y.length≤100000:=exps_len s keys _ hkl (by decide)
 have hzl:keys.length=(keys.map (expL s)).length:=by simp
 obtain ⟨ks,hks⟩:∃ ks,keys.map (expL s)=ks:=⟨_,rfl⟩
 have HKS:=hide hks
 have HYL:=hide hyl
 rw [hks] at HT HYL hzl
 rw [hzl] at hkn HT
 rw [hzl]
 clear ho1 hyl hzl hb1 hkv hkl h hvv hvl hw hks
 go_wp2_with fail
 go_loopw [10,12,13,14,20] (fun _ _ _ _ i wr=>∃ (a:Nat),a≤vals.length∧i=.int .i64 (a:Int)∧Below w.heap.size w wr∧Below w1.heap.size w1 wr∧hitL tag oct ks vals=hitL tag oct ks (vals.drop a)) (fun _ _ _ _ i _=>vals.length - (intOf i).toNat)
 case atStart=>exact ⟨0,Nat.zero_le _,rfl,HB1.out,Below.refl _ _,rfl⟩
 case round=>
  obtain ⟨a,ha,rfl,hB,hBB,hhit⟩:=hrel
  have HB:=hide hB
  have HBB:=hide hBB
  have HA:=hide hhit
  clear hB hBB hhit
  by_cases hlt:a < vals.length
  rotate_left
  ·have hk':¬ (a:Int) < (vals.length:Int):=by omega
   have HD:=hide (drop_end vals a hlt)
   go_wp2
   go_ret
   have hm:=askL_miss (s:=s) (tag:=tag) (oct:=oct) (vals:=vals) (keys:=keys) (by rw [HKS.out,HA.out,HD.out];rfl)
   rw [hm]
   exact ⟨rfl,HS.out.below HB.out,Fr.of_below HB.out⟩
  have hk':(a:Int) < (vals.length:Int):=by omega
  obtain ⟨g,hla,hgl,hc1⟩:=HVV.out.get' a hlt
  subst hla
  have c1:wr.cell? ⟨g,a,none⟩=some (.string (strA vals[a])):=by rw [HB.out.cell (p:=⟨g,a,none⟩) hgl];exact hc1
  have hvk:=HVL.out _ (List.getElem_mem hlt)
  obtain ⟨v,hv⟩:∃ v,vals[a]=v:=⟨_,rfl⟩
  have HV:=hide hv
  rw [hv] at c1 hvk
  clear hv hc1
  go_wp2_with fail
  go_loopw [12,13,14,26] (fun _ _ _ i wr=>∃ (j:Nat),j≤ks.length∧i=.int .i64 (j:Int)∧Below w.heap.size w wr∧Below w1.heap.size w1 wr∧keyL tag oct v ks=keyL tag oct v (ks.drop j)) (fun _ _ _ i _=>ks.length - (intOf i).toNat)
  case atStart=>exact ⟨0,Nat.zero_le _,rfl,HB.out,HBB.out,rfl⟩
  case round=>
   obtain ⟨j,hj,rfl,hB2,hBB2,hkey⟩:=hrel
   have HB2:=hide hB2
   have HBB2:=hide hBB2
   have HK:=hide hkey
   clear hB2 hBB2 hkey
   by_cases hjl:j < ks.length
   rotate_left
   ·have hj':¬ (j:Int) < (ks.length:Int):=by omega
    have HD:=hide (drop_end ks j hjl)
    go_wp2
    refine ⟨⟨a+1,by omega,by go_num,HB2.out,HBB2.out,?_⟩,by simp [intOf];omega⟩
    rw [HA.out]
    exact hitL_none (hi:=hlt) (by rw [HV.out,HK.out,HD.out];rfl)
   have hj':(j:Int) < (ks.length:Int):=by omega
   obtain ⟨g2,hla2,hgl2,hc2⟩:=HT.out.get' j hjl
   subst hla2
   have c2:wr.cell? ⟨g2,j,none⟩=some (.string (strA ks[j])):=by rw [HBB2.out.cell (p:=⟨g2,j,none⟩) hgl2];exact hc2
   have hkk:=HYL.out _ (List.getElem_mem hjl)
   have HKT:=hide (keyL_step (tag:=tag) (oct:=oct) (v:=v) ks j hjl)
   generalize ks[j]=k at *
   clear hc2
   go_wp2_with fail
   refine (HW.out _ v k HB2.out hvk hkk).mono ?_
   rintro e w3 ⟨hb3,hcase⟩
   have HB3:=hide (HB2.out.trans (hb3.mono HB2.out.size))
   have HBB3:=hide (HBB2.out.trans (hb3.mono HBB2.out.size))
   clear hb3
   rcases hcase with ⟨hwb,rfl⟩ | ⟨hwb,hwt,rfl⟩ | ⟨hwb,t,g3,c3,hwt,rfl,hg3,htx⟩
   ·rw [hwb] at HKT
    clear hwb
    go_wp2
    refine ⟨⟨j+1,by omega,by go_num,HB3.out,HBB3.out,?_⟩,by simp [intOf];omega⟩
    rw [HK.out,HKT.out]
    rfl
   ·rw [hwb] at HKT
    have HWT:=hide hwt
    clear hwb hwt
    go_wp2
    go_ret
    have hm:=askL_un (s:=s) (tag:=tag) (oct:=oct) (vals:=vals) (keys:=keys) (v:=v) (k:=k) (by rw [HKS.out,HA.out,hitL_some (hi:=hlt) (k:=k) (by rw [HV.out,HK.out,HKT.out];rfl),HV.out]) HWT.out
    rw [hm]
    exact ⟨rfl,HS.out.below HB3.out,Fr.of_below HB3.out⟩
   ·rw [hwb] at HKT
    have HWT:=hide hwt
    have hbd:=wayT_bd hwt
    obtain ⟨hv',mb,tv,mv,hSI⟩:=HS.out.below HB3.out
    have HSI:=hide hSI
    have cc6:w3.cell? ⟨sb,6,none⟩=some tv:=hSI.cell 6
    have ff6:=hSI.frozen 6
    have HTX:=hide htx
    have htl:=hbd.2
    have HT1:=hide hbd.1
    clear hwb hwt hSI htx hbd
    go_wp2
    go_ret
    have hm:=askL_told (s:=s) (tag:=tag) (oct:=oct) (vals:=vals) (keys:=keys) (v:=v) (k:=k) (t:=t) (by rw [HKS.out,HA.out,hitL_some (hi:=hlt) (k:=k) (by rw [HV.out,HK.out,HKT.out];rfl),HV.out]) HWT.out
    rw [hm]
    refine ⟨rfl,⟨hv',mb,_,mv,HSI.out.setTold t _ (Or.inr ⟨g3,c3,rfl,HTX.out⟩) (fun x hx=>Nat.le_trans (HT1.out x hx) hvk) (by omega)⟩,?_⟩
    exact (Fr.of_below HB3.out).set HSI.out.blk HSI.out.ps _ _
theorem matches_un (tag:Int) (oct:Bool) (p q:Nat) (B sb:Nat) (M:Msg) (s:SS) (vals keys:List (List UInt8)) (vv kv:Value) (w:World)
  (hw:∀ W v k,Below w.heap.size w W→v.length≤100000→k.length≤100000→Calls Tryz.prog 354 #[.string (strA v),.string (strA k),.pointer (some ⟨p,0,none⟩),.pointer (some ⟨q,0,none⟩)] W (WayPost tag oct v k W))
  (h:SAt w B sb M s) (hvv:SlT w vv vals) (hkv:SlT w kv keys) (hvl:∀ z∈vals,z.length≤100000) (hkl:∀ z∈keys,z.length≤100000) (hvn:vals.length≤1000000000000) (hkn:keys.length≤1000000) :
  Calls Tryz.prog 273 #[.pointer (some ⟨sb,0,none⟩),.func (.func 354) #[] #[.pointer (some ⟨p,0,none⟩),.pointer (some ⟨q,0,none⟩)],vv,kv] w (AskPost (askL s tag oct vals keys) B sb M w):=by
 obtain ⟨va,vc,hvv'⟩:=hvv.len
 subst hvv'
 have HVV:=hide hvv
 have HS:=hide h
 have HW:=hide hw
 have HVL:=hide hvl
 go_enter Tryz.func273,Tryz.ntmps273
 go_wp2_with fail
 refine (texts_any B sb M s keys _ w h hkv (fun z hz=>Nat.le_trans (hkl z hz) (by decide)) hkn).mono ?_
 rintro e w1 ⟨v1,rfl,ho1,hb1⟩
 have HT:=hide (SlT.of_owns ho1 (by simp))
 have HB1:=hide hb1
 obtain ⟨ta,tc,htv⟩:=owns_len ho1
 subst htv
 have hyl:∀ y∈keys.map (expL s),y.length≤100000:=exps_len s keys _ hkl (by decide)
 have hzl:keys.length=(keys.map (expL s)).length:=by simp
 obtain ⟨ks,hks⟩:∃ ks,keys.map (expL s)=ks:=⟨_,rfl⟩
 have HKS:=hide hks
 have HYL:=hide hyl
 rw [hks] at HT HYL hzl
 rw [hzl] at hkn HT
 rw [hzl]
 clear ho1 hyl hzl hb1 hkv hkl h hvv hvl hw hks
 go_wp2_with fail
 go_loopw [10,12,13,14,20] (fun _ _ _ _ i wr=>∃ (a:Nat),a≤vals.length∧i=.int .i64 (a:Int)∧Below w.heap.size w wr∧Below w1.heap.size w1 wr∧hitL tag oct ks vals=hitL tag oct ks (vals.drop a)) (fun _ _ _ _ i _=>vals.length - (intOf i).toNat)
 case atStart=>exact ⟨0,Nat.zero_le _,rfl,HB1.out,Below.refl _ _,rfl⟩
 case round=>
  obtain ⟨a,ha,rfl,hB,hBB,hhit⟩:=hrel
  have HB:=hide hB
  have HBB:=hide hBB
  have HA:=hide hhit
  clear hB hBB hhit
  by_cases hlt:a < vals.length
  rotate_left
  ·have hk':¬ (a:Int) < (vals.length:Int):=by omega
   have HD:=hide (drop_end vals a hlt)
   go_wp2
   go_ret
   have hm:=askL_miss (s:=s) (tag:=tag) (oct:=oct) (vals:=vals) (keys:=keys) (by rw [HKS.out,HA.out,HD.out];rfl)
   rw [hm]
   exact ⟨rfl,HS.out.below HB.out,Fr.of_below HB.out⟩
  have hk':(a:Int) < (vals.length:Int):=by omega
  obtain ⟨g,hla,hgl,hc1⟩:=HVV.out.get' a hlt
  subst hla
  have c1:wr.cell? ⟨g,a,none⟩=some (.string (strA vals[a])):=by rw [HB.out.cell (p:=⟨g,a,none⟩) hgl];exact hc1
  have hvk:=HVL.out _ (List.getElem_mem hlt)
  obtain ⟨v,hv⟩:∃ v,vals[a]=v:=⟨_,rfl⟩
  have HV:=hide hv
  rw [hv] at c1 hvk
  clear hv hc1
  go_wp2_with fail
  go_loopw [12,13,14,26] (fun _ _ _ i wr=>∃ (j:Nat),j≤ks.length∧i=.int .i64 (j:Int)∧Below w.heap.size w wr∧Below w1.heap.size w1 wr∧keyL tag oct v ks=keyL tag oct v (ks.drop j)) (fun _ _ _ i _=>ks.length - (intOf i).toNat)
  case atStart=>exact ⟨0,Nat.zero_le _,rfl,HB.out,HBB.out,rfl⟩
  case round=>
   obtain ⟨j,hj,rfl,hB2,hBB2,hkey⟩:=hrel
   have HB2:=hide hB2
   have HBB2:=hide hBB2
   have HK:=hide hkey
   clear hB2 hBB2 hkey
   by_cases hjl:j < ks.length
   rotate_left
   ·have hj':¬ (j:Int) < (ks.length:Int):=by omega
    have HD:=hide (drop_end ks j hjl)
    go_wp2
    refine ⟨⟨a+1,by omega,by go_num,HB2.out,HBB2.out,?_⟩,by simp [intOf];omega⟩
    rw [HA.out]
    exact hitL_none (hi:=hlt) (by rw [HV.out,HK.out,HD.out];rfl)
   have hj':(j:Int) < (ks.length:Int):=by omega
   obtain ⟨g2,hla2,hgl2,hc2⟩:=HT.out.get' j hjl
   subst hla2
   have c2:wr.cell? ⟨g2,j,none⟩=some (.string (strA ks[j])):=by rw [HBB2.out.cell (p:=⟨g2,j,none⟩) hgl2];exact hc2
   have hkk:=HYL.out _ (List.getElem_mem hjl)
   have HKT:=hide (keyL_step (tag:=tag) (oct:=oct) (v:=v) ks j hjl)
   generalize ks[j]=k at *
   clear hc2
   go_wp2_with fail
   refine (HW.out _ v k HB2.out hvk hkk).mono ?_
   rintro e w3 ⟨hb3,hcase⟩
   have HB3:=hide (HB2.out.trans (hb3.mono HB2.out.size))
   have HBB3:=hide (HBB2.out.trans (hb3.mono HBB2.out.size))
   clear hb3
   rcases hcase with ⟨hwb,rfl⟩ | ⟨hwb,hwt,rfl⟩ | ⟨hwb,t,g3,c3,hwt,rfl,hg3,htx⟩
   ·rw [hwb] at HKT
    clear hwb
    go_wp2
    refine ⟨⟨j+1,by omega,by go_num,HB3.out,HBB3.out,?_⟩,by simp [intOf];omega⟩
    rw [HK.out,HKT.out]
    rfl
   ·rw [hwb] at HKT
    have HWT:=hide hwt
    clear hwb hwt
    go_wp2
    go_ret
    have hm:=askL_un (s:=s) (tag:=tag) (oct:=oct) (vals:=vals) (keys:=keys) (v:=v) (k:=k) (by rw [HKS.out,HA.out,hitL_some (hi:=hlt) (k:=k) (by rw [HV.out,HK.out,HKT.out];rfl),HV.out]) HWT.out
    rw [hm]
    exact ⟨rfl,HS.out.below HB3.out,Fr.of_below HB3.out⟩
   ·rw [hwb] at HKT
    have HWT:=hide hwt
    have hbd:=wayT_bd hwt
    obtain ⟨hv',mb,tv,mv,hSI⟩:=HS.out.below HB3.out
    have HSI:=hide hSI
    have cc6:w3.cell? ⟨sb,6,none⟩=some tv:=hSI.cell 6
    have ff6:=hSI.frozen 6
    have HTX:=hide htx
    have htl:=hbd.2
    have HT1:=hide hbd.1
    clear hwb hwt hSI htx hbd
    go_wp2
    go_ret
    have hm:=askL_told (s:=s) (tag:=tag) (oct:=oct) (vals:=vals) (keys:=keys) (v:=v) (k:=k) (t:=t) (by rw [HKS.out,HA.out,hitL_some (hi:=hlt) (k:=k) (by rw [HV.out,HK.out,HKT.out];rfl),HV.out]) HWT.out
    rw [hm]
    refine ⟨rfl,⟨hv',mb,_,mv,HSI.out.setTold t _ (Or.inr ⟨g3,c3,rfl,HTX.out⟩) (fun x hx=>Nat.le_trans (HT1.out x hx) hvk) (by omega)⟩,?_⟩
    exact (Fr.of_below HB3.out).set HSI.out.blk HSI.out.ps _ _
theorem matches_any (tag:Int) (oct:Bool) (B sb:Nat) (M:Msg) (s:SS) (vals keys:List (List UInt8)) (wv vv kv:Value) (w:World) (hw:WayV w tag oct wv)
  (h:SAt w B sb M s) (hvv:SlT w vv vals) (hkv:SlT w kv keys) (hvl:∀ z∈vals,z.length≤100000) (hkl:∀ z∈keys,z.length≤100000) (hvn:vals.length≤1000000000000) (hkn:keys.length≤1000000) :
  Calls Tryz.prog 273 #[.pointer (some ⟨sb,0,none⟩),wv,vv,kv] w (AskPost (askL s tag oct vals keys) B sb M w):=by
 rcases hw with ⟨rfl,p,rfl,hp⟩ | ⟨p,q,rfl,hq,hh⟩
 ·refine matches_by2 3 oct p B sb M s vals keys vv kv w (fun W v k hW h1 h2=>?_) h hvv hkv hvl hkl hvn hkn
  exact by2_any oct p v k W (by omega) (by omega) ((hW.cell (p:=⟨p,0,none⟩) (cell_lt hp)).trans hp)
 ·refine matches_un tag oct p q B sb M s vals keys vv kv w (fun W v k hW h1 h2=>?_) h hvv hkv hvl hkl hvn hkn
  have hq':=(hW.cell (p:=⟨q,0,none⟩) (cell_lt hq)).trans hq
  rcases hh with ⟨rfl,hp⟩ | ⟨rfl,hp⟩
  ·exact untoldIs_call oct p q v k W (by omega) (by omega) hq' ((hW.cell (p:=⟨p,0,none⟩) (cell_lt hp)).trans hp)
  ·obtain ⟨hv,mb,tv,mv,hS⟩:=h
   obtain ⟨m,hm⟩:=hS.m1
   exact untoldHas_call oct p q v k W (by omega) (by omega) hq' ((hW.cell (p:=⟨p,0,none⟩) (cell_lt hp)).trans hp) m ((hW.cell (p:=⟨1,0,none⟩) (cell_lt hm)).trans hm)
end
end Go.Proofs.YtbiclelojbfnbaaGreatDoor
