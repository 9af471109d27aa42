import Derived.Sort.OwnSorted
import Derived.Test.YtenahlandohgaaaGreatDoorZDUp
import Derived.Test.YtenahlandohgaaaGreatDoorNext
import Derived.Test.YtenahlandohgaaaGreatDoorZPlainRun
import Derived.Test.YtenahlandohgaaaGreatDoorShelf
namespace Go.Proofs.YtenahlandohgaaaGreatDoor
set_option linter.unusedVariables false
set_option linter.unusedSimpArgs false
set_option maxRecDepth 100000
set_option maxHeartbeats 4000000
section
open Go.RowKit Go.Maps Go.Sort
attribute [local go_sem ↓] Go.wp_at_zero Go.wp_at_succ
def NamV (w:World) (B:Nat) (v:Value) (l:List (List UInt8)):Prop:=w.ownsRow B 9 1 v l.length (l.map encStr)
theorem fs_mem {w:World} {D0:DataW Unit} {N:Fs} (h:FsAt w D0 N) (x:List UInt8):Maps.has D0 (.string x)=true↔(N x).isSome=true:=by
 cases hx:N x with
 | none=>rw [h.1 x hx];simp
 | some s=>obtain ⟨k,h1,_⟩:=h.2 x s hx;rw [Maps.has_true_of_atKey h1];simp
theorem oneS (x:ByteArray):∀ u∈[Value.string x],u.oneCell'=true:=by
 intro u hu
 simp only [List.mem_singleton] at hu
 subst hu
 rfl
theorem below_grown2 {B:Nat} {u w w':World} {o:Obj} {row:Option Nat} (h:Below B u w) (hB:B≤w.heap.size) (hg:(w.alloc o).grownBy w' row) (hr:∀ k,row=some k→B≤k):Below B u w':=
 (h.alloc hB o).grown hg (by simp;omega) hr
theorem names_all (B db bd bn n:Nat) (D N:Fs) (p:List Dop) (q:Int) (pv:Value) (w:World) (h:DI w B db bd bn n D N p q pv) (hn:n≤500000) :
 Calls Tryz.prog 337 #[.pointer (some ⟨db,0,none⟩)] w fun e w'=>Below w.heap.size w w'∧∃ v l,e=.returned (.tuple #[v,.nilIface])∧NamV w' w.heap.size v l∧(∀ x,x∈l↔(N x).isSome=true)∧l.length≤n:=by
 obtain ⟨D0,hown,hFs⟩:=h.mn
 have hbl:=hown.lt
 have hdl:=blk_lt h.blk
 have c1:w.cell? ⟨db,1,none⟩=some (.map (some bn)):=blk_cell h.blk 1
 have c5:w.cell? ⟨db,5,none⟩=some (.bool false):=blk_cell h.blk 5
 have HMEM:=hide (fs_mem hFs)
 have HSZ:=hide (World.ownsMap.size_le hown)
 have HOW:=hide hown
 obtain ⟨i0,hi,hz0,hz1,hz2⟩:=info_parts Tryz.infoStr
 clear h hFs
 go_enter Tryz.func337,Tryz.ntmps337
 go_wp2_with (first | (at_range;refine wpList_range_own _ rfl _ 81 rfl 9 87 strK mapT _ bn n _ rfl hown ?_;intro w0 hrg0 hg0 hs0) | go_in)
 go_frame
 have HB0:Hid (Below w.heap.size w w0):=(Below.refl _ _).grown hg0 (Nat.le_refl _) (fun j hj=>by cases hj)
 clear hg0 hs0 c1 c5
 go_loopw [4,5] (fun v _ wr=>∃ (left:Lit→Bool) (cnt:Nat) (ss:List (List UInt8)),wr.ranges Tryz.prog 9 ptrR bn w.heap.size n D0 left cnt∧ss.length+cnt≤Maps.size D0∧NamV wr w.heap.size v ss∧Collected D0 left ss∧Below w.heap.size w wr∧w.heap.size < wr.heap.size) (fun _ _ wr=>wr.rangeLeft bn w.heap.size)
 case atStart=>exact ⟨_,_,[],hrg0,by simp,World.ownsRow_nil _ _ _ _,Collected.start D0,HB0.out,hrg0.lt⟩
 case round=>
  obtain ⟨left,cnt,ss,hrg,hcs,hrow,hC,hB,hsz⟩:=hrel
  have HC:=hide hC
  have HB:=hide hB
  have HRW:=hide hrow
  have hsn:=HSZ.out
  obtain ⟨va,vc,hvv⟩:=owns_len hrow
  subst hvv
  clear hC hB hrow hrg0
  go_wp2_with (first | (at_next;refine wpList_next_ranges _ rfl _ rfl 9 strK ptrR encStr ptrV invK invV bn w.heap.size n _ _ _ rfl hrg ?_ ?_) | go_in)
  ·intro hc0 hl0
   have HP:=hide (fun x=>(HC.out.2 x).trans ⟨fun h=>(HMEM.out x).1 h.1,fun h=>⟨(HMEM.out x).2 h,hl0 _⟩⟩)
   rcases HRW.out.2 with ⟨hv0,h0⟩ | ⟨g,cap,cur,hv,hg,hb,hle,hmx,hcs2,htk⟩
   ·injection hv0 with hv1 hv2 hv3
    subst hv1 hv3
    have hse:=List.eq_nil_of_length_eq_zero h0
    subst hse
    go_wp2_with (go_at_call 342;refine (Tryz.sort_Strings_none none 0 wr).mono ?_;rintro e w3 ⟨rfl,rfl⟩)
    go_ret2
    exact ⟨HB.out,_,[],rfl,HRW.out,HP.out,by simp⟩
   injection hv with hv1 hv2 hv3
   subst hv1 hv3
   have hgl:=blk_lt hb
   have HH:=hide (holds_of_block (ss:=ss) hb (by rw [← htk,Nat.mul_one]))
   have HSR:Hid (∀ k os,NamV (grow (putRow encStr (Sort.ahead wr k) g 0 (ss.mergeSort fun x y=>decide (x≤y)).toArray) os) w.heap.size (.slice (some ⟨g,0,none⟩) ss.length vc) (ss.mergeSort fun x y=>decide (x≤y))∧Below w.heap.size w (grow (putRow encStr (Sort.ahead wr k) g 0 (ss.mergeSort fun x y=>decide (x≤y)).toArray) os)):=fun k os=>by
    have hl:(ss.mergeSort fun x y=>decide (x≤y)).length=ss.length:=List.length_mergeSort _
    refine ⟨?_,HB.out.grown (grownBy_sorted _) HB.out.size (fun j hj=>by cases hj;exact hg)⟩
    unfold NamV
    rw [hl]
    exact ownsRow_sorted hl hg hb hle hmx hcs2
   clear hb hcs2 htk
   go_wp2_with (go_at_call 342;refine (Tryz.sort_Strings g 0 vc ss wr HH.out hgl (by omega)).mono ?_;rintro e w3 ⟨rfl,k3,os3,hw3⟩;obtain ⟨hN3,hB3⟩:=HSR.out k3 os3;rw [← hw3] at hN3 hB3;have HN3:=hide hN3;have HB3:=hide hB3;clear hN3 hB3 hw3)
   go_ret2
   exact ⟨HB3.out,_,_,rfl,HN3.out,fun x=>by rw [List.mem_mergeSort];exact HP.out x,by rw [List.length_mergeSort];omega⟩
  ·intro x c kl yd yp w1 cnt1 hkey hlk hv hat hrg1 hlt hg1 hs1 hen
   obtain ⟨x',ex,rfl,hxl⟩:=Maps.keyOf_str strT hkey
   obtain rfl:x=x':=encStr_inj ex
   have HST:=hide (HC.out.step hlk hat)
   have HB1:=hide (HB.out.grown hg1 HB.out.size (fun j hj=>by cases hj;exact Nat.le_refl _))
   have HR1:Hid (NamV w1 w.heap.size (.slice va ss.length vc) ss):=World.ownsRow.kept HRW.out hg1 (Or.inr (row_ne_iter HRW.out hrg).symm)
   have hw1:w.heap.size < w1.heap.size:=by omega
   clear hs1 ex hkey hv
   go_wp2_with (at_builtin;refine wpList_append_own_at _ rfl _ _ 72 rfl w.heap.size 9 i0 _ 1 16 Tryz.underlying72 hi hz0 hz1 hz2 rfl (by decide) _ _ _ rfl (World.ownsRow.alloc HR1.out _) ⟨w1.heap.size,0,none⟩ 1 1 [.string (strA x)] rfl rfl (cell_one_new _ _ _) (oneS _) (by unfold maxLen;omega) (by omega) (by simp;omega) ?_;intro v5 w5 ho5 hg5 _ hloc5;have HG5:Hid ((w1.alloc (.cells #[encStr x] 9)).grownBy w5 (Value.slice va ss.length vc).ownBlock):=hg5;have HO5:=hide ho5;clear ho5 hg5 hloc5)
   have hrg5:=(hrg1.alloc (.cells #[encStr x] 9)).kept HG5.out (row_ne_low HR1.out hbl) (row_ne_iter HR1.out hrg1)
   refine ⟨⟨_,cnt1,ss++[x],hrg5,by rw [List.length_append];simp;omega,?_,HST.out,below_grown2 HB1.out HB1.out.size HG5.out (fun k hk=>(World.ownsRow.lt HR1.out k hk).1),?_⟩,by rw [hrg5.left_eq,hrg.left_eq];exact hlt⟩
   ·have:=HO5.out
    unfold NamV
    rw [List.length_append,List.map_append]
    exact this
   ·have:=HG5.out.size
    simp at this
    omega
end
section
open Go.RowKit
attribute [local go_sem ↓] Go.wp_at_zero Go.wp_at_succ
def kJournal:List UInt8:=[46,106,111,117,114,110,97,108]
theorem containsN_any (B:Nat) (l:List (List UInt8)) (v:Value) (x:List UInt8) (w:World) (h:NamV w B v l) (hn:l.length≤1000000):Calls Tryz.prog 47 #[v,.string (strA x)] w fun e w'=>e=.returned (.bool (decide (x∈l)))∧w'=w:=by
 rcases h.2 with ⟨hv,h0⟩ | ⟨g,cap,cur,hv,hg,hb,hle,hmx,hcs2,htk⟩
 ·have hl:l=[]:=List.eq_nil_of_length_eq_zero h0
  subst hl
  rw [hv]
  refine (Tryz.slices_Contains_string_empty none 0 (strA x) w).mono ?_
  rintro e w' ⟨rfl,rfl⟩
  exact ⟨by simp,rfl⟩
 ·rw [hv]
  refine (Tryz.slices_Contains_string g 0 l.length cap (l.map strA) (strA x) w (by simp) (by omega) (fun j hj=>?_)).mono ?_
  ·have hj':j < l.length:=by simpa using hj
   have h1:=World.ownsRow.cells h (g:=g) (by rw [hv];rfl) j (.string (strA l[j])) (by rw [List.getElem?_map,List.getElem?_eq_getElem hj'];rfl)
   rw [addr_add0] at h1
   rw [Nat.zero_add,h1]
   simp [List.getD_eq_getElem?_getD,hj']
  ·rintro e w' ⟨rfl,rfl⟩
   refine ⟨?_,rfl⟩
   have e1:(l.map strA).take l.length=l.map strA:=List.take_of_length_le (by simp)
   rw [e1]
   congr 2
   rw [Bool.eq_iff_iff,Lib.containsS_iff]
   simp only [List.mem_map,decide_eq_true_eq]
   exact ⟨fun ⟨y,hy,e⟩=>by rw [← strA_inj e];exact hy,fun h=>⟨x,h,rfl⟩⟩
theorem journalName_any (B:Nat) (l:List (List UInt8)) (v:Value) (w:World) (h:NamV w B v l) (hn:l.length≤1000000) (hj:kJournal ∉ l) :
 Calls Tryz.prog 141 #[v] w fun e w'=>e=.returned (.string (strA kJournal))∧w'=w:=by
 have hc:=containsN_any B l v kJournal w h hn
 rw [decide_eq_false hj] at hc
 have HC:=hide hc
 clear hc
 go_enter Tryz.func141,Tryz.ntmps141
 go_wp2
 refine wp_loop_rounds 1 ?_
 rw [rounds_succ]
 go_wp2_with (go_at_call 47;refine HC.out.mono ?_;rintro e w' ⟨rfl,rfl⟩)
 go_ret
 exact ⟨rfl,rfl⟩
end
end Go.Proofs.YtenahlandohgaaaGreatDoor
