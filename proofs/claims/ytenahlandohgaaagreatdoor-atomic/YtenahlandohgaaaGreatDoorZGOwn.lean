import Derived.Sort.OwnSorted
import Derived.Test.YtenahlandohgaaaGreatDoorZDUp
import Derived.Test.YtenahlandohgaaaGreatDoorNext
import Derived.Test.YtenahlandohgaaaGreatDoorZPlainList
import Derived.Test.YtenahlandohgaaaGreatDoorShelf
namespace Go.Proofs.YtenahlandohgaaaGreatDoor
set_option linter.unusedVariables false
set_option linter.unusedSimpArgs false
set_option maxRecDepth 100000
set_option maxHeartbeats 4000000
section
open Go.RowKit Go.Maps Go.Sort
attribute [local go_sem ↓] Go.wp_at_zero Go.wp_at_succ
def NamV (w:World) (B:Nat) (v:Value) (l:List (List UInt8)):Prop:=w.ownsRow B 9 1 v l.length (l.map encStr)
theorem fs_mem {w:World} {D0:DataW Unit} {N:Fs} (h:FsAt w D0 N) (x:List UInt8):Maps.has D0 (.string x)=true↔(N x).isSome=true:=by
 cases hx:N x with
 | none=>rw [h.1 x hx];simp
 | some s=>obtain ⟨k,h1,_⟩:=h.2 x s hx;rw [Maps.has_true_of_atKey h1];simp
theorem oneS (x:ByteArray):∀ u∈[Value.string x],u.oneCell'=true:=by
 intro u hu
 simp only [List.mem_singleton] at hu
 subst hu
 rfl
theorem below_grown2 {B:Nat} {u w w':World} {o:Obj} {row:Option Nat} (h:Below B u w) (hB:B≤w.heap.size) (hg:(w.alloc o).grownBy w' row) (hr:∀ k,row=some k→B≤k):Below B u w':=
 (h.alloc hB o).grown hg (by simp;omega) hr
end
section
open Go.RowKit
attribute [local go_sem ↓] Go.wp_at_zero Go.wp_at_succ
def kJournal:List UInt8:=[46,106,111,117,114,110,97,108]
theorem containsN_any (B:Nat) (l:List (List UInt8)) (v:Value) (x:List UInt8) (w:World) (h:NamV w B v l) (hn:l.length≤1000000):Calls Tryz.prog 47 #[v,.string (strA x)] w fun e w'=>e=.returned (.bool (decide (x∈l)))∧w'=w:=by
 rcases h.2 with ⟨hv,h0⟩ | ⟨g,cap,cur,hv,hg,hb,hle,hmx,hcs2,htk⟩
 ·have hl:l=[]:=List.eq_nil_of_length_eq_zero h0
  subst hl
  rw [hv]
  refine (Tryz.slices_Contains_string_empty none 0 (strA x) w).mono ?_
  rintro e w' ⟨rfl,rfl⟩
  exact ⟨by simp,rfl⟩
 ·rw [hv]
  refine (Tryz.slices_Contains_string g 0 l.length cap (l.map strA) (strA x) w (by simp) (by omega) (fun j hj=>?_)).mono ?_
  ·have hj':j < l.length:=by simpa using hj
   have h1:=World.ownsRow.cells h (g:=g) (by rw [hv];rfl) j (.string (strA l[j])) (by rw [List.getElem?_map,List.getElem?_eq_getElem hj'];rfl)
   rw [addr_add0] at h1
   rw [Nat.zero_add,h1]
   simp [List.getD_eq_getElem?_getD,hj']
  ·rintro e w' ⟨rfl,rfl⟩
   refine ⟨?_,rfl⟩
   have e1:(l.map strA).take l.length=l.map strA:=List.take_of_length_le (by simp)
   rw [e1]
   congr 2
   rw [Bool.eq_iff_iff,Lib.containsS_iff]
   simp only [List.mem_map,decide_eq_true_eq]
   exact ⟨fun ⟨y,hy,e⟩=>by rw [← strA_inj e];exact hy,fun h=>⟨x,h,rfl⟩⟩
theorem journalName_any (B:Nat) (l:List (List UInt8)) (v:Value) (w:World) (h:NamV w B v l) (hn:l.length≤1000000) (hj:kJournal ∉ l) :
 Calls Tryz.prog 141 #[v] w fun e w'=>e=.returned (.string (strA kJournal))∧w'=w:=by
 have hc:=containsN_any B l v kJournal w h hn
 rw [decide_eq_false hj] at hc
 have HC:=hide hc
 clear hc
 go_enter Tryz.func141,Tryz.ntmps141
 go_wp2
 refine wp_loop_rounds 1 ?_
 rw [rounds_succ]
 go_wp2_with (go_at_call 47;refine HC.out.mono ?_;rintro e w' ⟨rfl,rfl⟩)
 go_ret
 exact ⟨rfl,rfl⟩
end
section
open Go.RowKit
attribute [local go_sem ↓] Go.wp_at_zero Go.wp_at_succ
theorem namV_get {w:World} {B:Nat} {a:Option Addr} {n c:Nat} {l:List (List UInt8)} (h:NamV w B (.slice a n c) l) (j:Nat) (hj:j < l.length):∃ g,a=some ⟨g,0,none⟩∧g < w.heap.size∧w.cell? ⟨g,j,none⟩=some (.string (strA l[j])):=by
 rcases h.2 with ⟨hv,h0⟩ | ⟨g,cap,cur,hv,hg,hb,hle,hmx,hcs2,htk⟩
 ·omega
 ·injection hv with h1 h2 h3
  refine ⟨g,h1,blk_lt hb,?_⟩
  have h4:=World.ownsRow.cells h (g:=g) (by rw [h1];rfl) j (.string (strA l[j])) (by rw [List.getElem?_map,List.getElem?_eq_getElem hj];rfl)
  rw [addr_add0] at h4
  exact h4
end
section
open Go.RowKit Go.Maps
attribute [local go_sem ↓] Go.wp_at_zero Go.wp_at_succ
def dotB (x:List UInt8):Bool:=Lib.hasPrefix x [46]
theorem gownNames_any (B:Nat) (l:List (List UInt8)) (v:Value) (w:World) (h:NamV w B v l) (hn:l.length≤1000000) :
 Calls Tryz.prog 165 #[v] w fun e w'=>∃ v',e=.returned v'∧NamV w' w.heap.size v' (l.filter dotB)∧Below w.heap.size w w':=by
 obtain ⟨va,vc,hvv⟩:=owns_len h
 subst hvv
 have HN:=hide h
 obtain ⟨i0,hi,hz0,hz1,hz2⟩:=info_parts Tryz.infoStr
 clear h
 go_enter Tryz.func165,Tryz.ntmps165
 go_wp2_with fail
 go_loopw [3,5,8] (fun o _ i wr=>∃ k:Nat,k≤l.length∧i=.int .i64 k∧NamV wr w.heap.size o ((l.take k).filter dotB)∧Below w.heap.size w wr) (fun _ _ i _=>l.length - (intOf i).toNat)
 case atStart=>exact ⟨0,Nat.zero_le _,rfl,World.ownsRow_nil _ _ _ _,Below.refl _ _⟩
 case round=>
  obtain ⟨k,hk,rfl,hrow,hB⟩:=hrel
  have HB:=hide hB
  have hsz:=hB.size
  have hfl:((l.take k).filter dotB).length≤1000000:=Nat.le_trans (List.length_filter_le _ _) (by rw [List.length_take];omega)
  obtain ⟨oa,oc,hoo⟩:=owns_len hrow
  subst hoo
  have HR:=hide hrow
  clear hB hrow
  by_cases hlt:k < l.length
  rotate_left
  ·have hz:¬ (k:Int) < (l.length:Int):=by omega
   rw [List.take_of_length_le (by omega)] at HR hfl ⊢
   generalize (l.filter dotB).length=fl at *
   go_wp2
   go_ret
   exact ⟨_,rfl,HR.out,HB.out⟩
  have hlt':(k:Int) < (l.length:Int):=by omega
  have HTK:Hid ((l.take (k+1)).filter dotB=(l.take k).filter dotB++(if dotB l[k]=true then [l[k]] else [])):=by
   show _=_
   rw [List.take_succ_eq_append_getElem hlt,List.filter_append]
   by_cases hd:dotB l[k]=true
   ·rw [if_pos hd,List.filter_cons_of_pos hd];rfl
   ·rw [if_neg hd,List.filter_cons_of_neg hd];rfl
  have HNr:Hid (NamV wr B (.slice va l.length vc) l):=owns_fr (P:=fun _ _=>False) HN.out (Fr.of_below HB.out) (fun _ _ h=>h)
  obtain ⟨g,hla,hgl,hc⟩:=namV_get HNr.out k hlt
  subst hla
  generalize l[k]=x at *
  generalize htt:(l.take k).filter dotB=T at *
  have HTT:=hide htt
  clear htt
  generalize htn:T.length=tn at *
  have HTN:=hide htn
  clear htn
  have HR2:Hid (wr.ownsRow w.heap.size 9 1 (.slice oa tn oc) tn (T.map encStr)):=by
   have:=HR.out
   unfold NamV at this
   rw [HTN.out] at this
   exact this
  by_cases hd:dotB x=true
  ·rw [if_pos hd] at HTK
   have HP:=hide hd
   clear hd
   go_wp2_with (first | (go_at_call 218;refine (Tryz.strings_HasPrefix _ _ _).mono ?_;rintro e w' ⟨rfl,hw'⟩;rw [hw'];clear hw';rw [show Lib.hasPrefix (strA x).data.toList _=true from HP.out]) | (at_builtin;refine wpList_append_own_at _ rfl _ _ 72 rfl w.heap.size 9 i0 _ 1 16 Tryz.underlying72 hi hz0 hz1 hz2 rfl (by decide) _ _ _ rfl (World.ownsRow.alloc HR2.out _) ⟨wr.heap.size,0,none⟩ 1 1 [.string (strA x)] rfl rfl (cell_one_new _ _ _) (oneS _) (by unfold maxLen;omega) (by omega) (by simp;omega) ?_;intro v5 w5 ho5 hg5 _ hloc5;have HG5:Hid ((wr.alloc (.cells #[.string (strA x)] 9)).grownBy w5 (Value.slice oa tn oc).ownBlock):=hg5;have HO5:=hide ho5;clear ho5 hg5 hloc5))
   have hB5:Below w.heap.size w w5:=below_grown2 HB.out HB.out.size HG5.out (fun k hk=>(World.ownsRow.lt HR2.out k hk).1)
   refine ⟨⟨k+1,by omega,by go_num,?_,hB5⟩,by simp [intOf];omega⟩
   rw [HTK.out]
   unfold NamV
   rw [List.length_append,List.map_append,HTN.out]
   exact HO5.out
  ·rw [if_neg hd,List.append_nil] at HTK
   have HP:Hid (dotB x=false):=by cases h:dotB x;rfl;exact absurd h hd
   clear hd
   go_wp2_with (go_at_call 218;refine (Tryz.strings_HasPrefix _ _ _).mono ?_;rintro e w' ⟨rfl,hw'⟩;rw [hw'];clear hw';rw [show Lib.hasPrefix (strA x).data.toList _=false from HP.out])
   refine ⟨⟨k+1,by omega,by go_num,?_,HB.out⟩,by simp [intOf];omega⟩
   rw [HTK.out]
   exact HR.out
end
end Go.Proofs.YtenahlandohgaaaGreatDoor
