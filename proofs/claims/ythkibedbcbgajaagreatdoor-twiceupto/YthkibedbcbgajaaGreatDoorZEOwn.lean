import Derived.Test.YthkibedbcbgajaaGreatDoorDNames
namespace Go.Proofs.YthkibedbcbgajaaGreatDoor
set_option linter.unusedVariables false
set_option linter.unusedSimpArgs false
set_option maxRecDepth 100000
set_option maxHeartbeats 4000000
section
open Go.RowKit
attribute [local go_sem ↓] Go.wp_at_zero Go.wp_at_succ
def kJournal:List UInt8:=[46,106,111,117,114,110,97,108]
theorem containsN_any (B:Nat) (l:List (List UInt8)) (v:Value) (x:List UInt8) (w:World) (h:NamV w B v l) (hn:l.length≤1000000):Calls Tryz.prog 37 #[v,.string (strA x)] w fun e w'=>e=.returned (.bool (decide (x∈l)))∧w'=w:=by
 rcases h.2 with ⟨hv,h0⟩ | ⟨g,cap,cur,hv,hg,hb,hle,hmx,hcs2,htk⟩
 ·have hl:l=[]:=List.eq_nil_of_length_eq_zero h0
  subst hl
  rw [hv]
  refine (Tryz.slices_Contains_string_empty none 0 (strA x) w).mono ?_
  rintro e w' ⟨rfl,rfl⟩
  exact ⟨by simp,rfl⟩
 ·rw [hv]
  refine (Tryz.slices_Contains_string g 0 l.length cap (l.map strA) (strA x) w (by simp) (by omega) (fun j hj=>?_)).mono ?_
  ·have hj':j < l.length:=by simpa using hj
   have h1:=World.ownsRow.cells h (g:=g) (by rw [hv];rfl) j (.string (strA l[j])) (by rw [List.getElem?_map,List.getElem?_eq_getElem hj'];rfl)
   rw [addr_add0] at h1
   rw [Nat.zero_add,h1]
   simp [List.getD_eq_getElem?_getD,hj']
  ·rintro e w' ⟨rfl,rfl⟩
   refine ⟨?_,rfl⟩
   have e1:(l.map strA).take l.length=l.map strA:=List.take_of_length_le (by simp)
   rw [e1]
   congr 2
   rw [Bool.eq_iff_iff,Lib.containsS_iff]
   simp only [List.mem_map,decide_eq_true_eq]
   exact ⟨fun ⟨y,hy,e⟩=>by rw [← strA_inj e];exact hy,fun h=>⟨x,h,rfl⟩⟩
theorem journalName_any (B:Nat) (l:List (List UInt8)) (v:Value) (w:World) (h:NamV w B v l) (hn:l.length≤1000000) (hj:kJournal ∉ l) :
 Calls Tryz.prog 73 #[v] w fun e w'=>e=.returned (.string (strA kJournal))∧w'=w:=by
 have hc:=containsN_any B l v kJournal w h hn
 rw [decide_eq_false hj] at hc
 have HC:=hide hc
 clear hc
 go_enter Tryz.func73,Tryz.ntmps73
 go_wp2
 refine wp_loop_rounds 1 ?_
 rw [rounds_succ]
 go_wp2_with (go_at_call 37;refine HC.out.mono ?_;rintro e w' ⟨rfl,rfl⟩)
 go_ret
 exact ⟨rfl,rfl⟩
end
section
open Go.RowKit
attribute [local go_sem ↓] Go.wp_at_zero Go.wp_at_succ
theorem namV_get {w:World} {B:Nat} {a:Option Addr} {n c:Nat} {l:List (List UInt8)} (h:NamV w B (.slice a n c) l) (j:Nat) (hj:j < l.length):∃ g,a=some ⟨g,0,none⟩∧g < w.heap.size∧w.cell? ⟨g,j,none⟩=some (.string (strA l[j])):=by
 rcases h.2 with ⟨hv,h0⟩ | ⟨g,cap,cur,hv,hg,hb,hle,hmx,hcs2,htk⟩
 ·omega
 ·injection hv with h1 h2 h3
  refine ⟨g,h1,blk_lt hb,?_⟩
  have h4:=World.ownsRow.cells h (g:=g) (by rw [h1];rfl) j (.string (strA l[j])) (by rw [List.getElem?_map,List.getElem?_eq_getElem hj];rfl)
  rw [addr_add0] at h4
  exact h4
theorem ownNames_none (B:Nat) (l:List (List UInt8)) (v:Value) (w:World) (h:NamV w B v l) (hn:l.length≤1000000) (hj:∀ x∈l,Lib.hasPrefix x [46]=false) :
 Calls Tryz.prog 99 #[v] w fun e w'=>e=.returned (.slice none 0 0)∧w'=w:=by
 obtain ⟨va,vc,hvv⟩:=owns_len h
 subst hvv
 have HN:=hide h
 have HJ:=hide hj
 clear h hj
 go_enter Tryz.func99,Tryz.ntmps99
 go_wp2
 go_loop [3,5,8] (fun o _ i=>∃ k:Nat,k≤l.length∧i=.int .i64 k∧o=.slice none 0 0) (fun _ _ i=>l.length - (intOf i).toNat)
 case atStart=>exact ⟨0,Nat.zero_le _,rfl,rfl⟩
 case round=>
  obtain ⟨k,hk,rfl,rfl⟩:=hrel
  by_cases hlt:k < l.length
  rotate_left
  ·have hz:¬ (k:Int) < (l.length:Int):=by omega
   go_wp2
   go_ret
   exact ⟨rfl,rfl⟩
  have hlt':(k:Int) < (l.length:Int):=by omega
  obtain ⟨g,hla,hgl,hc⟩:=namV_get HN.out k hlt
  subst hla
  have hp:=HJ.out l[k] (List.getElem_mem hlt)
  generalize l[k]=x at *
  have HP:=hide hp
  clear hp
  go_wp2_with (go_at_call 156;refine (Tryz.strings_HasPrefix _ _ _).mono ?_;rintro e w' ⟨rfl,rfl⟩;rw [show Lib.hasPrefix (strA x).data.toList _=false from HP.out])
  go_round
  case rel=>exact ⟨k+1,by omega,by go_num,rfl⟩
  case measure=>simp [intOf];omega
end
end Go.Proofs.YthkibedbcbgajaaGreatDoor
