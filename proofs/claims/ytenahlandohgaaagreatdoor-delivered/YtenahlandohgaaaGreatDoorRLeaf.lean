import Derived.Lib.ConvBytes
import Derived.Lib.AtoiErrMem
import Derived.Test.YtenahlandohgaaaGreatDoorAIsBox
import Derived.Test.YtenahlandohgaaaGreatDoorDWrite
import Derived.Test.YtenahlandohgaaaGreatDoorZEFile
import Derived.Test.YtenahlandohgaaaGreatDoorLeaf
import Derived.Test.YtenahlandohgaaaGreatDoorZPlainStore
namespace Go.Proofs.YtenahlandohgaaaGreatDoor
set_option linter.unusedVariables false
set_option linter.unusedSimpArgs false
set_option maxRecDepth 100000
set_option maxHeartbeats 4000000
open Go.RowKit
attribute [local go_sem ↓] Go.wp_at_zero Go.wp_at_succ
theorem rdigit_any (c:Int) (w:World) :
 Calls Tryz.prog 35 #[.int .u8 c] w fun e w'=>e=.returned (.bool (isDigitN c))∧w'=w:=by
 go_enter Tryz.func35,Tryz.ntmps35
 go_wp2
 all_goals (go_ret;exact ⟨ret_bool (by simp [isDigitN, *];try omega),rfl⟩)
theorem rletter_any (c:Int) (w:World) :
 Calls Tryz.prog 34 #[.int .u8 c] w fun e w'=>e=.returned (.bool (isLetN c))∧w'=w:=by
 go_enter Tryz.func34,Tryz.ntmps34
 go_wp2
 all_goals (go_ret;exact ⟨ret_bool (by unfold isLetN isCapN;rw [Bool.eq_iff_iff];simp;omega),rfl⟩)
theorem itoaL_digit (n:Nat) (h:n < 10):itoaL n=[(48+n).toUInt8]:=by
 unfold itoaL Lib.decDigits
 simp [h]
theorem conv_one (w:World) (c:UInt8):(convert 111 9 (.slice (some ⟨w.heap.size,0,none⟩) 1 1)).run Tryz.prog (w.alloc (.cells #[.int .u8 (c.toNat:Int)] 5))=.ok (.string (strA [c])) (w.alloc (.cells #[.int .u8 (c.toNat:Int)] 5)):=
 run_convert_bytes_back (P:=Tryz.prog) _ 111 9 5 ⟨w.heap.size,0,none⟩ 1 [c] Tryz.underlying111 Tryz.underlying5 Tryz.underlying9 (fun j hj=>by
  obtain rfl:j=0:=by simp at hj;omega
  rw [addr_add0];exact blk_cell (blk_new _ _) 0)
theorem number_small (n:Nat) (w:World) (hn:n≤6):Calls Tryz.prog 36 #[.int .i64 n] w fun e w'=>e=.returned (.string (strA (itoaL n)))∧Below w.heap.size w w':=by
 have hc:n=0∨n=1∨n=2∨n=3∨n=4∨n=5∨n=6:=by omega
 have c0:=conv_one w 48
 have c1:=conv_one w 49
 have c2:=conv_one w 50
 have c3:=conv_one w 51
 have c4:=conv_one w 52
 have c5:=conv_one w 53
 have c6:=conv_one w 54
 simp only [show ((48:UInt8).toNat:Int)=48 from rfl,show ((49:UInt8).toNat:Int)=49 from rfl,show ((50:UInt8).toNat:Int)=50 from rfl,show ((51:UInt8).toNat:Int)=51 from rfl,show ((52:UInt8).toNat:Int)=52 from rfl,show ((53:UInt8).toNat:Int)=53 from rfl,show ((54:UInt8).toNat:Int)=54 from rfl] at c0 c1 c2 c3 c4 c5 c6
 rcases hc with rfl | rfl | rfl | rfl | rfl | rfl | rfl
 all_goals go_enter Tryz.func36,Tryz.ntmps36
 all_goals go_wp2
 all_goals go_ret
 all_goals exact ⟨by rw [itoaL_digit _ (by decide)];rfl,(Below.refl _ _).alloc (Nat.le_refl _) _⟩
theorem boxR_eq (s:ByteArray) (h:0 < s.size):isBoxL s.data.toList=((s[0] != 46 && (s.data.toList.drop 0).all boxB) && decide (s.size≤16)):=by
 unfold isBoxL
 have hl:s.data.toList.length=s.size:=by simp
 rw [isEmpty_at s h,head_at s h,hl,List.drop_zero]
 cases decide (s.size≤16) <;> simp [bne]
theorem rboxed_any (s:ByteArray) (w:World) (hs:s.size≤140737488355328) :
 Calls Tryz.prog 37 #[.string s] w fun e w'=>e=.returned (.bool (isBoxL s.data.toList))∧w'=w:=by
 go_enter Tryz.func37,Tryz.ntmps37
 go_wp2
 go_loop [3] (fun i=>∃ k:Nat,k≤s.size∧i=.int .i64 k∧(0 < k→isBoxL s.data.toList=((s.data.toList.drop k).all boxB && decide (s.size≤16)))) (fun i=>s.size - (intOf i).toNat)
 case atStart=>exact ⟨0,by omega,rfl,fun h=>absurd h (Nat.lt_irrefl _)⟩
 case round=>
  obtain ⟨k,hk,rfl,hn⟩:=hrel
  have HN:=hide hn
  clear hn
  by_cases hlt:k < s.size
  rotate_left
  ·by_cases h0:s.size=0
   ·have h0':=toList_size0 h0
    have HR:Hid (isBoxL s.data.toList=false):=by show _=_;rw [← ByteArray.toList_eq,h0'];rfl
    have hk0:k=0:=by omega
    subst hk0
    go_wp2
    go_ret
    exact ⟨ret_bool HR.out.symm,rfl⟩
   have HS:=hide (all_end s boxB k (by omega))
   have HE:=hide (HN.out (by omega))
   by_cases h16:s.size≤16
   ·go_wp2
    go_ret
    exact ⟨ret_bool (by rw [HE.out,HS.out,Bool.true_and];exact decide_eq_decide.2 (by omega)),rfl⟩
   ·go_wp2
    go_ret
    exact ⟨ret_bool (by rw [HE.out,HS.out,Bool.true_and];exact decide_eq_decide.2 (by omega)),rfl⟩
  have HS:=hide (all_at s boxB k hlt)
  have HB:Hid (boxB s[k]=(isLetN (s[k].toNat:Int) || isDigitN (s[k].toNat:Int) || s[k] == 45 || s[k] == 46)):=rfl
  have e45:((s[k].toNat:Int) != 45)=!(s[k] == 45):=by rw [bne,show ((s[k].toNat:Int) == 45)=decide (s[k]=45) from byteN_beq s[k] 45];by_cases h:s[k]=45 <;> simp [h]
  have e46:((s[k].toNat:Int) != 46)=!(s[k] == 46):=by rw [bne,show ((s[k].toNat:Int) == 46)=decide (s[k]=46) from byteN_beq s[k] 46];by_cases h:s[k]=46 <;> simp [h]
  by_cases hk0:k=0
  ·subst hk0
   have HN0:=hide (boxR_eq s hlt)
   have HX:Hid ((s[0] != 46)=!(s[0] == 46)):=rfl
   have h46:isLetN (s[0].toNat:Int)=true→(s[0] == 46)=false:=fun h=>by
    cases e:s[0] == 46 with
    | false=>rfl
    | true=>
     have e':s[0]=46:=by simpa using e
     rw [e'] at h
     cases h
   have h46d:isDigitN (s[0].toNat:Int)=true→(s[0] == 46)=false:=fun h=>by
    cases e:s[0] == 46 with
    | false=>rfl
    | true=>
     have e':s[0]=46:=by simpa using e
     rw [e'] at h
     cases h
   have h456:(s[0] == 45)=true→(s[0] == 46)=false:=fun h=>by
    have e':s[0]=45:=by simpa using h
    rw [e'];rfl
   have H46:=hide h46
   have H46D:=hide h46d
   have H456:=hide h456
   clear h46 h46d h456
   generalize (s[0] == 45)=b45 at *
   generalize (s[0] == 46)=b46 at *
   cases hc:isLetN (s[0].toNat:Int) <;> cases hd:isDigitN (s[0].toNat:Int) <;> cases b45 <;> cases b46 <;>
   (first
     | (exact absurd (H46.out hc) (by decide))
     | (exact absurd (H46D.out hd) (by decide))
     | (exact absurd (H456.out rfl) (by decide))
     | (go_wp2_with (first | (go_at_call 34;refine (rletter_any _ _).mono ?_;rintro e w' ⟨rfl,rfl⟩) | (go_at_call 35;refine (rdigit_any _ _).mono ?_;rintro e w' ⟨rfl,rfl⟩))
        first
         | (go_ret;exact ⟨ret_bool (by rw [HN0.out,HS.out,HB.out,HX.out,hc,hd];simp),rfl⟩)
         | (go_round
            case rel=>exact ⟨0+1,by omega,by go_num,fun _=>by rw [HN0.out,HS.out,HB.out,HX.out,hc,hd];simp⟩
            case measure=>simp [intOf];omega)))
  ·have hk1:¬ ((k:Nat):Int)=0:=by omega
   have HNK:=hide (HN.out (by omega))
   generalize (s[k] == 45)=b45 at *
   generalize (s[k] == 46)=b46 at *
   cases hc:isLetN (s[k].toNat:Int) <;> cases hd:isDigitN (s[k].toNat:Int) <;> cases b45 <;> cases b46 <;>
   (go_wp2_with (first | (go_at_call 34;refine (rletter_any _ _).mono ?_;rintro e w' ⟨rfl,rfl⟩) | (go_at_call 35;refine (rdigit_any _ _).mono ?_;rintro e w' ⟨rfl,rfl⟩))
    first
     | (go_ret;exact ⟨ret_bool (by rw [HNK.out,HS.out,HB.out,hc,hd];simp),rfl⟩)
     | (go_round
        case rel=>exact ⟨k+1,by omega,by go_num,fun _=>by rw [HNK.out,HS.out,HB.out,hc,hd];simp⟩
        case measure=>simp [intOf];omega))
end Go.Proofs.YtenahlandohgaaaGreatDoor
