import Derived.OrdersHeld
import Derived.Deep.RegionHeld3
import Derived.Lib.ConvBytes
import Derived.Lib.AtoiErrMem
import Derived.Test.YtenahlandohgaaaGreatDoorZAIsBox
import Derived.Test.YtenahlandohgaaaGreatDoorZDUp
import Derived.Test.YtenahlandohgaaaGreatDoorZEJoin
import Derived.Test.YtenahlandohgaaaGreatDoorZPlainStore
namespace Go.Proofs.YtenahlandohgaaaGreatDoor
set_option linter.unusedVariables false
set_option linter.unusedSimpArgs false
set_option maxRecDepth 100000
set_option maxHeartbeats 4000000
section
open Go.RowKit
theorem pt (l:List Value) (ds:_) (d:Nat) (v:Value):Act.put ⟨l.toArray,ds⟩ (some d) v=⟨(l.set d v).toArray,ds⟩:=by simp [Act.put]
theorem sz (x y:Value) (l:List Value):(x :: l).set 0 y=y :: l:=rfl
theorem sc (x y:Value) (l:List Value) (n:Nat):(x :: l).set (n+1) y=x :: l.set n y:=rfl
theorem takeH {P:Program} {ops:Array Oper} {Q:Exit→Act→World→Prop} {md:Region.Mode} {S:World→Prop} (i d:Nat) (v:Value) {oi:Oper} {fuel:Nat} {listed:Array Bool} {a:Act} {w:World} (hi:ops[i]?=some oi) (hS:S w) (hv:∀ w',S w'→(execOp a.eval oi).run P w'=.ok (.value v) w') (h:wpAnyH P md ops Q S fuel (listed.setIfInBounds i true) (a.put (some d) v) w)
 (hd:oi.dst=some d:=by rfl) (hs:Region.noSelect ops=true:=by kernel_rfl) (hf:Region.free md ops listed i=true:=by kernel_rfl) (hr:(Region.ready md ops listed).contains i=true:=by kernel_rfl) (hQ:∀ c a w,Q (.panic c) (a.put (some d) v) w→Q (.panic c) a w:=by exact fun _ _ _ h=>h) (hw:Region.wanted oi (yielded ops a.tmps)=true:=by rfl):wpAnyH P md ops Q S (fuel+1) listed a w:=
 wpAnyH_take hi hs hf hr (by rw [hd];exact hQ) (Or.inl ⟨hw,hv⟩) hS (by rw [hd];exact h)
end
section
open Go.RowKit
attribute [local go_sem ↓] Go.wp_at_zero Go.wp_at_succ
theorem isID_any (s:ByteArray) (w:World) (hs:s.size≤140737488355328) :
 Calls Tryz.prog 138 #[.string s] w fun e w'=>e=.returned (.bool (isIDL s.data.toList))∧w'=w:=by
 have hlen:s.data.toList.length=s.size:=by simp
 by_cases h0:s.size=0
 ·have h0':=toList_size0 h0
  have hr:isIDL s.data.toList=false:=by rw [← ByteArray.toList_eq,h0'];rfl
  have HR:=hide hr
  clear hr hlen
  go_enter Tryz.func138,Tryz.ntmps138
  go_wp2
  go_ret
  exact ⟨ret_bool HR.out.symm,rfl⟩
 have h0':=toList_sizePos h0
 have h0'':s.toList.isEmpty=false:=by simpa using h0'
 have h1:0 < s.size:=by omega
 have hb0:=isEmpty_at s h1
 by_cases h8:8 < s.size
 ·have hr:isIDL s.data.toList=false:=by unfold isIDL;rw [hb0,decide_eq_false (by omega)];rfl
  have HR:=hide hr
  clear hr hlen hb0
  go_enter Tryz.func138,Tryz.ntmps138
  go_wp2
  go_ret
  exact ⟨ret_bool HR.out.symm,rfl⟩
 have hr:isIDL s.data.toList=(s.data.toList.drop 0).all idB:=by
  unfold isIDL;rw [hb0,decide_eq_true (by omega),List.drop_zero];rfl
 have HR:=hide hr
 clear hr hlen hb0
 go_enter Tryz.func138,Tryz.ntmps138
 go_wp2
 go_loop [13] (fun i=>∃ k:Nat,k≤s.size∧i=.int .i64 k∧isIDL s.data.toList=(s.data.toList.drop k).all idB) (fun i=>s.size - (intOf i).toNat)
 case atStart=>exact ⟨0,by omega,rfl,HR.out⟩
 case round=>
  obtain ⟨k,hk,rfl,hn⟩:=hrel
  have HN:=hide hn
  clear hn
  by_cases hlt:k < s.size
  rotate_left
  ·have HS:=hide (all_end s idB k (by omega))
   go_wp2
   go_ret
   exact ⟨ret_bool (by rw [HN.out,HS.out]),rfl⟩
  have HS:=hide (all_at s idB k hlt)
  have HB:Hid (idB s[k]=(isLetN (s[k].toNat:Int) || isDigitN (s[k].toNat:Int))):=rfl
  cases hc:isLetN (s[k].toNat:Int) <;> cases hd:isDigitN (s[k].toNat:Int) <;>
  (go_wp2_with (first | (go_at_call 204;refine (isLetter_any _ _).mono ?_;rintro e w' ⟨rfl,rfl⟩) | (go_at_call 205;refine (isDigit_any _ _).mono ?_;rintro e w' ⟨rfl,rfl⟩))
   first
    | (go_ret;exact ⟨ret_bool (by rw [HN.out,HS.out,HB.out,hc,hd];rfl),rfl⟩)
    | (go_round
       case rel=>exact ⟨k+1,by omega,by go_num,by rw [HN.out,HS.out,HB.out,hc,hd];rfl⟩
       case measure=>simp [intOf];omega))
theorem isBox_all (s:ByteArray) (w:World) (hs:s.size≤140737488355328) :
 Calls Tryz.prog 206 #[.string s] w fun e w'=>e=.returned (.bool (isBoxL s.data.toList))∧w'=w:=by
 by_cases h16:16 < s.size
 ·have h1:0 < s.size:=by omega
  have h0':=toList_sizePos (by omega:¬ s.size=0)
  have h0'':s.toList.isEmpty=false:=by simpa using h0'
  have hlen:s.data.toList.length=s.size:=by simp
  have hr:isBoxL s.data.toList=false:=by unfold isBoxL;rw [isEmpty_at s h1,decide_eq_false (by omega)];rfl
  have HR:=hide hr
  clear hr hlen
  go_enter Tryz.func206,Tryz.ntmps206
  go_wp2
  go_ret
  exact ⟨ret_bool HR.out.symm,rfl⟩
 ·exact isBox_any s w (by omega)
end
section
open Go.RowKit
attribute [local go_sem ↓] Go.wp_at_zero Go.wp_at_succ
theorem cat_out1 (id text:List UInt8) (n:Nat) (line:List UInt8):(⟨#[111,117,116,47]⟩:ByteArray)++strA id++(⟨#[46]⟩:ByteArray)++strA (itoaL n)=strA (outL id text n line).1:=by
 show strA kOut++strA id++strA [46]++strA (itoaL n)=_
 rw [strA_app,strA_app,strA_app]
 rfl
theorem cat_out2 (id text:List UInt8) (n:Nat) (line:List UInt8):strA line++(⟨#[10]⟩:ByteArray)++strA text=strA (outL id text n line).2:=by
 show strA line++strA [10]++strA text=_
 rw [strA_app,strA_app]
 rfl
theorem out_any (id text line:List UInt8) (n:Nat) (a:Option Addr) (m c:Nat) (w:World) (ht:Tab w) (hn:n≤1000000) (h1:id.length≤2000000) (h2:text.length≤2000000) (h3:line.length≤4000000) :
 Calls Tryz.prog 207 #[.agg #[.string (strA id),.slice a m c,.string (strA text)],.int .i64 n,.string (strA line)] w fun e w'=>e=.returned (.agg #[.string (strA (outL id text n line).1),.string (strA (outL id text n line).2)])∧Below w.heap.size w w':=by
 have hz1:=strA_size id
 have hz2:=strA_size text
 have hz3:=strA_size line
 go_enter Tryz.func207,Tryz.ntmps207
 go_wp2_with fail
 obtain ⟨V,hV⟩:∃ V,V=(w.alloc (.cells #[.string (strA id),.slice a m c,.string (strA text)] 159)).alloc (.cells #[.string ⟨#[]⟩,.string ⟨#[]⟩] 86):=⟨_,rfl⟩
 have hBV:Below w.heap.size w V:=by rw [hV];exact ((Below.refl _ _).alloc (Nat.le_refl _) _).alloc (by simp) _
 have hv:V.heap[w.heap.size]?=some (.cells #[.string (strA id),.slice a m c,.string (strA text)] 159):=by rw [hV];exact blk_alloc (blk_new _ _)
 have hr:V.heap[w.heap.size+1]?=some (.cells #[.string ⟨#[]⟩,.string ⟨#[]⟩] 86):=by rw [hV];exact blk_newAt (by simp)
 have HBV:=hide hBV
 have HHV:=hide hv
 have HHR:=hide hr
 have v0:V.cell? ⟨w.heap.size,0,none⟩=some (.string (strA id)):=blk_cell hv 0
 have v2:V.cell? ⟨w.heap.size,2,none⟩=some (.string (strA text)):=blk_cell hv 2
 rw [← hV]
 have HTV:Hid (Tab V):=ht.below HBV.out
 have hil:=itoaL_len n (by omega)
 have hzi:=strA_size (itoaL n)
 have k1:¬ 9223372036854775807 < 4+id.length:=by omega
 have k2:¬ 9223372036854775807 < 4+id.length+1:=by omega
 have k3:¬ 9223372036854775807 < 4+id.length+1+(itoaL n).length:=by omega
 have k4:¬ 9223372036854775807 < line.length+1:=by omega
 have k5:¬ 9223372036854775807 < line.length+1+text.length:=by omega
 clear hV hBV hv hr
 go_region_held3 (fun w'=>w'.cell? ⟨w.heap.size,0,none⟩=some (.string (strA id))∧w'.cell? ⟨w.heap.size,2,none⟩=some (.string (strA text))) (first | go_keep | exact ⟨q0,q2⟩) (first | (go_at_call 209;refine (itoa_any n (by omega) V.drew HTV.out).mono ?_;rintro e w1 ⟨rfl,hb1⟩;have hb2:=below_drew hb1;have HB1:=hide hb2;have q0:w1.cell? ⟨w.heap.size,0,none⟩=some (.string (strA id)):=blk_cell (blk_below HHV.out hb2) 0;have q2:w1.cell? ⟨w.heap.size,2,none⟩=some (.string (strA text)):=blk_cell (blk_below HHV.out hb2) 2;have hr1:=blk_below HHR.out hb2;have r0:w1.cell? ⟨w.heap.size+1,0,none⟩=some (.string ⟨#[]⟩):=blk_cell hr1 0;have r1:w1.cell? ⟨w.heap.size+1,1,none⟩=some (.string ⟨#[]⟩):=blk_cell hr1 1;have rf:∀ j,w1.frozen? ⟨w.heap.size+1,j,none⟩=false:=fun j=>blk_frozen hr1 j;clear hb1 hb2 hr1;skip))
 all_goals go_wp2
 all_goals have a1:(⟨#[111,117,116,47]⟩:ByteArray)++strA id++(⟨#[46]⟩:ByteArray)++strA (itoaL n)=strA (outL id text n line).1:=cat_out1 id text n line
 all_goals have a2:strA line++(⟨#[10]⟩:ByteArray)++strA text=strA (outL id text n line).2:=cat_out2 id text n line
 all_goals rw [a1,a2]
 all_goals refine bodyPost_ret (v:=.agg #[.string (strA (outL id text n line).1),.string (strA (outL id text n line).2)]) (by simp [results,Tryz.results207,go_sem,r0,r1]) rfl ?_
 all_goals exact ⟨rfl,((HBV.out.trans (HB1.out.mono HBV.out.size)).setCell (by simp) _).setCell (by simp) _⟩
end
section
open Go.RowKit
attribute [local go_sem ↓] Go.wp_at_zero Go.wp_at_succ
theorem rdigit_any (c:Int) (w:World) :
 Calls Tryz.prog 35 #[.int .u8 c] w fun e w'=>e=.returned (.bool (isDigitN c))∧w'=w:=by
 go_enter Tryz.func35,Tryz.ntmps35
 go_wp2
 all_goals (go_ret;exact ⟨ret_bool (by simp [isDigitN, *];try omega),rfl⟩)
theorem rletter_any (c:Int) (w:World) :
 Calls Tryz.prog 34 #[.int .u8 c] w fun e w'=>e=.returned (.bool (isLetN c))∧w'=w:=by
 go_enter Tryz.func34,Tryz.ntmps34
 go_wp2
 all_goals (go_ret;exact ⟨ret_bool (by unfold isLetN isCapN;rw [Bool.eq_iff_iff];simp;omega),rfl⟩)
theorem itoaL_digit (n:Nat) (h:n < 10):itoaL n=[(48+n).toUInt8]:=by
 unfold itoaL Lib.decDigits
 simp [h]
theorem conv_one (w:World) (c:UInt8):(convert 111 9 (.slice (some ⟨w.heap.size,0,none⟩) 1 1)).run Tryz.prog (w.alloc (.cells #[.int .u8 (c.toNat:Int)] 5))=.ok (.string (strA [c])) (w.alloc (.cells #[.int .u8 (c.toNat:Int)] 5)):=
 run_convert_bytes_back (P:=Tryz.prog) _ 111 9 5 ⟨w.heap.size,0,none⟩ 1 [c] Tryz.underlying111 Tryz.underlying5 Tryz.underlying9 (fun j hj=>by
  obtain rfl:j=0:=by simp at hj;omega
  rw [addr_add0];exact blk_cell (blk_new _ _) 0)
theorem number_small (n:Nat) (w:World) (hn:n≤6):Calls Tryz.prog 36 #[.int .i64 n] w fun e w'=>e=.returned (.string (strA (itoaL n)))∧Below w.heap.size w w':=by
 have hc:n=0∨n=1∨n=2∨n=3∨n=4∨n=5∨n=6:=by omega
 have c0:=conv_one w 48
 have c1:=conv_one w 49
 have c2:=conv_one w 50
 have c3:=conv_one w 51
 have c4:=conv_one w 52
 have c5:=conv_one w 53
 have c6:=conv_one w 54
 simp only [show ((48:UInt8).toNat:Int)=48 from rfl,show ((49:UInt8).toNat:Int)=49 from rfl,show ((50:UInt8).toNat:Int)=50 from rfl,show ((51:UInt8).toNat:Int)=51 from rfl,show ((52:UInt8).toNat:Int)=52 from rfl,show ((53:UInt8).toNat:Int)=53 from rfl,show ((54:UInt8).toNat:Int)=54 from rfl] at c0 c1 c2 c3 c4 c5 c6
 rcases hc with rfl | rfl | rfl | rfl | rfl | rfl | rfl
 all_goals go_enter Tryz.func36,Tryz.ntmps36
 all_goals go_wp2
 all_goals go_ret
 all_goals exact ⟨by rw [itoaL_digit _ (by decide)];rfl,(Below.refl _ _).alloc (Nat.le_refl _) _⟩
theorem boxR_eq (s:ByteArray) (h:0 < s.size):isBoxL s.data.toList=((s[0] != 46 && (s.data.toList.drop 0).all boxB) && decide (s.size≤16)):=by
 unfold isBoxL
 have hl:s.data.toList.length=s.size:=by simp
 rw [isEmpty_at s h,head_at s h,hl,List.drop_zero]
 cases decide (s.size≤16) <;> simp [bne]
theorem rboxed_any (s:ByteArray) (w:World) (hs:s.size≤140737488355328) :
 Calls Tryz.prog 37 #[.string s] w fun e w'=>e=.returned (.bool (isBoxL s.data.toList))∧w'=w:=by
 go_enter Tryz.func37,Tryz.ntmps37
 go_wp2
 go_loop [3] (fun i=>∃ k:Nat,k≤s.size∧i=.int .i64 k∧(0 < k→isBoxL s.data.toList=((s.data.toList.drop k).all boxB && decide (s.size≤16)))) (fun i=>s.size - (intOf i).toNat)
 case atStart=>exact ⟨0,by omega,rfl,fun h=>absurd h (Nat.lt_irrefl _)⟩
 case round=>
  obtain ⟨k,hk,rfl,hn⟩:=hrel
  have HN:=hide hn
  clear hn
  by_cases hlt:k < s.size
  rotate_left
  ·by_cases h0:s.size=0
   ·have h0':=toList_size0 h0
    have HR:Hid (isBoxL s.data.toList=false):=by show _=_;rw [← ByteArray.toList_eq,h0'];rfl
    have hk0:k=0:=by omega
    subst hk0
    go_wp2
    go_ret
    exact ⟨ret_bool HR.out.symm,rfl⟩
   have HS:=hide (all_end s boxB k (by omega))
   have HE:=hide (HN.out (by omega))
   by_cases h16:s.size≤16
   ·go_wp2
    go_ret
    exact ⟨ret_bool (by rw [HE.out,HS.out,Bool.true_and];exact decide_eq_decide.2 (by omega)),rfl⟩
   ·go_wp2
    go_ret
    exact ⟨ret_bool (by rw [HE.out,HS.out,Bool.true_and];exact decide_eq_decide.2 (by omega)),rfl⟩
  have HS:=hide (all_at s boxB k hlt)
  have HB:Hid (boxB s[k]=(isLetN (s[k].toNat:Int) || isDigitN (s[k].toNat:Int) || s[k] == 45 || s[k] == 46)):=rfl
  have e45:((s[k].toNat:Int) != 45)=!(s[k] == 45):=by rw [bne,show ((s[k].toNat:Int) == 45)=decide (s[k]=45) from byteN_beq s[k] 45];by_cases h:s[k]=45 <;> simp [h]
  have e46:((s[k].toNat:Int) != 46)=!(s[k] == 46):=by rw [bne,show ((s[k].toNat:Int) == 46)=decide (s[k]=46) from byteN_beq s[k] 46];by_cases h:s[k]=46 <;> simp [h]
  by_cases hk0:k=0
  ·subst hk0
   have HN0:=hide (boxR_eq s hlt)
   have HX:Hid ((s[0] != 46)=!(s[0] == 46)):=rfl
   have h46:isLetN (s[0].toNat:Int)=true→(s[0] == 46)=false:=fun h=>by
    cases e:s[0] == 46 with
    | false=>rfl
    | true=>
     have e':s[0]=46:=by simpa using e
     rw [e'] at h
     cases h
   have h46d:isDigitN (s[0].toNat:Int)=true→(s[0] == 46)=false:=fun h=>by
    cases e:s[0] == 46 with
    | false=>rfl
    | true=>
     have e':s[0]=46:=by simpa using e
     rw [e'] at h
     cases h
   have h456:(s[0] == 45)=true→(s[0] == 46)=false:=fun h=>by
    have e':s[0]=45:=by simpa using h
    rw [e'];rfl
   have H46:=hide h46
   have H46D:=hide h46d
   have H456:=hide h456
   clear h46 h46d h456
   generalize (s[0] == 45)=b45 at *
   generalize (s[0] == 46)=b46 at *
   cases hc:isLetN (s[0].toNat:Int) <;> cases hd:isDigitN (s[0].toNat:Int) <;> cases b45 <;> cases b46 <;>
   (first
     | (exact absurd (H46.out hc) (by decide))
     | (exact absurd (H46D.out hd) (by decide))
     | (exact absurd (H456.out rfl) (by decide))
     | (go_wp2_with (first | (go_at_call 34;refine (rletter_any _ _).mono ?_;rintro e w' ⟨rfl,rfl⟩) | (go_at_call 35;refine (rdigit_any _ _).mono ?_;rintro e w' ⟨rfl,rfl⟩))
        first
         | (go_ret;exact ⟨ret_bool (by rw [HN0.out,HS.out,HB.out,HX.out,hc,hd];simp),rfl⟩)
         | (go_round
            case rel=>exact ⟨0+1,by omega,by go_num,fun _=>by rw [HN0.out,HS.out,HB.out,HX.out,hc,hd];simp⟩
            case measure=>simp [intOf];omega)))
  ·have hk1:¬ ((k:Nat):Int)=0:=by omega
   have HNK:=hide (HN.out (by omega))
   generalize (s[k] == 45)=b45 at *
   generalize (s[k] == 46)=b46 at *
   cases hc:isLetN (s[k].toNat:Int) <;> cases hd:isDigitN (s[k].toNat:Int) <;> cases b45 <;> cases b46 <;>
   (go_wp2_with (first | (go_at_call 34;refine (rletter_any _ _).mono ?_;rintro e w' ⟨rfl,rfl⟩) | (go_at_call 35;refine (rdigit_any _ _).mono ?_;rintro e w' ⟨rfl,rfl⟩))
    first
     | (go_ret;exact ⟨ret_bool (by rw [HNK.out,HS.out,HB.out,hc,hd];simp),rfl⟩)
     | (go_round
        case rel=>exact ⟨k+1,by omega,by go_num,fun _=>by rw [HNK.out,HS.out,HB.out,hc,hd];simp⟩
        case measure=>simp [intOf];omega))
end
end Go.Proofs.YtenahlandohgaaaGreatDoor
