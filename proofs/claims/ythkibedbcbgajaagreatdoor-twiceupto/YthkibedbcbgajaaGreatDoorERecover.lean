import Derived.Test.YthkibedbcbgajaaGreatDoorEDeliver
import Derived.Test.YthkibedbcbgajaaGreatDoorZEOwn
import Derived.Test.YthkibedbcbgajaaGreatDoorEStep
namespace Go.Proofs.YthkibedbcbgajaaGreatDoor
set_option linter.unusedVariables false
set_option linter.unusedSimpArgs false
set_option maxRecDepth 100000
set_option maxHeartbeats 4000000
open Go.RowKit
attribute [local go_sem ↓] Go.wp_at_zero Go.wp_at_succ
def RcPost (B db bd bn n:Nat) (F:Fs) (q:Int) (w:World) (e:Ending) (w':World):Prop:=
 e=.returned .nilIface∧Fr (PDk B) w w'∧∃ n' q' pv',n'≤n+20∧q - 20≤q'∧q'≤q∧DI w' B db bd bn n' F F [] q' pv'
theorem settleAll_any (B db bd bn n:Nat) (F:Fs) (q:Int) (pv:Value) (w:World) (h:DI w B db bd bn n F F [] q pv) (hne:∃ x,(F x).isSome=true) (hown:∀ x,(F x).isSome=true→Lib.hasPrefix x [46]=false) (hn:n≤19000) (hq:-19000≤q) (hq1:q≤-1) :
 Calls Tryz.prog 56 #[dskV db] w (RcPost B db bd bn n F q w):=by
 have HD:=hide h
 have HNE:=hide hne
 have HOW:=hide hown
 have hmt:=mth_Sync db
 have hmn:=mth_Names db
 clear h hne hown
 unfold dskV
 go_enter Tryz.func56,Tryz.ntmps56
 go_wp2_with fail
 refine (sync_any B db bd bn n F F [] q pv w HD.out (by omega) hq1 (by omega) (by simp) (by intro o ho;cases ho)).mono ?_
 rintro e w1 ⟨rfl,hD1,hF1⟩
 have HD1:Hid (DI w1 B db bd bn n F F [] (q - 1) (.slice none 0 0)):=hD1
 have HF1:=hide hF1
 clear hD1 hF1
 go_wp2_with fail
 refine (names_any B db bd bn n F F [] (q - 1) _ w1 HD1.out (by omega) HNE.out).mono ?_
 rintro e w2 ⟨hB2,nv,l,rfl,hN2,hmem,hll⟩
 have HN2:=hide hN2
 obtain ⟨na,nc,hnv⟩:=owns_len hN2
 subst hnv
 have HJN:Hid (∀ x∈l,Lib.hasPrefix x [46]=false):=fun x hx=>HOW.out x ((hmem x).1 hx)
 have HB2:=hide hB2
 clear hB2 hN2 hmem
 go_wp2_with (go_at_call 99;refine (ownNames_none _ l _ w2 HN2.out (by omega) HJN.out).mono ?_;rintro e w3 ⟨rfl,hw3⟩;rw [hw3];clear hw3)
 go_loop [7,8,25] (fun _ _ i=>i=.int .i64 0) (fun _ _ _=>0)
 case atStart=>rfl
 case round=>
  subst hrel
  go_wp2
  go_ret
  exact ⟨rfl,HF1.out.trans (Fr.of_below HB2.out),n,q - 1,_,by omega,by omega,by omega,HD1.out.below HB2.out⟩
theorem recover1_any (B db bd bn n xb:Nat) (F:Fs) (q:Int) (pv:Value) (w:World) (h:DI w B db bd bn n F F [] q pv) (hx:w.heap[xb]?=some (.cells #[dskV db] 75)) (hne:∃ x,(F x).isSome=true) (hown:∀ x,(F x).isSome=true→Lib.hasPrefix x [46]=false) (hn:n≤19000) (hq:-19000≤q) (hq1:q≤-1) :
 Calls Tryz.prog 55 #[.pointer (some ⟨xb,0,none⟩)] w (RcPost B db bd bn n F q w):=by
 have x0:w.cell? ⟨xb,0,none⟩=some (dskV db):=blk_cell hx 0
 have HL:=hide (settleAll_any B db bd bn n F q pv w h hne hown hn hq hq1)
 clear h hx hne hown
 unfold dskV at x0 HL
 go_enter Tryz.func55,Tryz.ntmps55
 go_wp2_with fail
 refine HL.out.mono ?_
 rintro e w1 ⟨rfl,h1,h2⟩
 have H1:=hide h1
 have H2:=hide h2
 clear h1 h2
 go_wp2
 go_ret
 exact ⟨rfl,H1.out,H2.out⟩
theorem recover_guarded (B db bd bn n:Nat) (F:Fs) (q:Int) (pv:Value) (w:World) (h:DI w B db bd bn n F F [] q pv) (hne:∃ x,(F x).isSome=true) (hown:∀ x,(F x).isSome=true→Lib.hasPrefix x [46]=false) (hn:n≤19000) (hq:-19000≤q) (hq1:q≤-1) :
 Calls Tryz.prog 42 #[.func (.func 55) #[] #[.pointer (some ⟨w.heap.size,0,none⟩)]] (w.alloc (.cells #[dskV db] 75)) (RcPost B db bd bn n F q w):=by
 obtain ⟨Y,hY⟩:∃ Y,Y=(w.alloc (.cells #[dskV db] 75)).alloc (.cells #[.nilIface] 61):=⟨_,rfl⟩
 have hYw:Below w.heap.size w Y:=by rw [hY];exact ((Below.refl _ _).alloc (Nat.le_refl _) _).alloc (by simp) _
 have hYx:Y.heap[w.heap.size]?=some (.cells #[dskV db] 75):=by rw [hY];exact blk_alloc (blk_new _ _)
 have hYe:Y.heap[(w.alloc (.cells #[dskV db] 75)).heap.size]?=some (.cells #[.nilIface] 61):=by rw [hY];exact blk_new _ _
 have hcall:=recover1_any B db bd bn n w.heap.size F q pv Y (h.below hYw) hYx hne hown hn hq hq1
 rw [hY] at hcall
 refine (guarded_any 55 _ (fun w'=>Fr (PDk B) Y w'∧∃ n' q' pv',n'≤n+20∧q - 20≤q'∧q'≤q∧DI w' B db bd bn n' F F [] q' pv') _ (fun _ _=>by kernel_rfl) (hcall.mono ?_)).mono ?_
 ·rintro e w' ⟨rfl,hF,hD⟩
  rw [← hY] at hF
  exact ⟨rfl,hF.block _ _ hYe PDk.notEr,hF,hD⟩
 ·rintro e w' ⟨rfl,w2,⟨hF,n',q',pv',h1,h2,h3,hD⟩,hE,rfl⟩
  have h2F:Fr (PDk B) w w2:=(Fr.of_below hYw).trans hF
  exact ⟨rfl,h2F.setNew _ (by simp) _ _,n',q',pv',h1,h2,h3,hD.er ((Fr.refl _ w2).set hE ⟨_,rfl⟩ _ _)⟩
theorem srecover_any (B db bd bn n:Nat) (F:Fs) (q:Int) (pv:Value) (w:World) (h:DI w B db bd bn n F F [] q pv) (hne:∃ x,(F x).isSome=true) (hown:∀ x,(F x).isSome=true→Lib.hasPrefix x [46]=false) (hn:n≤19000) (hq:-19000≤q) (hq1:q≤-1) :
 Calls Tryz.prog 35 #[dskV db] w (RcPost B db bd bn n F q w):=by
 have hmf:∀ (fn:Fn) (first cap:Array Value) (w:World),(Instr.makeFunc fn first cap).run Tryz.prog w=.ok (.func fn first cap) w:=fun _ _ _ _=>rfl
 have HL:=hide (recover_guarded B db bd bn n F q pv w h hne hown hn hq hq1)
 clear h hne hown
 unfold dskV at HL ⊢
 go_enter Tryz.func35,Tryz.ntmps35
 go_wp2_with fail
 refine HL.out.mono ?_
 rintro e w1 ⟨rfl,h1,h2⟩
 have H1:=hide h1
 have H2:=hide h2
 clear h1 h2
 go_wp2
 go_ret
 exact ⟨rfl,H1.out,H2.out⟩
theorem mrecover_any (B db bd bn n:Nat) (F:Fs) (q:Int) (pv:Value) (w:World) (h:DI w B db bd bn n F F [] q pv) (hne:∃ x,(F x).isSome=true) (hown:∀ x,(F x).isSome=true→Lib.hasPrefix x [46]=false) (hn:n≤19000) (hq:-19000≤q) (hq1:q≤-1) :
 Calls Tryz.prog 22 #[dskV db] w (RcPost B db bd bn n F q w):=by
 have HL:=hide (srecover_any B db bd bn n F q pv w h hne hown hn hq hq1)
 clear h hne hown
 unfold dskV at HL ⊢
 go_enter Tryz.func22,Tryz.ntmps22
 go_wp2_with fail
 refine HL.out.mono ?_
 rintro e w1 ⟨rfl,h1,h2⟩
 have H1:=hide h1
 have H2:=hide h2
 clear h1 h2
 go_wp2
 go_ret
 exact ⟨rfl,H1.out,H2.out⟩
theorem mdeliver_any (B db bd bn n:Nat) (F:Fs) (q:Int) (pv:Value) (id text:List UInt8) (acts:List (Int×List UInt8)) (av:Value) (w:World) (h:DI w B db bd bn n F F [] q pv) (ht:Tab w) (hz:Tz w) (ha:ActG w av acts)
 (h1:id.length≤2000000) (h2:text.length≤2000000) (h3:∀ a∈acts,a.2.length≤2000000) (h4:acts.length≤2000000) (hne:∃ x,(F x).isSome=true) (hj0:F kJournal=none) (hn:n≤19000) (hq:-19000≤q) (hq1:q≤-1) :
 Calls Tryz.prog 18 #[dskV db,.string (strA id),av,.string (strA text)] w (DvPost B db bd bn n F q id acts text w):=by
 have HL:=hide (sdeliver_any B db bd bn n F q pv id text acts av w h ht hz ha h1 h2 h3 h4 hne hj0 hn hq hq1)
 obtain ⟨a,c,hav,_⟩:=ha
 subst hav
 clear h ht hz h3 hne hj0
 unfold dskV at HL ⊢
 go_enter Tryz.func18,Tryz.ntmps18
 go_wp2_with fail
 refine HL.out.mono ?_
 rintro e w1 ⟨hF,⟨k,pv',he,rfl,hD⟩ | ⟨fs,n',q',pv',he,rfl,hh⟩⟩
 ·have HF:=hide hF
  have HD:=hide hD
  have HE:=hide he
  clear hF hD he
  go_wp2
  go_ret
  exact ⟨HF.out,Or.inl ⟨k,pv',HE.out,rfl,HD.out⟩⟩
 ·have HF:=hide hF
  have HD:=hide hh
  have HE:=hide he
  clear hF hh he
  go_wp2
  go_ret
  exact ⟨HF.out,Or.inr ⟨fs,n',q',pv',HE.out,rfl,HD.out⟩⟩
end Go.Proofs.YthkibedbcbgajaaGreatDoor
