import Derived.Test.YtenahlandohgaaaGreatDoorZEOut
namespace Go.Proofs.YtenahlandohgaaaGreatDoor
set_option linter.unusedVariables false
set_option linter.unusedSimpArgs false
set_option maxRecDepth 100000
set_option maxHeartbeats 4000000
open Go.RowKit
attribute [local go_sem ↓] Go.wp_at_zero Go.wp_at_succ
def fileV (r:Except Nat (List UInt8×List UInt8)):Value:=
 match r with
 | .ok f=>.tuple #[.agg #[.string (strA f.1),.string (strA f.2)],.nilIface]
 | .error e=>.tuple #[.agg #[.string ⟨#[]⟩,.string ⟨#[]⟩],.iface 40 (.int .i64 (e:Int))]
theorem cat_inbox (id:List UInt8):(⟨#[105,110,98,111,120,47]⟩:ByteArray)++strA id=strA (kInbox++id):=strA_app kInbox id
theorem cat_box (x id:List UInt8):(⟨#[98,111,120,47]⟩:ByteArray)++strA x++(⟨#[47]⟩:ByteArray)++strA id=strA (kBox++x++[47]++id):=by
 show strA kBox++strA x++strA [47]++strA id=_
 rw [strA_app,strA_app,strA_app]
theorem cat_to (x:List UInt8):(⟨#[116,111,32]⟩:ByteArray)++strA x=strA (kToB++x):=strA_app kToB x
theorem cat_rej (x:List UInt8):(⟨#[114,101,106,101,99,116,32]⟩:ByteArray)++strA x=strA (kRejectB++x):=strA_app kRejectB x
theorem file_any (id text x:List UInt8) (kind:Int) (n:Nat) (a:Option Addr) (m c:Nat) (w:World) (ht:Tab w) (hn:n≤1000000) (h1:id.length≤2000000) (h2:text.length≤2000000) (h3:x.length≤2000000) :
 Calls Tryz.prog 139 #[.agg #[.string (strA id),.slice a m c,.string (strA text)],.int .i64 n,.agg #[.int .i64 kind,.string (strA x)]] w fun e w'=>e=.returned (fileV (fileL id text n (kind,x)))∧Below w.heap.size w w':=by
 have hz1:=strA_size id
 have hz2:=strA_size text
 have hz3:=strA_size x
 have HT:=hide ht
 clear ht
 by_cases k1:kind=1
 ·subst k1
  have HR:Hid (fileL id text n (1,x)=.ok (kInbox++id,text)):=rfl
  have a1:=cat_inbox id
  go_enter Tryz.func139,Tryz.ntmps139
  go_wp2
  rw [HR.out]
  refine bodyPost_ret (v:=.tuple #[.agg #[.string (strA (kInbox++id)),.string (strA text)],.nilIface]) (by simp [results,Tryz.results139,go_sem]) rfl ?_
  exact ⟨rfl,(((Below.refl _ _).alloc (Nat.le_refl _) _).alloc (by simp) _).alloc (by simp;omega) _⟩
 by_cases k2:kind=2
 ·subst k2
  cases hb:isBoxL x
  ·have HR:Hid (fileL id text n (2,x)=.error 8):=by
    show (if (2:Int)=1 then _ else if (2:Int)=2 then (if isBoxL x=true then _ else _) else _)=_
    rw [if_neg (by decide),if_pos rfl,hb]
    rfl
   go_enter Tryz.func139,Tryz.ntmps139
   go_wp2_with (go_at_call 206;refine (isBox_all (strA x) _ (by rw [strA_size];omega)).mono ?_;rintro e w' ⟨rfl,hww⟩;rw [hww];rw [show isBoxL (strA x).data.toList=false from hb])
   rw [HR.out]
   refine bodyPost_ret (v:=.tuple #[.agg #[.string ⟨#[]⟩,.string ⟨#[]⟩],.iface 40 (.int .i64 8)]) (by simp [results,Tryz.results139,go_sem]) rfl ?_
   exact ⟨rfl,(((Below.refl _ _).alloc (Nat.le_refl _) _).alloc (by simp) _).alloc (by simp;omega) _⟩
  ·have HR:Hid (fileL id text n (2,x)=.ok (kBox++x++[47]++id,text)):=by
    show (if (2:Int)=1 then _ else if (2:Int)=2 then (if isBoxL x=true then _ else _) else _)=_
    rw [if_neg (by decide),if_pos rfl,hb]
    rfl
   have a1:=cat_box x id
   go_enter Tryz.func139,Tryz.ntmps139
   go_wp2_with (go_at_call 206;refine (isBox_all (strA x) _ (by rw [strA_size];omega)).mono ?_;rintro e w' ⟨rfl,hww⟩;rw [hww];rw [show isBoxL (strA x).data.toList=true from hb])
   rw [HR.out]
   refine bodyPost_ret (v:=.tuple #[.agg #[.string (strA (kBox++x++[47]++id)),.string (strA text)],.nilIface]) (by simp [results,Tryz.results139,go_sem]) rfl ?_
   exact ⟨rfl,(((Below.refl _ _).alloc (Nat.le_refl _) _).alloc (by simp) _).alloc (by simp;omega) _⟩
 obtain ⟨W,hW⟩:∃ W,W=((w.alloc (.cells #[.string (strA id),.slice a m c,.string (strA text)] 159)).alloc (.cells #[.int .i64 kind,.string (strA x)] 51)).alloc (.cells #[.string ⟨#[]⟩,.string ⟨#[]⟩] 86):=⟨_,rfl⟩
 have HWB:Hid (Below w.heap.size w W):=by rw [hW];exact (((Below.refl _ _).alloc (Nat.le_refl _) _).alloc (by simp) _).alloc (by simp;omega) _
 have HWT:Hid (Tab W):=HT.out.below HWB.out
 have HWR:Hid (W.heap[w.heap.size+1+1]?=some (.cells #[.string ⟨#[]⟩,.string ⟨#[]⟩] 86)):=by rw [hW];exact blk_newAt (by simp)
 have HWW:=hide hW
 have HK1:=hide k1
 have HK2:=hide k2
 clear hW
 by_cases k3:kind=3
 ·subst k3
  have HR:Hid (fileL id text n (3,x)=.ok (outL id text n (kToB++x))):=rfl
  have a1:=cat_to x
  clear k1 k2
  go_enter Tryz.func139,Tryz.ntmps139
  go_wp2_with fail
  rw [← HWW.out]
  refine (out_any id text (kToB++x) n a m c W HWT.out hn h1 h2 (by simp [kToB];omega)).mono ?_
  rintro e w1 ⟨rfl,hb1⟩
  have hr1:=blk_below HWR.out hb1
  have HB1:=hide (HWB.out.trans (hb1.mono HWB.out.size))
  have r0:w1.cell? ⟨w.heap.size+1+1,0,none⟩=some (.string ⟨#[]⟩):=blk_cell hr1 0
  have r1:w1.cell? ⟨w.heap.size+1+1,1,none⟩=some (.string ⟨#[]⟩):=blk_cell hr1 1
  have rf:∀ j,w1.frozen? ⟨w.heap.size+1+1,j,none⟩=false:=fun j=>blk_frozen hr1 j
  clear hb1 hr1
  generalize outL id text n (kToB++x)=f at *
  go_wp2
  rw [HR.out]
  refine bodyPost_ret (v:=.tuple #[.agg #[.string (strA f.1),.string (strA f.2)],.nilIface]) (by simp [results,Tryz.results139,go_sem,r0,r1]) rfl ?_
  exact ⟨rfl,(HB1.out.setCell (by simp;omega) _).setCell (by simp;omega) _⟩
 have HK3:=hide k3
 by_cases k4:kind=4
 ·subst k4
  have HR:Hid (fileL id text n (4,x)=.ok (outL id text n (kRejectB++x))):=rfl
  have a1:=cat_rej x
  clear k1 k2 k3
  go_enter Tryz.func139,Tryz.ntmps139
  go_wp2_with fail
  rw [← HWW.out]
  refine (out_any id text (kRejectB++x) n a m c W HWT.out hn h1 h2 (by simp [kRejectB];omega)).mono ?_
  rintro e w1 ⟨rfl,hb1⟩
  have hr1:=blk_below HWR.out hb1
  have HB1:=hide (HWB.out.trans (hb1.mono HWB.out.size))
  have r0:w1.cell? ⟨w.heap.size+1+1,0,none⟩=some (.string ⟨#[]⟩):=blk_cell hr1 0
  have r1:w1.cell? ⟨w.heap.size+1+1,1,none⟩=some (.string ⟨#[]⟩):=blk_cell hr1 1
  have rf:∀ j,w1.frozen? ⟨w.heap.size+1+1,j,none⟩=false:=fun j=>blk_frozen hr1 j
  clear hb1 hr1
  generalize outL id text n (kRejectB++x)=f at *
  go_wp2
  rw [HR.out]
  refine bodyPost_ret (v:=.tuple #[.agg #[.string (strA f.1),.string (strA f.2)],.nilIface]) (by simp [results,Tryz.results139,go_sem,r0,r1]) rfl ?_
  exact ⟨rfl,(HB1.out.setCell (by simp;omega) _).setCell (by simp;omega) _⟩
 have HR:Hid (fileL id text n (kind,x)=.error 7):=by
  show (if kind=1 then _ else if kind=2 then _ else if kind=3 then _ else if kind=4 then _ else _)=_
  rw [if_neg k1,if_neg k2,if_neg k3,if_neg k4]
 have e1:(kind == 1)=false:=by simp [k1]
 have e2:(kind == 2)=false:=by simp [k2]
 have e3:(kind == 3)=false:=by simp [k3]
 have e4:(kind == 4)=false:=by simp [k4]
 go_enter Tryz.func139,Tryz.ntmps139
 go_wp2
 rw [HR.out]
 refine bodyPost_ret (v:=.tuple #[.agg #[.string ⟨#[]⟩,.string ⟨#[]⟩],.iface 40 (.int .i64 7)]) (by simp [results,Tryz.results139,go_sem]) rfl ?_
 exact ⟨rfl,(((Below.refl _ _).alloc (Nat.le_refl _) _).alloc (by simp) _).alloc (by simp;omega) _⟩
end Go.Proofs.YtenahlandohgaaaGreatDoor
