import Derived.Test.YtbiclelojbfnbaaGreatDoorBeginK
import Derived.Test.YtbiclelojbfnbaaGreatDoorZPlainLen
namespace Go.Proofs.YtbiclelojbfnbaaGreatDoor
set_option linter.unusedVariables false
set_option linter.unusedSimpArgs false
set_option maxRecDepth 100000
set_option maxHeartbeats 4000000
section
open Go.RowKit
theorem testNames_letter:∀ z∈testNames,∀ c r,z=c :: r→isLetN c.toNat=true:=by
 intro z hz c r e
 simp [testNames] at hz
 rcases hz with h | h | h | h | h | h | h | h | h | h <;> subst h <;> cases e <;> decide
theorem testNames_ne:∀ z∈testNames,z≠[]:=by decide
theorem whichL_mem {zs:List (List UInt8)} {x:List UInt8} (h:¬ whichL zs x=0):x∈zs:=by
 obtain ⟨i,hi⟩:∃ i,whichL zs x=i+1:=⟨whichL zs x - 1,by omega⟩
 exact List.mem_of_getElem? (whichL_get zs x i hi)
theorem test_kind {s:PS} (hn:¬ s.1.kind=1→NoName s.1.spelt) (h:¬ whichL testNames s.1.spelt=0):s.1.kind=1:=by
 apply Classical.byContradiction
 intro hk
 have hm:=whichL_mem h
 have hne:=testNames_ne _ hm
 cases hsp:s.1.spelt with
 | nil=>exact hne hsp
 | cons c r=>
  have h1:=testNames_letter _ hm c r hsp
  have h2:=hn hk c r hsp
  rw [h1] at h2
  cases h2
theorem beginT_nouse (fv:Value) (req:List (List UInt8)) (d:Int) (b:Nat) (t:ByteArray) (s:PS) (rv:Value) (mc mt pr pt pf:Nat) (w:World) (h:RC w b t s rv mc mt) (ht:TMap w b mt pr pt pf) (hr:ReqV w b rv req) (hd:d≤6) (hk1:s.1.kind=1) (hf:testFn b pr pt pf s.1.spelt=some fv) (hu:useOk req s.1.spelt=false) :
  Calls Tryz.prog 306 #[.pointer (some ⟨b,0,none⟩),.map (some mt),.int .i64 d] w fun e w'=>Threw ⟨6,s.1.pos⟩ w e w'∧Mod b w w':=by
 have h1:w.cell? ⟨b,1,none⟩=some (.int .i64 s.1.kind):=h.at_.cell 1
 have h3:w.cell? ⟨b,3,none⟩=some (.string (strA s.1.spelt)):=h.at_.cell 3
 have hlk:=ht.look w s.1.spelt rfl
 rw [hf] at hlk
 have H:=hide h
 have HU:=hide (mayUse_any s.1.spelt req b t s rv mc mt w h hr)
 rw [hu] at HU
 clear h ht hr hf hu
 simp only [Option.getD_some,Option.isSome_some] at hlk
 have hk':((s.1.kind:Int) != 1)=false:=by simp;omega
 clear hk1
 go_enter Tryz.func306,Tryz.ntmps306
 go_wp2_with fail
 refine (demand_yes b _ _ _ rfl).mono ?_
 rintro e w' ⟨rfl,hww⟩
 subst w'
 go_wp2_with fail
 refine (demand_yes b _ _ _ rfl).mono ?_
 rintro e w' ⟨rfl,hww⟩
 subst w'
 go_wp2_with fail
 refine HU.out.mono ?_
 rintro e w' ⟨rfl,hww⟩
 subst w'
 go_wp2_with fail
 refine (demand_no b 6 _ _ t s.1 s.2 rv mc mt _ H.out.at_ rfl rfl).mono ?_
 rintro e w1 ⟨⟨bb,hz,rfl,hcc⟩,hm⟩
 exact ⟨rfl,⟨bb,hz,rfl,hcc⟩,Mod.of_below hm⟩
theorem beginT_deep (b:Nat) (t:ByteArray) (s:PS) (rv:Value) (mc mt pr pt pf:Nat) (w:World) (h:RC w b t s rv mc mt) (ht:TMap w b mt pr pt pf) :
  Calls Tryz.prog 306 #[.pointer (some ⟨b,0,none⟩),.map (some mt),.int .i64 7] w fun e w'=>Threw ⟨if s.1.kind=1 then 5 else 4,s.1.pos⟩ w e w'∧Mod b w w':=by
 have h1:w.cell? ⟨b,1,none⟩=some (.int .i64 s.1.kind):=h.at_.cell 1
 have h3:w.cell? ⟨b,3,none⟩=some (.string (strA s.1.spelt)):=h.at_.cell 3
 have hlk:=ht.look w s.1.spelt rfl
 have H:=hide h
 by_cases hk:s.1.kind=1
 ·rw [if_pos hk]
  have hk':((s.1.kind:Int) != 1)=false:=by simp;omega
  clear hk h ht hlk
  go_enter Tryz.func306,Tryz.ntmps306
  go_wp2_with fail
  refine (demand_no b 5 _ _ t s.1 s.2 rv mc mt _ H.out.at_ rfl rfl).mono ?_
  rintro e w1 ⟨⟨bb,hz,rfl,hcc⟩,hm⟩
  exact ⟨rfl,⟨bb,hz,rfl,hcc⟩,Mod.of_below hm⟩
 ·rw [if_neg hk]
  have h0:whichL testNames s.1.spelt=0:=by
   apply Classical.byContradiction
   intro h0
   exact hk (test_kind h.nm h0)
  rw [testFn_none h0] at hlk
  have hk':((s.1.kind:Int) != 1)=true:=by simp;omega
  clear hk h ht h0
  simp only [Option.getD_none,Option.isSome_none] at hlk
  go_enter Tryz.func306,Tryz.ntmps306
  go_wp2_with fail
  refine (demand_yes b _ _ _ rfl).mono ?_
  rintro e w' ⟨rfl,hww⟩
  subst w'
  go_wp2_with fail
  refine (demand_no b 4 _ _ t s.1 s.2 rv mc mt _ H.out.at_ rfl rfl).mono ?_
  rintro e w1 ⟨⟨bb,hz,rfl,hcc⟩,hm⟩
  exact ⟨rfl,⟨bb,hz,rfl,hcc⟩,Mod.of_below hm⟩
theorem testFn_some {b pr pt pf:Nat} {x:List UInt8} (h:¬ whichL testNames x=0):∃ fv,testFn b pr pt pf x=some fv:=by
 have hle:=whichL_le testNames x
 have hl:testNames.length=10:=rfl
 unfold testFn
 generalize whichL testNames x=i at *
 rcases (by omega:i=1∨i=2∨i=3∨i=4∨i=5∨i=6∨i=7∨i=8∨i=9∨i=10) with h | h | h | h | h | h | h | h | h | h <;> subst h <;> exact ⟨_,rfl⟩
theorem beginT_any (n:Nat) (req:List (List UInt8)) (d:Int) (b F:Nat) (t:ByteArray) (s:PS) (rv:Value) (mc mt pr pt pf:Nat) (w:World) (h:RC w b t s rv mc mt) (ht:TMap w b mt pr pt pf) (hr:ReqV w b rv req) (hF:2*t.size+1 < F) (hd0:0≤d) (hd:d≤6) (hS:SubMu t.size (testL t.data.toList req F n)) (ho:SubOk 252 w b t rv mc mt (d+1) (testL t.data.toList req F n) (TestV n)) :
  Calls Tryz.prog 306 #[.pointer (some ⟨b,0,none⟩),.map (some mt),.int .i64 d] w (RPost (testL t.data.toList req F (n+1) s) b t rv mc mt w (TestV (n+1) (fromB w.heap.size))):=by
 by_cases h0:whichL testNames s.1.spelt=0
 ·refine (beginT_unknown d b t s rv mc mt pr pt pf w h ht hd h0).mono ?_
  rintro e w1 ⟨h1,h2⟩
  exact RPost.err (by rw [testL,if_pos h0]) h2 h1
 have hk1:=test_kind h.nm h0
 cases hu:useOk req s.1.spelt
 ·obtain ⟨fv,hf⟩:=testFn_some (b:=b) (pr:=pr) (pt:=pt) (pf:=pf) h0
  refine (beginT_nouse fv req d b t s rv mc mt pr pt pf w h ht hr hd hk1 hf hu).mono ?_
  rintro e w1 ⟨h1,h2⟩
  exact RPost.err (by rw [testL,if_neg h0,if_neg (by rw [hu];decide)]) h2 h1
 have hle:=whichL_le testNames s.1.spelt
 have hl:testNames.length=10:=rfl
 rcases (by omega:whichL testNames s.1.spelt=0+1∨whichL testNames s.1.spelt=1+1∨whichL testNames s.1.spelt=2+1∨whichL testNames s.1.spelt=3+1∨whichL testNames s.1.spelt=4+1∨whichL testNames s.1.spelt=5+1∨whichL testNames s.1.spelt=6+1∨whichL testNames s.1.spelt=7+1∨whichL testNames s.1.spelt=8+1∨whichL testNames s.1.spelt=9+1) with hi | hi | hi | hi | hi | hi | hi | hi | hi | hi
 ·exact beginT_True n req d b F t s rv mc mt pr pt pf w h ht hr hF hd0 hd hk1 hS ho hi hu
 ·exact beginT_False n req d b F t s rv mc mt pr pt pf w h ht hr hF hd0 hd hk1 hS ho hi hu
 ·exact beginT_Not n req d b F t s rv mc mt pr pt pf w h ht hr hF hd0 hd hk1 hS ho hi hu
 ·exact beginT_Allof n req d b F t s rv mc mt pr pt pf w h ht hr hF hd0 hd hk1 hS ho hi hu
 ·exact beginT_Anyof n req d b F t s rv mc mt pr pt pf w h ht hr hF hd0 hd hk1 hS ho hi hu
 ·exact beginT_Header n req d b F t s rv mc mt pr pt pf w h ht hr hF hd0 hd hk1 hS ho hi hu
 ·exact beginT_Envelope n req d b F t s rv mc mt pr pt pf w h ht hr hF hd0 hd hk1 hS ho hi hu
 ·exact beginT_String n req d b F t s rv mc mt pr pt pf w h ht hr hF hd0 hd hk1 hS ho hi hu
 ·exact beginT_Exists n req d b F t s rv mc mt pr pt pf w h ht hr hF hd0 hd hk1 hS ho hi hu
 ·exact beginT_Size n req d b F t s rv mc mt pr pt pf w h ht hr hF hd0 hd hk1 hS ho hi hu
theorem test_call {α:Type} (r:Except Flt (α×PS)) (val:α→World→Value→Prop) (d:Int) (b:Nat) (t:ByteArray) (s:PS) (rv:Value) (mc mt:Nat) (w:World) (h:RC w b t s rv mc mt)
  (hb:Calls Tryz.prog 306 #[.pointer (some ⟨b,0,none⟩),.map (some mt),.int .i64 d] w (RPost r b t rv mc mt w val)) :
  Calls Tryz.prog 252 #[.pointer (some ⟨b,0,none⟩),.int .i64 d] w (RPost r b t rv mc mt w val):=by
 have h9:w.cell? ⟨b,9,none⟩=some (.map (some mt)):=h.at_.cell 9
 have HB:=hide hb
 clear hb h
 go_enter Tryz.func252,Tryz.ntmps252
 go_wp2_with fail
 refine HB.out.mono ?_
 intro e w1 h1
 rcases h1.cases with ⟨q,v,hq,rfl,hv,hc3,hm3⟩ | ⟨f3,hf3,⟨bb,hz,rfl,hcc⟩,hm3⟩
 ·have HQ:=hide (RPost.ok hq hm3 hv hc3)
  clear h1 hq hm3 hv hc3
  go_wp2
  go_ret
  exact HQ.out
 ·exact ⟨rfl,RPost.err hf3 hm3 ⟨bb,hz,rfl,hcc⟩⟩
theorem test_any (req:List (List UInt8)) (b F:Nat) (t:ByteArray) (rv:Value) (mc mt pr pt pf:Nat) (hF:2*t.size+1 < F) (hS:∀ n,SubMu t.size (testL t.data.toList req F n)) :
  ∀ (n:Nat),n≤7→∀ (w:World),TMap w b mt pr pt pf→ReqV w b rv req→SubOk 252 w b t rv mc mt (7 - (n:Int)) (testL t.data.toList req F n) (TestV n)
 | 0,_,w,ht,hr=>fun W s hm hc=>by
  refine test_call _ _ _ b t s rv mc mt W hc ?_
  refine (beginT_deep b t s rv mc mt pr pt pf W hc (ht.mod hm)).mono ?_
  rintro e w1 ⟨h1,h2⟩
  refine RPost.err ?_ h2 h1
  rw [testL]
  split <;> rfl
 | n+1,hn,w,ht,hr=>fun W s hm hc=>by
  refine test_call _ _ _ b t s rv mc mt W hc ?_
  have ih:=test_any req b F t rv mc mt pr pt pf hF hS n (by omega) W (ht.mod hm) (hr.mod hm)
  have e:(7:Int) - ((n+1:Nat):Int)+1=7 - (n:Int):=by omega
  exact beginT_any n req _ b F t s rv mc mt pr pt pf W hc (ht.mod hm) (hr.mod hm) hF (by omega) (by omega) (hS n) (by rw [e];exact ih)
end
section
open Go.RowKit
theorem test_mu (t:ByteArray) (req:List (List UInt8)) (F n:Nat):SubMu t.size (testL t.data.toList req F n):=fun s y h1 h2 e=>by
 have:=(test_dn n s ⟨by simpa using h1,h2⟩ y e).2
 rw [bal] at this
 omega
theorem cmd_mu (t:ByteArray) (req:List (List UInt8)) (F n:Nat):SubMu t.size (cmdL t.data.toList req F n):=fun s y h1 h2 e=>by
 have:=(cmd_dn n s ⟨by simpa using h1,h2⟩ y e).2
 rw [bal] at this
 omega
theorem test_ok (req:List (List UInt8)) (b F:Nat) (t:ByteArray) (rv:Value) (mc mt pr pt pf:Nat) (hF:2*t.size+1 < F) (n:Nat) (hn:n≤7) (w:World) (ht:TMap w b mt pr pt pf) (hr:ReqV w b rv req) :
  SubOk 252 w b t rv mc mt (7 - (n:Int)) (testL t.data.toList req F n) (TestV n):=
 test_any req b F t rv mc mt pr pt pf hF (test_mu t req F) n hn w ht hr
end
end Go.Proofs.YtbiclelojbfnbaaGreatDoor
