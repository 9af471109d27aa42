import Derived.Defers
import Derived.Recover
import Derived.Test.YtenahlandohgaaaGreatDoorZEDeliver
import Derived.Test.YtenahlandohgaaaGreatDoorZEStep
import Derived.Test.YtenahlandohgaaaGreatDoorGAll
import Derived.Test.YtenahlandohgaaaGreatDoorGJour
import Derived.Test.YtenahlandohgaaaGreatDoorZGLeave
import Derived.Test.YtenahlandohgaaaGreatDoorZGOwn
namespace Go.Proofs.YtenahlandohgaaaGreatDoor
set_option linter.unusedVariables false
set_option linter.unusedSimpArgs false
set_option maxRecDepth 100000
set_option maxHeartbeats 4000000
section
open Go.RowKit
attribute [local go_sem ↓] Go.wp_at_zero Go.wp_at_succ
theorem gguarded_err (k:Int) (f:Nat) (caps:Array Value) (R:World→Prop) (w:World) (hcf:∀ args W,(callFunc f args).run Tryz.prog W=.ok (.enter f args) W)
 (hw:Calls Tryz.prog f caps (w.alloc (.cells #[.nilIface] 67)) fun e w'=>e=.returned (.iface 40 (.int .i64 k))∧w'.heap[w.heap.size]?=some (.cells #[.nilIface] 67)∧R w') :
 Calls Tryz.prog 79 #[.func (.func f) #[] caps] w fun e w'=>e=.returned (.iface 40 (.int .i64 k))∧∃ w1,R w1∧w1.heap[w.heap.size]?=some (.cells #[.nilIface] 67)∧w'=w1.setCell ⟨w.heap.size,0,none⟩ (.iface 40 (.int .i64 k)):=by
 have hmf:∀ (fn:Fn) (first cap:Array Value) (w:World),(Instr.makeFunc fn first cap).run Tryz.prog w=.ok (.func fn first cap) w:=fun _ _ _ _=>rfl
 have HW:=hide hw
 clear hw
 go_enter_defers Tryz.func79,Tryz.ntmps79
 go_wp2_with fail
 refine HW.out.mono ?_
 rintro e w1 ⟨rfl,hE,hR⟩
 have c0:w1.cell? ⟨w.heap.size,0,none⟩=some .nilIface:=blk_cell hE 0
 have z0:∀ j,w1.frozen? ⟨w.heap.size,j,none⟩=false:=blk_frozen hE
 have HE:=hide hE
 have HR:=hide hR
 clear hE hR
 go_wp2
 refine leaves_cons (f:=140) (args:=#[.pointer (some ⟨w.heap.size,0,none⟩)]) (by simp) (by simp [go_sem]) ?_
 refine (gcatch_idle ⟨w.heap.size,0,none⟩ _).mono ?_
 rintro e u' w'' ⟨rfl,rfl,rfl⟩
 simp [Leaves,settle,results,Tryz.results79,go_sem,c0]
 exact ⟨w1,HR.out,HE.out,rfl⟩
theorem gguarded_any (k:Nat) (f:Nat) (caps:Array Value) (R:World→Prop) (w:World) (hcf:∀ args W,(callFunc f args).run Tryz.prog W=.ok (.enter f args) W)
 (hw:Calls Tryz.prog f caps (w.alloc (.cells #[.nilIface] 67)) fun e w'=>e=.returned (errV k)∧w'.heap[w.heap.size]?=some (.cells #[.nilIface] 67)∧R w') :
 Calls Tryz.prog 79 #[.func (.func f) #[] caps] w fun e w'=>e=.returned (errV k)∧∃ w1,R w1∧w1.heap[w.heap.size]?=some (.cells #[.nilIface] 67)∧w'=w1.setCell ⟨w.heap.size,0,none⟩ (errV k):=by
 by_cases h:k=0
 ·subst h
  exact guarded_any f caps R w hcf hw
 ·rw [errV_ne h] at hw ⊢
  exact gguarded_err k f caps R w hcf hw
theorem AbsD.er {w w':World} {B db bd bn n:Nat} {A:AD} (h:AbsD w B db bd bn n A) (hf:Fr PEr w w'):AbsD w' B db bd bn n A:=by
 obtain ⟨pv,h⟩:=h
 exact ⟨pv,h.fr hf (fun k cs ⟨cs',e⟩=>by injection e with e1 e2;exact absurd e2 (by decide)) (fun k es c ⟨cs',e⟩=>by cases e) (fun k cs ⟨cs',e⟩=>by injection e with e1 e2;exact absurd e2 (by decide)) (fun k cs ⟨cs',e⟩=>by injection e with e1 e2;exact absurd e2 (by decide))⟩
theorem gdeliver1_any (B db bd bn n vb xb fb:Nat) (A:AD) (J:List UInt8) (id text:List UInt8) (a:Option Addr) (m c:Nat) (b:Option Addr) (fl fc:Nat) (fs:List Fl) (w:World) (h:AbsD w B db bd bn n A) (hdn:A.lf.down=false)
 (hv:w.heap[vb]?=some (.cells #[.string (strA id),.slice a m c,.string (strA text)] 159)) (hx:w.heap[xb]?=some (.cells #[dskV db] 113)) (hf:w.heap[fb]?=some (.cells #[.slice b fl fc] 26))
 (hfv:FilE w (.slice b fl fc) fs) (hJl:J.length≤100000000) (hJou:∀ W,Below w.heap.size w W→JouIs J id text (.slice a m c) W) (hj0:A.N kJournal=none) (hjf:∀ f∈fs,f.1≠kJournal)
 (hn:n≤460000) (hf10:fs.length≤10) (hp:A.p.length≤50) (hops:OpsOk A.p) (hs:∀ f∈fs,f.1.length≤1000∧f.2.length≤100000000) :
 Calls Tryz.prog 80 #[.pointer (some ⟨vb,0,none⟩),.pointer (some ⟨xb,0,none⟩),.pointer (some ⟨fb,0,none⟩)] w fun e w'=>e=.returned (errV (aRun (leaveOps J fs) A).1)∧AbsD w' B db bd bn (n+1200) (aRun (leaveOps J fs) A).2∧Fr (PDk B) w w':=by
 have v0:w.cell? ⟨vb,0,none⟩=some (.string (strA id)):=blk_cell hv 0
 have v1:w.cell? ⟨vb,1,none⟩=some (.slice a m c):=blk_cell hv 1
 have v2:w.cell? ⟨vb,2,none⟩=some (.string (strA text)):=blk_cell hv 2
 have x0:w.cell? ⟨xb,0,none⟩=some (dskV db):=blk_cell hx 0
 have f0:w.cell? ⟨fb,0,none⟩=some (.slice b fl fc):=blk_cell hf 0
 have HL:=hide (gleave_any B db bd bn n A J id text a m c b fl fc fs w h hdn hfv hJl hJou hj0 hjf hn hf10 hp hops hs)
 clear h hv hx hf hfv hJou hj0 hjf hs hops
 unfold dskV at x0 HL
 go_enter Tryz.func80,Tryz.ntmps80
 go_wp2_with fail
 refine HL.out.mono ?_
 rintro e w1 ⟨he,h1,h2⟩
 obtain ⟨kk,hkk⟩:∃ kk,kk=(aRun (leaveOps J fs) A).1:=⟨_,rfl⟩
 rw [← hkk] at he
 have HKK:=hide hkk
 clear hkk
 by_cases hz:kk=0
 ·subst hz
  rw [show errV 0=.nilIface from rfl] at he
  subst he
  have H1:=hide h1
  have H2:=hide h2
  clear h1 h2
  go_wp2
  go_ret
  exact ⟨by rw [← HKK.out];rfl,H1.out,H2.out⟩
 rw [errV_ne hz] at he
 subst he
 have HZ:=hide hz
 clear hz
 have H1:=hide h1
 have H2:=hide h2
 clear h1 h2
 go_wp2
 go_ret
 exact ⟨by rw [← HKK.out,errV_ne HZ.out];rfl,H1.out,H2.out⟩
theorem gdeliver_guarded (B db bd bn n X:Nat) (A:AD) (id text:List UInt8) (acts:List (Int×List UInt8)) (a:Option Addr) (c:Nat) (b:Option Addr) (fl fc:Nat) (fs:List Fl) (w w1:World) (h:AbsD w B db bd bn n A) (hdn:A.lf.down=false) (ht:Tab w) (hz:Tz w) (ha:ActG w (.slice a acts.length c) acts)
 (h1:id.length≤2000000) (h2:text.length≤2000000) (h3:∀ a∈acts,a.2.length≤2000000) (hj0:A.N kJournal=none) (hn:n≤450000) (hp:A.p.length≤50) (hops:OpsOk A.p) (hJl:(jouL id text acts).length≤100000000) (hf6:fs.length≤6) (h6:acts.length≤6)
 (hb1:Below w.heap.size w w1) (hx:w1.heap[X]?=some (.cells #[dskV db] 113)) (hv:w1.heap[X+1]?=some (.cells #[.string (strA id),.slice a acts.length c,.string (strA text)] 159))
 (hfv:FilE w1 (.slice b fl fc) fs) (hN:∀ f∈fs,NameOk f.1∧f.2.length≤2000000+text.length+8) (hK:∀ a∈acts,0≤a.1∧a.1≤2147483647) :
 Calls Tryz.prog 79 #[.func (.func 80) #[] #[.pointer (some ⟨X+1,0,none⟩),.pointer (some ⟨X,0,none⟩),.pointer (some ⟨w1.heap.size,0,none⟩)]] (w1.alloc (.cells #[.slice b fl fc] 26)) fun e w'=>e=.returned (errV (aRun (leaveOps (jouL id text acts) fs) A).1)∧Fr (PDk B) w w'∧AbsD w' B db bd bn (n+1200) (aRun (leaveOps (jouL id text acts) fs) A).2:=by
 obtain ⟨Y,hY⟩:∃ Y,Y=(w1.alloc (.cells #[.slice b fl fc] 26)).alloc (.cells #[.nilIface] 67):=⟨_,rfl⟩
 have hYB:Below w1.heap.size w1 Y:=by rw [hY];exact ((Below.refl _ _).alloc (Nat.le_refl _) _).alloc (by simp) _
 have hYw:Below w.heap.size w Y:=hb1.trans (hYB.mono hb1.size)
 have hYf:Y.heap[w1.heap.size]?=some (.cells #[.slice b fl fc] 26):=by rw [hY];exact blk_alloc (blk_new _ _)
 have hYe:Y.heap[(w1.alloc (.cells #[.slice b fl fc] 26)).heap.size]?=some (.cells #[.nilIface] 67):=by rw [hY];exact blk_new _ _
 have hcall:=gdeliver1_any B db bd bn n (X+1) X w1.heap.size A (jouL id text acts) id text a acts.length c b fl fc fs Y (h.below hYw) hdn (blk_below hv hYB) (blk_below hx hYB) hYf (hfv.fr (P:=fun _ _=>False) (Fr.of_below hYB) (fun _ _ h=>h)) hJl
  (fun W hW=>gjournal_any id text kJournal acts (.slice a acts.length c) W (ht.below (hYw.trans (hW.mono hYw.size))) (hz.below (hYw.trans (hW.mono hYw.size))) (ha.below (hYw.trans (hW.mono hYw.size))) h1 h2 (fun a ha=>⟨h3 a ha,hK a ha⟩) (by omega) (by decide)) hj0
  (fun f hf e=>by obtain ⟨_,c0,r,e1,e2⟩:=(hN f hf).1;rw [e] at e1;injection e1 with e3 _;exact e2 e3.symm) (by omega) (by omega) hp hops (fun f hf=>⟨by have:=(hN f hf).1.1;omega,by have:=(hN f hf).2;omega⟩)
 rw [hY] at hcall
 refine (gguarded_any (aRun (leaveOps (jouL id text acts) fs) A).1 80 _ (fun w'=>AbsD w' B db bd bn (n+1200) (aRun (leaveOps (jouL id text acts) fs) A).2∧Fr (PDk B) Y w') _ (fun _ _=>by kernel_rfl) (hcall.mono ?_)).mono ?_
 ·rintro e w' ⟨rfl,hD,hF⟩
  rw [← hY] at hF
  exact ⟨rfl,hF.block _ _ hYe PDk.notEr,hD,hF⟩
 ·rintro e w' ⟨rfl,w2,⟨hD,hF⟩,hE,rfl⟩
  have h2F:Fr (PDk B) w w2:=(Fr.of_below hYw).trans hF
  refine ⟨rfl,h2F.setNew _ (Nat.le_trans hb1.size (by simp)) _ _,hD.er ((Fr.refl _ w2).set hE ⟨_,rfl⟩ _ _)⟩
end
section
open Go.RowKit
attribute [local go_sem ↓] Go.wp_at_zero Go.wp_at_succ
def RvPost (B db bd bn n:Nat) (A:AD) (own:Option (List Fl)) (w:World) (e:Ending) (w':World):Prop:=
 e=.returned (errV (aRun (recOps own) A).1)∧AbsD w' B db bd bn (n+1300) (aRun (recOps own) A).2∧Fr (PDk B) w w'
theorem OwnIs.fr {w w':World} {N:Fs} {own:Option (List Fl)} {B0:Nat} (h:OwnIs w N own) (hb:Below w.heap.size w w'):OwnIs w' N own:=by
 cases own with
 | none=>exact h
 | some fs=>
  obtain ⟨h1,h2,h3,h4,s,h5,h6,h7⟩:=h
  exact ⟨h1,h2,h3,h4,s,h5,h6,fun B W hB hf=>h7 B W hB ((Fr.of_below hb).trans hf)⟩
theorem grecover1_any (B db bd bn n xb:Nat) (A:AD) (own:Option (List Fl)) (w:World) (h:AbsD w B db bd bn n A) (hB:6 < B) (ht:Tab w) (hown:OwnIs w A.N own) (hn:n≤450000) (hp:A.p.length≤50) (hops:OpsOk A.p) (hx:w.heap[xb]?=some (.cells #[dskV db] 113)) :
 Calls Tryz.prog 86 #[.pointer (some ⟨xb,0,none⟩)] w (RvPost B db bd bn n A own w):=by
 have x0:w.cell? ⟨xb,0,none⟩=some (dskV db):=blk_cell hx 0
 have HL:=hide (gsettleAll_any B db bd bn n A own w h hB ht hown hn hp hops)
 clear h hx hown ht hops
 unfold dskV at x0 HL
 go_enter Tryz.func86,Tryz.ntmps86
 go_wp2_with fail
 refine HL.out.mono ?_
 rintro e w1 ⟨he,h1,h2⟩
 obtain ⟨ev,hev⟩:∃ ev,ev=errV (aRun (recOps own) A).1:=⟨_,rfl⟩
 rw [← hev] at he
 subst he
 have HEV:=hide hev
 have H1:=hide h1
 have H2:=hide h2
 clear h1 h2 hev
 go_wp2
 go_ret
 exact ⟨by rw [← HEV.out];rfl,H1.out,H2.out⟩
theorem grecover_guarded (B db bd bn n:Nat) (A:AD) (own:Option (List Fl)) (w:World) (h:AbsD w B db bd bn n A) (hB:6 < B) (ht:Tab w) (hown:OwnIs w A.N own) (hn:n≤450000) (hp:A.p.length≤50) (hops:OpsOk A.p) :
 Calls Tryz.prog 79 #[.func (.func 86) #[] #[.pointer (some ⟨w.heap.size,0,none⟩)]] (w.alloc (.cells #[dskV db] 113)) (RvPost B db bd bn n A own w):=by
 obtain ⟨Y,hY⟩:∃ Y,Y=(w.alloc (.cells #[dskV db] 113)).alloc (.cells #[.nilIface] 67):=⟨_,rfl⟩
 have hYw:Below w.heap.size w Y:=by rw [hY];exact ((Below.refl _ _).alloc (Nat.le_refl _) _).alloc (by simp) _
 have hYx:Y.heap[w.heap.size]?=some (.cells #[dskV db] 113):=by rw [hY];exact blk_alloc (blk_new _ _)
 have hYe:Y.heap[(w.alloc (.cells #[dskV db] 113)).heap.size]?=some (.cells #[.nilIface] 67):=by rw [hY];exact blk_new _ _
 have hcall:=grecover1_any B db bd bn n w.heap.size A own Y (h.below hYw) hB (ht.below hYw) (OwnIs.fr (B0:=0) hown hYw) hn hp hops hYx
 rw [hY] at hcall
 refine (gguarded_any (aRun (recOps own) A).1 86 _ (fun w'=>AbsD w' B db bd bn (n+1300) (aRun (recOps own) A).2∧Fr (PDk B) Y w') _ (fun _ _=>by kernel_rfl) (hcall.mono ?_)).mono ?_
 ·rintro e w' ⟨rfl,hD,hF⟩
  rw [← hY] at hF
  exact ⟨rfl,hF.block _ _ hYe PDk.notEr,hD,hF⟩
 ·rintro e w' ⟨rfl,w2,⟨hD,hF⟩,hE,rfl⟩
  have h2F:Fr (PDk B) w w2:=(Fr.of_below hYw).trans hF
  exact ⟨rfl,hD.er ((Fr.refl _ w2).set hE ⟨_,rfl⟩ _ _),h2F.setNew _ (by simp) _ _⟩
theorem gsrecover_any (B db bd bn n:Nat) (A:AD) (own:Option (List Fl)) (w:World) (h:AbsD w B db bd bn n A) (hB:6 < B) (ht:Tab w) (hown:OwnIs w A.N own) (hn:n≤450000) (hp:A.p.length≤50) (hops:OpsOk A.p) :
 Calls Tryz.prog 55 #[dskV db] w (RvPost B db bd bn n A own w):=by
 have hmf:∀ (fn:Fn) (first cap:Array Value) (w:World),(Instr.makeFunc fn first cap).run Tryz.prog w=.ok (.func fn first cap) w:=fun _ _ _ _=>rfl
 have HL:=hide (grecover_guarded B db bd bn n A own w h hB ht hown hn hp hops)
 clear h hown ht hops
 unfold dskV at HL ⊢
 go_enter Tryz.func55,Tryz.ntmps55
 go_wp2_with fail
 refine HL.out.mono ?_
 rintro e w1 ⟨he,h1,h2⟩
 obtain ⟨ev,hev⟩:∃ ev,ev=errV (aRun (recOps own) A).1:=⟨_,rfl⟩
 rw [← hev] at he
 subst he
 have HEV:=hide hev
 have H1:=hide h1
 have H2:=hide h2
 clear h1 h2 hev
 go_wp2
 go_ret
 exact ⟨by rw [← HEV.out];rfl,H1.out,H2.out⟩
theorem gmrecover_any (B db bd bn n:Nat) (A:AD) (own:Option (List Fl)) (w:World) (h:AbsD w B db bd bn n A) (hB:6 < B) (ht:Tab w) (hown:OwnIs w A.N own) (hn:n≤450000) (hp:A.p.length≤50) (hops:OpsOk A.p) :
 Calls Tryz.prog 41 #[dskV db] w (RvPost B db bd bn n A own w):=by
 have HL:=hide (gsrecover_any B db bd bn n A own w h hB ht hown hn hp hops)
 clear h hown ht hops
 unfold dskV at HL ⊢
 go_enter Tryz.func41,Tryz.ntmps41
 go_wp2_with fail
 refine HL.out.mono ?_
 rintro e w1 ⟨he,h1,h2⟩
 obtain ⟨ev,hev⟩:∃ ev,ev=errV (aRun (recOps own) A).1:=⟨_,rfl⟩
 rw [← hev] at he
 subst he
 have HEV:=hide hev
 have H1:=hide h1
 have H2:=hide h2
 clear h1 h2 hev
 go_wp2
 go_ret
 exact ⟨by rw [← HEV.out];rfl,H1.out,H2.out⟩
end
section
open Go.RowKit
attribute [local go_sem ↓] Go.wp_at_zero Go.wp_at_succ
def GvPost (B db bd bn n:Nat) (A:AD) (id:List UInt8) (acts:List (Int×List UInt8)) (text:List UInt8) (w:World) (e:Ending) (w':World):Prop:=
 Fr (PDk B) w w'∧((∃ k:Nat,filesL id acts text=.error k∧e=.returned (.iface 40 (.int .i64 (k:Int)))∧AbsD w' B db bd bn n A)∨(filesL id acts text=.ok []∧e=.returned .nilIface∧AbsD w' B db bd bn n A)∨∃ fs,filesL id acts text=.ok fs∧fs≠[]∧e=.returned (errV (aRun (leaveOps (jouL id text acts) fs) A).1)∧AbsD w' B db bd bn (n+1200) (aRun (leaveOps (jouL id text acts) fs) A).2)
theorem gsdeliver_any (B db bd bn n:Nat) (A:AD) (id text:List UInt8) (acts:List (Int×List UInt8)) (av:Value) (w:World) (h:AbsD w B db bd bn n A) (hdn:A.lf.down=false) (ht:Tab w) (hz:Tz w) (ha:ActG w av acts)
 (h1:id.length≤2000000) (h2:text.length≤2000000) (h3:∀ a∈acts,a.2.length≤2000000) (h4:acts.length≤2000000) (hj0:A.N kJournal=none) (hn:n≤450000) (hp:A.p.length≤50) (hops:OpsOk A.p) (hJl:∀ fs,filesL id acts text=.ok fs→(jouL id text acts).length≤100000000) :
 Calls Tryz.prog 50 #[dskV db,.string (strA id),av,.string (strA text)] w (GvPost B db bd bn n A id acts text w):=by
 have hmf:∀ (fn:Fn) (first cap:Array Value) (w:World),(Instr.makeFunc fn first cap).run Tryz.prog w=.ok (.func fn first cap) w:=fun _ _ _ _=>rfl
 have HD:=hide h
 have HOP:=hide hops
 have HT:=hide ht
 have HZ:=hide hz
 have HA:=hide ha
 have H3:=hide h3
 have HJ0:=hide hj0
 obtain ⟨a,c,hav,_⟩:=ha
 subst hav
 clear h ht hz h3 hj0 hops
 unfold dskV
 go_enter Tryz.func50,Tryz.ntmps50
 go_wp2_with fail
 obtain ⟨V,hV⟩:∃ V,V=(w.alloc (.cells #[.iface 52 (.pointer (some ⟨db,0,none⟩))] 113)).alloc (.cells #[.string (strA id),.slice a acts.length c,.string (strA text)] 159):=⟨_,rfl⟩
 have hVX:V.heap[w.heap.size]?=some (.cells #[dskV db] 113):=by rw [hV];exact blk_alloc (blk_new _ _)
 have hVV:V.heap[w.heap.size+1]?=some (.cells #[.string (strA id),.slice a acts.length c,.string (strA text)] 159):=by rw [hV];exact blk_newAt (by simp)
 have hVB:Below w.heap.size w V:=by rw [hV];exact ((Below.refl _ _).alloc (Nat.le_refl _) _).alloc (by simp) _
 rw [← hV]
 clear hV
 have HVX:=hide hVX
 have HVV:=hide hVV
 have HVB:=hide hVB
 have hVz:=blk_lt hVV
 clear hVX hVV hVB
 refine (dvfiles_any id text acts (.slice a acts.length c) V (HT.out.below HVB.out) (HA.out.below HVB.out) h1 h2 H3.out h4).mono ?_
 rintro e w1 ⟨hb1,⟨fs,v,hfs,rfl,hrow⟩ | ⟨k,hfs,rfl⟩⟩
 ·have HB1:=hide (HVB.out.trans (hb1.mono HVB.out.size))
  have HVX1:=hide (blk_below HVX.out hb1)
  have HVV1:=hide (blk_below HVV.out hb1)
  obtain ⟨hfl,h6,hN,hK⟩:=filesL_all 2000000 hfs H3.out
  have HFE:=hide (FilE.of_owns hrow)
  have HN:=hide hN
  have HK:=hide hK
  have HFS:=hide hfs
  obtain ⟨va,vc,hvv⟩:=owns_len hrow
  subst hvv
  have hz1:=hb1.size
  have hf6:fs.length≤6:=by omega
  clear hb1 hrow hN hK hfs hfl
  by_cases h0:fs.length=0
  ·have HF0:Hid (fs=[]):=List.eq_nil_of_length_eq_zero h0
   have h0':((fs.length:Nat):Int)=0:=by omega
   go_wp2
   go_ret
   refine ⟨?_,Or.inr (Or.inl ⟨by rw [HFS.out,HF0.out],rfl,?_⟩)⟩
   ·exact Fr.of_below (HB1.out.alloc HB1.out.size _)
   ·exact HD.out.below (HB1.out.alloc HB1.out.size _)
  ·have h0':¬ ((fs.length:Nat):Int)=0:=by omega
   have HG:=hide (gdeliver_guarded B db bd bn n w.heap.size A id text acts a c va fs.length vc fs w w1 HD.out hdn HT.out HZ.out HA.out h1 h2 H3.out HJ0.out (by omega) hp HOP.out (hJl fs HFS.out) hf6 h6 HB1.out HVX1.out HVV1.out HFE.out HN.out HK.out)
   have HNE:Hid (fs≠[]):=fun e=>h0 (by rw [e];rfl)
   go_wp2_with fail
   refine HG.out.mono ?_
   rintro e w2 ⟨he,hF2,hD2⟩
   obtain ⟨ev,hev⟩:∃ ev,ev=errV (aRun (leaveOps (jouL id text acts) fs) A).1:=⟨_,rfl⟩
   rw [← hev] at he
   subst he
   have HEV:=hide hev
   have HF2:=hide hF2
   have HD2:=hide hD2
   clear hF2 hD2 hev
   go_wp2
   go_ret
   exact ⟨HF2.out,Or.inr (Or.inr ⟨fs,HFS.out,HNE.out,by rw [← HEV.out];rfl,HD2.out⟩)⟩
 ·have HB1:=hide (HVB.out.trans (hb1.mono HVB.out.size))
  have HFS:=hide hfs
  clear hb1 hfs
  go_wp2
  go_ret
  exact ⟨Fr.of_below (HB1.out.alloc HB1.out.size _),Or.inl ⟨k,HFS.out,rfl,HD.out.below (HB1.out.alloc HB1.out.size _)⟩⟩
theorem gmdeliver_any (B db bd bn n:Nat) (A:AD) (id text:List UInt8) (acts:List (Int×List UInt8)) (av:Value) (w:World) (h:AbsD w B db bd bn n A) (hdn:A.lf.down=false) (ht:Tab w) (hz:Tz w) (ha:ActG w av acts)
 (h1:id.length≤2000000) (h2:text.length≤2000000) (h3:∀ a∈acts,a.2.length≤2000000) (h4:acts.length≤2000000) (hj0:A.N kJournal=none) (hn:n≤450000) (hp:A.p.length≤50) (hops:OpsOk A.p) (hJl:∀ fs,filesL id acts text=.ok fs→(jouL id text acts).length≤100000000) :
 Calls Tryz.prog 38 #[dskV db,.string (strA id),av,.string (strA text)] w (GvPost B db bd bn n A id acts text w):=by
 have HL:=hide (gsdeliver_any B db bd bn n A id text acts av w h hdn ht hz ha h1 h2 h3 h4 hj0 hn hp hops hJl)
 obtain ⟨a,c,hav,_⟩:=ha
 subst hav
 clear h ht hz h3 hj0 hops
 unfold dskV at HL ⊢
 go_enter Tryz.func38,Tryz.ntmps38
 go_wp2_with fail
 refine HL.out.mono ?_
 rintro e w1 ⟨hF,⟨k,he,rfl,hD⟩ | ⟨he,rfl,hD⟩ | ⟨fs,he,hne,hee,hD⟩⟩
 ·have HF:=hide hF
  have HD:=hide hD
  have HE:=hide he
  clear hF hD he
  go_wp2
  go_ret
  exact ⟨HF.out,Or.inl ⟨k,HE.out,rfl,HD.out⟩⟩
 ·have HF:=hide hF
  have HD:=hide hD
  have HE:=hide he
  clear hF hD he
  go_wp2
  go_ret
  exact ⟨HF.out,Or.inr (Or.inl ⟨HE.out,rfl,HD.out⟩)⟩
 ·obtain ⟨ev,hev⟩:∃ ev,ev=errV (aRun (leaveOps (jouL id text acts) fs) A).1:=⟨_,rfl⟩
  rw [← hev] at hee
  subst hee
  have HEV:=hide hev
  have HF:=hide hF
  have HD:=hide hD
  have HE:=hide he
  have HNE:=hide hne
  clear hF hD he hev hne
  go_wp2
  go_ret
  exact ⟨HF.out,Or.inr (Or.inr ⟨fs,HE.out,HNE.out,by rw [← HEV.out];rfl,HD.out⟩)⟩
end
end Go.Proofs.YtenahlandohgaaaGreatDoor
