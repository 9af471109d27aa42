import Derived.Test.YtenahlandohgaaaGreatDoorZEFile
import Derived.Test.YtenahlandohgaaaGreatDoorEFiles
import Derived.Test.YtenahlandohgaaaGreatDoorETurn
namespace Go.Proofs.YtenahlandohgaaaGreatDoor
set_option linter.unusedVariables false
set_option linter.unusedSimpArgs false
set_option maxRecDepth 100000
set_option maxHeartbeats 4000000
open Go.RowKit
attribute [local go_sem ↓] Go.wp_at_zero Go.wp_at_succ
theorem wpOpE {P:Program} {ops:Array Oper} {Q:Exit→Act→World→Prop} {i:Nat} {o:Oper} {K:Act→World→Prop} {a:Act} {w:World} (ho:ops[i]?=some o) (hw:Region.wanted o (yielded ops a.tmps)=true) (h:o.wp P a w K Q):wpOp P ops Q i K a w:=by
 unfold wpOp
 rw [ho]
 dsimp only
 rw [if_pos hw]
 exact Or.inl h
theorem putFs_other (fs:List Fl) (F:Fs) (x:List UInt8) (h:∀ f∈fs,f.1≠x):putFs F fs x=F x:=by
 induction fs generalizing F with
 | nil=>rfl
 | cons f r ih=>
  show putFs (putP F f) r x=_
  rw [ih _ (fun g hg=>h g (by simp [hg]))]
  show (if x=f.1 then some f.2 else F x)=F x
  rw [if_neg (fun e=>h f (by simp) e.symm)]
theorem putFs_same (fs:List Fl) (F G:Fs) (x:List UInt8) (h:F x=G x):putFs F fs x=putFs G fs x:=by
 induction fs generalizing F G with
 | nil=>exact h
 | cons f r ih=>
  show putFs (putP F f) r x=putFs (putP G f) r x
  apply ih
  show (if x=f.1 then some f.2 else F x)=if x=f.1 then some f.2 else G x
  rw [h]
theorem left_is (F:Fs) (j J:List UInt8) (fs:List Fl) (h0:F j=none) (h:∀ f∈fs,f.1≠j):delF (putFs (putF F j J) fs) j=putFs F fs:=by
 funext x
 show (if x=j then none else putFs (putF F j J) fs x)=putFs F fs x
 by_cases e:x=j
 ·subst e
  rw [if_pos rfl,putFs_other fs F x h,h0]
 ·rw [if_neg e]
  apply putFs_same
  show (if x=j then some J else F x)=F x
  rw [if_neg e]
theorem below_drewE {B:Nat} {u w:World} (h:Below B u w):Below B u w.drew:=⟨h.os,h.tape,h.output,h.size,h.block⟩
def JouOk (id text:List UInt8) (av:Value) (W:World):Prop:=Calls Tryz.prog 144 #[.agg #[.string (strA id),av,.string (strA text)],.string (strA kJournal)] W fun e w'=>∃ J,e=.returned (.string (strA J))∧J.length≤100000000∧Below W.heap.size W w'
theorem leave_turn (B db bd bn n sb f1 x1 f2 x2 x3 n3:Nat) (F:Fs) (q:Int) (pv:Value) (J:List UInt8) (b:Option Addr) (fl fc:Nat) (fs:List Fl) (w w2 w3 w4 w5:World) (h:DI w B db bd bn n F F [] q pv) (hfv:FilE w (.slice b fl fc) fs) (hJl:J.length≤100000000) (hB2:Below w.heap.size w w2)
 (h3:w3.heap[f1]?=some (.cells #[.slice (some ⟨w2.heap.size,0,none⟩) 1 1] 26)∧w3.heap[x1]?=some (.cells #[dskV db] 113))
 (hc3:Below (w2.alloc (.cells #[.string (strA kJournal),.string (strA J)] 86)).heap.size (w2.alloc (.cells #[.string (strA kJournal),.string (strA J)] 86)) w3)
 (h4:w4.heap[f2]?=some (.cells #[.slice b fl fc] 26)∧w4.heap[x2]?=some (.cells #[dskV db] 113)) (hc4:Below w3.heap.size w3 w4)
 (h5:w5.heap[x3]?=some (.cells #[dskV db] 113)∧w5.heap[n3]?=some (.cells #[.string (strA kJournal)] 9)) (hc5:Below w4.heap.size w4 w5)
 (hn:n+fs.length≤460000) (hq:-20000≤q - fs.length) (hq1:q≤-1) (hs:∀ f∈fs,f.1.length≤1000∧f.2.length≤100000000) (hjf:∀ f∈fs,f.1≠kJournal) (hj0:F kJournal=none) :
 Calls Tryz.prog 142 #[.slice (some ⟨w5.heap.size,0,none⟩) 6 6] (w5.alloc (.cells #[wrF f1 x1,syF db,wrF f2 x2,syF db,rmF x3 n3,syF db] 164)) fun e w'=>e=.returned .nilIface∧(∃ pv',DI w' B db bd bn (n+2+fs.length+fs.length+2) (putFs F fs) (putFs F fs) [] (q - 5 - fs.length) pv')∧Fr (PDk B) w w'∧∀ o,w5.heap[w.heap.size]?=some (.cells o 159)→w'.heap[w.heap.size]?=some (.cells o 159):=by
 obtain ⟨W,hW⟩:∃ W,W=w5.alloc (.cells #[wrF f1 x1,syF db,wrF f2 x2,syF db,rmF x3 n3,syF db] 164):=⟨_,rfl⟩
 rw [← hW]
 have hj3:w3.heap[w2.heap.size]?=some (.cells #[.string (strA kJournal),.string (strA J)] 86):=blk_below (blk_new _ _) hc3
 have b5:Below w5.heap.size w5 W:=by rw [hW];exact (Below.refl _ _).alloc (Nat.le_refl _) _
 have b4:Below w4.heap.size w4 W:=hc5.trans (b5.mono hc5.size)
 have b3:Below w3.heap.size w3 W:=hc4.trans (b4.mono hc4.size)
 have b2:Below w.heap.size w W:=(hB2.trans (((Below.refl _ _).alloc (Nat.le_refl _) _).mono hB2.size)).trans ((hc3.mono (by have:=hB2.size;simp;omega)).trans (b3.mono (by have:=hB2.size;have:=hc3.size;simp at this;omega)))
 have hjW:=blk_below hj3 b3
 have hl1:FilE W (.slice (some ⟨w2.heap.size,0,none⟩) 1 1) [(kJournal,J)]:=⟨_,_,rfl,fun _=>⟨_,_,rfl,hjW,fun j hj=>by
  have:j=0:=by simp at hj;exact hj
  subst this
  exact ⟨blk_cell hjW 0,blk_cell hjW 1⟩⟩⟩
 have hjn:(putFs (putF F kJournal J) fs kJournal).isSome=true:=by rw [putFs_other fs _ _ hjf];simp [putF]
 refine (inTurn_any B db bd bn n w5.heap.size f1 x1 f2 x2 x3 n3 6 F q kJournal J _ _ fs W ⟨pv,h.below b2⟩ (by rw [hW];exact blk_new _ _) (blk_below h3.1 b3) (blk_below h3.2 b3) hl1 (blk_below h4.1 b4) (blk_below h4.2 b4) (hfv.fr (P:=fun _ _=>False) (Fr.of_below b2) (fun _ _ h=>h)) (blk_below h5.1 b5) (blk_below h5.2 b5) hn hq hq1 (by decide) hJl hs hjn).mono ?_
 rintro e w6 ⟨rfl,⟨pv6,hD6⟩,hF6⟩
 rw [left_is F kJournal J fs hj0 hjf] at hD6
 exact ⟨rfl,⟨pv6,hD6⟩,(Fr.of_below b2).trans hF6,fun o ho=>hF6.block _ _ (blk_below ho b5) (PDk.notT (by decide) (by decide))⟩
theorem leave_any (B db bd bn n:Nat) (F:Fs) (q:Int) (pv:Value) (id text:List UInt8) (a:Option Addr) (m c:Nat) (b:Option Addr) (fl fc:Nat) (fs:List Fl) (w:World) (h:DI w B db bd bn n F F [] q pv)
 (hfv:FilE w (.slice b fl fc) fs) (hJou:∀ W,Below w.heap.size w W→JouOk id text (.slice a m c) W) (hj0:F kJournal=none) (hjf:∀ f∈fs,f.1≠kJournal)
 (hn:n+fs.length≤460000) (hq:-20000≤q - fs.length) (hq1:q≤-1) (hs:∀ f∈fs,f.1.length≤1000∧f.2.length≤100000000) :
 Calls Tryz.prog 81 #[.agg #[.string (strA id),.slice a m c,.string (strA text)],dskV db,.slice b fl fc] w fun e w'=>e=.returned .nilIface∧(∃ pv',DI w' B db bd bn (n+2+fs.length+fs.length+2) (putFs F fs) (putFs F fs) [] (q - 5 - fs.length) pv')∧Fr (PDk B) w w':=by
 have HD:=hide h
 have HFV:=hide hfv
 have HJO:=hide hJou
 have HJ0:=hide hj0
 have HJF:=hide hjf
 have HS:=hide hs
 obtain ⟨W,hW⟩:∃ W,W=w.alloc (.cells #[.string (strA id),.slice a m c,.string (strA text)] 159):=⟨_,rfl⟩
 have HWB:Hid (Below w.heap.size w W):=by rw [hW];exact (Below.refl _ _).alloc (Nat.le_refl _) _
 have HWD:Hid (W.heap[w.heap.size]?=some (.cells #[.string (strA id),.slice a m c,.string (strA text)] 159)):=by rw [hW];exact blk_new _ _
 have HWW:=hide hW
 have hmt:=mth_Names db
 clear h hfv hJou hj0 hjf hs hW
 go_enter Tryz.func81,Tryz.ntmps81
 go_wp2_with fail
 rw [← HWW.out]
 refine (names_all B db bd bn n F F [] q pv W (HD.out.below HWB.out) (by omega)).mono ?_
 rintro e w1 ⟨hB1,nv,l,rfl,hN1,hmem,hll⟩
 have HN1:=hide hN1
 obtain ⟨na,nc,hnv⟩:=owns_len hN1
 subst hnv
 have HJN:Hid (kJournal ∉ l):=fun hm=>by have h1:=(hmem kJournal).1 hm;rw [HJ0.out] at h1;cases h1
 have HB1:=hide (HWB.out.trans (hB1.mono HWB.out.size))
 have HD1:=hide (blk_below HWD.out hB1)
 have hs1:=HB1.out.size
 clear hB1 hN1 hmem
 go_wp2_with (go_at_call 141;refine (journalName_any _ l _ w1 HN1.out (by omega) HJN.out).mono ?_;rintro e w1' ⟨rfl,hw1⟩;rw [hw1];clear hw1)
 have v0:w1.cell? ⟨w.heap.size,0,none⟩=some (.string (strA id)):=blk_cell HD1.out 0
 have v1:w1.cell? ⟨w.heap.size,1,none⟩=some (.slice a m c):=blk_cell HD1.out 1
 have v2:w1.cell? ⟨w.heap.size,2,none⟩=some (.string (strA text)):=blk_cell HD1.out 2
 have HJ1:=hide (HJO.out w1.drew (below_drewE HB1.out))
 have HSJ:Hid (∀ W:World,W.heap[w.heap.size]?=some (.cells #[.string (strA id),.slice a m c,.string (strA text)] 159)→W.cell? ⟨w.heap.size,0,none⟩=some (.string (strA id))∧W.cell? ⟨w.heap.size,1,none⟩=some (.slice a m c)∧W.cell? ⟨w.heap.size,2,none⟩=some (.string (strA text))):=fun W hv=>⟨blk_cell hv 0,blk_cell hv 1,blk_cell hv 2⟩
 clear hmt
 refine wp_region_held (S:=fun w'=>w'.cell? ⟨w.heap.size,0,none⟩=some (.string (strA id))∧w'.cell? ⟨w.heap.size,1,none⟩=some (.slice a m c)∧w'.cell? ⟨w.heap.size,2,none⟩=some (.string (strA text))) (by kernel_rfl) ?_
 have hS:=HSJ.out w1.drew HD1.out
 refine takeH 0 20 (dskV db) rfl hS (fun w' ⟨s1,s2,s3⟩=>by go_simp) ?_
 simp only [pt,sz,sc]
 refine takeH 1 21 (.string (strA kJournal)) rfl hS (fun w' ⟨s1,s2,s3⟩=>by go_simp) ?_
 simp only [pt,sz,sc]
 refine takeH 2 22 (.agg #[.string (strA id),.slice a m c,.string (strA text)]) rfl hS (fun w' ⟨s1,s2,s3⟩=>by go_simp) ?_
 simp only [pt,sz,sc]
 refine takeH 3 23 (.string (strA kJournal)) rfl hS (fun w' ⟨s1,s2,s3⟩=>by go_simp) ?_
 simp only [pt,sz,sc]
 refine takeH 8 28 (dskV db) rfl hS (fun w' ⟨s1,s2,s3⟩=>by go_simp) ?_
 simp only [pt,sz,sc]
 refine takeH 9 29 (dskV db) rfl hS (fun w' ⟨s1,s2,s3⟩=>by go_simp) ?_
 simp only [pt,sz,sc]
 refine takeH 10 30 (syF db) rfl hS (fun w' ⟨s1,s2,s3⟩=>by go_simp) ?_
 simp only [pt,sz,sc]
 refine takeH 11 31 (dskV db) rfl hS (fun w' ⟨s1,s2,s3⟩=>by go_simp) ?_
 simp only [pt,sz,sc]
 refine takeH 12 32 (.slice b fl fc) rfl hS (fun w' ⟨s1,s2,s3⟩=>by go_simp) ?_
 simp only [pt,sz,sc]
 refine takeH 14 34 (dskV db) rfl hS (fun w' ⟨s1,s2,s3⟩=>by go_simp) ?_
 simp only [pt,sz,sc]
 refine takeH 15 35 (dskV db) rfl hS (fun w' ⟨s1,s2,s3⟩=>by go_simp) ?_
 simp only [pt,sz,sc]
 refine takeH 16 36 (syF db) rfl hS (fun w' ⟨s1,s2,s3⟩=>by go_simp) ?_
 simp only [pt,sz,sc]
 refine takeH 17 37 (dskV db) rfl hS (fun w' ⟨s1,s2,s3⟩=>by go_simp) ?_
 simp only [pt,sz,sc]
 refine takeH 18 38 (.string (strA kJournal)) rfl hS (fun w' ⟨s1,s2,s3⟩=>by go_simp) ?_
 simp only [pt,sz,sc]
 refine takeH 20 40 (dskV db) rfl hS (fun w' ⟨s1,s2,s3⟩=>by go_simp) ?_
 simp only [pt,sz,sc]
 refine takeH 21 41 (dskV db) rfl hS (fun w' ⟨s1,s2,s3⟩=>by go_simp) ?_
 simp only [pt,sz,sc]
 refine takeH 22 42 (syF db) rfl hS (fun w' ⟨s1,s2,s3⟩=>by go_simp) ?_
 simp only [pt,sz,sc]
 refine wpAnyH_all (rs:=[4]) (by kernel_rfl) (by decide) (fun j hj=>?_)
 simp only [List.mem_singleton] at hj
 subst hj
 refine wpOpE rfl (by rfl) ?_
 clear hS
 go_simp
 refine HJ1.out.mono ?_
 rintro e w2 ⟨J,rfl,hJl,hb2'⟩
 have hb2:=below_drew hb2'
 have HB2:=hide (HB1.out.trans (hb2.mono hs1))
 have HV2:=hide (blk_below HD1.out hb2)
 have hs2:=HB2.out.size
 clear hb2 hb2'
 refine ⟨HSJ.out w2 HV2.out,?_⟩
 try simp only [Act.put,List.setIfInBounds_toArray,List.set_cons_zero,List.set_cons_succ]
 have hS:=HSJ.out w2 HV2.out
 refine takeH 5 25 (.agg #[.string (strA kJournal),.string (strA J)]) rfl hS (fun w' ⟨s1,s2,s3⟩=>by go_simp) ?_
 simp only [pt,sz,sc]
 refine wpAnyH_all (rs:=[6]) (by kernel_rfl) (by decide) (fun j hj=>?_)
 simp only [List.mem_singleton] at hj
 subst hj
 refine wpOpE rfl (by rfl) ?_
 clear hS
 go_simp
 refine ⟨HSJ.out _ (blk_alloc HV2.out),?_⟩
 try simp only [Act.put,List.setIfInBounds_toArray,List.set_cons_zero,List.set_cons_succ]
 have hS:=HSJ.out (w2.alloc (.cells #[.string (strA kJournal),.string (strA J)] 86)) (blk_alloc HV2.out)
 refine wpAnyH_all (rs:=[7]) (by kernel_rfl) (by decide) (fun j hj=>?_)
 simp only [List.mem_singleton] at hj
 subst hj
 refine wpOpE rfl (by rfl) ?_
 clear hS
 go_simp
 refine (writing_any db (some ⟨w2.heap.size,0,none⟩) 1 1 (w2.alloc (.cells #[.string (strA kJournal),.string (strA J)] 86))).mono ?_
 rintro e w3 ⟨f1,x1,rfl,hf1,hx1,hb3⟩
 have HX3:=hide (And.intro hf1 hx1)
 have HC3:=hide hb3
 have HV3:=hide (blk_below (blk_alloc HV2.out) hb3)
 clear hf1 hx1 hb3
 refine ⟨HSJ.out w3 HV3.out,?_⟩
 try simp only [Act.put,List.setIfInBounds_toArray,List.set_cons_zero,List.set_cons_succ]
 have hS:=HSJ.out w3 HV3.out
 refine wpAnyH_all (rs:=[13]) (by kernel_rfl) (by decide) (fun j hj=>?_)
 simp only [List.mem_singleton] at hj
 subst hj
 refine wpOpE rfl (by rfl) ?_
 clear hS
 go_simp
 refine (writing_any db b fl fc w3).mono ?_
 rintro e w4 ⟨f2,x2,rfl,hf2,hx2,hb4⟩
 have HX4:=hide (And.intro hf2 hx2)
 have HC4:=hide hb4
 have HV4:=hide (blk_below HV3.out hb4)
 clear hf2 hx2 hb4
 refine ⟨HSJ.out w4 HV4.out,?_⟩
 try simp only [Act.put,List.setIfInBounds_toArray,List.set_cons_zero,List.set_cons_succ]
 have hS:=HSJ.out w4 HV4.out
 refine wpAnyH_all (rs:=[19]) (by kernel_rfl) (by decide) (fun j hj=>?_)
 simp only [List.mem_singleton] at hj
 subst hj
 refine wpOpE rfl (by rfl) ?_
 clear hS
 go_simp
 refine (removing_any db kJournal w4).mono ?_
 rintro e w5 ⟨x3,n3,rfl,hx3,hn3,hb5⟩
 have HX5:=hide (And.intro hx3 hn3)
 have HC5:=hide hb5
 have HV5:=hide (blk_below HV4.out hb5)
 clear hx3 hn3 hb5
 refine ⟨HSJ.out w5 HV5.out,?_⟩
 try simp only [Act.put,List.setIfInBounds_toArray,List.set_cons_zero,List.set_cons_succ]
 have hS:=HSJ.out w5 HV5.out
 refine wpAnyH_all (rs:=[23]) (by kernel_rfl) (by decide) (fun j hj=>?_)
 simp only [List.mem_singleton] at hj
 subst hj
 refine wpOpE rfl (by rfl) ?_
 clear hS
 go_simp
 refine ⟨HSJ.out _ (blk_alloc HV5.out),?_⟩
 try simp only [Act.put,List.setIfInBounds_toArray,List.set_cons_zero,List.set_cons_succ]
 have hS:=HSJ.out (w5.alloc (.cells #[wrF f1 x1,syF db,wrF f2 x2,syF db,rmF x3 n3,syF db] 164)) (blk_alloc HV5.out)
 refine wpAnyH_all (rs:=[24]) (by kernel_rfl) (by decide) (fun j hj=>?_)
 simp only [List.mem_singleton] at hj
 subst hj
 refine wpOpE rfl (by rfl) ?_
 clear hS
 go_simp
 refine (leave_turn B db bd bn n w5.heap.size f1 x1 f2 x2 x3 n3 F q pv J b fl fc fs w w2 w3 w4 w5 HD.out HFV.out hJl HB2.out HX3.out HC3.out HX4.out HC4.out HX5.out HC5.out hn hq hq1 HS.out HJF.out HJ0.out).mono ?_
 rintro e w6 ⟨rfl,hS6,hF6,hv6⟩
 have HS6:=hide hS6
 have HF6:=hide hF6
 have HV6:=hide (hv6 _ HV5.out)
 clear hS6 hF6 hv6 HX3 HC3 HX4 HC4 HX5 HC5
 refine ⟨HSJ.out w6 HV6.out,?_⟩
 try simp only [Act.put,List.setIfInBounds_toArray,List.set_cons_zero,List.set_cons_succ]
 have hS:=HSJ.out w6 HV6.out
 refine takeH 25 6 .nilIface rfl hS (fun w' ⟨s1,s2,s3⟩=>by go_simp) ?_
 simp only [pt,sz,sc]
 refine wpAnyH_done (by kernel_rfl) ?_ _
 try simp only [Act.put,List.setIfInBounds_toArray,List.set_cons_zero,List.set_cons_succ]
 clear hS
 simp only [Exit.then]
 all_goals go_wp2
 all_goals go_ret
 all_goals exact ⟨rfl,HS6.out,HF6.out⟩
end Go.Proofs.YtenahlandohgaaaGreatDoor
