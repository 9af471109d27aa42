import Derived.Test.YtenahlandohgaaaGreatDoorEBox
import Derived.Test.YtenahlandohgaaaGreatDoorZGLeave
import Derived.Test.YtenahlandohgaaaGreatDoorGTold
namespace Go.Proofs.YtenahlandohgaaaGreatDoor
set_option linter.unusedVariables false
set_option linter.unusedSimpArgs false
set_option maxRecDepth 100000
set_option maxHeartbeats 4000000
open Go.RowKit
attribute [local go_sem ↓] Go.wp_at_zero Go.wp_at_succ
theorem mth_Read (db:Nat) (W:World):(method 554 52 (.pointer (some ⟨db,0,none⟩)) "Read").run Tryz.prog W=.ok (338,.pointer (some ⟨db,0,none⟩)) W:=by kernel_rfl
def ToldP (fs:List Fl) (W:World) (e:Ending) (w':World):Prop:=
 (fs=[]∧ToldNo W e w')∨∃ id text acts,filesL id acts text=.ok fs∧id.length≤2000000∧text.length≤2000000∧(∀ a∈acts,a.2.length≤2000000)∧acts.length≤2000000∧ToldYes id text acts W e w'
def settleOps (x:List UInt8) (fs:List Fl):List Dop:=fs.map wOp++([sOp]++([rOp x]++[sOp]))
theorem gsettle_turn (B db bd bn n f1 x1 x2 n2:Nat) (A:AD) (x:List UInt8) (b:Option Addr) (fl fc:Nat) (fs:List Fl) (w w3 w4 w5:World) (h:AbsD w B db bd bn n A) (hfv:FilE w3 (.slice b fl fc) fs) (hB3:Below w.heap.size w w3)
 (h4:w4.heap[f1]?=some (.cells #[.slice b fl fc] 26)∧w4.heap[x1]?=some (.cells #[dskV db] 113)) (hc4:Below w3.heap.size w3 w4)
 (h5:w5.heap[x2]?=some (.cells #[dskV db] 113)∧w5.heap[n2]?=some (.cells #[.string (strA x)] 9)) (hc5:Below w4.heap.size w4 w5)
 (hn:n≤460000) (hf10:fs.length≤10) (hp:A.p.length≤50) (hops:OpsOk A.p) (hs:∀ f∈fs,f.1.length≤1000∧f.2.length≤100000000) (hjf:∀ f∈fs,f.1≠x) (hx:x.length≤1000) (hN:(A.N x).isSome=true) :
 Calls Tryz.prog 142 #[.slice (some ⟨w5.heap.size,0,none⟩) 4 4] (w5.alloc (.cells #[wrF f1 x1,syF db,rmF x2 n2,syF db] 164)) fun e w'=>e=.returned (errV (aRun (settleOps x fs) A).1)∧AbsD w' B db bd bn (n+1200) (aRun (settleOps x fs) A).2∧Fr (PDk B) w w':=by
 obtain ⟨W,hW⟩:∃ W,W=w5.alloc (.cells #[wrF f1 x1,syF db,rmF x2 n2,syF db] 164):=⟨_,rfl⟩
 rw [← hW]
 have b5:Below w5.heap.size w5 W:=by rw [hW];exact (Below.refl _ _).alloc (Nat.le_refl _) _
 have b4:Below w4.heap.size w4 W:=hc5.trans (b5.mono hc5.size)
 have b3:Below w3.heap.size w3 W:=hc4.trans (b4.mono hc4.size)
 have b2:Below w.heap.size w W:=hB3.trans (b3.mono hB3.size)
 have hWb:W.heap[w5.heap.size]?=some (.cells #[wrF f1 x1,syF db,rmF x2 n2,syF db] 164):=by rw [hW];exact blk_new _ _
 obtain ⟨ks,hks⟩:∃ ks:List St,ks=[⟨1,f1,x1,fs,.slice b fl fc,[]⟩,syS,⟨2,x2,n2,[],.nilIface,x⟩,syS]:=⟨_,rfl⟩
 have hops':opsOf ks=settleOps x fs:=by rw [hks];rfl
 have h6:ks.length=4:=by rw [hks];rfl
 have hcs:∀ k (hk:k < ks.length),W.cell? ⟨w5.heap.size,k,none⟩=some (stV db ks[k]):=fun k hk=>by
  subst hks
  rcases (by omega:k=0∨k=1∨k=2∨k=3) with h | h | h | h <;> subst h
  ·exact blk_cell hWb 0
  ·exact blk_cell hWb 1
  ·exact blk_cell hWb 2
  ·exact blk_cell hWb 3
 have hfvW:FilE W (.slice b fl fc) fs:=hfv.fr (P:=fun _ _=>False) (Fr.of_below b3) (fun _ _ h=>h)
 have hw:∀ s∈ks,StW db W s:=fun s hs'=>by
  rw [hks] at hs'
  simp only [List.mem_cons,List.not_mem_nil,or_false] at hs'
  rcases hs' with rfl | rfl | rfl | rfl
  ·exact Or.inr (Or.inl ⟨rfl,blk_below h4.1 b4,blk_below h4.2 b4,hfvW,hf10,hs⟩)
  ·exact Or.inl rfl
  ·exact Or.inr (Or.inr ⟨rfl,blk_below h5.1 b5,blk_below h5.2 b5,hx⟩)
  ·exact Or.inl rfl
 have hth:∀ k (hk:k < ks.length),ks[k].kind=2→(aRun (opsOf (ks.take k)) A).1=0→((aRun (opsOf (ks.take k)) A).2.N ks[k].x).isSome=true:=fun k hk hk2 h0=>by
  have hN':=aRun_N _ _ h0
  rw [hN']
  clear hN' h0
  subst hks
  rcases (by omega:k=0∨k=1∨k=2∨k=3) with h | h | h | h <;> subst h
  ·exact absurd hk2 (by show (1:Nat)≠2;decide)
  ·exact absurd hk2 (by show (0:Nat)≠2;decide)
  ·show ((fs.map wOp++([sOp]++[])).foldl nF A.N x).isSome=true
   rw [List.foldl_append,foldN]
   show (putFs A.N fs x).isSome=true
   rw [putFs_other fs _ _ hjf]
   exact hN
  ·exact absurd hk2 (by show (0:Nat)≠2;decide)
 have hcall:=ginTurn_any B db bd bn n w5.heap.size 4 A ks _ W (h.below b2) hWb hcs hw (by omega) (by omega) hp hops hth
 rw [hops',h6] at hcall
 refine hcall.mono ?_
 rintro e w6 ⟨rfl,hD6,hF6⟩
 exact ⟨rfl,hD6,(Fr.of_below b2).trans hF6⟩
theorem gsettle_any (B db bd bn n:Nat) (A:AD) (x s:List UInt8) (w:World) (h:AbsD w B db bd bn n A) (hdn:A.lf.down=false) (hx:x.length≤1000) (hs:A.N x=some s) (hsl:s.length≤90000000)
 (ht:Tab w) (fs:List Fl) (hto:∀ W,Below w.heap.size w W→Calls Tryz.prog 219 #[.string (strA x),.string (strA s)] W (ToldP fs W)) (hf10:fs.length≤10) (hfs:∀ f∈fs,f.1.length≤1000∧f.2.length≤100000000) (hjf:∀ f∈fs,f.1≠x)
 (hn:n≤460000) (hp:A.p.length≤50) (hops:OpsOk A.p) :
 Calls Tryz.prog 166 #[dskV db,.string (strA x)] w fun e w'=>e=.returned (errV (aRun (settleOps x fs) A).1)∧AbsD w' B db bd bn (n+1200) (aRun (settleOps x fs) A).2∧Fr (PDk B) w w':=by
 have HOP:=hide hops
 obtain ⟨pv,hdj⟩:=h
 rw [hdn] at hdj
 have HDJ:=hide hdj
 have HD:Hid (AbsD w B db bd bn n A):=⟨pv,by rw [hdn];exact hdj⟩
 have HNX:Hid ((A.N x).isSome=true):=by rw [hs];exact rfl
 have hmt:=mth_Read db
 have HTO:=hide hto
 have HT:=hide ht
 have HFS:=hide hfs
 have HJF:=hide hjf
 clear hops hdj hto ht hfs hjf
 go_enter Tryz.func166,Tryz.ntmps166
 go_wp2_with fail
 refine (gread_any B db bd bn n A.D A.N A.p A.lf.left A.lf.full pv x s w HDJ.out (by omega) hs (by omega)).mono ?_
 rintro e w1 ⟨hb1,gb,rc,rfl,hrc⟩
 have hcv:(convert 111 9 (.slice (some ⟨gb,0,none⟩) s.length rc)).run Tryz.prog w1=.ok (.string (strA s)) w1:=run_convert_bytes_back (P:=Tryz.prog) w1 111 9 5 ⟨gb,0,none⟩ rc s Tryz.underlying111 Tryz.underlying5 Tryz.underlying9 (fun j hj=>by
  rw [addr_add0];exact hrc j hj)
 have HB1:=hide hb1
 clear hrc hb1 hs
 go_wp2_with fail
 refine (HTO.out _ HB1.out).mono ?_
 rintro e w2 (⟨hf0,rfl,hb2⟩ | ⟨id,text,acts,hok,k1,k2,k3,k4,v,rfl,hrow,hb2⟩)
 ·have HB2:=hide (HB1.out.trans (hb2.mono HB1.out.size))
  clear hb2 hcv
  subst hf0
  go_wp2_with fail
  obtain ⟨V,hV⟩:∃ V,V=w2.alloc (.cells #[.string ⟨#[]⟩,.slice none 0 0,.string ⟨#[]⟩] 159):=⟨_,rfl⟩
  rw [← hV]
  have HBV:Hid (Below w.heap.size w V):=by rw [hV];exact HB2.out.alloc HB2.out.size _
  have HFV:Hid (FilE V (.slice none 0 0) []):=⟨none,0,rfl,fun h=>absurd rfl h⟩
  clear hV hmt
  refine wp_region_held (S:=fun _=>True) (by kernel_rfl) ?_
  have hS:=True.intro
  refine takeH 0 32 (dskV db) rfl hS (fun w' _=>by go_simp) ?_
  simp only [pt,sz,sc]
  refine takeH 1 33 (.slice none 0 0) rfl hS (fun w' _=>by go_simp) ?_
  simp only [pt,sz,sc]
  refine takeH 3 35 (dskV db) rfl hS (fun w' _=>by go_simp) ?_
  simp only [pt,sz,sc]
  refine takeH 4 36 (dskV db) rfl hS (fun w' _=>by go_simp) ?_
  simp only [pt,sz,sc]
  refine takeH 5 37 (syF db) rfl hS (fun w' _=>by go_simp) ?_
  simp only [pt,sz,sc]
  refine takeH 6 38 (dskV db) rfl hS (fun w' _=>by go_simp) ?_
  simp only [pt,sz,sc]
  refine takeH 7 39 (.string (strA x)) rfl hS (fun w' _=>by go_simp) ?_
  simp only [pt,sz,sc]
  refine takeH 9 41 (dskV db) rfl hS (fun w' _=>by go_simp) ?_
  simp only [pt,sz,sc]
  refine takeH 10 42 (dskV db) rfl hS (fun w' _=>by go_simp) ?_
  simp only [pt,sz,sc]
  refine takeH 11 43 (syF db) rfl hS (fun w' _=>by go_simp) ?_
  simp only [pt,sz,sc]
  refine wpAnyH_all (rs:=[2]) (by kernel_rfl) (by decide) (fun j hj=>?_)
  simp only [List.mem_singleton] at hj
  subst hj
  refine wpOpE rfl (by rfl) ?_
  clear hS
  go_simp
  refine (writing_any db none 0 0 V.drew).mono ?_
  rintro e w4 ⟨f1,x1,rfl,hf1,hx1,hb4'⟩
  have hb4:=below_drew hb4'
  have HX4:=hide (And.intro hf1 hx1)
  have HC4:=hide hb4
  clear hf1 hx1 hb4 hb4'
  try simp only [Act.put,List.setIfInBounds_toArray,List.set_cons_zero,List.set_cons_succ]
  have hS:=True.intro
  refine wpAnyH_all (rs:=[8]) (by kernel_rfl) (by decide) (fun j hj=>?_)
  simp only [List.mem_singleton] at hj
  subst hj
  refine wpOpE rfl (by rfl) ?_
  clear hS
  go_simp
  refine (removing_any db x w4).mono ?_
  rintro e w5 ⟨x3,n3,rfl,hx3,hn3,hb5⟩
  have HX5:=hide (And.intro hx3 hn3)
  have HC5:=hide hb5
  clear hx3 hn3 hb5
  try simp only [Act.put,List.setIfInBounds_toArray,List.set_cons_zero,List.set_cons_succ]
  have hS:=True.intro
  refine wpAnyH_all (rs:=[12]) (by kernel_rfl) (by decide) (fun j hj=>?_)
  simp only [List.mem_singleton] at hj
  subst hj
  refine wpOpE rfl (by rfl) ?_
  clear hS
  go_simp
  try simp only [Act.put,List.setIfInBounds_toArray,List.set_cons_zero,List.set_cons_succ]
  have hS:=True.intro
  refine wpAnyH_all (rs:=[13]) (by kernel_rfl) (by decide) (fun j hj=>?_)
  simp only [List.mem_singleton] at hj
  subst hj
  refine wpOpE rfl (by rfl) ?_
  clear hS
  go_simp
  refine (gsettle_turn B db bd bn n f1 x1 x3 n3 A x none 0 0 [] w V w4 w5 HD.out HFV.out HBV.out HX4.out HC4.out HX5.out HC5.out hn hf10 hp HOP.out HFS.out HJF.out hx HNX.out).mono ?_
  rintro e w6 ⟨he6,hS6,hF6⟩
  obtain ⟨ev,hev⟩:∃ ev,ev=errV (aRun (settleOps x []) A).1:=⟨_,rfl⟩
  rw [← hev] at he6
  subst he6
  have HEV:=hide hev
  clear hev
  have HS6:=hide hS6
  have HF6:=hide hF6
  clear hS6 hF6 HX4 HC4 HX5 HC5
  try simp only [Act.put,List.setIfInBounds_toArray,List.set_cons_zero,List.set_cons_succ]
  have hS:=True.intro
  refine takeH 14 4 ev rfl hS (fun w' _=>by go_simp) ?_
  simp only [pt,sz,sc]
  refine wpAnyH_done (by kernel_rfl) ?_ _
  try simp only [Act.put,List.setIfInBounds_toArray,List.set_cons_zero,List.set_cons_succ]
  clear hS
  simp only [Exit.then]
  all_goals go_wp2
  all_goals go_ret
  all_goals exact ⟨by rw [← HEV.out];rfl,HS6.out,HF6.out⟩
 ·have HB2:=hide (HB1.out.trans (hb2.mono HB1.out.size))
  clear hb2 hcv
  obtain ⟨va,vc,hvv⟩:=owns_len hrow
  subst hvv
  have HAG:Hid (ActG w2 (.slice va acts.length vc) acts):=ActG.of_owns hrow
  have HOK:=hide hok
  clear hrow hok
  go_wp2_with fail
  obtain ⟨U,hU⟩:∃ U,U=w2.alloc (.cells #[.string (strA id),.slice va acts.length vc,.string (strA text)] 159):=⟨_,rfl⟩
  rw [← hU]
  have hUb:Below w2.heap.size w2 U:=by rw [hU];exact (Below.refl _ _).alloc (Nat.le_refl _) _
  have HBU:Hid (Below w.heap.size w U):=HB2.out.trans (hUb.mono HB2.out.size)
  have HAU:=hide (HAG.out.below hUb)
  clear hU hUb
  refine (dvfiles_any id text acts _ U (HT.out.below HBU.out) HAU.out k1 k2 k3 k4).mono ?_
  rintro e V ⟨hbV,⟨fs',fv,hfs',rfl,hrowV⟩ | ⟨k,hk,_⟩⟩
  rotate_left
  ·rw [HOK.out] at hk;cases hk
  have hee:fs'=fs:=by rw [HOK.out] at hfs';injection hfs' with h;exact h.symm
  subst hee
  have HBV:=hide (HBU.out.trans (hbV.mono HBU.out.size))
  obtain ⟨b,fc,hvv⟩:=owns_len hrowV
  subst hvv
  have HFV:Hid (FilE V (.slice b fs'.length fc) fs'):=FilE.of_owns hrowV
  clear hbV hrowV hfs' hmt k1 k2 k3 k4 HAU HAG
  go_wp2_with fail
  refine wp_region_held (S:=fun _=>True) (by kernel_rfl) ?_
  have hS:=True.intro
  refine takeH 0 32 (dskV db) rfl hS (fun w' _=>by go_simp) ?_
  simp only [pt,sz,sc]
  refine takeH 1 33 (.slice b fs'.length fc) rfl hS (fun w' _=>by go_simp) ?_
  simp only [pt,sz,sc]
  refine takeH 3 35 (dskV db) rfl hS (fun w' _=>by go_simp) ?_
  simp only [pt,sz,sc]
  refine takeH 4 36 (dskV db) rfl hS (fun w' _=>by go_simp) ?_
  simp only [pt,sz,sc]
  refine takeH 5 37 (syF db) rfl hS (fun w' _=>by go_simp) ?_
  simp only [pt,sz,sc]
  refine takeH 6 38 (dskV db) rfl hS (fun w' _=>by go_simp) ?_
  simp only [pt,sz,sc]
  refine takeH 7 39 (.string (strA x)) rfl hS (fun w' _=>by go_simp) ?_
  simp only [pt,sz,sc]
  refine takeH 9 41 (dskV db) rfl hS (fun w' _=>by go_simp) ?_
  simp only [pt,sz,sc]
  refine takeH 10 42 (dskV db) rfl hS (fun w' _=>by go_simp) ?_
  simp only [pt,sz,sc]
  refine takeH 11 43 (syF db) rfl hS (fun w' _=>by go_simp) ?_
  simp only [pt,sz,sc]
  refine wpAnyH_all (rs:=[2]) (by kernel_rfl) (by decide) (fun j hj=>?_)
  simp only [List.mem_singleton] at hj
  subst hj
  refine wpOpE rfl (by rfl) ?_
  clear hS
  go_simp
  refine (writing_any db b fs'.length fc V.drew).mono ?_
  rintro e w4 ⟨f1,x1,rfl,hf1,hx1,hb4'⟩
  have hb4:=below_drew hb4'
  have HX4:=hide (And.intro hf1 hx1)
  have HC4:=hide hb4
  clear hf1 hx1 hb4 hb4'
  try simp only [Act.put,List.setIfInBounds_toArray,List.set_cons_zero,List.set_cons_succ]
  have hS:=True.intro
  refine wpAnyH_all (rs:=[8]) (by kernel_rfl) (by decide) (fun j hj=>?_)
  simp only [List.mem_singleton] at hj
  subst hj
  refine wpOpE rfl (by rfl) ?_
  clear hS
  go_simp
  refine (removing_any db x w4).mono ?_
  rintro e w5 ⟨x3,n3,rfl,hx3,hn3,hb5⟩
  have HX5:=hide (And.intro hx3 hn3)
  have HC5:=hide hb5
  clear hx3 hn3 hb5
  try simp only [Act.put,List.setIfInBounds_toArray,List.set_cons_zero,List.set_cons_succ]
  have hS:=True.intro
  refine wpAnyH_all (rs:=[12]) (by kernel_rfl) (by decide) (fun j hj=>?_)
  simp only [List.mem_singleton] at hj
  subst hj
  refine wpOpE rfl (by rfl) ?_
  clear hS
  go_simp
  try simp only [Act.put,List.setIfInBounds_toArray,List.set_cons_zero,List.set_cons_succ]
  have hS:=True.intro
  refine wpAnyH_all (rs:=[13]) (by kernel_rfl) (by decide) (fun j hj=>?_)
  simp only [List.mem_singleton] at hj
  subst hj
  refine wpOpE rfl (by rfl) ?_
  clear hS
  go_simp
  refine (gsettle_turn B db bd bn n f1 x1 x3 n3 A x b fs'.length fc fs' w V w4 w5 HD.out HFV.out HBV.out HX4.out HC4.out HX5.out HC5.out hn hf10 hp HOP.out HFS.out HJF.out hx HNX.out).mono ?_
  rintro e w6 ⟨he6,hS6,hF6⟩
  obtain ⟨ev,hev⟩:∃ ev,ev=errV (aRun (settleOps x fs') A).1:=⟨_,rfl⟩
  rw [← hev] at he6
  subst he6
  have HEV:=hide hev
  clear hev
  have HS6:=hide hS6
  have HF6:=hide hF6
  clear hS6 hF6 HX4 HC4 HX5 HC5
  try simp only [Act.put,List.setIfInBounds_toArray,List.set_cons_zero,List.set_cons_succ]
  have hS:=True.intro
  refine takeH 14 4 ev rfl hS (fun w' _=>by go_simp) ?_
  simp only [pt,sz,sc]
  refine wpAnyH_done (by kernel_rfl) ?_ _
  try simp only [Act.put,List.setIfInBounds_toArray,List.set_cons_zero,List.set_cons_succ]
  clear hS
  simp only [Exit.then]
  all_goals go_wp2
  all_goals go_ret
  all_goals exact ⟨by rw [← HEV.out];rfl,HS6.out,HF6.out⟩
end Go.Proofs.YtenahlandohgaaaGreatDoor
