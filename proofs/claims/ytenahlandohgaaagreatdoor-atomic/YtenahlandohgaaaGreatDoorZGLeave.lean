import Derived.Sort.OwnSorted
import Derived.Test.YtenahlandohgaaaGreatDoorELeave
import Derived.Test.YtenahlandohgaaaGreatDoorZGOwn
import Derived.Test.YtenahlandohgaaaGreatDoorGTurn
namespace Go.Proofs.YtenahlandohgaaaGreatDoor
set_option linter.unusedVariables false
set_option linter.unusedSimpArgs false
set_option maxRecDepth 100000
set_option maxHeartbeats 4000000
section
open Go.RowKit Go.Maps Go.Sort
attribute [local go_sem ↓] Go.wp_at_zero Go.wp_at_succ
theorem gnames_nd (B db bd bn n:Nat) (D N:Fs) (p:List Dop) (ql qf:Int) (pv:Value) (w:World) (h:DJ w B db bd bn n D N p ql qf false pv) (hn:n≤500000) :
 Calls Tryz.prog 337 #[.pointer (some ⟨db,0,none⟩)] w fun e w'=>Below w.heap.size w w'∧∃ v l,e=.returned (.tuple #[v,.nilIface])∧NamV w' w.heap.size v l∧(∀ x,x∈l↔(N x).isSome=true)∧l.length≤n∧l.Nodup:=by
 obtain ⟨D0,hown,hFs⟩:=h.mn
 have hbl:=hown.lt
 have hdl:=blk_lt h.blk
 have c1:w.cell? ⟨db,1,none⟩=some (.map (some bn)):=blk_cell h.blk 1
 have c5:w.cell? ⟨db,5,none⟩=some (.bool false):=blk_cell h.blk 5
 have HMEM:=hide (fs_mem hFs)
 have HSZ:=hide (World.ownsMap.size_le hown)
 have HOW:=hide hown
 obtain ⟨i0,hi,hz0,hz1,hz2⟩:=info_parts Tryz.infoStr
 clear h hFs
 go_enter Tryz.func337,Tryz.ntmps337
 go_wp2_with (first | (at_range;refine wpList_range_own _ rfl _ 81 rfl 9 87 strK mapT _ bn n _ rfl hown ?_;intro w0 hrg0 hg0 hs0) | go_in)
 go_frame
 have HB0:Hid (Below w.heap.size w w0):=(Below.refl _ _).grown hg0 (Nat.le_refl _) (fun j hj=>by cases hj)
 clear hg0 hs0 c1 c5
 go_loopw [4,5] (fun v _ wr=>∃ (left:Lit→Bool) (cnt:Nat) (ss:List (List UInt8)),wr.ranges Tryz.prog 9 ptrR bn w.heap.size n D0 left cnt∧ss.length+cnt≤Maps.size D0∧NamV wr w.heap.size v ss∧Collected D0 left ss∧Below w.heap.size w wr∧w.heap.size < wr.heap.size) (fun _ _ wr=>wr.rangeLeft bn w.heap.size)
 case atStart=>exact ⟨_,_,[],hrg0,by simp,World.ownsRow_nil _ _ _ _,Collected.start D0,HB0.out,hrg0.lt⟩
 case round=>
  obtain ⟨left,cnt,ss,hrg,hcs,hrow,hC,hB,hsz⟩:=hrel
  have HC:=hide hC
  have HB:=hide hB
  have HRW:=hide hrow
  have hsn:=HSZ.out
  obtain ⟨va,vc,hvv⟩:=owns_len hrow
  subst hvv
  clear hC hB hrow hrg0
  go_wp2_with (first | (at_next;refine wpList_next_ranges _ rfl _ rfl 9 strK ptrR encStr ptrV invK invV bn w.heap.size n _ _ _ rfl hrg ?_ ?_) | go_in)
  ·intro hc0 hl0
   have HP:=hide (fun x=>(HC.out.2 x).trans ⟨fun h=>(HMEM.out x).1 h.1,fun h=>⟨(HMEM.out x).2 h,hl0 _⟩⟩)
   rcases HRW.out.2 with ⟨hv0,h0⟩ | ⟨g,cap,cur,hv,hg,hb,hle,hmx,hcs2,htk⟩
   ·injection hv0 with hv1 hv2 hv3
    subst hv1 hv3
    have hse:=List.eq_nil_of_length_eq_zero h0
    subst hse
    go_wp2_with (go_at_call 342;refine (Tryz.sort_Strings_none none 0 wr).mono ?_;rintro e w3 ⟨rfl,rfl⟩)
    go_ret2
    exact ⟨HB.out,_,[],rfl,HRW.out,HP.out,by simp,List.nodup_nil⟩
   injection hv with hv1 hv2 hv3
   subst hv1 hv3
   have hgl:=blk_lt hb
   have HH:=hide (holds_of_block (ss:=ss) hb (by rw [← htk,Nat.mul_one]))
   have HSR:Hid (∀ k os,NamV (grow (putRow encStr (Sort.ahead wr k) g 0 (ss.mergeSort fun x y=>decide (x≤y)).toArray) os) w.heap.size (.slice (some ⟨g,0,none⟩) ss.length vc) (ss.mergeSort fun x y=>decide (x≤y))∧Below w.heap.size w (grow (putRow encStr (Sort.ahead wr k) g 0 (ss.mergeSort fun x y=>decide (x≤y)).toArray) os)):=fun k os=>by
    have hl:(ss.mergeSort fun x y=>decide (x≤y)).length=ss.length:=List.length_mergeSort _
    refine ⟨?_,HB.out.grown (grownBy_sorted _) HB.out.size (fun j hj=>by cases hj;exact hg)⟩
    unfold NamV
    rw [hl]
    exact ownsRow_sorted hl hg hb hle hmx hcs2
   clear hb hcs2 htk
   go_wp2_with (go_at_call 342;refine (Tryz.sort_Strings g 0 vc ss wr HH.out hgl (by omega)).mono ?_;rintro e w3 ⟨rfl,k3,os3,hw3⟩;obtain ⟨hN3,hB3⟩:=HSR.out k3 os3;rw [← hw3] at hN3 hB3;have HN3:=hide hN3;have HB3:=hide hB3;clear hN3 hB3 hw3)
   go_ret2
   exact ⟨HB3.out,_,_,rfl,HN3.out,fun x=>by rw [List.mem_mergeSort];exact HP.out x,by rw [List.length_mergeSort];omega,(List.mergeSort_perm ss _).nodup_iff.2 HC.out.1⟩
  ·intro x c kl yd yp w1 cnt1 hkey hlk hv hat hrg1 hlt hg1 hs1 hen
   obtain ⟨x',ex,rfl,hxl⟩:=Maps.keyOf_str strT hkey
   obtain rfl:x=x':=encStr_inj ex
   have HST:=hide (HC.out.step hlk hat)
   have HB1:=hide (HB.out.grown hg1 HB.out.size (fun j hj=>by cases hj;exact Nat.le_refl _))
   have HR1:Hid (NamV w1 w.heap.size (.slice va ss.length vc) ss):=World.ownsRow.kept HRW.out hg1 (Or.inr (row_ne_iter HRW.out hrg).symm)
   have hw1:w.heap.size < w1.heap.size:=by omega
   clear hs1 ex hkey hv
   go_wp2_with (at_builtin;refine wpList_append_own_at _ rfl _ _ 72 rfl w.heap.size 9 i0 _ 1 16 Tryz.underlying72 hi hz0 hz1 hz2 rfl (by decide) _ _ _ rfl (World.ownsRow.alloc HR1.out _) ⟨w1.heap.size,0,none⟩ 1 1 [.string (strA x)] rfl rfl (cell_one_new _ _ _) (oneS _) (by unfold maxLen;omega) (by omega) (by simp;omega) ?_;intro v5 w5 ho5 hg5 _ hloc5;have HG5:Hid ((w1.alloc (.cells #[encStr x] 9)).grownBy w5 (Value.slice va ss.length vc).ownBlock):=hg5;have HO5:=hide ho5;clear ho5 hg5 hloc5)
   have hrg5:=(hrg1.alloc (.cells #[encStr x] 9)).kept HG5.out (row_ne_low HR1.out hbl) (row_ne_iter HR1.out hrg1)
   refine ⟨⟨_,cnt1,ss++[x],hrg5,by rw [List.length_append];simp;omega,?_,HST.out,below_grown2 HB1.out HB1.out.size HG5.out (fun k hk=>(World.ownsRow.lt HR1.out k hk).1),?_⟩,by rw [hrg5.left_eq,hrg.left_eq];exact hlt⟩
   ·have:=HO5.out
    unfold NamV
    rw [List.length_append,List.map_append]
    exact this
   ·have:=HG5.out.size
    simp at this
    omega
theorem gnames_all (B db bd bn n:Nat) (D N:Fs) (p:List Dop) (ql qf:Int) (pv:Value) (w:World) (h:DJ w B db bd bn n D N p ql qf false pv) (hn:n≤500000) :
 Calls Tryz.prog 337 #[.pointer (some ⟨db,0,none⟩)] w fun e w'=>Below w.heap.size w w'∧∃ v l,e=.returned (.tuple #[v,.nilIface])∧NamV w' w.heap.size v l∧(∀ x,x∈l↔(N x).isSome=true)∧l.length≤n:=by
 refine (gnames_nd B db bd bn n D N p ql qf pv w h hn).mono ?_
 rintro e w' ⟨h1,v,l,h2,h3,h4,h5,_⟩
 exact ⟨h1,v,l,h2,h3,h4,h5⟩
end
section
open Go.RowKit
attribute [local go_sem ↓] Go.wp_at_zero Go.wp_at_succ
def nF (N:Fs) (o:Dop):Fs:=if o.kind=1 then putF N o.name o.data else if o.kind=3 then delF N o.name else N
theorem aDo_N {o:Dop} {A:AD} (h:(aDo o A).1=0):(aDo o A).2.N=nF A.N o:=by
 unfold aDo at h ⊢
 unfold nF
 by_cases h0:(aWr A.lf).1=0
 ·rw [if_pos h0]
  by_cases h1:o.kind=1
  ·rw [if_pos h1,if_pos h1]
  ·rw [if_neg h1,if_neg h1]
   by_cases h3:o.kind=3
   ·rw [if_pos h3,if_pos h3]
   ·rw [if_neg h3,if_neg h3]
 ·rw [if_neg h0] at h
  by_cases h1:o.kind=1∧(aWr A.lf).1=16
  ·rw [if_pos h1] at h;cases h
  ·rw [if_neg h1] at h;exact absurd h h0
theorem aRun_N:∀ (l:List Dop) (A:AD),(aRun l A).1=0→(aRun l A).2.N=l.foldl nF A.N
 | [],A,_=>rfl
 | o :: r,A,h=>by
  rw [aRun] at h ⊢
  by_cases h0:(aDo o A).1=0
  ·rw [if_pos h0] at h ⊢
   rw [aRun_N r _ h,aDo_N h0]
   rfl
  ·rw [if_neg h0] at h;exact absurd h h0
theorem foldN (N:Fs) (fs:List Fl):(fs.map wOp).foldl nF N=putFs N fs:=by
 unfold putFs
 rw [List.foldl_map]
 rfl
def syS:St:=⟨0,0,0,[],.nilIface,[]⟩
def leaveOps (J:List UInt8) (fs:List Fl):List Dop:=[wOp (kJournal,J)]++([sOp]++(fs.map wOp++([sOp]++([rOp kJournal]++[sOp]))))
def JouIs (J id text:List UInt8) (av:Value) (W:World):Prop:=Calls Tryz.prog 144 #[.agg #[.string (strA id),av,.string (strA text)],.string (strA kJournal)] W fun e w'=>e=.returned (.string (strA J))∧Below W.heap.size W w'
theorem gleave_turn (B db bd bn n f1 x1 f2 x2 x3 n3:Nat) (A:AD) (J:List UInt8) (b:Option Addr) (fl fc:Nat) (fs:List Fl) (w w2 w3 w4 w5:World) (h:AbsD w B db bd bn n A) (hfv:FilE w (.slice b fl fc) fs) (hJl:J.length≤100000000) (hB2:Below w.heap.size w w2)
 (h3:w3.heap[f1]?=some (.cells #[.slice (some ⟨w2.heap.size,0,none⟩) 1 1] 26)∧w3.heap[x1]?=some (.cells #[dskV db] 113))
 (hc3:Below (w2.alloc (.cells #[.string (strA kJournal),.string (strA J)] 86)).heap.size (w2.alloc (.cells #[.string (strA kJournal),.string (strA J)] 86)) w3)
 (h4:w4.heap[f2]?=some (.cells #[.slice b fl fc] 26)∧w4.heap[x2]?=some (.cells #[dskV db] 113)) (hc4:Below w3.heap.size w3 w4)
 (h5:w5.heap[x3]?=some (.cells #[dskV db] 113)∧w5.heap[n3]?=some (.cells #[.string (strA kJournal)] 9)) (hc5:Below w4.heap.size w4 w5)
 (hn:n≤460000) (hf10:fs.length≤10) (hp:A.p.length≤50) (hops:OpsOk A.p) (hs:∀ f∈fs,f.1.length≤1000∧f.2.length≤100000000) (hjf:∀ f∈fs,f.1≠kJournal) :
 Calls Tryz.prog 142 #[.slice (some ⟨w5.heap.size,0,none⟩) 6 6] (w5.alloc (.cells #[wrF f1 x1,syF db,wrF f2 x2,syF db,rmF x3 n3,syF db] 164)) fun e w'=>e=.returned (errV (aRun (leaveOps J fs) A).1)∧AbsD w' B db bd bn (n+1200) (aRun (leaveOps J fs) A).2∧Fr (PDk B) w w'∧∀ o,w5.heap[w.heap.size]?=some (.cells o 159)→w'.heap[w.heap.size]?=some (.cells o 159):=by
 obtain ⟨W,hW⟩:∃ W,W=w5.alloc (.cells #[wrF f1 x1,syF db,wrF f2 x2,syF db,rmF x3 n3,syF db] 164):=⟨_,rfl⟩
 rw [← hW]
 have hj3:w3.heap[w2.heap.size]?=some (.cells #[.string (strA kJournal),.string (strA J)] 86):=blk_below (blk_new _ _) hc3
 have b5:Below w5.heap.size w5 W:=by rw [hW];exact (Below.refl _ _).alloc (Nat.le_refl _) _
 have b4:Below w4.heap.size w4 W:=hc5.trans (b5.mono hc5.size)
 have b3:Below w3.heap.size w3 W:=hc4.trans (b4.mono hc4.size)
 have b2:Below w.heap.size w W:=(hB2.trans (((Below.refl _ _).alloc (Nat.le_refl _) _).mono hB2.size)).trans ((hc3.mono (by have:=hB2.size;simp;omega)).trans (b3.mono (by have:=hB2.size;have:=hc3.size;simp at this;omega)))
 have hjW:=blk_below hj3 b3
 have hl1:FilE W (.slice (some ⟨w2.heap.size,0,none⟩) 1 1) [(kJournal,J)]:=⟨_,_,rfl,fun _=>⟨_,_,rfl,hjW,fun j hj=>by
  have:j=0:=by simp at hj;exact hj
  subst this
  exact ⟨blk_cell hjW 0,blk_cell hjW 1⟩⟩⟩
 have hWb:W.heap[w5.heap.size]?=some (.cells #[wrF f1 x1,syF db,wrF f2 x2,syF db,rmF x3 n3,syF db] 164):=by rw [hW];exact blk_new _ _
 obtain ⟨ks,hks⟩:∃ ks:List St,ks=[⟨1,f1,x1,[(kJournal,J)],.slice (some ⟨w2.heap.size,0,none⟩) 1 1,[]⟩,syS,⟨1,f2,x2,fs,.slice b fl fc,[]⟩,syS,⟨2,x3,n3,[],.nilIface,kJournal⟩,syS]:=⟨_,rfl⟩
 have hops':opsOf ks=leaveOps J fs:=by rw [hks];rfl
 have h6:ks.length=6:=by rw [hks];rfl
 have hcs:∀ k (hk:k < ks.length),W.cell? ⟨w5.heap.size,k,none⟩=some (stV db ks[k]):=fun k hk=>by
  subst hks
  rcases (by omega:k=0∨k=1∨k=2∨k=3∨k=4∨k=5) with h | h | h | h | h | h <;> subst h
  ·exact blk_cell hWb 0
  ·exact blk_cell hWb 1
  ·exact blk_cell hWb 2
  ·exact blk_cell hWb 3
  ·exact blk_cell hWb 4
  ·exact blk_cell hWb 5
 have hfvW:FilE W (.slice b fl fc) fs:=hfv.fr (P:=fun _ _=>False) (Fr.of_below b2) (fun _ _ h=>h)
 have hw:∀ s∈ks,StW db W s:=fun s hs'=>by
  rw [hks] at hs'
  simp only [List.mem_cons,List.not_mem_nil,or_false] at hs'
  rcases hs' with rfl | rfl | rfl | rfl | rfl | rfl
  ·exact Or.inr (Or.inl ⟨rfl,blk_below h3.1 b3,blk_below h3.2 b3,hl1,by simp,fun f hf=>by rw [List.mem_singleton.1 hf];exact ⟨by show kJournal.length≤1000;decide,hJl⟩⟩)
  ·exact Or.inl rfl
  ·exact Or.inr (Or.inl ⟨rfl,blk_below h4.1 b4,blk_below h4.2 b4,hfvW,hf10,hs⟩)
  ·exact Or.inl rfl
  ·exact Or.inr (Or.inr ⟨rfl,blk_below h5.1 b5,blk_below h5.2 b5,by show kJournal.length≤1000;decide⟩)
  ·exact Or.inl rfl
 have hth:∀ k (hk:k < ks.length),ks[k].kind=2→(aRun (opsOf (ks.take k)) A).1=0→((aRun (opsOf (ks.take k)) A).2.N ks[k].x).isSome=true:=fun k hk hk2 h0=>by
  have hN:=aRun_N _ _ h0
  rw [hN]
  clear hN h0
  subst hks
  rcases (by omega:k=0∨k=1∨k=2∨k=3∨k=4∨k=5) with h | h | h | h | h | h <;> subst h
  ·exact absurd hk2 (by show (1:Nat)≠2;decide)
  ·exact absurd hk2 (by show (0:Nat)≠2;decide)
  ·exact absurd hk2 (by show (1:Nat)≠2;decide)
  ·exact absurd hk2 (by show (0:Nat)≠2;decide)
  ·show (([wOp (kJournal,J)]++([sOp]++(fs.map wOp++([sOp]++[])))).foldl nF A.N kJournal).isSome=true
   rw [List.foldl_append,List.foldl_append,List.foldl_append,foldN]
   show (putFs (putF A.N kJournal J) fs kJournal).isSome=true
   rw [putFs_other fs _ _ hjf]
   simp [putF]
  ·exact absurd hk2 (by show (0:Nat)≠2;decide)
 have hcall:=ginTurn_any B db bd bn n w5.heap.size 6 A ks _ W (h.below b2) hWb hcs hw (by omega) (by omega) hp hops hth
 rw [hops',h6] at hcall
 refine hcall.mono ?_
 rintro e w6 ⟨rfl,hD6,hF6⟩
 exact ⟨rfl,hD6,(Fr.of_below b2).trans hF6,fun o ho=>hF6.block _ _ (blk_below ho b5) (PDk.notT (by decide) (by decide))⟩
theorem gleave_any (B db bd bn n:Nat) (A:AD) (J:List UInt8) (id text:List UInt8) (a:Option Addr) (m c:Nat) (b:Option Addr) (fl fc:Nat) (fs:List Fl) (w:World) (h:AbsD w B db bd bn n A) (hdn:A.lf.down=false)
 (hfv:FilE w (.slice b fl fc) fs) (hJl:J.length≤100000000) (hJou:∀ W,Below w.heap.size w W→JouIs J id text (.slice a m c) W) (hj0:A.N kJournal=none) (hjf:∀ f∈fs,f.1≠kJournal)
 (hn:n≤460000) (hf10:fs.length≤10) (hp:A.p.length≤50) (hops:OpsOk A.p) (hs:∀ f∈fs,f.1.length≤1000∧f.2.length≤100000000) :
 Calls Tryz.prog 81 #[.agg #[.string (strA id),.slice a m c,.string (strA text)],dskV db,.slice b fl fc] w fun e w'=>e=.returned (errV (aRun (leaveOps J fs) A).1)∧AbsD w' B db bd bn (n+1200) (aRun (leaveOps J fs) A).2∧Fr (PDk B) w w':=by
 have HFV:=hide hfv
 have HJO:=hide hJou
 have HJ0:=hide hj0
 have HJF:=hide hjf
 have HS:=hide hs
 have HOP:=hide hops
 obtain ⟨pv,hdj⟩:=h
 rw [hdn] at hdj
 have HDJ:=hide hdj
 have HD:Hid (AbsD w B db bd bn n A):=⟨pv,by rw [hdn];exact hdj⟩
 obtain ⟨W,hW⟩:∃ W,W=w.alloc (.cells #[.string (strA id),.slice a m c,.string (strA text)] 159):=⟨_,rfl⟩
 have HWB:Hid (Below w.heap.size w W):=by rw [hW];exact (Below.refl _ _).alloc (Nat.le_refl _) _
 have HWD:Hid (W.heap[w.heap.size]?=some (.cells #[.string (strA id),.slice a m c,.string (strA text)] 159)):=by rw [hW];exact blk_new _ _
 have HWW:=hide hW
 have hmt:=mth_Names db
 clear hfv hJou hj0 hjf hs hW hops hdj
 go_enter Tryz.func81,Tryz.ntmps81
 go_wp2_with fail
 rw [← HWW.out]
 refine (gnames_all B db bd bn n A.D A.N A.p A.lf.left A.lf.full pv W (HDJ.out.below HWB.out) (by omega)).mono ?_
 rintro e w1 ⟨hB1,nv,l,rfl,hN1,hmem,hll⟩
 have HN1:=hide hN1
 obtain ⟨na,nc,hnv⟩:=owns_len hN1
 subst hnv
 have HJN:Hid (kJournal ∉ l):=fun hm=>by have h1:=(hmem kJournal).1 hm;rw [HJ0.out] at h1;cases h1
 have HB1:=hide (HWB.out.trans (hB1.mono HWB.out.size))
 have HD1:=hide (blk_below HWD.out hB1)
 have hs1:=HB1.out.size
 clear hB1 hN1 hmem
 go_wp2_with (go_at_call 141;refine (journalName_any _ l _ w1 HN1.out (by omega) HJN.out).mono ?_;rintro e w1' ⟨rfl,hw1⟩;rw [hw1];clear hw1)
 have v0:w1.cell? ⟨w.heap.size,0,none⟩=some (.string (strA id)):=blk_cell HD1.out 0
 have v1:w1.cell? ⟨w.heap.size,1,none⟩=some (.slice a m c):=blk_cell HD1.out 1
 have v2:w1.cell? ⟨w.heap.size,2,none⟩=some (.string (strA text)):=blk_cell HD1.out 2
 have HJ1:=hide (HJO.out w1.drew (below_drewE HB1.out))
 have HSJ:Hid (∀ W:World,W.heap[w.heap.size]?=some (.cells #[.string (strA id),.slice a m c,.string (strA text)] 159)→W.cell? ⟨w.heap.size,0,none⟩=some (.string (strA id))∧W.cell? ⟨w.heap.size,1,none⟩=some (.slice a m c)∧W.cell? ⟨w.heap.size,2,none⟩=some (.string (strA text))):=fun W hv=>⟨blk_cell hv 0,blk_cell hv 1,blk_cell hv 2⟩
 clear hmt
 refine wp_region_held (S:=fun w'=>w'.cell? ⟨w.heap.size,0,none⟩=some (.string (strA id))∧w'.cell? ⟨w.heap.size,1,none⟩=some (.slice a m c)∧w'.cell? ⟨w.heap.size,2,none⟩=some (.string (strA text))) (by kernel_rfl) ?_
 have hS:=HSJ.out w1.drew HD1.out
 refine takeH 0 20 (dskV db) rfl hS (fun w' ⟨s1,s2,s3⟩=>by go_simp) ?_
 simp only [pt,sz,sc]
 refine takeH 1 21 (.string (strA kJournal)) rfl hS (fun w' ⟨s1,s2,s3⟩=>by go_simp) ?_
 simp only [pt,sz,sc]
 refine takeH 2 22 (.agg #[.string (strA id),.slice a m c,.string (strA text)]) rfl hS (fun w' ⟨s1,s2,s3⟩=>by go_simp) ?_
 simp only [pt,sz,sc]
 refine takeH 3 23 (.string (strA kJournal)) rfl hS (fun w' ⟨s1,s2,s3⟩=>by go_simp) ?_
 simp only [pt,sz,sc]
 refine takeH 8 28 (dskV db) rfl hS (fun w' ⟨s1,s2,s3⟩=>by go_simp) ?_
 simp only [pt,sz,sc]
 refine takeH 9 29 (dskV db) rfl hS (fun w' ⟨s1,s2,s3⟩=>by go_simp) ?_
 simp only [pt,sz,sc]
 refine takeH 10 30 (syF db) rfl hS (fun w' ⟨s1,s2,s3⟩=>by go_simp) ?_
 simp only [pt,sz,sc]
 refine takeH 11 31 (dskV db) rfl hS (fun w' ⟨s1,s2,s3⟩=>by go_simp) ?_
 simp only [pt,sz,sc]
 refine takeH 12 32 (.slice b fl fc) rfl hS (fun w' ⟨s1,s2,s3⟩=>by go_simp) ?_
 simp only [pt,sz,sc]
 refine takeH 14 34 (dskV db) rfl hS (fun w' ⟨s1,s2,s3⟩=>by go_simp) ?_
 simp only [pt,sz,sc]
 refine takeH 15 35 (dskV db) rfl hS (fun w' ⟨s1,s2,s3⟩=>by go_simp) ?_
 simp only [pt,sz,sc]
 refine takeH 16 36 (syF db) rfl hS (fun w' ⟨s1,s2,s3⟩=>by go_simp) ?_
 simp only [pt,sz,sc]
 refine takeH 17 37 (dskV db) rfl hS (fun w' ⟨s1,s2,s3⟩=>by go_simp) ?_
 simp only [pt,sz,sc]
 refine takeH 18 38 (.string (strA kJournal)) rfl hS (fun w' ⟨s1,s2,s3⟩=>by go_simp) ?_
 simp only [pt,sz,sc]
 refine takeH 20 40 (dskV db) rfl hS (fun w' ⟨s1,s2,s3⟩=>by go_simp) ?_
 simp only [pt,sz,sc]
 refine takeH 21 41 (dskV db) rfl hS (fun w' ⟨s1,s2,s3⟩=>by go_simp) ?_
 simp only [pt,sz,sc]
 refine takeH 22 42 (syF db) rfl hS (fun w' ⟨s1,s2,s3⟩=>by go_simp) ?_
 simp only [pt,sz,sc]
 refine wpAnyH_all (rs:=[4]) (by kernel_rfl) (by decide) (fun j hj=>?_)
 simp only [List.mem_singleton] at hj
 subst hj
 refine wpOpE rfl (by rfl) ?_
 clear hS
 go_simp
 refine HJ1.out.mono ?_
 rintro e w2 ⟨rfl,hb2'⟩
 have hb2:=below_drew hb2'
 have HB2:=hide (HB1.out.trans (hb2.mono hs1))
 have HV2:=hide (blk_below HD1.out hb2)
 have hs2:=HB2.out.size
 clear hb2 hb2'
 refine ⟨HSJ.out w2 HV2.out,?_⟩
 try simp only [Act.put,List.setIfInBounds_toArray,List.set_cons_zero,List.set_cons_succ]
 have hS:=HSJ.out w2 HV2.out
 refine takeH 5 25 (.agg #[.string (strA kJournal),.string (strA J)]) rfl hS (fun w' ⟨s1,s2,s3⟩=>by go_simp) ?_
 simp only [pt,sz,sc]
 refine wpAnyH_all (rs:=[6]) (by kernel_rfl) (by decide) (fun j hj=>?_)
 simp only [List.mem_singleton] at hj
 subst hj
 refine wpOpE rfl (by rfl) ?_
 clear hS
 go_simp
 refine ⟨HSJ.out _ (blk_alloc HV2.out),?_⟩
 try simp only [Act.put,List.setIfInBounds_toArray,List.set_cons_zero,List.set_cons_succ]
 have hS:=HSJ.out (w2.alloc (.cells #[.string (strA kJournal),.string (strA J)] 86)) (blk_alloc HV2.out)
 refine wpAnyH_all (rs:=[7]) (by kernel_rfl) (by decide) (fun j hj=>?_)
 simp only [List.mem_singleton] at hj
 subst hj
 refine wpOpE rfl (by rfl) ?_
 clear hS
 go_simp
 refine (writing_any db (some ⟨w2.heap.size,0,none⟩) 1 1 (w2.alloc (.cells #[.string (strA kJournal),.string (strA J)] 86))).mono ?_
 rintro e w3 ⟨f1,x1,rfl,hf1,hx1,hb3⟩
 have HX3:=hide (And.intro hf1 hx1)
 have HC3:=hide hb3
 have HV3:=hide (blk_below (blk_alloc HV2.out) hb3)
 clear hf1 hx1 hb3
 refine ⟨HSJ.out w3 HV3.out,?_⟩
 try simp only [Act.put,List.setIfInBounds_toArray,List.set_cons_zero,List.set_cons_succ]
 have hS:=HSJ.out w3 HV3.out
 refine wpAnyH_all (rs:=[13]) (by kernel_rfl) (by decide) (fun j hj=>?_)
 simp only [List.mem_singleton] at hj
 subst hj
 refine wpOpE rfl (by rfl) ?_
 clear hS
 go_simp
 refine (writing_any db b fl fc w3).mono ?_
 rintro e w4 ⟨f2,x2,rfl,hf2,hx2,hb4⟩
 have HX4:=hide (And.intro hf2 hx2)
 have HC4:=hide hb4
 have HV4:=hide (blk_below HV3.out hb4)
 clear hf2 hx2 hb4
 refine ⟨HSJ.out w4 HV4.out,?_⟩
 try simp only [Act.put,List.setIfInBounds_toArray,List.set_cons_zero,List.set_cons_succ]
 have hS:=HSJ.out w4 HV4.out
 refine wpAnyH_all (rs:=[19]) (by kernel_rfl) (by decide) (fun j hj=>?_)
 simp only [List.mem_singleton] at hj
 subst hj
 refine wpOpE rfl (by rfl) ?_
 clear hS
 go_simp
 refine (removing_any db kJournal w4).mono ?_
 rintro e w5 ⟨x3,n3,rfl,hx3,hn3,hb5⟩
 have HX5:=hide (And.intro hx3 hn3)
 have HC5:=hide hb5
 have HV5:=hide (blk_below HV4.out hb5)
 clear hx3 hn3 hb5
 refine ⟨HSJ.out w5 HV5.out,?_⟩
 try simp only [Act.put,List.setIfInBounds_toArray,List.set_cons_zero,List.set_cons_succ]
 have hS:=HSJ.out w5 HV5.out
 refine wpAnyH_all (rs:=[23]) (by kernel_rfl) (by decide) (fun j hj=>?_)
 simp only [List.mem_singleton] at hj
 subst hj
 refine wpOpE rfl (by rfl) ?_
 clear hS
 go_simp
 refine ⟨HSJ.out _ (blk_alloc HV5.out),?_⟩
 try simp only [Act.put,List.setIfInBounds_toArray,List.set_cons_zero,List.set_cons_succ]
 have hS:=HSJ.out (w5.alloc (.cells #[wrF f1 x1,syF db,wrF f2 x2,syF db,rmF x3 n3,syF db] 164)) (blk_alloc HV5.out)
 refine wpAnyH_all (rs:=[24]) (by kernel_rfl) (by decide) (fun j hj=>?_)
 simp only [List.mem_singleton] at hj
 subst hj
 refine wpOpE rfl (by rfl) ?_
 clear hS
 go_simp
 refine (gleave_turn B db bd bn n f1 x1 f2 x2 x3 n3 A J b fl fc fs w w2 w3 w4 w5 HD.out HFV.out hJl HB2.out HX3.out HC3.out HX4.out HC4.out HX5.out HC5.out hn hf10 hp HOP.out HS.out HJF.out).mono ?_
 rintro e w6 ⟨he6,hS6,hF6,hv6⟩
 obtain ⟨ev,hev⟩:∃ ev,ev=errV (aRun (leaveOps J fs) A).1:=⟨_,rfl⟩
 rw [← hev] at he6
 subst he6
 have HEV:=hide hev
 clear hev
 have HS6:=hide hS6
 have HF6:=hide hF6
 have HV6:=hide (hv6 _ HV5.out)
 clear hS6 hF6 hv6 HX3 HC3 HX4 HC4 HX5 HC5
 refine ⟨HSJ.out w6 HV6.out,?_⟩
 try simp only [Act.put,List.setIfInBounds_toArray,List.set_cons_zero,List.set_cons_succ]
 have hS:=HSJ.out w6 HV6.out
 refine takeH 25 6 ev rfl hS (fun w' ⟨s1,s2,s3⟩=>by go_simp) ?_
 simp only [pt,sz,sc]
 refine wpAnyH_done (by kernel_rfl) ?_ _
 try simp only [Act.put,List.setIfInBounds_toArray,List.set_cons_zero,List.set_cons_succ]
 clear hS
 simp only [Exit.then]
 all_goals go_wp2
 all_goals go_ret
 all_goals exact ⟨by rw [← HEV.out];rfl,HS6.out,HF6.out⟩
end
end Go.Proofs.YtenahlandohgaaaGreatDoor
