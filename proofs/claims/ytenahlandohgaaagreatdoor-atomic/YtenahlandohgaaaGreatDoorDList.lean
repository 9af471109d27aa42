import Derived.Test.YtenahlandohgaaaGreatDoorDFiles
namespace Go.Proofs.YtenahlandohgaaaGreatDoor
set_option linter.unusedVariables false
set_option linter.unusedSimpArgs false
set_option maxRecDepth 100000
set_option maxHeartbeats 4000000
open Go.RowKit Go.Maps Go.Sort
attribute [local go_sem ↓] Go.wp_at_zero Go.wp_at_succ
def PLb (b:Nat) (k:Nat) (o:Obj):Prop:=k=b∧∃ cs,o=.cells cs 26
theorem ranges_of {w w':World} {b r n:Nat} {D0:DataW Unit} {left:Lit→Bool} {cnt:Nat} (h:w.ranges Tryz.prog 9 ptrR b r n D0 left cnt) (h1:w'.heap[b]?=w.heap[b]?) (h2:w'.heap[r]?=w.heap[r]?):w'.ranges Tryz.prog 9 ptrR b r n D0 left cnt:=by
 obtain ⟨es,clock,since,seen,c0,hb,F,hs,hD,hr,rest⟩:=h
 exact ⟨es,clock,since,seen,c0,h1.trans hb,F,hs,hD,h2.trans hr,rest⟩
theorem lists_of {D:Fs} {ss l:List Fl} (hn:(ss.map Prod.fst).Nodup) (hp:l.Perm ss) (hs:l.Pairwise (fun a b=>¬ b.1 < a.1)) (h1:∀ f∈ss,D f.1=some f.2) (h2:∀ x,(D x).isSome=true→x∈ss.map Prod.fst):Lists D l:=by
 have hn':(l.map Prod.fst).Nodup:=((hp.map Prod.fst).nodup_iff).2 hn
 refine ⟨(hs.and (List.pairwise_map.1 hn')).imp (fun {a b} h=>lt_of_not h.1 h.2),fun x s=>?_⟩
 rw [hp.mem_iff]
 refine ⟨fun h=>h1 _ h,fun h=>?_⟩
 obtain ⟨f,hf,rfl⟩:=List.mem_map.1 (h2 x (by rw [h];rfl))
 have:=h1 f hf
 rw [h] at this
 cases this
 exact hf
theorem dfiles_all (B db bd bn n:Nat) (D N:Fs) (p:List Dop) (q:Int) (pv:Value) (w:World) (h:DI w B db bd bn n D N p q pv) (hn:n≤500000) :
 Calls Tryz.prog 40 #[.pointer (some ⟨db,0,none⟩)] w fun e w'=>Below w.heap.size w w'∧∃ v l,e=.returned v∧FilN w' v l∧Lists D l∧l.length≤n:=by
 obtain ⟨D0,hown,hFs⟩:=h.md
 have hbl:=hown.lt
 have hdl:=blk_lt h.blk
 have c0:∀ o,(w.alloc o).cell? ⟨db,0,none⟩=some (.map (some bd)):=fun o=>blk_cell (blk_alloc h.blk) 0
 have HFS:=hide hFs
 have HSZ:=hide (World.ownsMap.size_le hown)
 have e1:∀ o,(w.alloc o).heap.size=w.heap.size+1:=fun o=>by simp
 obtain ⟨i0,hi,hz0,hz1,hz2⟩:=info_parts Tryz.infoFile
 clear h hFs
 go_enter Tryz.func40,Tryz.ntmps40
 go_wp2_with (first | (at_range;refine wpList_range_own _ rfl _ 81 rfl 9 87 strK mapT _ bd n _ rfl (hown.alloc _) ?_;intro w0 hrg0 hg0 hs0) | go_in)
 go_frame
 rw [e1] at hrg0 hs0 ⊢
 have HL0:Hid (w0.heap[w.heap.size]?=some (.cells #[.slice none 0 0] 26)):=(hg0.block _ (by simp) (by simp)).trans (blk_new _ _)
 have HB0:Hid (Below w.heap.size w w0):=((Below.refl _ _).alloc (Nat.le_refl _) _).grown hg0 (by simp) (fun j hj=>by cases hj)
 have hs1:w.heap.size+1 < w0.heap.size:=by omega
 have HOW:=hide hown
 clear hg0 hs0 c0 e1 hown
 go_loopw [4,5] (fun _ _ wr=>∃ (left:Lit→Bool) (cnt:Nat) (ss:List Fl) (v:Value),wr.ranges Tryz.prog 9 ptrR bd (w.heap.size+1) n D0 left cnt∧ss.length+cnt≤Maps.size D0∧wr.heap[w.heap.size]?=some (.cells #[v] 26)∧wr.ownsRow w.heap.size 86 2 v ss.length (fcells ss)∧Collected D0 left (ss.map Prod.fst)∧(∀ f∈ss,D f.1=some f.2)∧Below w.heap.size w wr∧w.heap.size+1 < wr.heap.size) (fun _ _ wr=>wr.rangeLeft bd (w.heap.size+1))
 case atStart=>exact ⟨_,_,[],_,hrg0,by simp,HL0.out,World.ownsRow_nil _ _ _ _,Collected.start D0,fun f hf=>(by cases hf),HB0.out,hs1⟩
 case round=>
  obtain ⟨left,cnt,ss,v,hrg,hcs,hlb,hrow,hC,hF,hB,hsz⟩:=hrel
  have HC:=hide hC
  have HF:=hide hF
  have HB:=hide hB
  have HRW:=hide hrow
  have HLB:=hide hlb
  have hsn:=HSZ.out
  obtain ⟨va,vc,hvv⟩:=owns_len hrow
  subst hvv
  have hll:wr.cell? ⟨w.heap.size,0,none⟩=some (.slice va ss.length vc):=blk_cell hlb 0
  clear hC hF hB hrow hrg0 hlb hs1
  go_wp2_with (first | (at_next;refine wpList_next_ranges _ rfl _ rfl 9 strK ptrR encStr ptrV invK invV bd (w.heap.size+1) n _ _ _ rfl hrg ?_ ?_) | go_in)
  ·intro hc0 hl0
   have HP:Hid (∀ x,(D x).isSome=true→x∈ss.map Prod.fst):=fun x hx=>(HC.out.2 x).2 ⟨(fs_mem HFS.out x).2 hx,hl0 _⟩
   rcases HRW.out.2 with ⟨hv0,h0⟩ | ⟨g,cap,cur,hv,hg,hb,hle,hmx,hcs2,htk⟩
   ·injection hv0 with hv1 hv2 hv3
    subst hv1 hv3
    have hse:=List.eq_nil_of_length_eq_zero h0
    subst hse
    have HSF:=hide (sortF_nil w.heap.size wr)
    go_wp2_with (go_at_call 53;refine HSF.out.mono ?_;rintro e w3 ⟨rfl,hg3⟩;have HG3:=hide hg3;have hll3:w3.cell? ⟨w.heap.size,0,none⟩=some (.slice none 0 0):=blk_cell (blk_below HLB.out hg3) 0;clear hg3)
    go_ret
    exact ⟨HB.out.trans (HG3.out.mono HB.out.size),_,[],rfl,Or.inl ⟨rfl,rfl⟩,⟨List.Pairwise.nil,fun x s=>⟨fun h=>(by cases h),fun h=>(by have:=HP.out x (by rw [h];rfl);cases this)⟩⟩,Nat.zero_le _⟩
   injection hv with hv1 hv2 hv3
   subst hv1 hv3
   have HSF:=hide (sortF_any w.heap.size g vc ss cur wr hll (fun e=>by
    have h1:=HLB.out
    rw [e,hb] at h1
    injection h1 with h1
    injection h1 with h2 h3
    exact absurd h3 (by decide)) hb htk (by omega))
   have hgl:=blk_lt hb
   have hne:w.heap.size≠g:=fun e=>by
    have h1:=HLB.out
    rw [e,hb] at h1
    injection h1 with h1
    injection h1 with h2 h3
    exact absurd h3 (by decide)
   have hge:w.heap.size≤g:=hg
   clear hb hcs2 htk
   go_wp2_with (go_at_call 53;refine HSF.out.mono ?_;rintro e w3 ⟨rfl,l3,hl3,hp3,hs3,hg3,hf3⟩;have HP3:=hide hp3;have HS3:=hide hs3;have HG3:=hide hg3;have HF3:=hide hf3;have HL3:=hide hl3;have hll3:w3.cell? ⟨w.heap.size,0,none⟩=some (.slice (some ⟨g,0,none⟩) ss.length vc):=blk_cell (blk_grown HLB.out hg3 hne) 0;clear hp3 hs3 hg3 hf3 hl3)
   go_ret
   exact ⟨HB.out.grown HG3.out HB.out.size (fun j hj=>by cases hj;exact hge),_,l3,rfl,Or.inr HF3.out,lists_of HC.out.1 HP3.out HS3.out HF.out HP.out,by have:=HL3.out;omega⟩
  ·intro x c kl yd yp w1 cnt1 hkey hlk hv hat hrg1 hlt hg1 hs1 hen
   obtain ⟨x',ex,rfl,hxl⟩:=Maps.keyOf_str strT hkey
   obtain rfl:x=x':=encStr_inj ex
   have hvd:yd=.lit (.int .i64 c):=by
    have:=(ptrR_mk c).symm.trans hv
    cases this;rfl
   subst hvd
   have hDx:∃ s,D x=some s:=by
    cases hdx:D x with
    | some s=>exact ⟨s,rfl⟩
    | none=>have h1:=HFS.out.1 x hdx;rw [Maps.has_true_of_atKey hat] at h1;cases h1
   obtain ⟨s,hDx⟩:=hDx
   obtain ⟨k,hk1,hk2⟩:=HFS.out.2 x s hDx
   have hkc:k=c:=by
    have h1:=(hk1 .nil).symm.trans (hat .nil)
    injection h1 with h1
    injection h1 with _ h1
    omega
   subst hkc
   have HST:Hid (Collected D0 (fun z=>left z && !z.sameKey (.string x)) ((ss++[(x,s)]).map Prod.fst)):=by
    show Collected _ _ _
    rw [List.map_append]
    exact HC.out.step hlk hat
   have hB1:=HB.out.grown hg1 HB.out.size (fun j hj=>by cases hj;exact Nat.le_succ _)
   have HB1:=hide hB1
   have hL1:=blk_grown HLB.out hg1 (by omega)
   have HL1:=hide hL1
   have HR1:Hid (w1.ownsRow w.heap.size 86 2 (.slice va ss.length vc) ss.length (fcells ss)):=World.ownsRow.kept HRW.out hg1 (Or.inr (row_ne_iter HRW.out hrg).symm)
   have q0:w1.cell? ⟨w.heap.size,0,none⟩=some (.slice va ss.length vc):=blk_cell hL1 0
   have q1:w1.cell? ⟨k,0,none⟩=some (.string (strA s)):=blk_cell (blk_below hk2 hB1) 0
   have hl1:=blk_lt hL1
   have hw1:w.heap.size+1 < w1.heap.size:=by omega
   have HROW:Hid (¬ (Value.slice va ss.length vc).ownBlock=some w.heap.size):=fun e=>by
    obtain ⟨_,cs,hcs⟩:=owns_blk HR1.out _ _ e HL1.out
    injection hcs with e1 e2
    exact absurd e2 (by decide)
   have HF1:Hid (∀ f∈ss++[(x,s)],D f.1=some f.2):=fun f hf=>by
    rcases List.mem_append.1 hf with h | h
    ·exact HF.out f h
    ·rw [List.mem_singleton.1 h];exact hDx
   clear hs1 ex hkey hv hll hL1 hB1 hk1 hk2 hDx
   go_wp2_with fail
   go_region_law (refine step_append_lies _ rfl (.tmp 16) (.tmp 22) 26 rfl w.heap.size 86 i0 (.agg #[.string ⟨#[]⟩,.string ⟨#[]⟩]) 2 32 Tryz.underlying26 hi hz0 hz1 hz2 rfl (by decide) (.slice va ss.length vc) ss.length (fcells ss) (by simp [Act.eval,Act.put]) (HR1.out.alloc _) ⟨w1.heap.size,0,none⟩ 1 1 (encF (x,s)) (by simp [Act.eval,Act.put]) rfl (two_fl _ (x,s) _) (one_fl (x,s)) (by decide) (by unfold maxLen;omega) (by omega) (by simp;omega) _ rfl ?_;intro g' cap' w5 hown5 hgrow hat5 hlt5;have HO5:=hide hown5;have HG5:=hide hgrow;have t2:w5.cell? ⟨w.heap.size,0,none⟩=some (.slice va ss.length vc):=hgrow.cell (a:=⟨w.heap.size,0,none⟩) ((World.cell?_of_block (a:=⟨w.heap.size,0,none⟩) (w:=w1) (Below.heap_alloc _ _ _ hl1)).trans q0) (fun e=>HROW.out e.symm);have hft:∀ j,w5.frozen? ⟨w.heap.size,j,none⟩=false:=fun j=>(World.frozen?_of_block (a:=⟨w.heap.size,j,none⟩) (w:=w1) ((hgrow.block _ (by simp;omega) (fun e=>HROW.out e.symm)).trans (Below.heap_alloc _ _ _ hl1))).trans (blk_frozen HL1.out j);clear hown5 hgrow;skip)
   all_goals go_wp2
   all_goals have hb5:w5.heap[w.heap.size]?=some (.cells #[.slice va ss.length vc] 26):=(HG5.out.block _ (by simp;omega) (fun e=>HROW.out e.symm)).trans ((Below.heap_alloc _ _ _ hl1).trans HL1.out)
   all_goals have hset:=(Fr.refl (PLb w.heap.size) w5).set hb5 ⟨rfl,_,rfl⟩ 0 (.slice (some ⟨g',0,none⟩) (ss.length+1) cap')
   all_goals have hkeep:∀ k,k < w1.heap.size→some k≠(Value.slice va ss.length vc).ownBlock→k≠w.heap.size→(w5.setCell ⟨w.heap.size,0,none⟩ (.slice (some ⟨g',0,none⟩) (ss.length+1) cap')).heap[k]?=w1.heap[k]?:=fun k h1 h2 h3=>(Below.heap_setCell _ _ _ _ h3).trans ((HG5.out.block k (by simp;omega) h2).trans (Below.heap_alloc _ _ _ h1))
   all_goals have hrg5:=ranges_of hrg1 (hkeep bd (by omega) (row_ne_low HR1.out hbl) (by omega)) (hkeep (w.heap.size+1) (by omega) (row_ne_iter HR1.out hrg1) (by omega))
   all_goals have hB5:Below w.heap.size w w5:=below_grown2 HB1.out HB1.out.size (row:=(Value.slice va ss.length vc).ownBlock) ⟨HG5.out.os,HG5.out.tape,HG5.out.output,HG5.out.size,HG5.out.block⟩ (fun k hk=>(World.ownsRow.lt HR1.out k hk).1)
   all_goals have hs5:=HG5.out.size
   all_goals exact ⟨⟨_,cnt1,ss++[(x,s)],_,hrg5,by rw [List.length_append];simp;omega,heap_setCell_at _ _ _ _ _ _ hb5,by rw [List.length_append,← fcells_snoc];exact owns_fr HO5.out hset (fun k cs ⟨_,cs',e⟩=>by injection e with e1 e2;exact absurd e2 (by decide)),HST.out,HF1.out,hB5.setCell (Nat.le_refl _) _,by simp at hs5 ⊢;omega⟩,by rw [hrg5.left_eq,hrg.left_eq];exact hlt⟩
end Go.Proofs.YtenahlandohgaaaGreatDoor
