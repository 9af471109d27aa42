import Derived.Test.YtbiclelojbfnbaaGreatDoorZReaderT
namespace Go.Proofs.YtbiclelojbfnbaaGreatDoor
set_option linter.unusedVariables false
set_option linter.unusedSimpArgs false
set_option maxRecDepth 100000
set_option maxHeartbeats 4000000
open Go.RowKit
attribute [local go_sem ↓] Go.wp_at_zero Go.wp_at_succ
theorem getD_up {l:Array Bool} {i:Nat} (h:i < l.size):(fun j=>(l.setIfInBounds i true).getD j false)=up (fun j=>l.getD j false) i:=by
 funext j
 unfold up
 by_cases e:j=i
 ·subst e;simp [h]
 ·rw [if_neg e];exact getD_set_ne false (Ne.symm e)
def tmC (t:ByteArray) (b:Nat) (u8 u16 u18 u20 u25 u26 u27:Value):Act:=
 { tmps:=#[.string t,undef,.pointer none,.pointer (some ⟨b+1,0,none⟩),.string t,.agg #[.string t,.int .i64 0,.int .i64 0,.string ⟨#[]⟩,.string ⟨#[]⟩,.int .i64 0,.int .i64 0,.slice none 0 0,.map none,.map none],(.pointer (some ⟨b,0,none⟩)),(.pointer (some ⟨b,0,none⟩)),u8,(.pointer (some ⟨b,0,none⟩)),(.func (.func 152) #[.pointer (some ⟨b,0,none⟩)] #[]),(.pointer (some ⟨b,0,none⟩)),(.func (.func 153) #[.pointer (some ⟨b,0,none⟩)] #[]),(.pointer (some ⟨b,0,none⟩)),(.func (.func 154) #[.pointer (some ⟨b,0,none⟩)] #[]),(.pointer (some ⟨b,0,none⟩)),u16,(.pointer (some ⟨b,0,none⟩)),u18,(.pointer (some ⟨b,0,none⟩)),u20,(.pointer (some ⟨b,0,none⟩)),(.func (.func 156) #[.pointer (some ⟨b,0,none⟩)] #[]),(.pointer (some ⟨b,0,none⟩)),(.func (.func 157) #[.pointer (some ⟨b,0,none⟩)] #[]),u25,u26,u27,undef,undef,undef,undef,undef,undef,undef,undef,undef,undef,undef,undef,undef,undef,undef,undef,undef,undef,undef],defers:=[] }
def JJC (t:ByteArray) (b:Nat) (W:World) (l:Array Bool) (a:Act) (w:World):Prop:=
 l.size=30∧(∀ i∈[0,2,3,5,6,8,9,11,14,17,20,21,23,24],l.getD i false=true)∧∃ u8 u16 u18 u20 u25 u26 u27,a=tmC t b u8 u16 u18 u20 u25 u26 u27∧JC t b W (.map none) (fun j=>l.getD j false) u8 u16 u18 u20 u25 u26 u27 w
theorem JJC.next {t:ByteArray} {b:Nat} {W:World} {l:Array Bool} {i:Nat} {u8 u16 u18 u20 u25 u26 u27:Value} {w:World} (hl:l.size=30) (ht:∀ i∈[0,2,3,5,6,8,9,11,14,17,20,21,23,24],l.getD i false=true) (hi:i < 30) (J:JC t b W (.map none) (up (fun j=>l.getD j false) i) u8 u16 u18 u20 u25 u26 u27 w):JJC t b W (l.setIfInBounds i true) (tmC t b u8 u16 u18 u20 u25 u26 u27) w:=
 ⟨by simp [hl],fun k hk=>getD_set_true (ht k hk),u8,u16,u18,u20,u25,u26,u27,rfl,by rw [getD_up (by omega)];exact J⟩
def NRPost (t:ByteArray) (w:World) (e:Ending) (w':World):Prop:=∃ mc mt pr pt pf p1 k1 p2 k2 p3 k3,e=.returned (.pointer (some ⟨w.heap.size,0,none⟩))∧RC w' w.heap.size t ps0 (.slice none 0 0) mc mt∧TMap w' w.heap.size mt pr pt pf∧CMap w' w.heap.size mc p1 k1 p2 k2 p3 k3∧Below w.heap.size w w'
def tmT (t:ByteArray) (b:Nat) (u8 u16 u18 u20 u25 u26 u27 u29 u30 u31 u43 u44 u45:Value):Act:=
 { tmps:=#[.string t,undef,.pointer none,.pointer (some ⟨b+1,0,none⟩),.string t,.agg #[.string t,.int .i64 0,.int .i64 0,.string ⟨#[]⟩,.string ⟨#[]⟩,.int .i64 0,.int .i64 0,.slice none 0 0,.map none,.map none],(.pointer (some ⟨b,0,none⟩)),(.pointer (some ⟨b,0,none⟩)),u8,(.pointer (some ⟨b,0,none⟩)),(.func (.func 152) #[.pointer (some ⟨b,0,none⟩)] #[]),(.pointer (some ⟨b,0,none⟩)),(.func (.func 153) #[.pointer (some ⟨b,0,none⟩)] #[]),(.pointer (some ⟨b,0,none⟩)),(.func (.func 154) #[.pointer (some ⟨b,0,none⟩)] #[]),(.pointer (some ⟨b,0,none⟩)),u16,(.pointer (some ⟨b,0,none⟩)),u18,(.pointer (some ⟨b,0,none⟩)),u20,(.pointer (some ⟨b,0,none⟩)),(.func (.func 156) #[.pointer (some ⟨b,0,none⟩)] #[]),(.pointer (some ⟨b,0,none⟩)),(.func (.func 157) #[.pointer (some ⟨b,0,none⟩)] #[]),u25,u26,u27,(.pointer (some ⟨b,0,none⟩)),u29,u30,u31,(.pointer (some ⟨b,0,none⟩)),(.func (.func 159) #[.pointer (some ⟨b,0,none⟩)] #[]),(.func (.func 160) #[] #[.pointer (some ⟨b+1,0,none⟩)]),(.func (.func 162) #[] #[.pointer (some ⟨b+1,0,none⟩)]),(.func (.func 163) #[] #[.pointer (some ⟨b+1,0,none⟩)]),(.func (.func 166) #[] #[.pointer (some ⟨b+1,0,none⟩)]),(.func (.func 169) #[] #[.pointer (some ⟨b+1,0,none⟩)]),(.pointer (some ⟨b,0,none⟩)),(.func (.func 170) #[.pointer (some ⟨b,0,none⟩)] #[]),(.pointer (some ⟨b,0,none⟩)),(.func (.func 171) #[.pointer (some ⟨b,0,none⟩)] #[]),u43,u44,u45,undef],defers:=[] }
def JJT (t:ByteArray) (b:Nat) (W:World) (mv1:Value) (u8 u16 u18 u20 u25 u26 u27:Value) (l:Array Bool) (a:Act) (w:World):Prop:=
 l.size=29∧(∀ i∈[0,6,7,9,11,13,15,17,19,20,22,23],l.getD i false=true)∧∃ u29 u30 u31 u43 u44 u45,a=tmT t b u8 u16 u18 u20 u25 u26 u27 u29 u30 u31 u43 u44 u45∧JT t b W mv1 (fun j=>l.getD j false) u29 u30 u31 u43 u44 u45 w
theorem JJT.next {t:ByteArray} {b:Nat} {W:World} {mv1:Value} {l:Array Bool} {i:Nat} {u8 u16 u18 u20 u25 u26 u27 u29 u30 u31 u43 u44 u45:Value} {w:World} (hl:l.size=29) (ht:∀ i∈[0,6,7,9,11,13,15,17,19,20,22,23],l.getD i false=true) (hi:i < 29) (J:JT t b W mv1 (up (fun j=>l.getD j false) i) u29 u30 u31 u43 u44 u45 w):JJT t b W mv1 u8 u16 u18 u20 u25 u26 u27 (l.setIfInBounds i true) (tmT t b u8 u16 u18 u20 u25 u26 u27 u29 u30 u31 u43 u44 u45) w:=
 ⟨by simp [hl],fun k hk=>getD_set_true (ht k hk),u29,u30,u31,u43,u44,u45,rfl,by rw [getD_up (by omega)];exact J⟩
theorem below_of_mod {w w':World} {o o':Obj} (h:Mod w.heap.size ((w.alloc o).alloc o') w'):Below w.heap.size w w':=
 ⟨h.os,h.tape,h.output,by have:=h.size;simp at this;omega,fun k hk=>by
  rw [h.block k (by simp;omega) (by omega),Below.heap_alloc _ _ _ (by simp;omega),Below.heap_alloc _ _ _ hk]⟩
theorem newReader_any (t:ByteArray) (w:World) (ht:t.size≤600) (hm1:∃ m,w.cell? ⟨1,0,none⟩=some (.int .i64 m)) :
  Calls Tryz.prog 104 #[.string t] w (NRPost t w):=by
 have hmf:∀ (fn:Fn) (first cap:Array Value) (w:World),(Instr.makeFunc fn first cap).run Tryz.prog w=.ok (.func fn first cap) w:=fun _ _ _ _=>rfl
 go_enter Tryz.func104,Tryz.ntmps104
 go_wp2_with fail
 refine wp_region_held (S:=fun w'=>w'.cell? ⟨w.heap.size+1,0,none⟩=some (.pointer (some ⟨w.heap.size,0,none⟩))) (by kernel_rfl) ?_
 have hS:({ ((w.alloc (rdObj t (.map none) (.map none))).alloc (.cells #[.pointer (some ⟨w.heap.size,0,none⟩)] 182)) with drawn:=((w.alloc (rdObj t (.map none) (.map none))).alloc (.cells #[.pointer (some ⟨w.heap.size,0,none⟩)] 182)).drawn+1 }:World).cell? ⟨w.heap.size+1,0,none⟩=some (.pointer (some ⟨w.heap.size,0,none⟩)):=blk_cell (blk_newAt (by simp)) 0
 refine wpAnyH_take (i:=0) (v:=.pointer (some ⟨w.heap.size,0,none⟩)) rfl (by kernel_rfl) (by kernel_rfl) (by kernel_rfl) (fun _ _ _ h=>h) (Or.inl ⟨by rfl,?_⟩) hS ?_
 ·intro w' hSw;(try dsimp only at hSw);go_simp
 change wpAnyH _ _ _ _ _ _ _ (Act.put _ (some 7) _) _
 simp only [Act.put,List.setIfInBounds_toArray,List.set_cons_zero,List.set_cons_succ]
 refine wpAnyH_take (i:=2) (v:=.pointer (some ⟨w.heap.size,0,none⟩)) rfl (by kernel_rfl) (by kernel_rfl) (by kernel_rfl) (fun _ _ _ h=>h) (Or.inl ⟨by rfl,?_⟩) hS ?_
 ·intro w' hSw;(try dsimp only at hSw);go_simp
 change wpAnyH _ _ _ _ _ _ _ (Act.put _ (some 9) _) _
 simp only [Act.put,List.setIfInBounds_toArray,List.set_cons_zero,List.set_cons_succ]
 refine wpAnyH_take (i:=3) (v:=.func (.func 152) #[.pointer (some ⟨w.heap.size,0,none⟩)] #[]) rfl (by kernel_rfl) (by kernel_rfl) (by kernel_rfl) (fun _ _ _ h=>h) (Or.inl ⟨by rfl,?_⟩) hS ?_
 ·intro w' hSw;(try dsimp only at hSw);go_simp
 change wpAnyH _ _ _ _ _ _ _ (Act.put _ (some 10) _) _
 simp only [Act.put,List.setIfInBounds_toArray,List.set_cons_zero,List.set_cons_succ]
 refine wpAnyH_take (i:=5) (v:=.pointer (some ⟨w.heap.size,0,none⟩)) rfl (by kernel_rfl) (by kernel_rfl) (by kernel_rfl) (fun _ _ _ h=>h) (Or.inl ⟨by rfl,?_⟩) hS ?_
 ·intro w' hSw;(try dsimp only at hSw);go_simp
 change wpAnyH _ _ _ _ _ _ _ (Act.put _ (some 11) _) _
 simp only [Act.put,List.setIfInBounds_toArray,List.set_cons_zero,List.set_cons_succ]
 refine wpAnyH_take (i:=6) (v:=.func (.func 153) #[.pointer (some ⟨w.heap.size,0,none⟩)] #[]) rfl (by kernel_rfl) (by kernel_rfl) (by kernel_rfl) (fun _ _ _ h=>h) (Or.inl ⟨by rfl,?_⟩) hS ?_
 ·intro w' hSw;(try dsimp only at hSw);go_simp
 change wpAnyH _ _ _ _ _ _ _ (Act.put _ (some 12) _) _
 simp only [Act.put,List.setIfInBounds_toArray,List.set_cons_zero,List.set_cons_succ]
 refine wpAnyH_take (i:=8) (v:=.pointer (some ⟨w.heap.size,0,none⟩)) rfl (by kernel_rfl) (by kernel_rfl) (by kernel_rfl) (fun _ _ _ h=>h) (Or.inl ⟨by rfl,?_⟩) hS ?_
 ·intro w' hSw;(try dsimp only at hSw);go_simp
 change wpAnyH _ _ _ _ _ _ _ (Act.put _ (some 13) _) _
 simp only [Act.put,List.setIfInBounds_toArray,List.set_cons_zero,List.set_cons_succ]
 refine wpAnyH_take (i:=9) (v:=.func (.func 154) #[.pointer (some ⟨w.heap.size,0,none⟩)] #[]) rfl (by kernel_rfl) (by kernel_rfl) (by kernel_rfl) (fun _ _ _ h=>h) (Or.inl ⟨by rfl,?_⟩) hS ?_
 ·intro w' hSw;(try dsimp only at hSw);go_simp
 change wpAnyH _ _ _ _ _ _ _ (Act.put _ (some 14) _) _
 simp only [Act.put,List.setIfInBounds_toArray,List.set_cons_zero,List.set_cons_succ]
 refine wpAnyH_take (i:=11) (v:=.pointer (some ⟨w.heap.size,0,none⟩)) rfl (by kernel_rfl) (by kernel_rfl) (by kernel_rfl) (fun _ _ _ h=>h) (Or.inl ⟨by rfl,?_⟩) hS ?_
 ·intro w' hSw;(try dsimp only at hSw);go_simp
 change wpAnyH _ _ _ _ _ _ _ (Act.put _ (some 15) _) _
 simp only [Act.put,List.setIfInBounds_toArray,List.set_cons_zero,List.set_cons_succ]
 refine wpAnyH_take (i:=14) (v:=.pointer (some ⟨w.heap.size,0,none⟩)) rfl (by kernel_rfl) (by kernel_rfl) (by kernel_rfl) (fun _ _ _ h=>h) (Or.inl ⟨by rfl,?_⟩) hS ?_
 ·intro w' hSw;(try dsimp only at hSw);go_simp
 change wpAnyH _ _ _ _ _ _ _ (Act.put _ (some 17) _) _
 simp only [Act.put,List.setIfInBounds_toArray,List.set_cons_zero,List.set_cons_succ]
 refine wpAnyH_take (i:=17) (v:=.pointer (some ⟨w.heap.size,0,none⟩)) rfl (by kernel_rfl) (by kernel_rfl) (by kernel_rfl) (fun _ _ _ h=>h) (Or.inl ⟨by rfl,?_⟩) hS ?_
 ·intro w' hSw;(try dsimp only at hSw);go_simp
 change wpAnyH _ _ _ _ _ _ _ (Act.put _ (some 19) _) _
 simp only [Act.put,List.setIfInBounds_toArray,List.set_cons_zero,List.set_cons_succ]
 refine wpAnyH_take (i:=20) (v:=.pointer (some ⟨w.heap.size,0,none⟩)) rfl (by kernel_rfl) (by kernel_rfl) (by kernel_rfl) (fun _ _ _ h=>h) (Or.inl ⟨by rfl,?_⟩) hS ?_
 ·intro w' hSw;(try dsimp only at hSw);go_simp
 change wpAnyH _ _ _ _ _ _ _ (Act.put _ (some 21) _) _
 simp only [Act.put,List.setIfInBounds_toArray,List.set_cons_zero,List.set_cons_succ]
 refine wpAnyH_take (i:=21) (v:=.func (.func 156) #[.pointer (some ⟨w.heap.size,0,none⟩)] #[]) rfl (by kernel_rfl) (by kernel_rfl) (by kernel_rfl) (fun _ _ _ h=>h) (Or.inl ⟨by rfl,?_⟩) hS ?_
 ·intro w' hSw;(try dsimp only at hSw);go_simp
 change wpAnyH _ _ _ _ _ _ _ (Act.put _ (some 22) _) _
 simp only [Act.put,List.setIfInBounds_toArray,List.set_cons_zero,List.set_cons_succ]
 refine wpAnyH_take (i:=23) (v:=.pointer (some ⟨w.heap.size,0,none⟩)) rfl (by kernel_rfl) (by kernel_rfl) (by kernel_rfl) (fun _ _ _ h=>h) (Or.inl ⟨by rfl,?_⟩) hS ?_
 ·intro w' hSw;(try dsimp only at hSw);go_simp
 change wpAnyH _ _ _ _ _ _ _ (Act.put _ (some 23) _) _
 simp only [Act.put,List.setIfInBounds_toArray,List.set_cons_zero,List.set_cons_succ]
 refine wpAnyH_take (i:=24) (v:=.func (.func 157) #[.pointer (some ⟨w.heap.size,0,none⟩)] #[]) rfl (by kernel_rfl) (by kernel_rfl) (by kernel_rfl) (fun _ _ _ h=>h) (Or.inl ⟨by rfl,?_⟩) hS ?_
 ·intro w' hSw;(try dsimp only at hSw);go_simp
 change wpAnyH _ _ _ _ _ _ _ (Act.put _ (some 24) _) _
 simp only [Act.put,List.setIfInBounds_toArray,List.set_cons_zero,List.set_cons_succ]
 refine wpAnyH_inv (JJC t w.heap.size ((w.alloc (rdObj t (.map none) (.map none))).alloc (.cells #[.pointer (some ⟨w.heap.size,0,none⟩)] 182))) (fun l a w' h=>by rw [h.1];rfl) (fun l a w' h=>?hSS) (fun l a w' i h hi=>?hstep) (fun l a w' h hr=>?hdone) _ _ _ _ (by decide) ?hinit
 case hSS=>
  obtain ⟨_,_,_,_,_,_,_,_,_,_,J⟩:=h
  exact cell_mod (blk_cell (blk_newAt (by simp)) 0) J.mod (by omega)
 case hinit=>
  refine ⟨rfl,by decide,undef,undef,undef,undef,undef,undef,undef,rfl,?_⟩
  exact ⟨by simp;omega,(Mod.refl _ _).drew,blk_alloc (blk_new _ _),fun h=>absurd h (by decide),fun h=>absurd h (by decide),fun h=>absurd h (by decide),fun h=>absurd h (by decide),fun h=>absurd h (by decide),fun h=>absurd h (by decide),fun h=>absurd h (by decide),fun h=>absurd h (by decide),fun h=>absurd h (by decide),fun h=>absurd h (by decide),fun h=>absurd h (by decide),fun h=>absurd h (by decide),fun h=>absurd h (by decide),fun h=>absurd h (by decide),fun h=>absurd h (by decide),fun h=>absurd h (by decide),fun h=>absurd h (by decide),fun h=>absurd h (by decide),fun h=>absurd h (by decide)⟩
 case hdone=>
  obtain ⟨hl,htk,u8,u16,u18,u20,u25,u26,u27,rfl,J⟩:=h
  have hal:=ready_nil_all hl (by kernel_rfl) hr
  obtain ⟨m,p1,k1,p2,k2,p3,k3,hrd,hcm,hmod,hWm⟩:=J.done hal
  clear J hal hr htk hl hS
  unfold tmC
  go_wp2_with fail
  have hpr:PrAt w' (w.heap.size+1) w.heap.size:=⟨cell_mod (blk_cell (blk_newAt (by simp)) 0) hmod (by omega),by omega⟩
  have hbW:=blk_lt hrd
  have HRD:=hide hrd
  have HCM:=hide hcm
  have HMOD:=hide hmod
  have HPR:=hide hpr
  clear hrd hcm hmod hpr
  refine wp_region_held (S:=fun w2=>w2.cell? ⟨w.heap.size+1,0,none⟩=some (.pointer (some ⟨w.heap.size,0,none⟩))) (by kernel_rfl) ?_
  have hS:({ w' with drawn:=w'.drawn+1 }:World).cell? ⟨w.heap.size+1,0,none⟩=some (.pointer (some ⟨w.heap.size,0,none⟩)):=HPR.out.1
  refine wpAnyH_take (i:=0) (v:=.pointer (some ⟨w.heap.size,0,none⟩)) rfl (by kernel_rfl) (by kernel_rfl) (by kernel_rfl) (fun _ _ _ h=>h) (Or.inl ⟨by rfl,?_⟩) hS ?_
  ·intro w' hSw;(try dsimp only at hSw);go_simp
  change wpAnyH _ _ _ _ _ _ _ (Act.put _ (some 28) _) _
  simp only [Act.put,List.setIfInBounds_toArray,List.set_cons_zero,List.set_cons_succ]
  refine wpAnyH_take (i:=6) (v:=.pointer (some ⟨w.heap.size,0,none⟩)) rfl (by kernel_rfl) (by kernel_rfl) (by kernel_rfl) (fun _ _ _ h=>h) (Or.inl ⟨by rfl,?_⟩) hS ?_
  ·intro w' hSw;(try dsimp only at hSw);go_simp
  change wpAnyH _ _ _ _ _ _ _ (Act.put _ (some 32) _) _
  simp only [Act.put,List.setIfInBounds_toArray,List.set_cons_zero,List.set_cons_succ]
  refine wpAnyH_take (i:=7) (v:=.func (.func 159) #[.pointer (some ⟨w.heap.size,0,none⟩)] #[]) rfl (by kernel_rfl) (by kernel_rfl) (by kernel_rfl) (fun _ _ _ h=>h) (Or.inl ⟨by rfl,?_⟩) hS ?_
  ·intro w' hSw;(try dsimp only at hSw);go_simp
  change wpAnyH _ _ _ _ _ _ _ (Act.put _ (some 33) _) _
  simp only [Act.put,List.setIfInBounds_toArray,List.set_cons_zero,List.set_cons_succ]
  refine wpAnyH_take (i:=9) (v:=.func (.func 160) #[] #[.pointer (some ⟨w.heap.size+1,0,none⟩)]) rfl (by kernel_rfl) (by kernel_rfl) (by kernel_rfl) (fun _ _ _ h=>h) (Or.inl ⟨by rfl,?_⟩) hS ?_
  ·intro w' hSw;(try dsimp only at hSw);go_simp
  change wpAnyH _ _ _ _ _ _ _ (Act.put _ (some 34) _) _
  simp only [Act.put,List.setIfInBounds_toArray,List.set_cons_zero,List.set_cons_succ]
  refine wpAnyH_take (i:=11) (v:=.func (.func 162) #[] #[.pointer (some ⟨w.heap.size+1,0,none⟩)]) rfl (by kernel_rfl) (by kernel_rfl) (by kernel_rfl) (fun _ _ _ h=>h) (Or.inl ⟨by rfl,?_⟩) hS ?_
  ·intro w' hSw;(try dsimp only at hSw);go_simp
  change wpAnyH _ _ _ _ _ _ _ (Act.put _ (some 35) _) _
  simp only [Act.put,List.setIfInBounds_toArray,List.set_cons_zero,List.set_cons_succ]
  refine wpAnyH_take (i:=13) (v:=.func (.func 163) #[] #[.pointer (some ⟨w.heap.size+1,0,none⟩)]) rfl (by kernel_rfl) (by kernel_rfl) (by kernel_rfl) (fun _ _ _ h=>h) (Or.inl ⟨by rfl,?_⟩) hS ?_
  ·intro w' hSw;(try dsimp only at hSw);go_simp
  change wpAnyH _ _ _ _ _ _ _ (Act.put _ (some 36) _) _
  simp only [Act.put,List.setIfInBounds_toArray,List.set_cons_zero,List.set_cons_succ]
  refine wpAnyH_take (i:=15) (v:=.func (.func 166) #[] #[.pointer (some ⟨w.heap.size+1,0,none⟩)]) rfl (by kernel_rfl) (by kernel_rfl) (by kernel_rfl) (fun _ _ _ h=>h) (Or.inl ⟨by rfl,?_⟩) hS ?_
  ·intro w' hSw;(try dsimp only at hSw);go_simp
  change wpAnyH _ _ _ _ _ _ _ (Act.put _ (some 37) _) _
  simp only [Act.put,List.setIfInBounds_toArray,List.set_cons_zero,List.set_cons_succ]
  refine wpAnyH_take (i:=17) (v:=.func (.func 169) #[] #[.pointer (some ⟨w.heap.size+1,0,none⟩)]) rfl (by kernel_rfl) (by kernel_rfl) (by kernel_rfl) (fun _ _ _ h=>h) (Or.inl ⟨by rfl,?_⟩) hS ?_
  ·intro w' hSw;(try dsimp only at hSw);go_simp
  change wpAnyH _ _ _ _ _ _ _ (Act.put _ (some 38) _) _
  simp only [Act.put,List.setIfInBounds_toArray,List.set_cons_zero,List.set_cons_succ]
  refine wpAnyH_take (i:=19) (v:=.pointer (some ⟨w.heap.size,0,none⟩)) rfl (by kernel_rfl) (by kernel_rfl) (by kernel_rfl) (fun _ _ _ h=>h) (Or.inl ⟨by rfl,?_⟩) hS ?_
  ·intro w' hSw;(try dsimp only at hSw);go_simp
  change wpAnyH _ _ _ _ _ _ _ (Act.put _ (some 39) _) _
  simp only [Act.put,List.setIfInBounds_toArray,List.set_cons_zero,List.set_cons_succ]
  refine wpAnyH_take (i:=20) (v:=.func (.func 170) #[.pointer (some ⟨w.heap.size,0,none⟩)] #[]) rfl (by kernel_rfl) (by kernel_rfl) (by kernel_rfl) (fun _ _ _ h=>h) (Or.inl ⟨by rfl,?_⟩) hS ?_
  ·intro w' hSw;(try dsimp only at hSw);go_simp
  change wpAnyH _ _ _ _ _ _ _ (Act.put _ (some 40) _) _
  simp only [Act.put,List.setIfInBounds_toArray,List.set_cons_zero,List.set_cons_succ]
  refine wpAnyH_take (i:=22) (v:=.pointer (some ⟨w.heap.size,0,none⟩)) rfl (by kernel_rfl) (by kernel_rfl) (by kernel_rfl) (fun _ _ _ h=>h) (Or.inl ⟨by rfl,?_⟩) hS ?_
  ·intro w' hSw;(try dsimp only at hSw);go_simp
  change wpAnyH _ _ _ _ _ _ _ (Act.put _ (some 41) _) _
  simp only [Act.put,List.setIfInBounds_toArray,List.set_cons_zero,List.set_cons_succ]
  refine wpAnyH_take (i:=23) (v:=.func (.func 171) #[.pointer (some ⟨w.heap.size,0,none⟩)] #[]) rfl (by kernel_rfl) (by kernel_rfl) (by kernel_rfl) (fun _ _ _ h=>h) (Or.inl ⟨by rfl,?_⟩) hS ?_
  ·intro w' hSw;(try dsimp only at hSw);go_simp
  change wpAnyH _ _ _ _ _ _ _ (Act.put _ (some 42) _) _
  simp only [Act.put,List.setIfInBounds_toArray,List.set_cons_zero,List.set_cons_succ]
  refine wpAnyH_inv (JJT t w.heap.size w' (.map (some m)) u8 u16 u18 u20 u25 u26 u27) (fun l a w' h=>by rw [h.1];rfl) (fun l a w' h=>?hSS2) (fun l a w2 i h hi=>?hstep2) (fun l a w2 h hr=>?hdone2) _ _ _ _ (by decide) ?hinit2
  case hSS2=>
   obtain ⟨_,_,_,_,_,_,_,_,_,J⟩:=h
   exact cell_mod HPR.out.1 J.mod (by omega)
  case hinit2=>
   refine ⟨rfl,by decide,undef,undef,undef,undef,undef,undef,rfl,?_⟩
   exact ⟨hbW,(Mod.refl _ _).drew,HRD.out,fun h=>absurd h (by decide),fun h=>absurd h (by decide),fun h=>absurd h (by decide),fun h=>absurd h (by decide),fun h=>absurd h (by decide),fun h=>absurd h (by decide),fun h=>absurd h (by decide),fun h=>absurd h (by decide),fun h=>absurd h (by decide),fun h=>absurd h (by decide),fun h=>absurd h (by decide),fun h=>absurd h (by decide),fun h=>absurd h (by decide),fun h=>absurd h (by decide),fun h=>absurd h (by decide),fun h=>absurd h (by decide),fun h=>absurd h (by decide),fun h=>absurd h (by decide),fun h=>absurd h (by decide)⟩
  case hdone2=>
   obtain ⟨hl,htk,u29,u30,u31,u43,u44,u45,rfl,J⟩:=h
   have hal:=ready_nil_all hl (by kernel_rfl) hr
   obtain ⟨mt,pt,pf,hrd,htm,hmod,_⟩:=J.done hal HPR.out
   have hc0:=(HPR.out.mod hmod).1
   have HFIN:Hid (NRPost t w (.returned (.pointer (some ⟨w.heap.size,0,none⟩))) w2):=by
    have hbl:=below_of_mod (HMOD.out.trans hmod)
    obtain ⟨mm,hmm⟩:=hm1
    have h1lt:=cell_lt hmm
    exact ⟨m,mt,w.heap.size+1,pt,pf,p1,k1,p2,k2,p3,k3,rfl,⟨hrd,Nat.zero_le _,⟨mm,by rw [hbl.cell (p:=⟨1,0,none⟩) h1lt];exact hmm⟩,h1lt,ht,⟨Nat.zero_le _,by decide⟩,fun _=>rfl,fun _ c r e=>by cases e⟩,htm,HCM.out.mod hmod,hbl⟩
   clear J hal hr htk hl hS hrd htm hmod
   unfold tmT
   go_wp2
   go_ret
   exact HFIN.out
  case hstep2=>
   obtain ⟨hl,htk,u29,u30,u31,u43,u44,u45,rfl,J⟩:=h
   obtain ⟨h0,o,ho,hall⟩:=mem_ready.1 hi
   have hi30:i < 29:=(Array.getElem?_eq_some_iff.1 ho).1
   have h0':l.getD i false=false:=by
    have:i < l.size:=by omega
    simp [this] at h0 ⊢
    exact h0
   clear h0
   rcases (by omega:i=0∨i=1∨i=2∨i=3∨i=4∨i=5∨i=6∨i=7∨i=8∨i=9∨i=10∨i=11∨i=12∨i=13∨i=14∨i=15∨i=16∨i=17∨i=18∨i=19∨i=20∨i=21∨i=22∨i=23∨i=24∨i=25∨i=26∨i=27∨i=28) with hh | hh | hh | hh | hh | hh | hh | hh | hh | hh | hh | hh | hh | hh | hh | hh | hh | hh | hh | hh | hh | hh | hh | hh | hh | hh | hh | hh | hh <;> subst hh
   ·rw [htk 0 (by decide)] at h0';cases h0'
   ·clear ho hall hi
    refine wpOp_of rfl (by rfl) ?_
    unfold tmT
    go_simp
    exact JJT.next hl htk (by decide) (J.s1 h0')
   ·clear ho hall hi
    refine wpOp_of rfl (by rfl) ?_
    unfold tmT
    go_simp
    refine (truth_any true _).mono ?_
    rintro e w3 ⟨rfl,rfl⟩
    exact JJT.next hl htk (by decide) (J.s2 h0')
   ·have ho2:=Option.some.inj (show some _=some o from ho)
    subst ho2
    have h1:=hall { on:=1,ground:=.data } (by simp) rfl
    have h2:=hall { on:=2,ground:=.data } (by simp) rfl
    clear ho hall hi
    obtain ⟨m2,es,c,rfl,hm,hf,hn,J'⟩:=J.s3 h0' h1 h2
    have hrun:(Instr.mapUpdate 258 (.map (some m2)) (.string ⟨#[116,114,117,101]⟩) (u30)).run Tryz.prog w2=.ok () _:=run_insert_new Tryz.underlying258 Tryz.underlying9 hm hf hn _
    refine wpOp_of rfl (by rfl) ?_
    unfold tmT
    go_simp
    exact JJT.next hl htk (by decide) J'
   ·clear ho hall hi
    refine wpOp_of rfl (by rfl) ?_
    unfold tmT
    go_simp
    refine (truth_any false _).mono ?_
    rintro e w3 ⟨rfl,rfl⟩
    exact JJT.next hl htk (by decide) (J.s4 h0')
   ·have ho2:=Option.some.inj (show some _=some o from ho)
    subst ho2
    have h1:=hall { on:=1,ground:=.data } (by simp) rfl
    have h2:=hall { on:=4,ground:=.data } (by simp) rfl
    clear ho hall hi
    obtain ⟨m2,es,c,rfl,hm,hf,hn,J'⟩:=J.s5 h0' h1 h2
    have hrun:(Instr.mapUpdate 258 (.map (some m2)) (.string ⟨#[102,97,108,115,101]⟩) (u31)).run Tryz.prog w2=.ok () _:=run_insert_new Tryz.underlying258 Tryz.underlying9 hm hf hn _
    refine wpOp_of rfl (by rfl) ?_
    unfold tmT
    go_simp
    exact JJT.next hl htk (by decide) J'
   ·rw [htk 6 (by decide)] at h0';cases h0'
   ·rw [htk 7 (by decide)] at h0';cases h0'
   ·have ho2:=Option.some.inj (show some _=some o from ho)
    subst ho2
    have h1:=hall { on:=1,ground:=.data } (by simp) rfl
    clear ho hall hi
    obtain ⟨m2,es,c,rfl,hm,hf,hn,J'⟩:=J.s8 h0' h1
    have hrun:(Instr.mapUpdate 258 (.map (some m2)) (.string ⟨#[110,111,116]⟩) (.func (.func 159) #[.pointer (some ⟨w.heap.size,0,none⟩)] #[])).run Tryz.prog w2=.ok () _:=run_insert_new Tryz.underlying258 Tryz.underlying9 hm hf hn _
    refine wpOp_of rfl (by rfl) ?_
    unfold tmT
    go_simp
    exact JJT.next hl htk (by decide) J'
   ·rw [htk 9 (by decide)] at h0';cases h0'
   ·have ho2:=Option.some.inj (show some _=some o from ho)
    subst ho2
    have h1:=hall { on:=1,ground:=.data } (by simp) rfl
    clear ho hall hi
    obtain ⟨m2,es,c,rfl,hm,hf,hn,J'⟩:=J.s10 h0' h1
    have hrun:(Instr.mapUpdate 258 (.map (some m2)) (.string ⟨#[97,108,108,111,102]⟩) (.func (.func 160) #[] #[.pointer (some ⟨w.heap.size+1,0,none⟩)])).run Tryz.prog w2=.ok () _:=run_insert_new Tryz.underlying258 Tryz.underlying9 hm hf hn _
    refine wpOp_of rfl (by rfl) ?_
    unfold tmT
    go_simp
    exact JJT.next hl htk (by decide) J'
   ·rw [htk 11 (by decide)] at h0';cases h0'
   ·have ho2:=Option.some.inj (show some _=some o from ho)
    subst ho2
    have h1:=hall { on:=1,ground:=.data } (by simp) rfl
    clear ho hall hi
    obtain ⟨m2,es,c,rfl,hm,hf,hn,J'⟩:=J.s12 h0' h1
    have hrun:(Instr.mapUpdate 258 (.map (some m2)) (.string ⟨#[97,110,121,111,102]⟩) (.func (.func 162) #[] #[.pointer (some ⟨w.heap.size+1,0,none⟩)])).run Tryz.prog w2=.ok () _:=run_insert_new Tryz.underlying258 Tryz.underlying9 hm hf hn _
    refine wpOp_of rfl (by rfl) ?_
    unfold tmT
    go_simp
    exact JJT.next hl htk (by decide) J'
   ·rw [htk 13 (by decide)] at h0';cases h0'
   ·have ho2:=Option.some.inj (show some _=some o from ho)
    subst ho2
    have h1:=hall { on:=1,ground:=.data } (by simp) rfl
    clear ho hall hi
    obtain ⟨m2,es,c,rfl,hm,hf,hn,J'⟩:=J.s14 h0' h1
    have hrun:(Instr.mapUpdate 258 (.map (some m2)) (.string ⟨#[104,101,97,100,101,114]⟩) (.func (.func 163) #[] #[.pointer (some ⟨w.heap.size+1,0,none⟩)])).run Tryz.prog w2=.ok () _:=run_insert_new Tryz.underlying258 Tryz.underlying9 hm hf hn _
    refine wpOp_of rfl (by rfl) ?_
    unfold tmT
    go_simp
    exact JJT.next hl htk (by decide) J'
   ·rw [htk 15 (by decide)] at h0';cases h0'
   ·have ho2:=Option.some.inj (show some _=some o from ho)
    subst ho2
    have h1:=hall { on:=1,ground:=.data } (by simp) rfl
    clear ho hall hi
    obtain ⟨m2,es,c,rfl,hm,hf,hn,J'⟩:=J.s16 h0' h1
    have hrun:(Instr.mapUpdate 258 (.map (some m2)) (.string ⟨#[101,110,118,101,108,111,112,101]⟩) (.func (.func 166) #[] #[.pointer (some ⟨w.heap.size+1,0,none⟩)])).run Tryz.prog w2=.ok () _:=run_insert_new Tryz.underlying258 Tryz.underlying9 hm hf hn _
    refine wpOp_of rfl (by rfl) ?_
    unfold tmT
    go_simp
    exact JJT.next hl htk (by decide) J'
   ·rw [htk 17 (by decide)] at h0';cases h0'
   ·have ho2:=Option.some.inj (show some _=some o from ho)
    subst ho2
    have h1:=hall { on:=1,ground:=.data } (by simp) rfl
    clear ho hall hi
    obtain ⟨m2,es,c,rfl,hm,hf,hn,J'⟩:=J.s18 h0' h1
    have hrun:(Instr.mapUpdate 258 (.map (some m2)) (.string ⟨#[115,116,114,105,110,103]⟩) (.func (.func 169) #[] #[.pointer (some ⟨w.heap.size+1,0,none⟩)])).run Tryz.prog w2=.ok () _:=run_insert_new Tryz.underlying258 Tryz.underlying9 hm hf hn _
    refine wpOp_of rfl (by rfl) ?_
    unfold tmT
    go_simp
    exact JJT.next hl htk (by decide) J'
   ·rw [htk 19 (by decide)] at h0';cases h0'
   ·rw [htk 20 (by decide)] at h0';cases h0'
   ·have ho2:=Option.some.inj (show some _=some o from ho)
    subst ho2
    have h1:=hall { on:=1,ground:=.data } (by simp) rfl
    clear ho hall hi
    obtain ⟨m2,es,c,rfl,hm,hf,hn,J'⟩:=J.s21 h0' h1
    have hrun:(Instr.mapUpdate 258 (.map (some m2)) (.string ⟨#[101,120,105,115,116,115]⟩) (.func (.func 170) #[.pointer (some ⟨w.heap.size,0,none⟩)] #[])).run Tryz.prog w2=.ok () _:=run_insert_new Tryz.underlying258 Tryz.underlying9 hm hf hn _
    refine wpOp_of rfl (by rfl) ?_
    unfold tmT
    go_simp
    exact JJT.next hl htk (by decide) J'
   ·rw [htk 22 (by decide)] at h0';cases h0'
   ·rw [htk 23 (by decide)] at h0';cases h0'
   ·have ho2:=Option.some.inj (show some _=some o from ho)
    subst ho2
    have h1:=hall { on:=1,ground:=.data } (by simp) rfl
    clear ho hall hi
    obtain ⟨m2,es,c,rfl,hm,hf,hn,J'⟩:=J.s24 h0' h1
    have hrun:(Instr.mapUpdate 258 (.map (some m2)) (.string ⟨#[115,105,122,101]⟩) (.func (.func 171) #[.pointer (some ⟨w.heap.size,0,none⟩)] #[])).run Tryz.prog w2=.ok () _:=run_insert_new Tryz.underlying258 Tryz.underlying9 hm hf hn _
    refine wpOp_of rfl (by rfl) ?_
    unfold tmT
    go_simp
    exact JJT.next hl htk (by decide) J'
   ·have ho2:=Option.some.inj (show some _=some o from ho)
    subst ho2
    have h1:=hall { on:=1,ground:=.data } (by simp) rfl
    have hi3:=hall { on:=3,ground:=.data } (by simp) rfl
    have hi5:=hall { on:=5,ground:=.data } (by simp) rfl
    have hi8:=hall { on:=8,ground:=.data } (by simp) rfl
    have hi10:=hall { on:=10,ground:=.data } (by simp) rfl
    have hi12:=hall { on:=12,ground:=.data } (by simp) rfl
    have hi14:=hall { on:=14,ground:=.data } (by simp) rfl
    have hi16:=hall { on:=16,ground:=.data } (by simp) rfl
    have hi18:=hall { on:=18,ground:=.data } (by simp) rfl
    have hi21:=hall { on:=21,ground:=.data } (by simp) rfl
    have hi24:=hall { on:=24,ground:=.data } (by simp) rfl
    clear ho hall hi
    refine wpOp_of rfl (by rfl) ?_
    unfold tmT
    go_simp
    exact JJT.next hl htk (by decide) (J.s25 h0' h1 hi3 hi5 hi8 hi10 hi12 hi14 hi16 hi18 hi21 hi24)
   ·clear ho hall hi
    refine wpOp_of rfl (by rfl) ?_
    unfold tmT
    go_simp
    exact JJT.next hl htk (by decide) (J.s26 h0')
   ·have ho2:=Option.some.inj (show some _=some o from ho)
    subst ho2
    have h1:=hall { on:=26,ground:=.data } (by simp) rfl
    obtain rfl:=J.m26 h1
    clear ho hall hi
    refine wpOp_of rfl (by rfl) ?_
    unfold tmT
    go_simp
    exact JJT.next hl htk (by decide) (J.s27 h0')
   ·have ho2:=Option.some.inj (show some _=some o from ho)
    subst ho2
    have h27:=hall { on:=27,ground:=.data } (by simp) rfl
    have h25:=hall { on:=25,ground:=.data } (by simp) rfl
    obtain rfl:=J.m27 h27
    obtain ⟨rfl,h1,_⟩:=J.m25 h25
    obtain ⟨m2,es,c,rfl,_,_,_⟩:=J.mp h1
    clear ho hall hi
    have hr:=J.rd
    unfold rdObj at hr
    have hc9:w2.cell? ⟨w.heap.size,9,none⟩=some _:=blk_cell hr 9
    rw [show (l.getD 28 false)=false from h0'] at hc9
    have hfz:=blk_frozen hr
    refine wpOp_of rfl (by rfl) ?_
    unfold tmT
    go_simp
    exact JJT.next hl htk (by decide) (J.s28 h0' h25)
 case hstep=>
  obtain ⟨hl,htk,u8,u16,u18,u20,u25,u26,u27,rfl,J⟩:=h
  obtain ⟨h0,o,ho,hall⟩:=mem_ready.1 hi
  have hi30:i < 30:=(Array.getElem?_eq_some_iff.1 ho).1
  have h0':l.getD i false=false:=by
   have:i < l.size:=by omega
   simp [this] at h0 ⊢
   exact h0
  clear h0
  rcases (by omega:i=0∨i=1∨i=2∨i=3∨i=4∨i=5∨i=6∨i=7∨i=8∨i=9∨i=10∨i=11∨i=12∨i=13∨i=14∨i=15∨i=16∨i=17∨i=18∨i=19∨i=20∨i=21∨i=22∨i=23∨i=24∨i=25∨i=26∨i=27∨i=28∨i=29) with hh | hh | hh | hh | hh | hh | hh | hh | hh | hh | hh | hh | hh | hh | hh | hh | hh | hh | hh | hh | hh | hh | hh | hh | hh | hh | hh | hh | hh | hh <;> subst hh
  ·rw [htk 0 (by decide)] at h0';cases h0'
  ·clear ho hall hi
   refine wpOp_of rfl (by rfl) ?_
   unfold tmC
   go_simp
   exact JJC.next hl htk (by decide) (J.s1 h0')
  ·rw [htk 2 (by decide)] at h0';cases h0'
  ·rw [htk 3 (by decide)] at h0';cases h0'
  ·have ho2:=Option.some.inj (show some _=some o from ho)
   subst ho2
   have h1:=hall { on:=1,ground:=.data } (by simp) rfl
   clear ho hall hi
   obtain ⟨m,es,c,rfl,hm,hf,hn,J'⟩:=J.s4 h0' h1
   have hrun:(Instr.mapUpdate 257 (.map (some m)) (.string ⟨#[107,101,101,112]⟩) (.func (.func 152) #[.pointer (some ⟨w.heap.size,0,none⟩)] #[])).run Tryz.prog w'=.ok () _:=run_insert_new Tryz.underlying257 Tryz.underlying9 hm hf hn _
   refine wpOp_of rfl (by rfl) ?_
   unfold tmC
   go_simp
   exact JJC.next hl htk (by decide) J'
  ·rw [htk 5 (by decide)] at h0';cases h0'
  ·rw [htk 6 (by decide)] at h0';cases h0'
  ·have ho2:=Option.some.inj (show some _=some o from ho)
   subst ho2
   have h1:=hall { on:=1,ground:=.data } (by simp) rfl
   clear ho hall hi
   obtain ⟨m,es,c,rfl,hm,hf,hn,J'⟩:=J.s7 h0' h1
   have hrun:(Instr.mapUpdate 257 (.map (some m)) (.string ⟨#[100,105,115,99,97,114,100]⟩) (.func (.func 153) #[.pointer (some ⟨w.heap.size,0,none⟩)] #[])).run Tryz.prog w'=.ok () _:=run_insert_new Tryz.underlying257 Tryz.underlying9 hm hf hn _
   refine wpOp_of rfl (by rfl) ?_
   unfold tmC
   go_simp
   exact JJC.next hl htk (by decide) J'
  ·rw [htk 8 (by decide)] at h0';cases h0'
  ·rw [htk 9 (by decide)] at h0';cases h0'
  ·have ho2:=Option.some.inj (show some _=some o from ho)
   subst ho2
   have h1:=hall { on:=1,ground:=.data } (by simp) rfl
   clear ho hall hi
   obtain ⟨m,es,c,rfl,hm,hf,hn,J'⟩:=J.s10 h0' h1
   have hrun:(Instr.mapUpdate 257 (.map (some m)) (.string ⟨#[115,116,111,112]⟩) (.func (.func 154) #[.pointer (some ⟨w.heap.size,0,none⟩)] #[])).run Tryz.prog w'=.ok () _:=run_insert_new Tryz.underlying257 Tryz.underlying9 hm hf hn _
   refine wpOp_of rfl (by rfl) ?_
   unfold tmC
   go_simp
   exact JJC.next hl htk (by decide) J'
  ·rw [htk 11 (by decide)] at h0';cases h0'
  ·clear ho hall hi
   refine wpOp_of rfl (by rfl) ?_
   unfold tmC
   go_simp
   refine (act_any _ w.heap.size 2 _ rfl).mono ?_
   rintro e w2 ⟨rfl,rfl⟩
   exact JJC.next hl htk (by decide) (J.s12 h0')
  ·have ho2:=Option.some.inj (show some _=some o from ho)
   subst ho2
   have h1:=hall { on:=1,ground:=.data } (by simp) rfl
   have h2:=hall { on:=12,ground:=.data } (by simp) rfl
   clear ho hall hi
   obtain ⟨m,es,c,rfl,hm,hf,hn,J'⟩:=J.s13 h0' h1 h2
   have hrun:(Instr.mapUpdate 257 (.map (some m)) (.string ⟨#[102,105,108,101,105,110,116,111]⟩) (u16)).run Tryz.prog w'=.ok () _:=run_insert_new Tryz.underlying257 Tryz.underlying9 hm hf hn _
   refine wpOp_of rfl (by rfl) ?_
   unfold tmC
   go_simp
   exact JJC.next hl htk (by decide) J'
  ·rw [htk 14 (by decide)] at h0';cases h0'
  ·clear ho hall hi
   refine wpOp_of rfl (by rfl) ?_
   unfold tmC
   go_simp
   refine (act_any _ w.heap.size 3 _ rfl).mono ?_
   rintro e w2 ⟨rfl,rfl⟩
   exact JJC.next hl htk (by decide) (J.s15 h0')
  ·have ho2:=Option.some.inj (show some _=some o from ho)
   subst ho2
   have h1:=hall { on:=1,ground:=.data } (by simp) rfl
   have h2:=hall { on:=15,ground:=.data } (by simp) rfl
   clear ho hall hi
   obtain ⟨m,es,c,rfl,hm,hf,hn,J'⟩:=J.s16 h0' h1 h2
   have hrun:(Instr.mapUpdate 257 (.map (some m)) (.string ⟨#[114,101,100,105,114,101,99,116]⟩) (u18)).run Tryz.prog w'=.ok () _:=run_insert_new Tryz.underlying257 Tryz.underlying9 hm hf hn _
   refine wpOp_of rfl (by rfl) ?_
   unfold tmC
   go_simp
   exact JJC.next hl htk (by decide) J'
  ·rw [htk 17 (by decide)] at h0';cases h0'
  ·clear ho hall hi
   refine wpOp_of rfl (by rfl) ?_
   unfold tmC
   go_simp
   refine (act_any _ w.heap.size 4 _ rfl).mono ?_
   rintro e w2 ⟨rfl,rfl⟩
   exact JJC.next hl htk (by decide) (J.s18 h0')
  ·have ho2:=Option.some.inj (show some _=some o from ho)
   subst ho2
   have h1:=hall { on:=1,ground:=.data } (by simp) rfl
   have h2:=hall { on:=18,ground:=.data } (by simp) rfl
   clear ho hall hi
   obtain ⟨m,es,c,rfl,hm,hf,hn,J'⟩:=J.s19 h0' h1 h2
   have hrun:(Instr.mapUpdate 257 (.map (some m)) (.string ⟨#[114,101,106,101,99,116]⟩) (u20)).run Tryz.prog w'=.ok () _:=run_insert_new Tryz.underlying257 Tryz.underlying9 hm hf hn _
   refine wpOp_of rfl (by rfl) ?_
   unfold tmC
   go_simp
   exact JJC.next hl htk (by decide) J'
  ·rw [htk 20 (by decide)] at h0';cases h0'
  ·rw [htk 21 (by decide)] at h0';cases h0'
  ·have ho2:=Option.some.inj (show some _=some o from ho)
   subst ho2
   have h1:=hall { on:=1,ground:=.data } (by simp) rfl
   clear ho hall hi
   obtain ⟨m,es,c,rfl,hm,hf,hn,J'⟩:=J.s22 h0' h1
   have hrun:(Instr.mapUpdate 257 (.map (some m)) (.string ⟨#[115,101,116]⟩) (.func (.func 156) #[.pointer (some ⟨w.heap.size,0,none⟩)] #[])).run Tryz.prog w'=.ok () _:=run_insert_new Tryz.underlying257 Tryz.underlying9 hm hf hn _
   refine wpOp_of rfl (by rfl) ?_
   unfold tmC
   go_simp
   exact JJC.next hl htk (by decide) J'
  ·rw [htk 23 (by decide)] at h0';cases h0'
  ·rw [htk 24 (by decide)] at h0';cases h0'
  ·have ho2:=Option.some.inj (show some _=some o from ho)
   subst ho2
   have h1:=hall { on:=1,ground:=.data } (by simp) rfl
   clear ho hall hi
   obtain ⟨m,es,c,rfl,hm,hf,hn,J'⟩:=J.s25 h0' h1
   have hrun:(Instr.mapUpdate 257 (.map (some m)) (.string ⟨#[105,102]⟩) (.func (.func 157) #[.pointer (some ⟨w.heap.size,0,none⟩)] #[])).run Tryz.prog w'=.ok () _:=run_insert_new Tryz.underlying257 Tryz.underlying9 hm hf hn _
   refine wpOp_of rfl (by rfl) ?_
   unfold tmC
   go_simp
   exact JJC.next hl htk (by decide) J'
  ·have ho2:=Option.some.inj (show some _=some o from ho)
   subst ho2
   have h1:=hall { on:=1,ground:=.data } (by simp) rfl
   have hi4:=hall { on:=4,ground:=.data } (by simp) rfl
   have hi7:=hall { on:=7,ground:=.data } (by simp) rfl
   have hi10:=hall { on:=10,ground:=.data } (by simp) rfl
   have hi13:=hall { on:=13,ground:=.data } (by simp) rfl
   have hi16:=hall { on:=16,ground:=.data } (by simp) rfl
   have hi19:=hall { on:=19,ground:=.data } (by simp) rfl
   have hi22:=hall { on:=22,ground:=.data } (by simp) rfl
   have hi25:=hall { on:=25,ground:=.data } (by simp) rfl
   clear ho hall hi
   refine wpOp_of rfl (by rfl) ?_
   unfold tmC
   go_simp
   exact JJC.next hl htk (by decide) (J.s26 h0' h1 hi4 hi7 hi10 hi13 hi16 hi19 hi22 hi25)
  ·clear ho hall hi
   refine wpOp_of rfl (by rfl) ?_
   unfold tmC
   go_simp
   exact JJC.next hl htk (by decide) (J.s27 h0')
  ·have ho2:=Option.some.inj (show some _=some o from ho)
   subst ho2
   have h1:=hall { on:=27,ground:=.data } (by simp) rfl
   obtain rfl:=J.m27 h1
   clear ho hall hi
   refine wpOp_of rfl (by rfl) ?_
   unfold tmC
   go_simp
   exact JJC.next hl htk (by decide) (J.s28 h0')
  ·have ho2:=Option.some.inj (show some _=some o from ho)
   subst ho2
   have h28:=hall { on:=28,ground:=.data } (by simp) rfl
   have h26:=hall { on:=26,ground:=.data } (by simp) rfl
   obtain rfl:=J.m28 h28
   obtain ⟨rfl,h1,_⟩:=J.m26 h26
   obtain ⟨m,es,c,rfl,_,_,_⟩:=J.mp h1
   clear ho hall hi
   have hr:=J.rd
   unfold rdObj at hr
   have hc8:w'.cell? ⟨w.heap.size,8,none⟩=some _:=blk_cell hr 8
   rw [show (l.getD 29 false)=false from h0'] at hc8
   have hfz:=blk_frozen hr
   refine wpOp_of rfl (by rfl) ?_
   unfold tmC
   go_simp
   exact JJC.next hl htk (by decide) (J.s29 h0' h26)
end Go.Proofs.YtbiclelojbfnbaaGreatDoor
