import Derived.Defers
import Derived.Recover
import Derived.Test.YtgnkjijocdmniaaGreatDoorZQLeaf
import Derived.Test.YtgnkjijocdmniaaGreatDoorZReaderT
namespace Go.Proofs.YtgnkjijocdmniaaGreatDoor
set_option linter.unusedVariables false
set_option linter.unusedSimpArgs false
set_option maxRecDepth 100000
set_option maxHeartbeats 4000000
section
open Go.RowKit
attribute [local go_sem ↓] Go.wp_at_zero Go.wp_at_succ
theorem getD_up {l:Array Bool} {i:Nat} (h:i < l.size):(fun j=>(l.setIfInBounds i true).getD j false)=up (fun j=>l.getD j false) i:=by
 funext j
 unfold up
 by_cases e:j=i
 ·subst e;simp [h]
 ·rw [if_neg e];exact getD_set_ne false (Ne.symm e)
def tmC (t:ByteArray) (b:Nat) (u8 u16 u18 u20 u25 u26 u27:Value):Act:=
 { tmps:=#[.string t,undef,.pointer none,.pointer (some ⟨b+1,0,none⟩),.string t,.agg #[.string t,.int .i64 0,.int .i64 0,.string ⟨#[]⟩,.string ⟨#[]⟩,.int .i64 0,.int .i64 0,.slice none 0 0,.map none,.map none],(.pointer (some ⟨b,0,none⟩)),(.pointer (some ⟨b,0,none⟩)),u8,(.pointer (some ⟨b,0,none⟩)),(.func (.func 121) #[.pointer (some ⟨b,0,none⟩)] #[]),(.pointer (some ⟨b,0,none⟩)),(.func (.func 122) #[.pointer (some ⟨b,0,none⟩)] #[]),(.pointer (some ⟨b,0,none⟩)),(.func (.func 123) #[.pointer (some ⟨b,0,none⟩)] #[]),(.pointer (some ⟨b,0,none⟩)),u16,(.pointer (some ⟨b,0,none⟩)),u18,(.pointer (some ⟨b,0,none⟩)),u20,(.pointer (some ⟨b,0,none⟩)),(.func (.func 125) #[.pointer (some ⟨b,0,none⟩)] #[]),(.pointer (some ⟨b,0,none⟩)),(.func (.func 126) #[.pointer (some ⟨b,0,none⟩)] #[]),u25,u26,u27,undef,undef,undef,undef,undef,undef,undef,undef,undef,undef,undef,undef,undef,undef,undef,undef,undef,undef,undef],defers:=[] }
def JJC (t:ByteArray) (b:Nat) (W:World) (l:Array Bool) (a:Act) (w:World):Prop:=
 l.size=30∧(∀ i∈[0,2,3,5,6,8,9,11,14,17,20,21,23,24],l.getD i false=true)∧∃ u8 u16 u18 u20 u25 u26 u27,a=tmC t b u8 u16 u18 u20 u25 u26 u27∧JC t b W (.map none) (fun j=>l.getD j false) u8 u16 u18 u20 u25 u26 u27 w
theorem JJC.next {t:ByteArray} {b:Nat} {W:World} {l:Array Bool} {i:Nat} {u8 u16 u18 u20 u25 u26 u27:Value} {w:World} (hl:l.size=30) (ht:∀ i∈[0,2,3,5,6,8,9,11,14,17,20,21,23,24],l.getD i false=true) (hi:i < 30) (J:JC t b W (.map none) (up (fun j=>l.getD j false) i) u8 u16 u18 u20 u25 u26 u27 w):JJC t b W (l.setIfInBounds i true) (tmC t b u8 u16 u18 u20 u25 u26 u27) w:=
 ⟨by simp [hl],fun k hk=>getD_set_true (ht k hk),u8,u16,u18,u20,u25,u26,u27,rfl,by rw [getD_up (by omega)];exact J⟩
def NRPost (t:ByteArray) (w:World) (e:Ending) (w':World):Prop:=∃ mc mt pr pt pf p1 k1 p2 k2 p3 k3,e=.returned (.pointer (some ⟨w.heap.size,0,none⟩))∧RC w' w.heap.size t ps0 (.slice none 0 0) mc mt∧TMap w' w.heap.size mt pr pt pf∧CMap w' w.heap.size mc p1 k1 p2 k2 p3 k3∧Below w.heap.size w w'
def tmT (t:ByteArray) (b:Nat) (u8 u16 u18 u20 u25 u26 u27 u29 u30 u31 u43 u44 u45:Value):Act:=
 { tmps:=#[.string t,undef,.pointer none,.pointer (some ⟨b+1,0,none⟩),.string t,.agg #[.string t,.int .i64 0,.int .i64 0,.string ⟨#[]⟩,.string ⟨#[]⟩,.int .i64 0,.int .i64 0,.slice none 0 0,.map none,.map none],(.pointer (some ⟨b,0,none⟩)),(.pointer (some ⟨b,0,none⟩)),u8,(.pointer (some ⟨b,0,none⟩)),(.func (.func 121) #[.pointer (some ⟨b,0,none⟩)] #[]),(.pointer (some ⟨b,0,none⟩)),(.func (.func 122) #[.pointer (some ⟨b,0,none⟩)] #[]),(.pointer (some ⟨b,0,none⟩)),(.func (.func 123) #[.pointer (some ⟨b,0,none⟩)] #[]),(.pointer (some ⟨b,0,none⟩)),u16,(.pointer (some ⟨b,0,none⟩)),u18,(.pointer (some ⟨b,0,none⟩)),u20,(.pointer (some ⟨b,0,none⟩)),(.func (.func 125) #[.pointer (some ⟨b,0,none⟩)] #[]),(.pointer (some ⟨b,0,none⟩)),(.func (.func 126) #[.pointer (some ⟨b,0,none⟩)] #[]),u25,u26,u27,(.pointer (some ⟨b,0,none⟩)),u29,u30,u31,(.pointer (some ⟨b,0,none⟩)),(.func (.func 128) #[.pointer (some ⟨b,0,none⟩)] #[]),(.func (.func 129) #[] #[.pointer (some ⟨b+1,0,none⟩)]),(.func (.func 131) #[] #[.pointer (some ⟨b+1,0,none⟩)]),(.func (.func 132) #[] #[.pointer (some ⟨b+1,0,none⟩)]),(.func (.func 135) #[] #[.pointer (some ⟨b+1,0,none⟩)]),(.func (.func 138) #[] #[.pointer (some ⟨b+1,0,none⟩)]),(.pointer (some ⟨b,0,none⟩)),(.func (.func 139) #[.pointer (some ⟨b,0,none⟩)] #[]),(.pointer (some ⟨b,0,none⟩)),(.func (.func 140) #[.pointer (some ⟨b,0,none⟩)] #[]),u43,u44,u45,undef],defers:=[] }
def JJT (t:ByteArray) (b:Nat) (W:World) (mv1:Value) (u8 u16 u18 u20 u25 u26 u27:Value) (l:Array Bool) (a:Act) (w:World):Prop:=
 l.size=29∧(∀ i∈[0,6,7,9,11,13,15,17,19,20,22,23],l.getD i false=true)∧∃ u29 u30 u31 u43 u44 u45,a=tmT t b u8 u16 u18 u20 u25 u26 u27 u29 u30 u31 u43 u44 u45∧JT t b W mv1 (fun j=>l.getD j false) u29 u30 u31 u43 u44 u45 w
theorem JJT.next {t:ByteArray} {b:Nat} {W:World} {mv1:Value} {l:Array Bool} {i:Nat} {u8 u16 u18 u20 u25 u26 u27 u29 u30 u31 u43 u44 u45:Value} {w:World} (hl:l.size=29) (ht:∀ i∈[0,6,7,9,11,13,15,17,19,20,22,23],l.getD i false=true) (hi:i < 29) (J:JT t b W mv1 (up (fun j=>l.getD j false) i) u29 u30 u31 u43 u44 u45 w):JJT t b W mv1 u8 u16 u18 u20 u25 u26 u27 (l.setIfInBounds i true) (tmT t b u8 u16 u18 u20 u25 u26 u27 u29 u30 u31 u43 u44 u45) w:=
 ⟨by simp [hl],fun k hk=>getD_set_true (ht k hk),u29,u30,u31,u43,u44,u45,rfl,by rw [getD_up (by omega)];exact J⟩
theorem below_of_mod {w w':World} {o o':Obj} (h:Mod w.heap.size ((w.alloc o).alloc o') w'):Below w.heap.size w w':=
 ⟨h.os,h.tape,h.output,by have:=h.size;simp at this;omega,fun k hk=>by
  rw [h.block k (by simp;omega) (by omega),Below.heap_alloc _ _ _ (by simp;omega),Below.heap_alloc _ _ _ hk]⟩
theorem newReader_any (t:ByteArray) (w:World) (ht:t.size≤600) (hm1:∃ m,w.cell? ⟨1,0,none⟩=some (.int .i64 m)) :
 Calls Tryz.prog 89 #[.string t] w (NRPost t w):=by
 have hmf:∀ (fn:Fn) (first cap:Array Value) (w:World),(Instr.makeFunc fn first cap).run Tryz.prog w=.ok (.func fn first cap) w:=fun _ _ _ _=>rfl
 go_enter Tryz.func89,Tryz.ntmps89
 go_wp2_with fail
 refine wp_region_held (S:=fun w'=>w'.cell? ⟨w.heap.size+1,0,none⟩=some (.pointer (some ⟨w.heap.size,0,none⟩))) (by kernel_rfl) ?_
 have hS:({ ((w.alloc (rdObj t (.map none) (.map none))).alloc (.cells #[.pointer (some ⟨w.heap.size,0,none⟩)] 161)) with drawn:=((w.alloc (rdObj t (.map none) (.map none))).alloc (.cells #[.pointer (some ⟨w.heap.size,0,none⟩)] 161)).drawn+1 }:World).cell? ⟨w.heap.size+1,0,none⟩=some (.pointer (some ⟨w.heap.size,0,none⟩)):=blk_cell (blk_newAt (by simp)) 0
 refine takeH 0 7 (.pointer (some ⟨w.heap.size,0,none⟩)) rfl hS (fun w' hSw=>by (try dsimp only at hSw);go_simp) ?_
 simp only [pt,sz,sc]
 refine takeH 2 9 (.pointer (some ⟨w.heap.size,0,none⟩)) rfl hS (fun w' hSw=>by (try dsimp only at hSw);go_simp) ?_
 simp only [pt,sz,sc]
 refine takeH 3 10 (.func (.func 121) #[.pointer (some ⟨w.heap.size,0,none⟩)] #[]) rfl hS (fun w' hSw=>by (try dsimp only at hSw);go_simp) ?_
 simp only [pt,sz,sc]
 refine takeH 5 11 (.pointer (some ⟨w.heap.size,0,none⟩)) rfl hS (fun w' hSw=>by (try dsimp only at hSw);go_simp) ?_
 simp only [pt,sz,sc]
 refine takeH 6 12 (.func (.func 122) #[.pointer (some ⟨w.heap.size,0,none⟩)] #[]) rfl hS (fun w' hSw=>by (try dsimp only at hSw);go_simp) ?_
 simp only [pt,sz,sc]
 refine takeH 8 13 (.pointer (some ⟨w.heap.size,0,none⟩)) rfl hS (fun w' hSw=>by (try dsimp only at hSw);go_simp) ?_
 simp only [pt,sz,sc]
 refine takeH 9 14 (.func (.func 123) #[.pointer (some ⟨w.heap.size,0,none⟩)] #[]) rfl hS (fun w' hSw=>by (try dsimp only at hSw);go_simp) ?_
 simp only [pt,sz,sc]
 refine takeH 11 15 (.pointer (some ⟨w.heap.size,0,none⟩)) rfl hS (fun w' hSw=>by (try dsimp only at hSw);go_simp) ?_
 simp only [pt,sz,sc]
 refine takeH 14 17 (.pointer (some ⟨w.heap.size,0,none⟩)) rfl hS (fun w' hSw=>by (try dsimp only at hSw);go_simp) ?_
 simp only [pt,sz,sc]
 refine takeH 17 19 (.pointer (some ⟨w.heap.size,0,none⟩)) rfl hS (fun w' hSw=>by (try dsimp only at hSw);go_simp) ?_
 simp only [pt,sz,sc]
 refine takeH 20 21 (.pointer (some ⟨w.heap.size,0,none⟩)) rfl hS (fun w' hSw=>by (try dsimp only at hSw);go_simp) ?_
 simp only [pt,sz,sc]
 refine takeH 21 22 (.func (.func 125) #[.pointer (some ⟨w.heap.size,0,none⟩)] #[]) rfl hS (fun w' hSw=>by (try dsimp only at hSw);go_simp) ?_
 simp only [pt,sz,sc]
 refine takeH 23 23 (.pointer (some ⟨w.heap.size,0,none⟩)) rfl hS (fun w' hSw=>by (try dsimp only at hSw);go_simp) ?_
 simp only [pt,sz,sc]
 refine takeH 24 24 (.func (.func 126) #[.pointer (some ⟨w.heap.size,0,none⟩)] #[]) rfl hS (fun w' hSw=>by (try dsimp only at hSw);go_simp) ?_
 simp only [pt,sz,sc]
 refine wpAnyH_inv (JJC t w.heap.size ((w.alloc (rdObj t (.map none) (.map none))).alloc (.cells #[.pointer (some ⟨w.heap.size,0,none⟩)] 161))) (fun l a w' h=>by rw [h.1];rfl) (fun l a w' h=>?hSS) (fun l a w' i h hi=>?hstep) (fun l a w' h hr=>?hdone) _ _ _ _ (by decide) ?hinit
 case hSS=>
  obtain ⟨_,_,_,_,_,_,_,_,_,_,J⟩:=h
  exact cell_mod (blk_cell (blk_newAt (by simp)) 0) J.mod (by omega)
 case hinit=>
  refine ⟨rfl,by decide,undef,undef,undef,undef,undef,undef,undef,rfl,?_⟩
  exact ⟨by simp;omega,(Mod.refl _ _).drew,blk_alloc (blk_new _ _),fun h=>absurd h (by decide),fun h=>absurd h (by decide),fun h=>absurd h (by decide),fun h=>absurd h (by decide),fun h=>absurd h (by decide),fun h=>absurd h (by decide),fun h=>absurd h (by decide),fun h=>absurd h (by decide),fun h=>absurd h (by decide),fun h=>absurd h (by decide),fun h=>absurd h (by decide),fun h=>absurd h (by decide),fun h=>absurd h (by decide),fun h=>absurd h (by decide),fun h=>absurd h (by decide),fun h=>absurd h (by decide),fun h=>absurd h (by decide),fun h=>absurd h (by decide),fun h=>absurd h (by decide)⟩
 case hdone=>
  obtain ⟨hl,htk,u8,u16,u18,u20,u25,u26,u27,rfl,J⟩:=h
  have hal:=ready_nil_all hl (by kernel_rfl) hr
  obtain ⟨m,p1,k1,p2,k2,p3,k3,hrd,hcm,hmod,hWm⟩:=J.done hal
  clear J hal hr htk hl hS
  unfold tmC
  go_wp2_with fail
  have hpr:PrAt w' (w.heap.size+1) w.heap.size:=⟨cell_mod (blk_cell (blk_newAt (by simp)) 0) hmod (by omega),by omega⟩
  have hbW:=blk_lt hrd
  have HRD:=hide hrd
  have HCM:=hide hcm
  have HMOD:=hide hmod
  have HPR:=hide hpr
  clear hrd hcm hmod hpr
  refine wp_region_held (S:=fun w2=>w2.cell? ⟨w.heap.size+1,0,none⟩=some (.pointer (some ⟨w.heap.size,0,none⟩))) (by kernel_rfl) ?_
  have hS:({ w' with drawn:=w'.drawn+1 }:World).cell? ⟨w.heap.size+1,0,none⟩=some (.pointer (some ⟨w.heap.size,0,none⟩)):=HPR.out.1
  refine takeH 0 28 (.pointer (some ⟨w.heap.size,0,none⟩)) rfl hS (fun w' hSw=>by (try dsimp only at hSw);go_simp) ?_
  simp only [pt,sz,sc]
  refine takeH 6 32 (.pointer (some ⟨w.heap.size,0,none⟩)) rfl hS (fun w' hSw=>by (try dsimp only at hSw);go_simp) ?_
  simp only [pt,sz,sc]
  refine takeH 7 33 (.func (.func 128) #[.pointer (some ⟨w.heap.size,0,none⟩)] #[]) rfl hS (fun w' hSw=>by (try dsimp only at hSw);go_simp) ?_
  simp only [pt,sz,sc]
  refine takeH 9 34 (.func (.func 129) #[] #[.pointer (some ⟨w.heap.size+1,0,none⟩)]) rfl hS (fun w' hSw=>by (try dsimp only at hSw);go_simp) ?_
  simp only [pt,sz,sc]
  refine takeH 11 35 (.func (.func 131) #[] #[.pointer (some ⟨w.heap.size+1,0,none⟩)]) rfl hS (fun w' hSw=>by (try dsimp only at hSw);go_simp) ?_
  simp only [pt,sz,sc]
  refine takeH 13 36 (.func (.func 132) #[] #[.pointer (some ⟨w.heap.size+1,0,none⟩)]) rfl hS (fun w' hSw=>by (try dsimp only at hSw);go_simp) ?_
  simp only [pt,sz,sc]
  refine takeH 15 37 (.func (.func 135) #[] #[.pointer (some ⟨w.heap.size+1,0,none⟩)]) rfl hS (fun w' hSw=>by (try dsimp only at hSw);go_simp) ?_
  simp only [pt,sz,sc]
  refine takeH 17 38 (.func (.func 138) #[] #[.pointer (some ⟨w.heap.size+1,0,none⟩)]) rfl hS (fun w' hSw=>by (try dsimp only at hSw);go_simp) ?_
  simp only [pt,sz,sc]
  refine takeH 19 39 (.pointer (some ⟨w.heap.size,0,none⟩)) rfl hS (fun w' hSw=>by (try dsimp only at hSw);go_simp) ?_
  simp only [pt,sz,sc]
  refine takeH 20 40 (.func (.func 139) #[.pointer (some ⟨w.heap.size,0,none⟩)] #[]) rfl hS (fun w' hSw=>by (try dsimp only at hSw);go_simp) ?_
  simp only [pt,sz,sc]
  refine takeH 22 41 (.pointer (some ⟨w.heap.size,0,none⟩)) rfl hS (fun w' hSw=>by (try dsimp only at hSw);go_simp) ?_
  simp only [pt,sz,sc]
  refine takeH 23 42 (.func (.func 140) #[.pointer (some ⟨w.heap.size,0,none⟩)] #[]) rfl hS (fun w' hSw=>by (try dsimp only at hSw);go_simp) ?_
  simp only [pt,sz,sc]
  refine wpAnyH_inv (JJT t w.heap.size w' (.map (some m)) u8 u16 u18 u20 u25 u26 u27) (fun l a w' h=>by rw [h.1];rfl) (fun l a w' h=>?hSS2) (fun l a w2 i h hi=>?hstep2) (fun l a w2 h hr=>?hdone2) _ _ _ _ (by decide) ?hinit2
  case hSS2=>
   obtain ⟨_,_,_,_,_,_,_,_,_,J⟩:=h
   exact cell_mod HPR.out.1 J.mod (by omega)
  case hinit2=>
   refine ⟨rfl,by decide,undef,undef,undef,undef,undef,undef,rfl,?_⟩
   exact ⟨hbW,(Mod.refl _ _).drew,HRD.out,fun h=>absurd h (by decide),fun h=>absurd h (by decide),fun h=>absurd h (by decide),fun h=>absurd h (by decide),fun h=>absurd h (by decide),fun h=>absurd h (by decide),fun h=>absurd h (by decide),fun h=>absurd h (by decide),fun h=>absurd h (by decide),fun h=>absurd h (by decide),fun h=>absurd h (by decide),fun h=>absurd h (by decide),fun h=>absurd h (by decide),fun h=>absurd h (by decide),fun h=>absurd h (by decide),fun h=>absurd h (by decide),fun h=>absurd h (by decide),fun h=>absurd h (by decide),fun h=>absurd h (by decide)⟩
  case hdone2=>
   obtain ⟨hl,htk,u29,u30,u31,u43,u44,u45,rfl,J⟩:=h
   have hal:=ready_nil_all hl (by kernel_rfl) hr
   obtain ⟨mt,pt,pf,hrd,htm,hmod,_⟩:=J.done hal HPR.out
   have hc0:=(HPR.out.mod hmod).1
   have HFIN:Hid (NRPost t w (.returned (.pointer (some ⟨w.heap.size,0,none⟩))) w2):=by
    have hbl:=below_of_mod (HMOD.out.trans hmod)
    obtain ⟨mm,hmm⟩:=hm1
    have h1lt:=cell_lt hmm
    exact ⟨m,mt,w.heap.size+1,pt,pf,p1,k1,p2,k2,p3,k3,rfl,⟨hrd,Nat.zero_le _,⟨mm,by rw [hbl.cell (p:=⟨1,0,none⟩) h1lt];exact hmm⟩,h1lt,ht,⟨Nat.zero_le _,by decide⟩,fun _=>rfl,fun _ c r e=>by cases e⟩,htm,HCM.out.mod hmod,hbl⟩
   clear J hal hr htk hl hS hrd htm hmod
   unfold tmT
   go_wp2
   go_ret
   exact HFIN.out
  case hstep2=>
   obtain ⟨hl,htk,u29,u30,u31,u43,u44,u45,rfl,J⟩:=h
   obtain ⟨h0,o,ho,hall⟩:=mem_ready.1 hi
   have hi30:i < 29:=(Array.getElem?_eq_some_iff.1 ho).1
   have h0':l.getD i false=false:=by
    have:i < l.size:=by omega
    simp [this] at h0 ⊢
    exact h0
   clear h0
   rcases (by omega:i=0∨i=1∨i=2∨i=3∨i=4∨i=5∨i=6∨i=7∨i=8∨i=9∨i=10∨i=11∨i=12∨i=13∨i=14∨i=15∨i=16∨i=17∨i=18∨i=19∨i=20∨i=21∨i=22∨i=23∨i=24∨i=25∨i=26∨i=27∨i=28) with hh | hh | hh | hh | hh | hh | hh | hh | hh | hh | hh | hh | hh | hh | hh | hh | hh | hh | hh | hh | hh | hh | hh | hh | hh | hh | hh | hh | hh <;> subst hh
   ·rw [htk 0 (by decide)] at h0';cases h0'
   ·clear ho hall hi
    refine wpOp_of rfl (by rfl) ?_
    unfold tmT
    go_simp
    exact JJT.next hl htk (by decide) (J.s1 h0')
   ·clear ho hall hi
    refine wpOp_of rfl (by rfl) ?_
    unfold tmT
    go_simp
    refine (truth_any true _).mono ?_
    rintro e w3 ⟨rfl,rfl⟩
    exact JJT.next hl htk (by decide) (J.s2 h0')
   ·have ho2:=Option.some.inj (show some _=some o from ho)
    subst ho2
    have h1:=hall { on:=1,ground:=.data } (by simp) rfl
    have h2:=hall { on:=2,ground:=.data } (by simp) rfl
    clear ho hall hi
    obtain ⟨m2,es,c,rfl,hm,hf,hn,J'⟩:=J.s3 h0' h1 h2
    have hrun:(Instr.mapUpdate 208 (.map (some m2)) (.string ⟨#[116,114,117,101]⟩) (u30)).run Tryz.prog w2=.ok () _:=run_insert_new Tryz.underlying208 Tryz.underlying9 hm hf hn _
    refine wpOp_of rfl (by rfl) ?_
    unfold tmT
    go_simp
    exact JJT.next hl htk (by decide) J'
   ·clear ho hall hi
    refine wpOp_of rfl (by rfl) ?_
    unfold tmT
    go_simp
    refine (truth_any false _).mono ?_
    rintro e w3 ⟨rfl,rfl⟩
    exact JJT.next hl htk (by decide) (J.s4 h0')
   ·have ho2:=Option.some.inj (show some _=some o from ho)
    subst ho2
    have h1:=hall { on:=1,ground:=.data } (by simp) rfl
    have h2:=hall { on:=4,ground:=.data } (by simp) rfl
    clear ho hall hi
    obtain ⟨m2,es,c,rfl,hm,hf,hn,J'⟩:=J.s5 h0' h1 h2
    have hrun:(Instr.mapUpdate 208 (.map (some m2)) (.string ⟨#[102,97,108,115,101]⟩) (u31)).run Tryz.prog w2=.ok () _:=run_insert_new Tryz.underlying208 Tryz.underlying9 hm hf hn _
    refine wpOp_of rfl (by rfl) ?_
    unfold tmT
    go_simp
    exact JJT.next hl htk (by decide) J'
   ·rw [htk 6 (by decide)] at h0';cases h0'
   ·rw [htk 7 (by decide)] at h0';cases h0'
   ·have ho2:=Option.some.inj (show some _=some o from ho)
    subst ho2
    have h1:=hall { on:=1,ground:=.data } (by simp) rfl
    clear ho hall hi
    obtain ⟨m2,es,c,rfl,hm,hf,hn,J'⟩:=J.s8 h0' h1
    have hrun:(Instr.mapUpdate 208 (.map (some m2)) (.string ⟨#[110,111,116]⟩) (.func (.func 128) #[.pointer (some ⟨w.heap.size,0,none⟩)] #[])).run Tryz.prog w2=.ok () _:=run_insert_new Tryz.underlying208 Tryz.underlying9 hm hf hn _
    refine wpOp_of rfl (by rfl) ?_
    unfold tmT
    go_simp
    exact JJT.next hl htk (by decide) J'
   ·rw [htk 9 (by decide)] at h0';cases h0'
   ·have ho2:=Option.some.inj (show some _=some o from ho)
    subst ho2
    have h1:=hall { on:=1,ground:=.data } (by simp) rfl
    clear ho hall hi
    obtain ⟨m2,es,c,rfl,hm,hf,hn,J'⟩:=J.s10 h0' h1
    have hrun:(Instr.mapUpdate 208 (.map (some m2)) (.string ⟨#[97,108,108,111,102]⟩) (.func (.func 129) #[] #[.pointer (some ⟨w.heap.size+1,0,none⟩)])).run Tryz.prog w2=.ok () _:=run_insert_new Tryz.underlying208 Tryz.underlying9 hm hf hn _
    refine wpOp_of rfl (by rfl) ?_
    unfold tmT
    go_simp
    exact JJT.next hl htk (by decide) J'
   ·rw [htk 11 (by decide)] at h0';cases h0'
   ·have ho2:=Option.some.inj (show some _=some o from ho)
    subst ho2
    have h1:=hall { on:=1,ground:=.data } (by simp) rfl
    clear ho hall hi
    obtain ⟨m2,es,c,rfl,hm,hf,hn,J'⟩:=J.s12 h0' h1
    have hrun:(Instr.mapUpdate 208 (.map (some m2)) (.string ⟨#[97,110,121,111,102]⟩) (.func (.func 131) #[] #[.pointer (some ⟨w.heap.size+1,0,none⟩)])).run Tryz.prog w2=.ok () _:=run_insert_new Tryz.underlying208 Tryz.underlying9 hm hf hn _
    refine wpOp_of rfl (by rfl) ?_
    unfold tmT
    go_simp
    exact JJT.next hl htk (by decide) J'
   ·rw [htk 13 (by decide)] at h0';cases h0'
   ·have ho2:=Option.some.inj (show some _=some o from ho)
    subst ho2
    have h1:=hall { on:=1,ground:=.data } (by simp) rfl
    clear ho hall hi
    obtain ⟨m2,es,c,rfl,hm,hf,hn,J'⟩:=J.s14 h0' h1
    have hrun:(Instr.mapUpdate 208 (.map (some m2)) (.string ⟨#[104,101,97,100,101,114]⟩) (.func (.func 132) #[] #[.pointer (some ⟨w.heap.size+1,0,none⟩)])).run Tryz.prog w2=.ok () _:=run_insert_new Tryz.underlying208 Tryz.underlying9 hm hf hn _
    refine wpOp_of rfl (by rfl) ?_
    unfold tmT
    go_simp
    exact JJT.next hl htk (by decide) J'
   ·rw [htk 15 (by decide)] at h0';cases h0'
   ·have ho2:=Option.some.inj (show some _=some o from ho)
    subst ho2
    have h1:=hall { on:=1,ground:=.data } (by simp) rfl
    clear ho hall hi
    obtain ⟨m2,es,c,rfl,hm,hf,hn,J'⟩:=J.s16 h0' h1
    have hrun:(Instr.mapUpdate 208 (.map (some m2)) (.string ⟨#[101,110,118,101,108,111,112,101]⟩) (.func (.func 135) #[] #[.pointer (some ⟨w.heap.size+1,0,none⟩)])).run Tryz.prog w2=.ok () _:=run_insert_new Tryz.underlying208 Tryz.underlying9 hm hf hn _
    refine wpOp_of rfl (by rfl) ?_
    unfold tmT
    go_simp
    exact JJT.next hl htk (by decide) J'
   ·rw [htk 17 (by decide)] at h0';cases h0'
   ·have ho2:=Option.some.inj (show some _=some o from ho)
    subst ho2
    have h1:=hall { on:=1,ground:=.data } (by simp) rfl
    clear ho hall hi
    obtain ⟨m2,es,c,rfl,hm,hf,hn,J'⟩:=J.s18 h0' h1
    have hrun:(Instr.mapUpdate 208 (.map (some m2)) (.string ⟨#[115,116,114,105,110,103]⟩) (.func (.func 138) #[] #[.pointer (some ⟨w.heap.size+1,0,none⟩)])).run Tryz.prog w2=.ok () _:=run_insert_new Tryz.underlying208 Tryz.underlying9 hm hf hn _
    refine wpOp_of rfl (by rfl) ?_
    unfold tmT
    go_simp
    exact JJT.next hl htk (by decide) J'
   ·rw [htk 19 (by decide)] at h0';cases h0'
   ·rw [htk 20 (by decide)] at h0';cases h0'
   ·have ho2:=Option.some.inj (show some _=some o from ho)
    subst ho2
    have h1:=hall { on:=1,ground:=.data } (by simp) rfl
    clear ho hall hi
    obtain ⟨m2,es,c,rfl,hm,hf,hn,J'⟩:=J.s21 h0' h1
    have hrun:(Instr.mapUpdate 208 (.map (some m2)) (.string ⟨#[101,120,105,115,116,115]⟩) (.func (.func 139) #[.pointer (some ⟨w.heap.size,0,none⟩)] #[])).run Tryz.prog w2=.ok () _:=run_insert_new Tryz.underlying208 Tryz.underlying9 hm hf hn _
    refine wpOp_of rfl (by rfl) ?_
    unfold tmT
    go_simp
    exact JJT.next hl htk (by decide) J'
   ·rw [htk 22 (by decide)] at h0';cases h0'
   ·rw [htk 23 (by decide)] at h0';cases h0'
   ·have ho2:=Option.some.inj (show some _=some o from ho)
    subst ho2
    have h1:=hall { on:=1,ground:=.data } (by simp) rfl
    clear ho hall hi
    obtain ⟨m2,es,c,rfl,hm,hf,hn,J'⟩:=J.s24 h0' h1
    have hrun:(Instr.mapUpdate 208 (.map (some m2)) (.string ⟨#[115,105,122,101]⟩) (.func (.func 140) #[.pointer (some ⟨w.heap.size,0,none⟩)] #[])).run Tryz.prog w2=.ok () _:=run_insert_new Tryz.underlying208 Tryz.underlying9 hm hf hn _
    refine wpOp_of rfl (by rfl) ?_
    unfold tmT
    go_simp
    exact JJT.next hl htk (by decide) J'
   ·have ho2:=Option.some.inj (show some _=some o from ho)
    subst ho2
    have h1:=hall { on:=1,ground:=.data } (by simp) rfl
    have hi3:=hall { on:=3,ground:=.data } (by simp) rfl
    have hi5:=hall { on:=5,ground:=.data } (by simp) rfl
    have hi8:=hall { on:=8,ground:=.data } (by simp) rfl
    have hi10:=hall { on:=10,ground:=.data } (by simp) rfl
    have hi12:=hall { on:=12,ground:=.data } (by simp) rfl
    have hi14:=hall { on:=14,ground:=.data } (by simp) rfl
    have hi16:=hall { on:=16,ground:=.data } (by simp) rfl
    have hi18:=hall { on:=18,ground:=.data } (by simp) rfl
    have hi21:=hall { on:=21,ground:=.data } (by simp) rfl
    have hi24:=hall { on:=24,ground:=.data } (by simp) rfl
    clear ho hall hi
    refine wpOp_of rfl (by rfl) ?_
    unfold tmT
    go_simp
    exact JJT.next hl htk (by decide) (J.s25 h0' h1 hi3 hi5 hi8 hi10 hi12 hi14 hi16 hi18 hi21 hi24)
   ·clear ho hall hi
    refine wpOp_of rfl (by rfl) ?_
    unfold tmT
    go_simp
    exact JJT.next hl htk (by decide) (J.s26 h0')
   ·have ho2:=Option.some.inj (show some _=some o from ho)
    subst ho2
    have h1:=hall { on:=26,ground:=.data } (by simp) rfl
    obtain rfl:=J.m26 h1
    clear ho hall hi
    refine wpOp_of rfl (by rfl) ?_
    unfold tmT
    go_simp
    exact JJT.next hl htk (by decide) (J.s27 h0')
   ·have ho2:=Option.some.inj (show some _=some o from ho)
    subst ho2
    have h27:=hall { on:=27,ground:=.data } (by simp) rfl
    have h25:=hall { on:=25,ground:=.data } (by simp) rfl
    obtain rfl:=J.m27 h27
    obtain ⟨rfl,h1,_⟩:=J.m25 h25
    obtain ⟨m2,es,c,rfl,_,_,_⟩:=J.mp h1
    clear ho hall hi
    have hr:=J.rd
    unfold rdObj at hr
    have hc9:w2.cell? ⟨w.heap.size,9,none⟩=some _:=blk_cell hr 9
    rw [show (l.getD 28 false)=false from h0'] at hc9
    have hfz:=blk_frozen hr
    refine wpOp_of rfl (by rfl) ?_
    unfold tmT
    go_simp
    exact JJT.next hl htk (by decide) (J.s28 h0' h25)
 case hstep=>
  obtain ⟨hl,htk,u8,u16,u18,u20,u25,u26,u27,rfl,J⟩:=h
  obtain ⟨h0,o,ho,hall⟩:=mem_ready.1 hi
  have hi30:i < 30:=(Array.getElem?_eq_some_iff.1 ho).1
  have h0':l.getD i false=false:=by
   have:i < l.size:=by omega
   simp [this] at h0 ⊢
   exact h0
  clear h0
  rcases (by omega:i=0∨i=1∨i=2∨i=3∨i=4∨i=5∨i=6∨i=7∨i=8∨i=9∨i=10∨i=11∨i=12∨i=13∨i=14∨i=15∨i=16∨i=17∨i=18∨i=19∨i=20∨i=21∨i=22∨i=23∨i=24∨i=25∨i=26∨i=27∨i=28∨i=29) with hh | hh | hh | hh | hh | hh | hh | hh | hh | hh | hh | hh | hh | hh | hh | hh | hh | hh | hh | hh | hh | hh | hh | hh | hh | hh | hh | hh | hh | hh <;> subst hh
  ·rw [htk 0 (by decide)] at h0';cases h0'
  ·clear ho hall hi
   refine wpOp_of rfl (by rfl) ?_
   unfold tmC
   go_simp
   exact JJC.next hl htk (by decide) (J.s1 h0')
  ·rw [htk 2 (by decide)] at h0';cases h0'
  ·rw [htk 3 (by decide)] at h0';cases h0'
  ·have ho2:=Option.some.inj (show some _=some o from ho)
   subst ho2
   have h1:=hall { on:=1,ground:=.data } (by simp) rfl
   clear ho hall hi
   obtain ⟨m,es,c,rfl,hm,hf,hn,J'⟩:=J.s4 h0' h1
   have hrun:(Instr.mapUpdate 207 (.map (some m)) (.string ⟨#[107,101,101,112]⟩) (.func (.func 121) #[.pointer (some ⟨w.heap.size,0,none⟩)] #[])).run Tryz.prog w'=.ok () _:=run_insert_new Tryz.underlying207 Tryz.underlying9 hm hf hn _
   refine wpOp_of rfl (by rfl) ?_
   unfold tmC
   go_simp
   exact JJC.next hl htk (by decide) J'
  ·rw [htk 5 (by decide)] at h0';cases h0'
  ·rw [htk 6 (by decide)] at h0';cases h0'
  ·have ho2:=Option.some.inj (show some _=some o from ho)
   subst ho2
   have h1:=hall { on:=1,ground:=.data } (by simp) rfl
   clear ho hall hi
   obtain ⟨m,es,c,rfl,hm,hf,hn,J'⟩:=J.s7 h0' h1
   have hrun:(Instr.mapUpdate 207 (.map (some m)) (.string ⟨#[100,105,115,99,97,114,100]⟩) (.func (.func 122) #[.pointer (some ⟨w.heap.size,0,none⟩)] #[])).run Tryz.prog w'=.ok () _:=run_insert_new Tryz.underlying207 Tryz.underlying9 hm hf hn _
   refine wpOp_of rfl (by rfl) ?_
   unfold tmC
   go_simp
   exact JJC.next hl htk (by decide) J'
  ·rw [htk 8 (by decide)] at h0';cases h0'
  ·rw [htk 9 (by decide)] at h0';cases h0'
  ·have ho2:=Option.some.inj (show some _=some o from ho)
   subst ho2
   have h1:=hall { on:=1,ground:=.data } (by simp) rfl
   clear ho hall hi
   obtain ⟨m,es,c,rfl,hm,hf,hn,J'⟩:=J.s10 h0' h1
   have hrun:(Instr.mapUpdate 207 (.map (some m)) (.string ⟨#[115,116,111,112]⟩) (.func (.func 123) #[.pointer (some ⟨w.heap.size,0,none⟩)] #[])).run Tryz.prog w'=.ok () _:=run_insert_new Tryz.underlying207 Tryz.underlying9 hm hf hn _
   refine wpOp_of rfl (by rfl) ?_
   unfold tmC
   go_simp
   exact JJC.next hl htk (by decide) J'
  ·rw [htk 11 (by decide)] at h0';cases h0'
  ·clear ho hall hi
   refine wpOp_of rfl (by rfl) ?_
   unfold tmC
   go_simp
   refine (act_any _ w.heap.size 2 _ rfl).mono ?_
   rintro e w2 ⟨rfl,rfl⟩
   exact JJC.next hl htk (by decide) (J.s12 h0')
  ·have ho2:=Option.some.inj (show some _=some o from ho)
   subst ho2
   have h1:=hall { on:=1,ground:=.data } (by simp) rfl
   have h2:=hall { on:=12,ground:=.data } (by simp) rfl
   clear ho hall hi
   obtain ⟨m,es,c,rfl,hm,hf,hn,J'⟩:=J.s13 h0' h1 h2
   have hrun:(Instr.mapUpdate 207 (.map (some m)) (.string ⟨#[102,105,108,101,105,110,116,111]⟩) (u16)).run Tryz.prog w'=.ok () _:=run_insert_new Tryz.underlying207 Tryz.underlying9 hm hf hn _
   refine wpOp_of rfl (by rfl) ?_
   unfold tmC
   go_simp
   exact JJC.next hl htk (by decide) J'
  ·rw [htk 14 (by decide)] at h0';cases h0'
  ·clear ho hall hi
   refine wpOp_of rfl (by rfl) ?_
   unfold tmC
   go_simp
   refine (act_any _ w.heap.size 3 _ rfl).mono ?_
   rintro e w2 ⟨rfl,rfl⟩
   exact JJC.next hl htk (by decide) (J.s15 h0')
  ·have ho2:=Option.some.inj (show some _=some o from ho)
   subst ho2
   have h1:=hall { on:=1,ground:=.data } (by simp) rfl
   have h2:=hall { on:=15,ground:=.data } (by simp) rfl
   clear ho hall hi
   obtain ⟨m,es,c,rfl,hm,hf,hn,J'⟩:=J.s16 h0' h1 h2
   have hrun:(Instr.mapUpdate 207 (.map (some m)) (.string ⟨#[114,101,100,105,114,101,99,116]⟩) (u18)).run Tryz.prog w'=.ok () _:=run_insert_new Tryz.underlying207 Tryz.underlying9 hm hf hn _
   refine wpOp_of rfl (by rfl) ?_
   unfold tmC
   go_simp
   exact JJC.next hl htk (by decide) J'
  ·rw [htk 17 (by decide)] at h0';cases h0'
  ·clear ho hall hi
   refine wpOp_of rfl (by rfl) ?_
   unfold tmC
   go_simp
   refine (act_any _ w.heap.size 4 _ rfl).mono ?_
   rintro e w2 ⟨rfl,rfl⟩
   exact JJC.next hl htk (by decide) (J.s18 h0')
  ·have ho2:=Option.some.inj (show some _=some o from ho)
   subst ho2
   have h1:=hall { on:=1,ground:=.data } (by simp) rfl
   have h2:=hall { on:=18,ground:=.data } (by simp) rfl
   clear ho hall hi
   obtain ⟨m,es,c,rfl,hm,hf,hn,J'⟩:=J.s19 h0' h1 h2
   have hrun:(Instr.mapUpdate 207 (.map (some m)) (.string ⟨#[114,101,106,101,99,116]⟩) (u20)).run Tryz.prog w'=.ok () _:=run_insert_new Tryz.underlying207 Tryz.underlying9 hm hf hn _
   refine wpOp_of rfl (by rfl) ?_
   unfold tmC
   go_simp
   exact JJC.next hl htk (by decide) J'
  ·rw [htk 20 (by decide)] at h0';cases h0'
  ·rw [htk 21 (by decide)] at h0';cases h0'
  ·have ho2:=Option.some.inj (show some _=some o from ho)
   subst ho2
   have h1:=hall { on:=1,ground:=.data } (by simp) rfl
   clear ho hall hi
   obtain ⟨m,es,c,rfl,hm,hf,hn,J'⟩:=J.s22 h0' h1
   have hrun:(Instr.mapUpdate 207 (.map (some m)) (.string ⟨#[115,101,116]⟩) (.func (.func 125) #[.pointer (some ⟨w.heap.size,0,none⟩)] #[])).run Tryz.prog w'=.ok () _:=run_insert_new Tryz.underlying207 Tryz.underlying9 hm hf hn _
   refine wpOp_of rfl (by rfl) ?_
   unfold tmC
   go_simp
   exact JJC.next hl htk (by decide) J'
  ·rw [htk 23 (by decide)] at h0';cases h0'
  ·rw [htk 24 (by decide)] at h0';cases h0'
  ·have ho2:=Option.some.inj (show some _=some o from ho)
   subst ho2
   have h1:=hall { on:=1,ground:=.data } (by simp) rfl
   clear ho hall hi
   obtain ⟨m,es,c,rfl,hm,hf,hn,J'⟩:=J.s25 h0' h1
   have hrun:(Instr.mapUpdate 207 (.map (some m)) (.string ⟨#[105,102]⟩) (.func (.func 126) #[.pointer (some ⟨w.heap.size,0,none⟩)] #[])).run Tryz.prog w'=.ok () _:=run_insert_new Tryz.underlying207 Tryz.underlying9 hm hf hn _
   refine wpOp_of rfl (by rfl) ?_
   unfold tmC
   go_simp
   exact JJC.next hl htk (by decide) J'
  ·have ho2:=Option.some.inj (show some _=some o from ho)
   subst ho2
   have h1:=hall { on:=1,ground:=.data } (by simp) rfl
   have hi4:=hall { on:=4,ground:=.data } (by simp) rfl
   have hi7:=hall { on:=7,ground:=.data } (by simp) rfl
   have hi10:=hall { on:=10,ground:=.data } (by simp) rfl
   have hi13:=hall { on:=13,ground:=.data } (by simp) rfl
   have hi16:=hall { on:=16,ground:=.data } (by simp) rfl
   have hi19:=hall { on:=19,ground:=.data } (by simp) rfl
   have hi22:=hall { on:=22,ground:=.data } (by simp) rfl
   have hi25:=hall { on:=25,ground:=.data } (by simp) rfl
   clear ho hall hi
   refine wpOp_of rfl (by rfl) ?_
   unfold tmC
   go_simp
   exact JJC.next hl htk (by decide) (J.s26 h0' h1 hi4 hi7 hi10 hi13 hi16 hi19 hi22 hi25)
  ·clear ho hall hi
   refine wpOp_of rfl (by rfl) ?_
   unfold tmC
   go_simp
   exact JJC.next hl htk (by decide) (J.s27 h0')
  ·have ho2:=Option.some.inj (show some _=some o from ho)
   subst ho2
   have h1:=hall { on:=27,ground:=.data } (by simp) rfl
   obtain rfl:=J.m27 h1
   clear ho hall hi
   refine wpOp_of rfl (by rfl) ?_
   unfold tmC
   go_simp
   exact JJC.next hl htk (by decide) (J.s28 h0')
  ·have ho2:=Option.some.inj (show some _=some o from ho)
   subst ho2
   have h28:=hall { on:=28,ground:=.data } (by simp) rfl
   have h26:=hall { on:=26,ground:=.data } (by simp) rfl
   obtain rfl:=J.m28 h28
   obtain ⟨rfl,h1,_⟩:=J.m26 h26
   obtain ⟨m,es,c,rfl,_,_,_⟩:=J.mp h1
   clear ho hall hi
   have hr:=J.rd
   unfold rdObj at hr
   have hc8:w'.cell? ⟨w.heap.size,8,none⟩=some _:=blk_cell hr 8
   rw [show (l.getD 29 false)=false from h0'] at hc8
   have hfz:=blk_frozen hr
   refine wpOp_of rfl (by rfl) ?_
   unfold tmC
   go_simp
   exact JJC.next hl htk (by decide) (J.s29 h0' h26)
end
section
open Go.RowKit
theorem assertFault_yes (W:World) (v:Value) (xT:TypeId):(Instr.typeAssert (.iface 125 v) xT 125 true).run Tryz.prog W=.ok (.tuple #[v,.bool true]) W:=by kernel_rfl
theorem caught_nil (w:World):Calls Tryz.prog 88 #[.nilIface] w fun e w'=>e=.returned (.pointer none)∧w'=w:=by
 go_enter Tryz.func88,Tryz.ntmps88
 go_wp2
 go_ret
 exact ⟨rfl,rfl⟩
theorem caught_fault (a:Addr) (w:World):Calls Tryz.prog 88 #[.iface 125 (.pointer (some a))] w fun e w'=>e=.returned (.pointer (some a))∧w'=w:=by
 go_enter Tryz.func88,Tryz.ntmps88
 have hta:=assertFault_yes w (.pointer (some a))
 go_wp2
 go_ret
 exact ⟨rfl,rfl⟩
theorem catch_idle (p q:Addr) (w:World) :
 CallsD Tryz.prog 87 #[.pointer (some p),.pointer (some q)] .returning w fun e u' w'=>e=.returned (.tuple #[])∧u'=.returning∧w'=w:=by
 refine callsD_of_wpS Tryz.func87 rfl fun c₀ cs hu=>?_
 apply wpS_seq
 apply wpS_region
 simp [wpOpsS,go_sem,recoverD,hu,Tryz.ntmps87,Exit.thenS]
 refine (caught_nil w).mono ?_
 rintro e w' ⟨rfl,rfl⟩
 apply wpS_seq
 apply wpS_region
 simp [wpOpsS,go_sem,Exit.thenS]
 refine wpS_cond (t:=false) (by simp [Act.eval,Array.replicate]) ?_
 simp only [Bool.false_eq_true,if_false]
 refine wpS_of_wp (wp_skip ?_)
 cases c₀
 simp_all [bodyPostS,results,Tryz.results87]
theorem catch_panicking (P Q:Nat) (x1 x2 x3:Value) (a:Addr) (older:List PanicEntry) (w:World) (hc1:w.cell? ⟨P,0,none⟩=some x1) (hc2:w.cell? ⟨P,1,none⟩=some x2) (hc3:w.cell? ⟨Q,0,none⟩=some x3) (hz1:∀ j,w.frozen? ⟨P,j,none⟩=false) (hz2:∀ j,w.frozen? ⟨Q,j,none⟩=false) (hPQ:P≠Q) :
 CallsD Tryz.prog 87 #[.pointer (some ⟨P,0,none⟩),.pointer (some ⟨Q,0,none⟩)] (.panicking ({ v:=.iface 125 (.pointer (some a)),recovered:=false } :: older)) w fun e u' w'=>
  e=.returned (.tuple #[])∧u'=.panicking ({ v:=.iface 125 (.pointer (some a)),recovered:=true } :: older)∧w'=((w.setCell ⟨P,0,none⟩ (.slice none 0 0)).setCell ⟨P,1,none⟩ (.slice none 0 0)).setCell ⟨Q,0,none⟩ (.iface 125 (.pointer (some a))):=by
 refine callsD_of_wpS Tryz.func87 rfl fun c₀ cs hu=>?_
 apply wpS_seq
 apply wpS_region
 simp [wpOpsS,go_sem,recoverD,hu,Tryz.ntmps87,Exit.thenS]
 refine (caught_fault a w).mono ?_
 rintro e w' ⟨rfl,rfl⟩
 apply wpS_seq
 apply wpS_region
 simp [wpOpsS,go_sem,Exit.thenS]
 refine wpS_cond (t:=true) (by simp [Act.eval,Array.replicate]) ?_
 simp only [if_true]
 apply wpS_region
 simp [wpOpsS,go_sem,hc1,hc2,hc3,hz1,hz2,bodyPostS,results,Tryz.results87]
end
section
open Go.RowKit
attribute [local go_sem ↓] Go.wp_at_zero Go.wp_at_succ
def PPost (r:Except Flt (List (List UInt8)×List (CmdT 7))) (w:World) (e:Ending) (w':World):Prop:=
 Below w.heap.size w w'∧((∃ y tv,r=.ok y∧e=.returned (.tuple #[tv,.nilIface])∧treeX (fromB w.heap.size) y w' tv)∨(∃ f bb,r=.error f∧e=.returned (.tuple #[.agg #[.slice none 0 0,.slice none 0 0],.iface 125 (.pointer (some ⟨bb,0,none⟩))])∧w.heap.size≤bb∧w'.heap[bb]?=some (.cells #[.int .i64 f.err,.int .i64 f.pos] 130)))
theorem parse_short (t:ByteArray) (w:World) (ht:t.size≤600) (hm1:∃ m,w.cell? ⟨1,0,none⟩=some (.int .i64 m)) :
 Calls Tryz.prog 59 #[.string t] w (PPost (parseL t.data.toList) w):=by
 have hmf:∀ (fn:Fn) (first cap:Array Value) (w:World),(Instr.makeFunc fn first cap).run Tryz.prog w=.ok (.func fn first cap) w:=fun _ _ _ _=>rfl
 have ht':¬ (600:Int) < (t.size:Int):=by omega
 go_enter_defers Tryz.func59,Tryz.ntmps59
 go_wp2_with fail
 obtain ⟨V,hV⟩:∃ V,V=(w.alloc (.cells #[.slice none 0 0,.slice none 0 0] 91)).alloc (.cells #[.nilIface] 84):=⟨_,rfl⟩
 have hzV:V.heap.size=w.heap.size+1+1:=by rw [hV];simp
 have hVP:V.heap[w.heap.size]?=some (.cells #[.slice none 0 0,.slice none 0 0] 91):=by rw [hV];exact blk_alloc (blk_new _ _)
 have hVQ:V.heap[w.heap.size+1]?=some (.cells #[.nilIface] 84):=by rw [hV];exact blk_newAt (by simp)
 have hVB:Below w.heap.size w V:=by rw [hV];exact ((Below.refl _ _).alloc (Nat.le_refl _) _).alloc (by simp) _
 have hV1:∃ m,V.cell? ⟨1,0,none⟩=some (.int .i64 m):=by
  obtain ⟨m,hm⟩:=hm1
  exact ⟨m,by rw [hVB.cell (p:=⟨1,0,none⟩) (cell_lt hm)];exact hm⟩
 rw [← hV]
 clear hV
 refine (newReader_any t V ht hV1).mono ?_
 rintro e w1 ⟨mc,mt,pr,pt,pf,p1,k1,p2,k2,p3,k3,rfl,hrc,htm,hcm,hbl⟩
 rw [hzV] at hrc htm hcm hbl
 have HVB:=hide hVB
 have HRC:=hide hrc
 have HTM:=hide htm
 have HCM:=hide hcm
 have hP1:w1.heap[w.heap.size]?=some (.cells #[.slice none 0 0,.slice none 0 0] 91):=by rw [hbl.block _ (by omega)];exact hVP
 have hQ1:w1.heap[w.heap.size+1]?=some (.cells #[.nilIface] 84):=by rw [hbl.block _ (by omega)];exact hVQ
 have HBL:=hide hbl
 have HP1:=hide hP1
 have HQ1:=hide hQ1
 have hz1:=hbl.size
 clear hVB hVP hVQ hV1 hm1 hrc htm hcm hbl hP1 hQ1
 go_wp2_with fail
 refine (script_any (w.heap.size+1+1) t mc mt pr pt pf p1 k1 p2 k2 p3 k3 w1 HRC.out HTM.out HCM.out).mono ?_
 rintro e w2 ⟨hm2,⟨y,v,hy,rfl,hv⟩ | ⟨f,hf,⟨bb,hz,rfl,hcc⟩⟩⟩
 ·obtain ⟨rv,lv,rfl,hrq,hbl⟩:=hv
  have HRQ:=hide hrq
  have HBX:=hide hbl
  obtain ⟨ra,rn,rc,rfl⟩:=hrq.form
  obtain ⟨la,ln,lc,rfl⟩:=hbl.form
  have hP2:=blk_mod HP1.out hm2 (by omega)
  have hQ2:=blk_mod HQ1.out hm2 (by omega)
  have c0:w2.cell? ⟨w.heap.size,0,none⟩=some (.slice none 0 0):=blk_cell hP2 0
  have c1:w2.cell? ⟨w.heap.size,1,none⟩=some (.slice none 0 0):=blk_cell hP2 1
  have c2:w2.cell? ⟨w.heap.size+1,0,none⟩=some .nilIface:=blk_cell hQ2 0
  have z1:=blk_frozen hP2
  have z2:=blk_frozen hQ2
  have HM2:=hide hm2
  have HY:=hide hy
  clear hm2 hy hrq hbl hP2 hQ2
  go_wp2
  have hB2:Below w.heap.size w w2:=⟨HM2.out.os.trans (HBL.out.os.trans HVB.out.os),HM2.out.tape.trans (HBL.out.tape.trans HVB.out.tape),HM2.out.output.trans (HBL.out.output.trans HVB.out.output),Nat.le_trans HVB.out.size (Nat.le_trans HBL.out.size HM2.out.size),fun k hk=>by rw [HM2.out.block k (by omega) (by omega),HBL.out.block k (by omega),HVB.out.block k hk]⟩
  have hq0:¬ fromB w1.heap.size w.heap.size:=by unfold fromB;omega
  have hq1:¬ fromB w1.heap.size (w.heap.size+1):=by unfold fromB;omega
  have HFIN:Hid (PPost (parseL t.data.toList) w (.returned (.tuple #[.agg #[.slice ra rn rc,.slice la ln lc],.nilIface])) (((w2.setCell ⟨w.heap.size,0,none⟩ (.slice ra rn rc)).setCell ⟨w.heap.size,1,none⟩ (.slice la ln lc)).setCell ⟨w.heap.size+1,0,none⟩ .nilIface)):=⟨((hB2.setCell (Nat.le_refl _) _).setCell (Nat.le_refl _) _).setCell (by show w.heap.size≤w.heap.size+1;omega) _,Or.inl ⟨y,_,HY.out,rfl,⟨_,_,rfl,(((HRQ.out.keep (AbvX.set hq0 _ _)).keep (AbvX.set hq0 _ _)).keep (AbvX.set hq1 _ _)).weak (fun k hk _=>by unfold fromB at *;omega),blX.weak (cmdV_tree 7) (((HBX.out.keep (cmdV_tree 7) (AbvX.set hq0 _ _)).keep (cmdV_tree 7) (AbvX.set hq0 _ _)).keep (cmdV_tree 7) (AbvX.set hq1 _ _)) (fun k hk _=>by unfold fromB at *;omega)⟩⟩⟩
  refine leaves_cons (f:=87) (args:=#[.pointer (some ⟨w.heap.size,0,none⟩),.pointer (some ⟨w.heap.size+1,0,none⟩)]) (by simp) (by simp [go_sem]) ?_
  refine (catch_idle ⟨w.heap.size,0,none⟩ ⟨w.heap.size+1,0,none⟩ _).mono ?_
  rintro e u' w'' ⟨rfl,rfl,rfl⟩
  simp [Leaves,settle,results,Tryz.results59,go_sem,c0,c1,c2]
  exact HFIN.out
 ·have hP2:=blk_mod HP1.out hm2 (by omega)
  have hQ2:=blk_mod HQ1.out hm2 (by omega)
  have c0:w2.cell? ⟨w.heap.size,0,none⟩=some (.slice none 0 0):=blk_cell hP2 0
  have c1:w2.cell? ⟨w.heap.size,1,none⟩=some (.slice none 0 0):=blk_cell hP2 1
  have c2:w2.cell? ⟨w.heap.size+1,0,none⟩=some .nilIface:=blk_cell hQ2 0
  have z1:=blk_frozen hP2
  have z2:=blk_frozen hQ2
  have hB2:Below w.heap.size w w2:=⟨hm2.os.trans (HBL.out.os.trans HVB.out.os),hm2.tape.trans (HBL.out.tape.trans HVB.out.tape),hm2.output.trans (HBL.out.output.trans HVB.out.output),Nat.le_trans HVB.out.size (Nat.le_trans HBL.out.size hm2.size),fun k hk=>by rw [hm2.block k (by omega) (by omega),HBL.out.block k (by omega),HVB.out.block k hk]⟩
  have HFIN:Hid (PPost (parseL t.data.toList) w (.returned (.tuple #[.agg #[.slice none 0 0,.slice none 0 0],.iface 125 (.pointer (some ⟨bb,0,none⟩))])) (((w2.setCell ⟨w.heap.size,0,none⟩ (.slice none 0 0)).setCell ⟨w.heap.size,1,none⟩ (.slice none 0 0)).setCell ⟨w.heap.size+1,0,none⟩ (.iface 125 (.pointer (some ⟨bb,0,none⟩))))):=⟨((hB2.setCell (Nat.le_refl _) _).setCell (Nat.le_refl _) _).setCell (by show w.heap.size≤w.heap.size+1;omega) _,Or.inr ⟨f,bb,hf,rfl,by omega,by
   rw [Below.heap_setCell _ _ _ _ (show bb≠w.heap.size+1 by omega),Below.heap_setCell _ _ _ _ (show bb≠w.heap.size by omega),Below.heap_setCell _ _ _ _ (show bb≠w.heap.size by omega)]
   exact hcc⟩⟩
  refine leaves_cons (f:=87) (args:=#[.pointer (some ⟨w.heap.size,0,none⟩),.pointer (some ⟨w.heap.size+1,0,none⟩)]) (by simp) (by simp [go_sem]) ?_
  refine (catch_panicking w.heap.size (w.heap.size+1) _ _ _ ⟨bb,0,none⟩ [] _ c0 c1 c2 z1 z2 (by omega)).mono ?_
  rintro e u' w'' ⟨rfl,rfl,rfl⟩
  simp [Leaves,settle,results,Tryz.results59,go_sem,c0,c1,c2]
  exact HFIN.out
end
section
open Go.RowKit
attribute [local go_sem ↓] Go.wp_at_zero Go.wp_at_succ
theorem parse_long (t:ByteArray) (w:World) (ht:600 < t.size) :
 Calls Tryz.prog 59 #[.string t] w fun e w'=>e=.returned (.tuple #[.agg #[.slice none 0 0,.slice none 0 0],.iface 33 (.int .i64 1)])∧Below w.heap.size w w':=by
 have hmf:∀ (fn:Fn) (first cap:Array Value) (w:World),(Instr.makeFunc fn first cap).run Tryz.prog w=.ok (.func fn first cap) w:=fun _ _ _ _=>rfl
 have ht':(600:Int) < (t.size:Int):=by omega
 go_enter_defers Tryz.func59,Tryz.ntmps59
 go_wp2
 have hB:Below w.heap.size w ((w.alloc (.cells #[.slice none 0 0,.slice none 0 0] 91)).alloc (.cells #[.iface 33 (.int .i64 1)] 84)):=((Below.refl _ _).alloc (Nat.le_refl _) _).alloc (by simp) _
 have HB:=hide hB
 clear hB
 simp [bodyPostD,Leaves,settle,results,Tryz.results59,go_sem]
 exact HB.out
def PaPost (r:Except Flt (List (List UInt8)×List (CmdT 7))) (w:World) (e:Ending) (w':World):Prop:=
 Below w.heap.size w w'∧((∃ y g rv lv,r=.ok y∧e=.returned (.tuple #[.pointer (some ⟨g,0,none⟩),.nilIface])∧w.heap.size≤g∧w'.heap[g]?=some (.cells #[rv,lv] 124)∧reqX (fromB w.heap.size) y.1 w' rv∧blX (fromB w.heap.size) (CmdV 7) y.2 w' lv)∨(∃ f bb,r=.error f∧e=.returned (.tuple #[.pointer none,.iface 125 (.pointer (some ⟨bb,0,none⟩))])∧w.heap.size≤bb∧w'.heap[bb]?=some (.cells #[.int .i64 f.err,.int .i64 f.pos] 130)))
theorem mparse_short (t:ByteArray) (w:World) (ht:t.size≤600) (hm1:∃ m,w.cell? ⟨1,0,none⟩=some (.int .i64 m)) :
 Calls Tryz.prog 36 #[.string t] w (PaPost (parseL t.data.toList) w):=by
 go_enter Tryz.func36,Tryz.ntmps36
 go_wp2_with fail
 refine (parse_short t w ht hm1).mono ?_
 rintro e w1 ⟨hbl,⟨y,tv,hy,rfl,hv⟩ | ⟨f,bb,hf,rfl,hz,hcc⟩⟩
 ·obtain ⟨rv,lv,rfl,hrq,hbx⟩:=hv
  have HB:=hide hbl
  have HY:=hide hy
  have HRQ:=hide hrq
  have HBX:=hide hbx
  obtain ⟨ra,rn,rc,rfl⟩:=hrq.form
  obtain ⟨la,ln,lc,rfl⟩:=hbx.form
  have hz:=hbl.size
  clear hbl hy hrq hbx
  go_wp2
  refine bodyPost_ret (v:=.tuple #[.pointer (some ⟨w1.heap.size+1,0,none⟩),.nilIface]) (by simp [results,Tryz.results36,go_sem]) rfl ?_
  have hal:∀ X,AbvX X w1 ((w1.alloc (.cells #[.slice ra rn rc,.slice la ln lc] 91)).alloc (.cells #[.slice ra rn rc,.slice la ln lc] 124)):=fun X k _ hk=>by
   rw [Below.heap_alloc _ _ _ (by simp;omega),Below.heap_alloc _ _ _ hk]
  exact ⟨(HB.out.alloc hz _).alloc (by simp;omega) _,Or.inl ⟨y,_,_,_,HY.out,rfl,by omega,blk_newAt (by simp),HRQ.out.keep (hal _),HBX.out.keep (cmdV_tree 7) (hal _)⟩⟩
 ·have HB:=hide hbl
  have HF:=hide hf
  have HC:=hide hcc
  have hz2:=hbl.size
  clear hbl hf hcc
  go_wp2
  refine bodyPost_ret (v:=.tuple #[.pointer none,.iface 125 (.pointer (some ⟨bb,0,none⟩))]) (by simp [results,Tryz.results36,go_sem]) rfl ?_
  exact ⟨HB.out.alloc hz2 _,Or.inr ⟨f,bb,HF.out,rfl,hz,blk_alloc HC.out⟩⟩
end
end Go.Proofs.YtgnkjijocdmniaaGreatDoor
