import Derived.Laws.EntriesVeiled
import Derived.Test.YtbiclelojbfnbabGreatDoorZCIns
import Derived.Test.YtbiclelojbfnbabGreatDoorZMPut
import Derived.Test.YtbiclelojbfnbabGreatDoorMWay
import Derived.Test.YtbiclelojbfnbabGreatDoorZReaderT
import Derived.Test.YtbiclelojbfnbabGreatDoorZWTab
namespace Go.Proofs.YtbiclelojbfnbabGreatDoor
set_option linter.unusedVariables false
set_option linter.unusedSimpArgs false
set_option maxRecDepth 100000
set_option maxHeartbeats 4000000
section
open Go.RowKit
attribute [local go_sem ↓] Go.wp_at_zero Go.wp_at_succ
theorem QmW {l:Array Bool} {i:Nat} (h:i < l.size):(fun j=>(l.setIfInBounds i true).getD j false)=up (fun j=>l.getD j false) i:=by
 funext j
 unfold up
 by_cases e:j=i
 ·subst e;simp [h]
 ·rw [if_neg e];exact getD_set_ne false (Ne.symm e)
def tmC (t:ByteArray) (b:Nat) (u8 u16 u18 u20 u25 u26 u27:Value):Act:=
 { tmps:=#[.string t,undef,.pointer none,.pointer (some ⟨b+1,0,none⟩),.string t,.agg #[.string t,.int .i64 0,.int .i64 0,.string ⟨#[]⟩,.string ⟨#[]⟩,.int .i64 0,.int .i64 0,.slice none 0 0,.map none,.map none],(.pointer (some ⟨b,0,none⟩)),(.pointer (some ⟨b,0,none⟩)),u8,(.pointer (some ⟨b,0,none⟩)),(.func (.func 101) #[.pointer (some ⟨b,0,none⟩)] #[]),(.pointer (some ⟨b,0,none⟩)),(.func (.func 102) #[.pointer (some ⟨b,0,none⟩)] #[]),(.pointer (some ⟨b,0,none⟩)),(.func (.func 103) #[.pointer (some ⟨b,0,none⟩)] #[]),(.pointer (some ⟨b,0,none⟩)),u16,(.pointer (some ⟨b,0,none⟩)),u18,(.pointer (some ⟨b,0,none⟩)),u20,(.pointer (some ⟨b,0,none⟩)),(.func (.func 105) #[.pointer (some ⟨b,0,none⟩)] #[]),(.pointer (some ⟨b,0,none⟩)),(.func (.func 106) #[.pointer (some ⟨b,0,none⟩)] #[]),u25,u26,u27,undef,undef,undef,undef,undef,undef,undef,undef,undef,undef,undef,undef,undef,undef,undef,undef,undef,undef,undef],defers:=[] }
def JJC (t:ByteArray) (b:Nat) (W:World) (l:Array Bool) (a:Act) (w:World):Prop:=
 l.size=30∧(∀ i∈[0,2,3,5,6,8,9,11,14,17,20,21,23,24],l.getD i false=true)∧∃ u8 u16 u18 u20 u25 u26 u27,a=tmC t b u8 u16 u18 u20 u25 u26 u27∧JC t b W (.map none) (fun j=>l.getD j false) u8 u16 u18 u20 u25 u26 u27 w
theorem JJC.next {t:ByteArray} {b:Nat} {W:World} {l:Array Bool} {i:Nat} {u8 u16 u18 u20 u25 u26 u27:Value} {w:World} (hl:l.size=30) (ht:∀ i∈[0,2,3,5,6,8,9,11,14,17,20,21,23,24],l.getD i false=true) (hi:i < 30) (J:JC t b W (.map none) (up (fun j=>l.getD j false) i) u8 u16 u18 u20 u25 u26 u27 w):JJC t b W (l.setIfInBounds i true) (tmC t b u8 u16 u18 u20 u25 u26 u27) w:=
 ⟨by simp [hl],fun k hk=>getD_set_true (ht k hk),u8,u16,u18,u20,u25,u26,u27,rfl,by rw [QmW (by omega)];exact J⟩
def QsS (t:ByteArray) (w:World) (e:Ending) (w':World):Prop:=∃ mc mt pr pt pf p1 k1 p2 k2 p3 k3,e=.returned (.pointer (some ⟨w.heap.size,0,none⟩))∧RC w' w.heap.size t ps0 (.slice none 0 0) mc mt∧QmA w' w.heap.size mt pr pt pf∧QoF w' w.heap.size mc p1 k1 p2 k2 p3 k3∧Below w.heap.size w w'
def tmT (t:ByteArray) (b:Nat) (u8 u16 u18 u20 u25 u26 u27 u29 u30 u31 u43 u44 u45:Value):Act:=
 { tmps:=#[.string t,undef,.pointer none,.pointer (some ⟨b+1,0,none⟩),.string t,.agg #[.string t,.int .i64 0,.int .i64 0,.string ⟨#[]⟩,.string ⟨#[]⟩,.int .i64 0,.int .i64 0,.slice none 0 0,.map none,.map none],(.pointer (some ⟨b,0,none⟩)),(.pointer (some ⟨b,0,none⟩)),u8,(.pointer (some ⟨b,0,none⟩)),(.func (.func 101) #[.pointer (some ⟨b,0,none⟩)] #[]),(.pointer (some ⟨b,0,none⟩)),(.func (.func 102) #[.pointer (some ⟨b,0,none⟩)] #[]),(.pointer (some ⟨b,0,none⟩)),(.func (.func 103) #[.pointer (some ⟨b,0,none⟩)] #[]),(.pointer (some ⟨b,0,none⟩)),u16,(.pointer (some ⟨b,0,none⟩)),u18,(.pointer (some ⟨b,0,none⟩)),u20,(.pointer (some ⟨b,0,none⟩)),(.func (.func 105) #[.pointer (some ⟨b,0,none⟩)] #[]),(.pointer (some ⟨b,0,none⟩)),(.func (.func 106) #[.pointer (some ⟨b,0,none⟩)] #[]),u25,u26,u27,(.pointer (some ⟨b,0,none⟩)),u29,u30,u31,(.pointer (some ⟨b,0,none⟩)),(.func (.func 108) #[.pointer (some ⟨b,0,none⟩)] #[]),(.func (.func 109) #[] #[.pointer (some ⟨b+1,0,none⟩)]),(.func (.func 111) #[] #[.pointer (some ⟨b+1,0,none⟩)]),(.func (.func 112) #[] #[.pointer (some ⟨b+1,0,none⟩)]),(.func (.func 115) #[] #[.pointer (some ⟨b+1,0,none⟩)]),(.func (.func 118) #[] #[.pointer (some ⟨b+1,0,none⟩)]),(.pointer (some ⟨b,0,none⟩)),(.func (.func 119) #[.pointer (some ⟨b,0,none⟩)] #[]),(.pointer (some ⟨b,0,none⟩)),(.func (.func 120) #[.pointer (some ⟨b,0,none⟩)] #[]),u43,u44,u45,undef],defers:=[] }
def JJT (t:ByteArray) (b:Nat) (W:World) (mv1:Value) (u8 u16 u18 u20 u25 u26 u27:Value) (l:Array Bool) (a:Act) (w:World):Prop:=
 l.size=29∧(∀ i∈[0,6,7,9,11,13,15,17,19,20,22,23],l.getD i false=true)∧∃ u29 u30 u31 u43 u44 u45,a=tmT t b u8 u16 u18 u20 u25 u26 u27 u29 u30 u31 u43 u44 u45∧JT t b W mv1 (fun j=>l.getD j false) u29 u30 u31 u43 u44 u45 w
theorem JJT.next {t:ByteArray} {b:Nat} {W:World} {mv1:Value} {l:Array Bool} {i:Nat} {u8 u16 u18 u20 u25 u26 u27 u29 u30 u31 u43 u44 u45:Value} {w:World} (hl:l.size=29) (ht:∀ i∈[0,6,7,9,11,13,15,17,19,20,22,23],l.getD i false=true) (hi:i < 29) (J:JT t b W mv1 (up (fun j=>l.getD j false) i) u29 u30 u31 u43 u44 u45 w):JJT t b W mv1 u8 u16 u18 u20 u25 u26 u27 (l.setIfInBounds i true) (tmT t b u8 u16 u18 u20 u25 u26 u27 u29 u30 u31 u43 u44 u45) w:=
 ⟨by simp [hl],fun k hk=>getD_set_true (ht k hk),u29,u30,u31,u43,u44,u45,rfl,by rw [QmW (by omega)];exact J⟩
theorem QkW {w w':World} {o o':Obj} (h:Mod w.heap.size ((w.alloc o).alloc o') w'):Below w.heap.size w w':=
 ⟨h.os,h.tape,h.output,by have:=h.size;simp at this;omega,fun k hk=>by
  rw [h.block k (by simp;omega) (by omega),Below.heap_alloc _ _ _ (by simp;omega),Below.heap_alloc _ _ _ hk]⟩
theorem Qj7 (t:ByteArray) (w:World) (ht:t.size≤600) (hm1:∃ m,w.cell? ⟨1,0,none⟩=some (.int .i64 m)) :
 Calls Tryz.prog 59 #[.string t] w (QsS t w):=by
 have hmf:∀ (fn:Fn) (first cap:Array Value) (w:World),(Instr.makeFunc fn first cap).run Tryz.prog w=.ok (.func fn first cap) w:=fun _ _ _ _=>rfl
 go_enter Tryz.func59,Tryz.ntmps59
 go_wp2_with fail
 refine wp_region_held (S:=fun w'=>w'.cell? ⟨w.heap.size+1,0,none⟩=some (.pointer (some ⟨w.heap.size,0,none⟩))) (by kernel_rfl) ?_
 have hS:({ ((w.alloc (Qcf t (.map none) (.map none))).alloc (.cells #[.pointer (some ⟨w.heap.size,0,none⟩)] 132)) with drawn:=((w.alloc (Qcf t (.map none) (.map none))).alloc (.cells #[.pointer (some ⟨w.heap.size,0,none⟩)] 132)).drawn+1 }:World).cell? ⟨w.heap.size+1,0,none⟩=some (.pointer (some ⟨w.heap.size,0,none⟩)):=Qab (Qaw (by simp)) 0
 refine QaA 0 7 (.pointer (some ⟨w.heap.size,0,none⟩)) rfl hS (fun w' hSw=>by (try dsimp only at hSw);go_simp) ?_
 simp only [pt,List.set_cons_zero,List.set_cons_succ]
 refine QaA 2 9 (.pointer (some ⟨w.heap.size,0,none⟩)) rfl hS (fun w' hSw=>by (try dsimp only at hSw);go_simp) ?_
 simp only [pt,List.set_cons_zero,List.set_cons_succ]
 refine QaA 3 10 (.func (.func 101) #[.pointer (some ⟨w.heap.size,0,none⟩)] #[]) rfl hS (fun w' hSw=>by (try dsimp only at hSw);go_simp) ?_
 simp only [pt,List.set_cons_zero,List.set_cons_succ]
 refine QaA 5 11 (.pointer (some ⟨w.heap.size,0,none⟩)) rfl hS (fun w' hSw=>by (try dsimp only at hSw);go_simp) ?_
 simp only [pt,List.set_cons_zero,List.set_cons_succ]
 refine QaA 6 12 (.func (.func 102) #[.pointer (some ⟨w.heap.size,0,none⟩)] #[]) rfl hS (fun w' hSw=>by (try dsimp only at hSw);go_simp) ?_
 simp only [pt,List.set_cons_zero,List.set_cons_succ]
 refine QaA 8 13 (.pointer (some ⟨w.heap.size,0,none⟩)) rfl hS (fun w' hSw=>by (try dsimp only at hSw);go_simp) ?_
 simp only [pt,List.set_cons_zero,List.set_cons_succ]
 refine QaA 9 14 (.func (.func 103) #[.pointer (some ⟨w.heap.size,0,none⟩)] #[]) rfl hS (fun w' hSw=>by (try dsimp only at hSw);go_simp) ?_
 simp only [pt,List.set_cons_zero,List.set_cons_succ]
 refine QaA 11 15 (.pointer (some ⟨w.heap.size,0,none⟩)) rfl hS (fun w' hSw=>by (try dsimp only at hSw);go_simp) ?_
 simp only [pt,List.set_cons_zero,List.set_cons_succ]
 refine QaA 14 17 (.pointer (some ⟨w.heap.size,0,none⟩)) rfl hS (fun w' hSw=>by (try dsimp only at hSw);go_simp) ?_
 simp only [pt,List.set_cons_zero,List.set_cons_succ]
 refine QaA 17 19 (.pointer (some ⟨w.heap.size,0,none⟩)) rfl hS (fun w' hSw=>by (try dsimp only at hSw);go_simp) ?_
 simp only [pt,List.set_cons_zero,List.set_cons_succ]
 refine QaA 20 21 (.pointer (some ⟨w.heap.size,0,none⟩)) rfl hS (fun w' hSw=>by (try dsimp only at hSw);go_simp) ?_
 simp only [pt,List.set_cons_zero,List.set_cons_succ]
 refine QaA 21 22 (.func (.func 105) #[.pointer (some ⟨w.heap.size,0,none⟩)] #[]) rfl hS (fun w' hSw=>by (try dsimp only at hSw);go_simp) ?_
 simp only [pt,List.set_cons_zero,List.set_cons_succ]
 refine QaA 23 23 (.pointer (some ⟨w.heap.size,0,none⟩)) rfl hS (fun w' hSw=>by (try dsimp only at hSw);go_simp) ?_
 simp only [pt,List.set_cons_zero,List.set_cons_succ]
 refine QaA 24 24 (.func (.func 106) #[.pointer (some ⟨w.heap.size,0,none⟩)] #[]) rfl hS (fun w' hSw=>by (try dsimp only at hSw);go_simp) ?_
 simp only [pt,List.set_cons_zero,List.set_cons_succ]
 refine Qe2 (JJC t w.heap.size ((w.alloc (Qcf t (.map none) (.map none))).alloc (.cells #[.pointer (some ⟨w.heap.size,0,none⟩)] 132))) (fun l a w' h=>by rw [h.1];rfl) (fun l a w' h=>?hSS) (fun l a w' i h hi=>?hstep) (fun l a w' h hr=>?hdone) _ _ _ _ (by decide) ?hinit
 case hSS=>
  obtain ⟨_,_,_,_,_,_,_,_,_,_,J⟩:=h
  exact QbK (Qab (Qaw (by simp)) 0) J.mod (by omega)
 case hinit=>
  refine ⟨rfl,by decide,undef,undef,undef,undef,undef,undef,undef,rfl,?_⟩
  exact ⟨by simp;omega,(Mod.refl _ _).drew,Qad (QaB _ _),fun h=>absurd h (by decide),fun h=>absurd h (by decide),fun h=>absurd h (by decide),fun h=>absurd h (by decide),fun h=>absurd h (by decide),fun h=>absurd h (by decide),fun h=>absurd h (by decide),fun h=>absurd h (by decide),fun h=>absurd h (by decide),fun h=>absurd h (by decide),fun h=>absurd h (by decide),fun h=>absurd h (by decide),fun h=>absurd h (by decide),fun h=>absurd h (by decide),fun h=>absurd h (by decide),fun h=>absurd h (by decide),fun h=>absurd h (by decide),fun h=>absurd h (by decide),fun h=>absurd h (by decide)⟩
 case hdone=>
  obtain ⟨hl,htk,u8,u16,u18,u20,u25,u26,u27,rfl,J⟩:=h
  have hal:=Qed hl (by kernel_rfl) hr
  obtain ⟨m,p1,k1,p2,k2,p3,k3,hrd,hcm,hmod,hWm⟩:=J.done hal
  clear J hal hr htk hl hS
  unfold tmC
  go_wp2_with fail
  have hpr:Qla w' (w.heap.size+1) w.heap.size:=⟨QbK (Qab (Qaw (by simp)) 0) hmod (by omega),by omega⟩
  have hbW:=QaM hrd
  have HRD:=Qaa hrd
  have HCM:=Qaa hcm
  have HMOD:=Qaa hmod
  have HPR:=Qaa hpr
  clear hrd hcm hmod hpr
  refine wp_region_held (S:=fun w2=>w2.cell? ⟨w.heap.size+1,0,none⟩=some (.pointer (some ⟨w.heap.size,0,none⟩))) (by kernel_rfl) ?_
  have hS:({ w' with drawn:=w'.drawn+1 }:World).cell? ⟨w.heap.size+1,0,none⟩=some (.pointer (some ⟨w.heap.size,0,none⟩)):=HPR.out.1
  refine QaA 0 28 (.pointer (some ⟨w.heap.size,0,none⟩)) rfl hS (fun w' hSw=>by (try dsimp only at hSw);go_simp) ?_
  simp only [pt,List.set_cons_zero,List.set_cons_succ]
  refine QaA 6 32 (.pointer (some ⟨w.heap.size,0,none⟩)) rfl hS (fun w' hSw=>by (try dsimp only at hSw);go_simp) ?_
  simp only [pt,List.set_cons_zero,List.set_cons_succ]
  refine QaA 7 33 (.func (.func 108) #[.pointer (some ⟨w.heap.size,0,none⟩)] #[]) rfl hS (fun w' hSw=>by (try dsimp only at hSw);go_simp) ?_
  simp only [pt,List.set_cons_zero,List.set_cons_succ]
  refine QaA 9 34 (.func (.func 109) #[] #[.pointer (some ⟨w.heap.size+1,0,none⟩)]) rfl hS (fun w' hSw=>by (try dsimp only at hSw);go_simp) ?_
  simp only [pt,List.set_cons_zero,List.set_cons_succ]
  refine QaA 11 35 (.func (.func 111) #[] #[.pointer (some ⟨w.heap.size+1,0,none⟩)]) rfl hS (fun w' hSw=>by (try dsimp only at hSw);go_simp) ?_
  simp only [pt,List.set_cons_zero,List.set_cons_succ]
  refine QaA 13 36 (.func (.func 112) #[] #[.pointer (some ⟨w.heap.size+1,0,none⟩)]) rfl hS (fun w' hSw=>by (try dsimp only at hSw);go_simp) ?_
  simp only [pt,List.set_cons_zero,List.set_cons_succ]
  refine QaA 15 37 (.func (.func 115) #[] #[.pointer (some ⟨w.heap.size+1,0,none⟩)]) rfl hS (fun w' hSw=>by (try dsimp only at hSw);go_simp) ?_
  simp only [pt,List.set_cons_zero,List.set_cons_succ]
  refine QaA 17 38 (.func (.func 118) #[] #[.pointer (some ⟨w.heap.size+1,0,none⟩)]) rfl hS (fun w' hSw=>by (try dsimp only at hSw);go_simp) ?_
  simp only [pt,List.set_cons_zero,List.set_cons_succ]
  refine QaA 19 39 (.pointer (some ⟨w.heap.size,0,none⟩)) rfl hS (fun w' hSw=>by (try dsimp only at hSw);go_simp) ?_
  simp only [pt,List.set_cons_zero,List.set_cons_succ]
  refine QaA 20 40 (.func (.func 119) #[.pointer (some ⟨w.heap.size,0,none⟩)] #[]) rfl hS (fun w' hSw=>by (try dsimp only at hSw);go_simp) ?_
  simp only [pt,List.set_cons_zero,List.set_cons_succ]
  refine QaA 22 41 (.pointer (some ⟨w.heap.size,0,none⟩)) rfl hS (fun w' hSw=>by (try dsimp only at hSw);go_simp) ?_
  simp only [pt,List.set_cons_zero,List.set_cons_succ]
  refine QaA 23 42 (.func (.func 120) #[.pointer (some ⟨w.heap.size,0,none⟩)] #[]) rfl hS (fun w' hSw=>by (try dsimp only at hSw);go_simp) ?_
  simp only [pt,List.set_cons_zero,List.set_cons_succ]
  refine Qe2 (JJT t w.heap.size w' (.map (some m)) u8 u16 u18 u20 u25 u26 u27) (fun l a w' h=>by rw [h.1];rfl) (fun l a w' h=>?hSS2) (fun l a w2 i h hi=>?hstep2) (fun l a w2 h hr=>?hdone2) _ _ _ _ (by decide) ?hinit2
  case hSS2=>
   obtain ⟨_,_,_,_,_,_,_,_,_,J⟩:=h
   exact QbK HPR.out.1 J.mod (by omega)
  case hinit2=>
   refine ⟨rfl,by decide,undef,undef,undef,undef,undef,undef,rfl,?_⟩
   exact ⟨hbW,(Mod.refl _ _).drew,HRD.out,fun h=>absurd h (by decide),fun h=>absurd h (by decide),fun h=>absurd h (by decide),fun h=>absurd h (by decide),fun h=>absurd h (by decide),fun h=>absurd h (by decide),fun h=>absurd h (by decide),fun h=>absurd h (by decide),fun h=>absurd h (by decide),fun h=>absurd h (by decide),fun h=>absurd h (by decide),fun h=>absurd h (by decide),fun h=>absurd h (by decide),fun h=>absurd h (by decide),fun h=>absurd h (by decide),fun h=>absurd h (by decide),fun h=>absurd h (by decide),fun h=>absurd h (by decide),fun h=>absurd h (by decide)⟩
  case hdone2=>
   obtain ⟨hl,htk,u29,u30,u31,u43,u44,u45,rfl,J⟩:=h
   have hal:=Qed hl (by kernel_rfl) hr
   obtain ⟨mt,pt,pf,hrd,htm,hmod,_⟩:=J.done hal HPR.out
   have hc0:=(HPR.out.mod hmod).1
   have HFIN:Hid (QsS t w (.returned (.pointer (some ⟨w.heap.size,0,none⟩))) w2):=by
    have hbl:=QkW (HMOD.out.trans hmod)
    obtain ⟨mm,hmm⟩:=hm1
    have h1lt:=Qay hmm
    exact ⟨m,mt,w.heap.size+1,pt,pf,p1,k1,p2,k2,p3,k3,rfl,⟨hrd,Nat.zero_le _,⟨mm,by rw [hbl.cell (p:=⟨1,0,none⟩) h1lt];exact hmm⟩,h1lt,ht,⟨Nat.zero_le _,by decide⟩,fun _=>rfl,fun _ c r e=>by cases e⟩,htm,HCM.out.mod hmod,hbl⟩
   clear J hal hr htk hl hS hrd htm hmod
   unfold tmT
   go_wp2
   go_ret
   exact HFIN.out
  case hstep2=>
   obtain ⟨hl,htk,u29,u30,u31,u43,u44,u45,rfl,J⟩:=h
   obtain ⟨h0,o,ho,hall⟩:=mem_ready.1 hi
   have hi30:i < 29:=(Array.getElem?_eq_some_iff.1 ho).1
   have h0':l.getD i false=false:=by
    have:i < l.size:=by omega
    simp [this] at h0 ⊢
    exact h0
   clear h0
   rcases (by omega:i=0∨i=1∨i=2∨i=3∨i=4∨i=5∨i=6∨i=7∨i=8∨i=9∨i=10∨i=11∨i=12∨i=13∨i=14∨i=15∨i=16∨i=17∨i=18∨i=19∨i=20∨i=21∨i=22∨i=23∨i=24∨i=25∨i=26∨i=27∨i=28) with hh | hh | hh | hh | hh | hh | hh | hh | hh | hh | hh | hh | hh | hh | hh | hh | hh | hh | hh | hh | hh | hh | hh | hh | hh | hh | hh | hh | hh <;> subst hh
   ·rw [htk 0 (by decide)] at h0';cases h0'
   ·clear ho hall hi
    refine QaG rfl (by rfl) ?_
    unfold tmT
    go_simp
    exact JJT.next hl htk (by decide) (J.s1 h0')
   ·clear ho hall hi
    refine QaG rfl (by rfl) ?_
    unfold tmT
    go_simp
    refine (QlD true _).mono ?_
    rintro e w3 ⟨rfl,rfl⟩
    exact JJT.next hl htk (by decide) (J.s2 h0')
   ·have ho2:=Option.some.inj (show some _=some o from ho)
    subst ho2
    have h1:=hall { on:=1,ground:=.data } (by simp) rfl
    have h2:=hall { on:=2,ground:=.data } (by simp) rfl
    clear ho hall hi
    obtain ⟨m2,es,c,rfl,hm,hf,hn,J'⟩:=J.s3 h0' h1 h2
    have hrun:(Instr.mapUpdate 192 (.map (some m2)) (.string ⟨#[116,114,117,101]⟩) (u30)).run Tryz.prog w2=.ok () _:=QaO Tryz.underlying192 Tryz.underlying9 hm hf hn _
    refine QaG rfl (by rfl) ?_
    unfold tmT
    go_simp
    exact JJT.next hl htk (by decide) J'
   ·clear ho hall hi
    refine QaG rfl (by rfl) ?_
    unfold tmT
    go_simp
    refine (QlD false _).mono ?_
    rintro e w3 ⟨rfl,rfl⟩
    exact JJT.next hl htk (by decide) (J.s4 h0')
   ·have ho2:=Option.some.inj (show some _=some o from ho)
    subst ho2
    have h1:=hall { on:=1,ground:=.data } (by simp) rfl
    have h2:=hall { on:=4,ground:=.data } (by simp) rfl
    clear ho hall hi
    obtain ⟨m2,es,c,rfl,hm,hf,hn,J'⟩:=J.s5 h0' h1 h2
    have hrun:(Instr.mapUpdate 192 (.map (some m2)) (.string ⟨#[102,97,108,115,101]⟩) (u31)).run Tryz.prog w2=.ok () _:=QaO Tryz.underlying192 Tryz.underlying9 hm hf hn _
    refine QaG rfl (by rfl) ?_
    unfold tmT
    go_simp
    exact JJT.next hl htk (by decide) J'
   ·rw [htk 6 (by decide)] at h0';cases h0'
   ·rw [htk 7 (by decide)] at h0';cases h0'
   ·have ho2:=Option.some.inj (show some _=some o from ho)
    subst ho2
    have h1:=hall { on:=1,ground:=.data } (by simp) rfl
    clear ho hall hi
    obtain ⟨m2,es,c,rfl,hm,hf,hn,J'⟩:=J.s8 h0' h1
    have hrun:(Instr.mapUpdate 192 (.map (some m2)) (.string ⟨#[110,111,116]⟩) (.func (.func 108) #[.pointer (some ⟨w.heap.size,0,none⟩)] #[])).run Tryz.prog w2=.ok () _:=QaO Tryz.underlying192 Tryz.underlying9 hm hf hn _
    refine QaG rfl (by rfl) ?_
    unfold tmT
    go_simp
    exact JJT.next hl htk (by decide) J'
   ·rw [htk 9 (by decide)] at h0';cases h0'
   ·have ho2:=Option.some.inj (show some _=some o from ho)
    subst ho2
    have h1:=hall { on:=1,ground:=.data } (by simp) rfl
    clear ho hall hi
    obtain ⟨m2,es,c,rfl,hm,hf,hn,J'⟩:=J.s10 h0' h1
    have hrun:(Instr.mapUpdate 192 (.map (some m2)) (.string ⟨#[97,108,108,111,102]⟩) (.func (.func 109) #[] #[.pointer (some ⟨w.heap.size+1,0,none⟩)])).run Tryz.prog w2=.ok () _:=QaO Tryz.underlying192 Tryz.underlying9 hm hf hn _
    refine QaG rfl (by rfl) ?_
    unfold tmT
    go_simp
    exact JJT.next hl htk (by decide) J'
   ·rw [htk 11 (by decide)] at h0';cases h0'
   ·have ho2:=Option.some.inj (show some _=some o from ho)
    subst ho2
    have h1:=hall { on:=1,ground:=.data } (by simp) rfl
    clear ho hall hi
    obtain ⟨m2,es,c,rfl,hm,hf,hn,J'⟩:=J.s12 h0' h1
    have hrun:(Instr.mapUpdate 192 (.map (some m2)) (.string ⟨#[97,110,121,111,102]⟩) (.func (.func 111) #[] #[.pointer (some ⟨w.heap.size+1,0,none⟩)])).run Tryz.prog w2=.ok () _:=QaO Tryz.underlying192 Tryz.underlying9 hm hf hn _
    refine QaG rfl (by rfl) ?_
    unfold tmT
    go_simp
    exact JJT.next hl htk (by decide) J'
   ·rw [htk 13 (by decide)] at h0';cases h0'
   ·have ho2:=Option.some.inj (show some _=some o from ho)
    subst ho2
    have h1:=hall { on:=1,ground:=.data } (by simp) rfl
    clear ho hall hi
    obtain ⟨m2,es,c,rfl,hm,hf,hn,J'⟩:=J.s14 h0' h1
    have hrun:(Instr.mapUpdate 192 (.map (some m2)) (.string ⟨#[104,101,97,100,101,114]⟩) (.func (.func 112) #[] #[.pointer (some ⟨w.heap.size+1,0,none⟩)])).run Tryz.prog w2=.ok () _:=QaO Tryz.underlying192 Tryz.underlying9 hm hf hn _
    refine QaG rfl (by rfl) ?_
    unfold tmT
    go_simp
    exact JJT.next hl htk (by decide) J'
   ·rw [htk 15 (by decide)] at h0';cases h0'
   ·have ho2:=Option.some.inj (show some _=some o from ho)
    subst ho2
    have h1:=hall { on:=1,ground:=.data } (by simp) rfl
    clear ho hall hi
    obtain ⟨m2,es,c,rfl,hm,hf,hn,J'⟩:=J.s16 h0' h1
    have hrun:(Instr.mapUpdate 192 (.map (some m2)) (.string ⟨#[101,110,118,101,108,111,112,101]⟩) (.func (.func 115) #[] #[.pointer (some ⟨w.heap.size+1,0,none⟩)])).run Tryz.prog w2=.ok () _:=QaO Tryz.underlying192 Tryz.underlying9 hm hf hn _
    refine QaG rfl (by rfl) ?_
    unfold tmT
    go_simp
    exact JJT.next hl htk (by decide) J'
   ·rw [htk 17 (by decide)] at h0';cases h0'
   ·have ho2:=Option.some.inj (show some _=some o from ho)
    subst ho2
    have h1:=hall { on:=1,ground:=.data } (by simp) rfl
    clear ho hall hi
    obtain ⟨m2,es,c,rfl,hm,hf,hn,J'⟩:=J.s18 h0' h1
    have hrun:(Instr.mapUpdate 192 (.map (some m2)) (.string ⟨#[115,116,114,105,110,103]⟩) (.func (.func 118) #[] #[.pointer (some ⟨w.heap.size+1,0,none⟩)])).run Tryz.prog w2=.ok () _:=QaO Tryz.underlying192 Tryz.underlying9 hm hf hn _
    refine QaG rfl (by rfl) ?_
    unfold tmT
    go_simp
    exact JJT.next hl htk (by decide) J'
   ·rw [htk 19 (by decide)] at h0';cases h0'
   ·rw [htk 20 (by decide)] at h0';cases h0'
   ·have ho2:=Option.some.inj (show some _=some o from ho)
    subst ho2
    have h1:=hall { on:=1,ground:=.data } (by simp) rfl
    clear ho hall hi
    obtain ⟨m2,es,c,rfl,hm,hf,hn,J'⟩:=J.s21 h0' h1
    have hrun:(Instr.mapUpdate 192 (.map (some m2)) (.string ⟨#[101,120,105,115,116,115]⟩) (.func (.func 119) #[.pointer (some ⟨w.heap.size,0,none⟩)] #[])).run Tryz.prog w2=.ok () _:=QaO Tryz.underlying192 Tryz.underlying9 hm hf hn _
    refine QaG rfl (by rfl) ?_
    unfold tmT
    go_simp
    exact JJT.next hl htk (by decide) J'
   ·rw [htk 22 (by decide)] at h0';cases h0'
   ·rw [htk 23 (by decide)] at h0';cases h0'
   ·have ho2:=Option.some.inj (show some _=some o from ho)
    subst ho2
    have h1:=hall { on:=1,ground:=.data } (by simp) rfl
    clear ho hall hi
    obtain ⟨m2,es,c,rfl,hm,hf,hn,J'⟩:=J.s24 h0' h1
    have hrun:(Instr.mapUpdate 192 (.map (some m2)) (.string ⟨#[115,105,122,101]⟩) (.func (.func 120) #[.pointer (some ⟨w.heap.size,0,none⟩)] #[])).run Tryz.prog w2=.ok () _:=QaO Tryz.underlying192 Tryz.underlying9 hm hf hn _
    refine QaG rfl (by rfl) ?_
    unfold tmT
    go_simp
    exact JJT.next hl htk (by decide) J'
   ·have ho2:=Option.some.inj (show some _=some o from ho)
    subst ho2
    have h1:=hall { on:=1,ground:=.data } (by simp) rfl
    have hi3:=hall { on:=3,ground:=.data } (by simp) rfl
    have hi5:=hall { on:=5,ground:=.data } (by simp) rfl
    have hi8:=hall { on:=8,ground:=.data } (by simp) rfl
    have hi10:=hall { on:=10,ground:=.data } (by simp) rfl
    have hi12:=hall { on:=12,ground:=.data } (by simp) rfl
    have hi14:=hall { on:=14,ground:=.data } (by simp) rfl
    have hi16:=hall { on:=16,ground:=.data } (by simp) rfl
    have hi18:=hall { on:=18,ground:=.data } (by simp) rfl
    have hi21:=hall { on:=21,ground:=.data } (by simp) rfl
    have hi24:=hall { on:=24,ground:=.data } (by simp) rfl
    clear ho hall hi
    refine QaG rfl (by rfl) ?_
    unfold tmT
    go_simp
    exact JJT.next hl htk (by decide) (J.s25 h0' h1 hi3 hi5 hi8 hi10 hi12 hi14 hi16 hi18 hi21 hi24)
   ·clear ho hall hi
    refine QaG rfl (by rfl) ?_
    unfold tmT
    go_simp
    exact JJT.next hl htk (by decide) (J.s26 h0')
   ·have ho2:=Option.some.inj (show some _=some o from ho)
    subst ho2
    have h1:=hall { on:=26,ground:=.data } (by simp) rfl
    obtain rfl:=J.m26 h1
    clear ho hall hi
    refine QaG rfl (by rfl) ?_
    unfold tmT
    go_simp
    exact JJT.next hl htk (by decide) (J.s27 h0')
   ·have ho2:=Option.some.inj (show some _=some o from ho)
    subst ho2
    have h27:=hall { on:=27,ground:=.data } (by simp) rfl
    have h25:=hall { on:=25,ground:=.data } (by simp) rfl
    obtain rfl:=J.m27 h27
    obtain ⟨rfl,h1,_⟩:=J.m25 h25
    obtain ⟨m2,es,c,rfl,_,_,_⟩:=J.mp h1
    clear ho hall hi
    have hr:=J.rd
    unfold Qcf at hr
    have hc9:w2.cell? ⟨w.heap.size,9,none⟩=some _:=Qab hr 9
    rw [show (l.getD 28 false)=false from h0'] at hc9
    have hfz:=Qam hr
    refine QaG rfl (by rfl) ?_
    unfold tmT
    go_simp
    exact JJT.next hl htk (by decide) (J.s28 h0' h25)
 case hstep=>
  obtain ⟨hl,htk,u8,u16,u18,u20,u25,u26,u27,rfl,J⟩:=h
  obtain ⟨h0,o,ho,hall⟩:=mem_ready.1 hi
  have hi30:i < 30:=(Array.getElem?_eq_some_iff.1 ho).1
  have h0':l.getD i false=false:=by
   have:i < l.size:=by omega
   simp [this] at h0 ⊢
   exact h0
  clear h0
  rcases (by omega:i=0∨i=1∨i=2∨i=3∨i=4∨i=5∨i=6∨i=7∨i=8∨i=9∨i=10∨i=11∨i=12∨i=13∨i=14∨i=15∨i=16∨i=17∨i=18∨i=19∨i=20∨i=21∨i=22∨i=23∨i=24∨i=25∨i=26∨i=27∨i=28∨i=29) with hh | hh | hh | hh | hh | hh | hh | hh | hh | hh | hh | hh | hh | hh | hh | hh | hh | hh | hh | hh | hh | hh | hh | hh | hh | hh | hh | hh | hh | hh <;> subst hh
  ·rw [htk 0 (by decide)] at h0';cases h0'
  ·clear ho hall hi
   refine QaG rfl (by rfl) ?_
   unfold tmC
   go_simp
   exact JJC.next hl htk (by decide) (J.s1 h0')
  ·rw [htk 2 (by decide)] at h0';cases h0'
  ·rw [htk 3 (by decide)] at h0';cases h0'
  ·have ho2:=Option.some.inj (show some _=some o from ho)
   subst ho2
   have h1:=hall { on:=1,ground:=.data } (by simp) rfl
   clear ho hall hi
   obtain ⟨m,es,c,rfl,hm,hf,hn,J'⟩:=J.s4 h0' h1
   have hrun:(Instr.mapUpdate 191 (.map (some m)) (.string ⟨#[107,101,101,112]⟩) (.func (.func 101) #[.pointer (some ⟨w.heap.size,0,none⟩)] #[])).run Tryz.prog w'=.ok () _:=QaO Tryz.underlying191 Tryz.underlying9 hm hf hn _
   refine QaG rfl (by rfl) ?_
   unfold tmC
   go_simp
   exact JJC.next hl htk (by decide) J'
  ·rw [htk 5 (by decide)] at h0';cases h0'
  ·rw [htk 6 (by decide)] at h0';cases h0'
  ·have ho2:=Option.some.inj (show some _=some o from ho)
   subst ho2
   have h1:=hall { on:=1,ground:=.data } (by simp) rfl
   clear ho hall hi
   obtain ⟨m,es,c,rfl,hm,hf,hn,J'⟩:=J.s7 h0' h1
   have hrun:(Instr.mapUpdate 191 (.map (some m)) (.string ⟨#[100,105,115,99,97,114,100]⟩) (.func (.func 102) #[.pointer (some ⟨w.heap.size,0,none⟩)] #[])).run Tryz.prog w'=.ok () _:=QaO Tryz.underlying191 Tryz.underlying9 hm hf hn _
   refine QaG rfl (by rfl) ?_
   unfold tmC
   go_simp
   exact JJC.next hl htk (by decide) J'
  ·rw [htk 8 (by decide)] at h0';cases h0'
  ·rw [htk 9 (by decide)] at h0';cases h0'
  ·have ho2:=Option.some.inj (show some _=some o from ho)
   subst ho2
   have h1:=hall { on:=1,ground:=.data } (by simp) rfl
   clear ho hall hi
   obtain ⟨m,es,c,rfl,hm,hf,hn,J'⟩:=J.s10 h0' h1
   have hrun:(Instr.mapUpdate 191 (.map (some m)) (.string ⟨#[115,116,111,112]⟩) (.func (.func 103) #[.pointer (some ⟨w.heap.size,0,none⟩)] #[])).run Tryz.prog w'=.ok () _:=QaO Tryz.underlying191 Tryz.underlying9 hm hf hn _
   refine QaG rfl (by rfl) ?_
   unfold tmC
   go_simp
   exact JJC.next hl htk (by decide) J'
  ·rw [htk 11 (by decide)] at h0';cases h0'
  ·clear ho hall hi
   refine QaG rfl (by rfl) ?_
   unfold tmC
   go_simp
   refine (Qnz _ w.heap.size 2 _ rfl).mono ?_
   rintro e w2 ⟨rfl,rfl⟩
   exact JJC.next hl htk (by decide) (J.s12 h0')
  ·have ho2:=Option.some.inj (show some _=some o from ho)
   subst ho2
   have h1:=hall { on:=1,ground:=.data } (by simp) rfl
   have h2:=hall { on:=12,ground:=.data } (by simp) rfl
   clear ho hall hi
   obtain ⟨m,es,c,rfl,hm,hf,hn,J'⟩:=J.s13 h0' h1 h2
   have hrun:(Instr.mapUpdate 191 (.map (some m)) (.string ⟨#[102,105,108,101,105,110,116,111]⟩) (u16)).run Tryz.prog w'=.ok () _:=QaO Tryz.underlying191 Tryz.underlying9 hm hf hn _
   refine QaG rfl (by rfl) ?_
   unfold tmC
   go_simp
   exact JJC.next hl htk (by decide) J'
  ·rw [htk 14 (by decide)] at h0';cases h0'
  ·clear ho hall hi
   refine QaG rfl (by rfl) ?_
   unfold tmC
   go_simp
   refine (Qnz _ w.heap.size 3 _ rfl).mono ?_
   rintro e w2 ⟨rfl,rfl⟩
   exact JJC.next hl htk (by decide) (J.s15 h0')
  ·have ho2:=Option.some.inj (show some _=some o from ho)
   subst ho2
   have h1:=hall { on:=1,ground:=.data } (by simp) rfl
   have h2:=hall { on:=15,ground:=.data } (by simp) rfl
   clear ho hall hi
   obtain ⟨m,es,c,rfl,hm,hf,hn,J'⟩:=J.s16 h0' h1 h2
   have hrun:(Instr.mapUpdate 191 (.map (some m)) (.string ⟨#[114,101,100,105,114,101,99,116]⟩) (u18)).run Tryz.prog w'=.ok () _:=QaO Tryz.underlying191 Tryz.underlying9 hm hf hn _
   refine QaG rfl (by rfl) ?_
   unfold tmC
   go_simp
   exact JJC.next hl htk (by decide) J'
  ·rw [htk 17 (by decide)] at h0';cases h0'
  ·clear ho hall hi
   refine QaG rfl (by rfl) ?_
   unfold tmC
   go_simp
   refine (Qnz _ w.heap.size 4 _ rfl).mono ?_
   rintro e w2 ⟨rfl,rfl⟩
   exact JJC.next hl htk (by decide) (J.s18 h0')
  ·have ho2:=Option.some.inj (show some _=some o from ho)
   subst ho2
   have h1:=hall { on:=1,ground:=.data } (by simp) rfl
   have h2:=hall { on:=18,ground:=.data } (by simp) rfl
   clear ho hall hi
   obtain ⟨m,es,c,rfl,hm,hf,hn,J'⟩:=J.s19 h0' h1 h2
   have hrun:(Instr.mapUpdate 191 (.map (some m)) (.string ⟨#[114,101,106,101,99,116]⟩) (u20)).run Tryz.prog w'=.ok () _:=QaO Tryz.underlying191 Tryz.underlying9 hm hf hn _
   refine QaG rfl (by rfl) ?_
   unfold tmC
   go_simp
   exact JJC.next hl htk (by decide) J'
  ·rw [htk 20 (by decide)] at h0';cases h0'
  ·rw [htk 21 (by decide)] at h0';cases h0'
  ·have ho2:=Option.some.inj (show some _=some o from ho)
   subst ho2
   have h1:=hall { on:=1,ground:=.data } (by simp) rfl
   clear ho hall hi
   obtain ⟨m,es,c,rfl,hm,hf,hn,J'⟩:=J.s22 h0' h1
   have hrun:(Instr.mapUpdate 191 (.map (some m)) (.string ⟨#[115,101,116]⟩) (.func (.func 105) #[.pointer (some ⟨w.heap.size,0,none⟩)] #[])).run Tryz.prog w'=.ok () _:=QaO Tryz.underlying191 Tryz.underlying9 hm hf hn _
   refine QaG rfl (by rfl) ?_
   unfold tmC
   go_simp
   exact JJC.next hl htk (by decide) J'
  ·rw [htk 23 (by decide)] at h0';cases h0'
  ·rw [htk 24 (by decide)] at h0';cases h0'
  ·have ho2:=Option.some.inj (show some _=some o from ho)
   subst ho2
   have h1:=hall { on:=1,ground:=.data } (by simp) rfl
   clear ho hall hi
   obtain ⟨m,es,c,rfl,hm,hf,hn,J'⟩:=J.s25 h0' h1
   have hrun:(Instr.mapUpdate 191 (.map (some m)) (.string ⟨#[105,102]⟩) (.func (.func 106) #[.pointer (some ⟨w.heap.size,0,none⟩)] #[])).run Tryz.prog w'=.ok () _:=QaO Tryz.underlying191 Tryz.underlying9 hm hf hn _
   refine QaG rfl (by rfl) ?_
   unfold tmC
   go_simp
   exact JJC.next hl htk (by decide) J'
  ·have ho2:=Option.some.inj (show some _=some o from ho)
   subst ho2
   have h1:=hall { on:=1,ground:=.data } (by simp) rfl
   have hi4:=hall { on:=4,ground:=.data } (by simp) rfl
   have hi7:=hall { on:=7,ground:=.data } (by simp) rfl
   have hi10:=hall { on:=10,ground:=.data } (by simp) rfl
   have hi13:=hall { on:=13,ground:=.data } (by simp) rfl
   have hi16:=hall { on:=16,ground:=.data } (by simp) rfl
   have hi19:=hall { on:=19,ground:=.data } (by simp) rfl
   have hi22:=hall { on:=22,ground:=.data } (by simp) rfl
   have hi25:=hall { on:=25,ground:=.data } (by simp) rfl
   clear ho hall hi
   refine QaG rfl (by rfl) ?_
   unfold tmC
   go_simp
   exact JJC.next hl htk (by decide) (J.s26 h0' h1 hi4 hi7 hi10 hi13 hi16 hi19 hi22 hi25)
  ·clear ho hall hi
   refine QaG rfl (by rfl) ?_
   unfold tmC
   go_simp
   exact JJC.next hl htk (by decide) (J.s27 h0')
  ·have ho2:=Option.some.inj (show some _=some o from ho)
   subst ho2
   have h1:=hall { on:=27,ground:=.data } (by simp) rfl
   obtain rfl:=J.m27 h1
   clear ho hall hi
   refine QaG rfl (by rfl) ?_
   unfold tmC
   go_simp
   exact JJC.next hl htk (by decide) (J.s28 h0')
  ·have ho2:=Option.some.inj (show some _=some o from ho)
   subst ho2
   have h28:=hall { on:=28,ground:=.data } (by simp) rfl
   have h26:=hall { on:=26,ground:=.data } (by simp) rfl
   obtain rfl:=J.m28 h28
   obtain ⟨rfl,h1,_⟩:=J.m26 h26
   obtain ⟨m,es,c,rfl,_,_,_⟩:=J.mp h1
   clear ho hall hi
   have hr:=J.rd
   unfold Qcf at hr
   have hc8:w'.cell? ⟨w.heap.size,8,none⟩=some _:=Qab hr 8
   rw [show (l.getD 29 false)=false from h0'] at hc8
   have hfz:=Qam hr
   refine QaG rfl (by rfl) ?_
   unfold tmC
   go_simp
   exact JJC.next hl htk (by decide) (J.s29 h0' h26)
end
section
open Go.RowKit
attribute [local go_sem ↓] Go.wp_at_zero Go.wp_at_succ
def Qc3 (es:Array MapEntry) (f:Int→Option Value):Prop:=
 (∀ e∈es.toList,∃ x,e.key=.int .i64 x∧f x=some e.val)∧∀ x v,f x=some v→∃ e∈es.toList,e.key=.int .i64 x
theorem Qc3.keys {es:Array MapEntry} {f:Int→Option Value} (h:Qc3 es f):∀ e∈es.toList,MapKept.IsKey (.int .i64) e.key:=fun e he=>by
 obtain ⟨x,hx,_⟩:=h.1 e he
 rw [hx];rfl
theorem Qc3.empty:Qc3 #[] (fun _=>none):=⟨fun e he=>by simp at he,fun x v h=>by cases h⟩
theorem Qc3.push {es:Array MapEntry} {f g:Int→Option Value} (h:Qc3 es f) {x:Int} {v:Value} {c:Nat} (hn:f x=none) (hx:g x=some v) (hg:∀ z,z≠x→g z=f z):Qc3 (es.push ⟨.int .i64 x,v,c⟩) g:=by
 refine ⟨fun e he=>?_,fun z u hz=>?_⟩
 ·simp only [Array.toList_push,List.mem_append,List.mem_singleton] at he
  rcases he with he | he
  ·obtain ⟨z,h1,h2⟩:=h.1 e he
   have:z≠x:=fun e=>by rw [e,hn] at h2;cases h2
   exact ⟨z,h1,by rw [hg z this];exact h2⟩
  ·subst he;exact ⟨x,rfl,hx⟩
 ·by_cases e:z=x
  ·exact ⟨⟨.int .i64 x,v,c⟩,by simp,by rw [e]⟩
  ·rw [hg z e] at hz
   obtain ⟨y,hy,hk⟩:=h.2 z u hz
   exact ⟨y,by simp [hy],hk⟩
theorem Qc3.congr {es:Array MapEntry} {f g:Int→Option Value} (h:Qc3 es f) (e:∀ x,f x=g x):Qc3 es g:=by
 have:f=g:=funext e
 rw [← this];exact h
theorem QfC {T K E:TypeId} (hT:Tryz.prog.underlying T=some (.map K E)) (hK:Tryz.prog.underlying K=some (.int .i64)) {w:World} {m:Nat} {es:Array MapEntry} {c:Nat} {f:Int→Option Value} {x:Int} (hm:w.heap[m]?=some (.map es c)) (hf:Qc3 es f) (hx:f x=none) (v:Value) :
 (Instr.mapUpdate T (.map (some m)) (.int .i64 x) v).run Tryz.prog w=.ok () (QaL w m (.map (es.push ⟨.int .i64 x,v,c⟩) (c+1))):=by
 have hk:MapKept.IsKey (.int .i64) (.int .i64 x):=rfl
 rcases MapKept.findNow_spec hk es.toList 0 hf.keys with ⟨h1,_⟩ | ⟨j,e,h1,h2,h3⟩
 ·simp [Instr.mapUpdate,run_underlying hT,MapKept.run_getObj_map hm,MapKept.run_checkKey hK hk,MapKept.run_findKey hK h1,MapKept.run_setObj_map _ hm,Result.andThen,QaL]
 ·obtain ⟨z,hz,hz2⟩:=hf.1 e (List.mem_of_getElem? h2)
  rw [h3] at hz
  have:x=z:=by simpa using hz
  subst this
  rw [hx] at hz2;cases hz2
theorem Qq5 {T K E:TypeId} (hT:Tryz.prog.underlying T=some (.map K E)) (hK:Tryz.prog.underlying K=some (.int .i64)) (hE:∀ W,(zeroValue E).run Tryz.prog W=.ok .nilFunc W) {w:World} {m:Nat} {es:Array MapEntry} {c:Nat} {f:Int→Option Value} (hm:w.heap[m]?=some (.map es c)) (hf:Qc3 es f) (x:Int) :
 (Instr.lookup T (.map (some m)) (.int .i64 x) false).run Tryz.prog w=.ok ((f x).getD .nilFunc) w:=by
 have hk:MapKept.IsKey (.int .i64) (.int .i64 x):=rfl
 rcases MapKept.findNow_spec hk es.toList 0 hf.keys with ⟨h1,h2⟩ | ⟨j,e,h1,h2,h3⟩
 ·have hn:f x=none:=by
   cases hfx:f x with
   | none=>rfl
   | some v=>
    obtain ⟨e,he,hke⟩:=hf.2 x v hfx
    exact absurd hke (h2 e he)
  rw [hn]
  simp [Instr.lookup,run_underlying hT,MapKept.run_getObj_map hm,MapKept.run_checkKey hK hk,MapKept.run_findKey hK h1,hE,Result.andThen]
 ·obtain ⟨z,hz,hz2⟩:=hf.1 e (List.mem_of_getElem? h2)
  rw [h3] at hz
  have:x=z:=by simpa using hz
  subst this
  rw [hz2]
  simp [Instr.lookup,run_underlying hT,MapKept.run_getObj_map hm,MapKept.run_checkKey hK hk,MapKept.run_findKey hK h1,Result.andThen]
def Qun (w:World) (B:Nat) (lk:Value) (hf:Nat) (v:Value):Prop:=
 ∃ p q,v=.func (.func 244) #[] #[.pointer (some ⟨p,0,none⟩),.pointer (some ⟨q,0,none⟩)]∧B≤p∧B≤q∧w.heap[q]?=some (.cells #[lk] 157)∧w.heap[p]?=some (.cells #[.func (.func hf) #[] #[]] 255)
theorem Qun.keep {w w':World} {B hf:Nat} {lk v:Value} (h:Qun w B lk hf v) (hk:∀ k cs ty,B≤k→w.heap[k]?=some (.cells cs ty)→w'.heap[k]?=some (.cells cs ty)):Qun w' B lk hf v:=by
 obtain ⟨p,q,hv,hp,hq,h1,h2⟩:=h
 exact ⟨p,q,hv,hp,hq,hk q _ _ hq h1,hk p _ _ hp h2⟩
def Qpt (b:Nat):Value:=.func (.func 222) #[] #[.pointer (some ⟨b,0,none⟩)]
def fB (b:Nat) (L:Nat→Bool) (u11 u13:Value) (k:Int):Option Value:=
 if k=1 then (if L 3 then some u11 else none) else if k=2 then (if L 6 then some u13 else none) else if k=3 then (if L 8 then some (Qpt b) else none) else none
structure JB (lk:Value) (b:Nat) (W:World) (L:Nat→Bool) (u6 u9 u11 u13 u15:Value) (w:World):Prop where
 bl:Below W.heap.size W w
 c3:L 3=true→L 2=true
 c6:L 6=true→L 5=true
 c30:L 3=true→L 0=true
 c60:L 6=true→L 0=true
 c80:L 8=true→L 0=true
 a2:L 2=true→Qun w W.heap.size lk 220 u11
 a5:L 5=true→Qun w W.heap.size lk 221 u13
 mp:L 0=true→∃ m es c,u9=.map (some m)∧W.heap.size≤m∧w.heap[m]?=some (.map es c)∧Qc3 es (fB b L u11 u13)
 m9:L 9=true→u15=u9∧L 0=true∧L 3=true∧L 6=true∧L 8=true∧L 2=true∧L 5=true
 m10:L 10=true→u6=u15∧L 9=true
theorem QeQ {B m:Nat} {W w:World} {o:Obj} (h:Below B W w) (hm:B≤m):Below B W (QaL w m o):=
 ⟨h.os,h.tape,h.output,by rw [QhU];exact h.size,fun k hk=>by rw [Qan (by omega)];exact h.block k hk⟩
theorem QhP {a b:Bool} (h:a=true→b=true) (hb:b=false):a=false:=by
 cases a with
 | false=>rfl
 | true=>rw [h rfl] at hb;cases hb
section
variable {lk:Value} {b:Nat} {W:World} {L:Nat→Bool} {u6 u9 u11 u13 u15:Value} {w:World}
theorem Qrl (i:Nat) (h:i≠3∧i≠6∧i≠8) (k:Int):fB b (up L i) u11 u13 k=fB b L u11 u13 k:=by
 unfold fB
 rw [Qaf L (Ne.symm h.1),Qaf L (Ne.symm h.2.1),Qaf L (Ne.symm h.2.2)]
theorem JB.s0 (J:JB lk b W L u6 u9 u11 u13 u15 w) (h0:L 0=false):JB lk b W (up L 0) u6 (.map (some w.heap.size)) u11 u13 u15 (w.alloc (Obj.map #[] 0)):=by
 have hk:∀ k cs ty,W.heap.size≤k→w.heap[k]?=some (.cells cs ty)→(w.alloc (Obj.map #[] 0)).heap[k]?=some (.cells cs ty):=fun k cs ty _ h=>Qad h
 have n3:=QhP J.c30 h0
 have n6:=QhP J.c60 h0
 have n8:=QhP J.c80 h0
 have hz:=J.bl.size
 exact ⟨J.bl.alloc hz _,
  fun h=>Qak _ (J.c3 (by rwa [Qaf L (by decide)] at h)),
  fun h=>Qak _ (J.c6 (by rwa [Qaf L (by decide)] at h)),
  fun h=>absurd (by rwa [Qaf L (by decide)] at h:L 3=true) (by rw [n3];decide),
  fun h=>absurd (by rwa [Qaf L (by decide)] at h:L 6=true) (by rw [n6];decide),
  fun h=>absurd (by rwa [Qaf L (by decide)] at h:L 8=true) (by rw [n8];decide),
  fun h=>(J.a2 (by rwa [Qaf L (by decide)] at h)).keep hk,
  fun h=>(J.a5 (by rwa [Qaf L (by decide)] at h)).keep hk,
  fun _=>⟨w.heap.size,#[],0,rfl,hz,QaB _ _,Qc3.empty.congr (fun k=>by rw [Qrl 0 (by decide)];unfold fB;simp only [n3,n6,n8];simp)⟩,
  fun h=>absurd (J.m9 (by rwa [Qaf L (by decide)] at h)).2.1 (by rw [h0];decide),
  fun h=>absurd (J.m9 (J.m10 (by rwa [Qaf L (by decide)] at h)).2).2.1 (by rw [h0];decide)⟩
theorem JB.s2 (J:JB lk b W L u6 u9 u11 u13 u15 w) (h0:L 2=false):JB lk b W (up L 2) u6 u9 (.func (.func 244) #[] #[.pointer (some ⟨w.heap.size+1,0,none⟩),.pointer (some ⟨w.heap.size,0,none⟩)]) u13 u15 ((w.alloc (.cells #[lk] 157)).alloc (.cells #[.func (.func 220) #[] #[]] 255)):=by
 have hk:∀ k cs ty,W.heap.size≤k→w.heap[k]?=some (.cells cs ty)→((w.alloc (.cells #[lk] 157)).alloc (.cells #[.func (.func 220) #[] #[]] 255)).heap[k]?=some (.cells cs ty):=fun k cs ty _ h=>Qad (Qad h)
 have hkm:∀ (m:Nat) (es:Array MapEntry) (c:Nat),w.heap[m]?=some (Obj.map es c)→((w.alloc (.cells #[lk] 157)).alloc (.cells #[.func (.func 220) #[] #[]] 255)).heap[m]?=some (Obj.map es c):=fun m es c h=>Qad (Qad h)
 have nn:=QhP J.c3 h0
 have hz:=J.bl.size
 have hfe:∀ v k,fB b (up L 2) v u13 k=fB b L u11 u13 k:=fun v k=>by
  rw [Qrl 2 (by decide)]
  unfold fB
  simp only [nn,Bool.false_eq_true,if_false]
 exact ⟨(J.bl.alloc hz _).alloc (by simp;omega) _,
  fun h=>absurd (by rwa [Qaf L (by decide)] at h:L 3=true) (by rw [nn];decide),
  fun h=>Qak _ (J.c6 (by rwa [Qaf L (by decide)] at h)),
  fun h=>Qak _ (J.c30 (by rwa [Qaf L (by decide)] at h)),
  fun h=>Qak _ (J.c60 (by rwa [Qaf L (by decide)] at h)),
  fun h=>Qak _ (J.c80 (by rwa [Qaf L (by decide)] at h)),
  fun _=>⟨w.heap.size+1,w.heap.size,rfl,by omega,hz,Qad (QaB _ _),Qaw (by simp)⟩,
  fun h=>(J.a5 (by rwa [Qaf L (by decide)] at h)).keep hk,
  fun h=>by obtain ⟨m,es,c,e1,e2,e3,e4⟩:=J.mp (by rwa [Qaf L (by decide)] at h);exact ⟨m,es,c,e1,e2,hkm m es c e3,e4.congr (fun k=>(hfe _ k).symm)⟩,
  fun h=>by obtain ⟨e1,e2,e3,e4,e5,e6,e7⟩:=J.m9 (by rwa [Qaf L (by decide)] at h);exact ⟨e1,Qak _ e2,Qak _ e3,Qak _ e4,Qak _ e5,Qak _ e6,Qak _ e7⟩,
  fun h=>by obtain ⟨e1,e2⟩:=J.m10 (by rwa [Qaf L (by decide)] at h);exact ⟨e1,Qak _ e2⟩⟩
theorem JB.s5 (J:JB lk b W L u6 u9 u11 u13 u15 w) (h0:L 5=false):JB lk b W (up L 5) u6 u9 u11 (.func (.func 244) #[] #[.pointer (some ⟨w.heap.size+1,0,none⟩),.pointer (some ⟨w.heap.size,0,none⟩)]) u15 ((w.alloc (.cells #[lk] 157)).alloc (.cells #[.func (.func 221) #[] #[]] 255)):=by
 have hk:∀ k cs ty,W.heap.size≤k→w.heap[k]?=some (.cells cs ty)→((w.alloc (.cells #[lk] 157)).alloc (.cells #[.func (.func 221) #[] #[]] 255)).heap[k]?=some (.cells cs ty):=fun k cs ty _ h=>Qad (Qad h)
 have hkm:∀ (m:Nat) (es:Array MapEntry) (c:Nat),w.heap[m]?=some (Obj.map es c)→((w.alloc (.cells #[lk] 157)).alloc (.cells #[.func (.func 221) #[] #[]] 255)).heap[m]?=some (Obj.map es c):=fun m es c h=>Qad (Qad h)
 have nn:=QhP J.c6 h0
 have hz:=J.bl.size
 have hfe:∀ v k,fB b (up L 5) u11 v k=fB b L u11 u13 k:=fun v k=>by
  rw [Qrl 5 (by decide)]
  unfold fB
  simp only [nn,Bool.false_eq_true,if_false]
 exact ⟨(J.bl.alloc hz _).alloc (by simp;omega) _,
  fun h=>Qak _ (J.c3 (by rwa [Qaf L (by decide)] at h)),
  fun h=>absurd (by rwa [Qaf L (by decide)] at h:L 6=true) (by rw [nn];decide),
  fun h=>Qak _ (J.c30 (by rwa [Qaf L (by decide)] at h)),
  fun h=>Qak _ (J.c60 (by rwa [Qaf L (by decide)] at h)),
  fun h=>Qak _ (J.c80 (by rwa [Qaf L (by decide)] at h)),
  fun h=>(J.a2 (by rwa [Qaf L (by decide)] at h)).keep hk,
  fun _=>⟨w.heap.size+1,w.heap.size,rfl,by omega,hz,Qad (QaB _ _),Qaw (by simp)⟩,
  fun h=>by obtain ⟨m,es,c,e1,e2,e3,e4⟩:=J.mp (by rwa [Qaf L (by decide)] at h);exact ⟨m,es,c,e1,e2,hkm m es c e3,e4.congr (fun k=>(hfe _ k).symm)⟩,
  fun h=>by obtain ⟨e1,e2,e3,e4,e5,e6,e7⟩:=J.m9 (by rwa [Qaf L (by decide)] at h);exact ⟨e1,Qak _ e2,Qak _ e3,Qak _ e4,Qak _ e5,Qak _ e6,Qak _ e7⟩,
  fun h=>by obtain ⟨e1,e2⟩:=J.m10 (by rwa [Qaf L (by decide)] at h);exact ⟨e1,Qak _ e2⟩⟩
theorem JB.s3 (J:JB lk b W L u6 u9 u11 u13 u15 w) (h0:L 3=false) (h1:L 0=true) (h2:L 2=true):∃ m es c,u9=.map (some m)∧w.heap[m]?=some (.map es c)∧Qc3 es (fB b L u11 u13)∧fB b L u11 u13 1=none∧JB lk b W (up L 3) u6 u9 u11 u13 u15 (QaL w m (.map (es.push ⟨.int .i64 1,u11,c⟩) (c+1))):=by
 obtain ⟨m,es,c,h3,h4,h5,h6⟩:=J.mp h1
 have hn:fB b L u11 u13 1=none:=by unfold fB;simp [h0]
 have hx:fB b (up L 3) u11 u13 1=some u11:=by unfold fB;simp [QbD]
 have hg:∀ z,z≠1→fB b (up L 3) u11 u13 z=fB b L u11 u13 z:=fun z hz=>by
  unfold fB
  simp only [if_neg hz,Qaf L (show (3:Nat)≠99 by decide),Qaf L (show (6:Nat)≠3 by decide),Qaf L (show (8:Nat)≠3 by decide)]
 have hk:∀ k cs ty,W.heap.size≤k→w.heap[k]?=some (.cells cs ty)→(QaL w m (.map (es.push ⟨.int .i64 1,u11,c⟩) (c+1))).heap[k]?=some (.cells cs ty):=fun k cs ty _ h=>by
  rw [Qan (fun e=>by rw [e,h5] at h;cases h)];exact h
 refine ⟨m,es,c,h3,h5,h6,hn,?_⟩
 exact ⟨QeQ J.bl h4,
  fun _=>Qak _ h2,
  fun h=>Qak _ (J.c6 (by rwa [Qaf L (by decide)] at h)),
  fun _=>Qak _ h1,
  fun h=>Qak _ (J.c60 (by rwa [Qaf L (by decide)] at h)),
  fun h=>Qak _ (J.c80 (by rwa [Qaf L (by decide)] at h)),
  fun h=>(J.a2 (by rwa [Qaf L (by decide)] at h)).keep hk,
  fun h=>(J.a5 (by rwa [Qaf L (by decide)] at h)).keep hk,
  fun _=>⟨m,_,_,h3,h4,QaW h5,h6.push hn hx hg⟩,
  fun h=>by obtain ⟨e1,e2,e3,e4,e5,e6,e7⟩:=J.m9 (by rwa [Qaf L (by decide)] at h);exact ⟨e1,Qak _ e2,Qak _ e3,Qak _ e4,Qak _ e5,Qak _ e6,Qak _ e7⟩,
  fun h=>by obtain ⟨e1,e2⟩:=J.m10 (by rwa [Qaf L (by decide)] at h);exact ⟨e1,Qak _ e2⟩⟩
theorem JB.s6 (J:JB lk b W L u6 u9 u11 u13 u15 w) (h0:L 6=false) (h1:L 0=true) (h2:L 5=true):∃ m es c,u9=.map (some m)∧w.heap[m]?=some (.map es c)∧Qc3 es (fB b L u11 u13)∧fB b L u11 u13 2=none∧JB lk b W (up L 6) u6 u9 u11 u13 u15 (QaL w m (.map (es.push ⟨.int .i64 2,u13,c⟩) (c+1))):=by
 obtain ⟨m,es,c,h3,h4,h5,h6⟩:=J.mp h1
 have hn:fB b L u11 u13 2=none:=by unfold fB;simp [h0]
 have hx:fB b (up L 6) u11 u13 2=some u13:=by unfold fB;simp [QbD]
 have hg:∀ z,z≠2→fB b (up L 6) u11 u13 z=fB b L u11 u13 z:=fun z hz=>by
  unfold fB
  simp only [if_neg hz,Qaf L (show (3:Nat)≠6 by decide),Qaf L (show (6:Nat)≠99 by decide),Qaf L (show (8:Nat)≠6 by decide)]
 have hk:∀ k cs ty,W.heap.size≤k→w.heap[k]?=some (.cells cs ty)→(QaL w m (.map (es.push ⟨.int .i64 2,u13,c⟩) (c+1))).heap[k]?=some (.cells cs ty):=fun k cs ty _ h=>by
  rw [Qan (fun e=>by rw [e,h5] at h;cases h)];exact h
 refine ⟨m,es,c,h3,h5,h6,hn,?_⟩
 exact ⟨QeQ J.bl h4,
  fun h=>Qak _ (J.c3 (by rwa [Qaf L (by decide)] at h)),
  fun _=>Qak _ h2,
  fun h=>Qak _ (J.c30 (by rwa [Qaf L (by decide)] at h)),
  fun _=>Qak _ h1,
  fun h=>Qak _ (J.c80 (by rwa [Qaf L (by decide)] at h)),
  fun h=>(J.a2 (by rwa [Qaf L (by decide)] at h)).keep hk,
  fun h=>(J.a5 (by rwa [Qaf L (by decide)] at h)).keep hk,
  fun _=>⟨m,_,_,h3,h4,QaW h5,h6.push hn hx hg⟩,
  fun h=>by obtain ⟨e1,e2,e3,e4,e5,e6,e7⟩:=J.m9 (by rwa [Qaf L (by decide)] at h);exact ⟨e1,Qak _ e2,Qak _ e3,Qak _ e4,Qak _ e5,Qak _ e6,Qak _ e7⟩,
  fun h=>by obtain ⟨e1,e2⟩:=J.m10 (by rwa [Qaf L (by decide)] at h);exact ⟨e1,Qak _ e2⟩⟩
theorem JB.s8 (J:JB lk b W L u6 u9 u11 u13 u15 w) (h0:L 8=false) (h1:L 0=true) :∃ m es c,u9=.map (some m)∧w.heap[m]?=some (.map es c)∧Qc3 es (fB b L u11 u13)∧fB b L u11 u13 3=none∧JB lk b W (up L 8) u6 u9 u11 u13 u15 (QaL w m (.map (es.push ⟨.int .i64 3,(Qpt b),c⟩) (c+1))):=by
 obtain ⟨m,es,c,h3,h4,h5,h6⟩:=J.mp h1
 have hn:fB b L u11 u13 3=none:=by unfold fB;simp [h0]
 have hx:fB b (up L 8) u11 u13 3=some (Qpt b):=by unfold fB;simp [QbD]
 have hg:∀ z,z≠3→fB b (up L 8) u11 u13 z=fB b L u11 u13 z:=fun z hz=>by
  unfold fB
  simp only [if_neg hz,Qaf L (show (3:Nat)≠8 by decide),Qaf L (show (6:Nat)≠8 by decide),Qaf L (show (8:Nat)≠99 by decide)]
 have hk:∀ k cs ty,W.heap.size≤k→w.heap[k]?=some (.cells cs ty)→(QaL w m (.map (es.push ⟨.int .i64 3,(Qpt b),c⟩) (c+1))).heap[k]?=some (.cells cs ty):=fun k cs ty _ h=>by
  rw [Qan (fun e=>by rw [e,h5] at h;cases h)];exact h
 refine ⟨m,es,c,h3,h5,h6,hn,?_⟩
 exact ⟨QeQ J.bl h4,
  fun h=>Qak _ (J.c3 (by rwa [Qaf L (by decide)] at h)),
  fun h=>Qak _ (J.c6 (by rwa [Qaf L (by decide)] at h)),
  fun h=>Qak _ (J.c30 (by rwa [Qaf L (by decide)] at h)),
  fun h=>Qak _ (J.c60 (by rwa [Qaf L (by decide)] at h)),
  fun _=>Qak _ h1,
  fun h=>(J.a2 (by rwa [Qaf L (by decide)] at h)).keep hk,
  fun h=>(J.a5 (by rwa [Qaf L (by decide)] at h)).keep hk,
  fun _=>⟨m,_,_,h3,h4,QaW h5,h6.push hn hx hg⟩,
  fun h=>by obtain ⟨e1,e2,e3,e4,e5,e6,e7⟩:=J.m9 (by rwa [Qaf L (by decide)] at h);exact ⟨e1,Qak _ e2,Qak _ e3,Qak _ e4,Qak _ e5,Qak _ e6,Qak _ e7⟩,
  fun h=>by obtain ⟨e1,e2⟩:=J.m10 (by rwa [Qaf L (by decide)] at h);exact ⟨e1,Qak _ e2⟩⟩
theorem JB.s9 (J:JB lk b W L u6 u9 u11 u13 u15 w) (h0:L 9=false) (i0:L 0=true) (i3:L 3=true) (i6:L 6=true) (i8:L 8=true) (i2:L 2=true) (i5:L 5=true):JB lk b W (up L 9) u6 u9 u11 u13 u9 w:=by
 have hk:∀ k cs ty,W.heap.size≤k→w.heap[k]?=some (.cells cs ty)→w.heap[k]?=some (.cells cs ty):=fun k cs ty _ h=>h
 have hkm:∀ (m:Nat) (es:Array MapEntry) (c:Nat),w.heap[m]?=some (Obj.map es c)→w.heap[m]?=some (Obj.map es c):=fun m es c h=>h
 exact ⟨J.bl,
  fun h=>Qak _ (J.c3 (by rwa [Qaf L (by decide)] at h)),
  fun h=>Qak _ (J.c6 (by rwa [Qaf L (by decide)] at h)),
  fun h=>Qak _ (J.c30 (by rwa [Qaf L (by decide)] at h)),
  fun h=>Qak _ (J.c60 (by rwa [Qaf L (by decide)] at h)),
  fun h=>Qak _ (J.c80 (by rwa [Qaf L (by decide)] at h)),
  fun h=>(J.a2 (by rwa [Qaf L (by decide)] at h)).keep hk,
  fun h=>(J.a5 (by rwa [Qaf L (by decide)] at h)).keep hk,
  fun h=>by obtain ⟨m,es,c,e1,e2,e3,e4⟩:=J.mp (by rwa [Qaf L (by decide)] at h);exact ⟨m,es,c,e1,e2,hkm m es c e3,e4.congr (fun k=>(Qrl 9 (by decide) k).symm)⟩,
  fun _=>⟨rfl,Qak _ i0,Qak _ i3,Qak _ i6,Qak _ i8,Qak _ i2,Qak _ i5⟩,
  fun h=>absurd (J.m10 (by rwa [Qaf L (by decide)] at h)).2 (by rw [h0];decide)⟩
theorem JB.s10 (J:JB lk b W L u6 u9 u11 u13 u15 w) (h0:L 10=false) (i9:L 9=true):JB lk b W (up L 10) u15 u9 u11 u13 u15 w:=by
 have hk:∀ k cs ty,W.heap.size≤k→w.heap[k]?=some (.cells cs ty)→w.heap[k]?=some (.cells cs ty):=fun k cs ty _ h=>h
 have hkm:∀ (m:Nat) (es:Array MapEntry) (c:Nat),w.heap[m]?=some (Obj.map es c)→w.heap[m]?=some (Obj.map es c):=fun m es c h=>h
 exact ⟨J.bl,
  fun h=>Qak _ (J.c3 (by rwa [Qaf L (by decide)] at h)),
  fun h=>Qak _ (J.c6 (by rwa [Qaf L (by decide)] at h)),
  fun h=>Qak _ (J.c30 (by rwa [Qaf L (by decide)] at h)),
  fun h=>Qak _ (J.c60 (by rwa [Qaf L (by decide)] at h)),
  fun h=>Qak _ (J.c80 (by rwa [Qaf L (by decide)] at h)),
  fun h=>(J.a2 (by rwa [Qaf L (by decide)] at h)).keep hk,
  fun h=>(J.a5 (by rwa [Qaf L (by decide)] at h)).keep hk,
  fun h=>by obtain ⟨m,es,c,e1,e2,e3,e4⟩:=J.mp (by rwa [Qaf L (by decide)] at h);exact ⟨m,es,c,e1,e2,hkm m es c e3,e4.congr (fun k=>(Qrl 10 (by decide) k).symm)⟩,
  fun h=>by obtain ⟨e1,e2,e3,e4,e5,e6,e7⟩:=J.m9 (by rwa [Qaf L (by decide)] at h);exact ⟨e1,Qak _ e2,Qak _ e3,Qak _ e4,Qak _ e5,Qak _ e6,Qak _ e7⟩,
  fun _=>⟨rfl,Qak _ i9⟩⟩
end
theorem Tryz.zeroWay:∀ W,(zeroValue 295).run Tryz.prog W=.ok .nilFunc W:=fun W=>by kernel_rfl
theorem Qqr (fl:FuncId) (hf:Nat) (w:World) :
 Calls Tryz.prog 219 #[(.func (.func fl) #[] #[]),.func (.func hf) #[] #[]] w fun e w'=>e=.returned (.func (.func 244) #[] #[.pointer (some ⟨w.heap.size+1,0,none⟩),.pointer (some ⟨w.heap.size,0,none⟩)])∧w'=(w.alloc (.cells #[(.func (.func fl) #[] #[])] 157)).alloc (.cells #[.func (.func hf) #[] #[]] 255):=by
 have hmf:∀ (fn:Fn) (first cap:Array Value) (w:World),(Instr.makeFunc fn first cap).run Tryz.prog w=.ok (.func fn first cap) w:=fun _ _ _ _=>rfl
 go_enter Tryz.func219,Tryz.ntmps219
 go_wp2
 go_ret
 exact ⟨rfl,rfl⟩
def Qqc (u:Bool) (fl:FuncId) (tag:Int) (b:Nat) (u6 u9 u11 u13 u15:Value):Act:=
 { tmps:=#[.int .i64 tag,.bool u,undef,undef,.nilFunc,.pointer (some ⟨b,0,none⟩),u6,.bool u,(.func (.func fl) #[] #[]),u9,(.func (.func fl) #[] #[]),u11,(.func (.func fl) #[] #[]),u13,Qpt b,u15,undef,undef,undef],defers:=[] }
def QqF (u:Bool) (fl:FuncId) (tag:Int) (b:Nat) (W:World) (l:Array Bool) (a:Act) (w:World):Prop:=
 l.size=11∧(∀ i∈[1,4,7],l.getD i false=true)∧∃ u6 u9 u11 u13 u15,a=Qqc u fl tag b u6 u9 u11 u13 u15∧JB (.func (.func fl) #[] #[]) b W (fun j=>l.getD j false) u6 u9 u11 u13 u15 w
theorem QqF.next {u:Bool} {fl:FuncId} {tag:Int} {b:Nat} {W:World} {l:Array Bool} {i:Nat} {u6 u9 u11 u13 u15:Value} {w:World} (hl:l.size=11) (ht:∀ i∈[1,4,7],l.getD i false=true) (hi:i < 11) (J:JB (.func (.func fl) #[] #[]) b W (up (fun j=>l.getD j false) i) u6 u9 u11 u13 u15 w):QqF u fl tag b W (l.setIfInBounds i true) (Qqc u fl tag b u6 u9 u11 u13 u15) w:=
 ⟨by simp [hl],fun k hk=>getD_set_true (ht k hk),u6,u9,u11,u13,u15,rfl,by rw [QmW (by omega)];exact J⟩
theorem Qs6 (u:Bool) (fl:FuncId) (hlv:Qkq u=.func (.func fl) #[] #[]) (tag:Int) (w:World) :
 Calls Tryz.prog 183 #[.int .i64 tag,.bool u] w fun e w'=>(∃ wv,e=.returned wv∧((1≤tag∧tag≤3∧WayV w' tag u wv)∨(¬ (1≤tag∧tag≤3)∧wv=.nilFunc)))∧Below w.heap.size w w':=by
 have hmf:∀ (fn:Fn) (first cap:Array Value) (w:World),(Instr.makeFunc fn first cap).run Tryz.prog w=.ok (.func fn first cap) w:=fun _ _ _ _=>rfl
 have hmm:∀ (w:World),(Instr.makeMap 334 none).run Tryz.prog w=.ok (.map (some w.heap.size)) (w.alloc (Obj.map #[] 0)):=fun _=>rfl
 go_enter Tryz.func183,Tryz.ntmps183
 go_wp2_with (go_at_call 218;refine (Qip u _).mono ?_;rw [hlv];rintro e w' ⟨rfl,hww⟩;subst w')
 obtain ⟨W,hW⟩:∃ W,W=w.alloc (.cells #[(.func (.func fl) #[] #[])] 157):=⟨_,rfl⟩
 have hWb:W.heap[w.heap.size]?=some (.cells #[(.func (.func fl) #[] #[])] 157):=by rw [hW];exact QaB _ _
 have hWB:Below w.heap.size w W:=by rw [hW];exact (Below.refl _ _).alloc (Nat.le_refl _) _
 have hWl:=QaM hWb
 rw [← hW]
 clear hW
 refine wp_region_held (S:=fun w'=>w'.cell? ⟨w.heap.size,0,none⟩=some (.func (.func fl) #[] #[])) (by kernel_rfl) ?_
 have hS:({ W with drawn:=W.drawn+1 }:World).cell? ⟨w.heap.size,0,none⟩=some (.func (.func fl) #[] #[]):=Qab (w:={ W with drawn:=W.drawn+1 }) hWb 0
 refine QaA 1 10 ((.func (.func fl) #[] #[])) rfl hS (fun w' hSw=>by (try dsimp only at hSw);(try unfold Qpt);go_simp) ?_
 simp only [pt,List.set_cons_zero,List.set_cons_succ]
 refine QaA 4 12 ((.func (.func fl) #[] #[])) rfl hS (fun w' hSw=>by (try dsimp only at hSw);(try unfold Qpt);go_simp) ?_
 simp only [pt,List.set_cons_zero,List.set_cons_succ]
 refine QaA 7 14 ((Qpt w.heap.size)) rfl hS (fun w' hSw=>by (try dsimp only at hSw);(try unfold Qpt);go_simp) ?_
 simp only [pt,List.set_cons_zero,List.set_cons_succ]
 refine Qe2 (QqF u fl tag w.heap.size W) (fun l a w' h=>by rw [h.1];rfl) (fun l a w' h=>?hSS) (fun l a w' i h hi=>?hstep) (fun l a w' h hr=>?hdone) _ _ _ _ (by decide) ?hinit
 case hSS=>
  obtain ⟨_,_,_,_,_,_,_,_,J⟩:=h
  exact Qab (Qaq hWb J.bl) 0
 case hinit=>
  refine ⟨rfl,by decide,undef,undef,undef,undef,undef,rfl,?_⟩
  exact ⟨Qar (Below.refl _ _),fun h=>absurd h (by decide),fun h=>absurd h (by decide),fun h=>absurd h (by decide),fun h=>absurd h (by decide),fun h=>absurd h (by decide),fun h=>absurd h (by decide),fun h=>absurd h (by decide),fun h=>absurd h (by decide),fun h=>absurd h (by decide),fun h=>absurd h (by decide)⟩
 case hdone=>
  obtain ⟨hl,htk,u6,u9,u11,u13,u15,rfl,J⟩:=h
  have hal:=Qed hl (by kernel_rfl) hr
  obtain ⟨e10,_⟩:=J.m10 (hal 10 (by decide))
  obtain ⟨e9,h0,h3,h6,h8,h2,h5⟩:=J.m9 (hal 9 (by decide))
  obtain ⟨m,es,c,e1,hm1,hm2,hf⟩:=J.mp h0
  subst e10 e9 e1
  have hlk:=Qq5 Tryz.underlying334 Tryz.underlying3 Tryz.zeroWay hm2 hf tag
  have HB:=Qaa (hWB.trans (J.bl.mono hWB.size))
  have HA2:=Qaa (J.a2 h2)
  have HA5:=Qaa (J.a5 h5)
  have HWc:Hid (w'.cell? ⟨w.heap.size,0,none⟩=some (.func (.func fl) #[] #[])):=Qab (Qaq hWb J.bl) 0
  have hfv:fB w.heap.size (fun j=>l.getD j false) u11 u13 tag=if tag=1 then some u11 else if tag=2 then some u13 else if tag=3 then some (Qpt w.heap.size) else none:=by
   unfold fB
   rw [if_pos h3,if_pos h6,if_pos h8]
  rw [hfv] at hlk
  clear J hal hr htk hl hS hm2 hf h0 h3 h6 h8 h2 h5 hfv
  unfold Qqc
  by_cases t1:tag=1
  ·subst t1
   rw [if_pos rfl] at hlk
   obtain ⟨p,q,rfl,hp,hq,b1,b2⟩:=HA2.out
   have HV:Hid (WayV w' 1 u (.func (.func 244) #[] #[.pointer (some ⟨p,0,none⟩),.pointer (some ⟨q,0,none⟩)])):=Or.inr ⟨p,q,rfl,by rw [hlv];exact Qab b1 0,Or.inl ⟨rfl,Qab b2 0⟩⟩
   clear b1 b2
   simp only [Option.getD_some] at hlk
   go_wp2
   go_ret
   exact ⟨⟨_,rfl,Or.inl ⟨by decide,by decide,HV.out⟩⟩,HB.out⟩
  by_cases t2:tag=2
  ·subst t2
   rw [if_neg t1,if_pos rfl] at hlk
   obtain ⟨p,q,rfl,hp,hq,b1,b2⟩:=HA5.out
   have HV:Hid (WayV w' 2 u (.func (.func 244) #[] #[.pointer (some ⟨p,0,none⟩),.pointer (some ⟨q,0,none⟩)])):=Or.inr ⟨p,q,rfl,by rw [hlv];exact Qab b1 0,Or.inr ⟨rfl,Qab b2 0⟩⟩
   clear b1 b2
   simp only [Option.getD_some] at hlk
   go_wp2
   go_ret
   exact ⟨⟨_,rfl,Or.inl ⟨by decide,by decide,HV.out⟩⟩,HB.out⟩
  by_cases t3:tag=3
  ·subst t3
   rw [if_neg t1,if_neg t2,if_pos rfl] at hlk
   have HV:Hid (WayV w' 3 u (Qpt w.heap.size)):=Or.inl ⟨rfl,w.heap.size,rfl,by rw [hlv];exact HWc.out⟩
   simp only [Option.getD_some] at hlk
   unfold Qpt at hlk HV ⊢
   go_wp2
   go_ret
   exact ⟨⟨_,rfl,Or.inl ⟨by decide,by decide,HV.out⟩⟩,HB.out⟩
  ·rw [if_neg t1,if_neg t2,if_neg t3] at hlk
   simp only [Option.getD_none] at hlk
   have hno:¬ (1≤tag∧tag≤3):=by omega
   clear t1 t2 t3
   go_wp2
   go_ret
   exact ⟨⟨_,rfl,Or.inr ⟨hno,rfl⟩⟩,HB.out⟩
 case hstep=>
  obtain ⟨hl,htk,u6,u9,u11,u13,u15,rfl,J⟩:=h
  obtain ⟨h0,o,ho,hall⟩:=mem_ready.1 hi
  have hi11:i < 11:=(Array.getElem?_eq_some_iff.1 ho).1
  have h0':l.getD i false=false:=by
   have:i < l.size:=by omega
   simp [this] at h0 ⊢
   exact h0
  clear h0
  rcases (by omega:i=0∨i=1∨i=2∨i=3∨i=4∨i=5∨i=6∨i=7∨i=8∨i=9∨i=10) with hh | hh | hh | hh | hh | hh | hh | hh | hh | hh | hh <;> subst hh
  ·clear ho hall hi
   refine QaG rfl (by rfl) ?_
   unfold Qqc
   go_simp
   exact QqF.next hl htk (by decide) (J.s0 h0')
  ·rw [htk 1 (by decide)] at h0';cases h0'
  ·clear ho hall hi
   refine QaG rfl (by rfl) ?_
   unfold Qqc
   go_simp
   refine (Qqr _ _ _).mono ?_
   rintro e w2 ⟨rfl,rfl⟩
   exact QqF.next hl htk (by decide) (J.s2 h0')
  ·have ho2:=Option.some.inj (show some _=some o from ho)
   subst ho2
   have h1:=hall { on:=0,ground:=.data } (by simp) rfl
   have h2:=hall { on:=2,ground:=.data } (by simp) rfl
   clear ho hall hi
   obtain ⟨m,es,c,rfl,hm,hf,hn,J'⟩:=J.s3 h0' h1 h2
   have hrun:(Instr.mapUpdate 334 (.map (some m)) (.int .i64 1) u11).run Tryz.prog w'=.ok () _:=QfC Tryz.underlying334 Tryz.underlying3 hm hf hn _
   refine QaG rfl (by rfl) ?_
   unfold Qqc
   go_simp
   exact QqF.next hl htk (by decide) J'
  ·rw [htk 4 (by decide)] at h0';cases h0'
  ·clear ho hall hi
   refine QaG rfl (by rfl) ?_
   unfold Qqc
   go_simp
   refine (Qqr _ _ _).mono ?_
   rintro e w2 ⟨rfl,rfl⟩
   exact QqF.next hl htk (by decide) (J.s5 h0')
  ·have ho2:=Option.some.inj (show some _=some o from ho)
   subst ho2
   have h1:=hall { on:=0,ground:=.data } (by simp) rfl
   have h2:=hall { on:=5,ground:=.data } (by simp) rfl
   clear ho hall hi
   obtain ⟨m,es,c,rfl,hm,hf,hn,J'⟩:=J.s6 h0' h1 h2
   have hrun:(Instr.mapUpdate 334 (.map (some m)) (.int .i64 2) u13).run Tryz.prog w'=.ok () _:=QfC Tryz.underlying334 Tryz.underlying3 hm hf hn _
   refine QaG rfl (by rfl) ?_
   unfold Qqc
   go_simp
   exact QqF.next hl htk (by decide) J'
  ·rw [htk 7 (by decide)] at h0';cases h0'
  ·have ho2:=Option.some.inj (show some _=some o from ho)
   subst ho2
   have h1:=hall { on:=0,ground:=.data } (by simp) rfl
   clear ho hall hi
   obtain ⟨m,es,c,rfl,hm,hf,hn,J'⟩:=J.s8 h0' h1
   have hrun:(Instr.mapUpdate 334 (.map (some m)) (.int .i64 3) (Qpt w.heap.size)).run Tryz.prog w'=.ok () _:=QfC Tryz.underlying334 Tryz.underlying3 hm hf hn _
   refine QaG rfl (by rfl) ?_
   unfold Qqc
   go_simp
   exact QqF.next hl htk (by decide) J'
  ·have ho2:=Option.some.inj (show some _=some o from ho)
   subst ho2
   have i0:=hall { on:=0,ground:=.data } (by simp) rfl
   have i2:=hall { on:=2,ground:=.data } (by simp) rfl
   have i3:=hall { on:=3,ground:=.data } (by simp) rfl
   have i5:=hall { on:=5,ground:=.data } (by simp) rfl
   have i6:=hall { on:=6,ground:=.data } (by simp) rfl
   have i8:=hall { on:=8,ground:=.data } (by simp) rfl
   clear ho hall hi
   refine QaG rfl (by rfl) ?_
   unfold Qqc
   go_simp
   exact QqF.next hl htk (by decide) (J.s9 h0' i0 i3 i6 i8 i2 i5)
  ·have ho2:=Option.some.inj (show some _=some o from ho)
   subst ho2
   have i9:=hall { on:=9,ground:=.data } (by simp) rfl
   clear ho hall hi
   refine QaG rfl (by rfl) ?_
   unfold Qqc
   go_simp
   exact QqF.next hl htk (by decide) (J.s10 h0' i9)
end
section
open Go.RowKit
attribute [local go_sem ↓] Go.wp_at_zero Go.wp_at_succ
theorem MAt.box {w:World} {B xb sb:Nat} {M:Msg} {m:MS} {count:Nat} (h:MAt w B xb sb M m count) (o:Obj):MAt (w.alloc o) B xb sb M m count:=h.below ((Below.refl _ _).alloc (Nat.le_refl _) _)
theorem MAt.now {w:World} {B xb sb:Nat} {M:Msg} {m:MS} {count:Nat} (h:MAt w B xb sb M m count):w.cell? ⟨xb,2,none⟩=some (.int .i64 (m.now:Int)):=by
 obtain ⟨kv,h⟩:=h;exact Qab h.blk 2
theorem QcT {P:Nat→Obj→Prop} (w:World) (o:Obj):Fr P w (w.alloc o):=(Fr.refl _ w).alloc o
theorem QsM (i:Ins) (av bv:Value) (B xb sb:Nat) (M:Msg) (m:MS) (count:Nat) (w:World) (h:MAt w B xb sb M m count) (ho:Qb2 w i av bv) :
 Calls Tryz.prog 124 #[.pointer (some ⟨xb,0,none⟩),Qdk i av bv] w (QaI (QfJ i m) B xb sb M count w):=by
 have HM:=Qaa h
 obtain ⟨aa,ac,rfl⟩:=ho.a.len
 obtain ⟨ba,bc,rfl⟩:=ho.b.len
 have hxl:xb < w.heap.size:=Qay h.now
 have hnow:=(h.box (.cells (Qkj i (.slice aa i.a.length ac) (.slice ba i.b.length bc)) 147)).now
 unfold Qkj at hnow
 have e0:=QeE i.n 0
 have e1:=QeE i.n 1
 clear h ho
 unfold Qdk
 by_cases h01:i.n=0∨i.n=1
 ·have HR:Hid (QfJ i m=Qkv (decide (i.n=1)) m):=by show _=_;unfold QfJ;rw [if_pos h01]
  rcases h01 with h0 | h1
  ·rw [decide_eq_true h0] at e0
   rw [decide_eq_false (by omega)] at e1 HR
   clear h0
   go_enter Tryz.func124,Tryz.ntmps124
   go_wp2_with (go_at_call 139;refine (QbF _ _).mono ?_;rintro e w' ⟨rfl,hww⟩;rw [hww];clear hww)
   refine (Qfw false B xb sb M m count _ (HM.out.box _)).mono ?_
   intro e w1 h1
   rcases h1.cases with ⟨hf,⟨m',hr,rfl,hm⟩ | ⟨f,hr,bb,hz,rfl,hcc⟩⟩
   ·have H1:=Qaa h1
    clear hm hf h1
    go_wp2
    go_end0
    rw [HR.out]
    exact H1.out.from (QcT _ _)
   ·exact ⟨rfl,by rw [HR.out];exact QaI.from h1 (QcT _ _)⟩
  ·rw [decide_eq_true h1] at e1 HR
   rw [decide_eq_false (by omega)] at e0
   clear h1
   go_enter Tryz.func124,Tryz.ntmps124
   go_wp2_with (go_at_call 139;refine (QbF _ _).mono ?_;rintro e w' ⟨rfl,hww⟩;rw [hww];clear hww)
   refine (Qfw true B xb sb M m count _ (HM.out.box _)).mono ?_
   intro e w1 h1
   rcases h1.cases with ⟨hf,⟨m',hr,rfl,hm⟩ | ⟨f,hr,bb,hz,rfl,hcc⟩⟩
   ·have H1:=Qaa h1
    clear hm hf h1
    go_wp2
    go_end0
    rw [HR.out]
    exact H1.out.from (QcT _ _)
   ·exact ⟨rfl,by rw [HR.out];exact QaI.from h1 (QcT _ _)⟩
 ·have HR:Hid (QfJ i m=.error (12,(m.now:Int))):=by show _=_;unfold QfJ QcN;rw [if_neg h01]
  rw [decide_eq_false (by omega)] at e0
  rw [decide_eq_false (by omega)] at e1
  clear h01
  go_enter Tryz.func124,Tryz.ntmps124
  go_wp2_with (go_at_call 139;refine (Qcm _ _ _ hnow).mono ?_;rintro e w' ⟨⟨bb,hz,rfl,hcc⟩,hb⟩)
  exact ⟨rfl,by rw [HR.out];exact QaI.from (QaI.err rfl (Fr.of_below hb) ⟨bb,hz,rfl,hcc⟩) (QcT _ _)⟩
theorem Qsc (i:Ins) (av bv:Value) (B xb sb:Nat) (M:Msg) (m:MS) (count:Nat) (w:World) (h:MAt w B xb sb M m count) (ho:Qb2 w i av bv) :
 Calls Tryz.prog 125 #[.pointer (some ⟨xb,0,none⟩),Qdk i av bv] w (QaI (QlO m) B xb sb M count w):=by
 have HM:=Qaa h
 obtain ⟨aa,ac,rfl⟩:=ho.a.len
 obtain ⟨ba,bc,rfl⟩:=ho.b.len
 clear h ho
 unfold Qdk
 by_cases h0:m.stack=[]
 ·have HR:Hid (QlO m=.error (12,(m.now:Int))):=by show _=_;unfold QlO QcN;rw [if_pos h0]
  go_enter Tryz.func125,Tryz.ntmps125
  go_wp2_with fail
  refine (Qlb B xb sb M m count _ (HM.out.box _) h0).mono ?_
  rintro e w1 ⟨⟨bb,hz,rfl,hcc⟩,hb⟩
  refine ⟨rfl,?_⟩
  rw [HR.out]
  exact QaI.from (QaI.err rfl (Fr.of_below hb) ⟨bb,hz,rfl,hcc⟩) (QcT _ _)
 ·have HR:Hid (QlO m=Qkv (!topL m) (Qn4 m)):=by show _=_;unfold QlO;rw [if_neg h0]
  go_enter Tryz.func125,Tryz.ntmps125
  go_wp2_with fail
  refine (QlT B xb sb M m count _ (HM.out.box _) h0).mono ?_
  rintro e w1 ⟨rfl,hm1,hf1⟩
  have HM1:=Qaa hm1
  have HF1:=Qaa ((QcT _ _).trans hf1)
  clear hm1 hf1
  go_wp2_with fail
  refine (Qfw (!topL m) B xb sb M (Qn4 m) count _ HM1.out).mono ?_
  intro e w2 h2
  rcases h2.cases with ⟨hf,⟨m',hr,rfl,hm⟩ | ⟨f,hr,bb,hz,rfl,hcc⟩⟩
  ·have H2:=Qaa h2
   clear hm hf h2
   go_wp2
   go_end0
   rw [HR.out]
   exact H2.out.from HF1.out
  ·exact ⟨rfl,by rw [HR.out];exact QaI.from h2 HF1.out⟩
theorem MI.go {w:World} {B xb sb:Nat} {M:Msg} {m:MS} {count:Nat} {kv:Value} (h:MI w B xb sb M m count kv) (k:Nat) (hk:k≤count):MAt (w.setCell ⟨xb,3,none⟩ (.int .i64 (k:Int))) B xb sb M (goL m k) count∧Fr (PMc B xb) w (w.setCell ⟨xb,3,none⟩ (.int .i64 (k:Int))):=by
 have hfin:=h.set 3 (.int .i64 (k:Int)) (goL m k) kv rfl rfl (Qbt h.stack h.row _ _) h.sl h.nw hk
 exact ⟨⟨_,hfin.1⟩,hfin.2.mono (fun _ _=>PMc.k)⟩
theorem Qr8 (i:Ins) (av bv:Value) (B xb sb:Nat) (M:Msg) (m:MS) (count:Nat) (w:World) (h:MAt w B xb sb M m count) (ho:Qb2 w i av bv) :
 Calls Tryz.prog 126 #[.pointer (some ⟨xb,0,none⟩),Qdk i av bv] w (QaI (QfT count i m) B xb sb M count w):=by
 obtain ⟨aa,ac,rfl⟩:=ho.a.len
 obtain ⟨ba,bc,rfl⟩:=ho.b.len
 have HM:=Qaa h
 have hxl:xb < w.heap.size:=Qay h.now
 clear ho
 unfold Qdk
 cases hmay:QiB count m i.n
 ·have HR:Hid (QfT count i m=.error (12,(m.now:Int))):=by show _=_;unfold QfT QcN;rw [hmay];rfl
  clear h
  go_enter Tryz.func126,Tryz.ntmps126
  go_wp2_with fail
  refine (Qd8 i.n B xb sb M m count _ (HM.out.box _)).mono ?_
  rintro e w1 ⟨rfl,hb1⟩
  rw [hmay]
  have HB1:=Qaa (((Below.refl w.heap.size w).alloc (Nat.le_refl _) _).trans (hb1.mono (by simp)))
  have hnow:=(HM.out.below HB1.out).now
  clear hb1
  go_wp2_with (go_at_call 139;refine (Qcm _ _ _ hnow).mono ?_;rintro e w' ⟨⟨bb,hz,rfl,hcc⟩,hb⟩)
  exact ⟨rfl,by rw [HR.out];exact QaI.from (QaI.err rfl (Fr.of_below hb) ⟨bb,hz,rfl,hcc⟩) (Fr.of_below HB1.out)⟩
 ·have hle:=QnL hmay
  have HR:Hid (QfT count i m=.ok (goL m (m.next+i.n.toNat))):=by show _=_;unfold QfT;rw [hmay];rfl
  have hnn:0≤i.n:=by unfold QiB at hmay;simp at hmay;exact hmay.1
  obtain ⟨kv,hMI0⟩:=h
  have hcl:=hMI0.cl
  clear hMI0
  go_enter Tryz.func126,Tryz.ntmps126
  go_wp2_with fail
  refine (Qd8 i.n B xb sb M m count _ (HM.out.box _)).mono ?_
  rintro e w1 ⟨rfl,hb1⟩
  rw [hmay]
  have HB1:=Qaa (((Below.refl w.heap.size w).alloc (Nat.le_refl _) _).trans (hb1.mono (by simp)))
  obtain ⟨kv,hMI⟩:=HM.out.below HB1.out
  have hbx:=Qaq (QaB w (.cells #[.int .i64 i.op,.int .i64 i.n,.int .i64 i.tag,.bool i.oct,.slice aa i.a.length ac,.slice ba i.b.length bc,.int .i64 i.at_] 147)) hb1
  have q1:w1.cell? ⟨w.heap.size,1,none⟩=some (.int .i64 i.n):=Qab hbx 1
  have c3:w1.cell? ⟨xb,3,none⟩=some (.int .i64 (m.next:Int)):=Qab hMI.blk 3
  have f3:=Qam hMI.blk
  obtain ⟨d,hd⟩:∃ d:Nat,i.n=(d:Int):=⟨i.n.toNat,by omega⟩
  rw [hd] at q1 HR hle
  rw [Int.toNat_natCast] at HR hle
  have hsum:IntKind.i64.wrap ((m.next:Int)+(d:Int))=(m.next:Int)+(d:Int):=by rw [IntKind.wrap_i64];omega
  have HMI:=Qaa hMI
  have hne:¬ w.heap.size=xb:=by omega
  have hne':¬ xb=w.heap.size:=by omega
  have HG:=Qaa (hMI.go (m.next+d) hle)
  have HGD:=Qaa ((hMI.below (Qar (Below.refl _ _))).go (m.next+d) hle)
  clear hb1 hMI hbx hd hnn hmay
  go_wp2_with (go_at_call 139;refine (QbF _ _).mono ?_;rintro e w' ⟨rfl,hww⟩;rw [hww];clear hww)
  go_region
  all_goals go_wp2
  all_goals go_end0
  all_goals first
   | exact QaI.from (QaI.ok HR.out HG.out.2.drew (HG.out.1.below (Qar (Below.refl _ _)))) (Fr.of_below HB1.out)
   | exact QaI.from (QaI.ok HR.out ((Fr.of_below (Qar (Below.refl _ _))).trans HGD.out.2) HGD.out.1) (Fr.of_below HB1.out)
end
section
open Go.RowKit
attribute [local go_sem ↓] Go.wp_at_zero Go.wp_at_succ
theorem Qi4 (taken:Bool) (p:Nat) (i:Ins) (av bv:Value) (B xb sb:Nat) (M:Msg) (m:MS) (count:Nat) (w:World) (h:MAt w B xb sb M m count) (ho:Qb2 w i av bv) (hp:w.heap[p]?=some (.cells #[.bool taken] 4)) (hpB:p < xb+7) :
 Calls Tryz.prog 181 #[.pointer (some ⟨xb,0,none⟩),Qdk i av bv,.pointer (some ⟨p,0,none⟩)] w (QaI (doCond taken count i m) B xb sb M count w):=by
 obtain ⟨aa,ac,rfl⟩:=ho.a.len
 obtain ⟨ba,bc,rfl⟩:=ho.b.len
 have HM:=Qaa h
 have hxl:xb < w.heap.size:=Qay h.now
 have HP:=Qaa hp
 have hpl:=QaM hp
 clear ho hp
 unfold Qdk
 cases hmay:QiB count m i.n
 ·have HR:Hid (doCond taken count i m=.error (12,(m.now:Int))):=by show _=_;unfold doCond QcN;rw [hmay];rfl
  clear h
  go_enter Tryz.func181,Tryz.ntmps181
  go_wp2_with fail
  refine (Qd8 i.n B xb sb M m count _ (HM.out.box _)).mono ?_
  rintro e w1 ⟨rfl,hb1⟩
  rw [hmay]
  have HB1:=Qaa (((Below.refl w.heap.size w).alloc (Nat.le_refl _) _).trans (hb1.mono (by simp)))
  have hnow:=(HM.out.below HB1.out).now
  clear hb1
  go_wp2_with (go_at_call 139;refine (Qcm _ _ _ hnow).mono ?_;rintro e w' ⟨⟨bb,hz,rfl,hcc⟩,hb⟩)
  exact ⟨rfl,by rw [HR.out];exact QaI.from (QaI.err rfl (Fr.of_below hb) ⟨bb,hz,rfl,hcc⟩) (Fr.of_below HB1.out)⟩
 have hle:=QnL hmay
 have hnn:0≤i.n:=by unfold QiB at hmay;simp at hmay;exact hmay.1
 have hcl:count≤400:=by obtain ⟨kv,hMI0⟩:=h;exact hMI0.cl
 clear h
 have HR0:Hid (m.stack=[]→doCond taken count i m=.error (12,(m.now:Int))):=fun h0=>by unfold doCond QcN;rw [hmay,if_pos rfl,if_pos h0]
 have HR:Hid (m.stack≠[]→doCond taken count i m=.ok (if topL m=taken then goL (Qn4 m) (m.next+i.n.toNat) else Qn4 m)):=fun h0=>by unfold doCond;rw [hmay,if_pos rfl,if_neg h0]
 go_enter Tryz.func181,Tryz.ntmps181
 go_wp2_with fail
 refine (Qd8 i.n B xb sb M m count _ (HM.out.box _)).mono ?_
 rintro e w1 ⟨rfl,hb1⟩
 rw [hmay]
 have HB1:=Qaa (((Below.refl w.heap.size w).alloc (Nat.le_refl _) _).trans (hb1.mono (by simp)))
 have p1:w1.cell? ⟨p,0,none⟩=some (.bool taken):=Qab (Qaq HP.out HB1.out) 0
 have hbx1:=Qaq (QaB w (.cells #[.int .i64 i.op,.int .i64 i.n,.int .i64 i.tag,.bool i.oct,.slice aa i.a.length ac,.slice ba i.b.length bc,.int .i64 i.at_] 147)) hb1
 have HBX:=Qaa hbx1
 have HTK:=Qaa (QrP B xb sb M m count w1.drew ((HM.out.below HB1.out).below (Qar (Below.refl _ _))))
 obtain ⟨d,hd⟩:∃ d:Nat,i.n=(d:Int):=⟨i.n.toNat,by omega⟩
 rw [hd] at HR hle
 rw [Int.toNat_natCast] at HR hle
 have HF1:Hid (∀ w2:World,Fr (PMc B xb) w1.drew w2→w2.cell? ⟨p,0,none⟩=some (.bool taken)∧w2.cell? ⟨w.heap.size,1,none⟩=some (.int .i64 (d:Int))):=fun w2 hf=>by
  have h1:w2.heap[p]?=some (.cells #[.bool taken] 4):=hf.block p _ (Qaq HP.out (Qar HB1.out)) (fun hh=>by
   have:=hh.2
   unfold kO stO at this
   simp at this
   omega)
  have h2:=hf.block w.heap.size _ (show w1.drew.heap[w.heap.size]?=_ from HBX.out) (PMc.not (by decide) (by decide) (by decide) (by decide))
  refine ⟨Qab h1 0,?_⟩
  rw [Qab h2,← hd];rfl
 clear hb1 hbx1 hmay hnn hd
 obtain ⟨tp,htp⟩:∃ tp,topL m=tp:=⟨_,rfl⟩
 rw [htp] at HR HTK
 clear htp
 go_wp2_with (go_at_call 139;refine (QbF _ _).mono ?_;rintro e w' ⟨rfl,hww⟩;rw [hww];clear hww)
 have hsum:IntKind.i64.wrap ((m.next:Int)+(d:Int))=(m.next:Int)+(d:Int):=by rw [IntKind.wrap_i64];omega
 have hne:¬ w.heap.size=xb:=by omega
 have hne':¬ xb=w.heap.size:=by omega
 by_cases hte:tp=taken
 ·subst hte
  have HRR:Hid (m.stack≠[]→doCond tp count i m=.ok (goL (Qn4 m) (m.next+d))):=fun h0=>by rw [HR.out h0,if_pos rfl]
  have hbe:(tp == tp)=true:=by cases tp <;> rfl
  go_region_with (first | (go_at_call 179;refine HTK.out.mono ?_;rintro e w2 (⟨h0,⟨bb,hz,rfl,hcc⟩,hb⟩ | ⟨h0,rfl,hm2,hf2⟩);exact ⟨rfl,by rw [HR0.out h0];exact QaI.from (QaI.err rfl (Fr.of_below hb) ⟨bb,hz,rfl,hcc⟩) (Fr.of_below (Qar HB1.out))⟩;obtain ⟨kv,hMI⟩:=hm2;have p2:=(HF1.out w2 hf2).1;have q2:=(HF1.out w2 hf2).2;have c3:w2.cell? ⟨xb,3,none⟩=some (.int .i64 (m.next:Int)):=Qab hMI.blk 3;have f3:=Qam hMI.blk;have HM2:=Qaa hMI;have HF2:=Qaa hf2;have H0:=Qaa h0;clear hMI hf2 h0;skip))
  all_goals go_wp2_with fail
  all_goals go_region
  all_goals go_wp2
  all_goals go_end0
  all_goals rw [HRR.out H0.out]
  all_goals have HG:=HM2.out.go (m.next+d) hle
  all_goals have HGD:=(HM2.out.below (Qar (Below.refl _ _))).go (m.next+d) hle
  all_goals first
   | exact QaI.from (QaI.ok rfl (HF2.out.trans HG.2.drew) (HG.1.below (Qar (Below.refl _ _)))) (Fr.of_below (Qar HB1.out))
   | exact QaI.from (QaI.ok rfl ((HF2.out.drew).trans HGD.2) HGD.1) (Fr.of_below (Qar HB1.out))
 ·have HRR:Hid (m.stack≠[]→doCond taken count i m=.ok (Qn4 m)):=fun h0=>by rw [HR.out h0,if_neg hte]
  have hbe:(tp == taken)=false:=by cases tp <;> cases taken <;> first | rfl | exact absurd rfl hte
  clear hte
  go_region_with (first | (go_at_call 179;refine HTK.out.mono ?_;rintro e w2 (⟨h0,⟨bb,hz,rfl,hcc⟩,hb⟩ | ⟨h0,rfl,hm2,hf2⟩);exact ⟨rfl,by rw [HR0.out h0];exact QaI.from (QaI.err rfl (Fr.of_below hb) ⟨bb,hz,rfl,hcc⟩) (Fr.of_below (Qar HB1.out))⟩;obtain ⟨kv,hMI⟩:=hm2;have p2:=(HF1.out w2 hf2).1;have q2:=(HF1.out w2 hf2).2;have c3:w2.cell? ⟨xb,3,none⟩=some (.int .i64 (m.next:Int)):=Qab hMI.blk 3;have f3:=Qam hMI.blk;have HM2:=Qaa hMI;have HF2:=Qaa hf2;have H0:=Qaa h0;clear hMI hf2 h0;skip))
  all_goals go_wp2
  all_goals go_end0
  all_goals rw [HRR.out H0.out]
  all_goals exact QaI.from (QaI.ok rfl HF2.out ⟨_,HM2.out⟩) (Fr.of_below (Qar HB1.out))
end
end Go.Proofs.YtbiclelojbfnbabGreatDoor
