import Derived.Lib.IndexMore
import Derived.Laws.EntriesVeiled
import Derived.Test.YthkibedbcbgajaaGreatDoorZCMatch2
import Derived.Test.YthkibedbcbgajaaGreatDoorZReaderT
namespace Go.Proofs.YthkibedbcbgajaaGreatDoor
set_option linter.unusedVariables false
set_option linter.unusedSimpArgs false
set_option maxRecDepth 100000
set_option maxHeartbeats 4000000
open Go.Proofs.Tryz
section
open Go.RowKit
attribute [local go_sem ↓] Go.wp_at_zero Go.wp_at_succ
theorem Qpw{l:Array Bool}{i:Nat}(h:i<l.size):(fun j=>(l.setIfInBounds i true).getD j false)=up (fun j=>l.getD j false) i:=by
 funext j;unfold up;by_cases e:j=i
 ·subst e;simp[h]
 ·rw[if_neg e];exact getD_set_ne false (Ne.symm e)
def tmC (t:ByteArray) (b:Nat) (u8 u16 u18 u20 u25 u26 u27:Value):Act:=
 { tmps:=#[.string t,undef,.pointer none,.pointer (some ⟨b+1,0,none⟩),.string t,.agg #[.string t,.int .i64 0,.int .i64 0,.string ⟨#[]⟩,.string ⟨#[]⟩,.int .i64 0,.int .i64 0,.slice none 0 0,.map none,.map none],(.pointer (some ⟨b,0,none⟩)),(.pointer (some ⟨b,0,none⟩)),u8,(.pointer (some ⟨b,0,none⟩)),(.func (.func 101) #[.pointer (some ⟨b,0,none⟩)] #[]),(.pointer (some ⟨b,0,none⟩)),(.func (.func 102) #[.pointer (some ⟨b,0,none⟩)] #[]),(.pointer (some ⟨b,0,none⟩)),(.func (.func 103) #[.pointer (some ⟨b,0,none⟩)] #[]),(.pointer (some ⟨b,0,none⟩)),u16,(.pointer (some ⟨b,0,none⟩)),u18,(.pointer (some ⟨b,0,none⟩)),u20,(.pointer (some ⟨b,0,none⟩)),(.func (.func 105) #[.pointer (some ⟨b,0,none⟩)] #[]),(.pointer (some ⟨b,0,none⟩)),(.func (.func 106) #[.pointer (some ⟨b,0,none⟩)] #[]),u25,u26,u27,undef,undef,undef,undef,undef,undef,undef,undef,undef,undef,undef,undef,undef,undef,undef,undef,undef,undef,undef],defers:=[] }
def JJC (t:ByteArray) (b:Nat) (W:World) (l:Array Bool) (a:Act) (w:World):Prop:=
 l.size=30∧(∀ i∈[0,2,3,5,6,8,9,11,14,17,20,21,23,24],l.getD i false=true)∧∃ u8 u16 u18 u20 u25 u26 u27,a=tmC t b u8 u16 u18 u20 u25 u26 u27∧JC t b W (.map none) (fun j=>l.getD j false) u8 u16 u18 u20 u25 u26 u27 w
theorem JJC.next{t:ByteArray}{b:Nat}{W:World}{l:Array Bool}{i:Nat}{u8 u16 u18 u20 u25 u26 u27:Value}{w:World}(hl:l.size=30)(ht:∀ i∈[0,2,3,5,6,8,9,11,14,17,20,21,23,24],l.getD i false=true)(hi:i<30)(J:JC t b W (.map none) (up (fun j=>l.getD j false) i) u8 u16 u18 u20 u25 u26 u27 w):JJC t b W (l.setIfInBounds i true) (tmC t b u8 u16 u18 u20 u25 u26 u27) w:=
 ⟨by simp[hl],fun k hk=>getD_set_true (ht k hk),u8,u16,u18,u20,u25,u26,u27,rfl,by rw[Qpw (by omega)];exact J⟩
def Qv5 (t:ByteArray) (w:World) (e:Ending) (w':World):Prop:=∃ mc mt pr pt pf p1 k1 p2 k2 p3 k3,e=.returned (.pointer (some ⟨w.heap.size,0,none⟩))∧RC w' w.heap.size t ps0 (.slice none 0 0) mc mt∧Qo9 w' w.heap.size mt pr pt pf∧QrT w' w.heap.size mc p1 k1 p2 k2 p3 k3∧Below w.heap.size w w'
def tmT (t:ByteArray) (b:Nat) (u8 u16 u18 u20 u25 u26 u27 u29 u30 u31 u43 u44 u45:Value):Act:=
 { tmps:=#[.string t,undef,.pointer none,.pointer (some ⟨b+1,0,none⟩),.string t,.agg #[.string t,.int .i64 0,.int .i64 0,.string ⟨#[]⟩,.string ⟨#[]⟩,.int .i64 0,.int .i64 0,.slice none 0 0,.map none,.map none],(.pointer (some ⟨b,0,none⟩)),(.pointer (some ⟨b,0,none⟩)),u8,(.pointer (some ⟨b,0,none⟩)),(.func (.func 101) #[.pointer (some ⟨b,0,none⟩)] #[]),(.pointer (some ⟨b,0,none⟩)),(.func (.func 102) #[.pointer (some ⟨b,0,none⟩)] #[]),(.pointer (some ⟨b,0,none⟩)),(.func (.func 103) #[.pointer (some ⟨b,0,none⟩)] #[]),(.pointer (some ⟨b,0,none⟩)),u16,(.pointer (some ⟨b,0,none⟩)),u18,(.pointer (some ⟨b,0,none⟩)),u20,(.pointer (some ⟨b,0,none⟩)),(.func (.func 105) #[.pointer (some ⟨b,0,none⟩)] #[]),(.pointer (some ⟨b,0,none⟩)),(.func (.func 106) #[.pointer (some ⟨b,0,none⟩)] #[]),u25,u26,u27,(.pointer (some ⟨b,0,none⟩)),u29,u30,u31,(.pointer (some ⟨b,0,none⟩)),(.func (.func 108) #[.pointer (some ⟨b,0,none⟩)] #[]),(.func (.func 109) #[] #[.pointer (some ⟨b+1,0,none⟩)]),(.func (.func 111) #[] #[.pointer (some ⟨b+1,0,none⟩)]),(.func (.func 112) #[] #[.pointer (some ⟨b+1,0,none⟩)]),(.func (.func 115) #[] #[.pointer (some ⟨b+1,0,none⟩)]),(.func (.func 118) #[] #[.pointer (some ⟨b+1,0,none⟩)]),(.pointer (some ⟨b,0,none⟩)),(.func (.func 119) #[.pointer (some ⟨b,0,none⟩)] #[]),(.pointer (some ⟨b,0,none⟩)),(.func (.func 120) #[.pointer (some ⟨b,0,none⟩)] #[]),u43,u44,u45,undef],defers:=[] }
def JJT (t:ByteArray) (b:Nat) (W:World) (mv1:Value) (u8 u16 u18 u20 u25 u26 u27:Value) (l:Array Bool) (a:Act) (w:World):Prop:=
 l.size=29∧(∀ i∈[0,6,7,9,11,13,15,17,19,20,22,23],l.getD i false=true)∧∃ u29 u30 u31 u43 u44 u45,a=tmT t b u8 u16 u18 u20 u25 u26 u27 u29 u30 u31 u43 u44 u45∧JT t b W mv1 (fun j=>l.getD j false) u29 u30 u31 u43 u44 u45 w
theorem JJT.next{t:ByteArray}{b:Nat}{W:World}{mv1:Value}{l:Array Bool}{i:Nat}{u8 u16 u18 u20 u25 u26 u27 u29 u30 u31 u43 u44 u45:Value}{w:World}(hl:l.size=29)(ht:∀ i∈[0,6,7,9,11,13,15,17,19,20,22,23],l.getD i false=true)(hi:i<29)(J:JT t b W mv1 (up (fun j=>l.getD j false) i) u29 u30 u31 u43 u44 u45 w):JJT t b W mv1 u8 u16 u18 u20 u25 u26 u27 (l.setIfInBounds i true) (tmT t b u8 u16 u18 u20 u25 u26 u27 u29 u30 u31 u43 u44 u45) w:=
 ⟨by simp[hl],fun k hk=>getD_set_true (ht k hk),u29,u30,u31,u43,u44,u45,rfl,by rw[Qpw (by omega)];exact J⟩
theorem QlW{w w':World}{o o':Obj}(h:Mod w.heap.size ((w.alloc o).alloc o') w'):Below w.heap.size w w':=
 ⟨h.os,h.tape,h.output,by have:=h.size;simp at this;omega,fun k hk=>by
  rw [h.block k (by simp;omega) (by omega),Below.heap_alloc _ _ _ (by simp;omega),Below.heap_alloc _ _ _ hk]⟩
theorem Qk3(t:ByteArray)(w:World)(ht:t.size<=600)(a3:∃ m,w.cell? ⟨1,0,none⟩=some (.int .i64 m)) :
 Calls Tryz.prog 59 #[.string t] w (Qv5 t w):=by
 have hmf:∀(fn:Fn) (first cap:Array Value) (w:World),(Instr.makeFunc fn first cap).run Tryz.prog w=.ok (.func fn first cap) w:=fun _ _ _ _=>rfl
 go_enter func59,ntmps59;go_wp2_with fail;refine wp_region_held (S:=fun w'=>w'.cell? ⟨w.heap.size+1,0,none⟩=some (.pointer (some ⟨w.heap.size,0,none⟩))) (by kernel_rfl) ?_;have hS:({ ((w.alloc (Qb9 t (.map none) (.map none))).alloc (.cells #[.pointer (some ⟨w.heap.size,0,none⟩)] 132))with drawn:=((w.alloc (Qb9 t (.map none) (.map none))).alloc (.cells #[.pointer (some ⟨w.heap.size,0,none⟩)] 132)).drawn+1 }:World).cell? ⟨w.heap.size+1,0,none⟩=some (.pointer (some ⟨w.heap.size,0,none⟩)):=Qaa (Qaq (by simp)) 0;refine Qao 0 7 (.pointer (some ⟨w.heap.size,0,none⟩)) rfl hS (fun w' hSw=>by(try dsimp only at hSw);go_simp) ?_;simp only[pt,sz,sc];refine Qao 2 9 (.pointer (some ⟨w.heap.size,0,none⟩)) rfl hS (fun w' hSw=>by(try dsimp only at hSw);go_simp) ?_;simp only[pt,sz,sc];refine Qao 3 10 (.func (.func 101) #[.pointer (some ⟨w.heap.size,0,none⟩)] #[]) rfl hS (fun w' hSw=>by(try dsimp only at hSw);go_simp) ?_;simp only[pt,sz,sc];refine Qao 5 11 (.pointer (some ⟨w.heap.size,0,none⟩)) rfl hS (fun w' hSw=>by(try dsimp only at hSw);go_simp) ?_;simp only[pt,sz,sc];refine Qao 6 12 (.func (.func 102) #[.pointer (some ⟨w.heap.size,0,none⟩)] #[]) rfl hS (fun w' hSw=>by(try dsimp only at hSw);go_simp) ?_;simp only[pt,sz,sc];refine Qao 8 13 (.pointer (some ⟨w.heap.size,0,none⟩)) rfl hS (fun w' hSw=>by(try dsimp only at hSw);go_simp) ?_;simp only[pt,sz,sc];refine Qao 9 14 (.func (.func 103) #[.pointer (some ⟨w.heap.size,0,none⟩)] #[]) rfl hS (fun w' hSw=>by(try dsimp only at hSw);go_simp) ?_;simp only[pt,sz,sc];refine Qao 11 15 (.pointer (some ⟨w.heap.size,0,none⟩)) rfl hS (fun w' hSw=>by(try dsimp only at hSw);go_simp) ?_;simp only[pt,sz,sc];refine Qao 14 17 (.pointer (some ⟨w.heap.size,0,none⟩)) rfl hS (fun w' hSw=>by(try dsimp only at hSw);go_simp) ?_;simp only[pt,sz,sc];refine Qao 17 19 (.pointer (some ⟨w.heap.size,0,none⟩)) rfl hS (fun w' hSw=>by(try dsimp only at hSw);go_simp) ?_;simp only[pt,sz,sc];refine Qao 20 21 (.pointer (some ⟨w.heap.size,0,none⟩)) rfl hS (fun w' hSw=>by(try dsimp only at hSw);go_simp) ?_;simp only[pt,sz,sc];refine Qao 21 22 (.func (.func 105) #[.pointer (some ⟨w.heap.size,0,none⟩)] #[]) rfl hS (fun w' hSw=>by(try dsimp only at hSw);go_simp) ?_;simp only[pt,sz,sc];refine Qao 23 23 (.pointer (some ⟨w.heap.size,0,none⟩)) rfl hS (fun w' hSw=>by(try dsimp only at hSw);go_simp) ?_;simp only[pt,sz,sc];refine Qao 24 24 (.func (.func 106) #[.pointer (some ⟨w.heap.size,0,none⟩)] #[]) rfl hS (fun w' hSw=>by(try dsimp only at hSw);go_simp) ?_;simp only[pt,sz,sc];refine Qfm (JJC t w.heap.size ((w.alloc (Qb9 t (.map none) (.map none))).alloc (.cells #[.pointer (some ⟨w.heap.size,0,none⟩)] 132))) (fun l a w' h=>by rw[h.1];rfl) (fun l a w' h=>?hSS) (fun l a w' i h hi=>?hstep) (fun l a w' h hr=>?hdone) _ _ _ _ (by decide) ?hinit
 case hSS=>
  obtain⟨_,_,_,_,_,_,_,_,_,_,J⟩:=h;exact Qbz (Qaa (Qaq (by simp)) 0) J.mod (by omega)
 case hinit=>
  refine⟨rfl,by decide,undef,undef,undef,undef,undef,undef,undef,rfl,?_⟩;exact⟨by simp;omega,(Mod.refl _ _).drew,Qac (Qam _ _),fun h=>absurd h (by decide),fun h=>absurd h (by decide),fun h=>absurd h (by decide),fun h=>absurd h (by decide),fun h=>absurd h (by decide),fun h=>absurd h (by decide),fun h=>absurd h (by decide),fun h=>absurd h (by decide),fun h=>absurd h (by decide),fun h=>absurd h (by decide),fun h=>absurd h (by decide),fun h=>absurd h (by decide),fun h=>absurd h (by decide),fun h=>absurd h (by decide),fun h=>absurd h (by decide),fun h=>absurd h (by decide),fun h=>absurd h (by decide),fun h=>absurd h (by decide),fun h=>absurd h (by decide)⟩
 case hdone=>
  obtain⟨hl,ac,u8,aw,au,aE,aL,aQ,aP,rfl,J⟩:=h;have aj:=Qea hl (by kernel_rfl) hr;obtain⟨m,p1,k1,p2,k2,p3,k3,ai,aK,af,hWm⟩:=J.done aj;clear J aj hr ac hl hS;unfold tmC;go_wp2_with fail;have aH:Qno w' (w.heap.size+1) w.heap.size:=⟨Qbz (Qaa (Qaq (by simp)) 0) af (by omega),by omega⟩;have a7:=Qar ai;have aU:=Qab ai;have a5:=Qab aK;have aF:=Qab af;have ao:=Qab aH;clear ai aK af aH;refine wp_region_held (S:=fun w2=>w2.cell? ⟨w.heap.size+1,0,none⟩=some (.pointer (some ⟨w.heap.size,0,none⟩))) (by kernel_rfl) ?_;have hS:({ w' with drawn:=w'.drawn+1 }:World).cell? ⟨w.heap.size+1,0,none⟩=some (.pointer (some ⟨w.heap.size,0,none⟩)):=ao.o.1;refine Qao 0 28 (.pointer (some ⟨w.heap.size,0,none⟩)) rfl hS (fun w' hSw=>by(try dsimp only at hSw);go_simp) ?_;simp only[pt,sz,sc];refine Qao 6 32 (.pointer (some ⟨w.heap.size,0,none⟩)) rfl hS (fun w' hSw=>by(try dsimp only at hSw);go_simp) ?_;simp only[pt,sz,sc];refine Qao 7 33 (.func (.func 108) #[.pointer (some ⟨w.heap.size,0,none⟩)] #[]) rfl hS (fun w' hSw=>by(try dsimp only at hSw);go_simp) ?_;simp only[pt,sz,sc];refine Qao 9 34 (.func (.func 109) #[] #[.pointer (some ⟨w.heap.size+1,0,none⟩)]) rfl hS (fun w' hSw=>by(try dsimp only at hSw);go_simp) ?_;simp only[pt,sz,sc];refine Qao 11 35 (.func (.func 111) #[] #[.pointer (some ⟨w.heap.size+1,0,none⟩)]) rfl hS (fun w' hSw=>by(try dsimp only at hSw);go_simp) ?_;simp only[pt,sz,sc];refine Qao 13 36 (.func (.func 112) #[] #[.pointer (some ⟨w.heap.size+1,0,none⟩)]) rfl hS (fun w' hSw=>by(try dsimp only at hSw);go_simp) ?_;simp only[pt,sz,sc];refine Qao 15 37 (.func (.func 115) #[] #[.pointer (some ⟨w.heap.size+1,0,none⟩)]) rfl hS (fun w' hSw=>by(try dsimp only at hSw);go_simp) ?_;simp only[pt,sz,sc];refine Qao 17 38 (.func (.func 118) #[] #[.pointer (some ⟨w.heap.size+1,0,none⟩)]) rfl hS (fun w' hSw=>by(try dsimp only at hSw);go_simp) ?_;simp only[pt,sz,sc];refine Qao 19 39 (.pointer (some ⟨w.heap.size,0,none⟩)) rfl hS (fun w' hSw=>by(try dsimp only at hSw);go_simp) ?_;simp only[pt,sz,sc];refine Qao 20 40 (.func (.func 119) #[.pointer (some ⟨w.heap.size,0,none⟩)] #[]) rfl hS (fun w' hSw=>by(try dsimp only at hSw);go_simp) ?_;simp only[pt,sz,sc];refine Qao 22 41 (.pointer (some ⟨w.heap.size,0,none⟩)) rfl hS (fun w' hSw=>by(try dsimp only at hSw);go_simp) ?_;simp only[pt,sz,sc];refine Qao 23 42 (.func (.func 120) #[.pointer (some ⟨w.heap.size,0,none⟩)] #[]) rfl hS (fun w' hSw=>by(try dsimp only at hSw);go_simp) ?_;simp only[pt,sz,sc];refine Qfm (JJT t w.heap.size w' (.map (some m)) u8 aw au aE aL aQ aP) (fun l a w' h=>by rw[h.1];rfl) (fun l a w' h=>?hSS2) (fun l a w2 i h hi=>?hstep2) (fun l a w2 h hr=>?hdone2) _ _ _ _ (by decide) ?hinit2
  case hSS2=>
   obtain⟨_,_,_,_,_,_,_,_,_,J⟩:=h;exact Qbz ao.o.1 J.mod (by omega)
  case hinit2=>
   refine⟨rfl,by decide,undef,undef,undef,undef,undef,undef,rfl,?_⟩;exact⟨a7,(Mod.refl _ _).drew,aU.o,fun h=>absurd h (by decide),fun h=>absurd h (by decide),fun h=>absurd h (by decide),fun h=>absurd h (by decide),fun h=>absurd h (by decide),fun h=>absurd h (by decide),fun h=>absurd h (by decide),fun h=>absurd h (by decide),fun h=>absurd h (by decide),fun h=>absurd h (by decide),fun h=>absurd h (by decide),fun h=>absurd h (by decide),fun h=>absurd h (by decide),fun h=>absurd h (by decide),fun h=>absurd h (by decide),fun h=>absurd h (by decide),fun h=>absurd h (by decide),fun h=>absurd h (by decide),fun h=>absurd h (by decide)⟩
  case hdone2=>
   obtain⟨hl,ac,a4,aR,aG,a8,aV,aX,rfl,J⟩:=h;have aj:=Qea hl (by kernel_rfl) hr;obtain⟨mt,pt,pf,ai,aM,af,_⟩:=J.done aj ao.o;have hc0:=(ao.o.mod af).1
   have az:Hid (Qv5 t w (.returned (.pointer (some ⟨w.heap.size,0,none⟩))) w2):=by
    have aN:=QlW (aF.o.trans af);obtain⟨mm,aO⟩:=a3;have ak:=Qau aO;exact⟨m,mt,w.heap.size+1,pt,pf,p1,k1,p2,k2,p3,k3,rfl,⟨ai,Nat.zero_le _,⟨mm,by rw[aN.cell (p:=⟨1,0,none⟩) ak];exact aO⟩,ak,ht,⟨Nat.zero_le _,by decide⟩,fun _=>rfl,fun _ c r e=>by cases e⟩,aM,a5.o.mod af,aN⟩
   clear J aj hr ac hl hS ai aM af;unfold tmT;go_wp2;go_ret;exact az.o
  case hstep2=>
   obtain⟨hl,ac,a4,aR,aG,a8,aV,aX,rfl,J⟩:=h;obtain⟨h0,o,ho,aa⟩:=mem_ready.1 hi;have aA:i<29:=(Array.getElem?_eq_some_iff.1 ho).1
   have ab:l.getD i false=false:=by
    have:i<l.size:=by omega
    simp[this]at h0 ⊢;exact h0
   clear h0;rcases(by omega:i=0\/i=1\/i=2\/i=3\/i=4\/i=5\/i=6\/i=7\/i=8\/i=9\/i=10\/i=11\/i=12\/i=13\/i=14\/i=15\/i=16\/i=17\/i=18\/i=19\/i=20\/i=21\/i=22\/i=23\/i=24\/i=25\/i=26\/i=27\/i=28)with hh|hh|hh|hh|hh|hh|hh|hh|hh|hh|hh|hh|hh|hh|hh|hh|hh|hh|hh|hh|hh|hh|hh|hh|hh|hh|hh|hh|hh<;>subst hh
   ·rw[ac 0 (by decide)]at ab;cases ab
   ·clear ho aa hi;refine QaB rfl (by rfl) ?_;unfold tmT;go_simp;exact JJT.next hl ac (by decide) (J.s1 ab)
   ·clear ho aa hi;refine QaB rfl (by rfl) ?_;unfold tmT;go_simp;refine(Qnx true _).mono ?_;rintro e w3 ⟨rfl,rfl⟩;exact JJT.next hl ac (by decide) (J.s2 ab)
   ·have ad:=Option.some.inj (show some _=some o from ho);subst ad;have h1:=aa { on:=1,ground:=.data } (by simp) rfl;have h2:=aa { on:=2,ground:=.data } (by simp) rfl;clear ho aa hi;obtain⟨m2,es,c,rfl,hm,hf,hn,J'⟩:=J.s3 ab h1 h2;have ae:(Instr.mapUpdate 192 (.map (some m2)) (.string ⟨#[116,114,117,101]⟩) (aR)).run Tryz.prog w2=.ok () _:=QaH underlying192 underlying9 hm hf hn _;refine QaB rfl (by rfl) ?_;unfold tmT;go_simp;exact JJT.next hl ac (by decide) J'
   ·clear ho aa hi;refine QaB rfl (by rfl) ?_;unfold tmT;go_simp;refine(Qnx false _).mono ?_;rintro e w3 ⟨rfl,rfl⟩;exact JJT.next hl ac (by decide) (J.s4 ab)
   ·have ad:=Option.some.inj (show some _=some o from ho);subst ad;have h1:=aa { on:=1,ground:=.data } (by simp) rfl;have h2:=aa { on:=4,ground:=.data } (by simp) rfl;clear ho aa hi;obtain⟨m2,es,c,rfl,hm,hf,hn,J'⟩:=J.s5 ab h1 h2;have ae:(Instr.mapUpdate 192 (.map (some m2)) (.string ⟨#[102,97,108,115,101]⟩) (aG)).run Tryz.prog w2=.ok () _:=QaH underlying192 underlying9 hm hf hn _;refine QaB rfl (by rfl) ?_;unfold tmT;go_simp;exact JJT.next hl ac (by decide) J'
   ·rw[ac 6 (by decide)]at ab;cases ab
   ·rw[ac 7 (by decide)]at ab;cases ab
   ·have ad:=Option.some.inj (show some _=some o from ho);subst ad;have h1:=aa { on:=1,ground:=.data } (by simp) rfl;clear ho aa hi;obtain⟨m2,es,c,rfl,hm,hf,hn,J'⟩:=J.s8 ab h1;have ae:(Instr.mapUpdate 192 (.map (some m2)) (.string ⟨#[110,111,116]⟩) (.func (.func 108) #[.pointer (some ⟨w.heap.size,0,none⟩)] #[])).run Tryz.prog w2=.ok () _:=QaH underlying192 underlying9 hm hf hn _;refine QaB rfl (by rfl) ?_;unfold tmT;go_simp;exact JJT.next hl ac (by decide) J'
   ·rw[ac 9 (by decide)]at ab;cases ab
   ·have ad:=Option.some.inj (show some _=some o from ho);subst ad;have h1:=aa { on:=1,ground:=.data } (by simp) rfl;clear ho aa hi;obtain⟨m2,es,c,rfl,hm,hf,hn,J'⟩:=J.s10 ab h1;have ae:(Instr.mapUpdate 192 (.map (some m2)) (.string ⟨#[97,108,108,111,102]⟩) (.func (.func 109) #[] #[.pointer (some ⟨w.heap.size+1,0,none⟩)])).run Tryz.prog w2=.ok () _:=QaH underlying192 underlying9 hm hf hn _;refine QaB rfl (by rfl) ?_;unfold tmT;go_simp;exact JJT.next hl ac (by decide) J'
   ·rw[ac 11 (by decide)]at ab;cases ab
   ·have ad:=Option.some.inj (show some _=some o from ho);subst ad;have h1:=aa { on:=1,ground:=.data } (by simp) rfl;clear ho aa hi;obtain⟨m2,es,c,rfl,hm,hf,hn,J'⟩:=J.s12 ab h1;have ae:(Instr.mapUpdate 192 (.map (some m2)) (.string ⟨#[97,110,121,111,102]⟩) (.func (.func 111) #[] #[.pointer (some ⟨w.heap.size+1,0,none⟩)])).run Tryz.prog w2=.ok () _:=QaH underlying192 underlying9 hm hf hn _;refine QaB rfl (by rfl) ?_;unfold tmT;go_simp;exact JJT.next hl ac (by decide) J'
   ·rw[ac 13 (by decide)]at ab;cases ab
   ·have ad:=Option.some.inj (show some _=some o from ho);subst ad;have h1:=aa { on:=1,ground:=.data } (by simp) rfl;clear ho aa hi;obtain⟨m2,es,c,rfl,hm,hf,hn,J'⟩:=J.s14 ab h1;have ae:(Instr.mapUpdate 192 (.map (some m2)) (.string ⟨#[104,101,97,100,101,114]⟩) (.func (.func 112) #[] #[.pointer (some ⟨w.heap.size+1,0,none⟩)])).run Tryz.prog w2=.ok () _:=QaH underlying192 underlying9 hm hf hn _;refine QaB rfl (by rfl) ?_;unfold tmT;go_simp;exact JJT.next hl ac (by decide) J'
   ·rw[ac 15 (by decide)]at ab;cases ab
   ·have ad:=Option.some.inj (show some _=some o from ho);subst ad;have h1:=aa { on:=1,ground:=.data } (by simp) rfl;clear ho aa hi;obtain⟨m2,es,c,rfl,hm,hf,hn,J'⟩:=J.s16 ab h1;have ae:(Instr.mapUpdate 192 (.map (some m2)) (.string ⟨#[101,110,118,101,108,111,112,101]⟩) (.func (.func 115) #[] #[.pointer (some ⟨w.heap.size+1,0,none⟩)])).run Tryz.prog w2=.ok () _:=QaH underlying192 underlying9 hm hf hn _;refine QaB rfl (by rfl) ?_;unfold tmT;go_simp;exact JJT.next hl ac (by decide) J'
   ·rw[ac 17 (by decide)]at ab;cases ab
   ·have ad:=Option.some.inj (show some _=some o from ho);subst ad;have h1:=aa { on:=1,ground:=.data } (by simp) rfl;clear ho aa hi;obtain⟨m2,es,c,rfl,hm,hf,hn,J'⟩:=J.s18 ab h1;have ae:(Instr.mapUpdate 192 (.map (some m2)) (.string ⟨#[115,116,114,105,110,103]⟩) (.func (.func 118) #[] #[.pointer (some ⟨w.heap.size+1,0,none⟩)])).run Tryz.prog w2=.ok () _:=QaH underlying192 underlying9 hm hf hn _;refine QaB rfl (by rfl) ?_;unfold tmT;go_simp;exact JJT.next hl ac (by decide) J'
   ·rw[ac 19 (by decide)]at ab;cases ab
   ·rw[ac 20 (by decide)]at ab;cases ab
   ·have ad:=Option.some.inj (show some _=some o from ho);subst ad;have h1:=aa { on:=1,ground:=.data } (by simp) rfl;clear ho aa hi;obtain⟨m2,es,c,rfl,hm,hf,hn,J'⟩:=J.s21 ab h1;have ae:(Instr.mapUpdate 192 (.map (some m2)) (.string ⟨#[101,120,105,115,116,115]⟩) (.func (.func 119) #[.pointer (some ⟨w.heap.size,0,none⟩)] #[])).run Tryz.prog w2=.ok () _:=QaH underlying192 underlying9 hm hf hn _;refine QaB rfl (by rfl) ?_;unfold tmT;go_simp;exact JJT.next hl ac (by decide) J'
   ·rw[ac 22 (by decide)]at ab;cases ab
   ·rw[ac 23 (by decide)]at ab;cases ab
   ·have ad:=Option.some.inj (show some _=some o from ho);subst ad;have h1:=aa { on:=1,ground:=.data } (by simp) rfl;clear ho aa hi;obtain⟨m2,es,c,rfl,hm,hf,hn,J'⟩:=J.s24 ab h1;have ae:(Instr.mapUpdate 192 (.map (some m2)) (.string ⟨#[115,105,122,101]⟩) (.func (.func 120) #[.pointer (some ⟨w.heap.size,0,none⟩)] #[])).run Tryz.prog w2=.ok () _:=QaH underlying192 underlying9 hm hf hn _;refine QaB rfl (by rfl) ?_;unfold tmT;go_simp;exact JJT.next hl ac (by decide) J'
   ·have ad:=Option.some.inj (show some _=some o from ho);subst ad;have h1:=aa { on:=1,ground:=.data } (by simp) rfl;have a2:=aa { on:=3,ground:=.data } (by simp) rfl;have a0:=aa { on:=5,ground:=.data } (by simp) rfl;have a1:=aa { on:=8,ground:=.data } (by simp) rfl;have ah:=aa { on:=10,ground:=.data } (by simp) rfl;have aq:=aa { on:=12,ground:=.data } (by simp) rfl;have ap:=aa { on:=14,ground:=.data } (by simp) rfl;have ag:=aa { on:=16,ground:=.data } (by simp) rfl;have aB:=aa { on:=18,ground:=.data } (by simp) rfl;have aD:=aa { on:=21,ground:=.data } (by simp) rfl;have aC:=aa { on:=24,ground:=.data } (by simp) rfl;clear ho aa hi;refine QaB rfl (by rfl) ?_;unfold tmT;go_simp;exact JJT.next hl ac (by decide) (J.s25 ab h1 a2 a0 a1 ah aq ap ag aB aD aC)
   ·clear ho aa hi;refine QaB rfl (by rfl) ?_;unfold tmT;go_simp;exact JJT.next hl ac (by decide) (J.s26 ab)
   ·have ad:=Option.some.inj (show some _=some o from ho);subst ad;have h1:=aa { on:=26,ground:=.data } (by simp) rfl;obtain rfl:=J.m26 h1;clear ho aa hi;refine QaB rfl (by rfl) ?_;unfold tmT;go_simp;exact JJT.next hl ac (by decide) (J.s27 ab)
   ·have ad:=Option.some.inj (show some _=some o from ho);subst ad;have aT:=aa { on:=27,ground:=.data } (by simp) rfl;have aI:=aa { on:=25,ground:=.data } (by simp) rfl;obtain rfl:=J.m27 aT;obtain⟨rfl,h1,_⟩:=J.m25 aI;obtain⟨m2,es,c,rfl,_,_,_⟩:=J.mp h1;clear ho aa hi;have hr:=J.rd;unfold Qb9 at hr;have aY:w2.cell? ⟨w.heap.size,9,none⟩=some _:=Qaa hr 9;rw[show(l.getD 28 false)=false from ab]at aY;have a9:=Qah hr;refine QaB rfl (by rfl) ?_;unfold tmT;go_simp;exact JJT.next hl ac (by decide) (J.s28 ab aI)
 case hstep=>
  obtain⟨hl,ac,u8,aw,au,aE,aL,aQ,aP,rfl,J⟩:=h;obtain⟨h0,o,ho,aa⟩:=mem_ready.1 hi;have aA:i<30:=(Array.getElem?_eq_some_iff.1 ho).1
  have ab:l.getD i false=false:=by
   have:i<l.size:=by omega
   simp[this]at h0 ⊢;exact h0
  clear h0;rcases(by omega:i=0\/i=1\/i=2\/i=3\/i=4\/i=5\/i=6\/i=7\/i=8\/i=9\/i=10\/i=11\/i=12\/i=13\/i=14\/i=15\/i=16\/i=17\/i=18\/i=19\/i=20\/i=21\/i=22\/i=23\/i=24\/i=25\/i=26\/i=27\/i=28\/i=29)with hh|hh|hh|hh|hh|hh|hh|hh|hh|hh|hh|hh|hh|hh|hh|hh|hh|hh|hh|hh|hh|hh|hh|hh|hh|hh|hh|hh|hh|hh<;>subst hh
  ·rw[ac 0 (by decide)]at ab;cases ab
  ·clear ho aa hi;refine QaB rfl (by rfl) ?_;unfold tmC;go_simp;exact JJC.next hl ac (by decide) (J.s1 ab)
  ·rw[ac 2 (by decide)]at ab;cases ab
  ·rw[ac 3 (by decide)]at ab;cases ab
  ·have ad:=Option.some.inj (show some _=some o from ho);subst ad;have h1:=aa { on:=1,ground:=.data } (by simp) rfl;clear ho aa hi;obtain⟨m,es,c,rfl,hm,hf,hn,J'⟩:=J.s4 ab h1;have ae:(Instr.mapUpdate 191 (.map (some m)) (.string ⟨#[107,101,101,112]⟩) (.func (.func 101) #[.pointer (some ⟨w.heap.size,0,none⟩)] #[])).run Tryz.prog w'=.ok () _:=QaH underlying191 underlying9 hm hf hn _;refine QaB rfl (by rfl) ?_;unfold tmC;go_simp;exact JJC.next hl ac (by decide) J'
  ·rw[ac 5 (by decide)]at ab;cases ab
  ·rw[ac 6 (by decide)]at ab;cases ab
  ·have ad:=Option.some.inj (show some _=some o from ho);subst ad;have h1:=aa { on:=1,ground:=.data } (by simp) rfl;clear ho aa hi;obtain⟨m,es,c,rfl,hm,hf,hn,J'⟩:=J.s7 ab h1;have ae:(Instr.mapUpdate 191 (.map (some m)) (.string ⟨#[100,105,115,99,97,114,100]⟩) (.func (.func 102) #[.pointer (some ⟨w.heap.size,0,none⟩)] #[])).run Tryz.prog w'=.ok () _:=QaH underlying191 underlying9 hm hf hn _;refine QaB rfl (by rfl) ?_;unfold tmC;go_simp;exact JJC.next hl ac (by decide) J'
  ·rw[ac 8 (by decide)]at ab;cases ab
  ·rw[ac 9 (by decide)]at ab;cases ab
  ·have ad:=Option.some.inj (show some _=some o from ho);subst ad;have h1:=aa { on:=1,ground:=.data } (by simp) rfl;clear ho aa hi;obtain⟨m,es,c,rfl,hm,hf,hn,J'⟩:=J.s10 ab h1;have ae:(Instr.mapUpdate 191 (.map (some m)) (.string ⟨#[115,116,111,112]⟩) (.func (.func 103) #[.pointer (some ⟨w.heap.size,0,none⟩)] #[])).run Tryz.prog w'=.ok () _:=QaH underlying191 underlying9 hm hf hn _;refine QaB rfl (by rfl) ?_;unfold tmC;go_simp;exact JJC.next hl ac (by decide) J'
  ·rw[ac 11 (by decide)]at ab;cases ab
  ·clear ho aa hi;refine QaB rfl (by rfl) ?_;unfold tmC;go_simp;refine(QoL _ w.heap.size 2 _ rfl).mono ?_;rintro e w2 ⟨rfl,rfl⟩;exact JJC.next hl ac (by decide) (J.s12 ab)
  ·have ad:=Option.some.inj (show some _=some o from ho);subst ad;have h1:=aa { on:=1,ground:=.data } (by simp) rfl;have h2:=aa { on:=12,ground:=.data } (by simp) rfl;clear ho aa hi;obtain⟨m,es,c,rfl,hm,hf,hn,J'⟩:=J.s13 ab h1 h2;have ae:(Instr.mapUpdate 191 (.map (some m)) (.string ⟨#[102,105,108,101,105,110,116,111]⟩) (aw)).run Tryz.prog w'=.ok () _:=QaH underlying191 underlying9 hm hf hn _;refine QaB rfl (by rfl) ?_;unfold tmC;go_simp;exact JJC.next hl ac (by decide) J'
  ·rw[ac 14 (by decide)]at ab;cases ab
  ·clear ho aa hi;refine QaB rfl (by rfl) ?_;unfold tmC;go_simp;refine(QoL _ w.heap.size 3 _ rfl).mono ?_;rintro e w2 ⟨rfl,rfl⟩;exact JJC.next hl ac (by decide) (J.s15 ab)
  ·have ad:=Option.some.inj (show some _=some o from ho);subst ad;have h1:=aa { on:=1,ground:=.data } (by simp) rfl;have h2:=aa { on:=15,ground:=.data } (by simp) rfl;clear ho aa hi;obtain⟨m,es,c,rfl,hm,hf,hn,J'⟩:=J.s16 ab h1 h2;have ae:(Instr.mapUpdate 191 (.map (some m)) (.string ⟨#[114,101,100,105,114,101,99,116]⟩) (au)).run Tryz.prog w'=.ok () _:=QaH underlying191 underlying9 hm hf hn _;refine QaB rfl (by rfl) ?_;unfold tmC;go_simp;exact JJC.next hl ac (by decide) J'
  ·rw[ac 17 (by decide)]at ab;cases ab
  ·clear ho aa hi;refine QaB rfl (by rfl) ?_;unfold tmC;go_simp;refine(QoL _ w.heap.size 4 _ rfl).mono ?_;rintro e w2 ⟨rfl,rfl⟩;exact JJC.next hl ac (by decide) (J.s18 ab)
  ·have ad:=Option.some.inj (show some _=some o from ho);subst ad;have h1:=aa { on:=1,ground:=.data } (by simp) rfl;have h2:=aa { on:=18,ground:=.data } (by simp) rfl;clear ho aa hi;obtain⟨m,es,c,rfl,hm,hf,hn,J'⟩:=J.s19 ab h1 h2;have ae:(Instr.mapUpdate 191 (.map (some m)) (.string ⟨#[114,101,106,101,99,116]⟩) (aE)).run Tryz.prog w'=.ok () _:=QaH underlying191 underlying9 hm hf hn _;refine QaB rfl (by rfl) ?_;unfold tmC;go_simp;exact JJC.next hl ac (by decide) J'
  ·rw[ac 20 (by decide)]at ab;cases ab
  ·rw[ac 21 (by decide)]at ab;cases ab
  ·have ad:=Option.some.inj (show some _=some o from ho);subst ad;have h1:=aa { on:=1,ground:=.data } (by simp) rfl;clear ho aa hi;obtain⟨m,es,c,rfl,hm,hf,hn,J'⟩:=J.s22 ab h1;have ae:(Instr.mapUpdate 191 (.map (some m)) (.string ⟨#[115,101,116]⟩) (.func (.func 105) #[.pointer (some ⟨w.heap.size,0,none⟩)] #[])).run Tryz.prog w'=.ok () _:=QaH underlying191 underlying9 hm hf hn _;refine QaB rfl (by rfl) ?_;unfold tmC;go_simp;exact JJC.next hl ac (by decide) J'
  ·rw[ac 23 (by decide)]at ab;cases ab
  ·rw[ac 24 (by decide)]at ab;cases ab
  ·have ad:=Option.some.inj (show some _=some o from ho);subst ad;have h1:=aa { on:=1,ground:=.data } (by simp) rfl;clear ho aa hi;obtain⟨m,es,c,rfl,hm,hf,hn,J'⟩:=J.s25 ab h1;have ae:(Instr.mapUpdate 191 (.map (some m)) (.string ⟨#[105,102]⟩) (.func (.func 106) #[.pointer (some ⟨w.heap.size,0,none⟩)] #[])).run Tryz.prog w'=.ok () _:=QaH underlying191 underlying9 hm hf hn _;refine QaB rfl (by rfl) ?_;unfold tmC;go_simp;exact JJC.next hl ac (by decide) J'
  ·have ad:=Option.some.inj (show some _=some o from ho);subst ad;have h1:=aa { on:=1,ground:=.data } (by simp) rfl;have aZ:=aa { on:=4,ground:=.data } (by simp) rfl;have a6:=aa { on:=7,ground:=.data } (by simp) rfl;have ah:=aa { on:=10,ground:=.data } (by simp) rfl;have ay:=aa { on:=13,ground:=.data } (by simp) rfl;have ag:=aa { on:=16,ground:=.data } (by simp) rfl;have av:=aa { on:=19,ground:=.data } (by simp) rfl;have ar:=aa { on:=22,ground:=.data } (by simp) rfl;have ax:=aa { on:=25,ground:=.data } (by simp) rfl;clear ho aa hi;refine QaB rfl (by rfl) ?_;unfold tmC;go_simp;exact JJC.next hl ac (by decide) (J.s26 ab h1 aZ a6 ah ay ag av ar ax)
  ·clear ho aa hi;refine QaB rfl (by rfl) ?_;unfold tmC;go_simp;exact JJC.next hl ac (by decide) (J.s27 ab)
  ·have ad:=Option.some.inj (show some _=some o from ho);subst ad;have h1:=aa { on:=27,ground:=.data } (by simp) rfl;obtain rfl:=J.m27 h1;clear ho aa hi;refine QaB rfl (by rfl) ?_;unfold tmC;go_simp;exact JJC.next hl ac (by decide) (J.s28 ab)
  ·have ad:=Option.some.inj (show some _=some o from ho);subst ad;have aS:=aa { on:=28,ground:=.data } (by simp) rfl;have aJ:=aa { on:=26,ground:=.data } (by simp) rfl;obtain rfl:=J.m28 aS;obtain⟨rfl,h1,_⟩:=J.m26 aJ;obtain⟨m,es,c,rfl,_,_,_⟩:=J.mp h1;clear ho aa hi;have hr:=J.rd;unfold Qb9 at hr;have aW:w'.cell? ⟨w.heap.size,8,none⟩=some _:=Qaa hr 8;rw[show(l.getD 29 false)=false from ab]at aW;have a9:=Qah hr;refine QaB rfl (by rfl) ?_;unfold tmC;go_simp;exact JJC.next hl ac (by decide) (J.s29 ab aJ)
theorem QdN(x:L8)(w:World)(h:x.length<=1000000):Calls Tryz.prog 163 #[.string (sA x)] w fun e w'=>e=.returned (.string (sA (zL x)))/\Below w.heap.size w w':=
 QeQ (sA x) w (by rw[Qal];omega)
theorem Qmb(s:ByteArray)(w:World)(hs:s.size<=1000000) :
 Calls Tryz.prog 269 #[.string s] w fun e w'=>e=.returned (.int .i64 (nmLen s.data.toList))/\w'=w:=by
 have hm:s.size<=maxLen:=by unfold maxLen;omega
 by_cases h0:s.size=0
 ·have aa:=Qc3 h0;have hr:nmLen s.data.toList=Qa0 s.data.toList:=by rw[<-ByteArray.toList_eq,aa];rfl
  have HR:=Qab hr;clear hr;go_enter func269,ntmps269;go_wp2_with (go_at_call 210;refine(QbE _ _ hm).mono ?_;rintro e w' ⟨rfl,rfl⟩);go_ret;exact⟨Qb5 (by rw[HR.o]),rfl⟩
 have aa:=Qbq h0;have h0'':s.toList.isEmpty=false:=by simpa using aa
 have h1:0<s.size:=by omega
 have hl:s.data.toList=s[0]::s.data.toList.drop 1:=by have:=Qbf s 0 h1;rwa [List.drop_zero]at this
 cases hd:QaL (s[0].toNat:Int)
 ·have hr:nmLen s.data.toList=Qa0 s.data.toList:=by
   rw[hl];exact if_neg (by rw[hd];decide)
  have HR:=Qab hr;clear hr hl;go_enter func269,ntmps269;go_wp2_with (first|(go_at_call 210;refine(QbE _ _ hm).mono ?_;rintro e w' ⟨rfl,rfl⟩)|(go_at_call 143;refine(QaA _ _).mono ?_;rintro e w' ⟨rfl,rfl⟩));go_ret;exact⟨Qb5 (by rw[HR.o]),rfl⟩
 ·have hr:nmLen s.data.toList=1:=by
   rw[hl];exact if_pos hd
  have HR:=Qab hr;clear hr hl;go_enter func269,ntmps269;go_wp2_with (first|(go_at_call 210;refine(QbE _ _ hm).mono ?_;rintro e w' ⟨rfl,rfl⟩)|(go_at_call 143;refine(QaA _ _).mono ?_;rintro e w' ⟨rfl,rfl⟩));go_ret;exact⟨Qb5 (by rw[HR.o];rfl),rfl⟩
theorem Tryz.zeroVal:∀ W,(zeroValue 339).run Tryz.prog W=.ok (.agg #[.string ⟨#[]⟩]) W:=by
 intro W;have h:(Tryz.prog.info? 339).map (fun i=>i.zero)=some (some (.agg #[.string ⟨#[]⟩])):=by kernel_rfl
 cases hi:Tryz.prog.info? 339 with
 |none=>rw[hi]at h;cases h
 |some i=>
  rw[hi]at h;simp at h;simp[zeroValue,typeInfo,hi,h]
theorem Tryz.fieldVal(x:ByteArray)(W:World):(Instr.field 339 (.agg #[.string x]) 0).run Tryz.prog W=.ok (.string x) W:=by
 simp[Instr.field,run_underlying underlying339,asAgg,Result.andThen,go_sem]
theorem QvR(s:SS)(x:L8):(QnR s x).getD (.agg #[.string ⟨#[]⟩])=.agg #[.string (sA ((s.vals x).getD []))]:=by
 unfold QnR;cases s.vals x<;>rfl
theorem Qsu(B sb:Nat)(M:Msg)(s:SS)(x:L8)(w:World)(h:SAt w B sb M s)(hx:x≠[])(hl:x.length<=1000000) :
 Calls Tryz.prog 270 #[.pointer (some ⟨sb,0,none⟩),.string (sA x)] w fun e w'=>e=.returned (.string (sA (QjO s x)))/\Below w.heap.size w w':=by
 obtain⟨hv,mb,tv,mv,h⟩:=h;obtain⟨c,r,rfl⟩:∃ c r,x=c::r:=by cases x with|nil=>exact absurd rfl hx|cons c r=>exact⟨c,r,rfl⟩
 have hz:(sA (c::r)).size=r.length+1:=rfl;have hg:(sA (c::r))[0]'(by rw[hz];omega)=c:=rfl;have hl':r.length+1<=1000000:=hl;have hub:=UInt8.toNat_lt c;have c5:w.cell? ⟨sb,5,none⟩=some (.map (some mb)):=h.cell 5;have c6:w.cell? ⟨sb,6,none⟩=some tv:=h.cell 6;have af:=h.lt;obtain⟨ta,tc,aj⟩:=h.told.len;subst aj;obtain⟨es,mc,hm,hu⟩:=h.mp;cases hd:QaL (c.toNat:Int)
 ·have aa:QjO s (c::r)=(s.vals (zL (c::r))).getD []:=if_neg (by rw[hd];decide);have HV:=Qab aa
  have HL:Hid (∀ W,Below w.heap.size w W->(Instr.lookup 223 (.map (some mb)) (.string (sA (zL (c::r)))) false).run Tryz.prog W=.ok (.agg #[.string (sA ((s.vals (zL (c::r))).getD []))]) W):=fun W hW=>by
   rw[QuA underlying223 underlying9 Tryz.zeroVal (Qai hm hW) hu,QvR]
  have hfl:=Tryz.fieldVal;clear aa h hm hu;go_enter func270,ntmps270;go_wp2_with (go_at_call 143;refine(QaA _ _).mono ?_;rintro e w' ⟨rfl,rfl⟩);go_region_held3 (fun w'=>w'.cell? ⟨sb,5,none⟩=some (.map (some mb))) (first|go_keep|exact d5) (first|(go_at_call 163;refine(QdN _ _ hl).mono ?_;rintro e w1 ⟨rfl,ac⟩;have ab:=QaT ac;have ak:=Qab ab;have d5:w1.cell? ⟨sb,5,none⟩=some (.map (some mb)):=(ab.cell (p:=⟨sb,5,none⟩) af).trans c5;have hlk:=HL.o w1 ab;clear ac ab;skip))
  all_goals go_wp2
  all_goals go_ret
  all_goals exact⟨by rw[HV.o];rfl,ak.o⟩
 ·have aa:QjO s (c::r)=s.told.getD (c.toNat - 48) []:=if_pos hd;have HV:=Qab aa;have ah:48<=(c.toNat:Int)/\(c.toNat:Int)<=57:=by unfold QaL at hd;simpa using hd
  obtain⟨hd1,hd2⟩:=ah;obtain⟨d,ae⟩:∃ d:Nat,c.toNat=d+48:=⟨c.toNat - 48,by omega⟩;have hd3:(c.toNat:Int) - 48=(d:Int):=by omega
  have hd4:d<=9:=by omega
  have htl:=h.bd.tl;rw[ae,Nat.add_sub_cancel]at HV;clear ae;by_cases hlt2:d<s.told.length
  ·have hi:(d:Int)<(s.told.length:Int):=by omega
   obtain⟨g,ai,ag⟩:∃ g,ta=some ⟨g,0,none⟩/\w.cell? ⟨g,d,none⟩=some (.string (sA (s.told.getD d []))):=by
    rcases h.told with⟨h1,h2⟩ | ⟨g,cc,h1,h2⟩
    ·rw[h2]at hlt2;exact absurd hlt2 (Nat.not_lt_zero _)
    ·injection h1 with h3 h4 h5
     exact⟨g,h3,h2.at d hlt2⟩
   subst ai;obtain⟨z,ad⟩:∃ z,s.told.getD d []=z:=⟨_,rfl⟩;rw[ad]at HV ag;clear aa h hm hu ad;go_enter func270,ntmps270;go_wp2_with (go_at_call 143;refine(QaA _ _).mono ?_;rintro e w' ⟨rfl,rfl⟩)
   all_goals go_ret
   all_goals exact⟨by rw[HV.o];rfl,Below.refl _ _⟩
  ·have hi:¬(d:Int)<(s.told.length:Int):=by omega
   have hn:s.told.getD d []=[]:=by rw[List.getD_eq_getElem?_getD,List.getElem?_eq_none (by omega)];rfl
   have HN:=Qab hn;clear aa h hm hu hn;go_enter func270,ntmps270;go_wp2_with (go_at_call 143;refine(QaA _ _).mono ?_;rintro e w' ⟨rfl,rfl⟩)
   all_goals go_ret
   all_goals exact⟨by rw[HV.o,HN.o];rfl,Below.refl _ _⟩
theorem QkU(l p:L8):Lib.hasPrefix l p=decide (l.take p.length=p):=by
 unfold Lib.hasPrefix;rw[Bool.eq_iff_iff];simp only[List.isPrefixOf_iff_prefix,decide_eq_true_eq];rw[List.prefix_iff_eq_take];exact⟨fun h=>h.symm,fun h=>h.symm⟩
theorem QbA(x:L8)(n:Nat):(sA x).extract 0 n=sA (x.take n):=by
 apply ByteArray.ext;apply Array.ext';simp[sA]
theorem Qf0(x:L8)(n:Nat):(sA x).extract n x.length=sA (x.drop n):=by
 apply ByteArray.ext;apply Array.ext';simp[sA];exact List.take_of_length_le (by simp)
theorem Qva(l:L8):nmLen l<=l.length:=by
 cases l with
 |nil=>exact Nat.le_refl _
 |cons c r=>
  show(if QaL c.toNat then 1 else Qa0 (c::r))<=_
  split
  ·simp
  ·exact Qdj _
theorem QhX{a b:L8}{c d:Int}(h1:a=b)(h2:c=d):Ending.returned (.tuple #[.string (sA a),.int .i64 c])=.returned (.tuple #[.string (sA b),.int .i64 d]):=by rw[h1,h2]
theorem Qgl{s:SS}{x:L8}(h:QeW x=0):(standL s x).1=x.take 1/\(standL s x).2=1:=by
 unfold standL;rw[if_pos h];exact⟨rfl,rfl⟩
theorem Qir{s:SS}{x:L8}(h:QeW x≠0):(standL s x).1=QjO s ((x.drop 2).take (QeW x))/\(standL s x).2=3+QeW x:=by
 unfold standL;rw[if_neg h];exact⟨rfl,rfl⟩
theorem QmA(B sb:Nat)(M:Msg)(s:SS)(x:L8)(w:World)(h:SAt w B sb M s)(hx:x≠[])(hl:x.length<=1000000) :
 Calls Tryz.prog 246 #[.pointer (some ⟨sb,0,none⟩),.string (sA x)] w fun e w'=>e=.returned (.tuple #[.string (sA (standL s x).1),.int .i64 ((standL s x).2:Nat)])/\Below w.heap.size w w':=by
 have hz:=Qal x;have hpos:0<x.length:=List.length_pos_iff.2 hx;have hpos':(1:Int)<=(x.length:Int):=by omega
 have hex:=QbA x 1;have ab:=QkU x [36,123];have HS:=Qab h;by_cases hp:x.take 2=[36,123];rotate_left
 ·obtain⟨e1,e2⟩:=Qgl (s:=s) (x:=x) (by unfold QeW;rw[if_neg (fun h=>hp h.1)]);have E1:=Qab e1;have E2:=Qab e2;rw[show([36,123]:L8).length=2 from rfl,decide_eq_false hp]at ab;have HC:=Qab ab;clear e1 e2 hp ab h hx;go_enter func246,ntmps246;go_wp2_with (go_at_call 268;refine(Tryz.strings_CutPrefix _ _ _).mono ?_;rintro e w' ⟨rfl,rfl⟩;rw[show Lib.hasPrefix (sA x).data.toList _=false from HC.o]);go_ret2;exact⟨QhX E1.o.symm (by rw[E2.o];rfl),Below.refl _ _⟩
 have au:(x.drop 2).length=x.length - 2:=by simp
 have hlen2:2<=x.length:=by have:=congrArg List.length hp;simp at this;omega
 have af:Lib.trimPrefix x [36,123]=x.drop 2:=by unfold Lib.trimPrefix;rw[QkU,show([36,123]:L8).length=2 from rfl,decide_eq_true hp];rfl
 rw[show([36,123]:L8).length=2 from rfl,decide_eq_true hp]at ab;have hn:=Qva (x.drop 2)
 have aa:QeW x=if((x.drop 2).drop (nmLen (x.drop 2))).take 1=[125]then nmLen (x.drop 2)else 0:=by
  unfold QeW;by_cases hq:((x.drop 2).drop (nmLen (x.drop 2))).take 1=[125]
  ·rw[if_pos ⟨hp,hq⟩,if_pos hq]
  ·rw[if_neg (fun h=>hq h.2),if_neg hq]
 obtain⟨y,hy⟩:∃ y,x.drop 2=y:=⟨_,rfl⟩;rw[hy]at af au hn aa;have hyl:y.length<=1000000:=by omega
 clear au;have HC:=Qab ab;have HT:=Qab af;have hyz:=Qal y;obtain⟨n,ae⟩:∃ n,nmLen y=n:=⟨_,rfl⟩;rw[ae]at hn aa
 have ag:∀ W,Calls Tryz.prog 269 #[.string (sA y)] W fun e w'=>e=.returned (.int .i64 (n:Int))/\w'=W:=fun W=>by
  have:=Qmb (sA y) W (by rw[Qal];omega);rw[show(sA y).data.toList=y from rfl,ae]at this;exact this
 have ap:=Qab ag;have ao:=QbA y n;have ai:=Qf0 y n;have hq:=QkU (y.drop n) [125];rw[show([125]:L8).length=1 from rfl]at hq;have hn1:(0:Int)<=(n:Int):=by omega
 have hn2:(n:Int)<=(y.length:Int):=by omega
 obtain⟨nm,ad⟩:∃ nm,y.take n=nm:=⟨_,rfl⟩;have ac:nm.length=n:=by rw[<-ad];simp;omega
 have ax:=Qal nm;rw[ac]at ax;rw[ad]at ao;obtain⟨u,hu⟩:∃ u,y.drop n=u:=⟨_,rfl⟩;rw[hu]at ai hq aa;have HV:=Qab aa;by_cases h0:n=0
 ·subst h0;have ar:QeW x=0:=by rw[aa];split<;>rfl
  obtain⟨e1,e2⟩:=Qgl (s:=s) (x:=x) ar;have E1:=Qab e1;have E2:=Qab e2;have ah:nm=[]:=List.eq_nil_of_length_eq_zero ac;subst ah;clear e1 e2 hp ab h hx af hy ag aa ar ae ad hq hu HV;go_enter func246,ntmps246;go_wp2_with (first|(go_at_call 268;refine(Tryz.strings_CutPrefix _ _ _).mono ?_;rintro e w' ⟨rfl,rfl⟩;rw[show Lib.hasPrefix (sA x).data.toList _=true from HC.o,show Lib.trimPrefix (sA x).data.toList _=y from HT.o,show(⟨y.toArray⟩:ByteArray)=sA y from rfl])|(go_at_call 269;refine(ap.o _).mono ?_;rintro e w' ⟨rfl,rfl⟩));go_ret2;exact⟨QhX E1.o.symm (by rw[E2.o];rfl),Below.refl _ _⟩
 have ay:nm≠[]:=fun e=>h0 (by rw[<-ac,e];rfl)
 have av:¬(sA nm).size=0:=by omega
 have aj:=Qbq av;have hnz2:(sA nm).toList.isEmpty=false:=by simpa using aj
 by_cases hq1:u.take 1=[125]
 ·rw[if_pos hq1]at aa;rw[decide_eq_true hq1]at hq;have HQ:=Qab hq;obtain⟨e1,e2⟩:=Qir (s:=s) (x:=x) (by rw[aa];exact h0);rw[aa]at e1 e2;rw[hy,ad]at e1;have E1:=Qab e1;have E2:=Qab e2;have ak:nm.length<=1000000:=by omega
  clear e1 e2 hp ab h hx af hy ag aa ae ad hq hu HV hq1;go_enter func246,ntmps246;go_wp2_with (first|(go_at_call 268;refine(Tryz.strings_CutPrefix _ _ _).mono ?_;rintro e w' ⟨rfl,rfl⟩;rw[show Lib.hasPrefix (sA x).data.toList _=true from HC.o,show Lib.trimPrefix (sA x).data.toList _=y from HT.o,show(⟨y.toArray⟩:ByteArray)=sA y from rfl])|(go_at_call 269;refine(ap.o _).mono ?_;rintro e w' ⟨rfl,rfl⟩)|(go_at_call 156;refine(Tryz.strings_HasPrefix _ _ _).mono ?_;rintro e w' ⟨rfl,rfl⟩;rw[show Lib.hasPrefix (sA u).data.toList _=true from HQ.o])|(go_at_call 270;refine(Qsu B sb M s nm _ HS.o ay ak).mono ?_;rintro e w1 ⟨rfl,aq⟩;have aw:=Qab aq;clear aq));go_ret2;exact⟨QhX E1.o.symm (by rw[E2.o];omega),aw.o⟩
 ·rw[if_neg hq1]at aa;rw[decide_eq_false hq1]at hq;have HQ:=Qab hq;obtain⟨e1,e2⟩:=Qgl (s:=s) (x:=x) aa;have E1:=Qab e1;have E2:=Qab e2;clear e1 e2 hp ab h hx af hy ag aa ae ad hq hu HV hq1;go_enter func246,ntmps246;go_wp2_with (first|(go_at_call 268;refine(Tryz.strings_CutPrefix _ _ _).mono ?_;rintro e w' ⟨rfl,rfl⟩;rw[show Lib.hasPrefix (sA x).data.toList _=true from HC.o,show Lib.trimPrefix (sA x).data.toList _=y from HT.o,show(⟨y.toArray⟩:ByteArray)=sA y from rfl])|(go_at_call 269;refine(ap.o _).mono ?_;rintro e w' ⟨rfl,rfl⟩)|(go_at_call 156;refine(Tryz.strings_HasPrefix _ _ _).mono ?_;rintro e w' ⟨rfl,rfl⟩;rw[show Lib.hasPrefix (sA u).data.toList _=false from HQ.o]));go_ret2;exact⟨QhX E1.o.symm (by rw[E2.o];rfl),Below.refl _ _⟩
theorem Qum(l:L8)(h:QeW l≠0):3+QeW l<=l.length:=by
 unfold QeW at h ⊢
 split at h
 ·next hc=>
  rw[if_pos hc];have h1:=congrArg List.length hc.2;simp at h1;omega
 ·exact absurd rfl h
theorem QuQ(s:SS)(l:L8)(h:l≠[]):1<=(standL s l).2/\(standL s l).2<=l.length:=by
 have hp:=List.length_pos_iff.2 h;by_cases hv:QeW l=0
 ·rw[(Qgl hv).2];omega
 ·rw[(Qir hv).2];have:=Qum l hv;omega
theorem Qs5{M:Msg}{s:SS}(b:SBd M s)(l:L8):(standL s l).1.length<=100000:=by
 by_cases hv:QeW l=0
 ·rw[(Qgl hv).1];simp;omega
 ·rw[(Qir hv).1];generalize (l.drop 2).take (QeW l)=x;unfold QjO;split
  ·exact Nat.zero_le _
  ·split
   ·next c r _=>
    rw[List.getD_eq_getElem?_getD]
    cases hg:s.told[c.toNat - 48]? with
    |none=>exact Nat.zero_le _
    |some t=>exact b.told t (List.mem_of_getElem? hg)
   ·next c r _=>
    cases hg:s.vals (zL (c::r))with
    |none=>exact Nat.zero_le _
    |some t=>have:=b.vals _ t hg;show t.length<=_;omega
theorem QkI{s:SS}{n:Nat}{l aa:L8}(h:¬(l≠[]/\aa.length<1024)):Qqm s n l aa=aa:=by
 cases n with
 |zero=>rfl
 |succ n=>unfold Qqm;rw[if_neg h]
theorem QnO{s:SS}{n:Nat}{l aa:L8}(h:l≠[]/\aa.length<1024):Qqm s (n+1) l aa=Qqm s n (l.drop (standL s l).2) (aa++(standL s l).1.take (1024 - aa.length)):=by
 rw[Qqm,if_pos h]
theorem QrO(x y:L8):Qep x++Qep y=Qep (x++y):=by simp[Qep]
theorem Qe5{B:Nat}{u w w':World}{row:Option Nat}(h:Below B u w)(hg:w.grownBy w' row)(hB:B<=w.heap.size)(hr:∀ k,row=some k->B<=k):Below B u w':=
 ⟨hg.os.trans h.os,hg.tape.trans h.tape,hg.output.trans h.output,Nat.le_trans h.size hg.size,fun k hk=>by
  rw[hg.block k (by omega) (fun e=>by have:=hr k e.symm;omega)]
  exact h.block k hk⟩
structure TxI (w:World) (s:SS) (x:L8) (k:Nat) (acc:L8) (v:Value) (wr:World):Prop where
 kl:k≤x.length
 al:acc.length≤1024
 own:wr.ownsRow w.heap.size 5 1 v acc.length (Qep acc)
 bl:Below w.heap.size w wr
 ex:∃ F,x.length - k < F∧Qqm s (x.length+1) x []=Qqm s F (x.drop k) acc
theorem Qlo(B sb:Nat)(M:Msg)(s:SS)(x:L8)(w:World)(h:SAt w B sb M s)(hl:x.length<=1000000) :
 Calls Tryz.prog 226 #[.pointer (some ⟨sb,0,none⟩),.string (sA x)] w fun e w'=>e=.returned (.string (sA (expL s x)))/\Below w.heap.size w w':=by
 have HS:=Qab h;obtain⟨hv,mb,tv,mv,h⟩:=h;have c4:w.cell? ⟨sb,4,none⟩=some (.bool s.vs):=h.cell 4;have aq:=h.bd;have aw:=Qab aq;clear h aq;cases hvs:s.vs
 ·have he:expL s x=x:=by unfold expL;rw[hvs];rfl
  have HE:=Qab he;rw[hvs]at c4;clear he;go_enter func226,ntmps226;go_wp2;go_ret;exact⟨by rw[HE.o];rfl,Below.refl _ _⟩
 have he:expL s x=Qqm s (x.length+1) x []:=by unfold expL;rw[if_pos hvs]
 have HE:=Qab he;rw[hvs]at c4;have hz:=Qal x;obtain⟨i0,hi,aE,aD,aA⟩:=info_parts Tryz.infoU8;clear he hvs;go_enter func226,ntmps226;go_wp2
 go_loopw [5,6,7,8] (fun v a _ _ wr=>∃(k:Nat) (aa:L8),a=.int .i64 (k:Int)/\TxI w s x k aa v wr) (fun _ a _ _ _=>x.length - (intOf a).toNat)
 case atStart=>exact⟨0,[],rfl,Nat.zero_le _,Nat.zero_le _,World.ownsRow_nil _ _ _ _,Below.refl _ _,x.length+1,by omega,rfl⟩
 case round=>
  obtain⟨k,aa,rfl,hI⟩:=hrel;have HI:=Qab hI;have hkl:=hI.kl;have hal:=hI.al;have aB:=hI.bl.size;obtain⟨va,vc,ay⟩:=Qat hI.own;subst ay;have HO:=Qab hI.own;clear hI;by_cases hlt:k<x.length;rotate_left
  ·have hk:¬(k:Int)<(x.length:Int):=by omega
   have HR:Hid (expL s x=aa):=by
    obtain⟨F,hF,hx⟩:=HI.o.ex;show _=_
    rw[HE.o,hx,List.drop_of_length_le (by omega)];exact QkI (fun h=>h.1 rfl)
   have av:=Qei wr _ _ aa HO.o;go_wp2;go_ret;exact⟨by rw[HR.o];rfl,HI.o.bl⟩
  have hk:(k:Int)<(x.length:Int):=by omega
  by_cases ha:aa.length<1024;rotate_left
  ·have au:¬(aa.length:Int)<1024:=by omega
   have HR:Hid (expL s x=aa):=by
    obtain⟨F,hF,hx⟩:=HI.o.ex;show _=_
    rw[HE.o,hx];exact QkI (fun h=>ha h.2)
   have av:=Qei wr _ _ aa HO.o;go_wp2;go_ret;exact⟨by rw[HR.o];rfl,HI.o.bl⟩
  have au:(aa.length:Int)<1024:=by omega
  have aF:=Qf0 x k;have ad:(x.drop k).length=x.length - k:=by simp
  have ae:x.drop k≠[]:=fun e=>by rw[e]at ad;simp at ad;omega
  have ah:=QuQ s (x.drop k) ae;have ax:=Qs5 aw.o (x.drop k);have ab:(x.drop k).length<=1000000:=by omega
  rw[ad]at ah
  have HX:Hid (∃ F,x.length - (k+(standL s (x.drop k)).2)<F/\Qqm s (x.length+1) x []=Qqm s F (x.drop (k+(standL s (x.drop k)).2)) (aa++(standL s (x.drop k)).1.take (1024 - aa.length))):=by
   obtain⟨F,hF,hx⟩:=HI.o.ex;obtain⟨F',rfl⟩:∃ F',F=F'+1:=⟨F - 1,by omega⟩;refine⟨F',by omega,?_⟩;rw[hx,QnO ⟨ae,ha⟩,List.drop_drop]
  have HC:Hid (∀ W,Below wr.heap.size wr W->Calls Tryz.prog 246 #[.pointer (some ⟨sb,0,none⟩),.string (sA (x.drop k))] W fun e w'=>e=.returned (.tuple #[.string (sA (standL s (x.drop k)).1),.int .i64 ((standL s (x.drop k)).2:Nat)])/\Below W.heap.size W w'):=fun W hW=>
   QmA B sb M s (x.drop k) W (HS.o.below (HI.o.bl.trans (hW.mono HI.o.bl.size))) ae ab
  generalize standL s (x.drop k)=p at *;obtain⟨st,n⟩:=p;dsimp only at ah ax HX HC;obtain⟨hs1,hs2⟩:=ah;obtain⟨y,hy⟩:∃ y,x.drop k=y:=⟨_,rfl⟩;rw[hy]at aF HC;have hsz:=Qal st;have hk0:(0:Int)<=(k:Int):=by omega
  have hkx:(k:Int)<=(x.length:Int):=by omega
  have hkn:IntKind.i64.wrap ((k:Int)+(n:Int))=(k:Int)+(n:Int):=by rw[IntKind.wrap_i64];omega
  obtain⟨z,ac⟩:∃ z,st.take (1024 - aa.length)=z:=⟨_,rfl⟩;have ar:z.length<=1024 - aa.length:=by rw[<-ac];simp;omega
  have af:=Qab ar;obtain⟨q,ao⟩:∃ q:Nat,q=min st.length (1024 - aa.length):=⟨_,rfl⟩;have hq:min (st.length:Int) (1024 - (aa.length:Int))=(q:Int):=by omega
  have hq1:(q:Int)<=(st.length:Int):=by omega
  have hex2:(sA st).extract 0 q=sA z:=by
   rw[QbA,<-ac,ao];congr 1;rcases Nat.le_total st.length (1024 - aa.length)with hh|hh
   ·rw[Nat.min_eq_left hh,List.take_of_length_le (Nat.le_refl _),List.take_of_length_le hh]
   ·rw[Nat.min_eq_right hh]
  rw[ac]at HX;clear ac ad ab ae hy ar ao;go_wp2_with (first|(go_at_call 246;refine(HC.o _ (Below.refl _ _)).mono ?_;rintro e w1 ⟨rfl,ag⟩;have ai:=Qab (HI.o.bl.trans (ag.mono aB));have ap:=Qab (QaR (P:=fun _ _=>False) HO.o (Fr.of_below ag) (fun _ _ h=>h));clear ag)|(at_builtin;refine Lib.wpList_append_own_string w1 rfl _ _ 244 9 rfl w.heap.size 5 i0 underlying244 underlying9 hi aE aD aA _ _ _ rfl ap.o (sA z) rfl (by rw[Qal];unfold maxLen;have:=af.o;omega) (by rw[Qal];have:=af.o;omega) ai.o.size ?_;intro v5 w5 aj ak _;have az:=Qab (Qe5 ai.o ak ai.o.size (fun k hk=>(ap.o.lt k hk).1));have aC:=Qab aj;clear aj ak));go_roundw
  case rel=>
   refine⟨k+n,aa++z,by go_num,by omega,by rw[List.length_append];have:=af.o;omega,?_,az.o,HX.o⟩;rw[List.length_append,<-QrO];exact aC.o
  case measure=>simp[intOf];omega
theorem Qkb(v:L8)(aa:List (Nat×UInt8))(pl:List Nat)(k:Nat):(toldTo v aa pl k).length<=k+1:=by
 induction k with
 |zero=>exact Nat.le_refl _
 |succ k ih=>rw[toldTo,List.length_append];split<;>simp<;>omega
theorem QnZ(v:L8)(aa:List (Nat×UInt8))(pl:List Nat)(k:Nat)(hk:k<aa.length)(h:aa[k].1≠0):toldTo v aa pl (k+1)=toldTo v aa pl k++[(v.drop (pl.getD k 0)).take (pl.getD (k+1) 0 - pl.getD k 0)]:=by
 rw[toldTo,if_neg];rw[List.getD_eq_getElem?_getD,List.getElem?_eq_getElem hk];exact h
theorem Qpg(v:L8)(aa:List (Nat×UInt8))(pl:List Nat)(k:Nat)(hk:k<aa.length)(h:aa[k].1=0):toldTo v aa pl (k+1)=toldTo v aa pl k:=by
 rw[toldTo,if_pos,List.append_nil];rw[List.getD_eq_getElem?_getD,List.getElem?_eq_getElem hk];exact h
theorem QoC(s:ByteArray)(x y:Nat):s.extract x y=sA ((s.data.toList.drop x).take (y - x)):=by
 apply ByteArray.ext;apply Array.ext';simp[sA,List.take_drop]
theorem Qas{B:Nat}{u w:World}(h:Below B u w):Below B u w.drew:=⟨h.os,h.tape,h.output,h.size,h.block⟩
theorem QnM(x:ByteArray):∀ u∈[Value.string x],u.oneCell'=true:=by
 intro u hu;simp at hu;subst hu;rfl
theorem Qmh(s:ByteArray)(aa:List (Nat×UInt8))(kv:Value)(base gp:Nat)(pl:List Nat)(w:World)(hs:s.size<=1000000)(hkl:aa.length<=1000000)(hk:w.ownsRow base 350 2 kv aa.length (Qce aa))(hp:w.heap[gp]?=some (.cells (Qex pl) 3))(hpl:pl.length=aa.length+1)(aB:∀ i,i<aa.length->pl.getD i 0<=pl.getD (i+1) 0/\pl.getD (i+1) 0<=s.size) :
 Calls Tryz.prog 225 #[.string s,kv,.slice (some ⟨gp,0,none⟩) (aa.length+1) (aa.length+1)] w fun e w'=>∃ v,e=.returned v/\w'.ownsRow w.heap.size 9 1 v (toldTo s.data.toList aa pl aa.length).length (QaD (toldTo s.data.toList aa pl aa.length))/\Below w.heap.size w w':=by
 obtain⟨ka,kc,aF⟩:∃ ka kc,kv=.slice ka aa.length kc:=by
  rcases hk.2 with⟨h,h2⟩ | ⟨g,ay,aJ,h,_⟩
  ·exact⟨none,0,by rw[h,h2]⟩
  ·exact⟨_,_,h⟩
 subst aF
 have HK:Hid (∀ j,j<aa.length->∃ g,ka=some ⟨g,0,none⟩/\g<w.heap.size/\Qxx w g aa):=by
  intro j hj;rcases hk.2 with⟨h,h2⟩ | ⟨g,ay,aJ,h,hb,hg,_⟩
  ·omega
  ·injection h with h1 h2 h3
   subst h1 h3;exact⟨g,rfl,Qar hg,Qxx.of_owns hk⟩
 have HP:=Qab hp;have ap:=Qar hp;obtain⟨i0,hi,aI,aH,aE⟩:=info_parts Tryz.infoStr;clear hk hp;go_enter func225,ntmps225;go_wp2_with fail
 go_loopw [7,14] (fun l i wr=>∃(k:Nat),k<=aa.length/\i=.int .i64 (k:Int)/\wr.ownsRow w.heap.size 9 1 l (toldTo s.data.toList aa pl k).length (QaD (toldTo s.data.toList aa pl k))/\Below w.heap.size w wr) (fun _ i _=>aa.length - (intOf i).toNat)
 case atStart=>
  refine⟨0,Nat.zero_le _,by go_num,?_,(Below.refl _ _).alloc (Nat.le_refl _) _⟩;exact World.ownsRow_lit (e:=9) (size:=1) w #[.string s] 1 (Nat.le_refl _) (by unfold maxLen;omega) rfl
 case round=>
  obtain⟨k,hkk,rfl,ad,hB⟩:=hrel;have ae:w.heap.size<=wr.heap.size:=hB.size;have hlen:=Qkb s.data.toList aa pl k;have HB:=Qab hB;have af:=Qab ad;clear hB ad;by_cases hlt:k<aa.length;rotate_left
  ·have ax:k=aa.length:=by omega
   subst ax;have az:¬(aa.length:Int)<(aa.length:Int):=by omega
   go_wp2;go_ret;exact⟨_,rfl,af.o,HB.o⟩
  obtain⟨g,rfl,ag,ar⟩:=HK.o k hlt;obtain⟨ak,av⟩:=ar k hlt;have c1:wr.cell? ⟨g,k*2,none⟩=some (.int .i64 aa[k].1):=by rw[HB.o.cell (p:=⟨g,k*2,none⟩) ag];exact ak
  have c2:wr.cell? ⟨g,k*2+1,none⟩=some (.int .u8 aa[k].2.toNat):=by rw[HB.o.cell (p:=⟨g,k*2+1,none⟩) ag];exact av
  have az:(k:Int)<(aa.length:Int):=by omega
  have hgr:g<wr.heap.size:=Nat.lt_of_lt_of_le ag ae;have hpr:gp<wr.heap.size:=Nat.lt_of_lt_of_le ap ae;clear ar ak av;by_cases h0:aa[k].1=0
  ·have ek:((aa[k].1:Int) != 0)=false:=by rw[h0];rfl
   have HS:=Qab (Qpg s.data.toList aa pl k hlt h0);go_wp2;go_roundw
   case rel=>exact⟨k+1,by omega,by go_num,by rw[HS.o];exact af.o.alloc _,HB.o.alloc ae _⟩
   case measure=>simp[intOf];omega
  ·have ek:((aa[k].1:Int) != 0)=true:=by simp;omega
   have HS:=Qab (QnZ s.data.toList aa pl k hlt h0);obtain⟨aA,aw⟩:=aB k hlt;have ao:wr.heap[gp]?=some (.cells (Qex pl) 3):=by rw[HB.o.block gp ap];exact HP.o
   obtain⟨x,hx⟩:∃ x,pl.getD k 0=x:=⟨_,rfl⟩;obtain⟨y,hy⟩:∃ y,pl.getD (k+1) 0=y:=⟨_,rfl⟩;have aq:pl[k]?=some x:=by rw[List.getElem?_eq_getElem (by omega),<-hx,List.getD_eq_getElem?_getD,List.getElem?_eq_getElem (show k<pl.length by omega)];rfl
   have au:pl[k+1]?=some y:=by rw[List.getElem?_eq_getElem (by omega),<-hy,List.getD_eq_getElem?_getD,List.getElem?_eq_getElem (show k+1<pl.length by omega)];rfl
   rw[hx,hy]at HS aA;rw[hy]at aw;obtain⟨W,hW⟩:∃ W,W=wr.alloc (.cells #[.int .i64 aa[k].1,.int .u8 aa[k].2.toNat] 350):=⟨_,rfl⟩;have hWs:W.heap.size=wr.heap.size+1:=by rw[hW];simp
   have aC:Hid (Below w.heap.size w W):=by rw[hW];exact HB.o.alloc ae _
   have ai:Hid (W.ownsRow w.heap.size 9 1 u7 (toldTo s.data.toList aa pl k).length (QaD (toldTo s.data.toList aa pl k))):=by rw[hW];exact af.o.alloc _
   have ah:W.heap[gp]?=some (.cells (Qex pl) 3):=by rw[hW];exact Qac ao
   have p1:W.cell? ⟨gp,k,none⟩=some (.int .i64 (x:Int)):=by rw[Qaa ah];simp[Qex,aq]
   have p2:W.cell? ⟨gp,k+1,none⟩=some (.int .i64 (y:Int)):=by rw[Qaa ah];simp[Qex,au]
   have aK:s.extract x y=sA ((s.data.toList.drop x).take (y - x)):=QoC s x y;have hxs:x<=s.size:=by omega
   have hb1:(k:Int)<(aa.length:Int)+1:=by omega
   have hwp:IntKind.i64.wrap ((k:Int)+1)=(k:Int)+1:=by rw[IntKind.wrap_i64];omega
   have hb2:(k:Int)+1<(aa.length:Int)+1:=by omega
   have hb3:(0:Int)<=(k:Int)+1:=by omega
   have hb4:(x:Int)<=(y:Int):=by omega
   have hb5:(y:Int)<=(s.size:Int):=by omega
   obtain⟨z,hz⟩:∃ z,(s.data.toList.drop x).take (y - x)=z:=⟨_,rfl⟩;rw[hz]at HS aK;have aj:=ai.o;generalize hT:toldTo s.data.toList aa pl k=T at *;clear ao ah af HB hx hy aq au hz aj;go_wp2_with fail;rw[<-hW];clear hW;go_region_law (refine step_append_lies _ rfl (.tmp 22) (.tmp 34) 89 rfl w.heap.size 9 i0 (.string ⟨#[]⟩) 1 16 underlying89 hi aI aH aE rfl (by decide) u7 T.length (QaD T) (by simp[Act.eval,Act.put]) (ai.o.alloc _) ⟨W.heap.size,0,none⟩ 1 1 [.string (sA z)] (by simp[Act.eval,Act.put]) rfl (cell_one_new _ _ _) (QnM _) (by decide) (by unfold maxLen;omega) (by omega) (by simp;omega) _ rfl ?_;intro g' cap' w5 ab ac hat hlt5;have aD:=Qab (Qbs (Qas aC.o) (by show _<=W.heap.size;omega) ac (fun k hk=>(ai.o.lt k hk).1));have aG:=Qab ab;clear ab ac;skip)
   all_goals go_wp2
   all_goals refine⟨⟨k+1,by omega,by go_num,?_,aD.o⟩,by simp[intOf];omega⟩
   all_goals rw[HS.o,List.length_append,<-Qb4]
   all_goals exact aG.o
theorem SlT.get{w:World}{v:Value}{zs:List (L8)}(h:SlT w v zs)(j:Nat)(hj:j<zs.length):∃ g c,v=.slice (some ⟨g,0,none⟩) zs.length c/\g<w.heap.size/\w.cell? ⟨g,j,none⟩=some (.string (sA zs[j])):=by
 rcases h with⟨_,rfl⟩ | ⟨g,c,hv,ht⟩
 ·exact absurd hj (Nat.not_lt_zero _)
 ·refine⟨g,c,hv,?_,?_⟩
  ·obtain⟨cs,hb,_⟩:=ht;exact Qar hb
  ·have:=ht.at j hj;rwa [List.getD_eq_getElem?_getD,List.getElem?_eq_getElem hj]at this
theorem SlT.get'{w:World}{la:Option Addr}{n lc:Nat}{zs:List (L8)}(h:SlT w (.slice la n lc) zs)(j:Nat)(hj:j<zs.length):∃ g,la=some ⟨g,0,none⟩/\g<w.heap.size/\w.cell? ⟨g,j,none⟩=some (.string (sA zs[j])):=by
 obtain⟨g,c,hv,hg,hc⟩:=h.get j hj;injection hv with h1 h2 h3
 exact⟨g,h1,hg,hc⟩
theorem QjG.get'{w:World}{la:Option Addr}{n lc:Nat}{hs:List (L8×L8)}(h:QjG w (.slice la n lc) hs)(j:Nat)(hj:j<hs.length):∃ g,la=some ⟨g,0,none⟩/\g<w.heap.size/\w.cell? ⟨g,j*2,none⟩=some (.string (sA hs[j].1))/\w.cell? ⟨g,j*2+1,none⟩=some (.string (sA hs[j].2)):=by
 obtain⟨g,c,hv,hg,hc⟩:=h.cells j hj;injection hv with h1 h2 h3
 exact⟨g,h1,hg,hc⟩
theorem Qle{α β:Type}(f:α->β)(zs:List α)(k:Nat)(h:k<zs.length):(zs.take (k+1)).map f=(zs.take k).map f++[f zs[k]]:=by
 rw[List.take_succ_eq_append_getElem h,List.map_append];rfl
theorem QeH(B sb:Nat)(M:Msg)(s:SS)(zs:List (L8))(lv:Value)(w:World)(h:SAt w B sb M s)(ac:SlT w lv zs)(hl:∀ z∈zs,z.length<=1000000)(hn:zs.length<=1000000) :
 Calls Tryz.prog 184 #[.pointer (some ⟨sb,0,none⟩),lv] w fun e w'=>∃ v,e=.returned v/\w'.ownsRow w.heap.size 9 1 v zs.length (QaD (zs.map (expL s)))/\Below w.heap.size w w':=by
 have HS:=Qab h;have av:=Qab ac;obtain⟨la,lc,aj⟩:=ac.len;subst aj;obtain⟨i0,hi,ay,ax,ar⟩:=info_parts Tryz.infoStr;clear h ac;go_enter func184,ntmps184;go_wp2
 go_loopw [5,7,10] (fun v _ i wr=>∃(k:Nat),k<=zs.length/\i=.int .i64 (k:Int)/\wr.ownsRow w.heap.size 9 1 v k (QaD ((zs.take k).map (expL s)))/\Below w.heap.size w wr) (fun _ _ i _=>zs.length - (intOf i).toNat)
 case atStart=>exact⟨0,Nat.zero_le _,rfl,World.ownsRow_nil _ _ _ _,Below.refl _ _⟩
 case round=>
  obtain⟨k,hk,rfl,aa,hB⟩:=hrel;have au:w.heap.size<=wr.heap.size:=hB.size;obtain⟨va,vc,ap⟩:=Qat aa;subst ap;have HB:=Qab hB;have ah:=Qab aa;clear hB aa;by_cases hlt:k<zs.length;rotate_left
  ·have ai:k=zs.length:=by omega
   subst ai;have ao:¬(zs.length:Int)<(zs.length:Int):=by omega
   go_wp2;go_ret;refine⟨_,rfl,?_,HB.o⟩;have:=ah.o;rw[List.take_of_length_le (Nat.le_refl _)]at this;exact this
  have ao:(k:Int)<(zs.length:Int):=by omega
  obtain⟨g,az,ak,hc⟩:=av.o.get' k hlt;subst az;have c1:wr.cell? ⟨g,k,none⟩=some (.string (sA zs[k])):=by rw[HB.o.cell (p:=⟨g,k,none⟩) ak];exact hc
  have HC:Hid (∀ W,Below wr.heap.size wr W->Calls Tryz.prog 226 #[.pointer (some ⟨sb,0,none⟩),.string (sA zs[k])] W fun e w'=>e=.returned (.string (sA (expL s zs[k])))/\Below W.heap.size W w'):=fun W hW=>
   Qlo B sb M s zs[k] W (HS.o.below (HB.o.trans (hW.mono HB.o.size))) (hl _ (List.getElem_mem hlt))
  have HT:=Qab (Qle (expL s) zs k hlt);generalize zs[k]=z at *;generalize expL s z=y at *;clear hc;go_wp2_with (first|(go_at_call 226;refine(HC.o _ (Below.refl _ _)).mono ?_;rintro e w1 ⟨rfl,ab⟩;have ad:=Qab (HB.o.trans (ab.mono au));have ag:=Qab (QaR (P:=fun _ _=>False) ah.o (Fr.of_below ab) (fun _ _ h=>h));clear ab)|(at_builtin;refine wpList_append_own _ rfl _ _ 89 rfl w.heap.size 9 i0 _ 1 16 underlying89 hi ay ax ar rfl (by decide) _ _ _ rfl (ag.o.alloc _) ⟨w1.heap.size,0,none⟩ 1 1 [.string (sA y)] rfl rfl (cell_one_new _ _ _) (QnM _) (by unfold maxLen;omega) (by omega) (by have:=ad.o.size;simp;omega) ?_;intro v5 w5 ae af _;have aq:=Qab (Qbs ad.o ad.o.size af (fun k hk=>(ag.o.lt k hk).1));have aw:=Qab ae;clear ae af));go_roundw
  case rel=>
   refine⟨k+1,by omega,by go_num,?_,aq.o⟩;rw[HT.o,<-Qb4];exact aw.o
  case measure=>simp[intOf];omega
theorem Qhe(v k:L8):Lib.contains v k=Qyd k v:=by
 unfold Lib.contains
 induction v with
 |nil=>
  cases k with
  |nil=>rfl
  |cons c r=>rfl
 |cons c v ih=>
  rw[Lib.index,Qyd];by_cases h:k.isPrefixOf (c::v)=true
  ·rw[if_pos h,h];rfl
  ·rw[if_neg h,Bool.eq_false_iff.2 h,Bool.false_or,<-ih];split
   ·next h1=>have h2:=eq_of_beq h1;rw[h2]
   ·next h1=>
    have h2:Lib.index v k≠-1:=fun e=>h1 (by rw[e];rfl)
    have h3:=Lib.index_ge v k;rw[Bool.eq_iff_iff];simp;omega
def Qlh (oct:Bool):Value:=if oct then .func (.func 243) #[] #[] else .func (.func 163) #[] #[]
theorem Qg9(s:ByteArray)(w:World):Calls Tryz.prog 243 #[.string s] w fun e w'=>e=.returned (.string s)/\w'=w:=by
 go_enter func243,ntmps243;go_wp2;go_ret;exact⟨rfl,rfl⟩
theorem QjA(oct:Bool)(w:World):Calls Tryz.prog 218 #[.bool oct] w fun e w'=>e=.returned (Qlh oct)/\w'=w:=by
 cases oct <;>
 (go_enter func218,ntmps218
  go_wp2;go_ret
  exact ⟨rfl,rfl⟩)
theorem Qql(x y:L8)(w:World):Calls Tryz.prog 220 #[.string (sA x),.string (sA y)] w fun e w'=>e=.returned (.bool (decide (x=y)))/\w'=w:=by
 have e1:((sA x).toList==(sA y).toList)=decide (x=y):=by
  rw[show(sA y).toList=y by rw[ByteArray.toList_eq];rfl];exact QcV x y
 go_enter func220,ntmps220;go_wp2;go_ret;exact⟨QaF (by rw[<-e1]),rfl⟩
theorem QgL(x:L8)(w:World)(h:x.length<=1000000):Calls Tryz.prog 163 #[.string (sA x)] w fun e w'=>e=.returned (.string (sA (zL x)))/\Below w.heap.size w w':=
 QeQ (sA x) w (by rw[Qal];omega)
def WayV (w:World) (tag:Int) (oct:Bool) (wv:Value):Prop:=
 (tag=3∧∃ p,wv=.func (.func 222) #[] #[.pointer (some ⟨p,0,none⟩)]∧w.cell? ⟨p,0,none⟩=some (Qlh oct))∨
 (∃ p q,wv=.func (.func 244) #[] #[.pointer (some ⟨p,0,none⟩),.pointer (some ⟨q,0,none⟩)]∧w.cell? ⟨q,0,none⟩=some (Qlh oct)∧
   ((tag=1∧w.cell? ⟨p,0,none⟩=some (.func (.func 220) #[] #[]))∨(tag=2∧w.cell? ⟨p,0,none⟩=some (.func (.func 221) #[] #[]))))
def Qe7 (tag:Int) (oct:Bool) (v k:L8) (W:World) (e:Ending) (W':World):Prop:=
 Below W.heap.size W W'∧
 ((Qt7 tag oct v k=false∧e=.returned (.tuple #[.slice none 0 0,.bool false]))∨
  (Qt7 tag oct v k=true∧wayT tag oct v k=none∧e=.returned (.tuple #[.slice none 0 0,.bool true]))∨
  (Qt7 tag oct v k=true∧∃ t g c,wayT tag oct v k=some t∧e=.returned (.tuple #[.slice (some ⟨g,0,none⟩) t.length c,.bool true])∧W.heap.size≤g∧Qv1 W' g t))
theorem Qfe(tag:Int)(oct:Bool)(v k:L8)(h3:tag≠3)(w w':World)(hb:Below w.heap.size w w'):Qe7 tag oct v k w (.returned (.tuple #[.slice none 0 0,.bool (Qt7 tag oct v k)])) w':=by
 refine⟨hb,?_⟩;have ht:wayT tag oct v k=none:=by unfold wayT;rw[if_neg h3]
 cases h:Qt7 tag oct v k
 ·exact Or.inl ⟨rfl,rfl⟩
 ·exact Or.inr (Or.inl ⟨rfl,ht,rfl⟩)
theorem Qk2(oct:Bool)(p q:Nat)(v k:L8)(w:World)(hv:v.length<=1000000)(hk:k.length<=1000000)(hq:w.cell? ⟨q,0,none⟩=some (Qlh oct))(hp:w.cell? ⟨p,0,none⟩=some (.func (.func 220) #[] #[])) :
 Calls Tryz.prog 244 #[.string (sA v),.string (sA k),.pointer (some ⟨p,0,none⟩),.pointer (some ⟨q,0,none⟩)] w (Qe7 1 oct v k w):=by
 have ad:q<w.heap.size:=Qau hq;have ac:p<w.heap.size:=Qau hp;have hsv:(zL v).length<=1000000:=by simp[zL];omega
 cases oct
 ·have ab:w.cell? ⟨q,0,none⟩=some (.func (.func 163) #[] #[]):=hq;have HA:=Qab (Qfe 1 false v k (by decide));clear hq;go_enter func244,ntmps244;go_wp2_with fail
  go_region_held3 (fun w'=>w'.cell? ⟨q,0,none⟩=some (.func (.func 163) #[] #[])∧w'.cell? ⟨p,0,none⟩=some (.func (.func 220) #[] #[])) (first | go_keep) (first
   |(go_at_call 163;refine(QgL _ _ (by first|exact hv|exact hk)).mono ?_;rintro e wn ⟨rfl,hb⟩;have aa:Hid (Below w.heap.size w wn):=(by first|exact aa.o.trans (hb.mono aa.o.size)|exact QaT hb);have d1:wn.cell? ⟨q,0,none⟩=some (.func (.func 163) #[] #[]):=(aa.o.cell (p:=⟨q,0,none⟩) ad).trans ab;have d2:wn.cell? ⟨p,0,none⟩=some (.func (.func 220) #[] #[]):=(aa.o.cell (p:=⟨p,0,none⟩) ac).trans hp;clear hb;skip)
   | (go_at_call 220;refine (Qql _ _ _).mono ?_;rintro e w3 ⟨rfl,rfl⟩;skip))
  all_goals go_wp2
  all_goals go_ret2
  all_goals exact HA.o _ _ aa.o
 ·have ab:w.cell? ⟨q,0,none⟩=some (.func (.func 243) #[] #[]):=hq;have HA:=Qab (Qfe 1 true v k (by decide));clear hq;go_enter func244,ntmps244;go_wp2_with fail
  go_region_held3 (fun w'=>w'.cell? ⟨q,0,none⟩=some (.func (.func 243) #[] #[])∧w'.cell? ⟨p,0,none⟩=some (.func (.func 220) #[] #[])) (first | go_keep) (first
   |(go_at_call 243;refine(Qg9 _ _).mono ?_;rintro e w1 ⟨rfl,rfl⟩;skip)
   | (go_at_call 220;refine (Qql _ _ _).mono ?_;rintro e w3 ⟨rfl,rfl⟩;skip))
  all_goals go_wp2
  all_goals go_ret2
  all_goals exact HA.o _ _ (Qas (Below.refl _ _))
theorem Qjm(oct:Bool)(p q:Nat)(v k:L8)(w:World)(hv:v.length<=1000000)(hk:k.length<=1000000)(hq:w.cell? ⟨q,0,none⟩=some (Qlh oct))(hp:w.cell? ⟨p,0,none⟩=some (.func (.func 221) #[] #[]))(m:Int)(hm:w.cell? ⟨1,0,none⟩=some (.int .i64 m)) :
 Calls Tryz.prog 244 #[.string (sA v),.string (sA k),.pointer (some ⟨p,0,none⟩),.pointer (some ⟨q,0,none⟩)] w (Qe7 2 oct v k w):=by
 have ae:q<w.heap.size:=Qau hq;have ac:p<w.heap.size:=Qau hp;have ad:1<w.heap.size:=Qau hm;have hsv:(zL v).length<=1000000:=by simp[zL];omega
 cases oct
 ·have ab:w.cell? ⟨q,0,none⟩=some (.func (.func 163) #[] #[]):=hq;have HA:=Qab (Qfe 2 false v k (by decide));clear hq;go_enter func244,ntmps244;go_wp2_with fail
  go_region_held3 (fun w'=>w'.cell? ⟨q,0,none⟩=some (.func (.func 163) #[] #[])∧w'.cell? ⟨p,0,none⟩=some (.func (.func 221) #[] #[])∧w'.cell? ⟨1,0,none⟩=some (.int .i64 m)) (first | go_keep) (first
   |(go_at_call 163;refine(QgL _ _ (by first|exact hv|exact hk)).mono ?_;rintro e wn ⟨rfl,hb⟩;have aa:Hid (Below w.heap.size w wn):=(by first|exact aa.o.trans (hb.mono aa.o.size)|exact QaT hb);have d1:wn.cell? ⟨q,0,none⟩=some (.func (.func 163) #[] #[]):=(aa.o.cell (p:=⟨q,0,none⟩) ae).trans ab;have d2:wn.cell? ⟨p,0,none⟩=some (.func (.func 221) #[] #[]):=(aa.o.cell (p:=⟨p,0,none⟩) ac).trans hp;have d3:wn.cell? ⟨1,0,none⟩=some (.int .i64 m):=(aa.o.cell (p:=⟨1,0,none⟩) ad).trans hm;clear hb;skip)
   | (go_at_call 221;refine (Tryz.strings_Contains (sA (zL v)) (sA (zL k)) m _ (by show (zL v).length < _;omega) d3).mono ?_;rintro e w3 ⟨rfl,rfl⟩;rw [Qhe];skip))
  all_goals go_wp2
  all_goals go_ret2
  all_goals exact HA.o _ _ aa.o
 ·have ab:w.cell? ⟨q,0,none⟩=some (.func (.func 243) #[] #[]):=hq;have HA:=Qab (Qfe 2 true v k (by decide));clear hq;go_enter func244,ntmps244;go_wp2_with fail
  go_region_held3 (fun w'=>w'.cell? ⟨q,0,none⟩=some (.func (.func 243) #[] #[])∧w'.cell? ⟨p,0,none⟩=some (.func (.func 221) #[] #[])∧w'.cell? ⟨1,0,none⟩=some (.int .i64 m)) (first | go_keep) (first
   |(go_at_call 243;refine(Qg9 _ _).mono ?_;rintro e w1 ⟨rfl,rfl⟩;skip)
   | (go_at_call 221;refine (Tryz.strings_Contains (sA v) (sA k) m w.drew (by show v.length < _;omega) hm).mono ?_;rintro e w3 ⟨rfl,rfl⟩;rw [Qhe];skip))
  all_goals go_wp2
  all_goals go_ret2
  all_goals exact HA.o _ _ (Qas (Below.refl _ _))
theorem QeE:∀ l:L8,(pcL l).length<=l.length
 | []=>Nat.le_refl _
 | [c]=>Nat.le_refl _
 |c::d::r=>by
  have h1:=QeE (d::r);have h2:=QeE r;rw[pcL];split
  ·simpa using h1
  ·split
   ·simpa using h1
   ·split
    ·simp;omega
    ·simpa using h1
theorem Qga(oct:Bool)(x:L8):(lookL oct x).length=x.length:=by
 unfold lookL;split
 ·rfl
 ·simp[zL]
def Qyj (oct:Bool):Nat:=if oct then 243 else 163
theorem Qgr(oct:Bool)(x:L8)(w:World)(h:x.length<=1000000):Calls Tryz.prog (Qyj oct) #[.string (sA x)] w fun e w'=>e=.returned (.string (sA (lookL oct x)))/\Below w.heap.size w w':=by
 cases oct
 ·exact QgL x w h
 ·exact(Qg9 (sA x) w).mono fun e w' he=>⟨he.1,by rw[he.2];exact Below.refl _ _⟩
theorem Qfh{w w':World}{base:Nat}{e:TypeId}{size:Nat}{v:Value}{n:Nat}{xs:List Value}(h:w.ownsRow base e size v n xs)(hb:Below w.heap.size w w'):w'.ownsRow base e size v n xs:=by
 obtain⟨h1,h2⟩:=h;refine⟨h1,?_⟩;rcases h2 with h2 | ⟨g,aa,ab,hv,hg,hh,r⟩
 ·exact Or.inl h2
 ·exact Or.inr ⟨g,aa,ab,hv,hg,by rw[hb.block g (Qar hh)];exact hh,r⟩
theorem Qng{w:World}{base:Nat}{e:TypeId}{size:Nat}{v:Value}{n:Nat}{xs:List Value}(h:w.ownsRow base e size v n xs)(hn:n≠0):∃ g c,v=.slice (some ⟨g,0,none⟩) n c/\base<=g/\g<w.heap.size:=by
 rcases h.2 with⟨_,h0⟩ | ⟨g,aa,cur,hv,hg,hh,_⟩
 ·exact absurd h0 hn
 ·exact⟨g,aa,hv,hg,Qar hh⟩
theorem Qtm(q:Nat)(v k:L8)(w:World)(hv:v.length<=1000000)(hk:k.length<=1000000)(hq:w.cell? ⟨q,0,none⟩=some (Qlh false)) :
 Calls Tryz.prog 222 #[.string (sA v),.string (sA k),.pointer (some ⟨q,0,none⟩)] w (Qe7 3 false v k w):=by
 have aJ:q<w.heap.size:=Qau hq;have aB:w.cell? ⟨q,0,none⟩=some (.func (.func 163) #[] #[]):=hq;have aD:=Qga false k;have aE:=Qga false v;have aq:=QeE (lookL false k);obtain⟨x,hx⟩:∃ x,lookL false k=x:=⟨_,rfl⟩;obtain⟨y,hy⟩:∃ y,lookL false v=y:=⟨_,rfl⟩;have HX:=Qab hx;have HY:=Qab hy;rw[hx]at aD aq;rw[hy]at aE
 have ay:Hid (∀ k',pcL x=k'->Qt7 3 false v k=QaO k' y/\wayT 3 false v k=some (toldTo v k' (plL k' y 0) k'.length)):=by
  intro k' ah;unfold Qt7 wayT;rw[if_neg (by decide),if_neg (by decide),if_pos rfl,HX.o,HY.o,ah];exact⟨rfl,rfl⟩
 have ax:Hid (∀ k',pcL x=k'->∀ j (hj:j<k'.length),k'[j].1=2->k'[j]=(2,0)):=fun k' ah j hj h=>Qdh x _ (by rw[ah];exact List.getElem_mem hj) h
 clear hq hx hy;go_enter func222,ntmps222;go_wp2_with fail;refine(Qgr false k _ hk).mono ?_;rintro e w1 ⟨rfl,ai⟩;rw[HX.o];have c1:w1.cell? ⟨q,0,none⟩=some (.func (.func 163) #[] #[]):=(ai.cell (p:=⟨q,0,none⟩) aJ).trans aB;have aA:=Qab ai;clear ai aB;go_wp2_with fail;refine(Qi1 (sA x) w1 (by rw[Qal];omega)).mono ?_;rintro e w2 ⟨lv,rfl,ab,aj⟩;rw[show(sA x).data.toList=x from rfl]at ab;obtain⟨pc,ad⟩:∃ pc,pcL x=pc:=⟨_,rfl⟩;have aa:=Qab (ay.o pc ad);have ag:=Qab (ax.o pc ad);rw[ad]at ab aq;have c2:w2.cell? ⟨q,0,none⟩=some (.func (.func 163) #[] #[]):=(aj.cell (p:=⟨q,0,none⟩) (Qau c1)).trans c1;have au:=Qab (aA.o.trans (aj.mono aA.o.size));have aF:=Qab ab;clear ab aj c1 ad ay ax;go_wp2_with fail;refine(Qgr false v _ hv).mono ?_;rintro e w3 ⟨rfl,ap⟩;rw[HY.o];have av:=Qab (au.o.trans (ap.mono au.o.size));have ar:=Qab (Qfh aF.o ap);clear ap c2;go_wp2_with fail;refine(QtF (sA y) pc lv w1.heap.size w3 (by rw[Qal];omega) (by omega) ar.o ag.o).mono ?_;rintro e w4 ⟨hf,ao⟩;have ac:=Qab (av.o.trans (ao.mono av.o.size));have aK:=Qab (Qfh ar.o ao);clear ao;rcases hf with⟨hm,g,hg,rfl,aC⟩ | ⟨hm,rfl⟩
 ·have aH:=Qab aC;have HM:=Qab hm;clear aC hm;go_wp2_with fail;refine(Qmh (sA v) pc lv w1.heap.size g (plL pc y 0) w4 (by rw[Qal];omega) (by omega) aK.o aH.o (Qff pc y 0) (fun i hi=>?_)).mono ?_
  ·obtain⟨a,b,h1,h2,h3,h4,h5⟩:=Qic pc y 0 HM.o i hi;rw[List.getD_eq_getElem?_getD,List.getD_eq_getElem?_getD,h1,h2,Qal];exact⟨h4,by show b<=_;omega⟩
  rintro e w5 ⟨tv,rfl,ae,aL⟩;have aG:=Qab (ac.o.trans (aL.mono ac.o.size));obtain⟨r,hr⟩:=Qh0 v pc (plL pc y 0) pc.length;have hs4:=ac.o.size;obtain⟨g5,c5,aI,hg5,hl5⟩:=Qng ae (by rw[show(sA v).data.toList=v from rfl,hr];simp);subst aI;have az:=Qab (Qv1.of_owns ae);have aw:=aa.o.2;have ak:=Qab aw;rw[show(sA v).data.toList=v from rfl]at az ⊢;obtain⟨n5,af⟩:∃ n,(toldTo v pc (plL pc y 0) pc.length).length=n:=⟨_,rfl⟩;have HN:=Qab af;rw[af];clear af hr aw ae;go_wp2;go_ret2;exact⟨aG.o,Or.inr (Or.inr ⟨aa.o.1.trans HM.o,_,g5,c5,ak.o,by rw[HN.o];rfl,by omega,az.o⟩)⟩
 ·have HM:=Qab hm;clear hm;go_wp2;go_ret2;exact⟨ac.o,Or.inl ⟨aa.o.1.trans HM.o,rfl⟩⟩
theorem Qww(q:Nat)(v k:L8)(w:World)(hv:v.length<=1000000)(hk:k.length<=1000000)(hq:w.cell? ⟨q,0,none⟩=some (Qlh true)) :
 Calls Tryz.prog 222 #[.string (sA v),.string (sA k),.pointer (some ⟨q,0,none⟩)] w (Qe7 3 true v k w):=by
 have aJ:q<w.heap.size:=Qau hq;have aB:w.cell? ⟨q,0,none⟩=some (.func (.func 243) #[] #[]):=hq;have aD:=Qga true k;have aE:=Qga true v;have aq:=QeE (lookL true k);obtain⟨x,hx⟩:∃ x,lookL true k=x:=⟨_,rfl⟩;obtain⟨y,hy⟩:∃ y,lookL true v=y:=⟨_,rfl⟩;have HX:=Qab hx;have HY:=Qab hy;rw[hx]at aD aq;rw[hy]at aE
 have ay:Hid (∀ k',pcL x=k'->Qt7 3 true v k=QaO k' y/\wayT 3 true v k=some (toldTo v k' (plL k' y 0) k'.length)):=by
  intro k' ah;unfold Qt7 wayT;rw[if_neg (by decide),if_neg (by decide),if_pos rfl,HX.o,HY.o,ah];exact⟨rfl,rfl⟩
 have ax:Hid (∀ k',pcL x=k'->∀ j (hj:j<k'.length),k'[j].1=2->k'[j]=(2,0)):=fun k' ah j hj h=>Qdh x _ (by rw[ah];exact List.getElem_mem hj) h
 clear hq hx hy;go_enter func222,ntmps222;go_wp2_with fail;refine(Qgr true k _ hk).mono ?_;rintro e w1 ⟨rfl,ai⟩;rw[HX.o];have c1:w1.cell? ⟨q,0,none⟩=some (.func (.func 243) #[] #[]):=(ai.cell (p:=⟨q,0,none⟩) aJ).trans aB;have aA:=Qab ai;clear ai aB;go_wp2_with fail;refine(Qi1 (sA x) w1 (by rw[Qal];omega)).mono ?_;rintro e w2 ⟨lv,rfl,ab,aj⟩;rw[show(sA x).data.toList=x from rfl]at ab;obtain⟨pc,ad⟩:∃ pc,pcL x=pc:=⟨_,rfl⟩;have aa:=Qab (ay.o pc ad);have ag:=Qab (ax.o pc ad);rw[ad]at ab aq;have c2:w2.cell? ⟨q,0,none⟩=some (.func (.func 243) #[] #[]):=(aj.cell (p:=⟨q,0,none⟩) (Qau c1)).trans c1;have au:=Qab (aA.o.trans (aj.mono aA.o.size));have aF:=Qab ab;clear ab aj c1 ad ay ax;go_wp2_with fail;refine(Qgr true v _ hv).mono ?_;rintro e w3 ⟨rfl,ap⟩;rw[HY.o];have av:=Qab (au.o.trans (ap.mono au.o.size));have ar:=Qab (Qfh aF.o ap);clear ap c2;go_wp2_with fail;refine(QtF (sA y) pc lv w1.heap.size w3 (by rw[Qal];omega) (by omega) ar.o ag.o).mono ?_;rintro e w4 ⟨hf,ao⟩;have ac:=Qab (av.o.trans (ao.mono av.o.size));have aK:=Qab (Qfh ar.o ao);clear ao;rcases hf with⟨hm,g,hg,rfl,aC⟩ | ⟨hm,rfl⟩
 ·have aH:=Qab aC;have HM:=Qab hm;clear aC hm;go_wp2_with fail;refine(Qmh (sA v) pc lv w1.heap.size g (plL pc y 0) w4 (by rw[Qal];omega) (by omega) aK.o aH.o (Qff pc y 0) (fun i hi=>?_)).mono ?_
  ·obtain⟨a,b,h1,h2,h3,h4,h5⟩:=Qic pc y 0 HM.o i hi;rw[List.getD_eq_getElem?_getD,List.getD_eq_getElem?_getD,h1,h2,Qal];exact⟨h4,by show b<=_;omega⟩
  rintro e w5 ⟨tv,rfl,ae,aL⟩;have aG:=Qab (ac.o.trans (aL.mono ac.o.size));obtain⟨r,hr⟩:=Qh0 v pc (plL pc y 0) pc.length;have hs4:=ac.o.size;obtain⟨g5,c5,aI,hg5,hl5⟩:=Qng ae (by rw[show(sA v).data.toList=v from rfl,hr];simp);subst aI;have az:=Qab (Qv1.of_owns ae);have aw:=aa.o.2;have ak:=Qab aw;rw[show(sA v).data.toList=v from rfl]at az ⊢;obtain⟨n5,af⟩:∃ n,(toldTo v pc (plL pc y 0) pc.length).length=n:=⟨_,rfl⟩;have HN:=Qab af;rw[af];clear af hr aw ae;go_wp2;go_ret2;exact⟨aG.o,Or.inr (Or.inr ⟨aa.o.1.trans HM.o,_,g5,c5,ak.o,by rw[HN.o];rfl,by omega,az.o⟩)⟩
 ·have HM:=Qab hm;clear hm;go_wp2;go_ret2;exact⟨ac.o,Or.inl ⟨aa.o.1.trans HM.o,rfl⟩⟩
theorem QsB(v:L8)(aa:List (Nat×UInt8))(pl:List Nat)(k:Nat):∀ x∈toldTo v aa pl k,x.length<=v.length:=by
 induction k with
 |zero=>intro x hx;rw[toldTo]at hx;simp at hx;rw[hx];exact Nat.le_refl _
 |succ k ih=>
  intro x hx;rw[toldTo,List.mem_append]at hx;rcases hx with hx|hx
  ·exact ih x hx
  ·split at hx
   ·cases hx
   ·simp at hx;rw[hx];simp;omega
theorem QsN{tag:Int}{oct:Bool}{v k:L8}{t:List (L8)}(h:wayT tag oct v k=some t):(∀ x∈t,x.length<=v.length)/\t.length<=k.length+1:=by
 unfold wayT at h
 split at h
 ·cases h;refine⟨QsB _ _ _ _,?_⟩;have h1:=Qkb v (pcL (lookL oct k)) (plL (pcL (lookL oct k)) (lookL oct v) 0) (pcL (lookL oct k)).length;have h2:=QeE (lookL oct k);rw[Qga]at h2;omega
 ·cases h
theorem Qxh(oct:Bool)(q:Nat)(v k:L8)(w:World)(hv:v.length<=1000000)(hk:k.length<=1000000)(hq:w.cell? ⟨q,0,none⟩=some (Qlh oct)) :
 Calls Tryz.prog 222 #[.string (sA v),.string (sA k),.pointer (some ⟨q,0,none⟩)] w (Qe7 3 oct v k w):=by
 cases oct
 ·exact Qtm q v k w hv hk hq
 ·exact Qww q v k w hv hk hq
def Qc4 (es:Array MapEntry) (f:Int→Option Value):Prop:=
 (∀ e∈es.toList,∃ x,e.key=.int .i64 x∧f x=some e.val)∧∀ x v,f x=some v→∃ e∈es.toList,e.key=.int .i64 x
theorem Qc4.keys{es:Array MapEntry}{f:Int->Option Value}(h:Qc4 es f):∀ e∈es.toList,MapKept.IsKey (.int .i64) e.key:=fun e he=>by
 obtain⟨x,hx,_⟩:=h.1 e he;rw[hx];rfl
theorem Qc4.empty:Qc4 #[] (fun _=>none):=⟨fun e he=>by simp at he,fun x v h=>by cases h⟩
theorem Qc4.push{es:Array MapEntry}{f g:Int->Option Value}(h:Qc4 es f){x:Int}{v:Value}{c:Nat}(hn:f x=none)(hx:g x=some v)(hg:∀ z,z≠x->g z=f z):Qc4 (es.push ⟨.int .i64 x,v,c⟩) g:=by
 refine⟨fun e he=>?_,fun z u hz=>?_⟩
 ·simp only[Array.toList_push,List.mem_append,List.mem_singleton]at he;rcases he with he|he
  ·obtain⟨z,h1,h2⟩:=h.1 e he;have:z≠x:=fun e=>by rw[e,hn]at h2;cases h2
   exact⟨z,h1,by rw[hg z this];exact h2⟩
  ·subst he;exact⟨x,rfl,hx⟩
 ·by_cases e:z=x
  ·exact⟨⟨.int .i64 x,v,c⟩,by simp,by rw[e]⟩
  ·rw[hg z e]at hz;obtain⟨y,hy,hk⟩:=h.2 z u hz;exact⟨y,by simp[hy],hk⟩
theorem Qc4.congr{es:Array MapEntry}{f g:Int->Option Value}(h:Qc4 es f)(e:∀ x,f x=g x):Qc4 es g:=by
 have:f=g:=funext e;rw[<-this];exact h
theorem QfK{T K E:TypeId}(hT:Tryz.prog.underlying T=some (.map K E))(hK:Tryz.prog.underlying K=some (.int .i64)){w:World}{m:Nat}{es:Array MapEntry}{c:Nat}{f:Int->Option Value}{x:Int}(hm:w.heap[m]?=some (.map es c))(hf:Qc4 es f)(hx:f x=none)(v:Value) :
 (Instr.mapUpdate T (.map (some m)) (.int .i64 x) v).run Tryz.prog w=.ok () (QaE w m (.map (es.push ⟨.int .i64 x,v,c⟩) (c+1))):=by
 have hk:MapKept.IsKey (.int .i64) (.int .i64 x):=rfl;rcases MapKept.findNow_spec hk es.toList 0 hf.keys with⟨h1,_⟩ | ⟨j,e,h1,h2,h3⟩
 ·simp[Instr.mapUpdate,run_underlying hT,MapKept.run_getObj_map hm,MapKept.run_checkKey hK hk,MapKept.run_findKey hK h1,MapKept.run_setObj_map _ hm,Result.andThen,QaE]
 ·obtain⟨z,hz,aa⟩:=hf.1 e (List.mem_of_getElem? h2);rw[h3]at hz;have:x=z:=by simpa using hz
  subst this;rw[hx]at aa;cases aa
theorem Qty{T K E:TypeId}(hT:Tryz.prog.underlying T=some (.map K E))(hK:Tryz.prog.underlying K=some (.int .i64))(hE:∀ W,(zeroValue E).run Tryz.prog W=.ok .nilFunc W){w:World}{m:Nat}{es:Array MapEntry}{c:Nat}{f:Int->Option Value}(hm:w.heap[m]?=some (.map es c))(hf:Qc4 es f)(x:Int) :
 (Instr.lookup T (.map (some m)) (.int .i64 x) false).run Tryz.prog w=.ok ((f x).getD .nilFunc) w:=by
 have hk:MapKept.IsKey (.int .i64) (.int .i64 x):=rfl;rcases MapKept.findNow_spec hk es.toList 0 hf.keys with⟨h1,h2⟩ | ⟨j,e,h1,h2,h3⟩
 ·have hn:f x=none:=by
   cases hfx:f x with
   |none=>rfl
   |some v=>
    obtain⟨e,he,aa⟩:=hf.2 x v hfx;exact absurd aa (h2 e he)
  rw[hn];simp[Instr.lookup,run_underlying hT,MapKept.run_getObj_map hm,MapKept.run_checkKey hK hk,MapKept.run_findKey hK h1,hE,Result.andThen]
 ·obtain⟨z,hz,ab⟩:=hf.1 e (List.mem_of_getElem? h2);rw[h3]at hz;have:x=z:=by simpa using hz
  subst this;rw[ab];simp[Instr.lookup,run_underlying hT,MapKept.run_getObj_map hm,MapKept.run_checkKey hK hk,MapKept.run_findKey hK h1,Result.andThen]
def Qx2 (w:World) (B:Nat) (lk:Value) (hf:Nat) (v:Value):Prop:=
 ∃ p q,v=.func (.func 244) #[] #[.pointer (some ⟨p,0,none⟩),.pointer (some ⟨q,0,none⟩)]∧B≤p∧B≤q∧w.heap[q]?=some (.cells #[lk] 157)∧w.heap[p]?=some (.cells #[.func (.func hf) #[] #[]] 255)
theorem Qx2.keep{w w':World}{B hf:Nat}{lk v:Value}(h:Qx2 w B lk hf v)(hk:∀ k cs ty,B<=k->w.heap[k]?=some (.cells cs ty)->w'.heap[k]?=some (.cells cs ty)):Qx2 w' B lk hf v:=by
 obtain⟨p,q,hv,hp,hq,h1,h2⟩:=h;exact⟨p,q,hv,hp,hq,hk q _ _ hq h1,hk p _ _ hp h2⟩
def QqA (b:Nat):Value:=.func (.func 222) #[] #[.pointer (some ⟨b,0,none⟩)]
def fB (b:Nat) (L:Nat→Bool) (u11 u13:Value) (k:Int):Option Value:=
 if k=1 then (if L 3 then some u11 else none) else if k=2 then (if L 6 then some u13 else none) else if k=3 then (if L 8 then some (QqA b) else none) else none
structure JB (lk:Value) (b:Nat) (W:World) (L:Nat→Bool) (u6 u9 u11 u13 u15:Value) (w:World):Prop where
 bl:Below W.heap.size W w
 c3:L 3=true→L 2=true
 c6:L 6=true→L 5=true
 c30:L 3=true→L 0=true
 c60:L 6=true→L 0=true
 c80:L 8=true→L 0=true
 a2:L 2=true→Qx2 w W.heap.size lk 220 u11
 a5:L 5=true→Qx2 w W.heap.size lk 221 u13
 mp:L 0=true→∃ m es c,u9=.map (some m)∧W.heap.size≤m∧w.heap[m]?=some (.map es c)∧Qc4 es (fB b L u11 u13)
 m9:L 9=true→u15=u9∧L 0=true∧L 3=true∧L 6=true∧L 8=true∧L 2=true∧L 5=true
 m10:L 10=true→u6=u15∧L 9=true
theorem QeV{B m:Nat}{W w:World}{o:Obj}(h:Below B W w)(hm:B<=m):Below B W (QaE w m o):=
 ⟨h.os,h.tape,h.output,by rw[Qjd];exact h.size,fun k hk=>by rw[Qan (by omega)];exact h.block k hk⟩
theorem Qi4{a b:Bool}(h:a=true->b=true)(hb:b=false):a=false:=by
 cases a with
 |false=>rfl
 |true=>rw[h rfl]at hb;cases hb
section
variable {lk:Value} {b:Nat} {W:World} {L:Nat→Bool} {u6 u9 u11 u13 u15:Value} {w:World}
theorem Qt6(i:Nat)(h:i≠3/\i≠6/\i≠8)(k:Int):fB b (up L i) u11 u13 k=fB b L u11 u13 k:=by
 unfold fB;rw[Qaf L (Ne.symm h.1),Qaf L (Ne.symm h.2.1),Qaf L (Ne.symm h.2.2)]
theorem JB.s0(J:JB lk b W L u6 u9 u11 u13 u15 w)(h0:L 0=false):JB lk b W (up L 0) u6 (.map (some w.heap.size)) u11 u13 u15 (w.alloc (Obj.map #[] 0)):=by
 have hk:∀ k cs ty,W.heap.size<=k->w.heap[k]?=some (.cells cs ty)->(w.alloc (Obj.map #[] 0)).heap[k]?=some (.cells cs ty):=fun k cs ty _ h=>Qac h
 have n3:=Qi4 J.c30 h0;have n6:=Qi4 J.c60 h0;have n8:=Qi4 J.c80 h0;have hz:=J.bl.size
 exact ⟨J.bl.alloc hz _,
  fun h=>Qaj _ (J.c3 (by rwa [Qaf L (by decide)]at h)),
  fun h=>Qaj _ (J.c6 (by rwa [Qaf L (by decide)]at h)),
  fun h=>absurd (by rwa [Qaf L (by decide)]at h:L 3=true) (by rw[n3];decide),
  fun h=>absurd (by rwa [Qaf L (by decide)]at h:L 6=true) (by rw[n6];decide),
  fun h=>absurd (by rwa [Qaf L (by decide)]at h:L 8=true) (by rw[n8];decide),
  fun h=>(J.a2 (by rwa [Qaf L (by decide)]at h)).keep hk,
  fun h=>(J.a5 (by rwa [Qaf L (by decide)]at h)).keep hk,
  fun _=>⟨w.heap.size,#[],0,rfl,hz,Qam _ _,Qc4.empty.congr (fun k=>by rw[Qt6 0 (by decide)];unfold fB;simp only[n3,n6,n8];simp)⟩,
  fun h=>absurd (J.m9 (by rwa [Qaf L (by decide)]at h)).2.1 (by rw[h0];decide),
  fun h=>absurd (J.m9 (J.m10 (by rwa [Qaf L (by decide)] at h)).2).2.1 (by rw [h0];decide)⟩
theorem JB.s2(J:JB lk b W L u6 u9 u11 u13 u15 w)(h0:L 2=false):JB lk b W (up L 2) u6 u9 (.func (.func 244) #[] #[.pointer (some ⟨w.heap.size+1,0,none⟩),.pointer (some ⟨w.heap.size,0,none⟩)]) u13 u15 ((w.alloc (.cells #[lk] 157)).alloc (.cells #[.func (.func 220) #[] #[]] 255)):=by
 have hk:∀ k cs ty,W.heap.size<=k->w.heap[k]?=some (.cells cs ty)->((w.alloc (.cells #[lk] 157)).alloc (.cells #[.func (.func 220) #[] #[]] 255)).heap[k]?=some (.cells cs ty):=fun k cs ty _ h=>Qac (Qac h)
 have aa:∀(m:Nat) (es:Array MapEntry) (c:Nat),w.heap[m]?=some (Obj.map es c)->((w.alloc (.cells #[lk] 157)).alloc (.cells #[.func (.func 220) #[] #[]] 255)).heap[m]?=some (Obj.map es c):=fun m es c h=>Qac (Qac h)
 have nn:=Qi4 J.c3 h0;have hz:=J.bl.size
 have ab:∀ v k,fB b (up L 2) v u13 k=fB b L u11 u13 k:=fun v k=>by
  rw[Qt6 2 (by decide)];unfold fB;simp only[nn,Bool.false_eq_true,if_false]
 exact ⟨(J.bl.alloc hz _).alloc (by simp;omega) _,
  fun h=>absurd (by rwa [Qaf L (by decide)]at h:L 3=true) (by rw[nn];decide),
  fun h=>Qaj _ (J.c6 (by rwa [Qaf L (by decide)]at h)),
  fun h=>Qaj _ (J.c30 (by rwa [Qaf L (by decide)]at h)),
  fun h=>Qaj _ (J.c60 (by rwa [Qaf L (by decide)]at h)),
  fun h=>Qaj _ (J.c80 (by rwa [Qaf L (by decide)]at h)),
  fun _=>⟨w.heap.size+1,w.heap.size,rfl,by omega,hz,Qac (Qam _ _),Qaq (by simp)⟩,
  fun h=>(J.a5 (by rwa [Qaf L (by decide)]at h)).keep hk,
  fun h=>by obtain⟨m,es,c,e1,e2,e3,e4⟩:=J.mp (by rwa [Qaf L (by decide)]at h);exact⟨m,es,c,e1,e2,aa m es c e3,e4.congr (fun k=>(ab _ k).symm)⟩,
  fun h=>by obtain⟨e1,e2,e3,e4,e5,e6,e7⟩:=J.m9 (by rwa [Qaf L (by decide)]at h);exact⟨e1,Qaj _ e2,Qaj _ e3,Qaj _ e4,Qaj _ e5,Qaj _ e6,Qaj _ e7⟩,
  fun h=>by obtain ⟨e1,e2⟩:=J.m10 (by rwa [Qaf L (by decide)] at h);exact ⟨e1,Qaj _ e2⟩⟩
theorem JB.s5(J:JB lk b W L u6 u9 u11 u13 u15 w)(h0:L 5=false):JB lk b W (up L 5) u6 u9 u11 (.func (.func 244) #[] #[.pointer (some ⟨w.heap.size+1,0,none⟩),.pointer (some ⟨w.heap.size,0,none⟩)]) u15 ((w.alloc (.cells #[lk] 157)).alloc (.cells #[.func (.func 221) #[] #[]] 255)):=by
 have hk:∀ k cs ty,W.heap.size<=k->w.heap[k]?=some (.cells cs ty)->((w.alloc (.cells #[lk] 157)).alloc (.cells #[.func (.func 221) #[] #[]] 255)).heap[k]?=some (.cells cs ty):=fun k cs ty _ h=>Qac (Qac h)
 have aa:∀(m:Nat) (es:Array MapEntry) (c:Nat),w.heap[m]?=some (Obj.map es c)->((w.alloc (.cells #[lk] 157)).alloc (.cells #[.func (.func 221) #[] #[]] 255)).heap[m]?=some (Obj.map es c):=fun m es c h=>Qac (Qac h)
 have nn:=Qi4 J.c6 h0;have hz:=J.bl.size
 have ab:∀ v k,fB b (up L 5) u11 v k=fB b L u11 u13 k:=fun v k=>by
  rw[Qt6 5 (by decide)];unfold fB;simp only[nn,Bool.false_eq_true,if_false]
 exact ⟨(J.bl.alloc hz _).alloc (by simp;omega) _,
  fun h=>Qaj _ (J.c3 (by rwa [Qaf L (by decide)]at h)),
  fun h=>absurd (by rwa [Qaf L (by decide)]at h:L 6=true) (by rw[nn];decide),
  fun h=>Qaj _ (J.c30 (by rwa [Qaf L (by decide)]at h)),
  fun h=>Qaj _ (J.c60 (by rwa [Qaf L (by decide)]at h)),
  fun h=>Qaj _ (J.c80 (by rwa [Qaf L (by decide)]at h)),
  fun h=>(J.a2 (by rwa [Qaf L (by decide)]at h)).keep hk,
  fun _=>⟨w.heap.size+1,w.heap.size,rfl,by omega,hz,Qac (Qam _ _),Qaq (by simp)⟩,
  fun h=>by obtain⟨m,es,c,e1,e2,e3,e4⟩:=J.mp (by rwa [Qaf L (by decide)]at h);exact⟨m,es,c,e1,e2,aa m es c e3,e4.congr (fun k=>(ab _ k).symm)⟩,
  fun h=>by obtain⟨e1,e2,e3,e4,e5,e6,e7⟩:=J.m9 (by rwa [Qaf L (by decide)]at h);exact⟨e1,Qaj _ e2,Qaj _ e3,Qaj _ e4,Qaj _ e5,Qaj _ e6,Qaj _ e7⟩,
  fun h=>by obtain ⟨e1,e2⟩:=J.m10 (by rwa [Qaf L (by decide)] at h);exact ⟨e1,Qaj _ e2⟩⟩
theorem JB.s3(J:JB lk b W L u6 u9 u11 u13 u15 w)(h0:L 3=false)(h1:L 0=true)(h2:L 2=true):∃ m es c,u9=.map (some m)/\w.heap[m]?=some (.map es c)/\Qc4 es (fB b L u11 u13)/\fB b L u11 u13 1=none/\JB lk b W (up L 3) u6 u9 u11 u13 u15 (QaE w m (.map (es.push ⟨.int .i64 1,u11,c⟩) (c+1))):=by
 obtain⟨m,es,c,h3,h4,h5,h6⟩:=J.mp h1;have hn:fB b L u11 u13 1=none:=by unfold fB;simp[h0]
 have hx:fB b (up L 3) u11 u13 1=some u11:=by unfold fB;simp[Qbr]
 have hg:∀ z,z≠1->fB b (up L 3) u11 u13 z=fB b L u11 u13 z:=fun z hz=>by
  unfold fB;simp only[if_neg hz,Qaf L (show(3:Nat)≠99 by decide),Qaf L (show(6:Nat)≠3 by decide),Qaf L (show(8:Nat)≠3 by decide)]
 have hk:∀ k cs ty,W.heap.size<=k->w.heap[k]?=some (.cells cs ty)->(QaE w m (.map (es.push ⟨.int .i64 1,u11,c⟩) (c+1))).heap[k]?=some (.cells cs ty):=fun k cs ty _ h=>by
  rw[Qan (fun e=>by rw[e,h5]at h;cases h)];exact h
 refine⟨m,es,c,h3,h5,h6,hn,?_⟩
 exact ⟨QeV J.bl h4,
  fun _=>Qaj _ h2,
  fun h=>Qaj _ (J.c6 (by rwa [Qaf L (by decide)]at h)),
  fun _=>Qaj _ h1,
  fun h=>Qaj _ (J.c60 (by rwa [Qaf L (by decide)]at h)),
  fun h=>Qaj _ (J.c80 (by rwa [Qaf L (by decide)]at h)),
  fun h=>(J.a2 (by rwa [Qaf L (by decide)]at h)).keep hk,
  fun h=>(J.a5 (by rwa [Qaf L (by decide)]at h)).keep hk,
  fun _=>⟨m,_,_,h3,h4,QaS h5,h6.push hn hx hg⟩,
  fun h=>by obtain⟨e1,e2,e3,e4,e5,e6,e7⟩:=J.m9 (by rwa [Qaf L (by decide)]at h);exact⟨e1,Qaj _ e2,Qaj _ e3,Qaj _ e4,Qaj _ e5,Qaj _ e6,Qaj _ e7⟩,
  fun h=>by obtain ⟨e1,e2⟩:=J.m10 (by rwa [Qaf L (by decide)] at h);exact ⟨e1,Qaj _ e2⟩⟩
theorem JB.s6(J:JB lk b W L u6 u9 u11 u13 u15 w)(h0:L 6=false)(h1:L 0=true)(h2:L 5=true):∃ m es c,u9=.map (some m)/\w.heap[m]?=some (.map es c)/\Qc4 es (fB b L u11 u13)/\fB b L u11 u13 2=none/\JB lk b W (up L 6) u6 u9 u11 u13 u15 (QaE w m (.map (es.push ⟨.int .i64 2,u13,c⟩) (c+1))):=by
 obtain⟨m,es,c,h3,h4,h5,h6⟩:=J.mp h1;have hn:fB b L u11 u13 2=none:=by unfold fB;simp[h0]
 have hx:fB b (up L 6) u11 u13 2=some u13:=by unfold fB;simp[Qbr]
 have hg:∀ z,z≠2->fB b (up L 6) u11 u13 z=fB b L u11 u13 z:=fun z hz=>by
  unfold fB;simp only[if_neg hz,Qaf L (show(3:Nat)≠6 by decide),Qaf L (show(6:Nat)≠99 by decide),Qaf L (show(8:Nat)≠6 by decide)]
 have hk:∀ k cs ty,W.heap.size<=k->w.heap[k]?=some (.cells cs ty)->(QaE w m (.map (es.push ⟨.int .i64 2,u13,c⟩) (c+1))).heap[k]?=some (.cells cs ty):=fun k cs ty _ h=>by
  rw[Qan (fun e=>by rw[e,h5]at h;cases h)];exact h
 refine⟨m,es,c,h3,h5,h6,hn,?_⟩
 exact ⟨QeV J.bl h4,
  fun h=>Qaj _ (J.c3 (by rwa [Qaf L (by decide)]at h)),
  fun _=>Qaj _ h2,
  fun h=>Qaj _ (J.c30 (by rwa [Qaf L (by decide)]at h)),
  fun _=>Qaj _ h1,
  fun h=>Qaj _ (J.c80 (by rwa [Qaf L (by decide)]at h)),
  fun h=>(J.a2 (by rwa [Qaf L (by decide)]at h)).keep hk,
  fun h=>(J.a5 (by rwa [Qaf L (by decide)]at h)).keep hk,
  fun _=>⟨m,_,_,h3,h4,QaS h5,h6.push hn hx hg⟩,
  fun h=>by obtain⟨e1,e2,e3,e4,e5,e6,e7⟩:=J.m9 (by rwa [Qaf L (by decide)]at h);exact⟨e1,Qaj _ e2,Qaj _ e3,Qaj _ e4,Qaj _ e5,Qaj _ e6,Qaj _ e7⟩,
  fun h=>by obtain ⟨e1,e2⟩:=J.m10 (by rwa [Qaf L (by decide)] at h);exact ⟨e1,Qaj _ e2⟩⟩
theorem JB.s8(J:JB lk b W L u6 u9 u11 u13 u15 w)(h0:L 8=false)(h1:L 0=true) :∃ m es c,u9=.map (some m)/\w.heap[m]?=some (.map es c)/\Qc4 es (fB b L u11 u13)/\fB b L u11 u13 3=none/\JB lk b W (up L 8) u6 u9 u11 u13 u15 (QaE w m (.map (es.push ⟨.int .i64 3,(QqA b),c⟩) (c+1))):=by
 obtain⟨m,es,c,h3,h4,h5,h6⟩:=J.mp h1;have hn:fB b L u11 u13 3=none:=by unfold fB;simp[h0]
 have hx:fB b (up L 8) u11 u13 3=some (QqA b):=by unfold fB;simp[Qbr]
 have hg:∀ z,z≠3->fB b (up L 8) u11 u13 z=fB b L u11 u13 z:=fun z hz=>by
  unfold fB;simp only[if_neg hz,Qaf L (show(3:Nat)≠8 by decide),Qaf L (show(6:Nat)≠8 by decide),Qaf L (show(8:Nat)≠99 by decide)]
 have hk:∀ k cs ty,W.heap.size<=k->w.heap[k]?=some (.cells cs ty)->(QaE w m (.map (es.push ⟨.int .i64 3,(QqA b),c⟩) (c+1))).heap[k]?=some (.cells cs ty):=fun k cs ty _ h=>by
  rw[Qan (fun e=>by rw[e,h5]at h;cases h)];exact h
 refine⟨m,es,c,h3,h5,h6,hn,?_⟩
 exact ⟨QeV J.bl h4,
  fun h=>Qaj _ (J.c3 (by rwa [Qaf L (by decide)]at h)),
  fun h=>Qaj _ (J.c6 (by rwa [Qaf L (by decide)]at h)),
  fun h=>Qaj _ (J.c30 (by rwa [Qaf L (by decide)]at h)),
  fun h=>Qaj _ (J.c60 (by rwa [Qaf L (by decide)]at h)),
  fun _=>Qaj _ h1,
  fun h=>(J.a2 (by rwa [Qaf L (by decide)]at h)).keep hk,
  fun h=>(J.a5 (by rwa [Qaf L (by decide)]at h)).keep hk,
  fun _=>⟨m,_,_,h3,h4,QaS h5,h6.push hn hx hg⟩,
  fun h=>by obtain⟨e1,e2,e3,e4,e5,e6,e7⟩:=J.m9 (by rwa [Qaf L (by decide)]at h);exact⟨e1,Qaj _ e2,Qaj _ e3,Qaj _ e4,Qaj _ e5,Qaj _ e6,Qaj _ e7⟩,
  fun h=>by obtain ⟨e1,e2⟩:=J.m10 (by rwa [Qaf L (by decide)] at h);exact ⟨e1,Qaj _ e2⟩⟩
theorem JB.s9(J:JB lk b W L u6 u9 u11 u13 u15 w)(h0:L 9=false)(i0:L 0=true)(i3:L 3=true)(i6:L 6=true)(i8:L 8=true)(i2:L 2=true)(i5:L 5=true):JB lk b W (up L 9) u6 u9 u11 u13 u9 w:=by
 have hk:∀ k cs ty,W.heap.size<=k->w.heap[k]?=some (.cells cs ty)->w.heap[k]?=some (.cells cs ty):=fun k cs ty _ h=>h
 have aa:∀(m:Nat) (es:Array MapEntry) (c:Nat),w.heap[m]?=some (Obj.map es c)->w.heap[m]?=some (Obj.map es c):=fun m es c h=>h
 exact ⟨J.bl,
  fun h=>Qaj _ (J.c3 (by rwa [Qaf L (by decide)]at h)),
  fun h=>Qaj _ (J.c6 (by rwa [Qaf L (by decide)]at h)),
  fun h=>Qaj _ (J.c30 (by rwa [Qaf L (by decide)]at h)),
  fun h=>Qaj _ (J.c60 (by rwa [Qaf L (by decide)]at h)),
  fun h=>Qaj _ (J.c80 (by rwa [Qaf L (by decide)]at h)),
  fun h=>(J.a2 (by rwa [Qaf L (by decide)]at h)).keep hk,
  fun h=>(J.a5 (by rwa [Qaf L (by decide)]at h)).keep hk,
  fun h=>by obtain⟨m,es,c,e1,e2,e3,e4⟩:=J.mp (by rwa [Qaf L (by decide)]at h);exact⟨m,es,c,e1,e2,aa m es c e3,e4.congr (fun k=>(Qt6 9 (by decide) k).symm)⟩,
  fun _=>⟨rfl,Qaj _ i0,Qaj _ i3,Qaj _ i6,Qaj _ i8,Qaj _ i2,Qaj _ i5⟩,
  fun h=>absurd (J.m10 (by rwa [Qaf L (by decide)] at h)).2 (by rw [h0];decide)⟩
theorem JB.s10(J:JB lk b W L u6 u9 u11 u13 u15 w)(h0:L 10=false)(i9:L 9=true):JB lk b W (up L 10) u15 u9 u11 u13 u15 w:=by
 have hk:∀ k cs ty,W.heap.size<=k->w.heap[k]?=some (.cells cs ty)->w.heap[k]?=some (.cells cs ty):=fun k cs ty _ h=>h
 have aa:∀(m:Nat) (es:Array MapEntry) (c:Nat),w.heap[m]?=some (Obj.map es c)->w.heap[m]?=some (Obj.map es c):=fun m es c h=>h
 exact ⟨J.bl,
  fun h=>Qaj _ (J.c3 (by rwa [Qaf L (by decide)]at h)),
  fun h=>Qaj _ (J.c6 (by rwa [Qaf L (by decide)]at h)),
  fun h=>Qaj _ (J.c30 (by rwa [Qaf L (by decide)]at h)),
  fun h=>Qaj _ (J.c60 (by rwa [Qaf L (by decide)]at h)),
  fun h=>Qaj _ (J.c80 (by rwa [Qaf L (by decide)]at h)),
  fun h=>(J.a2 (by rwa [Qaf L (by decide)]at h)).keep hk,
  fun h=>(J.a5 (by rwa [Qaf L (by decide)]at h)).keep hk,
  fun h=>by obtain⟨m,es,c,e1,e2,e3,e4⟩:=J.mp (by rwa [Qaf L (by decide)]at h);exact⟨m,es,c,e1,e2,aa m es c e3,e4.congr (fun k=>(Qt6 10 (by decide) k).symm)⟩,
  fun h=>by obtain⟨e1,e2,e3,e4,e5,e6,e7⟩:=J.m9 (by rwa [Qaf L (by decide)]at h);exact⟨e1,Qaj _ e2,Qaj _ e3,Qaj _ e4,Qaj _ e5,Qaj _ e6,Qaj _ e7⟩,
  fun _=>⟨rfl,Qaj _ i9⟩⟩
end
theorem Tryz.zeroWay:∀ W,(zeroValue 295).run Tryz.prog W=.ok .nilFunc W:=fun W=>by kernel_rfl
theorem Qsd(fl:FuncId)(hf:Nat)(w:World) :
 Calls Tryz.prog 219 #[(.func (.func fl) #[] #[]),.func (.func hf) #[] #[]] w fun e w'=>e=.returned (.func (.func 244) #[] #[.pointer (some ⟨w.heap.size+1,0,none⟩),.pointer (some ⟨w.heap.size,0,none⟩)])/\w'=(w.alloc (.cells #[(.func (.func fl) #[] #[])] 157)).alloc (.cells #[.func (.func hf) #[] #[]] 255):=by
 have hmf:∀(fn:Fn) (first cap:Array Value) (w:World),(Instr.makeFunc fn first cap).run Tryz.prog w=.ok (.func fn first cap) w:=fun _ _ _ _=>rfl
 go_enter func219,ntmps219;go_wp2;go_ret;exact⟨rfl,rfl⟩
def Qte (u:Bool) (fl:FuncId) (tag:Int) (b:Nat) (u6 u9 u11 u13 u15:Value):Act:=
 { tmps:=#[.int .i64 tag,.bool u,undef,undef,.nilFunc,.pointer (some ⟨b,0,none⟩),u6,.bool u,(.func (.func fl) #[] #[]),u9,(.func (.func fl) #[] #[]),u11,(.func (.func fl) #[] #[]),u13,QqA b,u15,undef,undef,undef],defers:=[] }
def Qsg (u:Bool) (fl:FuncId) (tag:Int) (b:Nat) (W:World) (l:Array Bool) (a:Act) (w:World):Prop:=
 l.size=11∧(∀ i∈[1,4,7],l.getD i false=true)∧∃ u6 u9 u11 u13 u15,a=Qte u fl tag b u6 u9 u11 u13 u15∧JB (.func (.func fl) #[] #[]) b W (fun j=>l.getD j false) u6 u9 u11 u13 u15 w
theorem Qsg.next{u:Bool}{fl:FuncId}{tag:Int}{b:Nat}{W:World}{l:Array Bool}{i:Nat}{u6 u9 u11 u13 u15:Value}{w:World}(hl:l.size=11)(ht:∀ i∈[1,4,7],l.getD i false=true)(hi:i<11)(J:JB (.func (.func fl) #[] #[]) b W (up (fun j=>l.getD j false) i) u6 u9 u11 u13 u15 w):Qsg u fl tag b W (l.setIfInBounds i true) (Qte u fl tag b u6 u9 u11 u13 u15) w:=
 ⟨by simp[hl],fun k hk=>getD_set_true (ht k hk),u6,u9,u11,u13,u15,rfl,by rw[Qpw (by omega)];exact J⟩
theorem QvV(u:Bool)(fl:FuncId)(ah:Qlh u=.func (.func fl) #[] #[])(tag:Int)(w:World) :
 Calls Tryz.prog 183 #[.int .i64 tag,.bool u] w fun e w'=>(∃ wv,e=.returned wv/\((1<=tag/\tag<=3/\WayV w' tag u wv)\/(¬(1<=tag/\tag<=3)/\wv=.nilFunc)))/\Below w.heap.size w w':=by
 have hmf:∀(fn:Fn) (first cap:Array Value) (w:World),(Instr.makeFunc fn first cap).run Tryz.prog w=.ok (.func fn first cap) w:=fun _ _ _ _=>rfl
 have hmm:∀(w:World),(Instr.makeMap 334 none).run Tryz.prog w=.ok (.map (some w.heap.size)) (w.alloc (Obj.map #[] 0)):=fun _=>rfl
 go_enter func183,ntmps183;go_wp2_with (go_at_call 218;refine(QjA u _).mono ?_;rw[ah];rintro e w' ⟨rfl,hww⟩;subst w');obtain⟨W,hW⟩:∃ W,W=w.alloc (.cells #[(.func (.func fl) #[] #[])] 157):=⟨_,rfl⟩;have ag:W.heap[w.heap.size]?=some (.cells #[(.func (.func fl) #[] #[])] 157):=by rw[hW];exact Qam _ _
 have aq:Below w.heap.size w W:=by rw[hW];exact(Below.refl _ _).alloc (Nat.le_refl _) _
 have hWl:=Qar ag;rw[<-hW];clear hW;refine wp_region_held (S:=fun w'=>w'.cell? ⟨w.heap.size,0,none⟩=some (.func (.func fl) #[] #[])) (by kernel_rfl) ?_;have hS:({ W with drawn:=W.drawn+1 }:World).cell? ⟨w.heap.size,0,none⟩=some (.func (.func fl) #[] #[]):=Qaa (w:={ W with drawn:=W.drawn+1 }) ag 0;refine Qao 1 10 ((.func (.func fl) #[] #[])) rfl hS (fun w' hSw=>by(try dsimp only at hSw);(try unfold QqA);go_simp) ?_;simp only[pt,sz,sc];refine Qao 4 12 ((.func (.func fl) #[] #[])) rfl hS (fun w' hSw=>by(try dsimp only at hSw);(try unfold QqA);go_simp) ?_;simp only[pt,sz,sc];refine Qao 7 14 ((QqA w.heap.size)) rfl hS (fun w' hSw=>by(try dsimp only at hSw);(try unfold QqA);go_simp) ?_;simp only[pt,sz,sc];refine Qfm (Qsg u fl tag w.heap.size W) (fun l a w' h=>by rw[h.1];rfl) (fun l a w' h=>?hSS) (fun l a w' i h hi=>?hstep) (fun l a w' h hr=>?hdone) _ _ _ _ (by decide) ?hinit
 case hSS=>
  obtain⟨_,_,_,_,_,_,_,_,J⟩:=h;exact Qaa (Qai ag J.bl) 0
 case hinit=>
  refine⟨rfl,by decide,undef,undef,undef,undef,undef,rfl,?_⟩;exact⟨Qas (Below.refl _ _),fun h=>absurd h (by decide),fun h=>absurd h (by decide),fun h=>absurd h (by decide),fun h=>absurd h (by decide),fun h=>absurd h (by decide),fun h=>absurd h (by decide),fun h=>absurd h (by decide),fun h=>absurd h (by decide),fun h=>absurd h (by decide),fun h=>absurd h (by decide)⟩
 case hdone=>
  obtain⟨hl,ac,u6,u9,aj,ai,ay,rfl,J⟩:=h;have ak:=Qea hl (by kernel_rfl) hr;obtain⟨au,_⟩:=J.m10 (ak 10 (by decide));obtain⟨e9,h0,h3,h6,h8,h2,h5⟩:=J.m9 (ak 9 (by decide));obtain⟨m,es,c,e1,hm1,ap,hf⟩:=J.mp h0;subst au e9 e1;have ad:=Qty underlying334 underlying3 Tryz.zeroWay ap hf tag;have HB:=Qab (aq.trans (J.bl.mono aq.size));have ar:=Qab (J.a2 h2);have ax:=Qab (J.a5 h5);have aw:Hid (w'.cell? ⟨w.heap.size,0,none⟩=some (.func (.func fl) #[] #[])):=Qaa (Qai ag J.bl) 0
  have ao:fB w.heap.size (fun j=>l.getD j false) aj ai tag=if tag=1 then some aj else if tag=2 then some ai else if tag=3 then some (QqA w.heap.size)else none:=by
   unfold fB;rw[if_pos h3,if_pos h6,if_pos h8]
  rw[ao]at ad;clear J ak hr ac hl hS ap hf h0 h3 h6 h8 h2 h5 ao;unfold Qte;by_cases t1:tag=1
  ·subst t1;rw[if_pos rfl]at ad;obtain⟨p,q,rfl,hp,hq,b1,b2⟩:=ar.o;have HV:Hid (WayV w' 1 u (.func (.func 244) #[] #[.pointer (some ⟨p,0,none⟩),.pointer (some ⟨q,0,none⟩)])):=Or.inr ⟨p,q,rfl,by rw[ah];exact Qaa b1 0,Or.inl ⟨rfl,Qaa b2 0⟩⟩;clear b1 b2;simp only[Option.getD_some]at ad;go_wp2;go_ret;exact⟨⟨_,rfl,Or.inl ⟨by decide,by decide,HV.o⟩⟩,HB.o⟩
  by_cases t2:tag=2
  ·subst t2;rw[if_neg t1,if_pos rfl]at ad;obtain⟨p,q,rfl,hp,hq,b1,b2⟩:=ax.o;have HV:Hid (WayV w' 2 u (.func (.func 244) #[] #[.pointer (some ⟨p,0,none⟩),.pointer (some ⟨q,0,none⟩)])):=Or.inr ⟨p,q,rfl,by rw[ah];exact Qaa b1 0,Or.inr ⟨rfl,Qaa b2 0⟩⟩;clear b1 b2;simp only[Option.getD_some]at ad;go_wp2;go_ret;exact⟨⟨_,rfl,Or.inl ⟨by decide,by decide,HV.o⟩⟩,HB.o⟩
  by_cases t3:tag=3
  ·subst t3;rw[if_neg t1,if_neg t2,if_pos rfl]at ad;have HV:Hid (WayV w' 3 u (QqA w.heap.size)):=Or.inl ⟨rfl,w.heap.size,rfl,by rw[ah];exact aw.o⟩;simp only[Option.getD_some]at ad;unfold QqA at ad HV ⊢;go_wp2;go_ret;exact⟨⟨_,rfl,Or.inl ⟨by decide,by decide,HV.o⟩⟩,HB.o⟩
  ·rw[if_neg t1,if_neg t2,if_neg t3]at ad;simp only[Option.getD_none]at ad;have av:¬(1<=tag/\tag<=3):=by omega
   clear t1 t2 t3;go_wp2;go_ret;exact⟨⟨_,rfl,Or.inr ⟨av,rfl⟩⟩,HB.o⟩
 case hstep=>
  obtain⟨hl,ac,u6,u9,aj,ai,ay,rfl,J⟩:=h;obtain⟨h0,o,ho,aa⟩:=mem_ready.1 hi;have hi11:i<11:=(Array.getElem?_eq_some_iff.1 ho).1
  have ab:l.getD i false=false:=by
   have:i<l.size:=by omega
   simp[this]at h0 ⊢;exact h0
  clear h0;rcases(by omega:i=0\/i=1\/i=2\/i=3\/i=4\/i=5\/i=6\/i=7\/i=8\/i=9\/i=10)with hh|hh|hh|hh|hh|hh|hh|hh|hh|hh|hh<;>subst hh
  ·clear ho aa hi;refine QaB rfl (by rfl) ?_;unfold Qte;go_simp;exact Qsg.next hl ac (by decide) (J.s0 ab)
  ·rw[ac 1 (by decide)]at ab;cases ab
  ·clear ho aa hi;refine QaB rfl (by rfl) ?_;unfold Qte;go_simp;refine(Qsd _ _ _).mono ?_;rintro e w2 ⟨rfl,rfl⟩;exact Qsg.next hl ac (by decide) (J.s2 ab)
  ·have ae:=Option.some.inj (show some _=some o from ho);subst ae;have h1:=aa { on:=0,ground:=.data } (by simp) rfl;have h2:=aa { on:=2,ground:=.data } (by simp) rfl;clear ho aa hi;obtain⟨m,es,c,rfl,hm,hf,hn,J'⟩:=J.s3 ab h1 h2;have af:(Instr.mapUpdate 334 (.map (some m)) (.int .i64 1) aj).run Tryz.prog w'=.ok () _:=QfK underlying334 underlying3 hm hf hn _;refine QaB rfl (by rfl) ?_;unfold Qte;go_simp;exact Qsg.next hl ac (by decide) J'
  ·rw[ac 4 (by decide)]at ab;cases ab
  ·clear ho aa hi;refine QaB rfl (by rfl) ?_;unfold Qte;go_simp;refine(Qsd _ _ _).mono ?_;rintro e w2 ⟨rfl,rfl⟩;exact Qsg.next hl ac (by decide) (J.s5 ab)
  ·have ae:=Option.some.inj (show some _=some o from ho);subst ae;have h1:=aa { on:=0,ground:=.data } (by simp) rfl;have h2:=aa { on:=5,ground:=.data } (by simp) rfl;clear ho aa hi;obtain⟨m,es,c,rfl,hm,hf,hn,J'⟩:=J.s6 ab h1 h2;have af:(Instr.mapUpdate 334 (.map (some m)) (.int .i64 2) ai).run Tryz.prog w'=.ok () _:=QfK underlying334 underlying3 hm hf hn _;refine QaB rfl (by rfl) ?_;unfold Qte;go_simp;exact Qsg.next hl ac (by decide) J'
  ·rw[ac 7 (by decide)]at ab;cases ab
  ·have ae:=Option.some.inj (show some _=some o from ho);subst ae;have h1:=aa { on:=0,ground:=.data } (by simp) rfl;clear ho aa hi;obtain⟨m,es,c,rfl,hm,hf,hn,J'⟩:=J.s8 ab h1;have af:(Instr.mapUpdate 334 (.map (some m)) (.int .i64 3) (QqA w.heap.size)).run Tryz.prog w'=.ok () _:=QfK underlying334 underlying3 hm hf hn _;refine QaB rfl (by rfl) ?_;unfold Qte;go_simp;exact Qsg.next hl ac (by decide) J'
  ·have ae:=Option.some.inj (show some _=some o from ho);subst ae;have i0:=aa { on:=0,ground:=.data } (by simp) rfl;have i2:=aa { on:=2,ground:=.data } (by simp) rfl;have i3:=aa { on:=3,ground:=.data } (by simp) rfl;have i5:=aa { on:=5,ground:=.data } (by simp) rfl;have i6:=aa { on:=6,ground:=.data } (by simp) rfl;have i8:=aa { on:=8,ground:=.data } (by simp) rfl;clear ho aa hi;refine QaB rfl (by rfl) ?_;unfold Qte;go_simp;exact Qsg.next hl ac (by decide) (J.s9 ab i0 i3 i6 i8 i2 i5)
  ·have ae:=Option.some.inj (show some _=some o from ho);subst ae;have i9:=aa { on:=9,ground:=.data } (by simp) rfl;clear ho aa hi;refine QaB rfl (by rfl) ?_;unfold Qte;go_simp;exact Qsg.next hl ac (by decide) (J.s10 ab i9)
end
end Go.Proofs.YthkibedbcbgajaaGreatDoor
