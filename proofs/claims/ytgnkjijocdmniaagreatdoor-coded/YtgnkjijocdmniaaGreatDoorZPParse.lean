import Derived.Defers
import Derived.Recover
import Derived.LaidEql
import Derived.Stop.Asserts
import Derived.RowKitTokens
import Derived.Test.YtgnkjijocdmniaaGreatDoorZReaderT
namespace Go.Proofs.YtgnkjijocdmniaaGreatDoor
set_option linter.unusedVariables false
set_option linter.unusedSimpArgs false
set_option maxRecDepth 100000
set_option maxHeartbeats 4000000
open Go.Proofs.Tryz
variable{W w w':World}{b i:Nat}{l:Array Bool}{t:ByteArray}
section
open Go.RowKit
attribute [local go_sem ↓] Go.wp_at_zero Go.wp_at_succ
theorem Dw(h:i<l.size):(fun j=>(l.setIfInBounds i true).getD j false)=up (fun j=>l.getD j false) i:=by
 funext j;unfold up;by_cases e:j=i
 ·subst e;simp[h]
 ·rw[if_neg e];exact getD_set_ne false (Ne.symm e)
def tmC(t:ByteArray)(b:Nat)(u8 u16 u18 u20 u25 u26 u27:Value):Act:=
 { tmps:=#[.string t,undef,.pointer none,.pointer (some ⟨b+1,0,none⟩),.string t,.agg #[.string t,.int .i64 0,.int .i64 0,.string ⟨#[]⟩,.string ⟨#[]⟩,.int .i64 0,.int .i64 0,.slice none 0 0,.map none,.map none],(.pointer (some ⟨b,0,none⟩)),(.pointer (some ⟨b,0,none⟩)),u8,(.pointer (some ⟨b,0,none⟩)),(.func (.func 121) #[.pointer (some ⟨b,0,none⟩)] #[]),(.pointer (some ⟨b,0,none⟩)),(.func (.func 122) #[.pointer (some ⟨b,0,none⟩)] #[]),(.pointer (some ⟨b,0,none⟩)),(.func (.func 123) #[.pointer (some ⟨b,0,none⟩)] #[]),(.pointer (some ⟨b,0,none⟩)),u16,(.pointer (some ⟨b,0,none⟩)),u18,(.pointer (some ⟨b,0,none⟩)),u20,(.pointer (some ⟨b,0,none⟩)),(.func (.func 125) #[.pointer (some ⟨b,0,none⟩)] #[]),(.pointer (some ⟨b,0,none⟩)),(.func (.func 126) #[.pointer (some ⟨b,0,none⟩)] #[]),u25,u26,u27,undef,undef,undef,undef,undef,undef,undef,undef,undef,undef,undef,undef,undef,undef,undef,undef,undef,undef,undef],defers:=[] }
def JJC(t:ByteArray)(b:Nat)(W:World)(l:Array Bool)(a:Act)(w:World):Prop:=
 l.size=30/\(∀ i∈[0,2,3,5,6,8,9,11,14,17,20,21,23,24],l.getD i false=true)/\∃ u8 u16 u18 u20 u25 u26 u27,a=tmC t b u8 u16 u18 u20 u25 u26 u27/\JC t b W (.map none) (fun j=>l.getD j false) u8 u16 u18 u20 u25 u26 u27 w
theorem JJC.next{u8 u16 u18 u20 u25 u26 u27:Value}(hl:l.size=30)(ht:∀ i∈[0,2,3,5,6,8,9,11,14,17,20,21,23,24],l.getD i false=true)(hi:i<30)(J:JC t b W (.map none) (up (fun j=>l.getD j false) i) u8 u16 u18 u20 u25 u26 u27 w):JJC t b W (l.setIfInBounds i true) (tmC t b u8 u16 u18 u20 u25 u26 u27) w:=
 ⟨by simp[hl],fun k hk=>getD_set_true (ht k hk),u8,u16,u18,u20,u25,u26,u27,rfl,by rw[Dw (by omega)];exact J⟩
def Dx(t:ByteArray)(w:World)(e:Ending)(w':World):Prop:=∃ mc mt pr pt pf p1 k1 p2 k2 p3 k3,e=.returned (.pointer (some ⟨w.heap.size,0,none⟩))/\RC w' w.heap.size t ps0 (.slice none 0 0) mc mt/\Y9 w' w.heap.size mt pr pt pf/\JB w' w.heap.size mc p1 k1 p2 k2 p3 k3/\Below w.heap.size w w'
def tmT(t:ByteArray)(b:Nat)(u8 u16 u18 u20 u25 u26 u27 u29 u30 u31 u43 u44 u45:Value):Act:=
 { tmps:=#[.string t,undef,.pointer none,.pointer (some ⟨b+1,0,none⟩),.string t,.agg #[.string t,.int .i64 0,.int .i64 0,.string ⟨#[]⟩,.string ⟨#[]⟩,.int .i64 0,.int .i64 0,.slice none 0 0,.map none,.map none],(.pointer (some ⟨b,0,none⟩)),(.pointer (some ⟨b,0,none⟩)),u8,(.pointer (some ⟨b,0,none⟩)),(.func (.func 121) #[.pointer (some ⟨b,0,none⟩)] #[]),(.pointer (some ⟨b,0,none⟩)),(.func (.func 122) #[.pointer (some ⟨b,0,none⟩)] #[]),(.pointer (some ⟨b,0,none⟩)),(.func (.func 123) #[.pointer (some ⟨b,0,none⟩)] #[]),(.pointer (some ⟨b,0,none⟩)),u16,(.pointer (some ⟨b,0,none⟩)),u18,(.pointer (some ⟨b,0,none⟩)),u20,(.pointer (some ⟨b,0,none⟩)),(.func (.func 125) #[.pointer (some ⟨b,0,none⟩)] #[]),(.pointer (some ⟨b,0,none⟩)),(.func (.func 126) #[.pointer (some ⟨b,0,none⟩)] #[]),u25,u26,u27,(.pointer (some ⟨b,0,none⟩)),u29,u30,u31,(.pointer (some ⟨b,0,none⟩)),(.func (.func 128) #[.pointer (some ⟨b,0,none⟩)] #[]),(.func (.func 129) #[] #[.pointer (some ⟨b+1,0,none⟩)]),(.func (.func 131) #[] #[.pointer (some ⟨b+1,0,none⟩)]),(.func (.func 132) #[] #[.pointer (some ⟨b+1,0,none⟩)]),(.func (.func 135) #[] #[.pointer (some ⟨b+1,0,none⟩)]),(.func (.func 138) #[] #[.pointer (some ⟨b+1,0,none⟩)]),(.pointer (some ⟨b,0,none⟩)),(.func (.func 139) #[.pointer (some ⟨b,0,none⟩)] #[]),(.pointer (some ⟨b,0,none⟩)),(.func (.func 140) #[.pointer (some ⟨b,0,none⟩)] #[]),u43,u44,u45,undef],defers:=[] }
def JJT(t:ByteArray)(b:Nat)(W:World)(mv1:Value)(u8 u16 u18 u20 u25 u26 u27:Value)(l:Array Bool)(a:Act)(w:World):Prop:=
 l.size=29/\(∀ i∈[0,6,7,9,11,13,15,17,19,20,22,23],l.getD i false=true)/\∃ u29 u30 u31 u43 u44 u45,a=tmT t b u8 u16 u18 u20 u25 u26 u27 u29 u30 u31 u43 u44 u45/\JT t b W mv1 (fun j=>l.getD j false) u29 u30 u31 u43 u44 u45 w
theorem JJT.next{mv1:Value}{u8 u16 u18 u20 u25 u26 u27 u29 u30 u31 u43 u44 u45:Value}(hl:l.size=29)(ht:∀ i∈[0,6,7,9,11,13,15,17,19,20,22,23],l.getD i false=true)(hi:i<29)(J:JT t b W mv1 (up (fun j=>l.getD j false) i) u29 u30 u31 u43 u44 u45 w):JJT t b W mv1 u8 u16 u18 u20 u25 u26 u27 (l.setIfInBounds i true) (tmT t b u8 u16 u18 u20 u25 u26 u27 u29 u30 u31 u43 u44 u45) w:=
 ⟨by simp[hl],fun k hk=>getD_set_true (ht k hk),u29,u30,u31,u43,u44,u45,rfl,by rw[Dw (by omega)];exact J⟩
theorem Oy{o o':Obj}(h:Mod w.heap.size ((w.alloc o).alloc o') w'):Below w.heap.size w w':=
 ⟨h.os,h.tape,h.output,by have:=h.size;simp at this;omega,fun k hk=>by
  rw [h.block k (by simp;omega) (by omega),Below.heap_alloc _ _ _ (by simp;omega),Below.heap_alloc _ _ _ hk]⟩
theorem Oz(t:ByteArray)(w:World)(ht:t.size<=600)(aE:∃ m,w.cell? ⟨1,0,none⟩=some (.int .i64 m)) :
 Calls prog 89 #[.string t] w (Dx t w):=by
 have aH:∀(fn:Fn) (first cap:Array Value) (w:World),(Instr.makeFunc fn first cap).run prog w=.ok (.func fn first cap) w:=fun _ _ _ _=>rfl
 go_enter func89,ntmps89;go_wp2_with fail;refine wp_region_held (S:=fun q=>q.cell? ⟨w.heap.size+1,0,none⟩=some (.pointer (some ⟨w.heap.size,0,none⟩))) (by kernel_rfl) ?_;have A:({ ((w.alloc (YZ t (.map none) (.map none))).alloc (.cells #[.pointer (some ⟨w.heap.size,0,none⟩)] 161))with drawn:=((w.alloc (YZ t (.map none) (.map none))).alloc (.cells #[.pointer (some ⟨w.heap.size,0,none⟩)] 161)).drawn+1 }:World).cell? ⟨w.heap.size+1,0,none⟩=some (.pointer (some ⟨w.heap.size,0,none⟩)):=Qn (Zv (by simp)) 0;refine Xa 0 7 (.pointer (some ⟨w.heap.size,0,none⟩)) rfl A (fun q j=>by(try dsimp only at j);go_simp) ?_;simp only[pt,sz,sc];refine Xa 2 9 (.pointer (some ⟨w.heap.size,0,none⟩)) rfl A (fun q j=>by(try dsimp only at j);go_simp) ?_;simp only[pt,sz,sc];refine Xa 3 10 (.func (.func 121) #[.pointer (some ⟨w.heap.size,0,none⟩)] #[]) rfl A (fun q j=>by(try dsimp only at j);go_simp) ?_;simp only[pt,sz,sc];refine Xa 5 11 (.pointer (some ⟨w.heap.size,0,none⟩)) rfl A (fun q j=>by(try dsimp only at j);go_simp) ?_;simp only[pt,sz,sc];refine Xa 6 12 (.func (.func 122) #[.pointer (some ⟨w.heap.size,0,none⟩)] #[]) rfl A (fun q j=>by(try dsimp only at j);go_simp) ?_;simp only[pt,sz,sc];refine Xa 8 13 (.pointer (some ⟨w.heap.size,0,none⟩)) rfl A (fun q j=>by(try dsimp only at j);go_simp) ?_;simp only[pt,sz,sc];refine Xa 9 14 (.func (.func 123) #[.pointer (some ⟨w.heap.size,0,none⟩)] #[]) rfl A (fun q j=>by(try dsimp only at j);go_simp) ?_;simp only[pt,sz,sc];refine Xa 11 15 (.pointer (some ⟨w.heap.size,0,none⟩)) rfl A (fun q j=>by(try dsimp only at j);go_simp) ?_;simp only[pt,sz,sc];refine Xa 14 17 (.pointer (some ⟨w.heap.size,0,none⟩)) rfl A (fun q j=>by(try dsimp only at j);go_simp) ?_;simp only[pt,sz,sc];refine Xa 17 19 (.pointer (some ⟨w.heap.size,0,none⟩)) rfl A (fun q j=>by(try dsimp only at j);go_simp) ?_;simp only[pt,sz,sc];refine Xa 20 21 (.pointer (some ⟨w.heap.size,0,none⟩)) rfl A (fun q j=>by(try dsimp only at j);go_simp) ?_;simp only[pt,sz,sc];refine Xa 21 22 (.func (.func 125) #[.pointer (some ⟨w.heap.size,0,none⟩)] #[]) rfl A (fun q j=>by(try dsimp only at j);go_simp) ?_;simp only[pt,sz,sc];refine Xa 23 23 (.pointer (some ⟨w.heap.size,0,none⟩)) rfl A (fun q j=>by(try dsimp only at j);go_simp) ?_;simp only[pt,sz,sc];refine Xa 24 24 (.func (.func 126) #[.pointer (some ⟨w.heap.size,0,none⟩)] #[]) rfl A (fun q j=>by(try dsimp only at j);go_simp) ?_;simp only[pt,sz,sc];refine Be (JJC t w.heap.size ((w.alloc (YZ t (.map none) (.map none))).alloc (.cells #[.pointer (some ⟨w.heap.size,0,none⟩)] 161))) (fun l a q h=>by rw[h.1];rfl) (fun l a q h=>?hSS) (fun l a q i h u=>?hstep) (fun l a q h F=>?hdone) _ _ _ _ (by decide) ?hinit
 case hSS=>
  obtain⟨_,_,_,_,_,_,_,_,_,_,J⟩:=h;exact YI (Qn (Zv (by simp)) 0) J.mod (by omega)
 case hinit=>
  refine⟨rfl,by decide,undef,undef,undef,undef,undef,undef,undef,rfl,?_⟩;exact⟨by simp;omega,(Mod.refl _ _).drew,Qy (QA _ _),fun h=>absurd h (by decide),fun h=>absurd h (by decide),fun h=>absurd h (by decide),fun h=>absurd h (by decide),fun h=>absurd h (by decide),fun h=>absurd h (by decide),fun h=>absurd h (by decide),fun h=>absurd h (by decide),fun h=>absurd h (by decide),fun h=>absurd h (by decide),fun h=>absurd h (by decide),fun h=>absurd h (by decide),fun h=>absurd h (by decide),fun h=>absurd h (by decide),fun h=>absurd h (by decide),fun h=>absurd h (by decide),fun h=>absurd h (by decide),fun h=>absurd h (by decide),fun h=>absurd h (by decide)⟩
 case hdone=>
  obtain⟨s,f,u8,u16,u18,u20,u25,u26,u27,rfl,J⟩:=h;have M:=Dy s (by kernel_rfl) F;obtain⟨m,p1,k1,p2,k2,p3,k3,L,W,H,aF⟩:=J.done M;clear J M F f s A;unfold tmC;go_wp2_with fail;have Y:YJ q (w.heap.size+1) w.heap.size:=⟨YI (Qn (Zv (by simp)) 0) H (by omega),by omega⟩;have ag:=Qh L;have ad:=I L;have aa:=I W;have ac:=I H;have N:=I Y;clear L W H Y;refine wp_region_held (S:=fun D=>D.cell? ⟨w.heap.size+1,0,none⟩=some (.pointer (some ⟨w.heap.size,0,none⟩))) (by kernel_rfl) ?_;have A:({ q with drawn:=q.drawn+1 }:World).cell? ⟨w.heap.size+1,0,none⟩=some (.pointer (some ⟨w.heap.size,0,none⟩)):=N.o.1;refine Xa 0 28 (.pointer (some ⟨w.heap.size,0,none⟩)) rfl A (fun q j=>by(try dsimp only at j);go_simp) ?_;simp only[pt,sz,sc];refine Xa 6 32 (.pointer (some ⟨w.heap.size,0,none⟩)) rfl A (fun q j=>by(try dsimp only at j);go_simp) ?_;simp only[pt,sz,sc];refine Xa 7 33 (.func (.func 128) #[.pointer (some ⟨w.heap.size,0,none⟩)] #[]) rfl A (fun q j=>by(try dsimp only at j);go_simp) ?_;simp only[pt,sz,sc];refine Xa 9 34 (.func (.func 129) #[] #[.pointer (some ⟨w.heap.size+1,0,none⟩)]) rfl A (fun q j=>by(try dsimp only at j);go_simp) ?_;simp only[pt,sz,sc];refine Xa 11 35 (.func (.func 131) #[] #[.pointer (some ⟨w.heap.size+1,0,none⟩)]) rfl A (fun q j=>by(try dsimp only at j);go_simp) ?_;simp only[pt,sz,sc];refine Xa 13 36 (.func (.func 132) #[] #[.pointer (some ⟨w.heap.size+1,0,none⟩)]) rfl A (fun q j=>by(try dsimp only at j);go_simp) ?_;simp only[pt,sz,sc];refine Xa 15 37 (.func (.func 135) #[] #[.pointer (some ⟨w.heap.size+1,0,none⟩)]) rfl A (fun q j=>by(try dsimp only at j);go_simp) ?_;simp only[pt,sz,sc];refine Xa 17 38 (.func (.func 138) #[] #[.pointer (some ⟨w.heap.size+1,0,none⟩)]) rfl A (fun q j=>by(try dsimp only at j);go_simp) ?_;simp only[pt,sz,sc];refine Xa 19 39 (.pointer (some ⟨w.heap.size,0,none⟩)) rfl A (fun q j=>by(try dsimp only at j);go_simp) ?_;simp only[pt,sz,sc];refine Xa 20 40 (.func (.func 139) #[.pointer (some ⟨w.heap.size,0,none⟩)] #[]) rfl A (fun q j=>by(try dsimp only at j);go_simp) ?_;simp only[pt,sz,sc];refine Xa 22 41 (.pointer (some ⟨w.heap.size,0,none⟩)) rfl A (fun q j=>by(try dsimp only at j);go_simp) ?_;simp only[pt,sz,sc];refine Xa 23 42 (.func (.func 140) #[.pointer (some ⟨w.heap.size,0,none⟩)] #[]) rfl A (fun q j=>by(try dsimp only at j);go_simp) ?_;simp only[pt,sz,sc];refine Be (JJT t w.heap.size q (.map (some m)) u8 u16 u18 u20 u25 u26 u27) (fun l a q h=>by rw[h.1];rfl) (fun l a q h=>?hSS2) (fun l a D i h u=>?hstep2) (fun l a D h F=>?hdone2) _ _ _ _ (by decide) ?hinit2
  case hSS2=>
   obtain⟨_,_,_,_,_,_,_,_,_,J⟩:=h;exact YI N.o.1 J.mod (by omega)
  case hinit2=>
   refine⟨rfl,by decide,undef,undef,undef,undef,undef,undef,rfl,?_⟩;exact⟨ag,(Mod.refl _ _).drew,ad.o,fun h=>absurd h (by decide),fun h=>absurd h (by decide),fun h=>absurd h (by decide),fun h=>absurd h (by decide),fun h=>absurd h (by decide),fun h=>absurd h (by decide),fun h=>absurd h (by decide),fun h=>absurd h (by decide),fun h=>absurd h (by decide),fun h=>absurd h (by decide),fun h=>absurd h (by decide),fun h=>absurd h (by decide),fun h=>absurd h (by decide),fun h=>absurd h (by decide),fun h=>absurd h (by decide),fun h=>absurd h (by decide),fun h=>absurd h (by decide),fun h=>absurd h (by decide),fun h=>absurd h (by decide)⟩
  case hdone2=>
   obtain⟨s,f,u29,u30,u31,u43,u44,u45,rfl,J⟩:=h;have M:=Dy s (by kernel_rfl) F;obtain⟨mt,pt,pf,L,Z,H,_⟩:=J.done M N.o;have aG:=(N.o.mod H).1
   have ab:Hid (Dx t w (.returned (.pointer (some ⟨w.heap.size,0,none⟩))) D):=by
    have V:=Oy (ac.o.trans H);obtain⟨mm,X⟩:=aE;have R:=QI X;exact⟨m,mt,w.heap.size+1,pt,pf,p1,k1,p2,k2,p3,k3,rfl,⟨L,QC,⟨mm,by rw[V.cell (p:=⟨1,0,none⟩) R];exact X⟩,R,ht,⟨QC,by decide⟩,fun _=>rfl,fun _ c r e=>by cases e⟩,Z,aa.o.mod H,V⟩
   clear J M F f s A L Z H;unfold tmT;go_wp2;go_ret;exact ab.o
  case hstep2=>
   obtain⟨s,f,u29,u30,u31,u43,u44,u45,rfl,J⟩:=h;obtain⟨K,o,g,d⟩:=mem_ready.1 u;have az:i<29:=(Array.getElem?_eq_some_iff.1 g).1
   have b:l.getD i false=false:=by
    have:i<l.size:=by omega
    simp[this]at K ⊢;exact K
   clear K;rcases(by omega:i=0\/i=1\/i=2\/i=3\/i=4\/i=5\/i=6\/i=7\/i=8\/i=9\/i=10\/i=11\/i=12\/i=13\/i=14\/i=15\/i=16\/i=17\/i=18\/i=19\/i=20\/i=21\/i=22\/i=23\/i=24\/i=25\/i=26\/i=27\/i=28)with hh|hh|hh|hh|hh|hh|hh|hh|hh|hh|hh|hh|hh|hh|hh|hh|hh|hh|hh|hh|hh|hh|hh|hh|hh|hh|hh|hh|hh<;>subst hh
   ·rw[f 0 (by decide)]at b;cases b
   ·clear g d u;refine ZK rfl (by rfl) ?_;unfold tmT;go_simp;exact JJT.next s f (by decide) (J.s1 b)
   ·clear g d u;refine ZK rfl (by rfl) ?_;unfold tmT;go_simp;refine(Dz true _).mono ?_;rintro e w3 ⟨rfl,rfl⟩;exact JJT.next s f (by decide) (J.s2 b)
   ·have n:=Option.some.inj (show some _=some o from g);subst n;have k:=d { on:=1,ground:=.data } (by simp) rfl;have G:=d { on:=2,ground:=.data } (by simp) rfl;clear g d u;obtain⟨B,C,c,rfl,y,x,z,v⟩:=J.s3 b k G;have E:(Instr.mapUpdate 208 (.map (some B)) (.string ⟨#[116,114,117,101]⟩) (u30)).run prog D=.ok () _:=Yo underlying208 underlying9 y x z _;refine ZK rfl (by rfl) ?_;unfold tmT;go_simp;exact JJT.next s f (by decide) v
   ·clear g d u;refine ZK rfl (by rfl) ?_;unfold tmT;go_simp;refine(Dz false _).mono ?_;rintro e w3 ⟨rfl,rfl⟩;exact JJT.next s f (by decide) (J.s4 b)
   ·have n:=Option.some.inj (show some _=some o from g);subst n;have k:=d { on:=1,ground:=.data } (by simp) rfl;have G:=d { on:=4,ground:=.data } (by simp) rfl;clear g d u;obtain⟨B,C,c,rfl,y,x,z,v⟩:=J.s5 b k G;have E:(Instr.mapUpdate 208 (.map (some B)) (.string ⟨#[102,97,108,115,101]⟩) (u31)).run prog D=.ok () _:=Yo underlying208 underlying9 y x z _;refine ZK rfl (by rfl) ?_;unfold tmT;go_simp;exact JJT.next s f (by decide) v
   ·rw[f 6 (by decide)]at b;cases b
   ·rw[f 7 (by decide)]at b;cases b
   ·have n:=Option.some.inj (show some _=some o from g);subst n;have k:=d { on:=1,ground:=.data } (by simp) rfl;clear g d u;obtain⟨B,C,c,rfl,y,x,z,v⟩:=J.s8 b k;have E:(Instr.mapUpdate 208 (.map (some B)) (.string ⟨#[110,111,116]⟩) (.func (.func 128) #[.pointer (some ⟨w.heap.size,0,none⟩)] #[])).run prog D=.ok () _:=Yo underlying208 underlying9 y x z _;refine ZK rfl (by rfl) ?_;unfold tmT;go_simp;exact JJT.next s f (by decide) v
   ·rw[f 9 (by decide)]at b;cases b
   ·have n:=Option.some.inj (show some _=some o from g);subst n;have k:=d { on:=1,ground:=.data } (by simp) rfl;clear g d u;obtain⟨B,C,c,rfl,y,x,z,v⟩:=J.s10 b k;have E:(Instr.mapUpdate 208 (.map (some B)) (.string ⟨#[97,108,108,111,102]⟩) (.func (.func 129) #[] #[.pointer (some ⟨w.heap.size+1,0,none⟩)])).run prog D=.ok () _:=Yo underlying208 underlying9 y x z _;refine ZK rfl (by rfl) ?_;unfold tmT;go_simp;exact JJT.next s f (by decide) v
   ·rw[f 11 (by decide)]at b;cases b
   ·have n:=Option.some.inj (show some _=some o from g);subst n;have k:=d { on:=1,ground:=.data } (by simp) rfl;clear g d u;obtain⟨B,C,c,rfl,y,x,z,v⟩:=J.s12 b k;have E:(Instr.mapUpdate 208 (.map (some B)) (.string ⟨#[97,110,121,111,102]⟩) (.func (.func 131) #[] #[.pointer (some ⟨w.heap.size+1,0,none⟩)])).run prog D=.ok () _:=Yo underlying208 underlying9 y x z _;refine ZK rfl (by rfl) ?_;unfold tmT;go_simp;exact JJT.next s f (by decide) v
   ·rw[f 13 (by decide)]at b;cases b
   ·have n:=Option.some.inj (show some _=some o from g);subst n;have k:=d { on:=1,ground:=.data } (by simp) rfl;clear g d u;obtain⟨B,C,c,rfl,y,x,z,v⟩:=J.s14 b k;have E:(Instr.mapUpdate 208 (.map (some B)) (.string ⟨#[104,101,97,100,101,114]⟩) (.func (.func 132) #[] #[.pointer (some ⟨w.heap.size+1,0,none⟩)])).run prog D=.ok () _:=Yo underlying208 underlying9 y x z _;refine ZK rfl (by rfl) ?_;unfold tmT;go_simp;exact JJT.next s f (by decide) v
   ·rw[f 15 (by decide)]at b;cases b
   ·have n:=Option.some.inj (show some _=some o from g);subst n;have k:=d { on:=1,ground:=.data } (by simp) rfl;clear g d u;obtain⟨B,C,c,rfl,y,x,z,v⟩:=J.s16 b k;have E:(Instr.mapUpdate 208 (.map (some B)) (.string ⟨#[101,110,118,101,108,111,112,101]⟩) (.func (.func 135) #[] #[.pointer (some ⟨w.heap.size+1,0,none⟩)])).run prog D=.ok () _:=Yo underlying208 underlying9 y x z _;refine ZK rfl (by rfl) ?_;unfold tmT;go_simp;exact JJT.next s f (by decide) v
   ·rw[f 17 (by decide)]at b;cases b
   ·have n:=Option.some.inj (show some _=some o from g);subst n;have k:=d { on:=1,ground:=.data } (by simp) rfl;clear g d u;obtain⟨B,C,c,rfl,y,x,z,v⟩:=J.s18 b k;have E:(Instr.mapUpdate 208 (.map (some B)) (.string ⟨#[115,116,114,105,110,103]⟩) (.func (.func 138) #[] #[.pointer (some ⟨w.heap.size+1,0,none⟩)])).run prog D=.ok () _:=Yo underlying208 underlying9 y x z _;refine ZK rfl (by rfl) ?_;unfold tmT;go_simp;exact JJT.next s f (by decide) v
   ·rw[f 19 (by decide)]at b;cases b
   ·rw[f 20 (by decide)]at b;cases b
   ·have n:=Option.some.inj (show some _=some o from g);subst n;have k:=d { on:=1,ground:=.data } (by simp) rfl;clear g d u;obtain⟨B,C,c,rfl,y,x,z,v⟩:=J.s21 b k;have E:(Instr.mapUpdate 208 (.map (some B)) (.string ⟨#[101,120,105,115,116,115]⟩) (.func (.func 139) #[.pointer (some ⟨w.heap.size,0,none⟩)] #[])).run prog D=.ok () _:=Yo underlying208 underlying9 y x z _;refine ZK rfl (by rfl) ?_;unfold tmT;go_simp;exact JJT.next s f (by decide) v
   ·rw[f 22 (by decide)]at b;cases b
   ·rw[f 23 (by decide)]at b;cases b
   ·have n:=Option.some.inj (show some _=some o from g);subst n;have k:=d { on:=1,ground:=.data } (by simp) rfl;clear g d u;obtain⟨B,C,c,rfl,y,x,z,v⟩:=J.s24 b k;have E:(Instr.mapUpdate 208 (.map (some B)) (.string ⟨#[115,105,122,101]⟩) (.func (.func 140) #[.pointer (some ⟨w.heap.size,0,none⟩)] #[])).run prog D=.ok () _:=Yo underlying208 underlying9 y x z _;refine ZK rfl (by rfl) ?_;unfold tmT;go_simp;exact JJT.next s f (by decide) v
   ·have n:=Option.some.inj (show some _=some o from g);subst n;have k:=d { on:=1,ground:=.data } (by simp) rfl;have ay:=d { on:=3,ground:=.data } (by simp) rfl;have aB:=d { on:=5,ground:=.data } (by simp) rfl;have aD:=d { on:=8,ground:=.data } (by simp) rfl;have P:=d { on:=10,ground:=.data } (by simp) rfl;have ak:=d { on:=12,ground:=.data } (by simp) rfl;have ap:=d { on:=14,ground:=.data } (by simp) rfl;have Q:=d { on:=16,ground:=.data } (by simp) rfl;have aq:=d { on:=18,ground:=.data } (by simp) rfl;have au:=d { on:=21,ground:=.data } (by simp) rfl;have aw:=d { on:=24,ground:=.data } (by simp) rfl;clear g d u;refine ZK rfl (by rfl) ?_;unfold tmT;go_simp;exact JJT.next s f (by decide) (J.s25 b k ay aB aD P ak ap Q aq au aw)
   ·clear g d u;refine ZK rfl (by rfl) ?_;unfold tmT;go_simp;exact JJT.next s f (by decide) (J.s26 b)
   ·have n:=Option.some.inj (show some _=some o from g);subst n;have k:=d { on:=26,ground:=.data } (by simp) rfl;obtain rfl:=J.m26 k;clear g d u;refine ZK rfl (by rfl) ?_;unfold tmT;go_simp;exact JJT.next s f (by decide) (J.s27 b)
   ·have n:=Option.some.inj (show some _=some o from g);subst n;have ae:=d { on:=27,ground:=.data } (by simp) rfl;have T:=d { on:=25,ground:=.data } (by simp) rfl;obtain rfl:=J.m27 ae;obtain⟨rfl,k,_⟩:=J.m25 T;obtain⟨B,C,c,rfl,_,_,_⟩:=J.mp k;clear g d u;have F:=J.rd;unfold YZ at F;have ai:=JU F;rw[show(l.getD 28 false)=false from b]at ai;have aj:=Qz F;refine ZK rfl (by rfl) ?_;unfold tmT;go_simp;exact JJT.next s f (by decide) (J.s28 b T)
 case hstep=>
  obtain⟨s,f,u8,u16,u18,u20,u25,u26,u27,rfl,J⟩:=h;obtain⟨K,o,g,d⟩:=mem_ready.1 u;have az:i<30:=(Array.getElem?_eq_some_iff.1 g).1
  have b:l.getD i false=false:=by
   have:i<l.size:=by omega
   simp[this]at K ⊢;exact K
  clear K;rcases(by omega:i=0\/i=1\/i=2\/i=3\/i=4\/i=5\/i=6\/i=7\/i=8\/i=9\/i=10\/i=11\/i=12\/i=13\/i=14\/i=15\/i=16\/i=17\/i=18\/i=19\/i=20\/i=21\/i=22\/i=23\/i=24\/i=25\/i=26\/i=27\/i=28\/i=29)with hh|hh|hh|hh|hh|hh|hh|hh|hh|hh|hh|hh|hh|hh|hh|hh|hh|hh|hh|hh|hh|hh|hh|hh|hh|hh|hh|hh|hh|hh<;>subst hh
  ·rw[f 0 (by decide)]at b;cases b
  ·clear g d u;refine ZK rfl (by rfl) ?_;unfold tmC;go_simp;exact JJC.next s f (by decide) (J.s1 b)
  ·rw[f 2 (by decide)]at b;cases b
  ·rw[f 3 (by decide)]at b;cases b
  ·have n:=Option.some.inj (show some _=some o from g);subst n;have k:=d { on:=1,ground:=.data } (by simp) rfl;clear g d u;obtain⟨m,C,c,rfl,y,x,z,v⟩:=J.s4 b k;have E:(Instr.mapUpdate 207 (.map (some m)) (.string ⟨#[107,101,101,112]⟩) (.func (.func 121) #[.pointer (some ⟨w.heap.size,0,none⟩)] #[])).run prog q=.ok () _:=Yo underlying207 underlying9 y x z _;refine ZK rfl (by rfl) ?_;unfold tmC;go_simp;exact JJC.next s f (by decide) v
  ·rw[f 5 (by decide)]at b;cases b
  ·rw[f 6 (by decide)]at b;cases b
  ·have n:=Option.some.inj (show some _=some o from g);subst n;have k:=d { on:=1,ground:=.data } (by simp) rfl;clear g d u;obtain⟨m,C,c,rfl,y,x,z,v⟩:=J.s7 b k;have E:(Instr.mapUpdate 207 (.map (some m)) (.string ⟨#[100,105,115,99,97,114,100]⟩) (.func (.func 122) #[.pointer (some ⟨w.heap.size,0,none⟩)] #[])).run prog q=.ok () _:=Yo underlying207 underlying9 y x z _;refine ZK rfl (by rfl) ?_;unfold tmC;go_simp;exact JJC.next s f (by decide) v
  ·rw[f 8 (by decide)]at b;cases b
  ·rw[f 9 (by decide)]at b;cases b
  ·have n:=Option.some.inj (show some _=some o from g);subst n;have k:=d { on:=1,ground:=.data } (by simp) rfl;clear g d u;obtain⟨m,C,c,rfl,y,x,z,v⟩:=J.s10 b k;have E:(Instr.mapUpdate 207 (.map (some m)) (.string ⟨#[115,116,111,112]⟩) (.func (.func 123) #[.pointer (some ⟨w.heap.size,0,none⟩)] #[])).run prog q=.ok () _:=Yo underlying207 underlying9 y x z _;refine ZK rfl (by rfl) ?_;unfold tmC;go_simp;exact JJC.next s f (by decide) v
  ·rw[f 11 (by decide)]at b;cases b
  ·clear g d u;refine ZK rfl (by rfl) ?_;unfold tmC;go_simp;refine(Bf _ w.heap.size 2 _ rfl).mono ?_;rintro e D ⟨rfl,rfl⟩;exact JJC.next s f (by decide) (J.s12 b)
  ·have n:=Option.some.inj (show some _=some o from g);subst n;have k:=d { on:=1,ground:=.data } (by simp) rfl;have G:=d { on:=12,ground:=.data } (by simp) rfl;clear g d u;obtain⟨m,C,c,rfl,y,x,z,v⟩:=J.s13 b k G;have E:(Instr.mapUpdate 207 (.map (some m)) (.string ⟨#[102,105,108,101,105,110,116,111]⟩) (u16)).run prog q=.ok () _:=Yo underlying207 underlying9 y x z _;refine ZK rfl (by rfl) ?_;unfold tmC;go_simp;exact JJC.next s f (by decide) v
  ·rw[f 14 (by decide)]at b;cases b
  ·clear g d u;refine ZK rfl (by rfl) ?_;unfold tmC;go_simp;refine(Bf _ w.heap.size 3 _ rfl).mono ?_;rintro e D ⟨rfl,rfl⟩;exact JJC.next s f (by decide) (J.s15 b)
  ·have n:=Option.some.inj (show some _=some o from g);subst n;have k:=d { on:=1,ground:=.data } (by simp) rfl;have G:=d { on:=15,ground:=.data } (by simp) rfl;clear g d u;obtain⟨m,C,c,rfl,y,x,z,v⟩:=J.s16 b k G;have E:(Instr.mapUpdate 207 (.map (some m)) (.string ⟨#[114,101,100,105,114,101,99,116]⟩) (u18)).run prog q=.ok () _:=Yo underlying207 underlying9 y x z _;refine ZK rfl (by rfl) ?_;unfold tmC;go_simp;exact JJC.next s f (by decide) v
  ·rw[f 17 (by decide)]at b;cases b
  ·clear g d u;refine ZK rfl (by rfl) ?_;unfold tmC;go_simp;refine(Bf _ w.heap.size 4 _ rfl).mono ?_;rintro e D ⟨rfl,rfl⟩;exact JJC.next s f (by decide) (J.s18 b)
  ·have n:=Option.some.inj (show some _=some o from g);subst n;have k:=d { on:=1,ground:=.data } (by simp) rfl;have G:=d { on:=18,ground:=.data } (by simp) rfl;clear g d u;obtain⟨m,C,c,rfl,y,x,z,v⟩:=J.s19 b k G;have E:(Instr.mapUpdate 207 (.map (some m)) (.string ⟨#[114,101,106,101,99,116]⟩) (u20)).run prog q=.ok () _:=Yo underlying207 underlying9 y x z _;refine ZK rfl (by rfl) ?_;unfold tmC;go_simp;exact JJC.next s f (by decide) v
  ·rw[f 20 (by decide)]at b;cases b
  ·rw[f 21 (by decide)]at b;cases b
  ·have n:=Option.some.inj (show some _=some o from g);subst n;have k:=d { on:=1,ground:=.data } (by simp) rfl;clear g d u;obtain⟨m,C,c,rfl,y,x,z,v⟩:=J.s22 b k;have E:(Instr.mapUpdate 207 (.map (some m)) (.string ⟨#[115,101,116]⟩) (.func (.func 125) #[.pointer (some ⟨w.heap.size,0,none⟩)] #[])).run prog q=.ok () _:=Yo underlying207 underlying9 y x z _;refine ZK rfl (by rfl) ?_;unfold tmC;go_simp;exact JJC.next s f (by decide) v
  ·rw[f 23 (by decide)]at b;cases b
  ·rw[f 24 (by decide)]at b;cases b
  ·have n:=Option.some.inj (show some _=some o from g);subst n;have k:=d { on:=1,ground:=.data } (by simp) rfl;clear g d u;obtain⟨m,C,c,rfl,y,x,z,v⟩:=J.s25 b k;have E:(Instr.mapUpdate 207 (.map (some m)) (.string ⟨#[105,102]⟩) (.func (.func 126) #[.pointer (some ⟨w.heap.size,0,none⟩)] #[])).run prog q=.ok () _:=Yo underlying207 underlying9 y x z _;refine ZK rfl (by rfl) ?_;unfold tmC;go_simp;exact JJC.next s f (by decide) v
  ·have n:=Option.some.inj (show some _=some o from g);subst n;have k:=d { on:=1,ground:=.data } (by simp) rfl;have aA:=d { on:=4,ground:=.data } (by simp) rfl;have aC:=d { on:=7,ground:=.data } (by simp) rfl;have P:=d { on:=10,ground:=.data } (by simp) rfl;have ao:=d { on:=13,ground:=.data } (by simp) rfl;have Q:=d { on:=16,ground:=.data } (by simp) rfl;have ar:=d { on:=19,ground:=.data } (by simp) rfl;have av:=d { on:=22,ground:=.data } (by simp) rfl;have ax:=d { on:=25,ground:=.data } (by simp) rfl;clear g d u;refine ZK rfl (by rfl) ?_;unfold tmC;go_simp;exact JJC.next s f (by decide) (J.s26 b k aA aC P ao Q ar av ax)
  ·clear g d u;refine ZK rfl (by rfl) ?_;unfold tmC;go_simp;exact JJC.next s f (by decide) (J.s27 b)
  ·have n:=Option.some.inj (show some _=some o from g);subst n;have k:=d { on:=27,ground:=.data } (by simp) rfl;obtain rfl:=J.m27 k;clear g d u;refine ZK rfl (by rfl) ?_;unfold tmC;go_simp;exact JJC.next s f (by decide) (J.s28 b)
  ·have n:=Option.some.inj (show some _=some o from g);subst n;have af:=d { on:=28,ground:=.data } (by simp) rfl;have U:=d { on:=26,ground:=.data } (by simp) rfl;obtain rfl:=J.m28 af;obtain⟨rfl,k,_⟩:=J.m26 U;obtain⟨m,C,c,rfl,_,_,_⟩:=J.mp k;clear g d u;have F:=J.rd;unfold YZ at F;have ah:=KV F;rw[show(l.getD 29 false)=false from b]at ah;have aj:=Qz F;refine ZK rfl (by rfl) ?_;unfold tmC;go_simp;exact JJC.next s f (by decide) (J.s29 b U)
end
section
open Go.RowKit
theorem OA(W:World)(v:Value)(a:TypeId):(Instr.typeAssert (.iface 125 v) a 125 true).run prog W=.ok (.tuple #[v,.bool true]) W:=by kernel_rfl
theorem OB(w:World):Calls prog 88 #[.nilIface] w fun e w'=>e=.returned (.pointer none)/\w'=w:=by
 go_enter func88,ntmps88;go_wp2;go_ret;exact⟨rfl,rfl⟩
theorem OC(a:Addr)(w:World):Calls prog 88 #[.iface 125 (.pointer (some a))] w fun e w'=>e=.returned (.pointer (some a))/\w'=w:=by
 go_enter func88,ntmps88;have b:=OA w (.pointer (some a));go_wp2;go_ret;exact⟨rfl,rfl⟩
theorem OD(p q:Addr)(w:World) :
 CallsD prog 87 #[.pointer (some p),.pointer (some q)] .returning w fun e u' w'=>e=.returned (.tuple #[])/\u'=.returning/\w'=w:=by
 refine callsD_of_wpS func87 rfl fun a c b=>?_
 apply wpS_seq;apply wpS_region;simp[wpOpsS,go_sem,recoverD,b,ntmps87,Exit.thenS];refine(OB w).mono ?_;rintro e w' ⟨rfl,rfl⟩;apply wpS_seq;apply wpS_region;simp[wpOpsS,go_sem,Exit.thenS];refine wpS_cond (t:=false) (by simp[Act.eval,Array.replicate]) ?_;simp only[Bool.false_eq_true,if_false];refine wpS_of_wp (wp_skip ?_);cases a;simp_all [bodyPostS,results,results87]
theorem OE(P Q:Nat)(l m n:Value)(a:Addr)(b:List PanicEntry)(w:World)(c:w.cell? ⟨P,0,none⟩=some l)(d:w.cell? ⟨P,1,none⟩=some m)(f:w.cell? ⟨Q,0,none⟩=some n)(i:∀ j,w.frozen? ⟨P,j,none⟩=false)(k:∀ j,w.frozen? ⟨Q,j,none⟩=false)(q:P≠Q) :
 CallsD prog 87 #[.pointer (some ⟨P,0,none⟩),.pointer (some ⟨Q,0,none⟩)] (.panicking ({ v:=.iface 125 (.pointer (some a)),recovered:=false }::b)) w fun e u' w'=>
  e=.returned (.tuple #[])/\u'=.panicking ({ v:=.iface 125 (.pointer (some a)),recovered:=true }::b)/\w'=((w.setCell ⟨P,0,none⟩ (.slice none 0 0)).setCell ⟨P,1,none⟩ (.slice none 0 0)).setCell ⟨Q,0,none⟩ (.iface 125 (.pointer (some a))):=by
 refine callsD_of_wpS func87 rfl fun p o g=>?_
 apply wpS_seq;apply wpS_region;simp[wpOpsS,go_sem,recoverD,g,ntmps87,Exit.thenS];refine(OC a w).mono ?_;rintro e w' ⟨rfl,rfl⟩;apply wpS_seq;apply wpS_region;simp[wpOpsS,go_sem,Exit.thenS];refine wpS_cond (t:=true) (by simp[Act.eval,Array.replicate]) ?_;simp only[if_true];apply wpS_region;simp[wpOpsS,go_sem,c,d,f,i,k,bodyPostS,results,results87]
end
section
open Go.RowKit
attribute [local go_sem ↓] Go.wp_at_zero Go.wp_at_succ
def Bg(r:Qb (Qa×List (QF 7)))(w:World)(e:Ending)(w':World):Prop:=
 Below w.heap.size w w'/\((∃ y tv,r=.ok y/\e=.returned (.tuple #[tv,.nilIface])/\DA (fromB w.heap.size) y w' tv)\/(∃ f bb,r=.error f/\e=.returned (.tuple #[.agg #[.slice none 0 0,.slice none 0 0],.iface 125 (.pointer (some ⟨bb,0,none⟩))])/\w.heap.size<=bb/\w'.heap[bb]?=some (.cells #[.int .i64 f.err,.int .i64 f.pos] 130)))
theorem OF(t:ByteArray)(w:World)(ht:t.size<=600)(N:∃ m,w.cell? ⟨1,0,none⟩=some (.int .i64 m)) :
 Calls prog 59 #[.string t] w (Bg (prL t.data.toList) w):=by
 have ag:∀(fn:Fn) (first cap:Array Value) (w:World),(Instr.makeFunc fn first cap).run prog w=.ok (.func fn first cap) w:=fun _ _ _ _=>rfl
 have ah:¬(600:Int)<(t.size:Int):=by omega
 go_enter_defers func59,ntmps59;go_wp2_with fail;obtain⟨V,j⟩:=QE ((w.alloc (.cells #[.slice none 0 0,.slice none 0 0] 91)).alloc (.cells #[.nilIface] 84));have ae:V.heap.size=w.heap.size+1+1:=by rw[j];simp
 have K:V.heap[w.heap.size]?=some (.cells #[.slice none 0 0,.slice none 0 0] 91):=by rw[j];exact Qy (QA _ _)
 have L:V.heap[w.heap.size+1]?=some (.cells #[.nilIface] 84):=by rw[j];exact Zv (by simp)
 have z:Below w.heap.size w V:=by rw[j];exact(Qs _).alloc (by simp) _
 have J:∃ m,V.cell? ⟨1,0,none⟩=some (.int .i64 m):=by
  obtain⟨m,M⟩:=N;exact⟨m,by rw[z.cell (p:=⟨1,0,none⟩) (QI M)];exact M⟩
 rw[<-j];clear j;refine(Oz t V ht J).mono ?_;rintro e q ⟨mc,mt,pr,pt,pf,p1,k1,p2,k2,p3,k3,rfl,B,D,A,d⟩;rw[ae]at B D A d;have c:=I z;have ab:=I B;have ad:=I D;have aa:=I A;have G:q.heap[w.heap.size]?=some (.cells #[.slice none 0 0,.slice none 0 0] 91):=by rw[d.block _ (by omega)];exact K
 have H:q.heap[w.heap.size+1]?=some (.cells #[.nilIface] 84):=by rw[d.block _ (by omega)];exact L
 have b:=I d;have E:=I G;have F:=I H;have ai:=d.size;clear z K L J N B D A d G H;go_wp2_with fail;refine(OG (w.heap.size+1+1) t mc mt pr pt pf p1 k1 p2 k2 p3 k3 q ab.o ad.o aa.o).mono ?_;rintro e w2 ⟨a,⟨y,v,Q,rfl,hv⟩ | ⟨f,hf,⟨bb,hz,rfl,hcc⟩⟩⟩
 ·obtain⟨rv,lv,rfl,C,d⟩:=hv;have ac:=I C;have Z:=I d;obtain⟨T,W,U,rfl⟩:=C.form;obtain⟨la,S,R,rfl⟩:=d.form;have g:=Qu E.o a (by omega);have i:=Qu F.o a (by omega);have r:=Qj g;have s:=Qo g;have u:=Qj i;have X:=Qz g;have Y:=Qz i;have l:=I a;have HY:=I Q;clear a Q C d g i;go_wp2;have hB2:Below w.heap.size w w2:=⟨l.o.os.trans (b.o.os.trans c.o.os),l.o.tape.trans (b.o.tape.trans c.o.tape),l.o.output.trans (b.o.output.trans c.o.output),Qm c.o.size (Qm b.o.size l.o.size),fun k n=>by rw[l.o.block k (by omega) (by omega),b.o.block k (by omega),c.o.block k n]⟩;have x:¬ fromB q.heap.size w.heap.size:=by unfold fromB;omega
  have P:¬ fromB q.heap.size (w.heap.size+1):=by unfold fromB;omega
  have HFIN:Hid (Bg (prL t.data.toList) w (.returned (.tuple #[.agg #[.slice T W U,.slice la S R],.nilIface])) (((w2.setCell ⟨w.heap.size,0,none⟩ (.slice T W U)).setCell ⟨w.heap.size,1,none⟩ (.slice la S R)).setCell ⟨w.heap.size+1,0,none⟩ .nilIface)):=⟨((hB2.setCell Qt _).setCell Qt _).setCell (by show w.heap.size<=w.heap.size+1;omega) _,Qd ⟨y,_,HY.o,rfl,⟨_,_,rfl,(((ac.o.keep (AbvX.set x _ _)).keep (AbvX.set x _ _)).keep (AbvX.set P _ _)).weak (fun k n _=>by unfold fromB at *;omega),blX.weak (Xf 7) (((Z.o.keep (Xf 7) (AbvX.set x _ _)).keep (Xf 7) (AbvX.set x _ _)).keep (Xf 7) (AbvX.set P _ _)) (fun k n _=>by unfold fromB at *;omega)⟩⟩⟩;refine leaves_cons (f:=87) (args:=#[.pointer (some ⟨w.heap.size,0,none⟩),.pointer (some ⟨w.heap.size+1,0,none⟩)]) (by simp) (by simp[go_sem]) ?_;refine(OD ⟨w.heap.size,0,none⟩ ⟨w.heap.size+1,0,none⟩ _).mono ?_;rintro e u' af ⟨rfl,rfl,rfl⟩;simp[Leaves,settle,results,results59,go_sem,r,s,u];exact HFIN.o
 ·have g:=Qu E.o a (by omega);have i:=Qu F.o a (by omega);have r:=Qj g;have s:=Qo g;have u:=Qj i;have X:=Qz g;have Y:=Qz i;have hB2:Below w.heap.size w w2:=⟨a.os.trans (b.o.os.trans c.o.os),a.tape.trans (b.o.tape.trans c.o.tape),a.output.trans (b.o.output.trans c.o.output),Qm c.o.size (Qm b.o.size a.size),fun k n=>by rw[a.block k (by omega) (by omega),b.o.block k (by omega),c.o.block k n]⟩
  have HFIN:Hid (Bg (prL t.data.toList) w (.returned (.tuple #[.agg #[.slice none 0 0,.slice none 0 0],.iface 125 (.pointer (some ⟨bb,0,none⟩))])) (((w2.setCell ⟨w.heap.size,0,none⟩ (.slice none 0 0)).setCell ⟨w.heap.size,1,none⟩ (.slice none 0 0)).setCell ⟨w.heap.size+1,0,none⟩ (.iface 125 (.pointer (some ⟨bb,0,none⟩))))):=⟨((hB2.setCell Qt _).setCell Qt _).setCell (by show w.heap.size<=w.heap.size+1;omega) _,Qc ⟨f,bb,hf,rfl,by omega,by
   rw[Below.heap_setCell _ _ _ _ (show bb≠w.heap.size+1 by omega),Below.heap_setCell _ _ _ _ (show bb≠w.heap.size by omega),Below.heap_setCell _ _ _ _ (show bb≠w.heap.size by omega)]
   exact hcc⟩⟩
  refine leaves_cons (f:=87) (args:=#[.pointer (some ⟨w.heap.size,0,none⟩),.pointer (some ⟨w.heap.size+1,0,none⟩)]) (by simp) (by simp[go_sem]) ?_;refine(OE w.heap.size (w.heap.size+1) _ _ _ ⟨bb,0,none⟩ [] _ r s u X Y (by omega)).mono ?_;rintro e u' af ⟨rfl,rfl,rfl⟩;simp[Leaves,settle,results,results59,go_sem,r,s,u];exact HFIN.o
theorem OH(t:ByteArray)(w:World)(d:600<t.size) :
 Calls prog 59 #[.string t] w fun e w'=>e=.returned (.tuple #[.agg #[.slice none 0 0,.slice none 0 0],.iface 33 (.int .i64 1)])/\Below w.heap.size w w':=by
 have c:∀(fn:Fn) (first cap:Array Value) (w:World),(Instr.makeFunc fn first cap).run prog w=.ok (.func fn first cap) w:=fun _ _ _ _=>rfl
 have f:(600:Int)<(t.size:Int):=by omega
 go_enter_defers func59,ntmps59;go_wp2;have a:Below w.heap.size w ((w.alloc (.cells #[.slice none 0 0,.slice none 0 0] 91)).alloc (.cells #[.iface 33 (.int .i64 1)] 84)):=(Qs _).alloc (by simp) _;have b:=I a;clear a;simp[bodyPostD,Leaves,settle,results,results59,go_sem];exact b.o
def OI(r:Qb (Qa×List (QF 7)))(w:World)(e:Ending)(w':World):Prop:=
 Below w.heap.size w w'/\((∃ y g rv lv,r=.ok y/\e=.returned (.tuple #[.pointer (some ⟨g,0,none⟩),.nilIface])/\w.heap.size<=g/\w'.heap[g]?=some (.cells #[rv,lv] 124)/\Y0 (fromB w.heap.size) y.1 w' rv/\blX (fromB w.heap.size) (XS 7) y.2 w' lv)\/(∃ f bb,r=.error f/\e=.returned (.tuple #[.pointer none,.iface 125 (.pointer (some ⟨bb,0,none⟩))])/\w.heap.size<=bb/\w'.heap[bb]?=some (.cells #[.int .i64 f.err,.int .i64 f.pos] 130)))
theorem OJ(t:ByteArray)(w:World)(H:t.size<=600)(G:∃ m,w.cell? ⟨1,0,none⟩=some (.int .i64 m)) :
 Calls prog 36 #[.string t] w (OI (prL t.data.toList) w):=by
 go_enter func36,ntmps36;go_wp2_with fail;refine(OF t w H G).mono ?_;rintro e i ⟨a,⟨y,N,q,rfl,J⟩ | ⟨f,j,p,rfl,g,n⟩⟩
 ·obtain⟨M,L,rfl,d,c⟩:=J;have b:=I a;have E:=I q;have D:=I d;have A:=I c;obtain⟨u,z,x,rfl⟩:=d.form;obtain⟨la,s,r,rfl⟩:=c.form;have g:=a.size;clear a q d c;go_wp2;refine bodyPost_ret (v:=.tuple #[.pointer (some ⟨i.heap.size+1,0,none⟩),.nilIface]) (by simp[results,results36,go_sem]) rfl ?_
  have l:∀ X,AbvX X i ((i.alloc (.cells #[.slice u z x,.slice la s r] 91)).alloc (.cells #[.slice u z x,.slice la s r] 124)):=fun X k _ F=>by
   rw[Below.heap_alloc _ _ _ (by simp;omega),Below.heap_alloc _ _ _ F]
  exact⟨(b.o.alloc g _).alloc (by simp;omega) _,Qd ⟨y,_,_,_,E.o,rfl,by omega,Zv (by simp),D.o.keep (l _),A.o.keep (Xf 7) (l _)⟩⟩
 ·have b:=I a;have C:=I p;have B:=I n;have K:=a.size;clear a p n;go_wp2;refine bodyPost_ret (v:=.tuple #[.pointer none,.iface 125 (.pointer (some ⟨j,0,none⟩))]) (by simp[results,results36,go_sem]) rfl ?_;exact⟨b.o.alloc K _,Qc ⟨f,j,C.o,rfl,g,Qy B.o⟩⟩
end
section
open Go.RowKit Go.Extern.Stop Go.Stop Go.Extern
theorem Tryz.valueOfFF(t:Addr)(w:World):(ReflectliteValue.unpack (.iface 127 (.pointer (some t)))).run prog w
 = .ok (.agg #[.pointer (some ⟨5,127,none⟩),.pointer (some ⟨w.heap.size,0,none⟩),.int .u64 150]) (w.alloc (.cells #[.pointer (some t)] 127)):=by kernel_rfl
theorem Tryz.valueOfNN(t:Addr)(w:World):(ReflectliteValue.unpack (.iface 131 (.pointer (some t)))).run prog w
 = .ok (.agg #[.pointer (some ⟨5,131,none⟩),.pointer (some ⟨w.heap.size,0,none⟩),.int .u64 150]) (w.alloc (.cells #[.pointer (some t)] 131)):=by kernel_rfl
theorem Tryz.typeFF(a:Addr)(w:World):(ReflectliteValue.methodAny (ReflectliteValue.valueError "reflectlite.Value.Type" 0) (fun t _ _ _=>ReflectliteType.toType t) #[.agg #[.pointer (some ⟨5,127,none⟩),.pointer (some a),.int .u64 150]]).run prog w
 = .ok (.iface 238 (.agg #[.pointer (some ⟨5,127,none⟩)])) w:=by kernel_rfl
theorem Tryz.typeNN(a:Addr)(w:World):(ReflectliteValue.methodAny (ReflectliteValue.valueError "reflectlite.Value.Type" 0) (fun t _ _ _=>ReflectliteType.toType t) #[.agg #[.pointer (some ⟨5,131,none⟩),.pointer (some a),.int .u64 150]]).run prog w
 = .ok (.iface 238 (.agg #[.pointer (some ⟨5,131,none⟩)])) w:=by kernel_rfl
theorem Tryz.methodKind(h:Value)(w:World):(Go.method 518 238 (.agg #[h]) "Kind").run prog w=.ok (317,h) w:=by kernel_rfl
theorem Tryz.kindFF(w:World):((ReflectliteType.abiMethod fun t=>Functor.map (fun a:Nat=>Value.int IntKind.u8 (a:Int)) (Rtype.kind t)) #[.pointer (some ⟨5,127,none⟩)]).run prog w=.ok (.int .u8 22) w:=by kernel_rfl
theorem Tryz.kindF(w:World):((ReflectliteType.abiMethod fun t=>Functor.map (fun a:Nat=>Value.int IntKind.u8 (a:Int)) (Rtype.kind t)) #[.pointer (some ⟨5,125,none⟩)]).run prog w=.ok (.int .u8 22) w:=by kernel_rfl
theorem Tryz.kindNN(w:World):((ReflectliteType.abiMethod fun t=>Functor.map (fun a:Nat=>Value.int IntKind.u8 (a:Int)) (Rtype.kind t)) #[.pointer (some ⟨5,131,none⟩)]).run prog w=.ok (.int .u8 22) w:=by kernel_rfl
theorem Tryz.kindN(w:World):((ReflectliteType.abiMethod fun t=>Functor.map (fun a:Nat=>Value.int IntKind.u8 (a:Int)) (Rtype.kind t)) #[.pointer (some ⟨5,33,none⟩)]).run prog w=.ok (.int .u8 2) w:=by kernel_rfl
theorem rlm(z:Sem Value)(f:TypeId->Addr->Nat->Nat->Sem Value)(v:Value) :
 ReflectliteValue.method z f #[v]=(do match <-ReflectliteValue.parts v with|none=>z|some (t,a,fl)=>f t a fl (fl % 32)):=rfl
theorem Tryz.partsFF(a:Addr)(w:World):(ReflectliteValue.parts (.agg #[.pointer (some ⟨5,127,none⟩),.pointer (some a),.int .u64 150])).run prog w=.ok (some (127,a,150)) w:=by kernel_rfl
theorem Tryz.partsNN(a:Addr)(w:World):(ReflectliteValue.parts (.agg #[.pointer (some ⟨5,131,none⟩),.pointer (some a),.int .u64 150])).run prog w=.ok (some (131,a,150)) w:=by kernel_rfl
theorem Tryz.isNilFF(a p:Addr)(W:World)(b:W.cell? a=some (.pointer (some p))) :
 (ReflectliteValue.method (ReflectliteValue.valueError "reflectlite.Value.IsNil" 0) ReflectliteValue.isNil #[.agg #[.pointer (some ⟨5,127,none⟩),.pointer (some a),.int .u64 150]]).run prog W=.ok (.bool false) W:=by
 rw[rlm];simp only[Sem.run_bind,Tryz.partsFF,Result.andThen];simp[ReflectliteValue.isNil,loadVar,isAgg,underlying,underlying127,b,Result.andThen]
theorem Tryz.isNilNN(a p:Addr)(W:World)(b:W.cell? a=some (.pointer (some p))) :
 (ReflectliteValue.method (ReflectliteValue.valueError "reflectlite.Value.IsNil" 0) ReflectliteValue.isNil #[.agg #[.pointer (some ⟨5,131,none⟩),.pointer (some a),.int .u64 150]]).run prog W=.ok (.bool false) W:=by
 rw[rlm];simp only[Sem.run_bind,Tryz.partsNN,Result.andThen];simp[ReflectliteValue.isNil,loadVar,isAgg,underlying,underlying131,b,Result.andThen]
theorem Tryz.methodElem(h:Value)(w:World):(Go.method 518 238 (.agg #[h]) "Elem").run prog w=.ok (332,.agg #[h]) w:=by kernel_rfl
theorem Tryz.methodImplements(h:Value)(w:World):(Go.method 518 238 (.agg #[h]) "Implements").run prog w=.ok (333,.agg #[h]) w:=by kernel_rfl
theorem Tryz.methodAssignableTo(h:Value)(w:World):(Go.method 518 238 (.agg #[h]) "AssignableTo").run prog w=.ok (330,.agg #[h]) w:=by kernel_rfl
theorem Tryz.methodComparable(h:Value)(w:World):(Go.method 518 238 (.agg #[h]) "Comparable").run prog w=.ok (331,.agg #[h]) w:=by kernel_rfl
theorem Tryz.elemFF(w:World):(ReflectliteType.method ReflectliteType.elem #[.agg #[.pointer (some ⟨5,127,none⟩)]]).run prog w=.ok (.iface 238 (.agg #[.pointer (some ⟨5,125,none⟩)])) w:=by kernel_rfl
theorem Tryz.elemNN(w:World):(ReflectliteType.method ReflectliteType.elem #[.agg #[.pointer (some ⟨5,131,none⟩)]]).run prog w=.ok (.iface 238 (.agg #[.pointer (some ⟨5,33,none⟩)])) w:=by kernel_rfl
theorem Tryz.implementsF(w:World):(ReflectliteType.relation "Implements" ReflectliteType.implements_ #[.agg #[.pointer (some ⟨5,125,none⟩)],.iface 238 (.agg #[.pointer (some ⟨5,84,none⟩)])]).run prog w=.ok (.bool true) w:=by kernel_rfl
theorem Tryz.implementsN(w:World):(ReflectliteType.relation "Implements" ReflectliteType.implements_ #[.agg #[.pointer (some ⟨5,33,none⟩)],.iface 238 (.agg #[.pointer (some ⟨5,84,none⟩)])]).run prog w=.ok (.bool true) w:=by kernel_rfl
theorem Tryz.typeOfF(v:Value)(w:World):(ReflectliteType.typeOf #[.iface 125 v]).run prog w=.ok (.iface 238 (.agg #[.pointer (some ⟨5,125,none⟩)])) w:=by kernel_rfl
theorem Tryz.typeOfN(v:Value)(w:World):(ReflectliteType.typeOf #[.iface 33 v]).run prog w=.ok (.iface 238 (.agg #[.pointer (some ⟨5,33,none⟩)])) w:=by kernel_rfl
theorem Tryz.assignFF(w:World):(ReflectliteType.relation "AssignableTo" ReflectliteType.assignableTo #[.agg #[.pointer (some ⟨5,125,none⟩)],.iface 238 (.agg #[.pointer (some ⟨5,125,none⟩)])]).run prog w=.ok (.bool true) w:=by kernel_rfl
theorem Tryz.assignNN(w:World):(ReflectliteType.relation "AssignableTo" ReflectliteType.assignableTo #[.agg #[.pointer (some ⟨5,33,none⟩)],.iface 238 (.agg #[.pointer (some ⟨5,33,none⟩)])]).run prog w=.ok (.bool true) w:=by kernel_rfl
theorem Tryz.assignNF(w:World):(ReflectliteType.relation "AssignableTo" ReflectliteType.assignableTo #[.agg #[.pointer (some ⟨5,33,none⟩)],.iface 238 (.agg #[.pointer (some ⟨5,125,none⟩)])]).run prog w=.ok (.bool false) w:=by kernel_rfl
theorem Tryz.valueOfF(e:Addr)(w:World):(ReflectliteValue.unpack (.iface 125 (.pointer (some e)))).run prog w
 = .ok (.agg #[.pointer (some ⟨5,125,none⟩),.pointer (some ⟨w.heap.size,0,none⟩),.int .u64 150]) (w.alloc (.cells #[.pointer (some e)] 125)):=by kernel_rfl
theorem Tryz.valueOfN(n:Int)(w:World):(ReflectliteValue.unpack (.iface 33 (.int .i64 n))).run prog w
 = .ok (.agg #[.pointer (some ⟨5,33,none⟩),.pointer (some ⟨w.heap.size,0,none⟩),.int .u64 130]) (w.alloc (.cells #[.int .i64 n] 33)):=by kernel_rfl
theorem Tryz.elemOfFF(w:World):(Rtype.elem? 127).run prog w=.ok (some 125) w:=by kernel_rfl
theorem Tryz.elemOfNN(w:World):(Rtype.elem? 131).run prog w=.ok (some 33) w:=by kernel_rfl
theorem Tryz.mkF(p:Addr)(w:World):(ReflectliteValue.mk 125 p ReflectliteValue.flagAddr).run prog w=.ok (.agg #[.pointer (some ⟨5,125,none⟩),.pointer (some p),.int .u64 406]) w:=by kernel_rfl
theorem Tryz.mkN(p:Addr)(w:World):(ReflectliteValue.mk 33 p ReflectliteValue.flagAddr).run prog w=.ok (.agg #[.pointer (some ⟨5,33,none⟩),.pointer (some p),.int .u64 386]) w:=by kernel_rfl
theorem Tryz.elemVFF(a p:Addr)(W:World)(b:W.cell? a=some (.pointer (some p))) :
 (ReflectliteValue.method (ReflectliteValue.valueError "reflectlite.Value.Elem" 0) ReflectliteValue.elem #[.agg #[.pointer (some ⟨5,127,none⟩),.pointer (some a),.int .u64 150]]).run prog W
   = .ok (.agg #[.pointer (some ⟨5,125,none⟩),.pointer (some p),.int .u64 406]) W:=by
 rw[rlm];simp only[Sem.run_bind,Tryz.partsFF,Result.andThen];simp[ReflectliteValue.elem,loadVar,isAgg,underlying,underlying127,b,Result.andThen,Tryz.elemOfFF,Tryz.mkF]
theorem Tryz.elemVNN(a p:Addr)(W:World)(b:W.cell? a=some (.pointer (some p))) :
 (ReflectliteValue.method (ReflectliteValue.valueError "reflectlite.Value.Elem" 0) ReflectliteValue.elem #[.agg #[.pointer (some ⟨5,131,none⟩),.pointer (some a),.int .u64 150]]).run prog W
   = .ok (.agg #[.pointer (some ⟨5,33,none⟩),.pointer (some p),.int .u64 386]) W:=by
 rw[rlm];simp only[Sem.run_bind,Tryz.partsNN,Result.andThen];simp[ReflectliteValue.elem,loadVar,isAgg,underlying,underlying131,b,Result.andThen,Tryz.elemOfNN,Tryz.mkN]
theorem rls (v x:Value):ReflectliteValue.set #[v,x]=(do
 let (some (dst,a,fl),some (src,b,_)):=(<-ReflectliteValue.parts v,<-ReflectliteValue.parts x)
  |unsupported (.noEntry "extern/(internal/reflectlite.Value).Set.zeroValue")
 if fl / ReflectliteValue.flagAddr % 2==0 then unsupported (.noEntry "extern/(internal/reflectlite.Value).Set.unaddressable")
 let val <-loadVar src b
 if <-Rtype.directlyAssignable dst src then storeVar dst a val
 else if <-Rtype.implements dst src then
  if(<-Rtype.kind src)==20 then
   match val with
   | .nilIface=>unsupported (.noEntry "extern/reflectlite: a nil value of one interface type handed on as a value of another")
   |_=>storeVar dst a val
  else storeVar dst a (.iface src val)
 else panicString ("reflectlite.Set: value of type "++(<-Rtype.spelt src) ++ " is not assignable to type "++(<-Rtype.spelt dst))
 pure (.tuple #[])):=rfl
theorem Tryz.partsFa(a:Addr)(w:World):(ReflectliteValue.parts (.agg #[.pointer (some ⟨5,125,none⟩),.pointer (some a),.int .u64 406])).run prog w=.ok (some (125,a,406)) w:=by kernel_rfl
theorem Tryz.partsF(a:Addr)(w:World):(ReflectliteValue.parts (.agg #[.pointer (some ⟨5,125,none⟩),.pointer (some a),.int .u64 150])).run prog w=.ok (some (125,a,150)) w:=by kernel_rfl
theorem Tryz.partsNa(a:Addr)(w:World):(ReflectliteValue.parts (.agg #[.pointer (some ⟨5,33,none⟩),.pointer (some a),.int .u64 386])).run prog w=.ok (some (33,a,386)) w:=by kernel_rfl
theorem Tryz.partsN(a:Addr)(w:World):(ReflectliteValue.parts (.agg #[.pointer (some ⟨5,33,none⟩),.pointer (some a),.int .u64 130])).run prog w=.ok (some (33,a,130)) w:=by kernel_rfl
theorem Tryz.directF(w:World):(Rtype.directlyAssignable 125 125).run prog w=.ok true w:=by kernel_rfl
theorem Tryz.directN(w:World):(Rtype.directlyAssignable 33 33).run prog w=.ok true w:=by kernel_rfl
theorem Tryz.setF(a b e:Addr)(g:Value)(W:World)(c:W.cell? b=some (.pointer (some e)))(f:W.cell? a=some g)(d:W.frozen? a=false) :
 (ReflectliteValue.set #[.agg #[.pointer (some ⟨5,125,none⟩),.pointer (some a),.int .u64 406],.agg #[.pointer (some ⟨5,125,none⟩),.pointer (some b),.int .u64 150]]).run prog W
   = .ok (.tuple #[]) (W.setCell a (.pointer (some e))):=by
 rw[rls];simp only[Sem.run_bind,Tryz.partsFa,Tryz.partsF,Result.andThen];simp[ReflectliteValue.flagAddr,loadVar,isAgg,underlying,underlying125,c,Result.andThen,Tryz.directF,storeVar,Value.cells,storeCells,Addr.add];rw[run_store prog W a _ _ (by rfl)];simp[f,d]
theorem Tryz.setN(a b:Addr)(n:Int)(f:Value)(W:World)(c:W.cell? b=some (.int .i64 n))(e:W.cell? a=some f)(d:W.frozen? a=false) :
 (ReflectliteValue.set #[.agg #[.pointer (some ⟨5,33,none⟩),.pointer (some a),.int .u64 386],.agg #[.pointer (some ⟨5,33,none⟩),.pointer (some b),.int .u64 130]]).run prog W
   = .ok (.tuple #[]) (W.setCell a (.int .i64 n)):=by
 rw[rls];simp only[Sem.run_bind,Tryz.partsNa,Tryz.partsN,Result.andThen];simp[ReflectliteValue.flagAddr,loadVar,isAgg,underlying,underlying33,c,Result.andThen,Tryz.directN,storeVar,Value.cells,storeCells,Addr.add];rw[run_store prog W a _ _ (by rfl)];simp[e,d]
theorem Tryz.noAsN(v:Value)(xT:TypeId)(w:World):(Instr.typeAssert (.iface 33 v) xT 242 true).run prog w=.ok (.tuple #[.nilIface,.bool false]) w:=run_typeAssert_lacksB underlying242 (by kernel_rfl) (by kernel_rfl) v xT w
theorem Tryz.noUnwrapN(v:Value)(xT:TypeId)(w:World):(Instr.typeAssert (.iface 33 v) xT 245 true).run prog w=.ok (.tuple #[.nilIface,.bool false]) w:=run_typeAssert_lacksB underlying245 (by kernel_rfl) (by kernel_rfl) v xT w
theorem Tryz.noUnwrapsN(v:Value)(xT:TypeId)(w:World):(Instr.typeAssert (.iface 33 v) xT 247 true).run prog w=.ok (.tuple #[.nilIface,.bool false]) w:=run_typeAssert_lacksB underlying247 (by kernel_rfl) (by kernel_rfl) v xT w
theorem Tryz.noIsF(v:Value)(xT:TypeId)(w:World):(Instr.typeAssert (.iface 125 v) xT 250 true).run prog w=.ok (.tuple #[.nilIface,.bool false]) w:=run_typeAssert_lacksB underlying250 (by kernel_rfl) (by kernel_rfl) v xT w
theorem Tryz.hasUnwrapF(v:Value)(xT:TypeId)(w:World):(Instr.typeAssert (.iface 125 v) xT 245 true).run prog w=.ok (.tuple #[.iface 125 v,.bool true]) w:=run_typeAssert_hasB underlying245 (by kernel_rfl) v xT w
theorem Tryz.methodUnwrap(v:Value)(w:World):(Go.method 518 125 v "Unwrap").run prog w=.ok (322,v) w:=by kernel_rfl
theorem Tryz.compN:(prog.info? 33).map (·.comparable)=some true:=by kernel_rfl
theorem DB(n:Int)(w:World):(binOp .eql 84 (.iface 33 (.int .i64 n)) (.iface 33 (.int .i64 n))).run prog w=.ok (.bool true) w:=by
 obtain⟨i,b,a⟩:=Option.map_eq_some_iff.1 Tryz.compN
 have h:∀ d:Nat,(Op.equalIn (d+2) 84 (.iface 33 (.int .i64 n)) (.iface 33 (.int .i64 n))).run prog w=.ok true w:=fun d=>by
  simp[Op.equalIn,run_underlying underlying84,run_underlying underlying33,typeInfo,b,a]
 simp only[binOp];simp[Op.equal,Op.maxDepth,h 9998]
def XJ(w:World):Prop:=w.cell? ⟨0,0,none⟩=some (.iface 238 (.agg #[.pointer (some ⟨5,84,none⟩)]))
theorem Uv{a:Addr}{v:Value}(h:w.cell? a=some v):a.block<w.heap.size:=by
 rcases Nat.lt_or_ge a.block w.heap.size with h'|h'
 ·exact h'
 ·simp[World.cell?,Array.getElem?_eq_none h']at h
theorem OK(e t:Addr)(d:Value)(w:World)(a:XJ w)(b:w.cell? t=some d)(g:w.frozen? t=false) :
 Calls prog 60 #[.iface 125 (.pointer (some e)),.iface 127 (.pointer (some t))] w fun ev w'=>ev=.returned (.bool true)/\w'=((((w.alloc (.cells #[.pointer (some t)] 127)).alloc (.cells #[.pointer (some ⟨5,127,none⟩),.pointer (some ⟨w.heap.size,0,none⟩),.int .u64 150] 166)).alloc (.cells #[.pointer (some ⟨5,127,none⟩),.pointer (some ⟨w.heap.size,0,none⟩),.int .u64 150] 166)).alloc (.cells #[.pointer (some e)] 125)).setCell t (.pointer (some e)):=by
 unfold XJ at a;have x:=@run_callFunc_extern prog 91 _ (fun f=>ReflectliteValue.unpack (f.getD 0 (.tuple #[]))) func91 (by kernel_rfl) (by kernel_rfl) (by kernel_rfl) (by kernel_rfl);have y:=@run_callFunc_extern prog 92 _ (ReflectliteValue.methodAny (ReflectliteValue.valueError "reflectlite.Value.Type" 0) (fun t _ _ _=>ReflectliteType.toType t)) func92 (by kernel_rfl) (by kernel_rfl) (by kernel_rfl) (by kernel_rfl);have z:=@run_callFunc_extern prog 93 _ (ReflectliteValue.method (ReflectliteValue.valueError "reflectlite.Value.IsNil" 0) ReflectliteValue.isNil) func93 (by kernel_rfl) (by kernel_rfl) (by kernel_rfl) (by kernel_rfl);have r:=@run_callFunc_extern prog 317 _ (ReflectliteType.abiMethod fun t=>do pure (.int .u8 (<-Rtype.kind t))) func317 (by kernel_rfl) (by kernel_rfl) (by kernel_rfl) (by kernel_rfl);have u:=@run_callFunc_extern prog 332 _ (ReflectliteType.method ReflectliteType.elem) func332 (by kernel_rfl) (by kernel_rfl) (by kernel_rfl) (by kernel_rfl);have v:=@run_callFunc_extern prog 333 _ (ReflectliteType.relation "Implements" ReflectliteType.implements_) func333 (by kernel_rfl) (by kernel_rfl) (by kernel_rfl) (by kernel_rfl);have o:=@run_callFunc_extern prog 95 _ ReflectliteType.typeOf func95 (by kernel_rfl) (by kernel_rfl) (by kernel_rfl) (by kernel_rfl);have s:=@run_callFunc_extern prog 330 _ (ReflectliteType.relation "AssignableTo" ReflectliteType.assignableTo) func330 (by kernel_rfl) (by kernel_rfl) (by kernel_rfl) (by kernel_rfl);have p:=@run_callFunc_extern prog 144 _ (ReflectliteValue.method (ReflectliteValue.valueError "reflectlite.Value.Elem" 0) ReflectliteValue.elem) func144 (by kernel_rfl) (by kernel_rfl) (by kernel_rfl) (by kernel_rfl);have q:=@run_callFunc_extern prog 145 _ ReflectliteValue.set func145 (by kernel_rfl) (by kernel_rfl) (by kernel_rfl) (by kernel_rfl);have L:=Tryz.typeOfF;have E:=Tryz.methodAssignableTo;have j:=Tryz.assignFF;have M:=Tryz.valueOfF;have m:=Tryz.valueOfFF;have n:=Tryz.typeFF;have H:=Tryz.methodKind;have F:=Tryz.methodElem;have G:=Tryz.methodImplements;have D:=Tryz.kindFF;have C:=Tryz.kindF;have k:=Tryz.elemFF;have B:=Tryz.implementsF;have J:=Tryz.isNilFF ⟨w.heap.size,0,none⟩ t ((w.alloc (.cells #[.pointer (some t)] 127)).alloc (.cells #[.pointer (some ⟨5,127,none⟩),.pointer (some ⟨w.heap.size,0,none⟩),.int .u64 150] 166)) (by simp);have i:0<w.heap.size:=Uv a
 have A:((w.alloc (.cells #[.pointer (some t)] 127)).alloc (.cells #[.pointer (some ⟨5,127,none⟩),.pointer (some ⟨w.heap.size,0,none⟩),.int .u64 150] 166)).cell? ⟨0,0,none⟩=some (.iface 238 (.agg #[.pointer (some ⟨5,84,none⟩)])):=by
  rw[World.cell?_alloc_lt _ _ ⟨0,0,none⟩ (by simp),World.cell?_alloc_lt _ _ ⟨0,0,none⟩ i];exact a
 have c:t.block<w.heap.size:=Uv b;have l:=Tryz.elemVFF ⟨w.heap.size,0,none⟩ t (((w.alloc (.cells #[.pointer (some t)] 127)).alloc (.cells #[.pointer (some ⟨5,127,none⟩),.pointer (some ⟨w.heap.size,0,none⟩),.int .u64 150] 166)).alloc (.cells #[.pointer (some ⟨5,127,none⟩),.pointer (some ⟨w.heap.size,0,none⟩),.int .u64 150] 166)) (by rw[World.cell?_alloc_lt _ _ ⟨w.heap.size,0,none⟩ (by simp;omega)];simp)
 have K:=Tryz.setF t ⟨w.heap.size+1+1+1,0,none⟩ e d ((((w.alloc (.cells #[.pointer (some t)] 127)).alloc (.cells #[.pointer (some ⟨5,127,none⟩),.pointer (some ⟨w.heap.size,0,none⟩),.int .u64 150] 166)).alloc (.cells #[.pointer (some ⟨5,127,none⟩),.pointer (some ⟨w.heap.size,0,none⟩),.int .u64 150] 166)).alloc (.cells #[.pointer (some e)] 125))
  (by rw[World.cell?_alloc_at _ _ _ _ (by simp)];rfl)
  (by rw[World.cell?_alloc_lt _ _ t (by simp;omega),World.cell?_alloc_lt _ _ t (by simp;omega),World.cell?_alloc_lt _ _ t (by simp;omega),World.cell?_alloc_lt _ _ t c];exact b)
  (by rw[World.frozen?_alloc_old _ _ t (by simp;omega),World.frozen?_alloc_old _ _ t (by simp;omega),World.frozen?_alloc_old _ _ t (by simp;omega),World.frozen?_alloc_old _ _ t (Nat.ne_of_lt c)];exact g)
 go_enter func60,ntmps60;go_wp2;refine wp_loop_rounds 1 ?_;rw[rounds_succ];go_wp2;go_ret;exact⟨rfl,rfl⟩
theorem OL(n:Int)(t:Addr)(d:Value)(w:World)(a:XJ w)(b:w.cell? t=some d)(f:w.frozen? t=false) :
 Calls prog 60 #[.iface 33 (.int .i64 n),.iface 131 (.pointer (some t))] w fun ev w'=>ev=.returned (.bool true)/\w'=((((w.alloc (.cells #[.pointer (some t)] 131)).alloc (.cells #[.pointer (some ⟨5,131,none⟩),.pointer (some ⟨w.heap.size,0,none⟩),.int .u64 150] 166)).alloc (.cells #[.pointer (some ⟨5,131,none⟩),.pointer (some ⟨w.heap.size,0,none⟩),.int .u64 150] 166)).alloc (.cells #[.int .i64 n] 33)).setCell t (.int .i64 n):=by
 unfold XJ at a;have x:=@run_callFunc_extern prog 91 _ (fun e=>ReflectliteValue.unpack (e.getD 0 (.tuple #[]))) func91 (by kernel_rfl) (by kernel_rfl) (by kernel_rfl) (by kernel_rfl);have y:=@run_callFunc_extern prog 92 _ (ReflectliteValue.methodAny (ReflectliteValue.valueError "reflectlite.Value.Type" 0) (fun t _ _ _=>ReflectliteType.toType t)) func92 (by kernel_rfl) (by kernel_rfl) (by kernel_rfl) (by kernel_rfl);have z:=@run_callFunc_extern prog 93 _ (ReflectliteValue.method (ReflectliteValue.valueError "reflectlite.Value.IsNil" 0) ReflectliteValue.isNil) func93 (by kernel_rfl) (by kernel_rfl) (by kernel_rfl) (by kernel_rfl);have r:=@run_callFunc_extern prog 317 _ (ReflectliteType.abiMethod fun t=>do pure (.int .u8 (<-Rtype.kind t))) func317 (by kernel_rfl) (by kernel_rfl) (by kernel_rfl) (by kernel_rfl);have u:=@run_callFunc_extern prog 332 _ (ReflectliteType.method ReflectliteType.elem) func332 (by kernel_rfl) (by kernel_rfl) (by kernel_rfl) (by kernel_rfl);have v:=@run_callFunc_extern prog 333 _ (ReflectliteType.relation "Implements" ReflectliteType.implements_) func333 (by kernel_rfl) (by kernel_rfl) (by kernel_rfl) (by kernel_rfl);have o:=@run_callFunc_extern prog 95 _ ReflectliteType.typeOf func95 (by kernel_rfl) (by kernel_rfl) (by kernel_rfl) (by kernel_rfl);have s:=@run_callFunc_extern prog 330 _ (ReflectliteType.relation "AssignableTo" ReflectliteType.assignableTo) func330 (by kernel_rfl) (by kernel_rfl) (by kernel_rfl) (by kernel_rfl);have p:=@run_callFunc_extern prog 144 _ (ReflectliteValue.method (ReflectliteValue.valueError "reflectlite.Value.Elem" 0) ReflectliteValue.elem) func144 (by kernel_rfl) (by kernel_rfl) (by kernel_rfl) (by kernel_rfl);have q:=@run_callFunc_extern prog 145 _ ReflectliteValue.set func145 (by kernel_rfl) (by kernel_rfl) (by kernel_rfl) (by kernel_rfl);have L:=Tryz.typeOfN;have E:=Tryz.methodAssignableTo;have i:=Tryz.assignNN;have M:=Tryz.valueOfN;have l:=Tryz.valueOfNN;have m:=Tryz.typeNN;have H:=Tryz.methodKind;have F:=Tryz.methodElem;have G:=Tryz.methodImplements;have D:=Tryz.kindNN;have C:=Tryz.kindN;have j:=Tryz.elemNN;have B:=Tryz.implementsN;have J:=Tryz.isNilNN ⟨w.heap.size,0,none⟩ t ((w.alloc (.cells #[.pointer (some t)] 131)).alloc (.cells #[.pointer (some ⟨5,131,none⟩),.pointer (some ⟨w.heap.size,0,none⟩),.int .u64 150] 166)) (by simp);have g:0<w.heap.size:=Uv a
 have A:((w.alloc (.cells #[.pointer (some t)] 131)).alloc (.cells #[.pointer (some ⟨5,131,none⟩),.pointer (some ⟨w.heap.size,0,none⟩),.int .u64 150] 166)).cell? ⟨0,0,none⟩=some (.iface 238 (.agg #[.pointer (some ⟨5,84,none⟩)])):=by
  rw[World.cell?_alloc_lt _ _ ⟨0,0,none⟩ (by simp),World.cell?_alloc_lt _ _ ⟨0,0,none⟩ g];exact a
 have c:t.block<w.heap.size:=Uv b;have k:=Tryz.elemVNN ⟨w.heap.size,0,none⟩ t (((w.alloc (.cells #[.pointer (some t)] 131)).alloc (.cells #[.pointer (some ⟨5,131,none⟩),.pointer (some ⟨w.heap.size,0,none⟩),.int .u64 150] 166)).alloc (.cells #[.pointer (some ⟨5,131,none⟩),.pointer (some ⟨w.heap.size,0,none⟩),.int .u64 150] 166)) (by rw[World.cell?_alloc_lt _ _ ⟨w.heap.size,0,none⟩ (by simp;omega)];simp)
 have K:=Tryz.setN t ⟨w.heap.size+1+1+1,0,none⟩ n d ((((w.alloc (.cells #[.pointer (some t)] 131)).alloc (.cells #[.pointer (some ⟨5,131,none⟩),.pointer (some ⟨w.heap.size,0,none⟩),.int .u64 150] 166)).alloc (.cells #[.pointer (some ⟨5,131,none⟩),.pointer (some ⟨w.heap.size,0,none⟩),.int .u64 150] 166)).alloc (.cells #[.int .i64 n] 33))
  (by rw[World.cell?_alloc_at _ _ _ _ (by simp)];rfl)
  (by rw[World.cell?_alloc_lt _ _ t (by simp;omega),World.cell?_alloc_lt _ _ t (by simp;omega),World.cell?_alloc_lt _ _ t (by simp;omega),World.cell?_alloc_lt _ _ t c];exact b)
  (by rw[World.frozen?_alloc_old _ _ t (by simp;omega),World.frozen?_alloc_old _ _ t (by simp;omega),World.frozen?_alloc_old _ _ t (by simp;omega),World.frozen?_alloc_old _ _ t (Nat.ne_of_lt c)];exact f)
 go_enter func60,ntmps60;go_wp2;refine wp_loop_rounds 1 ?_;rw[rounds_succ];go_wp2;go_ret;exact⟨rfl,rfl⟩
theorem OM(n:Int)(t:Addr)(w:World)(a:XJ w) :
 Calls prog 60 #[.iface 33 (.int .i64 n),.iface 127 (.pointer (some t))] w fun ev w'=>ev=.returned (.bool false)/\w'=(((w.alloc (.cells #[.pointer (some t)] 127)).alloc (.cells #[.pointer (some ⟨5,127,none⟩),.pointer (some ⟨w.heap.size,0,none⟩),.int .u64 150] 166)).alloc (.cells #[.pointer (some ⟨5,127,none⟩),.pointer (some ⟨w.heap.size,0,none⟩),.int .u64 150] 166)):=by
 unfold XJ at a;have o:=@run_callFunc_extern prog 91 _ (fun b=>ReflectliteValue.unpack (b.getD 0 (.tuple #[]))) func91 (by kernel_rfl) (by kernel_rfl) (by kernel_rfl) (by kernel_rfl);have p:=@run_callFunc_extern prog 92 _ (ReflectliteValue.methodAny (ReflectliteValue.valueError "reflectlite.Value.Type" 0) (fun t _ _ _=>ReflectliteType.toType t)) func92 (by kernel_rfl) (by kernel_rfl) (by kernel_rfl) (by kernel_rfl);have q:=@run_callFunc_extern prog 93 _ (ReflectliteValue.method (ReflectliteValue.valueError "reflectlite.Value.IsNil" 0) ReflectliteValue.isNil) func93 (by kernel_rfl) (by kernel_rfl) (by kernel_rfl) (by kernel_rfl);have j:=@run_callFunc_extern prog 317 _ (ReflectliteType.abiMethod fun t=>do pure (.int .u8 (<-Rtype.kind t))) func317 (by kernel_rfl) (by kernel_rfl) (by kernel_rfl) (by kernel_rfl);have l:=@run_callFunc_extern prog 332 _ (ReflectliteType.method ReflectliteType.elem) func332 (by kernel_rfl) (by kernel_rfl) (by kernel_rfl) (by kernel_rfl);have m:=@run_callFunc_extern prog 333 _ (ReflectliteType.relation "Implements" ReflectliteType.implements_) func333 (by kernel_rfl) (by kernel_rfl) (by kernel_rfl) (by kernel_rfl);have i:=@run_callFunc_extern prog 95 _ ReflectliteType.typeOf func95 (by kernel_rfl) (by kernel_rfl) (by kernel_rfl) (by kernel_rfl);have k:=@run_callFunc_extern prog 330 _ (ReflectliteType.relation "AssignableTo" ReflectliteType.assignableTo) func330 (by kernel_rfl) (by kernel_rfl) (by kernel_rfl) (by kernel_rfl);have F:=Tryz.typeOfN;have x:=Tryz.methodAssignableTo;have d:=Tryz.assignNF;have f:=Tryz.valueOfFF;have g:=Tryz.typeFF;have A:=Tryz.methodKind;have y:=Tryz.methodElem;have z:=Tryz.methodImplements;have v:=Tryz.kindFF;have u:=Tryz.kindF;have e:=Tryz.elemFF;have s:=Tryz.implementsF;have C:=Tryz.noAsN;have D:=Tryz.noUnwrapN;have E:=Tryz.noUnwrapsN;have B:=Tryz.isNilFF ⟨w.heap.size,0,none⟩ t ((w.alloc (.cells #[.pointer (some t)] 127)).alloc (.cells #[.pointer (some ⟨5,127,none⟩),.pointer (some ⟨w.heap.size,0,none⟩),.int .u64 150] 166)) (by simp);have c:0<w.heap.size:=Uv a
 have r:((w.alloc (.cells #[.pointer (some t)] 127)).alloc (.cells #[.pointer (some ⟨5,127,none⟩),.pointer (some ⟨w.heap.size,0,none⟩),.int .u64 150] 166)).cell? ⟨0,0,none⟩=some (.iface 238 (.agg #[.pointer (some ⟨5,84,none⟩)])):=by
  rw[World.cell?_alloc_lt _ _ ⟨0,0,none⟩ (by simp),World.cell?_alloc_lt _ _ ⟨0,0,none⟩ c];exact a
 go_enter func60,ntmps60;go_wp2;refine wp_loop_rounds 1 ?_;rw[rounds_succ];go_wp2;go_ret;exact⟨rfl,rfl⟩
def Bh(t:TypeId):Sem Value:=do Rtype.noPackHeld "Comparable" t;pure (.bool (<-typeInfo t).comparable)
theorem Tryz.cmpN(w:World):(ReflectliteType.method Bh #[.agg #[.pointer (some ⟨5,33,none⟩)]]).run prog w=.ok (.bool true) w:=by kernel_rfl
theorem ON(n:Int)(w:World) :
 Calls prog 61 #[.iface 33 (.int .i64 n),.iface 33 (.int .i64 n)] w fun e w'=>e=.returned (.bool true)/\w'=w:=by
 have c:=@run_callFunc_extern prog 95 _ ReflectliteType.typeOf func95 (by kernel_rfl) (by kernel_rfl) (by kernel_rfl) (by kernel_rfl);have b:=@run_callFunc_extern prog 331 _ (ReflectliteType.method Bh) func331 (by kernel_rfl) (by kernel_rfl) (by kernel_rfl) (by kernel_rfl);have g:=Tryz.typeOfN;have a:=Tryz.cmpN;have f:=Tryz.methodComparable;have d:=DB n w;go_enter func61,ntmps61;go_wp2;refine wp_loop_rounds 1 ?_;rw[rounds_succ];go_wp2;go_ret;exact⟨rfl,rfl⟩
theorem OO(a:Nat)(n:Int)(w:World)(c:w.cell? ⟨a,0,none⟩=some (.int .i64 n)) :
 Calls prog 61 #[.iface 125 (.pointer (some ⟨a,0,none⟩)),.iface 33 (.int .i64 n)] w fun e w'=>e=.returned (.bool true)/\w'=w:=by
 have f:=@run_callFunc_extern prog 95 _ ReflectliteType.typeOf func95 (by kernel_rfl) (by kernel_rfl) (by kernel_rfl) (by kernel_rfl);have d:=@run_callFunc_extern prog 331 _ (ReflectliteType.method Bh) func331 (by kernel_rfl) (by kernel_rfl) (by kernel_rfl) (by kernel_rfl);have m:=Tryz.typeOfN;have b:=Tryz.cmpN;have j:=Tryz.methodComparable;have l:=Tryz.noIsF;have o:=Tryz.hasUnwrapF;have k:=Tryz.methodUnwrap;have g:=DB n w;have i:=run_eql_iface_types (P:=prog) 125 33 (.pointer (some ⟨a,0,none⟩)) (.int .i64 n) underlying84 (by decide) w;go_enter func61,ntmps61;go_wp2;refine wp_loop_rounds 2 ?_;rw[rounds_succ];go_wp2;rw[rounds_succ];go_wp2;go_ret;exact⟨rfl,rfl⟩
theorem OP(w:World):Calls prog 37 #[.nilIface] w fun e w'=>e=.returned (.tuple #[.int .i64 0,.int .i64 (-1)])/\Below w.heap.size w w':=by
 go_enter func37,ntmps37;go_wp2;refine bodyPost_ret (v:=.tuple #[.int .i64 0,.int .i64 (-1)]) (by simp[results,results37,go_sem]) rfl ?_;exact⟨rfl,(Qs _).alloc (by simp) _⟩
theorem DC{t:Addr}(b c d e:Obj)(v:Value):Mod t.block w (((((w.alloc b).alloc c).alloc d).alloc e).setCell t v):=by
 have h:=((((Mod.refl t.block w).alloc b).alloc c).alloc d).alloc e;exact⟨h.os,h.tape,h.output,by simpa using h.size,fun k f a=>by rw[Below.heap_setCell _ _ _ _ a];exact h.block k f a⟩
theorem DD{t:Addr}{b:Value}(a:w.cell? t=some b)(d e f g:Obj)(v:Value):(((((w.alloc d).alloc e).alloc f).alloc g).setCell t v).cell? t=some v:=by
 have c:t.block<w.heap.size:=Uv a;refine World.cell?_setCell_same _ _ _ (?_:_=some b);rw[World.cell?_alloc_lt _ _ t (by simp;omega),World.cell?_alloc_lt _ _ t (by simp;omega),World.cell?_alloc_lt _ _ t (by simp;omega),World.cell?_alloc_lt _ _ t c];exact a
theorem OQ(e t:Addr)(b:Value)(w:World)(d:XJ w)(a:w.cell? t=some b)(c:w.frozen? t=false) :
 Calls prog 60 #[.iface 125 (.pointer (some e)),.iface 127 (.pointer (some t))] w fun ev w'=>ev=.returned (.bool true)/\Mod t.block w w'/\w'.cell? t=some (.pointer (some e)):=by
 refine(OK e t b w d a c).mono ?_;rintro ev w' ⟨rfl,rfl⟩;exact⟨rfl,DC _ _ _ _ _,DD a _ _ _ _ _⟩
theorem OR(n:Int)(t:Addr)(b:Value)(w:World)(d:XJ w)(a:w.cell? t=some b)(c:w.frozen? t=false) :
 Calls prog 60 #[.iface 33 (.int .i64 n),.iface 131 (.pointer (some t))] w fun ev w'=>ev=.returned (.bool true)/\Mod t.block w w'/\w'.cell? t=some (.int .i64 n):=by
 refine(OL n t b w d a c).mono ?_;rintro ev w' ⟨rfl,rfl⟩;exact⟨rfl,DC _ _ _ _ _,DD a _ _ _ _ _⟩
theorem OS(n:Int)(t:Addr)(w:World)(a:XJ w) :
 Calls prog 60 #[.iface 33 (.int .i64 n),.iface 127 (.pointer (some t))] w fun ev w'=>ev=.returned (.bool false)/\Below w.heap.size w w':=by
 refine(OM n t w a).mono ?_;rintro ev w' ⟨rfl,rfl⟩;exact⟨rfl,((Qs _).alloc (by simp) _).alloc (by simp;omega) _⟩
theorem XJ.below(h:XJ w)(a:Below w.heap.size w w'):XJ w':=by
 unfold XJ at h ⊢;rw[a.cell (p:=⟨0,0,none⟩) (Uv h)];exact h
theorem XJ.alloc{w:World}(h:XJ w)(o:Obj):XJ (w.alloc o):=h.below (Qs _)
theorem OT(a:Nat)(n pos:Int)(w:World)(j:XJ w)(f:w.cell? ⟨a,0,none⟩=some (.int .i64 n))(g:w.cell? ⟨a,1,none⟩=some (.int .i64 pos)) :
 Calls prog 37 #[.iface 125 (.pointer (some ⟨a,0,none⟩))] w fun e w'=>e=.returned (.tuple #[.int .i64 n,.int .i64 pos])/\Below w.heap.size w w':=by
 have i:a<w.heap.size:=Uv f;have r:=I j;have m:=I f;have q:=I g;clear j f g;go_enter func37,ntmps37;go_wp2_with fail;refine(OQ ⟨a,0,none⟩ ⟨w.heap.size,0,none⟩ (.pointer none) _ ((r.o.alloc _).alloc _) (by simp) (by simp)).mono ?_;rintro e d ⟨rfl,l,x⟩;have b:Mod w.heap.size ((w.alloc (.cells #[.pointer none] 125)).alloc (.cells #[.int .i64 0] 33)) d:=l
 have s:d.cell? ⟨a,0,none⟩=some (.int .i64 n):=by
  rw[b.cell (p:=⟨a,0,none⟩) (by simp;omega) (by simp;omega),World.cell?_alloc_lt _ _ ⟨a,0,none⟩ (by simp;omega),World.cell?_alloc_lt _ _ ⟨a,0,none⟩ i];exact m.o
 have u:d.cell? ⟨a,1,none⟩=some (.int .i64 pos):=by
  rw[b.cell (p:=⟨a,1,none⟩) (by simp;omega) (by simp;omega),World.cell?_alloc_lt _ _ ⟨a,1,none⟩ (by simp;omega),World.cell?_alloc_lt _ _ ⟨a,1,none⟩ i];exact q.o
 have c:Hid (Below w.heap.size w d):=by
  refine⟨b.os,b.tape,b.output,?_,fun k t=>?_⟩
  ·have:=b.size;simp at this;omega
  ·rw[b.block k (by simp;omega) (by omega),Below.heap_alloc _ _ _ (by simp;omega),Below.heap_alloc _ _ _ t]
 clear l b;go_wp2_with fail;refine(OO a n d s).mono ?_;rintro e y ⟨rfl,rfl⟩;go_wp2_with fail;go_quiet (fail);go_wp2;refine bodyPost_ret (v:=.tuple #[.int .i64 n,.int .i64 pos]) (by simp[results,results37,go_sem]) rfl ?_;exact⟨rfl,c.o.os,c.o.tape,c.o.output,c.o.size,c.o.block⟩
theorem OU(n:Int)(w:World)(f:XJ w) :
 Calls prog 37 #[.iface 33 (.int .i64 n)] w fun e w'=>e=.returned (.tuple #[.int .i64 n,.int .i64 (-1)])/\Below w.heap.size w w':=by
 have d:=I f;clear f;go_enter func37,ntmps37;go_wp2_with fail;refine(OS n ⟨w.heap.size,0,none⟩ _ ((d.o.alloc _).alloc _)).mono ?_;rintro e c ⟨rfl,a⟩
 have m:c.cell? ⟨w.heap.size+1,0,none⟩=some (.int .i64 0):=by
  rw[a.cell (p:=⟨w.heap.size+1,0,none⟩) (by simp)];simp
 have q:c.frozen? ⟨w.heap.size+1,0,none⟩=false:=by
  rw[a.frozen (p:=⟨w.heap.size+1,0,none⟩) (by simp)];simp
 have l:=I (((d.o.alloc (.cells #[.pointer none] 125)).alloc (.cells #[.int .i64 0] 33)).below a);have r:=a.size;have j:Hid (Below w.heap.size w c):=((Qs (.cells #[.pointer none] 125)).alloc (by simp) (.cells #[.int .i64 0] 33)).trans (a.mono (by simp;omega));clear a;simp at r;go_wp2_with fail;refine(OR n ⟨w.heap.size+1,0,none⟩ (.int .i64 0) c l.o m q).mono ?_;rintro e i ⟨rfl,g,s⟩;have k:Hid (Below w.heap.size w i):=j.o.trans (Mod.below (b:=w.heap.size+1) g (by omega) (by omega));clear g;go_wp2_with fail;refine(ON n i).mono ?_;rintro e t ⟨rfl,rfl⟩;go_wp2;refine bodyPost_ret (v:=.tuple #[.int .i64 n,.int .i64 (-1)]) (by simp[results,results37,go_sem]) rfl ?_;exact⟨rfl,k.o⟩
end
section
open Go.RowKit
attribute [local go_sem ↓] Go.wp_at_zero Go.wp_at_succ
theorem OV(t:ByteArray)(w:World)(c:600<t.size) :
 Calls prog 36 #[.string t] w fun e w'=>e=.returned (.tuple #[.pointer none,.iface 33 (.int .i64 1)])/\Below w.heap.size w w':=by
 go_enter func36,ntmps36;go_wp2_with fail;refine(OH t w c).mono ?_;rintro e f ⟨rfl,a⟩;have b:=I a;have d:=a.size;clear a;go_wp2;refine bodyPost_ret (v:=.tuple #[.pointer none,.iface 33 (.int .i64 1)]) (by simp[results,results36,go_sem]) rfl ?_;exact⟨rfl,b.o.alloc d _⟩
def PP(t:ByteArray)(w:World)(e:Ending)(w':World):Prop:=
 Below w.heap.size w w'∧((600 < t.size∧e=.returned (.tuple #[.pointer none,.int .i64 1,.int .i64 (-1)]))∨
  (t.size<=600/\∃ y g rv lv,prL t.data.toList=.ok y/\e=.returned (.tuple #[.pointer (some ⟨g,0,none⟩),.int .i64 0,.int .i64 (-1)])/\w.heap.size<=g/\w'.heap[g]?=some (.cells #[rv,lv] 124)/\Y0 (fromB w.heap.size) y.1 w' rv/\blX (fromB w.heap.size) (XS 7) y.2 w' lv)\/
  (t.size<=600∧∃ f,prL t.data.toList=.error f∧e=.returned (.tuple #[.pointer none,.int .i64 f.err,.int .i64 f.pos])))
theorem OW(t:ByteArray)(w:World)(S:∃ m,w.cell? ⟨1,0,none⟩=some (.int .i64 m))(D:XJ w) :
 Calls prog 19 #[.string t] w (PP t w):=by
 have u:=I D;clear D;rcases Nat.lt_or_ge 600 t.size with ht|ht
 ·go_enter func19,ntmps19;go_wp2_with fail;refine(OV t w ht).mono ?_;rintro e i ⟨rfl,c⟩;have d:=I c;have l:=c.size;clear c;go_wp2_with fail;refine(OU 1 i (u.o.below d.o)).mono ?_;rintro e s ⟨rfl,b⟩;have j:=I (d.o.trans (b.mono l));clear b;go_wp2;refine bodyPost_ret (v:=.tuple #[.pointer none,.int .i64 1,.int .i64 (-1)]) (by simp[results,results19,go_sem]) rfl ?_;exact⟨j.o,Qd ⟨ht,rfl⟩⟩
 ·go_enter func19,ntmps19;go_wp2_with fail;refine(OJ t w ht S).mono ?_;rintro e i ⟨c,⟨y,g,U,T,F,rfl,G,B,E,A⟩ | ⟨f,p,C,rfl,G,q⟩⟩
  ·have d:=I c;have l:=c.size;have R:=I F;have n:=I B;have P:=I E;have H:=I A;clear c F B E A;go_wp2_with fail;refine(OP i).mono ?_;rintro e s ⟨rfl,b⟩;have j:=I (d.o.trans (b.mono l));have V:=I (World.cell?_of_block (w:=i) (w':=s) (a:=⟨g,0,none⟩) (b.block g (Qh n.o)));have N:=I (b.block g (Qh n.o));have Q:=I (P.o.keep (fun k _ r=>b.block k r));have J:=I (H.o.keep (Xf 7) (fun k _ r=>b.block k r));clear b;go_wp2;refine bodyPost_ret (v:=.tuple #[.pointer (some ⟨g,0,none⟩),.int .i64 0,.int .i64 (-1)]) (by simp[results,results19,go_sem]) rfl ?_;exact⟨j.o,Qc (Qd ⟨ht,y,g,U,T,R.o,rfl,G,by rw[N.o];exact n.o,Q.o,J.o⟩)⟩
  ·have d:=I c;have l:=c.size;have M:=I C;have x:=Qj q;have z:=Qo q;have K:=I x;have L:=I z;clear c C q x z;go_wp2_with fail;refine(OT p f.err f.pos i (u.o.below d.o) K.o L.o).mono ?_;rintro e s ⟨rfl,b⟩;have j:=I (d.o.trans (b.mono l));clear b;go_wp2;refine bodyPost_ret (v:=.tuple #[.pointer none,.int .i64 f.err,.int .i64 f.pos]) (by simp[results,results19,go_sem]) rfl ?_;exact⟨j.o,Qc (Qc ⟨ht,f,M.o,rfl⟩)⟩
end
end Go.Proofs.YtgnkjijocdmniaaGreatDoor
